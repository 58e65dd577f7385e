import PyProof.Rows.All
import Wide.All
import OpenK.AllK
import Wide.FinOn
import Lean
import PyProof.EqAt
import PyProof.EqKinds
import PyProof.TupleCall
import PyProof.NeKinds
import PyProof.Draws
import PyProof.ZipIter
import PyProof.DictUpdate
import PyProof.AutoSeq1
import PyProof.ListRange
import PyProof.ListMulRoad
import PyProof.FactsAll.tuple_2
import PyProof.Rows.SortShell
import PyProof.EnumFor
import PyProof.EnumMake
import PyProof.EnumStmt
import PyProof.Rows.SortWalk
import KE.KDictList
import PyProof.SumAny
import PyProof.ConsumeWalk
import PyProof.WalksMore
import PyProof.Rows.TupAssign
import PyProof.ExcArgsOwn
import PySem.Challenge.RW_kindleweb_k60_whole_outlines
set_option Elab.async false
set_option linter.all false
set_option maxRecDepth 100000
set_option maxHeartbeats 4000000
section
open PySem PySem.Spec PyProof.Rows
noncomputable def aW2:=@wpAny_bind
noncomputable def aW4:=@Heap.get?_push_of_some
noncomputable def aW5:=@List.length_map
noncomputable def aW6:=@decide_eq_false
noncomputable def aW7:=@wpAny_pure
noncomputable def aW8:=@Int.le_refl
noncomputable def aW9:=@List.mem_cons
noncomputable def aX0:=@List.mem_cons_of_mem
noncomputable def aX1:=@List.getElem?_map
noncomputable def aX2:=@decide_eq_true
noncomputable def aX3:=@List.mem_cons_self
noncomputable def aX4:=@List.mem_singleton
noncomputable def aX5:=@Nat.le_refl
noncomputable def aX6:=@wpS_bind
noncomputable def aX7:=@List.getElem?_eq_some_iff
noncomputable def aX8:=@Heap.lt_size
noncomputable def aX9:=@List.not_mem_nil
noncomputable def aY0:=@Heap.get?_push_size
noncomputable def aY1:=@List.getElem?_eq_getElem
noncomputable def aY2:=@List.size_toArray
noncomputable def aY3:=@wpS_pure
noncomputable def aY4:=@Nat.lt_of_lt_of_le
noncomputable def aY5:=@List.append_assoc
noncomputable def aY7:=@decide_eq_true_eq
noncomputable def aY8:=@List.map_cons
noncomputable def aY9:=@Bool.false_ne_true
noncomputable def aZ0:=@Option.some.inj
noncomputable def aZ1:=@List.map_append
noncomputable def aZ2:=@Bool.false_eq_true
noncomputable def aZ3:=@List.length_append
noncomputable def aZ4:=@List.getElem?_set_ne
noncomputable def aZ5:=@List.mem_append_right
noncomputable def aZ6:=@Nat.ne_of_lt
noncomputable def aZ8:=@Nat.le_trans
noncomputable def aZ9:=@List.take_add_one
noncomputable def ba0:=@List.length_cons
noncomputable def ba1:=@List.mem_filter
noncomputable def ba2:=@List.mem_append
noncomputable def ba3:=@List.mem_map
noncomputable def ba4:=@List.getElem?_cons_succ
noncomputable def ba5:=@List.pairwise_append
noncomputable def ba6:=@List.take_length
noncomputable def ba7:=@List.take_append_drop
noncomputable def ba8:=@List.getD_eq_getElem?_getD
noncomputable def ba9:=@Array.getElem_mem
noncomputable def bb0:=@Bool.and_eq_true
noncomputable def bb1:=@List.mem_append_left
noncomputable def bb2:=@wpAny_newObj_type
noncomputable def bb3:=@or_false
noncomputable def bb4:=@List.nodup_cons
noncomputable def bb5:=@List.map_map
noncomputable def bb6:=@Int.le_trans
noncomputable def bb7:=@List.append_nil
noncomputable def bc0:=@PySem.mem_of_lookup
noncomputable def bc3:=@List.sum_cons
noncomputable def bc4:=@List.length_singleton
noncomputable def bc5:=@Nat.lt_or_ge
noncomputable def bc6:=@wpAny_field
noncomputable def bc7:=@wpAny_callSpecial?_slot
noncomputable def bc9:=@Bool.eq_iff_iff
noncomputable def bd0:=@wpAny_call_entry
noncomputable def bd1:=@List.lookup_cons
noncomputable def bd2:=@List.mem_of_getElem?
noncomputable def bd3:=@of_decide_eq_true
noncomputable def bd4:=@Around.under_plainId
noncomputable def bd6:=@wpAny_setField_rec
noncomputable def bd7:=@List.perm_append_comm
noncomputable def bd8:=@Array.toList_append
noncomputable def be0:=@Heap.size_push
noncomputable def be1:=@wpAny_seqItems
noncomputable def be2:=@List.pairwise_singleton
noncomputable def be3:=@Nat.lt_irrefl
noncomputable def be4:=@if_false
noncomputable def be5:=@List.pairwise_iff_getElem
noncomputable def be6:=@wpAny_mono
noncomputable def be8:=@wpS_forRange
noncomputable def be9:=@PySem.W.kia_one
noncomputable def bf0:=@Nat.zero_le
noncomputable def bf2:=@wpAny_truthy_bool
noncomputable def bf3:=@Nat.ne_of_gt
noncomputable def bf6:=@wpAny_loadPart'
noncomputable def bf7:=@wpAny_holding
noncomputable def bf8:=@List.find?_cons
noncomputable def bf9:=@List.length_set
noncomputable def bg0:=@List.getElem?_set_self
noncomputable def bg1:=@beq_self_eq_true
noncomputable def bg2:=@Nat.le_add_right
noncomputable def bg3:=@List.filter_cons
noncomputable def bg4:=@PySem.F.plain_min_loop
noncomputable def bg5:=@PySem.F.plain_max_loop
noncomputable def bg6:=@List.pairwise_map
noncomputable def bg7:=@List.nodup_append
noncomputable def bg8:=@Heap.get?_update_self
noncomputable def bg9:=@codeAny_builtin
noncomputable def bh0:=@List.zip_cons_cons
noncomputable def bh1:=@wpAny_pyIter_tuple
noncomputable def bh3:=@decide_eq_false_iff_not
noncomputable def bh4:=@plainId_quiet
noncomputable def bh5:=@List.take_of_length_le
noncomputable def bh7:=@Array.length_toList
noncomputable def bh8:=@List.getElem_of_mem
noncomputable def bh9:=@wpAny_letGo
noncomputable def bi0:=@PyProof.Rows.slot_tuple_getitem
noncomputable def bi1:=@List.getElem?_append_left
noncomputable def bi2:=@List.drop_eq_getElem_cons
noncomputable def bi3:=@List.length_take
noncomputable def bi4:=@of_decide_eq_false
noncomputable def bi5:=@List.all_eq_true
noncomputable def bi8:=@List.getElem?_of_mem
noncomputable def bi9:=@List.Pairwise.nil
noncomputable def bj0:=@List.length_nil
noncomputable def bj1:=@Nat.le_of_lt
noncomputable def bj2:=@PyProof.Rows.callWith_type1
noncomputable def bj3:=@Heap.get?_update_other
noncomputable def bj4:=@List.getElem_mem
noncomputable def bj6:=@List.getElem?_append_right
noncomputable def bj7:=@Prod.ext
noncomputable def bj8:=@tupleKind_room_in1
noncomputable def bj9:=@Nat.eq_or_lt_of_le
noncomputable def bk0:=@List.Perm.refl
noncomputable def bk1:=@wpAny_tryCatch
noncomputable def bk3:=@List.Perm.append_left
noncomputable def bk4:=@Array.getElem?_toList
noncomputable def bk5:=@wpAny_passesOwn
noncomputable def bk6:=@wpAny_updateSeq
noncomputable def bk8:=@wpS_mono
noncomputable def bk9:=@List.mem_of_mem_take
noncomputable def bl2:=@wpAny_rule
noncomputable def bl3:=@List.nodup_nil
noncomputable def bl5:=@List.drop_take
noncomputable def bl8:=@True.intro
end
namespace L2
open PySem PySem.Spec PyProof.Rows
noncomputable abbrev aH:=Sum Int Str
noncomputable def lH:aH->Value->Bool
 | .inl k,v=>Value.isInt k v
 | .inr x,v=>Value.isStrOf x v
noncomputable def aa4 (w:World):aH->Int
 | .inl k=>hashInt k
 | .inr x=>hashStr w x
theorem iD:∀ {k:aH}{v:Value},lH k v=true->(∃ i t,k=Sum.inl i/\v=Value.int i t) ∨ (∃ x t,k=Sum.inr x/\v=Value.str x t)
 | .inl i,v,h=>by
  obtain ⟨t,e⟩:=Value.isInt_shape (k:=i) (v:=v) h
  exact .inl ⟨i,t,rfl,e⟩
 | .inr x,v,h=>by
  obtain ⟨t,e⟩:=Value.isStrOf_shape (x:=x) (v:=v) h
  exact .inr ⟨x,t,rfl,e⟩
theorem aa5 (i:Int) (t:Tok):lH (.inl i) (.int i t)=true:=by simp [lH,Value.isInt]
theorem aa6 (x:Str) (t:Tok):lH (.inr x) (.str x t)=true:=by simp [lH,Value.isStrOf]
theorem aa7 (a b:Int):decide ((Sum.inl a:aH)=Sum.inl b)=(a == b):=by
 by_cases e:a=b
 ·subst e; simp
 ·have h : ¬ (Sum.inl a:aH)=Sum.inl b:=fun q=>e (Sum.inl.inj q)
  rw [aW6 h]
  exact (beq_eq_false_iff_ne.mpr e).symm
theorem aa8 (a b:Str):decide ((Sum.inr a:aH)=Sum.inr b)=decide (a=b):=by
 by_cases e:a=b
 ·subst e; simp
 ·have h : ¬ (Sum.inr a:aH)=Sum.inr b:=fun q=>e (Sum.inr.inj q)
  rw [aW6 h,aW6 e]
theorem aa9 (a:Int) (b:Str):decide ((Sum.inl a:aH)=Sum.inr b)=false:=aW6 (fun q=>nomatch q)
theorem ab0 (a:Str) (b:Int):decide ((Sum.inr a:aH)=Sum.inl b)=false:=aW6 (fun q=>nomatch q)
noncomputable def eI (prog:Program) (w:World):PySem.KeyKind prog w aH where
 is:=lH
 hash:=aa4 w
 inj:=fun v a b ha hb=>by
  rcases iD ha with ⟨i,t,rfl,rfl⟩ | ⟨x,t,rfl,rfl⟩
  ·rcases iD hb with ⟨j,u,rfl,e⟩ | ⟨y,u,rfl,e⟩
   ·injection e with e1 _; rw [e1]
   ·exact nomatch e
  ·rcases iD hb with ⟨j,u,rfl,e⟩ | ⟨y,u,rfl,e⟩
   ·exact nomatch e
   ·injection e with e1 _; rw [e1]
 byValue:=fun k v h=>by
  rcases iD h with ⟨i,t,rfl,rfl⟩ | ⟨x,t,rfl,rfl⟩ <;> rfl
 pyHash:=fun hv h=>by
  rcases iD hv with ⟨i,t,rfl,rfl⟩ | ⟨x,t,rfl,rfl⟩
  ·exact wpAny_pyHash_int h
  ·exact wpAny_pyHash_str h
 eqBool:=fun hu hv h=>by
  rcases iD hu with ⟨i,t,rfl,rfl⟩ | ⟨x,t,rfl,rfl⟩
  ·rcases iD hv with ⟨j,u,rfl,rfl⟩ | ⟨y,u,rfl,rfl⟩
   ·rw [aa7] at h; exact wpAny_eqBool_int h
   ·rw [aa9] at h; exact SeqAt.EqAt.int_str i t y u _ _ _ _ h
  ·rcases iD hv with ⟨j,u,rfl,rfl⟩ | ⟨y,u,rfl,rfl⟩
   ·rw [ab0] at h; exact SeqAt.EqAt.str_int x t j u _ _ _ _ h
   ·rw [aa8] at h; exact wpAny_eqBool_str h
 «strs»:=fun k x t v h=>by
  rcases iD h with ⟨i,u,rfl,e⟩ | ⟨y,u,rfl,e⟩
  ·exact nomatch e
  ·injection e with e1 _
   subst e1
   cases v <;> rfl
theorem ab1 (prog:Program) (w:World) (i:Int) (t:Tok):(eI prog w).is (.inl i) (.int i t)=true:=aa5 i t
theorem ab2 (prog:Program) (w:World) (x:Str) (t:Tok):(eI prog w).is (.inr x) (.str x t)=true:=aa6 x t
inductive V where
 | non | bl (b:Bool) | int (i:Int) | str (x:Str) | byt (b:Array UInt8) | flt (b:UInt64) | ref (a:Addr) | ty (n:String)
 deriving DecidableEq
noncomputable def aP:V->Value->Prop
 | .non,u=>u=Value.none
 | .bl b,u=>u=Value.bool b
 | .int i,u=>∃ t,u=Value.int i t
 | .str x,u=>∃ t,u=Value.str x t
 | .byt b,u=>∃ t,u=Value.bytes b t
 | .flt b,u=>∃ t,u=Value.float b t
 | .ref a,u=>u=Value.ref a
 | .ty n,u=>u=Value.type n
noncomputable abbrev aQ:List V->List Value->Prop:=Paired aP
theorem aQ.length {xs:List V}{us:List Value} (r:aQ xs us):xs.length=us.length:=Paired.length r
theorem aQ.get:∀ {xs:List V}{us:List Value}{i:Nat}{x:V},aQ xs us->xs[i]? = some x->∃ u,us[i]? = some u/\aP x u
 | _,_,_,_,.nil,e=>by simp at e
 | _,_,0,_,.cons r _,e=>by simp at e; subst e; exact⟨_,rfl,r⟩
 | _,_,i+1,x,.cons _ t,e=>by
  obtain ⟨u,h1,h2⟩:=aQ.get (i:=i) (x:=x) t (by simpa using e)
  exact⟨u,by simpa using h1,h2⟩
theorem aQ.append:∀ {xs ys:List V}{us ws:List Value},aQ xs us->aQ ys ws->aQ (xs ++ ys) (us ++ ws)
 | _,_,_,_,.nil,s=>s
 | _,_,_,_,.cons r t,s=>.cons r (aQ.append t s)
theorem aQ.take:∀ {xs:List V}{us:List Value} (n:Nat),aQ xs us->aQ (xs.take n) (us.take n)
 | _,_,0,_=>.nil
 | _,_,_+1,.nil=>.nil
 | _,_,n+1,.cons r t=>.cons r (aQ.take n t)
theorem aQ.drop:∀ {xs:List V}{us:List Value} (n:Nat),aQ xs us->aQ (xs.drop n) (us.drop n)
 | _,_,0,r=>r
 | _,_,_+1,.nil=>.nil
 | _,_,n+1,.cons _ t=>aQ.drop n t
noncomputable def fY:Option V->Option Value->Prop
 | some v,some u=>aP v u
 | none,none=>True
 | _,_=>False
noncomputable def KV {κ:Type}:List (κ × V)->List (κ × Value)->Prop:=Paired fun (p:κ × V) (q:κ × Value)=>p.1=q.1/\aP p.2 q.2
noncomputable def kV:aH->V
 | .inl i=>.int i
 | .inr x=>.str x
inductive HO where
 | lst (xs:List V)
 | tup (xs:List V)
 | dK (kvs:List (aH × V)) | dT (kvs:List (List aH × V))
 | set (S:Int->Bool) (n:Nat)
 | ins (C dx:Addr) (fs:List (Str × V))
 | own (x:Addr)
 | xd (fs:List (Str × V))
 | met (f x:Addr)
 | rng (lo hi:Int)
 | frz (o:Obj) (u:HO)
 | tbl (ps:Array Value)
 | ext (φ:Heap->Prop)
noncomputable abbrev Hp:=Addr->Option HO
noncomputable def upd (H:Hp) (a:Addr) (o:HO):Hp:=fun b=>if b=a then some o else H b
theorem b9 {H:Hp}{a:Addr}{o:HO}:upd H a o a=some o:=by unfold upd; rw [if_pos rfl]
theorem aF {H:Hp}{a b:Addr}{o:HO} (h:b ≠ a):upd H a o b=H b:=by unfold upd; rw [if_neg h]
theorem xE {H:Hp}{a b:Addr}{o u:HO} (h:H a=some o) (h':H b=some u) (d:o ≠ u):a ≠ b:=by
 intro e; subst e; rw [h] at h'; exact d (aZ0 h')
theorem cZ {H:Hp}{a b:Addr}{o:HO} (h:H a=some o) (h':H b=none):a ≠ b:=by
 intro e; subst e; rw [h] at h'; cases h'
noncomputable def iS (h:Heap) (a:Addr):Prop:=∀ o,h.get? a=some o->o.dict=none
theorem iS.new (h:Heap) (o:Obj) (d:o.dict=none) (s:o.isFreed=false:=by rfl):iS (h.push o) h.objs.size:=fun u e=>by
 rw [aY0 h (o:=o) s] at e
 cases e; exact d
theorem iS.stay {h h':Heap}{a:Addr}{o:Obj} (n:iS h a) (e:h.get? a=some o) (e':h'.get? a=some o):iS h' a:=fun u hu=>by
 rw [e'] at hu; cases hu; exact n _ e
section
variable (P : Program) (w : World)
noncomputable def bN (H:Hp) (h:Heap) (a:Addr):HO->Prop
 | .lst xs=>xs.length<=sizeLine/\∃ (its:List Value) (n:Nat),aQ xs its/\h.get? a=some { cls:=.type "list",data:=.seq its.toArray n }
 | .tup xs=>xs.length<=sizeLine/\∃ its:List Value,aQ xs its/\IsTup h a its.toArray/\iS h a
 | .dK kvs=>kvs.length<=sizeLine/\(a == sysModules)=false/\∃ vs,KV kvs vs/\h.DictOf (eI P w) a vs
 | .dT kvs=>kvs.length<=sizeLine/\(a == sysModules)=false/\∃ xs:List (List aH × Addr × Value),
   Paired (fun (p:List aH × V) (q:List aH × Addr × Value)=>p.1=q.1/\H q.2.1=some (.tup (p.1.map kV))/\aP p.2 q.2.2) kvs xs/\
   ∃ o es ep,h.get? a=some o/\o.ExactDict/\o.data = .dict es ep/\es.toList=xs.map (entryOfKey (tupleKind (eI P w)))/\(xs.map (·.1)).Nodup
 | .set S n=>h.SetOf (intKind P w) a S n
 | .ins C dx fs=>H dx=some (.own a)/\fs.length<=1000/\dx ≠ a/\h.get? a=some (PySem.W.instObj C dx)/\
   ∃ mA,h.Ns1 dx mA/\(∀ f,fY (fs.lookup f) (mA f))/\PySem.Within mA (fs.map (·.1))
 | .own _=>∃ o,h.get? a=some o
 | .xd fs=>∃ mA,h.Ns1 a mA/\∀ f,fY (fs.lookup f) (mA f)
 | .rng lo hi=>∃ t u v,h.get? a=some { cls:=.type "range",data:=.fields #[.int lo t,.int hi u,.int 1 v] }
 | .frz o u=>h.get? a=some o/\bN H h a u
 | .tbl ps=>h.get? a=some { cls:=.none,data:=.fields ps }
 | .met f x=>h.get? a=some (PySem.W.methodObj (.ref f) (.ref x))
 | .ext φ=>φ h/\(∃ o,h.get? a=some o)/\∀ h1 h2:Heap,φ h1->(∀ o,h1.get? a=some o->h2.get? a=some o)->φ h2
noncomputable def bK (H:Hp) (h:Heap):Prop:=∀ a o,H a=some o->bN P w H h a o
end
section
variable {P : Program} {w : World} {H H' : Hp} {h h' : Heap} {a : Addr} {o : HO}
theorem bN.lt (x:bN P w H h a o):a < h.objs.size:=by
 cases o with
 | lst xs=>obtain ⟨_,_,_,_,e⟩:=x; exact aX8 e
 | tup xs=>obtain ⟨_,_,_,p,_⟩:=x; exact p.lt
 | dK kvs=>obtain ⟨_,_,_,_,o,_,_,e,_⟩:=x; exact aX8 e
 | dT kvs=>obtain ⟨_,_,_,_,o,_,_,e,_⟩:=x; exact aX8 e
 | set S n=>obtain ⟨o,_,_,_,e,_⟩:=x; exact aX8 e
 | ins C dx fs=>obtain ⟨_,_,_,e,_⟩:=x; exact aX8 e
 | own y=>obtain ⟨_,e⟩:=x; exact aX8 e
 | xd fs=>obtain ⟨_,⟨_,_,_,e,_⟩,_⟩:=x; exact aX8 e
 | rng lo hi=>obtain ⟨_,_,_,e⟩:=x; exact aX8 e
 | frz ob u=>obtain ⟨e,_⟩:=x; exact aX8 e
 | tbl ps=>exact aX8 (show h.get? a=some _ from x)
 | met f y=>exact aX8 (show h.get? a=some _ from x)
 | ext φ=>obtain ⟨_,⟨_,e⟩,_⟩:=x; exact aX8 e
theorem Paired.mapP {α β:Type}{F G:α->β->Prop}:∀ {l₁:List α}{l₂:List β},Paired F l₁ l₂->(∀ a b,F a b->G a b)->Paired G l₁ l₂
 | _,_,.nil,_=>.nil
 | _,_,.cons r t,f=>.cons (f _ _ r) (Paired.mapP t f)
theorem bN.stay (x:bN P w H h a o) (k:∀ b u,(b=a ∨ H b=some (.own a))->h.get? b=some u->h'.get? b=some u)
  (ho:∀ b,H b=some (.own a)->H' b=some (.own a)) (ht:∀ b xs,H b=some (.tup xs)->H' b=some (.tup xs)):bN P w H' h' a o:=by
 induction o with
 | lst xs=>obtain ⟨z,its,n,r,e⟩:=x; exact⟨z,its,n,r,k _ _ (.inl rfl) e⟩
 | tup xs=>obtain ⟨z,its,r,⟨ob,e,c⟩,nd⟩:=x; exact⟨z,its,r,⟨ob,k _ _ (.inl rfl) e,c⟩,nd.stay e (k _ _ (.inl rfl) e)⟩
 | dK kvs=>obtain ⟨z,y,vs,r,ob,es,ep,e,c⟩:=x; exact⟨z,y,vs,r,ob,es,ep,k _ _ (.inl rfl) e,c⟩
 | dT kvs=>
  obtain ⟨z,y,xs,r,ob,es,ep,e,c⟩:=x
  exact⟨z,y,xs,Paired.mapP r fun p q z=>⟨z.1,ht _ _ z.2.1,z.2.2⟩,ob,es,ep,k _ _ (.inl rfl) e,c⟩
 | set S n=>obtain ⟨ob,es,ep,t,e,c⟩:=x; exact⟨ob,es,ep,t,k _ _ (.inl rfl) e,c⟩
 | ins C dx fs=>
  obtain ⟨d,z,ne,e,mA,⟨od,es,ep,e2,c⟩,r⟩:=x
  exact⟨ho _ d,z,ne,k _ _ (.inl rfl) e,mA,⟨od,es,ep,k _ _ (.inr d) e2,c⟩,r⟩
 | own y=>obtain ⟨ob,e⟩:=x; exact⟨ob,k _ _ (.inl rfl) e⟩
 | xd fs=>obtain ⟨mA,⟨od,es,ep,e,c⟩,r⟩:=x; exact⟨mA,⟨od,es,ep,k _ _ (.inl rfl) e,c⟩,r⟩
 | rng lo hi=>obtain ⟨t,u,v,e⟩:=x; exact⟨t,u,v,k _ _ (.inl rfl) e⟩
 | frz ob u ih=>obtain ⟨e,q⟩:=x; exact⟨k _ _ (.inl rfl) e,ih q⟩
 | tbl ps=>
  have e:h.get? a=some { cls:=.none,data:=.fields ps }:=x
  show h'.get? a=some { cls:=.none,data:=.fields ps }
  exact k a _ (.inl rfl) e
 | met f y=>
  have e:h.get? a=some (PySem.W.methodObj (.ref f) (.ref y)):=x
  show h'.get? a=some (PySem.W.methodObj (.ref f) (.ref y))
  exact k a _ (.inl rfl) e
 | ext φ=>obtain ⟨p,⟨o,e⟩,st⟩:=x; exact⟨st _ _ p fun o q=>k _ _ (.inl rfl) q,⟨o,k _ _ (.inl rfl) e⟩,st⟩
theorem bK.lt (x:bK P w H h) (e:H a=some o):a < h.objs.size:=(x a o e).lt
theorem bK.fresh (x:bK P w H h) (e:h.objs.size<=a):H a=none:=by
 cases q:H a with
 | none=>rfl
 | some u=>exact absurd (aY4 (x.lt q) e) (be3 _)
theorem bK.kept (x:bK P w H h) (k:∀ b u,h.get? b=some u->h'.get? b=some u):bK P w H h':=fun a o e=>
 (x a o e).stay (fun b u _ q=>k b u q) (fun _ q=>q) fun _ _ q=>q
theorem bK.laid (x:bK P w H h) (k:∀ b u,h.get? b=some u->h'.get? b=some u) (hp:h.objs.size<=a) (new:bN P w (upd H a o) h' a o):bK P w (upd H a o) h':=fun b u e=>by
 have hn:=x.fresh hp
 by_cases hb:b=a
 ·subst hb; rw [b9] at e; cases e; exact new
 ·rw [aF hb] at e
  exact (x b u e).stay (fun c v _ q=>k c v q) (fun c q=>by rw [aF (cZ q hn)]; exact q) fun c xs q=>by rw [aF (cZ q hn)]; exact q
end
noncomputable def Rd (H:Hp) (a:Addr) (u:HO):Prop:=H a=some u ∨ ∃ o,H a=some (.frz o u)
theorem Rd.ok {P:Program}{w:World}{H:Hp}{h:Heap}{a:Addr}{u:HO} (r:Rd H a u) (x:bK P w H h):bN P w H h a u:=by
 rcases r with r | ⟨o,r⟩
 ·exact x a u r
 ·obtain ⟨_,q⟩:=x a _ r
  exact q
noncomputable def mW:Option HO->Prop
 | some (.lst _)=>True
 | some (.dK _)=>True
 | some (.dT _)=>True
 | some (.set _ _)=>True
 | some (.ins _ _ _)=>True
 | some (.ext _)=>True
 | _=>False
section
variable {P : Program} {w : World} {H : Hp} {h h' : Heap} {x e : Addr} {o' : HO}
theorem bK.write (ok:bK P w H h) (mu:mW (H x)) (he:e=x ∨ H e=some (.own x)) (k:∀ b u,b ≠ e->h.get? b=some u->h'.get? b=some u) (heo:∃ u,h'.get? e=some u)
  (new:bN P w (upd H x o') h' x o'):bK P w (upd H x o') h':=fun b u q=>by
 have nown:∀ c y,H c=some (.own y)->c ≠ x:=fun c y r z=>by subst z; rw [r] at mu; exact mu
 have ntup:∀ c xs,H c=some (.tup xs)->c ≠ x:=fun c xs r z=>by subst z; rw [r] at mu; exact mu
 by_cases hb:b=x
 ·subst hb; rw [b9] at q; cases q; exact new
 ·rw [aF hb] at q
  by_cases hbe:b=e
  ·have q':H b=some (.own x):=by
    rcases he with z | z
    ·exact absurd (hbe.trans z) hb
    ·rw [hbe]; exact z
   rw [q] at q'; cases q'
   obtain ⟨v,hv⟩:=heo
   exact⟨v,by rw [hbe]; exact hv⟩
  ·refine (ok b u q).stay (fun c v hc r=>k c v ?_ r) (fun c r=>by rw [aF (nown c b r)]; exact r) fun c xs r=>by rw [aF (ntup c xs r)]; exact r
   rcases hc with rfl | hc
   ·exact hbe
   ·rintro rfl
    rcases he with z | z
    ·exact nown c b hc z
    ·rw [hc] at z; cases z; exact hb rfl
end
structure Un (fs ex:List Addr) (H H':Hp) (h h':Heap):Prop where
 keep:∀ b o,h.get? b=some o->H b=none->b ∉ fs->b ∉ ex->h'.get? b=some o
 slot:∀ b o,h.get? b=some o->H b=none->b ∈ fs->b ∉ ex->∃ sl,h'.get? b=some { o with slots:=sl }
 free:∀ b o,h.get? b=some o->H b=none->b ∉ ex->H' b=none
 there:∀ b o,h.get? b=some o->b ∉ ex->∃ o',h'.get? b=some o'
 tups:∀ b xs,H b=some (.tup xs)->H' b=some (.tup xs)
 frzs:∀ b o u,H b=some (.frz o u)->H' b=some (.frz o u)
 tbls:∀ b ps,H b=some (.tbl ps)->∃ more,H' b=some (.tbl (ps ++ more))
section
variable {fs fs' ex ex' : List Addr} {H H1 H2 : Hp} {h h1 h2 h' : Heap} {a x e : Addr} {o : HO}
theorem Un.any (u:Un fs ex H H1 h h1) {b:Addr}{ob:Obj} (q:h.get? b=some ob) (n:H b=none) (hx:b ∉ ex):∃ sl,h1.get? b=some { ob with slots:=sl }:=by
 by_cases hb:b ∈ fs
 ·exact u.slot b ob q n hb hx
 ·exact⟨ob.slots,u.keep b ob q n hb hx⟩
theorem Un.kept (k:∀ b u,h.get? b=some u->h'.get? b=some u):Un fs ex H H h h':=
 ⟨fun b ob q _ _ _=>k b ob q,fun b ob q _ _ _=>⟨ob.slots,k b ob q⟩,fun _ _ _ n _=>n,fun b ob q _=>⟨ob,k b ob q⟩,fun _ _ q=>q,fun _ _ _ q=>q,fun _ ps q=>⟨#[],by rw [q]; simp⟩⟩
theorem Un.refl:Un fs ex H H h h:=Un.kept fun _ _ q=>q
theorem Un.laid (k:∀ b u,h.get? b=some u->h'.get? b=some u) (hp:h.objs.size<=a) (hn:H a=none):Un fs ex H (upd H a o) h h' where
 keep:=fun b u q _ _ _=>k b u q
 slot:=fun b u q _ _ _=>⟨u.slots,k b u q⟩
 free:=fun b u q n _=>by rw [aF (aZ6 (aY4 (aX8 q) hp))]; exact n
 there:=fun b u q _=>⟨u,k b u q⟩
 tups:=fun b xs q=>by rw [aF (cZ q hn)]; exact q
 frzs:=fun b u xs q=>by rw [aF (cZ q hn)]; exact q
 tbls:=fun b ps q=>⟨#[],by rw [aF (cZ q hn),q]; simp⟩
theorem Un.write (mu:mW (H x)) (he:e=x ∨ H e=some (.own x)) (k:∀ b u,b ≠ e->h.get? b=some u->h'.get? b=some u) (heo:∃ u,h'.get? e=some u):Un fs ex H (upd H x o) h h':=by
 have hx:∀ b,H b=none->b ≠ x:=fun b n z=>by subst z; rw [n] at mu; exact mu
 have hb:∀ b,H b=none->b ≠ e:=fun b n z=>by
  subst z
  rcases he with r | r
  ·exact hx b n r
  ·rw [n] at r; cases r
 have hm:∀ b u,H b=some u->¬ mW (some u)->b ≠ x:=fun b u q nm z=>by subst z; rw [q] at mu; exact nm mu
 refine⟨fun b u q n _ _=>k b u (hb b n) q,fun b u q n _ _=>⟨u.slots,k b u (hb b n) q⟩,fun b u q n _=>by rw [aF (hx b n)]; exact n,fun b u q _=>?_,
  fun b xs q=>by rw [aF (hm b _ q fun z=>z)]; exact q,fun b u xs q=>by rw [aF (hm b _ q fun z=>z)]; exact q,fun b ps q=>⟨#[],by rw [aF (hm b _ q fun z=>z),q]; simp⟩⟩
 by_cases hbe:b=e
 ·subst hbe; exact heo
 ·exact⟨u,k b u hbe q⟩
end
noncomputable def oT (h:Heap) (H:Hp):List Addr:=(List.range h.objs.size).filter fun a=>(H a).isSome
noncomputable def iT (h:Heap) (H:Hp):Heap:=PySem.W.hideAll h (oT h H)
theorem ab3 (h:Heap) (H:Hp):(iT h H).objs.size=h.objs.size:=PySem.W.hideAll_size _ _
theorem ab4 {h:Heap}{H:Hp}{b:Addr}{o:Obj} (e:h.get? b=some o) (n:H b=none):(iT h H).get? b=some o:=
 PySem.W.hideAll_get _ e fun hm=>by
  have q:(H b).isSome=true:=(ba1.mp hm).2
  rw [n] at q; simp at q
theorem ab5 {h:Heap}{H:Hp}{b:Addr}{o:Obj} (e:(iT h H).get? b=some o):h.get? b=some o/\H b=none:=by
 have e':h.get? b=some o:=PySem.W.of_hideAll (oT h H) e
 refine⟨e',?_⟩
 cases q:H b with
 | none=>rfl
 | some x=>
  have hm:b ∈ oT h H:=ba1.mpr ⟨List.mem_range.mpr (aX8 e'),by simp [q]⟩
  have z:(iT h H).get? b=none:=PySem.W.hideAll_none (oT h H) hm
  rw [z] at e; cases e
noncomputable def ab6 (g h:Heap) (L:Addr):List (Addr × Obj):=(List.range h.objs.size).filterMap fun a=>if a=L ∨ (g.get? a).isSome=true then none else (h.get? a).map fun o=>(a,o)
noncomputable def cD (g h:Heap) (L d:Addr):List (Addr × Obj):=(ab6 g h L).filter fun p=>decide (p.1 ≠ d)
structure Mod (K:PySem.W.Frag) (mg:Str->Option Value) (base:Heap):Prop where
 kin:K.In base
 glob:base.Ns mainGlobals mg
 blt:∃ mb,base.Ns builtinsNs mb/\∀ x:Str,x ≠ "__name__"->mb x=bootBuiltins x
 nolimit:base.NoLimit
structure Cx where
 prog:Program
 w:World
 K:PySem.W.Frag
 mg:Str->Option Value
 base:Heap
 A:Around
 N:List Str
 s₀:Shared
 H₀:Hp
 env:Env
 outer:List Env
 stack:List Env
 ex:List Addr
 fn:Str->Bool
 calm:Bool
 pn:List (Addr × Obj)
 xe:Value->Shared->Prop
noncomputable def bU (l:List Env):List Addr:=l.filterMap (·.frame)
noncomputable abbrev Cx.fs (X:Cx):List Addr:=bU X.outer
noncomputable def iE (sc:Scope) (x:Str):Prop:=sc.names.lookup x=some .local ∨ sc.names.lookup x=some .cell ∨ sc.names.lookup x=some .free
noncomputable def fG (sc:Scope) (x:Str):Prop:=sc.names.lookup x=some .local ∨ sc.names.lookup x=some .cell
noncomputable def ab7 (env:Env) (h:Heap) (m:Str->Option Value) (x:Str) (u:Value):Prop:=
 (env.kindOf x=some .local/\m x=some u) ∨ ((env.kindOf x=some .cell ∨ env.kindOf x=some .free)/\∃ c,env.cells.lookup x=some c/\h.IsCell c (some u))
structure Cx.Ok (X:Cx):Prop where
 mod:Mod X.K X.mg X.base
 kind:X.env.scope.kind = .function
 glob:X.env.globals=mainGlobals
 blt:X.env.builtins=builtinsNs
 above:X.s₀.heap.objs.size<=X.env.locals
 inj:∀ x y c,X.env.cells.lookup x=some c->X.env.cells.lookup y=some c->x=y
 has:∀ x,(X.env.kindOf x=some .cell ∨ X.env.kindOf x=some .free)->∃ c,X.env.cells.lookup x=some c
 cab:∀ x c,X.fn x=true->X.env.cells.lookup x=some c->X.s₀.heap.objs.size<=c
 hd:X.calm=true->X.A.handled=none
 frames:X.A.frames=some X.stack
 stk:X.stack=X.outer ∨ (X.stack=X.env :: X.outer/\X.env.frame=some X.env.locals)
 exf:∀ b ∈ X.ex,b ≠ X.env.locals/\∀ x c,X.env.cells.lookup x=some c->c ≠ b
 bs:∀ b o,X.base.get? b=some o->X.s₀.heap.get? b=some o/\X.H₀ b=none
 bsz:X.base.objs.size<=X.s₀.heap.objs.size
 noex:∀ b o,X.base.get? b=some o->b ∉ X.ex
 exfs:∀ b ∈ X.ex,b ∉ X.fs
 funs:X.s₀.heap.FunFrames X.base X.outer
 frf:∀ b ∈ X.fs,X.H₀ b=none
structure a6 (X:Cx) (pins:List (Addr × Obj)) (σ:List (Option V)) (H:Hp) (s:Shared):Prop where
 ok:X.Ok
 os:s.os=X.s₀.os
 bare:AllBare s.gens
 base:Un X.fs X.ex X.H₀ H X.s₀.heap s.heap
 loc:∃ m,s.heap.Ns X.env.locals m/\∀ (i:Nat) (x:Str) (v:V),X.N[i]? = some x->σ[i]? = some (some v)->iE X.env.scope x->∃ u,aP v u/\ab7 X.env s.heap m x u
 cell:∀ x c,X.env.cells.lookup x=some c->∃ v,s.heap.IsCell c v
 free:H X.env.locals=none
 freeC:∀ x c,X.env.cells.lookup x=some c->H c=none
 pin:∀ p ∈ X.pn ++ pins,s.heap.get? p.1=some p.2/\H p.1=none/\p.1 ≠ X.env.locals/\p.1 ∉ X.fs/\∀ v,p.2.data ≠ .cell v
 hok:bK X.prog X.w H s.heap
 len:σ.length=X.N.length
section
variable {X : Cx} {pins : List (Addr × Obj)} {σ : List (Option V)} {H H' : Hp} {s : Shared} {h' : Heap}
theorem Cx.Ok.nofr (ok:X.Ok) {b:Addr}{o:Obj} (e:X.base.get? b=some o):b ∉ X.fs:=fun hb=>by
 have:=(ok.funs.mem hb).1
 rw [e] at this; cases this
theorem a6.bs (I:a6 X pins σ H s):∀ b o,X.base.get? b=some o->s.heap.get? b=some o/\H b=none:=fun b o e=>
 ⟨I.base.keep b o (I.ok.bs b o e).1 (I.ok.bs b o e).2 (I.ok.nofr e) (I.ok.noex b o e),I.base.free b o (I.ok.bs b o e).1 (I.ok.bs b o e).2 (I.ok.noex b o e)⟩
theorem a6.bk (I:a6 X pins σ H s):∀ b o,X.base.get? b=some o->s.heap.get? b=some o:=fun b o e=>(I.bs b o e).1
theorem a6.mod (I:a6 X pins σ H s):Mod X.K X.mg X.base:=I.ok.mod
theorem a6.kIn (I:a6 X pins σ H s):X.K.In s.heap:=I.ok.mod.kin.keeps I.bk
theorem a6.fr (I:a6 X pins σ H s):∃ m,Fr X.base X.env.locals s.heap m:=
 let ⟨m,hn,_⟩:=I.loc
 ⟨m,hn,I.bk,aZ8 I.ok.bsz I.ok.above⟩
theorem a6.lt (I:a6 X pins σ H s):X.env.locals < s.heap.objs.size:=let ⟨_,hn,_⟩:=I.loc; hn.lt
theorem a6.sz (I:a6 X pins σ H s):X.s₀.heap.objs.size<=s.heap.objs.size:=aZ8 I.ok.above (bj1 I.lt)
theorem a6.nofs (I:a6 X pins σ H s) {a:Addr} (h:s.heap.objs.size<=a):a ∉ X.fs:=fun hb=>by
 obtain ⟨_,o,ho,_⟩:=I.ok.funs.mem hb
 exact absurd (aY4 (aX8 ho) (aZ8 I.sz h)) (be3 _)
theorem a6.cne (I:a6 X pins σ H s):∀ x c,X.env.cells.lookup x=some c->c ≠ X.env.locals:=fun x c e z=>by
 obtain ⟨v,o,ho,hd⟩:=I.cell x c e
 obtain ⟨m,⟨o',es,ep,ho',hd',_⟩,_⟩:=I.loc
 rw [z,ho'] at ho; cases ho; rw [hd'] at hd; cases hd
theorem a6.funs (I:a6 X pins σ H s):s.heap.FunFrames X.base X.outer:=by
 have all:∀ (l:List Env),(∀ b ∈ bU l,b ∈ X.fs)->X.s₀.heap.FunFrames X.base l->s.heap.FunFrames X.base l:=by
  intro l
  induction l with
  | nil=>intro _ _; trivial
  | cons env r ih=>
   intro hs hl
   obtain ⟨hk,⟨L,o,hf,hn,ho,hd⟩,hr⟩:=hl
   have hL:L ∈ X.fs:=hs L (by unfold bU; rw [List.filterMap_cons,hf]; exact aX3)
   obtain ⟨sl,e⟩:=I.base.slot L o ho (I.ok.frf L hL) hL fun z=>I.ok.exfs L z hL
   exact⟨hk,⟨L,_,hf,hn,e,hd⟩,ih (fun b hb=>hs b (by unfold bU; rw [List.filterMap_cons,hf]; exact aX0 _ hb)) hr⟩
 exact all X.outer (fun _ hb=>hb) I.ok.funs
theorem a6.stack (I:a6 X pins σ H s):s.heap.FunFrames X.base X.stack:=by
 rcases I.ok.stk with e | ⟨e,hf⟩
 ·rw [e]; exact I.funs
 ·rw [e]
  obtain ⟨m,hn,_⟩:=I.loc
  refine .cons (by rw [I.ok.kind]; decide) hf hn ?_ I.funs
  exact Heap.get?_none_of_le (aZ8 I.ok.bsz I.ok.above)
theorem a6.stkSub (I:a6 X pins σ H s):∀ b ∈ bU X.stack,b ∈ X.env.locals :: X.fs:=fun b hb=>by
 rcases I.ok.stk with e | ⟨e,hf⟩
 ·rw [e] at hb; exact aX0 _ hb
 ·rw [e] at hb
  unfold bU at hb
  rw [List.filterMap_cons,hf] at hb
  exact hb
theorem a6.stkFree (I:a6 X pins σ H s):∀ b ∈ bU X.stack,H b=none:=fun b hb=>by
 rcases aW9.mp (I.stkSub b hb) with e | hb
 ·rw [e]; exact I.free
 ·obtain ⟨_,o,ho,_⟩:=I.ok.funs.mem hb
  exact I.base.free b o ho (I.ok.frf b hb) fun z=>I.ok.exfs b z hb
theorem a6.step {g':Array GenState}{t':Nat}{d':Drawn}{ch:List Addr} (I:a6 X pins σ H s)
  (hch:∀ b ∈ ch,(b ∈ X.ex ∨ X.s₀.heap.objs.size<=b)/\b ≠ X.env.locals/\(∀ x c,X.env.cells.lookup x=some c->c ≠ b)/\∀ p ∈ X.pn ++ pins,p.1 ≠ b)
  (keep:∀ b o,b ≠ X.env.locals->b ∉ X.fs->b ∉ ch->s.heap.get? b=some o->H b=none->h'.get? b=some o)
  (slot:∀ b o,b ≠ X.env.locals->b ∈ X.fs->b ∉ ch->s.heap.get? b=some o->H b=none->∃ sl,h'.get? b=some { o with slots:=sl }) (free:∀ b o,b ∉ ch->s.heap.get? b=some o->H b=none->H' b=none)
  (there:∀ b o,b ∉ ch->s.heap.get? b=some o->∃ o',h'.get? b=some o')
  (tups:∀ b xs,H b=some (.tup xs)->H' b=some (.tup xs)) (frzs:∀ b o u,H b=some (.frz o u)->H' b=some (.frz o u)) (tbls:∀ b ps,H b=some (.tbl ps)->∃ more,H' b=some (.tbl (ps ++ more)))
  (ns:∀ m,s.heap.Ns X.env.locals m->h'.Ns X.env.locals m) (hok:bK X.prog X.w H' h') (hg:AllBare g') :
  a6 X pins σ H' { s with heap:=h',gens:=g',drawn:=d',toks:=t' }:=by
 have neL:∀ b o,X.s₀.heap.get? b=some o->b ≠ X.env.locals:=fun b o e=>aZ6 (aY4 (aX8 e) I.ok.above)
 have neC:∀ b o,X.s₀.heap.get? b=some o->b ∉ X.ex->b ∉ ch:=fun b o e hx hb=>by
  rcases (hch b hb).1 with z | z
  ·exact hx z
  ·exact absurd (aY4 (aX8 e) z) (be3 _)
 have cellK:∀ x c,X.env.cells.lookup x=some c->∀ v,s.heap.IsCell c v->h'.IsCell c v:=fun x c e v ⟨o,ho,hd⟩=>by
  have nch:c ∉ ch:=fun z=>(hch c z).2.2.1 x c e rfl
  by_cases hc:c ∈ X.fs
  ·obtain ⟨sl,q⟩:=slot c o (I.cne x c e) hc nch ho (I.freeC x c e)
   exact⟨_,q,hd⟩
  ·exact⟨o,keep c o (I.cne x c e) hc nch ho (I.freeC x c e),hd⟩
 refine⟨I.ok,I.os,hg,⟨fun b o e n hb hx=>?_,fun b o e n hb hx=>?_,fun b o e n hx=>?_,fun b o e hx=>?_,fun b xs e=>tups b xs (I.base.tups b xs e),fun b o xs e=>frzs b o xs (I.base.frzs b o xs e),fun b ps e=>?_⟩,?_,fun x c e=>?_,?_,fun x c e=>?_,fun p hp=>?_,hok,I.len⟩
 ·exact keep b o (neL b o e) hb (neC b o e hx) (I.base.keep b o e n hb hx) (I.base.free b o e n hx)
 ·obtain ⟨sl,e1⟩:=I.base.slot b o e n hb hx
  obtain ⟨sl',e2⟩:=slot b _ (neL b o e) hb (neC b o e hx) e1 (I.base.free b o e n hx)
  exact⟨sl',e2⟩
 ·obtain ⟨o',e1⟩:=I.base.there b o e hx
  exact free b o' (neC b o e hx) e1 (I.base.free b o e n hx)
 ·obtain ⟨o',e1⟩:=I.base.there b o e hx
  exact there b o' (neC b o e hx) e1
 ·obtain ⟨m1,e1⟩:=I.base.tbls b ps e
  obtain ⟨m2,e2⟩:=tbls b _ e1
  exact⟨m1 ++ m2,by rw [e2,Array.append_assoc]⟩
 ·obtain ⟨m,hn,hl⟩:=I.loc
  refine⟨m,ns m hn,fun i x v e1 e2 e3=>?_⟩
  obtain ⟨u,r,l⟩:=hl i x v e1 e2 e3
  refine⟨u,r,?_⟩
  rcases l with l | ⟨k,c,e,z⟩
  ·exact .inl l
  ·exact .inr ⟨k,c,e,cellK x c e _ z⟩
 ·obtain ⟨v,z⟩:=I.cell x c e
  exact⟨v,cellK x c e v z⟩
 ·obtain ⟨m,⟨o,_,_,ho,_⟩,_⟩:=I.loc
  exact free _ o (fun z=>(hch _ z).2.1 rfl) ho I.free
 ·obtain ⟨v,o,ho,hd⟩:=I.cell x c e
  exact free c o (fun z=>(hch c z).2.2.1 x c e rfl) ho (I.freeC x c e)
 ·obtain ⟨e,n,ne,nf,d⟩:=I.pin p hp
  have nch:p.1 ∉ ch:=fun z=>(hch p.1 z).2.2.2 p hp rfl
  exact⟨keep p.1 p.2 ne nf nch e n,free p.1 p.2 nch e n,ne,nf,d⟩
theorem a6.un {t':Nat} (I:a6 X pins σ H s) (u:Un X.fs [] H H' s.heap h') (hok:bK X.prog X.w H' h'):a6 X pins σ H' { s with heap:=h',toks:=t' }:=by
 obtain ⟨m,⟨o,es,ep,ho,r⟩,_⟩:=id I.loc
 obtain ⟨sl,hL⟩:=u.any ho I.free (by simp)
 exact I.step (g':=s.gens) (d':=s.drawn) (ch:=[]) (fun _ z=>nomatch z) (fun b o _ hb _ e n=>u.keep b o e n hb (by simp)) (fun b o _ hb _ e n=>u.slot b o e n hb (by simp)) (fun b o _ e n=>u.free b o e n (by simp)) (fun b o _ e=>u.there b o e (by simp)) u.tups u.frzs u.tbls (fun m' hm=>by
  obtain ⟨o',es',ep',ho',r'⟩:=hm
  rw [ho] at ho'; cases ho'
  exact⟨_,es',ep',hL,r'⟩) hok I.bare
theorem a6.call {g':Array GenState}{t':Nat}{d':Drawn}{ch:List Addr} (I:a6 X pins σ H s) (u:Un (bU X.stack) ch H H' s.heap h') (hok:bK X.prog X.w H' h') (hg:AllBare g')
  (hch:∀ b ∈ ch,(b ∈ X.ex ∨ X.s₀.heap.objs.size<=b)/\b ≠ X.env.locals/\(∀ x c,X.env.cells.lookup x=some c->c ≠ b)/\∀ p ∈ X.pn ++ pins,p.1 ≠ b) :
  a6 X pins σ H' { s with heap:=h',gens:=g',drawn:=d',toks:=t' }:=by
 obtain ⟨m,⟨o,es,ep,ho,r⟩,_⟩:=id I.loc
 obtain ⟨sl,hL⟩:=u.any ho I.free fun z=>(hch _ z).2.1 rfl
 exact I.step (ch:=ch) hch (fun b o hL hb hc e n=>u.keep b o e n (fun z=>(aW9.mp (I.stkSub b z)).elim hL hb) hc) (fun b o _ _ hc e n=>u.any e n hc) (fun b o hc e n=>u.free b o e n hc) (fun b o hc e=>u.there b o e hc) u.tups u.frzs u.tbls (fun m' hm=>by
  obtain ⟨o',es',ep',ho',r'⟩:=hm
  rw [ho] at ho'; cases ho'
  exact⟨_,es',ep',hL,r'⟩) hok hg
theorem a6.turned {t':Nat}{it:Addr} (I:a6 X pins σ H s) (k:∀ b o,b ≠ it->s.heap.get? b=some o->h'.get? b=some o) (hn:H it=none) (hL:it ≠ X.env.locals)
  (h1:it ∈ X.ex ∨ X.s₀.heap.objs.size<=it) (h2:∀ x c,X.env.cells.lookup x=some c->c ≠ it) (h3:∀ p ∈ X.pn ++ pins,p.1 ≠ it):a6 X pins σ H { s with heap:=h',toks:=t' }:=by
 have nit:∀ b u,H b=some u->b ≠ it:=fun b u e z=>by rw [z,hn] at e; cases e
 refine I.step (g':=s.gens) (d':=s.drawn) (ch:=[it]) (fun b hb=>?_) (fun b o _ _ hc e _=>k b o (fun z=>hc (by simp [z])) e) (fun b o _ _ hc e _=>⟨o.slots,k b o (fun z=>hc (by simp [z])) e⟩) (fun _ _ _ _ n=>n)
  (fun b o hc e=>⟨o,k b o (fun z=>hc (by simp [z])) e⟩) (fun _ _ e=>e) (fun _ _ _ e=>e) (fun b ps e=>⟨#[],by rw [e]; simp⟩) (fun m hm=>?_) (fun b u e=>?_) I.bare
 ·have e:b=it:=by simpa using hb
  subst e
  exact⟨h1,hL,h2,h3⟩
 ·obtain ⟨o,es,ep,ho,r⟩:=hm
  exact⟨o,es,ep,k _ o (Ne.symm hL) ho,r⟩
 ·refine (I.hok b u e).stay (fun c v hc q=>k c v ?_ q) (fun _ q=>q) fun _ _ q=>q
  rcases hc with z | z
  ·rw [z]; exact nit b u e
  ·exact nit c _ z
theorem a6.tok (I:a6 X pins σ H s) (t:Nat):a6 X pins σ H { s with toks:=t }:=I.un (h':=s.heap) (t':=t) Un.refl I.hok
theorem a6.kept {t':Nat} (I:a6 X pins σ H s) (k:∀ b u,s.heap.get? b=some u->h'.get? b=some u):a6 X pins σ H { s with heap:=h',toks:=t' }:=I.un (Un.kept k) (I.hok.kept k)
theorem a6.laid {a:Addr}{o:HO}{t':Nat} (I:a6 X pins σ H s) (k:∀ b u,s.heap.get? b=some u->h'.get? b=some u) (hp:s.heap.objs.size<=a) (new:bN X.prog X.w (upd H a o) h' a o) :
  a6 X pins σ (upd H a o) { s with heap:=h',toks:=t' }:=I.un (Un.laid k hp (I.hok.fresh hp)) (I.hok.laid k hp new)
theorem a6.write {x e:Addr}{o:HO}{t':Nat} (I:a6 X pins σ H s) (mu:mW (H x)) (he:e=x ∨ H e=some (.own x)) (k:∀ b u,b ≠ e->s.heap.get? b=some u->h'.get? b=some u) (heo:∃ u,h'.get? e=some u)
  (new:bN X.prog X.w (upd H x o) h' x o):a6 X pins σ (upd H x o) { s with heap:=h',toks:=t' }:=I.un (Un.write mu he k heo) (I.hok.write mu he k heo new)
theorem a6.weak {σ':List (Option V)} (I:a6 X pins σ H s) (hl:σ'.length=σ.length) (w:∀ (i:Nat) v,σ'[i]? = some (some v)->σ[i]? = some (some v)):a6 X pins σ' H s:=
 ⟨I.ok,I.os,I.bare,I.base,let ⟨m,hn,hl'⟩:=I.loc; ⟨m,hn,fun i x v e1 e2 e3=>hl' i x v e1 (w i v e2) e3⟩,I.cell,I.free,I.freeC,I.pin,I.hok,hl.trans I.len⟩
theorem a6.pins_of {pins':List (Addr × Obj)} (I:a6 X pins σ H s) (h:∀ p ∈ pins',s.heap.get? p.1=some p.2/\H p.1=none/\p.1 ≠ X.env.locals/\p.1 ∉ X.fs/\∀ v,p.2.data ≠ .cell v):a6 X pins' σ H s:=
 ⟨I.ok,I.os,I.bare,I.base,I.loc,I.cell,I.free,I.freeC,fun p hp=>(ba2.mp hp).elim (fun z=>I.pin p (bb1 _ z)) (h p),I.hok,I.len⟩
theorem xF {N:List Str} (hN:N.Nodup) {i j:Nat}{x:Str} (a:N[i]? = some x) (b:N[j]? = some x):i=j:=by
 obtain ⟨h1,e1⟩:=aX7.mp a
 obtain ⟨h2,e2⟩:=aX7.mp b
 exact (List.getElem_inj hN).mp (e1.trans e2.symm)
theorem xG {M:Model}{A:Around}{E:Value->Shared->Prop}{i:Nat}{x:Str}{v:V}{u:Value}{Q:Unit->Shared->Prop} (I:a6 X pins σ H s) (hN:X.N.Nodup) (hi:X.N[i]? = some x) (hx:fG X.env.scope x) (r:aP v u)
  (h:∀ s',a6 X pins (σ.set i (some v)) H s'->(∃ a,Heap.SameBut a s.heap s'.heap/\(a=X.env.locals ∨ X.env.cells.lookup x=some a))->Q () s') (hf:X.fn x=true ∨ X.env.scope.names.lookup x=some .local:=by first | exact .inl rfl | exact .inr rfl | assumption):wpAny M A (storeName X.env x u) Q E s:=by
 obtain ⟨m,hn,hl⟩:=id I.loc
 have hcls:(X.env.scope.kind == .class || (X.env.scope.kind == .module && X.env.locals != X.env.globals))=false:=by rw [I.ok.kind]; rfl
 have hiσ:i < σ.length:=by rw [I.len]; exact (aX7.mp hi).1
 have cne:=I.cne
 have tracked:∀ {a:Addr}{h':Heap},(∃ o,s.heap.get? a=some o/\H a=none)->Heap.SameBut a s.heap h'->bK X.prog X.w H h':=fun {a h'} ha hs b ob e=>by
  obtain ⟨_,_,hfree⟩:=ha
  refine (I.hok b ob e).stay (fun c w' hc q=>(hs.2 c ?_).trans q) (fun _ q=>q) fun _ _ q=>q
  rintro rfl
  rcases hc with rfl | hc
  ·rw [hfree] at e; cases e
  ·rw [hfree] at hc; cases hc
 rcases hx with hk | hk
 ·refine wpAny_storeName_local hk hn (fun h' hn' hs=>?_) hcls
  obtain ⟨oL,_,_,hoL,_⟩:=id hn
  refine h _ ⟨I.ok,I.os,I.bare,⟨fun b o e n hb hx=>?_,fun b o e n hb hx=>?_,I.base.free,fun b o e hx=>?_,I.base.tups,I.base.frzs,I.base.tbls⟩,⟨_,hn',fun j y v' e1 e2 e3=>?_⟩,fun y c e=>?_,I.free,I.freeC,fun p hp=>?_,tracked ⟨oL,hoL,I.free⟩ hs,by simpa using I.len⟩ ⟨_,hs,.inl rfl⟩
  ·exact (hs.2 b (aZ6 (aY4 (aX8 e) I.ok.above))).trans (I.base.keep b o e n hb hx)
  ·obtain ⟨sl,e1⟩:=I.base.slot b o e n hb hx
   exact⟨sl,(hs.2 b (aZ6 (aY4 (aX8 e) I.ok.above))).trans e1⟩
  ·obtain ⟨o',e1⟩:=I.base.there b o e hx
   exact⟨o',(hs.2 b (aZ6 (aY4 (aX8 e) I.ok.above))).trans e1⟩
  ·by_cases hj:j=i
   ·subst hj
    rw [hi] at e1; cases e1
    rw [bg0 hiσ] at e2
    cases e2
    exact⟨u,r,.inl ⟨hk,by simp⟩⟩
   ·rw [aZ4 (Ne.symm hj)] at e2
    obtain ⟨u',r',q⟩:=hl j y v' e1 e2 e3
    refine⟨u',r',?_⟩
    rcases q with ⟨k,e⟩ | ⟨k,c,e,z⟩
    ·refine .inl ⟨k,?_⟩
     have:y ≠ x:=fun e=>hj (xF hN e1 (e ▸ hi))
     simp [this,e]
    ·exact .inr ⟨k,c,e,z.sameBut hs (cne y c e)⟩
  ·obtain ⟨w',z⟩:=I.cell y c e
   exact⟨w',z.sameBut hs (cne y c e)⟩
  ·obtain ⟨e,n,ne,nf,d⟩:=I.pin p hp
   exact⟨(hs.2 p.1 ne).trans e,n,ne,nf,d⟩
 ·have hfn:X.fn x=true:=by
   rcases hf with z | z
   ·exact z
   ·rw [z] at hk; cases hk
  obtain ⟨c,hc⟩:=I.ok.has x (.inl hk)
  obtain ⟨w',z⟩:=I.cell x c hc
  refine wpAny_storeName_cell I.ok.kind hk hc z (fun h' hc' hs=>?_)
  obtain ⟨oc,hoc,hocd⟩:=id z
  refine h { s with heap:=h' } ⟨I.ok,I.os,I.bare,⟨fun b o e n hb hx=>?_,fun b o e n hb hx=>?_,I.base.free,fun b o e hx=>?_,I.base.tups,I.base.frzs,I.base.tbls⟩,⟨m,hn.sameBut hs (Ne.symm (cne x c hc)),fun j y v' e1 e2 e3=>?_⟩,fun y c' e=>?_,I.free,I.freeC,fun p hp=>?_,tracked ⟨oc,hoc,I.freeC x c hc⟩ hs,by simpa using I.len⟩ ⟨c,hs,.inr hc⟩
  ·exact (hs.2 b (aZ6 (aY4 (aX8 e) (I.ok.cab x c hfn hc)))).trans (I.base.keep b o e n hb hx)
  ·obtain ⟨sl,e1⟩:=I.base.slot b o e n hb hx
   exact⟨sl,(hs.2 b (aZ6 (aY4 (aX8 e) (I.ok.cab x c hfn hc)))).trans e1⟩
  ·obtain ⟨o',e1⟩:=I.base.there b o e hx
   exact⟨o',(hs.2 b (aZ6 (aY4 (aX8 e) (I.ok.cab x c hfn hc)))).trans e1⟩
  ·by_cases hj:j=i
   ·subst hj
    rw [hi] at e1; cases e1
    rw [bg0 hiσ] at e2
    cases e2
    exact⟨u,r,.inr ⟨.inl hk,c,hc,hc'⟩⟩
   ·rw [aZ4 (Ne.symm hj)] at e2
    obtain ⟨u',r',q⟩:=hl j y v' e1 e2 e3
    refine⟨u',r',?_⟩
    rcases q with q | ⟨k,c',e,z'⟩
    ·exact .inl q
    ·refine .inr ⟨k,c',e,z'.sameBut hs ?_⟩
     rintro rfl
     exact hj (xF hN e1 (I.ok.inj _ _ _ e hc ▸ hi))
  ·by_cases hcc:c'=c
   ·subst hcc; exact⟨_,hc'⟩
   ·obtain ⟨w2,z2⟩:=I.cell y c' e
    exact⟨w2,z2.sameBut hs hcc⟩
  ·obtain ⟨e,n,ne,nf,d⟩:=I.pin p hp
   refine⟨(hs.2 p.1 ?_).trans e,n,ne,nf,d⟩
   intro q
   rw [q,hoc] at e
   have q':oc=p.2:=aZ0 e
   exact d w' (by rw [<- q']; exact hocd)
theorem xH {M:Model}{A:Around}{E:Value->Shared->Prop}{i:Nat}{x:Str}{v:V}{u:Value}{Q:Unit->Shared->Prop} (I:a6 X pins σ H s) (hN:X.N.Nodup) (hi:X.N[i]? = some x) (hx:fG X.env.scope x) (r:aP v u)
  (h:∀ s',a6 X pins (σ.set i (some v)) H s'->Q () s') (hf:X.fn x=true ∨ X.env.scope.names.lookup x=some .local:=by first | exact .inl rfl | exact .inr rfl | assumption):wpAny M A (storeName X.env x u) Q E s:=
 xG I hN hi hx r (fun s' I' _=>h s' I') hf
theorem a6.call' {s':Shared}{ch:List Addr} (I:a6 X pins σ H s) (ho:s'.os=s.os) (u:Un (bU X.stack) ch H H' s.heap s'.heap) (hok:bK X.prog X.w H' s'.heap) (hg:AllBare s'.gens)
  (hch:∀ b ∈ ch,(b ∈ X.ex ∨ X.s₀.heap.objs.size<=b)/\b ≠ X.env.locals/\(∀ x c,X.env.cells.lookup x=some c->c ≠ b)/\∀ p ∈ X.pn ++ pins,p.1 ≠ b):a6 X pins σ H' s':=by
 obtain ⟨h',g',d',t',o'⟩:=s'
 have e:o'=s.os:=ho
 subst e
 exact I.call (g':=g') (t':=t') (d':=d') u hok hg hch
end
noncomputable abbrev XK:=Value->Option Addr->Hp->Prop
noncomputable abbrev St:=List (Option V)
noncomputable abbrev VK:=V->Hp->Prop
noncomputable abbrev TE:=St->Hp->VK->Prop
noncomputable abbrev TT:=St->Hp->(Bool->Hp->Prop)->Prop
noncomputable abbrev TA:=St->Hp->(List V->Hp->Prop)->Prop
structure dM where
 nx:St->Hp->Prop
 rt:VK
 bk:St->Hp->Prop:=fun _ _=>False
 ct:St->Hp->Prop:=fun _ _=>False
noncomputable abbrev TS:=dM->St->Hp->Prop
noncomputable def EP (X:Cx) (pins:List (Addr × Obj)) (σ:St) (Q:VK) (u:Value) (s':Shared):Prop:=∃ v H',a6 X pins σ H' s'/\aP v u/\Q v H'
noncomputable def TP (X:Cx) (pins:List (Addr × Obj)) (σ:St) (Q:Bool->Hp->Prop) (b:Bool) (s':Shared):Prop:=∃ H',a6 X pins σ H' s'/\Q b H'
noncomputable def AP (X:Cx) (pins:List (Addr × Obj)) (σ:St) (Q:List V->Hp->Prop) (us:List Value) (s':Shared):Prop:=∃ vs H',a6 X pins σ H' s'/\aQ vs us/\Q vs H'
noncomputable def SP (X:Cx) (pins:List (Addr × Obj)) (D:dM) (f:Flow) (s':Shared):Prop:=
 match f with
 | .next=>∃ σ' H',a6 X pins σ' H' s'/\D.nx σ' H'
 | .brk=>∃ σ' H',a6 X pins σ' H' s'/\D.bk σ' H'
 | .cont=>∃ σ' H',a6 X pins σ' H' s'/\D.ct σ' H'
 | .ret u=>∃ v σ' H',a6 X pins σ' H' s'/\aP v u/\D.rt v H'
noncomputable def PE (X:Cx) (e:Expr) (t:TE):Prop:=
 ∀ (pins:List (Addr × Obj)) (s:Shared) (σ:St) (H:Hp) (Q:VK),a6 X pins σ H s->t σ H Q->wpAny (model X.prog X.w) X.A (eval e X.env) (EP X pins σ Q) X.xe s
noncomputable def PT (X:Cx) (e:Expr) (t:TT):Prop:=
 ∀ (pins:List (Addr × Obj)) (s:Shared) (σ:St) (H:Hp) (Q:Bool->Hp->Prop),a6 X pins σ H s->t σ H Q->wpAny (model X.prog X.w) X.A (isTrue e X.env (eval e X.env)) (TP X pins σ Q) X.xe s
noncomputable def PW (X:Cx) (e:Expr) (t:TT):Prop:=
 ∀ (whole:Sem Value) (pins:List (Addr × Obj)) (s:Shared) (σ:St) (H:Hp) (Q:Bool->Hp->Prop),a6 X pins σ H s->t σ H Q->wpAny (model X.prog X.w) X.A (isTrue e X.env whole) (TP X pins σ Q) X.xe s
theorem PW.pt {X:Cx}{e:Expr}{t:TT} (h:PW X e t):PT X e t:=h _
noncomputable def PA (X:Cx) (es:List Expr) (t:TA):Prop:=
 ∀ (pos:Pos) (pins:List (Addr × Obj)) (s:Shared) (σ:St) (H:Hp) (Q:List V->Hp->Prop),a6 X pins σ H s->t σ H Q->wpAny (model X.prog X.w) X.A (spliced (backTo pos (starEach es X.env))) (AP X pins σ Q) X.xe s
noncomputable def PS (X:Cx) (st:Stmt) (t:TS):Prop:=
 ∀ (pins:List (Addr × Obj)) (s:Shared) (σ:St) (H:Hp) (D:dM),a6 X pins σ H s->t D σ H->wpAny (model X.prog X.w) X.A (exec st X.env) (SP X pins D) X.xe s
noncomputable def dN (X:Cx) (st:List Stmt) (t:TS):Prop:=
 ∀ (pins:List (Addr × Obj)) (s:Shared) (σ:St) (H:Hp) (D:dM),a6 X pins σ H s->t D σ H->wpAny (model X.prog X.w) X.A (execs st X.env) (SP X pins D) X.xe s
theorem aK {α:Type}{t:Sem α}{Q Q':α->Shared->Prop}{M:Model}{A:Around}{E:Value->Shared->Prop}{s:Shared} (h:wpAny M A t Q E s) (hQ:∀ a s,Q a s->Q' a s):wpAny M A t Q' E s:=be6 h hQ fun _ _ x=>x
section
variable {X : Cx}
theorem bin {a b:Expr}{ta tb:TE} (ha:PE X a ta) (hb:PE X b tb) {pins:List (Addr × Obj)}{s:Shared}{σ:St}{H:Hp}{R:V->V->Hp->Prop} (I:a6 X pins σ H s) (h:ta σ H fun x H1=>tb σ H1 fun y H2=>R x y H2)
  {α:Type}{Q:α->Shared->Prop}{f:Value->Value->Sem α}
  (hf:∀ v u s2 x y H2,a6 X pins σ H2 s2->aP x v->aP y u->R x y H2->wpAny (model X.prog X.w) X.A (f v u) Q X.xe s2) :
  wpAny (model X.prog X.w) X.A (eval a X.env) (fun v s₁=>wpAny (model X.prog X.w) X.A (eval b X.env) (fun u s₂=>wpAny (model X.prog X.w) X.A (f v u) Q X.xe s₂) X.xe s₁) X.xe s:=by
 refine aK (ha pins s σ H _ I h) fun v s1 ⟨x,H1,I1,r1,q1⟩=>?_
 refine aK (hb pins s1 σ H1 _ I1 q1) fun u s2 ⟨y,H2,I2,r2,q2⟩=>?_
 exact hf v u s2 x y H2 I2 r1 r2 q2
noncomputable def fH (i:Nat):TE:=fun σ H Q=>∃ v,σ[i]? = some (some v)/\Q v H
noncomputable def tC (v:V):TE:=fun _ H Q=>Q v H
theorem k8 {i:Nat}{x:Str}{pos:Pos} (hN:X.N[i]? = some x) (hv:iE X.env.scope x) (hd:(x == ("__debug__" : Str))=false:=by decide) (hcd:(x == ("__classdict__" : Str))=false:=by decide):PE X (.Name x pos) (fH i):=by
 intro pins s σ H Q I h
 obtain ⟨v,e,h⟩:=h
 obtain ⟨m,hn,hl⟩:=I.loc
 obtain ⟨u,r,l⟩:=hl i x v hN e hv
 have fin:EP X pins σ Q u s:=⟨v,H,I,r,h⟩
 rcases l with ⟨hk,hm⟩ | ⟨hk,c,hc,hcell⟩
 ·exact wpAny_Name (wpAny_loadName_local I.ok.kind hk hn hm fin) hd
 ·rcases hk with hk | hk
  ·exact wpAny_Name (wpAny_loadName_cell I.ok.kind hk hc hcell fin) hd
  ·exact wpAny_Name (wpAny_loadName_free I.ok.kind hk hc hcell fin hcd) hd
theorem ab8 {i j pos}:PE X (.Constant (.int i) j pos) (tC (.int i)):=fun _ _ _ H _ I h=>wpAny_Constant_int ⟨.int i,H,I.tok _,⟨_,rfl⟩,h⟩
theorem ab9 {b j pos}:PE X (.Constant (.bool b) j pos) (tC (.bl b)):=fun _ _ _ H _ I h=>Constant_bool ⟨.bl b,H,I,rfl,h⟩
theorem ac0 {j pos}:PE X (.Constant .none j pos) (tC .non):=fun _ _ _ H _ I h=>Constant_none ⟨.non,H,I,rfl,h⟩
theorem ac1 {x j pos}:PE X (.Constant (.str x) j pos) (tC (.str x)):=fun _ _ _ H _ I h=>Calls.Constant_str ⟨.str x,H,I.tok _,⟨_,rfl⟩,h⟩
noncomputable def Gl (X:Cx) (x:Str):Prop:=X.env.kindOf x=some .globalImplicit
theorem sS {E:Value->Shared->Prop}{pins:List (Addr × Obj)}{s:Shared}{σ:St}{H:Hp}{x:Str}{u:Value}{pos:Pos}{Q:Value->Shared->Prop} (I:a6 X pins σ H s) (hg:Gl X x) (hm:X.mg x=some u) (h:Q u s)
  (hd:(x == ("__debug__" : Str))=false:=by decide):wpAny (model X.prog X.w) X.A (eval (.Name x pos) X.env) Q E s:=
 Calls.Name_function_global I.ok.kind hg (Calls.loadGlobal_global (by rw [I.ok.glob]; exact I.mod.glob.keeps I.bk) hm h) hd
theorem lI {E:Value->Shared->Prop}{pins:List (Addr × Obj)}{s:Shared}{σ:St}{H:Hp}{x:Str}{u:Value}{pos:Pos}{Q:Value->Shared->Prop} (I:a6 X pins σ H s) (hg:Gl X x) (hm:X.mg x=none) (hv:bootBuiltins x=some u) (h:Q u s)
  (hn:x ≠ "__name__":=by decide) (hd:(x == ("__debug__" : Str))=false:=by decide):wpAny (model X.prog X.w) X.A (eval (.Name x pos) X.env) Q E s:=by
 obtain ⟨mb,h1,h2⟩:=I.mod.blt
 exact Calls.Name_function_global I.ok.kind hg (Calls.loadGlobal_builtin (by rw [I.ok.glob]; exact I.mod.glob.keeps I.bk) hm (by rw [I.ok.blt]; exact h1.keeps I.bk) ((h2 x hn).trans hv) h) hd
theorem ac2 {x:Str}{v:V}{u:Value}{pos:Pos} (hg:Gl X x) (hm:X.mg x=some u) (r:aP v u) (hd:(x == ("__debug__" : Str))=false:=by decide):PE X (.Name x pos) (tC v):=
 fun _ _ _ H _ I h=>sS I hg hm ⟨v,H,I,r,h⟩ hd
theorem ac3 {x:Str}{v:V}{u:Value}{pos:Pos} (hg:Gl X x) (hm:X.mg x=none) (hv:bootBuiltins x=some u) (r:aP v u) (hn:x ≠ "__name__":=by decide) (hd:(x == ("__debug__" : Str))=false:=by decide):PE X (.Name x pos) (tC v):=
 fun _ _ _ H _ I h=>lI I hg hm hv ⟨v,H,I,r,h⟩ hn hd
variable {a b : Expr} {ta tb : TE} {pos : Pos}
noncomputable def PC (X:Cx) (op:CmpOp) (a b:Expr) (t:TE):Prop:=
 ∀ (pins:List (Addr × Obj)) (s:Shared) (σ:St) (H:Hp) (Q:VK),a6 X pins σ H s->t σ H Q->
  wpAny (model X.prog X.w) X.A (eval a X.env) (fun v s₁=>wpAny (model X.prog X.w) X.A (eval b X.env) (fun u s₂=>wpAny (model X.prog X.w) X.A (compareOp op v u) (EP X pins σ Q) X.xe s₂) X.xe s₁) X.xe s
noncomputable def tB (t:TE):TT:=fun σ H Q=>t σ H fun x H1=>∃ c,x = .bl c/\Q c H1
theorem ac4 {op:CmpOp}{t:TE} (h:PC X op a b t) (h1:behindInMarks op b=false:=by first | exact nobehind _ (by decide) (by decide) | rfl):PE X (.Compare a [op] [b] pos) t:=fun pins s σ H Q I hw=>wpAny_Compare1 (h pins s σ H Q I hw) h1
theorem xI {op:CmpOp}{t:TE} (h:PC X op a b t) (h1:behindInMarks op b=false:=by first | exact nobehind _ (by decide) (by decide) | rfl):PT X (.Compare a [op] [b] pos) (tB t):=by
 intro pins s σ H Q I hw
 refine wpAny_isTrue_Compare1 (aK (h pins s σ H _ I hw) fun v s1 h1=>aK h1 fun u s2 h2=>aK h2 fun c s3 ⟨x,H1,I1,r1,q1⟩=>?_) h1
 obtain ⟨d,rfl,q⟩:=q1
 cases r1
 exact bf2 ⟨H1,I1,q⟩
theorem ac5 {e:Expr}{t:TE} (h:PE X e t) (he:∀ whole,isTrue e X.env whole=(do let v <- whole; standAt e.pos; holding [v] (truthy v)):=by intro _; rfl):PT X e (tB t):=by
 intro pins s σ H Q I hw
 refine isTrue_plain (aK (h pins s σ H _ I hw) fun v s1 ⟨x,H1,I1,r1,q1⟩=>?_) (he _)
 obtain ⟨d,rfl,q⟩:=q1
 cases r1
 exact bf2 ⟨H1,I1,q⟩
variable {tA tB' : TT} {cD : List Expr}
noncomputable def xJ (t u:TT):TT:=fun σ H Q=>t σ H fun c H1=>if c=true then u σ H1 Q else Q false H1
noncomputable def xK (t u:TT):TT:=fun σ H Q=>t σ H fun c H1=>if c=true then Q true H1 else u σ H1 Q
noncomputable def xL (t:TT):TT:=fun σ H Q=>t σ H fun c H1=>Q (!c) H1
theorem ac6 (ha:PT X a tA):PW X (.BoolOp .And [a] pos) tA:=by
 intro wh pins s σ H Q I h
 refine isTrue_and (aK (ha pins s σ H Q I h) fun c s1 e=>?_)
 cases c with
 | true=>exact isTrue_and_nil e
 | false=>exact e
theorem ac7 (ha:PT X a tA):PW X (.BoolOp .Or [a] pos) tA:=by
 intro wh pins s σ H Q I h
 refine isTrue_or (aK (ha pins s σ H Q I h) fun c s1 e=>?_)
 cases c with
 | false=>exact isTrue_or_nil e
 | true=>exact e
theorem ac8 (ha:PT X a tA) (hb:PW X (.BoolOp .And (b :: cD) pos) tB'):PW X (.BoolOp .And (a :: b :: cD) pos) (xJ tA tB'):=by
 intro wh pins s σ H Q I h
 refine isTrue_and (aK (ha pins s σ H _ I h) fun c s1 ⟨H1,I1,q1⟩=>?_)
 cases c with
 | true=>exact hb wh pins s1 σ H1 Q I1 q1
 | false=>exact⟨H1,I1,q1⟩
theorem ac9 (ha:PT X a tA) (hb:PW X (.BoolOp .Or (b :: cD) pos) tB'):PW X (.BoolOp .Or (a :: b :: cD) pos) (xK tA tB'):=by
 intro wh pins s σ H Q I h
 refine isTrue_or (aK (ha pins s σ H _ I h) fun c s1 ⟨H1,I1,q1⟩=>?_)
 cases c with
 | true=>exact⟨H1,I1,q1⟩
 | false=>exact hb wh pins s1 σ H1 Q I1 q1
theorem ad0 (ha:PT X a tA):PT X (.UnaryOp .Not a pos) (xL tA):=by
 intro pins s σ H Q I h
 exact isTrue_not (ha pins s σ H (fun c H1=>Q (!c) H1) I h)
noncomputable def xM (ta tb:TE):TE:=fun σ H Q=>ta σ H fun x H1=>∃ c,x = .bl c/\if c=true then tb σ H1 Q else Q (.bl false) H1
noncomputable def xN (ta:TE):TE:=fun σ H Q=>ta σ H fun x H1=>∃ c,x = .bl c/\Q (.bl (!c)) H1
theorem ad1 {op}{t:TE} (h:PE X a t):PE X (.BoolOp op [a] pos) t:=fun pins s σ H Q I hw=>BoolOp_one (h pins s σ H Q I hw)
theorem ad2 (ha:PE X a ta) (hb:PE X (.BoolOp .And (b :: cD) pos) tb):PE X (.BoolOp .And (a :: b :: cD) pos) (xM ta tb):=by
 intro pins s σ H Q I h
 refine BoolOp_and (aK (ha pins s σ H _ I h) fun v s1 ⟨x,H1,I1,r1,q1⟩=>?_)
 obtain ⟨c,rfl,q1⟩:=q1
 cases r1
 refine bf2 ?_
 cases c with
 | true=>exact hb pins s1 σ H1 Q I1 q1
 | false=>exact⟨.bl false,H1,I1,rfl,q1⟩
theorem ad3 (ha:PE X a ta):PE X (.UnaryOp .Not a pos) (xN ta):=by
 intro pins s σ H Q I h
 refine UnaryOp_ (aK (ha pins s σ H _ I h) fun v s1 ⟨x,H1,I1,r1,q1⟩=>?_)
 obtain ⟨c,rfl,q1⟩:=q1
 cases r1
 exact not_of (bf2 ⟨.bl (!c),H1,I1,rfl,q1⟩)
end
noncomputable def aU (K:PySem.W.Frag) (H:Hp) (a:Addr) (xs:List V):Prop:=
 Rd H a (.lst xs) ∨
  ∃ (o:Obj) (its:Array Value) (n:Nat),K.lookup a=some o/\o.cls = .type "list"/\o.dict=none/\o.data = .seq its n/\its.size<=sizeLine/\aQ xs its.toList
noncomputable def aR (K:PySem.W.Frag) (H:Hp) (a:Addr) (xs:List V):Prop:=
 Rd H a (.tup xs) ∨
  ∃ (o:Obj) (its:Array Value) (n:Nat),K.lookup a=some o/\o.cls = .type "tuple"/\o.data = .seq its n/\its.size<=sizeLine/\aQ xs its.toList
noncomputable def ad4:Value->Option V
 | .none=>some .non
 | .bool b=>some (.bl b)
 | .int i _=>some (.int i)
 | .str x _=>some (.str x)
 | .bytes b _=>some (.byt b)
 | .float b _=>some (.flt b)
 | .ref a=>some (.ref a)
 | .type n=>some (.ty n)
 | _=>none
theorem aP.abs {x:V}{u:Value} (r:aP x u):ad4 u=some x:=by
 cases x with
 | non=>cases r; rfl
 | bl _=>cases r; rfl
 | int _=>obtain ⟨t,rfl⟩:=r; rfl
 | str _=>obtain ⟨t,rfl⟩:=r; rfl
 | byt _=>obtain ⟨t,rfl⟩:=r; rfl
 | flt _=>obtain ⟨t,rfl⟩:=r; rfl
 | ref _=>cases r; rfl
 | ty _=>cases r; rfl
theorem aP.inj {x y:V}{u:Value} (r:aP x u) (q:aP y u):x=y:=aZ0 (r.abs.symm.trans q.abs)
theorem aQ.inj:∀ {xs ys:List V}{us:List Value},aQ xs us->aQ ys us->xs=ys
 | _,_,_,.nil,.nil=>rfl
 | _,_,_,.cons r t,.cons r' t'=>by rw [r.inj r',aQ.inj t t']
section
variable {X : Cx} {pins : List (Addr × Obj)} {σ : St} {H : Hp} {s : Shared} {a : Addr} {xs ys : List V}
theorem aU.of {K:PySem.W.Frag} (h:H a=some (.lst xs)):aU K H a xs:=.inl (.inl h)
theorem aR.of {K:PySem.W.Frag} (h:H a=some (.tup xs)):aR K H a xs:=.inl (.inl h)
theorem a6.list (I:a6 X pins σ H s) (h:aU X.K H a xs):∃ its:List Value,aQ xs its/\PlainL s.heap a its.toArray/\xs.length<=sizeLine:=by
 rcases h with h | ⟨o,its,n,hk,hc,hd,hs,hz,r⟩
 ·obtain ⟨z,its,n,r,e⟩:=h.ok I.hok
  exact⟨its,r,⟨_,n,e,rfl,rfl,rfl⟩,z⟩
 ·refine⟨its.toList,r,⟨o,n,I.kIn a o hk,hc,hd,by simpa using hs⟩,?_⟩
  have e:=r.length
  simp only [bh7] at e
  omega
theorem a6.tuple (I:a6 X pins σ H s) (h:aR X.K H a xs):∃ its:List Value,aQ xs its/\IsTup s.heap a its.toArray/\xs.length<=sizeLine:=by
 rcases h with h | ⟨o,its,n,hk,hc,hs,hz,r⟩
 ·obtain ⟨z,its,r,p,_⟩:=h.ok I.hok
  exact⟨its,r,p,z⟩
 ·refine⟨its.toList,r,⟨o,I.kIn a o hk,hc,n,by simpa using hs⟩,?_⟩
  have e:=r.length
  simp only [bh7] at e
  omega
theorem a6.list_inj (I:a6 X pins σ H s) (h:aU X.K H a xs) (h':aU X.K H a ys):xs=ys:=by
 obtain ⟨its,r,⟨o,n,e,_,_,d⟩,_⟩:=I.list h
 obtain ⟨its',r',⟨o',n',e',_,_,d'⟩,_⟩:=I.list h'
 rw [e] at e'; cases e'
 rw [d] at d'
 injection d' with d1 _
 have:its=its':=by simpa using congrArg Array.toList d1
 subst this
 exact r.inj r'
theorem a6.tuple_inj (I:a6 X pins σ H s) (h:aR X.K H a xs) (h':aR X.K H a ys):xs=ys:=by
 obtain ⟨its,r,⟨o,e,_,n,d⟩,_⟩:=I.tuple h
 obtain ⟨its',r',⟨o',e',_,n',d'⟩,_⟩:=I.tuple h'
 rw [e] at e'; cases e'
 rw [d] at d'
 injection d' with d1 _
 have:its=its':=by simpa using congrArg Array.toList d1
 subst this
 exact r.inj r'
end
noncomputable abbrev Cx.wish (X:Cx) (E:Value->Shared->Prop):Cx:={ X with xe:=E }
noncomputable abbrev Cx.nox (X:Cx):Cx:=X.wish fun _ _=>False
theorem Cx.Ok.wish {X:Cx} (ok:X.Ok) (E:Value->Shared->Prop):(X.wish E).Ok:=
 ⟨ok.mod,ok.kind,ok.glob,ok.blt,ok.above,ok.inj,ok.has,ok.cab,ok.hd,ok.frames,ok.stk,ok.exf,ok.bs,ok.bsz,ok.noex,ok.exfs,ok.funs,ok.frf⟩
theorem Cx.Ok.unwish {X:Cx}{E:Value->Shared->Prop} (ok:(X.wish E).Ok):X.Ok:=
 ⟨ok.mod,ok.kind,ok.glob,ok.blt,ok.above,ok.inj,ok.has,ok.cab,ok.hd,ok.frames,ok.stk,ok.exf,ok.bs,ok.bsz,ok.noex,ok.exfs,ok.funs,ok.frf⟩
section
variable {X : Cx} {pins : List (Addr × Obj)} {σ : St} {H : Hp} {s : Shared} {E : Value → Shared → Prop}
theorem a6.wish (I:a6 X pins σ H s) (E:Value->Shared->Prop):a6 (X.wish E) pins σ H s:=⟨I.ok.wish E,I.os,I.bare,I.base,I.loc,I.cell,I.free,I.freeC,I.pin,I.hok,I.len⟩
theorem a6.unwish (I:a6 (X.wish E) pins σ H s):a6 X pins σ H s:=⟨I.ok.unwish,I.os,I.bare,I.base,I.loc,I.cell,I.free,I.freeC,I.pin,I.hok,I.len⟩
theorem SP.unwish {D:dM}{f:Flow}{s':Shared} (h:SP (X.wish E) pins D f s'):SP X pins D f s':=by
 cases f with
 | next=>obtain ⟨σ',H',I,q⟩:=h; exact⟨σ',H',I.unwish,q⟩
 | brk=>obtain ⟨σ',H',I,q⟩:=h; exact⟨σ',H',I.unwish,q⟩
 | cont=>obtain ⟨σ',H',I,q⟩:=h; exact⟨σ',H',I.unwish,q⟩
 | ret u=>obtain ⟨v,σ',H',I,r,q⟩:=h; exact⟨v,σ',H',I.unwish,r,q⟩
theorem dN.nox {st:List Stmt}{t:TS} (h:dN X.nox st t):dN X st t:=fun pins s σ H D I hw=>
 be6 (h pins s σ H D (I.wish _) hw) (fun _ _ q=>q.unwish) fun _ _ z=>False.elim z
end
section
variable {X : Cx} {st : Stmt} {cD : List Stmt} {t u : TS} {e : Expr} {te : TE} {pos : Pos}
noncomputable def xO:TS:=fun D σ H=>D.nx σ H
noncomputable def xP (t u:TS):TS:=fun D σ H=>t { D with nx:=u D } σ H
theorem ad5:dN X [] xO:=fun _ _ σ H _ I h=>wpAny_execs_nil ⟨σ,H,I,h⟩
theorem ad6 (h1:PS X st t) (h2:dN X cD u):dN X (st :: cD) (xP t u):=by
 intro pins s σ H D I h
 refine wpAny_execs_cons (aK (h1 pins s σ H { D with nx:=u D } I h) fun f s1 q=>?_)
 cases f with
 | next=>
  obtain ⟨σ',H',I',q⟩:=q
  exact h2 pins s1 σ' H' D I' q
 | ret v=>exact q
 | brk=>exact q
 | cont=>exact q
theorem ad7 (h1:PS X st t):dN X [st] t:=by
 intro pins s σ H D I h
 refine wpAny_execs_cons (aK (h1 pins s σ H D I h) fun f s1 q=>?_)
 cases f with
 | next=>exact wpAny_execs_nil q
 | ret v=>exact q
 | brk=>exact q
 | cont=>exact q
theorem a6.quiet {pins:List (Addr × Obj)}{σ:St}{H:Hp}{s:Shared} (I:a6 X pins σ H s):interactive X.env=false:=by simp [interactive,I.ok.kind]
noncomputable def mX (te:TE):TS:=fun D σ H=>te σ H fun _ H1=>D.nx σ H1
theorem oU (he:PE X e te) (hs:swapsWith e none pos.line X.env=pure false:=by rfl):PS X (.Expr e pos) (mX te):=by
 intro pins s σ H D I h
 exact wpAny_Expr_any (aK (he pins s σ H _ I h) fun v s1 ⟨x,H1,I1,r1,q1⟩=>⟨σ,H1,I1,q1⟩) I.quiet hs
noncomputable def sU (te:TE):TS:=fun D σ H=>te σ H D.rt
theorem xQ (he:PE X e te):PS X (.Return (some e) pos) (sU te):=by
 intro pins s σ H D I h
 exact wpAny_Return_some (aK (he pins s σ H _ I h) fun v s1 ⟨x,H1,I1,r1,q1⟩=>⟨x,σ,H1,I1,r1,q1⟩)
noncomputable def xR (c:TT) (t u:TS):TS:=fun D σ H=>c σ H fun b H1=>if b=true then t D σ H1 else u D σ H1
theorem ad8 {c:Expr}{a b:List Stmt}{tc:TT} (hc:PT X c tc) (ha:dN X a t) (hb:dN X b u):PS X (.If c a b pos) (xR tc t u):=by
 intro pins s σ H D I h
 refine wpAny_If (aK (hc pins s σ H _ I h) fun d s1 ⟨H1,I1,q1⟩=>?_)
 cases d with
 | true=>exact ha pins s1 σ H1 D I1 q1
 | false=>exact hb pins s1 σ H1 D I1 q1
end
noncomputable abbrev TG:=V->St->Hp->(St->Hp->Prop)->Prop
noncomputable abbrev k9:=List V->St->Hp->(St->Hp->Prop)->Prop
noncomputable def PG (X:Cx) (target:Expr) (t:TG):Prop:=
 ∀ (pins:List (Addr × Obj)) (s:Shared) (σ:St) (H:Hp) (v:V) (u:Value) (Q:St->Hp->Prop),a6 X pins σ H s->aP v u->t v σ H Q->
  wpAny (model X.prog X.w) X.A (assign target X.env u) (fun _ s'=>∃ σ' H',a6 X pins σ' H' s'/\Q σ' H') X.xe s
noncomputable def oV (X:Cx) (ts:List Expr) (t:k9):Prop:=
 ∀ (pins:List (Addr × Obj)) (s:Shared) (σ:St) (H:Hp) (vs:List V) (us:List Value) (Q:St->Hp->Prop),a6 X pins σ H s->aQ vs us->t vs σ H Q->
  wpAny (model X.prog X.w) X.A (assignInOrder ((assignEach ts X.env).map (·.2)) us) (fun _ s'=>∃ σ' H',a6 X pins σ' H' s'/\Q σ' H') X.xe s
section
variable {X : Cx} {pos : Pos}
noncomputable def cR (i:Nat):TG:=fun v σ H Q=>Q (σ.set i (some v)) H
theorem fJ {i:Nat}{x:Str} (hN:X.N.Nodup) (hi:X.N[i]? = some x) (hx:fG X.env.scope x) (hf:X.fn x=true ∨ X.env.scope.names.lookup x=some .local:=by first | exact .inl rfl | exact .inr rfl | assumption):PG X (.Name x pos) (cR i):=by
 intro pins s σ H v u Q I r h
 exact wpAny_assign_Name (xH I hN hi hx r (fun s' I'=>⟨_,H,I',h⟩) hf)
noncomputable def lJ:k9:=fun vs σ H Q=>vs = []/\Q σ H
noncomputable def fZ (t:TG) (u:k9):k9:=fun vs σ H Q=>∃ v r,vs=v :: r/\t v σ H fun σ' H'=>u r σ' H' Q
theorem mY:oV X [] lJ:=by
 intro pins s σ H vs us Q I r h
 obtain ⟨e,h⟩:=h
 subst e
 cases r
 exact assignInOrder_nil ⟨σ,H,I,h⟩
theorem gJ {e:Expr}{es:List Expr}{t:TG}{u:k9} (h1:PG X e t) (h2:oV X es u)
  (hs:(assignEach (e :: es) X.env).map (·.2)=assign e X.env :: (assignEach es X.env).map (·.2):=by rfl):oV X (e :: es) (fZ t u):=by
 intro pins s σ H vs us Q I r h
 obtain ⟨v,vr,e1,h⟩:=h
 subst e1
 cases r with
 | cons r rr=>
  rw [hs]
  refine assignInOrder_cons (aK (h1 pins s σ H _ _ _ I r h) fun _ s1 ⟨σ1,H1,I1,q1⟩=>?_)
  exact h2 pins s1 σ1 H1 _ _ Q I1 rr q1
noncomputable def lK (K:PySem.W.Frag) (n:Nat) (t:k9):TG:=fun v σ H Q=>∃ a xs,v = .ref a/\aR K H a xs/\xs.length=n/\t xs σ H Q
theorem mZ {es:List Expr}{k:Nat}{t:k9}{n:Nat} (hc:X.calm=true) (h:oV X es t)
  (hn:(assignEach es X.env).length=n:=by rfl) (hst:(assignEach es X.env).findIdx? (·.1)=none:=by rfl):PG X (.Tuple es k pos) (lK X.K n t):=by
 intro pins s σ H v u Q I r hw
 obtain ⟨a,xs,e1,hq,hl,hw⟩:=hw
 subst e1
 cases r
 obtain ⟨its,rv,ht,hz⟩:=I.tuple hq
 refine assign_Tuple_tuple (I.ok.hd hc) ht (by simp [hn,<- hl,rv.length]) hst fun h' hx=>?_
 have I1:a6 X pins σ H { s with heap:=h' }:=I.kept (t':=s.toks) fun b o e=>hx b o (aZ6 (aX8 e)) e
 exact h pins _ σ H xs _ Q I1 (by simpa using rv) hw
noncomputable def lL (te:TE) (g:TG):TS:=fun D σ H=>te σ H fun x H1=>g x σ H1 D.nx
theorem ad9 {tg e:Expr}{te:TE}{g:TG} (he:PE X e te) (hg:PG X tg g) (hs:swapsWithSole [tg] e pos.line X.env=pure false:=by rfl) (hw:swappedStores [tg] e X.env=pure none:=by rfl)
  (h1:(assignEach [tg] X.env).map (·.2) = [assign tg X.env]:=by rfl):PS X (.Assign [tg] e pos) (lL te g):=by
 intro pins s σ H D I h
 refine wpAny_Assign_stores (aK (he pins s σ H _ I h) fun v s1 ⟨x,H1,I1,r1,q1⟩=>?_) hs hw
 rw [h1]
 exact aK (hg pins s1 σ H1 x v _ I1 r1 q1) fun _ s2 q=>q
theorem xS {i:Nat}{x:Str}{e:Expr}{te:TE}{pos':Pos} (hN:X.N.Nodup) (hi:X.N[i]? = some x) (hx:fG X.env.scope x) (he:PE X e te) (hs:swapsWith e (some (.Name x pos')) pos.line X.env=pure false:=by rfl) (hf:X.fn x=true ∨ X.env.scope.names.lookup x=some .local:=by first | exact .inl rfl | exact .inr rfl | assumption) :
  PS X (.Assign [.Name x pos'] e pos) (lL te (cR i)):=by
 intro pins s σ H D I h
 refine wpAny_Assign_Name (aK (he pins s σ H _ I h) fun v s1 ⟨y,H1,I1,r1,q1⟩=>?_) hs
 exact xH I1 hN hi hx r1 (fun s2 I2=>⟨_,H1,I2,q1⟩) hf
end
section
variable {X : Cx} {pos : Pos}
noncomputable def xT (c:TT) (tb:TS):TS:=fun D σ H=>∃ W:Nat->St->Hp->Prop,(∃ m,W m σ H)/\∀ m σ H,W m σ H->
 c σ H fun b H1=>if b=true then ∃ N:St->Hp->Prop,(∀ σ' H',N σ' H'->∃ m',m' < m/\W m' σ' H')/\tb { D with nx:=N,ct:=N,bk:=D.nx } σ H1 else D.nx σ H1
theorem ae0 {c:Expr}{body:List Stmt}{tc:TT}{tb:TS} (hp:PassesOwn (model X.prog X.w) X.A X.env X.xe) (hc:PT X c tc) (hb:dN X body tb):PS X (.While c body [] pos) (xT tc tb):=by
 intro pins s σ H D I h
 obtain ⟨W,⟨m0,w0⟩,turn⟩:=h
 refine wpAny_While (codeAny_whileLoop (fun n s'=>∃ σ' H',a6 X pins σ' H' s'/\W n σ' H') ?_ m0 ⟨σ,H,I,w0⟩)
 rintro n s1 ⟨σ1,H1,I1,w1⟩
 refine bk5 hp (aK (hc pins s1 σ1 H1 _ I1 (turn n σ1 H1 w1)) fun b s2 ⟨H2,I2,q2⟩=>?_)
 cases b with
 | true=>
  obtain ⟨N,hN,q2⟩:=q2
  rw [if_pos rfl]
  refine bk5 hp (aK (hb pins s2 σ1 H2 _ I2 q2) fun f s3 q3=>?_)
  cases f with
  | next=>
   obtain ⟨σ3,H3,I3,n3⟩:=q3
   obtain ⟨m',hm,w3⟩:=hN σ3 H3 n3
   exact⟨m',hm,σ3,H3,I3,w3⟩
  | cont=>
   obtain ⟨σ3,H3,I3,n3⟩:=q3
   obtain ⟨m',hm,w3⟩:=hN σ3 H3 n3
   exact⟨m',hm,σ3,H3,I3,w3⟩
  | brk=>exact q3
  | ret v=>exact q3
 | false=>
  rw [if_neg aY9]
  exact wpAny_execs_nil ⟨σ1,H2,I2,q2⟩
end
structure It where
 go:Nat->Hp->Prop
 yld:Nat->Hp->V->Hp->Prop
 stop:Nat->Hp->Prop
noncomputable def g9 (X:Cx) (pins:List (Addr × Obj)) (H:Hp) (b:Addr):Prop:=
 H b=none/\b ≠ X.env.locals/\b ∉ X.fs/\(b ∈ X.ex ∨ X.s₀.heap.objs.size<=b)/\(∀ x c,X.env.cells.lookup x=some c->c ≠ b)/\∀ p ∈ X.pn ++ pins,p.1 ≠ b
theorem a6.fpOk {X:Cx}{pins:List (Addr × Obj)}{σ:St}{H H':Hp}{s:Shared}{b:Addr} (I:a6 X pins σ H s) (hb:s.heap.objs.size<=b) (hn:H' b=none):g9 X pins H' b:=by
 refine⟨hn,bf3 (aY4 I.lt hb),I.nofs hb,.inr (aZ8 I.sz hb),fun x c e z=>?_,fun p hp z=>?_⟩
 ·obtain ⟨v,q⟩:=I.cell x c e
  exact absurd (aY4 q.lt (by rw [z]; exact hb)) (be3 _)
 ·exact absurd (aY4 (aX8 (I.pin p hp).1) (by rw [z]; exact hb)) (be3 _)
structure gZ (P:Program) (w:World) (K:PySem.W.Frag) (tg:Expr) (J:It) (fp:List Addr) (it:Addr) (tn:Nat->Heap->Prop):Prop where
 mem:it ∈ fp
 obj:∀ i h,tn i h->∀ b ∈ fp,∃ o,h.get? b=some o/\∀ v,o.data ≠ .cell v
 keep:∀ i h h',tn i h->(∀ b ∈ fp,∀ o,h.get? b=some o->h'.get? b=some o)->tn i h'
 item:∀ (X:Cx),X.prog=P->X.w=w->X.K=K->X.calm=true->∀ (i:Nat) (pins:List (Addr × Obj)) (s:Shared) (σ:St) (H:Hp) (E:Value->Shared->Prop),a6 X pins σ H s->(∀ b ∈ fp,g9 X pins H b)->tn i s.heap->J.go i H->
  wpAny (model P w) X.A (pyNext (.ref it)) (fun r s1=>∃ u,r=some u/\
   wpAny (model P w) X.A (letOwnedTupleGo tg (.ref it) u) (fun _ s2=>∃ x H',a6 X pins σ H' s2/\aP x u/\J.yld i H x H'/\tn (i+1) s2.heap/\∀ b ∈ fp,H' b=none) E s1) E s
 done:∀ (X:Cx),X.prog=P->X.w=w->X.K=K->X.calm=true->∀ (i:Nat) (pins:List (Addr × Obj)) (s:Shared) (σ:St) (H:Hp) (E:Value->Shared->Prop),a6 X pins σ H s->(∀ b ∈ fp,g9 X pins H b)->tn i s.heap->J.stop i H->
  wpAny (model P w) X.A (pyNext (.ref it)) (fun r s1=>r=none/\a6 X pins σ H s1) E s
 self:∀ (A:Around) (i:Nat) (s:Shared) (Q:Value->Shared->Prop) (E:Value->Shared->Prop),tn i s.heap->Q (.ref it) s->wpAny (model P w) A (pyIter (.ref it)) Q E s
noncomputable abbrev TI:=St->Hp->(It->Hp->Prop)->Prop
noncomputable def xU (X:Cx) (pins:List (Addr × Obj)) (σ:St) (tg:Expr) (R:It->Hp->Prop) (itv:Value) (s2:Shared):Prop:=
 ∃ (it:Addr) (fp:List Addr) (tn:Nat->Heap->Prop) (J:It) (H':Hp),itv = .ref it/\a6 X pins σ H' s2/\gZ X.prog X.w X.K tg J fp it tn/\tn 0 s2.heap/\(∀ b ∈ fp,g9 X pins H' b)/\R J H'
noncomputable def PI (X:Cx) (tg iter:Expr) (wi:TI):Prop:=
 ∀ (pins:List (Addr × Obj)) (s:Shared) (σ:St) (H:Hp) (R:It->Hp->Prop),a6 X pins σ H s->wi σ H R->
  wpAny (model X.prog X.w) X.A (eval iter X.env) (fun v s1=>wpAny (model X.prog X.w) X.A (pyIter v) (xU X pins σ tg R) X.xe s1) X.xe s
theorem oW {M:Model}{A:Around}{E:Value->Shared->Prop}{s:Shared}{tg:Expr}{it:Addr}{u:Value}{o:Obj}{n:String}{vs:Array Value}{Q:Unit->Shared->Prop} (ho:s.heap.get? it=some o) (hc:o.cls = .type n) (hd:o.data = .fields vs)
    (hn : ["enumerate","zip","dict_itemiterator","dict_reverseitemiterator","odict_iterator","itertools.zip_longest","itertools.pairwise"].contains n=false) (hQ:Q () s):wpAny M A (letOwnedTupleGo tg (.ref it) u) Q E s:=by
  unfold letOwnedTupleGo
  cases tg <;> first
    | exact aW7 hQ
    | (cases u <;> first
        | exact aW7 hQ
        | (refine aW2 (wpAny_load ho ?_)
           rw [hc,hd]
           show wpAny M A (if (["enumerate","zip","dict_itemiterator","dict_reverseitemiterator","odict_iterator","itertools.zip_longest","itertools.pairwise"].contains n && vs[0]? == some (rawInt _))=true then _ else _) Q E s
           rw [if_neg (by intro h; rw [hn,Bool.false_and] at h; cases h)]
           exact aW7 hQ))
noncomputable def sV (K:PySem.W.Frag) (a:Addr):It:=
 ⟨fun i H=>∃ xs x,aU K H a xs/\xs[i]? = some x,fun i H x H'=>H'=H/\∀ xs,aU K H a xs->xs[i]? = some x,fun i H=>∃ xs,aU K H a xs/\xs.length<=i⟩
noncomputable def sW (K:PySem.W.Frag) (a:Addr):It:=
 ⟨fun i H=>∃ xs x,aR K H a xs/\xs[i]? = some x,fun i H x H'=>H'=H/\∀ xs,aR K H a xs->xs[i]? = some x,fun i H=>∃ xs,aR K H a xs/\xs.length<=i⟩
noncomputable def oX (lo:Int) (n:Nat):It:=⟨fun i _=>i < n,fun i H x H'=>H'=H/\x = .int (lo+i),fun i _=>n<=i⟩
theorem ae1 {P:Program}{w:World}{K:PySem.W.Frag}{tg:Expr} (a it:Addr):gZ P w K tg (sV K a) [it] it (fun i h=>h.IsListIter it a i) where
 mem:=by simp
 obj:=fun i h st b hb=>by
  have e:b=it:=by simpa using hb
  subst e
  obtain ⟨o,e,c,d⟩:=st
  exact⟨o,e,fun v z=>by rw [d] at z; cases z⟩
 keep:=fun i h h' st k=>st.at fun o e=>k it (by simp) o e
 item:=by
  intro X hP hw hK hc i pins s σ H E I hf st hg
  subst hP hw hK
  obtain ⟨xs,x,hq,hx⟩:=hg
  obtain ⟨its,rv,p,hz⟩:=I.list hq
  obtain ⟨u,hu,ru⟩:=rv.get hx
  obtain ⟨f0,f1,f2,f3,f4,f5⟩:=hf it (by simp)
  refine wpAny_pyNext_list_item st p.isList (x:=u) (by simpa using hu) fun h' st' sb=>?_
  have I1:a6 X pins σ H { s with heap:=h' }:=I.turned (t':=s.toks) (fun b o hb e=>(sb.2 b hb).trans e) f0 f1 f3 f4 f5
  obtain ⟨o,e,c,d⟩:=id st'
  exact⟨u,rfl,oW (s:={ s with heap:=h' }) e c d (by decide) ⟨x,H,I1,ru,⟨rfl,fun ys hy=>by rw [I.list_inj hy hq]; exact hx⟩,st',fun b hb=>(hf b hb).1⟩⟩
 done:=by
  intro X hP hw hK hc i pins s σ H E I hf st hg
  subst hP hw hK
  obtain ⟨xs,hq,hx⟩:=hg
  obtain ⟨its,rv,p,hz⟩:=I.list hq
  obtain ⟨f0,f1,f2,f3,f4,f5⟩:=hf it (by simp)
  have hl:=rv.length
  exact wpAny_pyNext_list_end (I.ok.hd hc) st p.isList (by simp; omega) fun h' eb=>⟨rfl,I.turned (t':=s.toks) (fun b o hb e=>eb b o hb e) f0 f1 f3 f4 f5⟩
 self:=fun _ _ _ _ _ st h=>wpAny_pyIter_listiter st h
theorem ae2 {P:Program}{w:World}{K:PySem.W.Frag}{tg:Expr} (a it:Addr):gZ P w K tg (sW K a) [it] it (fun i h=>h.IsTupleIter it a i) where
 mem:=by simp
 obj:=fun i h st b hb=>by
  have e:b=it:=by simpa using hb
  subst e
  obtain ⟨o,e,c,d⟩:=st
  exact⟨o,e,fun v z=>by rw [d] at z; cases z⟩
 keep:=fun i h h' st k=>st.at fun o e=>k it (by simp) o e
 item:=by
  intro X hP hw hK hc i pins s σ H E I hf st hg
  subst hP hw hK
  obtain ⟨xs,x,hq,hx⟩:=hg
  obtain ⟨its,rv,p,hz⟩:=I.tuple hq
  obtain ⟨u,hu,ru⟩:=rv.get hx
  obtain ⟨f0,f1,f2,f3,f4,f5⟩:=hf it (by simp)
  refine wpAny_pyNext_tuple_item st (show s.heap.IsTuple a its.toArray from p) (x:=u) (by simpa using hu) fun h' st' sb=>?_
  have I1:a6 X pins σ H { s with heap:=h' }:=I.turned (t':=s.toks) (fun b o hb e=>(sb.2 b hb).trans e) f0 f1 f3 f4 f5
  obtain ⟨o,e,c,d⟩:=id st'
  exact⟨u,rfl,oW (s:={ s with heap:=h' }) e c d (by decide) ⟨x,H,I1,ru,⟨rfl,fun ys hy=>by rw [I.tuple_inj hy hq]; exact hx⟩,st',fun b hb=>(hf b hb).1⟩⟩
 done:=by
  intro X hP hw hK hc i pins s σ H E I hf st hg
  subst hP hw hK
  obtain ⟨xs,hq,hx⟩:=hg
  obtain ⟨its,rv,p,hz⟩:=I.tuple hq
  obtain ⟨f0,f1,f2,f3,f4,f5⟩:=hf it (by simp)
  have hl:=rv.length
  exact wpAny_pyNext_tuple_end (I.ok.hd hc) st (show s.heap.IsTuple a its.toArray from p) (by simp; omega) fun h' eb=>⟨rfl,I.turned (t':=s.toks) (fun b o hb e=>eb b o hb e) f0 f1 f3 f4 f5⟩
 self:=fun _ _ _ _ _ st h=>wpAny_pyIter_tupleiter st h
theorem ae3 {P:Program}{w:World}{K:PySem.W.Frag}{tg:Expr} (it:Addr) (lo:Int) (n:Nat):gZ P w K tg (oX lo n) [it] it (fun i h=>IsRangeIter h it (lo+(i:Nat) * 1) ((n:Int) - (i:Nat)) 1) where
 mem:=by simp
 obj:=fun i h st b hb=>by
  have e:b=it:=by simpa using hb
  subst e
  exact⟨_,st,fun v z=>by
   have z':Data.fields _=Data.cell v:=z
   cases z'⟩
 keep:=fun i h h' st k=>k it (by simp) _ st
 item:=by
  intro X hP hw hK hc i pins s σ H E I hf st hg
  subst hP hw hK
  obtain ⟨f0,f1,f2,f3,f4,f5⟩:=hf it (by simp)
  have W:=Walks.range (prog:=X.prog) (w:=X.w) (I.ok.hd hc) it lo 1 n
  refine W.item i s _ _ hg st fun v h' tk hv st' kk=>?_
  obtain ⟨t,rfl⟩:=hv
  have I1:a6 X pins σ H { s with heap:=h',toks:=tk }:=I.turned (fun b o hb e=>kk b o (by simpa using hb) e) f0 f1 f3 f4 f5
  refine⟨_,rfl,oW (s:={ s with heap:=h',toks:=tk }) (n:="range_iterator") st' rfl rfl (by decide) ⟨.int (lo+i),H,I1,⟨t,?_⟩,⟨rfl,rfl⟩,st',fun b hb=>(hf b hb).1⟩⟩
  rw [Int.mul_one]
 done:=by
  intro X hP hw hK hc i pins s σ H E I hf st hg
  subst hP hw hK
  obtain ⟨f0,f1,f2,f3,f4,f5⟩:=hf it (by simp)
  exact wpAny_pyNext_range_end (I.ok.hd hc) st (by have:n<=i:=hg; omega) fun h' eb=>⟨rfl,I.turned (t':=s.toks) (fun b o hb e=>eb b o hb e) f0 f1 f3 f4 f5⟩
 self:=fun _ _ _ _ _ st h=>wpAny_pyIter_rangeiter st h
section
variable {X : Cx} {tg : Expr}
theorem ae4 {pins:List (Addr × Obj)}{σ:St}{H:Hp}{s:Shared}{R:It->Hp->Prop}{E:Value->Shared->Prop}{lo hi:Int}{t u v:Tok}{tk:Nat} (I:a6 X pins σ H s) (h1 : -(2 ^ 62)<=lo) (h2:lo < 2 ^ 62) (h3 : -(2 ^ 62)<=hi) (h4:hi < 2 ^ 62)
  (q:R (oX lo (hi - lo).toNat) H):wpAny (model X.prog X.w) X.A (pyIter (.ref s.heap.objs.size)) (xU X pins σ tg R) E { s with heap:=s.heap.push { cls:=.type "range",data:=.fields #[.int lo t,.int hi u,.int 1 v] },toks:=tk }:=by
 refine wpAny_pyIter_range (IsRange.new ..) (small_one h1 h2 h3 h4) ?_
 have I1:a6 X pins σ H { s with heap:=s.heap.push { cls:=.type "range",data:=.fields #[.int lo t,.int hi u,.int 1 v] },toks:=tk }:=I.kept fun b o e=>aW4 _ e
 refine⟨(s.heap.push { cls:=.type "range",data:=.fields #[.int lo t,.int hi u,.int 1 v] }).objs.size,[(s.heap.push { cls:=.type "range",data:=.fields #[.int lo t,.int hi u,.int 1 v] }).objs.size],_,_,H,rfl,
  I1.kept (t':=tk) fun b o e=>aW4 _ e,ae3 _ lo (hi - lo).toNat,?_,fun b hb=>?_,q⟩
 ·have e1:lo+((0:Nat):Int) * 1=lo:=by simp
  have e2:(((hi - lo).toNat:Nat):Int) - ((0:Nat):Int)=Builtin.Range.rangeSize lo hi 1:=by rw [rangeSize_one]; split <;> omega
  show IsRangeIter _ _ (lo+((0:Nat):Int) * 1) ((((hi - lo).toNat:Nat):Int) - ((0:Nat):Int)) 1
  rw [e1,e2]
  exact aY0 _ rfl
 ·have e:b=(s.heap.push { cls:=.type "range",data:=.fields #[.int lo t,.int hi u,.int 1 v] }).objs.size:=by simpa using hb
  subst e
  exact I1.fpOk (aX5 _) (I1.hok.fresh (aX5 _))
noncomputable def xV (ta:TA):TI:=fun σ H R=>ta σ H fun vs H1=>∃ j:Int,vs = [.int j]/\-(2 ^ 62)<=j/\j < 2 ^ 62/\R (oX 0 j.toNat) H1
theorem ae5 {a:Expr}{ta:TA}{p pos:Pos} (hg:Gl X "range") (hm:X.mg "range" = none) (ha:PA X [a] ta) (hs:starEach [a] X.env = [(false,eval a X.env)]:=by rfl):PI X tg (.Call (.Name "range" p) [a] [] pos) (xV ta):=by
 intro pins s σ H R I h
 refine Call_ (lI I hg hm boot_range (bj2 (aK (ha pos pins s σ H _ I h) fun us s1 ⟨vs,H1,I1,r1,q1⟩=>?_) hs rfl))
 obtain ⟨j,e,q1,q2,q⟩:=q1
 subst e
 cases r1 with
 | cons r rr=>
  cases rr
  obtain ⟨t,rfl⟩:=r
  exact call_range_1 (ae4 I1 (by omega) (by omega) q1 q2 (by simpa using q))
noncomputable def oY (wi:TI) (g:TG) (tb:TS):TS:=fun D σ H=>wi σ H fun J H1=>∃ W:Nat->Nat->St->Hp->Prop,(∃ m,W 0 m σ H1)/\∀ i m σ H,W i m σ H->
 (J.stop i H/\D.nx σ H) ∨ (J.go i H/\∃ N:St->Hp->Prop,(∀ σ' H',N σ' H'->∃ m',m' < m/\W (i+1) m' σ' H')/\∀ x H',J.yld i H x H'->g x σ H' fun σ2 H2=>tb { D with nx:=N,ct:=N,bk:=D.nx } σ2 H2)
noncomputable def nA (fp:List Addr) (h:Heap):List (Addr × Obj):=fp.filterMap fun b=>(h.get? b).map fun o=>(b,o)
theorem oZ {fp:List Addr}{h:Heap}{b:Addr}{o:Obj} (hb:b ∈ fp) (e:h.get? b=some o):(b,o) ∈ nA fp h:=List.mem_filterMap.mpr ⟨b,hb,by rw [e]; rfl⟩
theorem ae6 {fp:List Addr}{h:Heap}{p:Addr × Obj} (hp:p ∈ nA fp h):p.1 ∈ fp/\h.get? p.1=some p.2:=by
 obtain ⟨b,hb,e⟩:=List.mem_filterMap.mp hp
 cases q:h.get? b with
 | none=>rw [q] at e; cases e
 | some o=>
  rw [q] at e
  have e':(b,o)=p:=aZ0 e
  subst e'
  exact⟨hb,q⟩
theorem a6.pinned {pins:List (Addr × Obj)}{σ:St}{H:Hp}{s:Shared}{fp:List Addr} (I:a6 X pins σ H s) (hf:∀ b ∈ fp,g9 X pins H b) (ho:∀ b ∈ fp,∃ o,s.heap.get? b=some o/\∀ v,o.data ≠ .cell v):a6 X (pins ++ nA fp s.heap) σ H s:=
 I.pins_of fun p hp=>(ba2.mp hp).elim (fun z=>I.pin p (aZ5 _ z)) fun z=>by
  obtain ⟨hb,e⟩:=ae6 z
  obtain ⟨f0,f1,f2,_⟩:=hf p.1 hb
  obtain ⟨o,e',d⟩:=ho p.1 hb
  rw [e] at e'; cases e'
  exact⟨e,f0,f1,f2,d⟩
theorem a6.unpinned {pins pl:List (Addr × Obj)}{σ:St}{H:Hp}{s:Shared} (I:a6 X (pins ++ pl) σ H s):a6 X pins σ H s:=I.pins_of fun p hp=>I.pin p (aZ5 _ (bb1 _ hp))
theorem xW {iter:Expr}{body:List Stmt}{wi:TI}{g:TG}{tb:TS}{pos:Pos} (hp:PassesOwn (model X.prog X.w) X.A X.env X.xe) (hc:X.calm=true) (hi:PI X tg iter wi) (hg:PG X tg g) (hb:dN X body tb)
  (hs:∀ x,foldedSetIterable iter X.env x=pure x:=by intro _; rfl):PS X (.For tg iter body [] pos) (oY wi g tb):=by
 intro pins s σ H D I h
 refine wpAny_For (aK (hi pins s σ H _ I h) fun v s1 h1=>aK h1 fun itv s2 h2=>?_) hs
 obtain ⟨it,fp,tn,J,H2,e,I2,T,st2,f2,W,⟨m0,w0⟩,turn⟩:=h2
 subst e
 have stat:∀ {H':Hp},(∀ b ∈ fp,H' b=none)->∀ b ∈ fp,g9 X pins H' b:=fun hn b hb=>⟨hn b hb,(f2 b hb).2⟩
 refine codeAny_forLoop_any (fun n s'=>∃ i σ' H',a6 X pins σ' H' s'/\tn i s'.heap/\(∀ b ∈ fp,H' b=none)/\W i n σ' H') ?_ m0 ⟨0,σ,H2,I2,st2,fun b hb=>(f2 b hb).1,w0⟩
 rintro n s3 ⟨i,σ3,H3,I3,st3,fr3,w3⟩
 rcases turn i n σ3 H3 w3 with ⟨stop,qn⟩ | ⟨go,N,hN,step⟩
 ·refine bk5 hp (aK (T.done X rfl rfl rfl hc i pins s3 σ3 H3 X.xe I3 (stat fr3) st3 stop) fun r s4 ⟨hr,I4⟩=>?_)
  subst hr
  exact wpAny_execs_nil ⟨σ3,H3,I4,qn⟩
 ·refine bk5 hp (aK (T.item X rfl rfl rfl hc i pins s3 σ3 H3 X.xe I3 (stat fr3) st3 go) fun r s4 ⟨u,hr,h4⟩=>?_)
  subst hr
  refine bk5 hp (aK h4 fun _ s5 ⟨x,H5,I5,r5,y5,st5,fr5⟩=>?_)
  have I5':=I5.pinned (stat fr5) (T.obj _ _ st5)
  refine bk5 hp (aK (hg _ s5 σ3 H5 x u _ I5' r5 (step x H5 y5)) fun _ s6 ⟨σ6,H6,I6,q6⟩=>?_)
  refine bk5 hp (aK (hb _ s6 σ6 H6 _ I6 q6) fun f s7 q7=>?_)
  have again:∀ {σ7:St}{H7:Hp},a6 X (pins ++ nA fp s5.heap) σ7 H7 s7->N σ7 H7->∃ m,m < n/\∃ i σ' H',a6 X pins σ' H' s7/\tn i s7.heap/\(∀ b ∈ fp,H' b=none)/\W i m σ' H':=fun {σ7 H7} I7 n7=>by
   obtain ⟨m',hm,w7⟩:=hN σ7 H7 n7
   refine⟨m',hm,i+1,σ7,H7,I7.unpinned,T.keep _ _ _ st5 fun b hb o e=>(I7.pin (b,o) (aZ5 _ (aZ5 _ (oZ hb e)))).1,fun b hb=>?_,w7⟩
   obtain ⟨o,e,d⟩:=T.obj _ _ st5 b hb
   exact (I7.pin (b,o) (aZ5 _ (aZ5 _ (oZ hb e)))).2.1
  cases f with
  | next=>obtain ⟨σ7,H7,I7,n7⟩:=q7; exact again I7 n7
  | cont=>obtain ⟨σ7,H7,I7,n7⟩:=q7; exact again I7 n7
  | brk=>obtain ⟨σ7,H7,I7,q7⟩:=q7; exact⟨σ7,H7,I7.unpinned,q7⟩
  | ret v=>obtain ⟨x7,σ7,H7,I7,r7,q7⟩:=q7; exact⟨x7,σ7,H7,I7.unpinned,r7,q7⟩
end
noncomputable abbrev R2:=V->V->Hp->VK->Prop
noncomputable def cB (X:Cx) (f:Value->Value->Sem Value) (r:R2):Prop:=
 ∀ (pins:List (Addr × Obj)) (s:Shared) (σ:St) (H:Hp) (x y:V) (v u:Value) (Q:VK),a6 X pins σ H s->aP x v->aP y u->r x y H Q->
  wpAny (model X.prog X.w) X.A (f v u) (EP X pins σ Q) X.xe s
noncomputable def cJ (X:Cx) (f:Value) (r:List V->Hp->VK->Prop):Prop:=
 ∀ (pins:List (Addr × Obj)) (s:Shared) (σ:St) (H:Hp) (xs:List V) (us:List Value) (Q:VK),a6 X pins σ H s->aQ xs us->r xs H Q->
  wpAny (model X.prog X.w) X.A (call f us) (EP X pins σ Q) X.xe s
noncomputable def nB (r:R2) (ta tb:TE):TE:=fun σ H Q=>ta σ H fun x H1=>tb σ H1 fun y H2=>r x y H2 Q
noncomputable def rI (C:Int->Int->Prop) (g:Int->Int->V):R2:=fun x y H Q=>∃ i j,x = .int i/\y = .int j/\C i j/\Q (g i j) H
noncomputable def gA (g:Int->Int->V):R2:=fun x y H Q=>∃ i j,x = .int i/\y = .int j/\Q (g i j) H
section
variable {X : Cx} {a b c : Expr} {ta tb tc : TE} {pos : Pos}
theorem sX (ha:PE X a ta) (hb:PE X b tb) {pins:List (Addr × Obj)}{s:Shared}{σ:St}{H:Hp}{R:V->V->Hp->Prop} (I:a6 X pins σ H s)
  (h:ta σ H fun x H1=>tb σ H1 fun y H2=>R x y H2) {Q:Value->Shared->Prop}{f:Value->Value->Sem Value}
  (hf:∀ v u s2 x y H2,a6 X pins σ H2 s2->aP x v->aP y u->R x y H2->wpAny (model X.prog X.w) X.A (f v u) Q X.xe s2) :
  wpAny (model X.prog X.w) X.A (eval a X.env) (fun v s₁=>wpAny (model X.prog X.w) X.A (eval b X.env) (fun u s₂=>wpAny (model X.prog X.w) X.A (f v u) Q X.xe s₂) X.xe s₁) X.xe s:=by
 refine aK (ha pins s σ H _ I h) fun v s1 ⟨x,H1,I1,r1,q1⟩=>?_
 refine aK (hb pins s1 σ H1 _ I1 q1) fun u s2 ⟨y,H2,I2,r2,q2⟩=>?_
 exact hf v u s2 x y H2 I2 r1 r2 q2
theorem ae7 {op:Operator}{r:R2} (ho:cB X (binaryOp op) r) (ha:PE X a ta) (hb:PE X b tb):PE X (.BinOp a op b pos) (nB r ta tb):=by
 intro pins s σ H Q I h
 exact wpAny_BinOp (sX ha hb I h fun v u s2 x y H2 I2 rx ry q=>ho pins s2 σ H2 x y v u Q I2 rx ry q)
theorem sY {f:Value->Value->Sem Value}{C:Int->Int->Prop}{g:Int->Int->Int}
  (rule:∀ (i j:Int) (t u:Tok) (s:Shared) (Q:Value->Shared->Prop) (E:Value->Shared->Prop),C i j->Q (.int (g i j) s.toks) { s with toks:=s.toks+1 }->wpAny (model X.prog X.w) X.A (f (.int i t) (.int j u)) Q E s) :
  cB X f (rI C fun i j=>.int (g i j)):=by
 intro pins s σ H x y v u Q I rx ry h
 obtain ⟨i,j,rfl,rfl,hc,q⟩:=h
 obtain ⟨t,rfl⟩:=rx
 obtain ⟨t',rfl⟩:=ry
 exact rule i j t t' s _ _ hc ⟨.int (g i j),H,I.tok _,⟨_,rfl⟩,q⟩
theorem xX {f:Value->Value->Sem Value}{g:Int->Int->Int}
  (rule:∀ (i j:Int) (t u:Tok) (s:Shared) (Q:Value->Shared->Prop) (E:Value->Shared->Prop),Q (.int (g i j) s.toks) { s with toks:=s.toks+1 }->wpAny (model X.prog X.w) X.A (f (.int i t) (.int j u)) Q E s) :
  cB X f (gA fun i j=>.int (g i j)):=by
 intro pins s σ H x y v u Q I rx ry h
 obtain ⟨i,j,rfl,rfl,q⟩:=h
 obtain ⟨t,rfl⟩:=rx
 obtain ⟨t',rfl⟩:=ry
 exact rule i j t t' s _ _ ⟨.int (g i j),H,I.tok _,⟨_,rfl⟩,q⟩
theorem p5 {f:Value->Value->Sem Value}{g:Int->Int->Bool}
  (rule:∀ (i j:Int) (t u:Tok) (s:Shared) (Q:Value->Shared->Prop) (E:Value->Shared->Prop),Q (.bool (g i j)) s->wpAny (model X.prog X.w) X.A (f (.int i t) (.int j u)) Q E s) :
  cB X f (gA fun i j=>.bl (g i j)):=by
 intro pins s σ H x y v u Q I rx ry h
 obtain ⟨i,j,rfl,rfl,q⟩:=h
 obtain ⟨t,rfl⟩:=rx
 obtain ⟨t',rfl⟩:=ry
 exact rule i j t t' s _ _ ⟨.bl (g i j),H,I,rfl,q⟩
noncomputable def sZ (i j:Int):Prop:=0 < j/\j < 1073741824
noncomputable def nC (i j:Int):Prop:=(-(2 ^ 64) < i/\i < 2 ^ 64) ∨ (-(2 ^ 64) < j/\j < 2 ^ 64)
theorem nC.ok {i j:Int} (h:nC i j):IntMulOk i j:=by
 rcases h with ⟨h1,h2⟩ | ⟨h1,h2⟩
 ·exact .of_left (intBits_le_64 h1 h2)
 ·exact .of_right (intBits_le_64 h1 h2)
theorem ae8:cB X (binaryOp .Add) (gA fun i j=>.int (i+j)):=xX fun _ _ _ _ _ _ _ q=>add_int q
theorem ae9:cB X (binaryOp .Sub) (gA fun i j=>.int (i - j)):=xX fun _ _ _ _ _ _ _ q=>sub_int q
theorem af0:cB X (binaryOp .Mult) (rI nC fun i j=>.int (i * j)):=sY fun _ _ _ _ _ _ _ hc q=>mul_int q hc.ok
theorem af1:cB X (binaryOp .FloorDiv) (rI sZ fun i j=>.int (i / j)):=sY fun i j _ _ _ _ _ hc q=>by
 have h1:(0:Int) < j:=hc.1
 have h2:j < 1073741824:=hc.2
 exact floordiv_int (by omega) (by rw [Int.fdiv_eq_ediv_of_nonneg i (by omega)]; exact q) (.inl (PyProof.noPylong_small (by omega)))
theorem af2:cB X (binaryOp .Mod) (rI (fun _ j=>0 < j) fun i j=>.int (i % j)):=sY fun i j _ _ _ _ _ hc q=>by
 have h1:(0:Int) < j:=hc
 exact mod_int' (by omega) (by rw [Int.fmod_eq_emod_of_nonneg i (by omega)]; exact q)
end
noncomputable def xY:V->V->Bool
 | .non,.non=>true | .non,.int _=>true | .int _,.non=>true | .non,.bl _=>true | .bl _,.non=>true | .non,.str _=>true | .str _,.non=>true
 | .int _,.int _=>true | .bl _,.bl _=>true | .str _,.str _=>true | .byt _,.byt _=>true
 | .int _,.str _=>true | .str _,.int _=>true | .bl _,.str _=>true | .str _,.bl _=>true
 | _,_=>false
noncomputable def xZ:R2:=fun x y H Q=>xY x y=true/\Q (.bl (decide (x=y))) H
noncomputable def y8:R2:=fun x y H Q=>xY x y=true/\Q (.bl (!decide (x=y))) H
theorem y9 {i j:Int}:decide (V.int i=V.int j)=(i == j):=by
 rw [bc9]
 simp
theorem yA {i j:Bool}:decide (V.bl i=V.bl j)=(i == j):=by
 rw [bc9]
 simp
theorem yB {i j:Str}:decide (V.str i=V.str j)=(i == j):=by
 rw [bc9]
 simp
theorem yC {i j:Array UInt8}:decide (V.byt i=V.byt j)=(i.toList == j.toList):=by
 rw [bc9]
 cases i
 cases j
 simp
section
variable {X : Cx} {a b c : Expr} {ta tb tc : TE} {pos : Pos}
theorem bQ {pins:List (Addr × Obj)}{σ:St}{H:Hp}{s:Shared}{Q:VK}{k k':Bool} (I:a6 X pins σ H s) (q:Q (.bl k) H) (e:k=k'):EP X pins σ Q (.bool k') s:=by
 subst e
 exact⟨.bl k,H,I,rfl,q⟩
theorem yD:cB X (compareOp .Eq) xZ:=by
 intro pins s σ H x y v u Q I rx ry h
 obtain ⟨hs,q⟩:=h
 cases x with
 | non=>
  cases rx
  cases y with
  | non=>cases ry; exact PySem.EqNone.eq_none_none (bQ I q (by simp))
  | bl j=>cases ry; exact PySem.EqNone.eq_none_bool (bQ I q (by simp))
  | int j=>obtain ⟨t',rfl⟩:=ry; exact PySem.EqNone.eq_none_int (bQ I q (by simp))
  | str j=>obtain ⟨t',rfl⟩:=ry; exact PySem.EqNone.eq_none_str (bQ I q (by simp))
  | _=>exact absurd (show false=true from hs) aY9
 | bl i=>
  cases rx
  cases y with
  | non=>cases ry; exact PySem.EqNone.eq_bool_none (bQ I q (by simp))
  | bl j=>cases ry; exact eq_bool (bQ I q yA)
  | str j=>obtain ⟨t',rfl⟩:=ry; exact PySem.EqMixed.eq_bool_str (bQ I q (by simp))
  | _=>exact absurd (show false=true from hs) aY9
 | int i=>
  obtain ⟨t,rfl⟩:=rx
  cases y with
  | non=>cases ry; exact PySem.EqNone.eq_int_none (bQ I q (by simp))
  | int j=>obtain ⟨t',rfl⟩:=ry; exact eq_int (bQ I q y9)
  | str j=>obtain ⟨t',rfl⟩:=ry; exact PySem.EqMixed.eq_int_str (bQ I q (by simp))
  | _=>exact absurd (show false=true from hs) aY9
 | str i=>
  obtain ⟨t,rfl⟩:=rx
  cases y with
  | non=>cases ry; exact PySem.EqNone.eq_str_none (bQ I q (by simp))
  | bl j=>cases ry; exact PySem.EqMixed.eq_str_bool (bQ I q (by simp))
  | int j=>obtain ⟨t',rfl⟩:=ry; exact PySem.EqMixed.eq_str_int (bQ I q (by simp))
  | str j=>obtain ⟨t',rfl⟩:=ry; exact eq_str (bQ I q yB)
  | _=>exact absurd (show false=true from hs) aY9
 | byt i=>
  obtain ⟨t,rfl⟩:=rx
  cases y with
  | byt j=>obtain ⟨t',rfl⟩:=ry; exact PySem.W.eq_bytes (bQ I q yC)
  | _=>exact absurd (show false=true from hs) aY9
 | _=>cases y <;> exact absurd (show false=true from hs) aY9
theorem af3:cB X (compareOp .NotEq) y8:=by
 intro pins s σ H x y v u Q I rx ry h
 obtain ⟨hs,q⟩:=h
 cases x with
 | non=>
  cases rx
  cases y with
  | non=>cases ry; exact PySem.EqNone.ne_none_none (bQ I q (by simp))
  | bl j=>cases ry; exact PySem.EqNone.ne_none_bool (bQ I q (by simp))
  | int j=>obtain ⟨t',rfl⟩:=ry; exact PySem.EqNone.ne_none_int (bQ I q (by simp))
  | str j=>obtain ⟨t',rfl⟩:=ry; exact PySem.EqNone.ne_none_str (bQ I q (by simp))
  | _=>exact absurd (show false=true from hs) aY9
 | bl i=>
  cases rx
  cases y with
  | non=>cases ry; exact PySem.EqNone.ne_bool_none (bQ I q (by simp))
  | bl j=>cases ry; exact ne_bool (bQ I q (congrArg not yA))
  | str j=>obtain ⟨t',rfl⟩:=ry; exact PySem.EqMixed.ne_bool_str (bQ I q (by simp))
  | _=>exact absurd (show false=true from hs) aY9
 | int i=>
  obtain ⟨t,rfl⟩:=rx
  cases y with
  | non=>cases ry; exact PySem.EqNone.ne_int_none (bQ I q (by simp))
  | int j=>obtain ⟨t',rfl⟩:=ry; exact ne_int (bQ I q (congrArg not y9))
  | str j=>obtain ⟨t',rfl⟩:=ry; exact PySem.EqMixed.ne_int_str (bQ I q (by simp))
  | _=>exact absurd (show false=true from hs) aY9
 | str i=>
  obtain ⟨t,rfl⟩:=rx
  cases y with
  | non=>cases ry; exact PySem.EqNone.ne_str_none (bQ I q (by simp))
  | bl j=>cases ry; exact PySem.EqMixed.ne_str_bool (bQ I q (by simp))
  | int j=>obtain ⟨t',rfl⟩:=ry; exact PySem.EqMixed.ne_str_int (bQ I q (by simp))
  | str j=>obtain ⟨t',rfl⟩:=ry; exact ne_str (bQ I q (congrArg not yB))
  | _=>exact absurd (show false=true from hs) aY9
 | byt i=>
  obtain ⟨t,rfl⟩:=rx
  cases y with
  | byt j=>obtain ⟨t',rfl⟩:=ry; exact PySem.W.ne_bytes (bQ I q (congrArg not yC))
  | _=>exact absurd (show false=true from hs) aY9
 | _=>cases y <;> exact absurd (show false=true from hs) aY9
theorem p6:cB X (compareOp .Lt) (gA fun i j=>.bl (decide (i < j))):=p5 fun _ _ _ _ _ _ _ q=>lt_int q
theorem p9:cB X (compareOp .LtE) (gA fun i j=>.bl (decide (i<=j))):=p5 fun _ _ _ _ _ _ _ q=>le_int q
theorem af4:cB X (compareOp .Gt) (gA fun i j=>.bl (decide (j < i))):=p5 fun _ _ _ _ _ _ _ q=>gt_int q
theorem af5:cB X (compareOp .GtE) (gA fun i j=>.bl (decide (j<=i))):=p5 fun _ _ _ _ _ _ _ q=>ge_int q
theorem af6:cB X (compareOp .IsNot) (fun x y H Q=>y = .non/\Q (.bl (!decide (x = .non))) H):=by
 intro pins s σ H x y v u Q I rx ry h
 obtain ⟨rfl,q⟩:=h
 cases ry
 refine isnot_none_gen (bQ I q ?_)
 cases x <;> first
  | (cases rx; rfl)
  | (obtain ⟨t,rfl⟩:=rx; rfl)
theorem hB (b:Expr) {op:CmpOp} (h:op ≠ .In:=by decide) (h2:op ≠ .NotIn:=by decide):behindInMarks op b=false:=by
 have e1:(op == CmpOp.In)=false:=by cases op <;> first | rfl | exact absurd rfl h
 have e2:(op == CmpOp.NotIn)=false:=by cases op <;> first | rfl | exact absurd rfl h2
 cases b <;> simp [behindInMarks,e1,e2]
theorem af7 {op:CmpOp}{r:R2} (ho:cB X (compareOp op) r) (ha:PE X a ta) (hb:PE X b tb) (hm:behindInMarks op b=false):PE X (.Compare a [op] [b] pos) (nB r ta tb):=by
 intro pins s σ H Q I h
 exact wpAny_Compare1 (sX ha hb I h fun v u s2 x y H2 I2 rx ry q=>ho pins s2 σ H2 x y v u Q I2 rx ry q) hm
noncomputable def yE (t:TE):TT:=fun σ H Q=>t σ H fun x H'=>∃ k,x = .bl k/\Q k H'
theorem af8 {op:CmpOp}{r:R2} (ho:cB X (compareOp op) r) (ha:PE X a ta) (hb:PE X b tb) (hm:behindInMarks op b=false):PT X (.Compare a [op] [b] pos) (yE (nB r ta tb)):=by
 intro pins s σ H Q I h
 refine wpAny_isTrue_Compare1 (aK (ha pins s σ H _ I h) fun v s1 ⟨x,H1,I1,r1,q1⟩=>aK (hb pins s1 σ H1 _ I1 q1) fun u s2 ⟨y,H2,I2,r2,q2⟩=>
  aK (ho pins s2 σ H2 x y v u _ I2 r1 r2 q2) fun c s3 ⟨z,H3,I3,r3,k,e,q3⟩=>?_) hm
 subst e
 cases r3
 exact bf2 ⟨H3,I3,q3⟩
noncomputable def yF (r r':R2) (ta tb tc:TE):TE:=fun σ H Q=>ta σ H fun x H1=>tb σ H1 fun y H2=>r x y H2 fun z H3=>∃ k,z = .bl k/\
 (if k=true then tc σ H3 fun w' H4=>r' y w' H4 Q else Q (.bl false) H3)
theorem yG {op op':CmpOp}{r r':R2} (ho:cB X (compareOp op) r) (ho':cB X (compareOp op') r') (ha:PE X a ta) (hb:PE X b tb) (hc:PE X c tc)
  (hm:lastMarks [op,op'] [b,c]=false:=by with_unfolding_all rfl):PT X (.Compare a [op,op'] [b,c] pos) (yE (yF r r' ta tb tc)):=by
 intro pins s σ H Q I h
 refine isTrue_chain (aK (ha pins s σ H _ I h) fun v s1 ⟨x,H1,I1,r1,q1⟩=>test_link (aK (hb pins s1 σ H1 _ I1 q1) fun u s2 ⟨y,H2,I2,r2,q2⟩=>
  aK (ho pins s2 σ H2 x y v u _ I2 r1 r2 q2) fun d s3 ⟨z,H3,I3,r3,k,e,q3⟩=>?_)) hm
 subst e
 cases r3
 refine bf2 ?_
 cases k with
 | false=>
  obtain ⟨k',e',q'⟩:=q3
  cases e'
  exact ite_ff ⟨H3,I3,q'⟩
 | true=>
  refine ite_tt (test_last (aK (hc pins s3 σ H3 _ I3 q3) fun w' s4 ⟨z',H4,I4,r4,q4⟩=>aK (ho' pins s4 σ H4 y z' u w' _ I4 r2 r4 q4) fun d' s5 ⟨z2,H5,I5,r5,k2,e2,q5⟩=>?_))
  subst e2
  cases r5
  exact bf2 ⟨H5,I5,q5⟩
theorem pA:(sizeLine:Nat) < 2 ^ 63:=by rw [sizeLine_eq]; decide
theorem hG {x:V}{us:List Value} (r:aQ [x] us):∃ u,us = [u]/\aP x u:=by
 cases r with
 | cons r1 r2=>cases r2; exact⟨_,rfl,r1⟩
theorem kA {x y:V}{us:List Value} (r:aQ [x,y] us):∃ u w',us = [u,w']/\aP x u/\aP y w':=by
 cases r with
 | cons r1 r2=>
  cases r2 with
  | cons r3 r4=>cases r4; exact⟨_,_,rfl,r1,r3⟩
theorem af9 (hc:X.calm=true):cJ X (.builtin "max") (fun xs H Q=>∃ i j,xs = [.int i,.int j]/\Q (.int (if j > i then j else i)) H):=by
 intro pins s σ H xs us Q I r h
 obtain ⟨i,j,rfl,q⟩:=h
 obtain ⟨u,w',rfl,⟨t,rfl⟩,⟨t',rfl⟩⟩:=kA r
 refine max_two_ints (I.ok.hd hc) fun h' tk k=>⟨_,H,I.kept k,?_,q⟩
 by_cases hj:j > i
 ·rw [if_pos hj,if_pos hj]; exact⟨_,rfl⟩
 ·rw [if_neg hj,if_neg hj]; exact⟨_,rfl⟩
theorem ag0 (hc:X.calm=true):cJ X (.builtin "min") (fun xs H Q=>∃ i j,xs = [.int i,.int j]/\Q (.int (if j < i then j else i)) H):=by
 intro pins s σ H xs us Q I r h
 obtain ⟨i,j,rfl,q⟩:=h
 obtain ⟨u,w',rfl,⟨t,rfl⟩,⟨t',rfl⟩⟩:=kA r
 refine min_two_ints (I.ok.hd hc) fun h' tk k=>⟨_,H,I.kept k,?_,q⟩
 by_cases hj:j < i
 ·rw [if_pos hj,if_pos hj]; exact⟨_,rfl⟩
 ·rw [if_neg hj,if_neg hj]; exact⟨_,rfl⟩
theorem ag1:cJ X (.type "int") (fun xs H Q=>(∃ i,xs = [.int i]/\Q (.int i) H) ∨ ∃ k,xs = [.bl k]/\Q (.int (if k then 1 else 0)) H):=by
 intro pins s σ H xs us Q I r h
 rcases h with ⟨i,rfl,q⟩ | ⟨k,rfl,q⟩
 ·obtain ⟨u,rfl,t,rfl⟩:=hG r
  exact call_int_int ⟨.int i,H,I,⟨_,rfl⟩,q⟩
 ·obtain ⟨u,rfl,r1⟩:=hG r
  cases r1
  exact call_int_bool ⟨.int (if k then 1 else 0),H,I.tok _,⟨_,rfl⟩,q⟩
end
structure t0 (h:Heap) (x dx C:Addr) (mA:Str->Option Value):Prop where
 obj:h.get? x=some (PySem.W.instObj C dx)
 ns:h.Ns1 dx mA
 ne:dx ≠ x
theorem ag2 {h:Heap}{dx:Addr}{mA:Str->Option Value} (n:h.Ns1 dx mA):∃ od,h.get? dx=some od/\∀ name,PySem.W.lookIn name od=some (mA name):=by
 obtain ⟨o,es,ep,ho,hd,hk,_,hm⟩:=n
 refine⟨o,ho,fun name=>?_⟩
 have e:=hm name
 unfold nsFind findBy at e
 rw [<- Array.find?_toList] at e
 unfold PySem.W.lookIn
 rw [hd]
 dsimp only
 split
 ·rename_i y q
  rw [q] at e
  exact congrArg some e
 ·rename_i q
  rw [q] at e
  have a:es.toList.any (·.refKey)=false:=by
   rw [List.any_eq_false]
   intro y hy
   obtain ⟨z,t,hkey⟩:=hk y (Array.mem_toList_iff.mp hy)
   simp [DictEntry.refKey,hkey]
  have a' : ¬ es.toList.any (·.refKey)=true:=by rw [a]; exact aY9
  rw [if_neg a']
  exact congrArg some e
theorem t0.look {h:Heap}{x dx C:Addr}{mA:Str->Option Value} (I:t0 h x dx C mA):∃ od,PySem.W.InstAt h x (PySem.W.instObj C dx) C (some od)/\∀ name,PySem.W.lookIn name od=some (mA name):=
 let ⟨od,ho,hl⟩:=ag2 I.ns
 ⟨od,⟨I.obj,rfl,rfl,ho⟩,hl⟩
theorem fY.some_of {v:V}{o:Option Value} (r:fY (some v) o):∃ u,o=some u/\aP v u:=by
 cases o with
 | none=>exact (show False from r).elim
 | some u=>exact⟨u,rfl,r⟩
section
variable {P : Program} {w : World} {H H' : Hp} {h h' : Heap} {a C dx : Addr} {fs fs' : List (Str × V)}
theorem ag3 (hok:bK P w H h) (e:H a=some (.ins C dx fs)):∃ mA,t0 h a dx C mA/\(∀ f,fY (fs.lookup f) (mA f))/\PySem.Within mA (fs.map (·.1))/\fs.length<=1000/\H dx=some (.own a):=by
 obtain ⟨d,z,ne,ob,mA,n,r,q⟩:=(show bN P w H h a (.ins C dx fs) from hok a _ e)
 exact⟨mA,⟨ob,n,ne⟩,r,q,z,d⟩
end
structure t5 (K:PySem.W.Frag) (C:Addr):Prop where
 pg:PySem.W.plainGet K C Str.empty=true
 hd:PySem.W.hasDictIn K C=true
 po:PySem.W.plainOver K C=true
 sa:PySem.W.findIn K (.ref C) "__setattr__" = some (some (.builtin "object.__setattr__"))
theorem t5.get {K:PySem.W.Frag}{C:Addr} (c:t5 K C) (f:Str):PySem.W.plainGet K C f=true:=c.pg
section
variable {X : Cx} {pins : List (Addr × Obj)} {σ : St} {H : Hp} {s : Shared} {A : Around} {E : Value → Shared → Prop} {Q : Value → Shared → Prop} {c : Value} {b : Bool}
inductive fL (K:PySem.W.Frag) (H:Hp):V->Value->Prop where
 | non:fL K H .non (.type "NoneType")
 | bl (x:Bool):fL K H (.bl x) (.type "bool")
 | int (i:Int):fL K H (.int i) (.type "int")
 | str (x:Str):fL K H (.str x) (.type "str")
 | flt (x:UInt64):fL K H (.flt x) (.type "float")
 | lst {a:Addr}{xs:List V} (e:H a=some (.lst xs)):fL K H (.ref a) (.type "list")
 | frz {a:Addr}{o:Obj}{xs:List V} (e:H a=some (.frz o (.lst xs))):fL K H (.ref a) (.type "list")
 | tup {a:Addr}{xs:List V} (e:H a=some (.tup xs)):fL K H (.ref a) (.type "tuple")
 | dK {a:Addr}{kvs:List (aH × V)} (e:H a=some (.dK kvs)):fL K H (.ref a) (.type "dict")
 | dT {a:Addr}{kvs:List (List aH × V)} (e:H a=some (.dT kvs)):fL K H (.ref a) (.type "dict")
 | ins {a C dx:Addr}{fs:List (Str × V)} (e:H a=some (.ins C dx fs)) (cl:t5 K C) (ha:PySem.W.findIn K (.ref C) "__class__" = some (some (.builtin "object.__class__")))
   (hn:PySem.W.specialIn K (.builtin "object.__class__") "__get__" = some (some (.builtin "getset_descriptor.__get__"))) (htk:PySem.W.takesIn K (.builtin "object.__class__")=some true)
   (hm:PySem.W.mroIn K C (.type "object")=some true):fL K H (.ref a) (.ref C)
theorem ag4 {x:V}{u t:Value} (I:a6 X pins σ H s) (rx:aP x u) (ty:fL X.K H x t) (e:PySem.W.kitOne X.K t c=some b) (h:∀ tk,Q (.bool b) { s with toks:=tk }) :
  wpAny (model X.prog X.w) A (call (.builtin "isinstance") [u,c]) Q E s:=by
 cases ty with
 | non=>cases (show u=Value.none from rx); exact be9 PySem.W.kitx_none I.kIn bl8 e (fun z=>nomatch z) h
 | bl y=>cases (show u=Value.bool y from rx); exact be9 PySem.W.kitx_bool I.kIn bl8 e (fun z=>nomatch z) h
 | int i=>obtain ⟨t,q⟩:=(show ∃ t,u=Value.int i t from rx); cases q; exact be9 PySem.W.kitx_int I.kIn bl8 e (fun z=>nomatch z) h
 | str y=>obtain ⟨t,q⟩:=(show ∃ t,u=Value.str y t from rx); cases q; exact be9 PySem.W.kitx_str I.kIn bl8 e (fun z=>nomatch z) h
 | flt y=>obtain ⟨t,q⟩:=(show ∃ t,u=Value.float y t from rx); cases q; exact be9 PySem.W.kitx_float I.kIn bl8 e (fun z=>nomatch z) h
 | @lst a xs ea=>
  cases (show u=Value.ref a from rx)
  obtain ⟨_,_,n,_,h1⟩:=(show bN X.prog X.w H s.heap a (.lst xs) from I.hok a _ ea)
  exact be9 PySem.W.kitx_list I.kIn ⟨_,h1,rfl⟩ e (fun z=>nomatch z) h
 | @frz a ob xs ea=>
  cases (show u=Value.ref a from rx)
  obtain ⟨_,_,_,n,_,h1⟩:=(show bN X.prog X.w H s.heap a (.frz ob (.lst xs)) from I.hok a _ ea)
  exact be9 PySem.W.kitx_list I.kIn ⟨_,h1,rfl⟩ e (fun z=>nomatch z) h
 | @tup a xs ea=>
  cases (show u=Value.ref a from rx)
  obtain ⟨_,_,_,p,_⟩:=(show bN X.prog X.w H s.heap a (.tup xs) from I.hok a _ ea)
  obtain ⟨o,h1,h2,_⟩:=p
  exact be9 PySem.W.kitx_tuple I.kIn ⟨o,h1,h2⟩ e (fun z=>nomatch z) h
 | @dK a kvs ea=>
  cases (show u=Value.ref a from rx)
  obtain ⟨_,_,vs,_,p⟩:=(show bN X.prog X.w H s.heap a (.dK kvs) from I.hok a _ ea)
  obtain ⟨o,es,ep,h1,h2,_⟩:=p
  exact be9 PySem.W.kitx_dict I.kIn ⟨o,h1,h2.1⟩ e (fun z=>nomatch z) h
 | @dT a kvs ea=>
  cases (show u=Value.ref a from rx)
  obtain ⟨_,_,xs,_,o,es,ep,h1,h2,_⟩:=(show bN X.prog X.w H s.heap a (.dT kvs) from I.hok a _ ea)
  exact be9 PySem.W.kitx_dict I.kIn ⟨o,h1,h2.1⟩ e (fun z=>nomatch z) h
 | @ins a C dx fs ea cl ha hn htk hm=>
  cases (show u=Value.ref a from rx)
  obtain ⟨mA,O,_⟩:=ag3 I.hok ea
  obtain ⟨od,J,_⟩:=O.look
  exact be9 (PySem.W.kitx_own (cl.get _) cl.hd ha hn htk hm) I.kIn J e (fun z=>nomatch z) h
end
structure c6 (k:Nat) (A:Around):Prop where
 hd:A.handled=none
 dp:A.depth+3 * k+5 < recursionLimit
 un:A.units+16 * k+200 < cLine
theorem c6.mono {j k:Nat}{A:Around} (r:c6 k A) (h:j<=k):c6 j A:=⟨r.hd,by have:=r.dp; omega,by have:=r.un; omega⟩
theorem c6.deeper {k:Nat}{A:Around} (r:c6 (k+1) A) (env:Env):c6 k (A.deeper env):=
 ⟨r.hd,by have:=r.dp; show A.depth+1+3 * k+5 < _; omega,by have:=r.un; show A.units+3+16 * k+200 < _; omega⟩
theorem c6.depth {k:Nat}{A:Around} (r:c6 k A):A.depth < recursionLimit:=by have:=r.dp; omega
theorem c6.units {k:Nat}{A:Around} (r:c6 k A):A.units+64 < cLine:=by have:=r.un; omega
noncomputable def kB:TA:=fun _ H Q=>Q [] H
noncomputable def jG (ta:TE) (tr:TA):TA:=fun σ H Q=>ta σ H fun x H1=>tr σ H1 fun xs H2=>Q (x :: xs) H2
section
variable {X : Cx} {e : Expr} {es : List Expr} {te : TE} {t : TA} {pos : Pos}
theorem kC:PA X [] kB:=fun _ _ _ _ H Q I h=>Calls.spliced_nil ⟨[],H,I,.nil,h⟩
theorem iU (ha:PE X e te) (hr:PA X es t) (hs:starEach (e :: es) X.env=(false,eval e X.env) :: starEach es X.env:=by rfl):PA X (e :: es) (jG te t):=by
 intro pos pins s σ H Q I h
 rw [hs]
 show wpAny _ _ (spliced ((false,eval e X.env) :: backTo pos (starEach es X.env))) _ _ s
 refine Calls.spliced_cons (aK (ha pins s σ H _ I h) fun u s1 ⟨x,H1,I1,r1,q1⟩=>?_)
 exact aK (hr pos pins s1 σ H1 _ I1 q1) fun us s2 ⟨xs,H2,I2,r2,q2⟩=>⟨x :: xs,H2,I2,.cons r1 r2,q2⟩
noncomputable def yH (t:TA):TE:=fun σ H Q=>t σ H fun xs H1=>xs.length<=sizeLine/\∀ p,H1 p=none->Q (.ref p) (upd H1 p (.tup xs))
noncomputable def yI (t:TA):TE:=fun σ H Q=>t σ H fun xs H1=>xs.length<=sizeLine/\∀ p,H1 p=none->Q (.ref p) (upd H1 p (.lst xs))
theorem ag5 {x1} (h:PA X es t):PE X (.Tuple es x1 pos) (yH t):=by
 intro pins s σ H Q I hq
 refine wpAny_Tuple_spliced (aK (h pos pins s σ H _ I hq) fun us s1 ⟨xs,H1,I1,r,z,q⟩=>⟨by rw [<- r.length]; exact z,?_⟩)
 have hf:H1 s1.heap.objs.size=none:=I1.hok.fresh (aX5 _)
 refine⟨.ref s1.heap.objs.size,upd H1 s1.heap.objs.size (.tup xs),I1.laid (t':=s1.toks) (fun b u e=>aW4 _ e) (aX5 _) ?_,rfl,q _ hf⟩
 exact⟨z,us,r,⟨_,aY0 _ rfl,rfl,_,rfl⟩,iS.new _ _ rfl⟩
theorem ag6 (h:PA X es t):PE X (.List es pos) (yI t):=by
 intro pins s σ H Q I hq
 refine wpAny_List_spliced (aK (h pos pins s σ H _ I hq) fun us s1 ⟨xs,H1,I1,r,z,q⟩=>⟨by rw [<- r.length]; exact z,?_⟩)
 have hf:H1 s1.heap.objs.size=none:=I1.hok.fresh (aX5 _)
 refine⟨.ref s1.heap.objs.size,upd H1 s1.heap.objs.size (.lst xs),I1.laid (t':=s1.toks) (fun b u e=>aW4 _ e) (aX5 _) ?_,rfl,q _ hf⟩
 exact⟨z,us,0,r,aY0 _ rfl⟩
end
noncomputable abbrev Sp:=List V->Hp->VK->XK->Prop
noncomputable abbrev gK:=List Env->Hp->Shared->XK->Value->Shared->Prop
structure pB (P:Program) (w:World) (K:PySem.W.Frag) (mg:Str->Option Value) (base:Heap) (A:Around) (outer:List Env) (s:Shared) (H:Hp):Prop where
 frames:A.frames=some outer
 mod:Mod K mg base
 bs:∀ b o,base.get? b=some o->s.heap.get? b=some o/\H b=none
 bsz:base.objs.size<=s.heap.objs.size
 funs:s.heap.FunFrames base outer
 frf:∀ b ∈ bU outer,H b=none
 hok:bK P w H s.heap
 bare:AllBare s.gens
noncomputable def CE (outer:List Env) (P:Program) (w:World) (H:Hp) (s:Shared) (Q:VK) (u:Value) (s':Shared):Prop:=
 ∃ v H',s'.os=s.os/\AllBare s'.gens/\Un (bU outer) [] H H' s.heap s'.heap/\bK P w H' s'.heap/\aP v u/\Q v H'
noncomputable def CR (CX:gK) (outer:List Env) (P:Program) (w:World) (H:Hp) (s:Shared) (Q:VK) (E:XK) (r:Result) (s':Shared):Prop:=
 match r with
 | .ok (.ret u)=>CE outer P w H s Q u s'
 | .ok _=>False
 | .error e=>CX outer H s E e s'
structure dQ (P:Program) (w:World) (K:PySem.W.Frag) (mg:Str->Option Value) (base:Heap) (CX:gK) (k:Nat) (f:Addr) (fd:FuncData) (ps:List Str) (sp:Sp):Prop where
 len:∀ vs H Q E,sp vs H Q E->vs.length=ps.length
 run:∀ (A:Around) (outer:List Env) (s:Shared) (H:Hp) (args:Args) (us:List Value) (vs:List V) (Q:VK) (E:XK),c6 k A->pB P w K mg base A outer s H->BindsTo s fd args (ps.zip us)->aQ vs us->sp vs H Q E->
  codeAny (model P w) A (.call (.ref f) args) (CR CX outer P w H s Q E) s
theorem dQ.imp {P:Program}{w:World}{K:PySem.W.Frag}{mg:Str->Option Value}{base:Heap}{CX:gK}{k:Nat}{f:Addr}{fd:FuncData}{ps:List Str}{sp sp':Sp} (F:dQ P w K mg base CX k f fd ps sp)
  (h:∀ vs H Q E,sp' vs H Q E->sp vs H Q E):dQ P w K mg base CX k f fd ps sp':=
 ⟨fun vs H Q E q=>F.len vs H Q E (h _ _ _ _ q),fun A outer s H args us vs Q E hr he hb hv hs=>F.run A outer s H args us vs Q E hr he hb hv (h _ _ _ _ hs)⟩
section
variable {X : Cx} {pins : List (Addr × Obj)} {σ : St} {H : Hp} {s s' : Shared}
theorem a6.env0 (I:a6 X pins σ H s):pB X.prog X.w X.K X.mg X.base X.A X.stack s H:=
 ⟨I.ok.frames,I.ok.mod,I.bs,aZ8 I.ok.bsz I.sz,I.stack,I.stkFree,I.hok,I.bare⟩
theorem a6.after {Q:VK}{u:Value} (I:a6 X pins σ H s) (h:CE X.stack X.prog X.w H s Q u s'):EP X pins σ Q u s':=by
 obtain ⟨v,H',os,bare,un,hok,r,q⟩:=h
 obtain ⟨hh,g,d,t,os'⟩:=s'
 obtain rfl:os'=s.os:=os
 exact⟨v,H',I.call (h':=hh) (g':=g) (d':=d) (t':=t) (ch:=[]) un hok bare (fun b z=>absurd z (by simp)),r,q⟩
end
noncomputable def t6 (sp:Sp) (dvs:List V) (E:XK) (t:TA):TE:=fun σ H Q=>t σ H fun vs H1=>sp (vs ++ dvs) H1 Q E
noncomputable def kD (K:PySem.W.Frag) (fd:FuncData) (ps:List Str) (ds:List Value):Prop:=
 ∀ (s:Shared) (us:List Value),K.In s.heap->(us ++ ds).length=ps.length->BindsTo s fd ⟨us,[]⟩ (ps.zip (us ++ ds))
theorem kD.all {K:PySem.W.Frag}{fd:FuncData}{ps:List Str} (h:∀ us:List Value,us.length=ps.length->bindArgs fd ⟨us,[]⟩=pure (ps.zip us)):kD K fd ps []:=fun s us _ hl=>by
 rw [bb7] at hl ⊢
 exact .of_eq (h us hl)
noncomputable def nD (CX:gK) (X:Cx) (E:XK):Prop:=∀ (pins:List (Addr × Obj)) (σ:St) (H:Hp) (s:Shared) (e:Value) (s':Shared),a6 X pins σ H s->CX X.stack H s E e s'->X.xe e s'
section
variable {X : Cx} {CX : gK} {k : Nat} {f C : Addr} {fd : FuncData} {ps : List Str} {sp : Sp} {dvs : List V} {ds : List Value} {E : XK} {x m : Str} {p pos apos : Pos} {e o : Expr} {es : List Expr} {ta : TE} {t : TA}
theorem ag7 {pins:List (Addr × Obj)}{σ:St}{H:Hp}{s:Shared}{Q:VK}{us:List Value}{vs:List V} (F:dQ X.prog X.w X.K X.mg X.base CX k f fd ps sp) (hr:c6 k X.A) (hb:kD X.K fd ps ds) (hd:aQ dvs ds) (hx:nD CX X E)
  (I:a6 X pins σ H s) (r:aQ vs us) (h:sp (vs ++ dvs) H Q E):wpAny (model X.prog X.w) X.A (call (.ref f) us) (EP X pins σ Q) X.xe s:=by
 have r2:aQ (vs ++ dvs) (us ++ ds):=r.append hd
 have hl:(us ++ ds).length=ps.length:=by rw [<- r2.length]; exact F.len _ _ _ _ h
 refine wpAny_call (codeAny_mono (F.run X.A X.stack s H ⟨us,[]⟩ (us ++ ds) (vs ++ dvs) Q E hr I.env0 (hb s us I.kIn hl) r2 h) fun r s' hq=>?_)
 cases r with
 | error e=>exact hx pins σ H s e s' I hq
 | ok fl=>
  cases fl with
  | ret u=>exact I.after hq
  | next=>exact False.elim hq
  | brk=>exact False.elim hq
  | cont=>exact False.elim hq
theorem t7 (F:dQ X.prog X.w X.K X.mg X.base CX k f fd ps sp) (hr:c6 k X.A) (hg:Gl X x) (hm:X.mg x=some (.ref f)) (hk:PySem.W.keepIn X.K (.ref f)=true) (hb:kD X.K fd ps ds) (hd:aQ dvs ds) (hx:nD CX X E)
  (ha:PA X (e :: es) t) (hdb:(x == ("__debug__" : Str))=false:=by decide) (he:starEach (e :: es) X.env=(false,eval e X.env) :: starEach es X.env:=by rfl) (hpl:(backTo pos (starEach es X.env)).any (·.1)=false:=by rfl) :
  PE X (.Call (.Name x p) (e :: es) [] pos) (t6 sp dvs E t):=by
 intro pins s σ H Q I h
 refine wpAny_Call_Name_kw (sS I hg hm ?_ hdb)
 refine PySem.W.callWith_K (h₀:=X.base) I.ok.mod.kin hk (aK (ha pos pins s σ H _ I h) fun us s1 ⟨vs,H1,I1,r,q⟩=>⟨I1.kIn,?_⟩) he hpl
 exact ag7 F hr hb hd hx I1 r q
end
noncomputable def PK (X:Cx) (kws:List Keyword) (t:TA):Prop:=
 ∀ (pos:Pos) (pins:List (Addr × Obj)) (s:Shared) (σ:St) (H:Hp) (Q:List V->Hp->Prop),a6 X pins σ H s->t σ H Q->wpAny (model X.prog X.w) X.A (evalAll ((backToKw pos (keywordEach kws X.env)).map (·.2))) (AP X pins σ Q) X.xe s
structure FnScope (N P:List Str) (sc:Scope):Prop where
 kind:sc.kind = .function
 co:sc.isCoroutine=false
 gen:sc.isGenerator=false
 nd:N.Nodup
 pre:N.take P.length=P
 par:∀ x ∈ P,sc.names.lookup x=some .local ∨ sc.names.lookup x=some .cell
 nofree:∀ y ∈ sc.names,y.2 ≠ .free
theorem yJ {kindOf:Str->Option NameKind}{x:Str}:∀ {binds:List (Str × Value)}{m:Str->Option Value},(∀ v,(x,v) ∉ binds)->bindL kindOf binds m x=m x
 | [],_,_=>rfl
 | (n,v) :: r,m,h=>by
  unfold bindL
  rw [yJ fun w hw=>h w (aX0 _ hw)]
  split
  ·have:x ≠ n:=by rintro rfl; exact h v aX3
   simp [this]
  ·rfl
theorem yK {kindOf:Str->Option NameKind}{x:Str}:∀ {binds:List (Str × Value)}{m:Str->Option Value},(∀ v,(x,v) ∉ binds)->bindC kindOf binds m x=m x
 | [],_,_=>rfl
 | (n,v) :: r,m,h=>by
  unfold bindC
  rw [yK fun w hw=>h w (aX0 _ hw)]
  split
  ·rfl
  ·have:x ≠ n:=by rintro rfl; exact h v aX3
   simp [this]
theorem yL {kindOf:Str->Option NameKind}{x:Str}{v:Value}:∀ {P:List Str}{vs:List Value}{i:Nat}{m:Str->Option Value},P.Nodup->P[i]? = some x->vs[i]? = some v->kindOf x=some .local->
  bindL kindOf (P.zip vs) m x=some v
 | [],_,_,_,_,h,_,_=>by simp at h
 | _ :: _,[],_,_,_,_,h,_=>by simp at h
 | p :: P,w :: vs,0,m,nd,h1,h2,hk=>by
  simp at h1 h2; subst h1; subst h2
  show bindL kindOf ((p,w) :: P.zip vs) m p=_
  unfold bindL
  rw [yJ fun v hv=>(bb4.mp nd).1 (List.of_mem_zip hv).1,if_pos hk]
  simp
 | p :: P,w :: vs,i+1,m,nd,h1,h2,hk=>by
  show bindL kindOf ((p,w) :: P.zip vs) m x=_
  unfold bindL
  exact yL (i:=i) (bb4.mp nd).2 (by simpa using h1) (by simpa using h2) hk
theorem yM {kindOf:Str->Option NameKind}{x:Str}{v:Value}:∀ {P:List Str}{vs:List Value}{i:Nat}{m:Str->Option Value},P.Nodup->P[i]? = some x->vs[i]? = some v->kindOf x ≠ some .local->
  bindC kindOf (P.zip vs) m x=some v
 | [],_,_,_,_,h,_,_=>by simp at h
 | _ :: _,[],_,_,_,_,h,_=>by simp at h
 | p :: P,w :: vs,0,m,nd,h1,h2,hk=>by
  simp at h1 h2; subst h1; subst h2
  show bindC kindOf ((p,w) :: P.zip vs) m p=_
  unfold bindC
  rw [yK fun v hv=>(bb4.mp nd).1 (List.of_mem_zip hv).1,if_neg hk]
  simp
 | p :: P,w :: vs,i+1,m,nd,h1,h2,hk=>by
  show bindC kindOf ((p,w) :: P.zip vs) m x=_
  unfold bindC
  exact yM (i:=i) (bb4.mp nd).2 (by simpa using h1) (by simpa using h2) hk
noncomputable def gL (N:List Str) (vs:List V):St:=vs.map some ++ List.replicate (N.length - vs.length) none
noncomputable def dA (CX:gK) (P:Program) (w:World) (K:PySem.W.Frag) (mg:Str->Option Value) (base:Heap) (N:List Str) (qual:Str) (scope:Scope) (f:Addr) (cd:Value) (A:Around) (outer:List Env) (s:Shared) (H:Hp) (E:XK):Cx where
 prog:=P
 w:=w
 K:=K
 mg:=mg
 base:=base
 A:=A.deeper (envOfC qual scope s.heap.objs.size f cd)
 N:=N
 s₀:=s
 H₀:=H
 env:=envOfC qual scope s.heap.objs.size f cd
 outer:=outer
 stack:=envOfC qual scope s.heap.objs.size f cd :: outer
 ex:=[]
 calm:=true
 fn:=fun _=>true
 pn:=[]
 xe:=fun e s'=>wpAny (model P w) (A.deeper (envOfC qual scope s.heap.objs.size f cd)) (leaving (envOfC qual scope s.heap.objs.size f cd) e) (fun _ s''=>CX outer H s E e s'') (fun e' s''=>CX outer H s E e' s'') s'
theorem yN {sc:Scope}{n:Nat}{x:Str} (h:sc.names.lookup x=some .cell):∃ c,(cellsFrom n sc.names []).lookup x=some c:=by
 have q:=PySem.W.cellsFrom_some sc.names n [] (.inl h)
 exact Option.isSome_iff_exists.mp q
theorem ag8 {CX:gK}{P:Program}{w:World}{K:PySem.W.Frag}{mg:Str->Option Value}{base:Heap}{N ps:List Str}{qual:Str}{scope:Scope}{f:Addr}{cd:Value}{A:Around}{outer:List Env}{s s1:Shared}{H:Hp}{E:XK}{us:List Value}{vs:List V}
  (S:FnScope N ps scope) (hd:A.handled=none) (e0:pB P w K mg base A outer s H) (hl:vs.length=ps.length) (r:aQ vs us)
  (x:InCallC s s.heap.objs.size (bindL (envOfC qual scope s.heap.objs.size f cd).kindOf (ps.zip us) fun _=>none) (cellsFrom (s.heap.objs.size+1) scope.names []) (bindC (envOfC qual scope s.heap.objs.size f cd).kindOf (ps.zip us) fun _=>none) s1) :
  a6 (dA CX P w K mg base N qual scope f cd A outer s H E) [] (gL N vs) H s1:=by
 have hpl:ps.length<=N.length:=by have:=congrArg List.length S.pre; rw [bi3] at this; omega
 obtain ⟨h1,tk,rfl,hk⟩:=x.done
 have noA:∀ b:Addr,b ∉ (dA CX P w K mg base N qual scope f cd A outer s H E).ex:=fun b z=>absurd (show b ∈ ([]:List Addr) from z) (by simp)
 refine⟨⟨e0.mod,S.kind,rfl,rfl,aX5 _,fun y z c h1 h2=>?_,fun y hy=>?_,fun y c _ h=>?_,fun _=>hd,Around.frames_deeper e0.frames,.inr ⟨rfl,rfl⟩,fun b z=>absurd z (noA b),e0.bs,e0.bsz,fun b _ _=>noA b,fun b z=>absurd z (noA b),e0.funs,e0.frf⟩,
  rfl,e0.bare,Un.kept hk,⟨_,x.toInCall.ns,fun i y v h1 h2 h3=>?_⟩,fun y c h=>⟨_,x.cell y c h⟩,e0.hok.fresh (aX5 _),fun y c h=>?_,fun p hp=>absurd (show p ∈ ([]:List (Addr × Obj)) from hp) (by simp),e0.hok.kept hk,?_⟩
 ·exact name_of_addr x.apart (bc0 h1) (bc0 h2)
 ·have hy:scope.names.lookup y=some .cell ∨ scope.names.lookup y=some .free:=hy
  rcases hy with hy | hy
  ·exact yN hy
  ·exact absurd rfl (S.nofree _ (bc0 hy))
 ·exact bj1 (x.above y c (bc0 h))
 ·have hi:i < vs.length:=by
   unfold gL at h2
   by_cases hi:i < vs.length
   ·exact hi
   ·rw [bj6 (by simpa using hi)] at h2
    rw [List.getElem?_replicate] at h2
    split at h2 <;> cases h2
  have ha:vs[i]? = some v:=by
   unfold gL at h2
   rw [bi1 (by simpa using hi),aX1] at h2
   cases e:vs[i]? with
   | none=>rw [e] at h2; cases h2
   | some a=>rw [e] at h2; cases h2; rfl
  obtain ⟨u,hu,rv⟩:=r.get ha
  have hp:ps[i]? = some y:=by
   rw [<- S.pre,List.getElem?_take_of_lt (by omega)]; exact h1
  have ndP:ps.Nodup:=by rw [<- S.pre]; exact S.nd.sublist (List.take_sublist _ _)
  refine⟨u,rv,?_⟩
  rcases S.par y (bd2 hp) with k | k
  ·exact .inl ⟨k,yL ndP hp hu k⟩
  ·obtain ⟨c,e⟩:=yN (n:=s.heap.objs.size+1) k
   refine .inr ⟨.inl k,c,e,?_⟩
   have q:=x.cell y c e
   rw [yM ndP hp hu (by show scope.names.lookup y ≠ _; rw [k]; decide)] at q
   exact q
 ·exact e0.hok.fresh (bj1 (x.above y c (bc0 h)))
 ·unfold gL
  show _=N.length
  rw [aZ3,aW5,List.length_replicate]
  omega
theorem yO {CX:gK}{P:Program}{w:World}{K:PySem.W.Frag}{mg:Str->Option Value}{base:Heap}{k:Nat}{f:Addr}{name qual:Str}{params:Arguments}{body:List Stmt}{scope:Scope}{dV kV doc pm cdv ct oc:Value}{an od:Option Addr}
  {osl:Array (Option Value)}{N ps:List Str}{sp:Sp} (lk:K.lookup f=some ⟨oc,od,.func (PySem.W.fnOf name qual params body scope dV kV doc pm an cdv ct),osl⟩) (hcd:PySem.W.codeIn K cdv qual=true) (S:FnScope N ps scope)
  (len:∀ vs H Q E,sp vs H Q E->vs.length=ps.length)
  (hbody:∀ (A:Around) (outer:List Env) (s:Shared) (H:Hp) (vs:List V) (Q:VK) (E:XK),c6 k (A.deeper (envOfC qual scope s.heap.objs.size f cdv))->sp vs H Q E->
   ∃ t,dN (dA CX P w K mg base N qual scope f cdv A outer s H E) body t/\t { nx:=fun _ H'=>Q .non H',rt:=Q } (gL N vs) H) :
  dQ P w K mg base CX (k+1) f (PySem.W.fnOf name qual params body scope dV kV doc pm an cdv ct) ps sp:=by
 refine⟨len,fun A outer s H args us vs Q E hr e0 hb r hsp=>?_⟩
 have hl:=len _ _ _ _ hsp
 have KX:K.In s.heap:=e0.mod.kin.keeps fun b o e=>(e0.bs b o e).1
 have lim:s.heap.NoLimit:=e0.mod.nolimit.keeps fun b o e=>(e0.bs b o e).1
 have hkind:∀ y ∈ ps.zip us,scope.names.lookup y.1=some .local ∨ (scope.names.lookup y.1=some .cell/\((cellsFrom (s.heap.objs.size+1) scope.names []).lookup y.1).isSome=true):=fun ⟨n,v⟩ hy=>by
  rcases S.par n (List.of_mem_zip hy).1 with q | q
  ·exact .inl q
  ·exact .inr ⟨q,PySem.W.cellsFrom_some _ _ _ (.inl q)⟩
 refine codeAny_call_function hr.depth (KX _ _ lk) rfl S.co S.gen rfl (PySem.W.codeRec_of KX hcd) (hb _ _ _ _ ?_)
 refine wpAny_newFunctionEnv_cells S.kind hkind fun env he s1 x=>?_
 subst he
 refine⟨lim.keeps x.toInCall.keep,codeAny_func ?_⟩
 obtain ⟨t,ht,hq⟩:=hbody A outer s H vs Q E (hr.deeper _) hsp
 have I:a6 (dA CX P w K mg base N qual scope f cdv A outer s H E) [] (gL N vs) H s1:=ag8 S hr.hd e0 hl r x
 refine be6 (ht [] s1 (gL N vs) H _ I hq) (fun fl s' hs=>?_) fun e s' hs=>hs
 have fin:∀ {σ':St}{H':Hp}{v:V}{u:Value},a6 (dA CX P w K mg base N qual scope f cdv A outer s H E) [] σ' H' s'->aP v u->Q v H'->CE outer P w H s Q u s':=
  fun {σ' H' v u} J rv q=>⟨v,H',J.os,J.bare,J.base,J.hok,rv,q⟩
 cases fl with
 | ret u=>
  obtain ⟨v,σ',H',J,rv,q⟩:=hs
  exact fin J rv q
 | next=>
  obtain ⟨σ',H',J,q⟩:=hs
  exact fin (v:=V.non) (u:=Value.none) J rfl q
 | brk=>
  obtain ⟨_,_,_,q⟩:=hs
  exact False.elim q
 | cont=>
  obtain ⟨_,_,_,q⟩:=hs
  exact False.elim q
section
variable {X : Cx} {x : Str} {p pos : Pos} {e : Expr} {es : List Expr} {t : TA} {id T : String} {r : List V → Hp → VK → Prop}
noncomputable def t8 (r:List V->Hp->VK->Prop) (t:TA):TE:=fun σ H Q=>t σ H fun vs H1=>r vs H1 Q
theorem yP (hc:cJ X (.builtin id) r) (hg:Gl X x) (hm:X.mg x=none) (hv:bootBuiltins x=some (.builtin id)) (ha:PA X (e :: es) t) (hn:x ≠ "__name__":=by decide) (hdb:(x == ("__debug__" : Str))=false:=by decide)
  (he:starEach (e :: es) X.env=(false,eval e X.env) :: starEach es X.env:=by rfl) (hpl:(backTo pos (starEach es X.env)).any (·.1)=false:=by rfl):PE X (.Call (.Name x p) (e :: es) [] pos) (t8 r t):=by
 intro pins s σ H Q I h
 refine wpAny_Call_Name_kw (lI I hg hm hv ?_ hn hdb)
 exact PyProof.Rows.callWith_builtin1 (aK (ha pos pins s σ H _ I h) fun us s1 ⟨vs,H1,I1,r1,q1⟩=>hc pins s1 σ H1 vs us Q I1 r1 q1) he hpl
theorem ag9 (hc:cJ X (.type T) r) (hg:Gl X x) (hm:X.mg x=none) (hv:bootBuiltins x=some (.type T)) (ha:PA X (e :: es) t) (hn:x ≠ "__name__":=by decide) (hdb:(x == ("__debug__" : Str))=false:=by decide)
  (he:starEach (e :: es) X.env=(false,eval e X.env) :: starEach es X.env:=by rfl) (hpl:(backTo pos (starEach es X.env)).any (·.1)=false:=by rfl):PE X (.Call (.Name x p) (e :: es) [] pos) (t8 r t):=by
 intro pins s σ H Q I h
 refine wpAny_Call_Name_kw (lI I hg hm hv ?_ hn hdb)
 exact bj2 (aK (ha pos pins s σ H _ I h) fun us s1 ⟨vs,H1,I1,r1,q1⟩=>hc pins s1 σ H1 vs us Q I1 r1 q1) he hpl
end
end L2
namespace HT
open PySem PyProof.Rows
noncomputable def aL:List Int->List Int->Bool
 | [],[]=>false
 | [],_ :: _=>true
 | _ :: _,[]=>false
 | x :: xs,y :: ys=>if x=y then aL xs ys else decide (x < y)
theorem gM (x y:Int) (xs ys:List Int):aL (x :: xs) (y :: ys)=if x=y then aL xs ys else decide (x < y):=rfl
theorem pD:aL [] []=false:=rfl
theorem yQ (y:Int) (ys:List Int):aL [] (y :: ys)=true:=rfl
theorem yR (x:Int) (xs:List Int):aL (x :: xs) []=false:=rfl
theorem yS (A:Around) (s:Shared) (a:Int) (t:Tok) (c:Int) (u:Tok):∃ e,SeqAt.EqAt A s (.int a t) (.int c u) e/\(e=true ↔ a=c):=
 ⟨(a == c),SeqAt.EqAt.int_int a t c u,by simp⟩
theorem ah0 (A:Around) (s:Shared) (a:Int) (t:Tok) (c:Int) (u:Tok) (prog:Program) (w:World) (E:Value->Shared->Prop) (Q:Value->Shared->Prop) (h:Q (.bool (decide (a < c))) s) :
  wpAny (model prog w) A (richCompare .Lt (.int a t) (.int c u)) Q E s:=
 (PyProof.Rows.lt_int h:wpAny (model prog w) A (compareOp .Lt (.int a t) (.int c u)) Q E s)
section
open PySem.SeqAt
open PySem.MeetsSeq PySem.MeetsSeq2 PySem.MeetsSeq3
theorem ah1 (l b:Addr) (items items2:Array Value) (n n2:Nat) (dd dd2:Option Addr) (sl sl2:Array (Option Value)) (ns ms:List Int) (hi:IntsAre items.toList ns) (hj:IntsAre items2.toList ms) :
  Meets (Builtin.«tuple.__lt__» ⟨[.ref l,.ref b],[]⟩)
   (fun _ R s=>s.heap.get? l=some { cls:=.type "tuple",dict:=dd,data:=.seq items n,slots:=sl }/\s.heap.get? b=some { cls:=.type "tuple",dict:=dd2,data:=.seq items2 n2,slots:=sl2 }/\
    R (.ok (.ret (.bool (aL ns ms)))) s):=
 .of_wp fun prog w A R s h=>by
  obtain ⟨hp,g,d,tk,os⟩:=s; obtain ⟨hl,hb,h⟩:=h
  have f2:=AutoSeq1.sub_tuple_tuple
  have z1:items.size=ns.length:=by rw [<- hi.length]; simp
  have z2:items2.size=ms.length:=by rw [<- hj.length]; simp
  wp_walk using bf6 hl,bf6 hb,wpAny_forIn_list _ (fun cD b s'=>b.1=none/\s'=⟨hp,g,d,tk,os⟩/\∃ (vs ws:List Value) (ns' ms':List Int),cD=vs.zip ws/\
   IntsAre vs ns'/\IntsAre ws ms'/\ns'.length+items2.size=ms'.length+items.size/\R (.ok (.ret (.bool (aL ns' ms')))) ⟨hp,g,d,tk,os⟩) _
  case turn=>
   rintro ⟨y,x⟩ cD b s' ⟨hb',rfl,vs,ws,ns',ms',hz,hvi,hwi,hlen,hR⟩
   cases hvi with
   | nil=>rw [List.zip_nil_left] at hz; cases hz
   | cons a t hvi'=>
    cases hwi with
    | nil=>rw [List.zip_nil_right] at hz; cases hz
    | cons c u hwi'=>
     rw [bh0] at hz
     injection hz with hyx hrest
     injection hyx with hy hx
     subst hy hx
     rw [gM] at hR
     simp only [ba0] at hlen
     obtain ⟨e,he,hiff⟩:=yS A.in1 ⟨hp,g,d,tk,os⟩ a t c u
     refine aW2 (he prog w _ _ ?_)
     cases e with
     | true=>
      rw [if_pos (hiff.mp rfl)] at hR
      wp_walk
      exact⟨rfl,rfl,_,_,_,_,hrest,hvi',hwi',by omega,hR⟩
     | false=>
      rw [if_neg (fun q=>absurd (hiff.mpr q) aY9)] at hR
      have hri:=ah0 A.in1 ⟨hp,g,d,tk,os⟩ a t c u prog w
      wp_walk using hri
      exact⟨_,rfl,by simpa using hR⟩
  case fin=>
   rintro ⟨b1,b2⟩ s' ⟨hb',rfl,vs,ws,ns',ms',hz,hvi,hwi,hlen,hR⟩
   simp only at hb'
   subst hb'
   have hv:aL ns' ms'=decide (items.size < items2.size):=by
    cases hvi with
    | nil=>
     cases hwi with
     | nil=>
      simp only [bj0] at hlen
      rw [pD]
      exact (aW6 (by omega)).symm
     | cons c u hw=>
      simp only [bj0,ba0] at hlen
      rw [yQ]
      exact (aX2 (by omega)).symm
    | cons a t hv=>
     cases hwi with
     | nil=>
      simp only [bj0,ba0] at hlen
      rw [yR]
      exact (aW6 (by omega)).symm
     | cons c u hw=>
      rw [bh0] at hz
      cases hz
   rw [hv] at hR
   wp_walk
   exact⟨_,rfl,by simpa [Builtin.Tuple.tupleCompareSizes] using hR⟩
  case h=>
   exact⟨rfl,rfl,items.toList,items2.toList,ns,ms,rfl,hi,hj,by omega,h⟩
end
section
variable {prog : Program} {w : World} {A : Around} {E : Value → Shared → Prop} {s : Shared}
theorem yT {l b:Addr}{items items2:Array Value}{ns ms:List Int}{Q:Value->Shared->Prop} (hl:IsTup s.heap l items) (hb:IsTup s.heap b items2) (hi:IntsAre items.toList ns) (hj:IntsAre items2.toList ms)
  (hu:A.units < cLine) (h:Q (.bool (aL ns ms)) s):wpAny (model prog w) A (compareOp .Lt (.ref l) (.ref b)) Q E s:=by
 obtain ⟨⟨cls,dd,data,sl⟩,ho,hc,n,hd⟩:=id hl
 obtain ⟨⟨cls2,dd2,data2,sl2⟩,ho2,hc2,n2,hd2⟩:=id hb
 simp only at hc hd hc2 hd2
 subst hc hd hc2 hd2
 exact richCompare_meets_room (op:=.Lt) ⟨_,ho,rfl⟩ ⟨_,ho2,rfl⟩ PySem.F.slot_tuple_lt PySem.F.entry_tuple_lt (PySem.F.args_tuple_lt_2 _ _) (ah1 l b items items2 n n2 dd dd2 sl sl2 ns ms hi hj)
  ⟨ho,ho2,show Value.bool (aL ns ms) ≠ Value.notImplemented/\Q (.bool (aL ns ms)) s from ⟨(fun x=>nomatch x),h⟩⟩ hu
noncomputable def aV (n d:Nat):Option Int->Nat
 | none=>d
 | some v=>if v < 0 then (v+(n:Int)).toNat else min v.toNat n
theorem ah2 (n d:Nat):aV n d none=d:=rfl
theorem ah3 (n d:Nat) (hd:d<=n) (o:Option Int):aV n d o<=n:=by
 cases o with
 | none=>exact hd
 | some v=>
  show (if v < 0 then (v+(n:Int)).toNat else min v.toNat n)<=n
  by_cases hv:v < 0
  ·rw [if_pos hv]; omega
  ·rw [if_neg hv]; exact Nat.min_le_right _ _
theorem yU (v:Int) (n d:Nat):(if v < 0 then max (v+(n:Int)) 0 else min v (n:Int))=((aV n d (some v):Nat):Int):=by
 show (if v < 0 then max (v+(n:Int)) 0 else min v (n:Int))=(((if v < 0 then (v+(n:Int)).toNat else min v.toNat n):Nat):Int)
 by_cases hv:v < 0
 ·simp only [if_pos hv]; omega
 ·simp only [if_neg hv]; omega
theorem ah4 (lo hi:Option Int) (n:Nat):Builtin.Slice.sliceAdjust lo hi 1 (n:Int)=(((aV n 0 lo:Nat):Int),((aV n n hi:Nat):Int)):=by
 have h1 : ¬ ((1:Int) < 0):=by omega
 unfold Builtin.Slice.sliceAdjust
 simp only [h1,be4]
 refine bj7 ?_ ?_
 ·cases lo with
  | none=>rfl
  | some v=>exact yU v n 0
 ·cases hi with
  | none=>rfl
  | some v=>exact yU v n n
theorem ah5 (i j:Nat):Builtin.Slice.slicePlaces (i:Int) (j:Int) 1=j - i:=by
 unfold Builtin.Slice.slicePlaces
 have h1:(1:Int) > 0:=by omega
 simp only [h1,if_true,Int.ediv_one]
 split <;> omega
theorem yV {v:Value}{o:Option Int}{Q:Option Int->Shared->Prop} (p:IsPart v o) (h:Q o s):wpAny (model prog w) A (Builtin.Slice.slicePartIndex v) Q E s:=by
 cases p with
 | none=>exact slicePart_none h
 | int i t=>exact slicePart_int h
theorem yW {sl:Addr}{vl vu:Value}{lo hi:Option Int}{n:Nat}{Q:Int × Int × Nat->Shared->Prop} (hs:s.heap.IsSliceOf sl vl vu .none) (pl:IsPart vl lo) (pu:IsPart vu hi)
  (h:Q (((aV n 0 lo:Nat):Int),1,aV n n hi - aV n 0 lo) s):wpAny (model prog w) A (Builtin.Slice.sliceApplied (.ref sl) (pure (n:Int))) Q E s:=by
 obtain ⟨os,hos,hcs,hds⟩:=id hs
 unfold Builtin.Slice.sliceApplied Builtin.Slice.sliceFields
 refine aW2 (aW2 (bc6 hos hds (x:=vl) rfl (aW2 (bc6 hos hds (x:=vu) rfl (aW2 (bc6 hos hds (x:=.none) rfl (aW7 ?_)))))))
 refine aW2 (slicePart_none ?_)
 show wpAny _ _ (if ((1:Int) == 0)=true then _ else _) _ _ s
 rw [if_neg (by decide)]
 refine aW2 (yV pl (aW2 (yV pu (aW2 (aW7 ?_)))))
 show wpAny _ _ (match Builtin.Slice.sliceAdjust lo hi 1 (n:Int) with | (lo,hi)=>pure (lo,(1:Int),Builtin.Slice.slicePlaces lo hi 1)) _ _ s
 rw [ah4 lo hi n]
 show wpAny _ _ (pure (((aV n 0 lo:Nat):Int),(1:Int),Builtin.Slice.slicePlaces ((aV n 0 lo:Nat):Int) ((aV n n hi:Nat):Int) 1)) _ _ s
 rw [ah5]
 exact aW7 h
theorem ah6 (xs:Array Value) (i k:Nat):((List.range k).filterMap fun (m:Nat)=>xs[((i:Int)+(m:Int) * 1).toNat]?).toArray=((xs.toList.drop i).take k).toArray:=by
 have e:(fun (m:Nat)=>xs[((i:Int)+(m:Int) * 1).toNat]?)=fun m=>xs[i+m]?:=by
  funext m
  have:((i:Int)+(m:Int) * 1).toNat=i+m:=by omega
  rw [this]
 rw [e]
 have:=pick_run xs i k
 rw [List.filterMap_map] at this
 have e2:((fun x=>xs[x]?) ∘ fun x=>i+x)=fun m=>xs[i+m]?:=rfl
 rw [e2] at this
 rw [this]
theorem ah7 {t sl:Addr}{items:Array Value}{vl vu:Value}{lo hi:Option Int}{Q:Value->Shared->Prop} (ht:IsTup s.heap t items) (hs:s.heap.IsSliceOf sl vl vu .none) (pl:IsPart vl lo) (pu:IsPart vu hi)
  (hw : ¬ (aV items.size 0 lo=0/\aV items.size items.size hi=items.size))
  (h:Q (.ref s.heap.objs.size) { s with heap:=s.heap.push { cls:=.type "tuple",data:=.seq ((items.toList.drop (aV items.size 0 lo)).take (aV items.size items.size hi - aV items.size 0 lo)).toArray } })
  (hsz:items.size<=sizeLine):wpAny (model prog w) A (getItem (.ref t) (.ref sl)) Q E s:=by
 have htake:sizeOk (.seq ((items.toList.drop (aV items.size 0 lo)).take (aV items.size items.size hi - aV items.size 0 lo)).toArray):=by
  show ((items.toList.drop (aV items.size 0 lo)).take (aV items.size items.size hi - aV items.size 0 lo)).toArray.size<=sizeLine
  rw [aY2,bi3,List.length_drop,bh7]
  omega
 have hj:aV items.size items.size hi<=items.size:=ah3 _ _ (aX5 _) hi
 obtain ⟨os,hos,hcs,hds⟩:=id hs
 have hTs:s.TypeIs (.ref sl) "slice":=⟨os,hos,hcs⟩
 unfold getItem
 try with_reducible refine bf7 ?_
 first | refine aW2 (aW7 ?_) | skip
 refine aW2 (wpAny_sequenceKey ht.typeIs (by decide) ?_)
 refine aW2 (bc7 (name:=Str.ofString "__getitem__") ht.typeIs bi0
  (bd0 bi0 ht.typeIs entry_tuple_getitem ?_ (args_tuple_getitem _ _)))
 show wpAny _ _ (Builtin.Tuple.tupleItemsOf (.ref t) >>= _) _ _ s
 refine aW2 (tupleItemsOf_ ht ?_)
 refine aW2 (wpAny_typeOf hTs ?_)
 rw [if_pos (by decide)]
 refine aW2 (yW hs pl pu ?_)
 have hno : ¬ ((((aV items.size 0 lo:Nat):Int) == 0 && (1:Int) == 1 && (aV items.size items.size hi - aV items.size 0 lo) == items.size)=true):=by
  intro q
  rw [bb0,bb0] at q
  have q1:((aV items.size 0 lo:Nat):Int)=0:=eq_of_beq q.1.1
  have q2:aV items.size items.size hi - aV items.size 0 lo=items.size:=eq_of_beq q.2
  exact hw ⟨by omega,by omega⟩
 show wpAny _ _ (if (((aV items.size 0 lo:Nat):Int) == 0 && (1:Int) == 1 && (aV items.size items.size hi - aV items.size 0 lo) == items.size)=true then _ else _) _ _ s
 rw [if_neg hno,ah6]
 first
  | exact aW2 (m:=Builtin.Tuple.tupleExact _) (bb2 (aW7 ⟨_,rfl,aW7 h⟩) htake)
  | exact aW2 (m:=Builtin.Tuple.tupleExact _) (bb2 (aW2 (aW7 (aW7 ⟨_,rfl,aW7 h⟩))) htake)
  | exact aW2 (aW2 (m:=Builtin.Tuple.tupleExact _) (bb2 (aW7 (aW7 ⟨_,rfl,aW7 h⟩)) htake))
  | exact aW2 (aW2 (m:=Builtin.Tuple.tupleExact _) (bb2 (aW7 ⟨_,rfl,aW7 h⟩) htake))
end
end HT
namespace L2
open PySem PySem.Spec PyProof.Rows
noncomputable abbrev TO:=St->Hp->(Option Int->Hp->Prop)->Prop
noncomputable def PO (X:Cx) (e:Option Expr) (t:TO):Prop:=
 ∀ (pins:List (Addr × Obj)) (s:Shared) (σ:St) (H:Hp) (Q:Option Int->Hp->Prop),a6 X pins σ H s->t σ H Q->
  wpAny (model X.prog X.w) X.A (evalPart e X.env) (fun u s'=>∃ o H',a6 X pins σ H' s'/\IsPart u o/\Q o H') X.xe s
noncomputable def ah8:TO:=fun _ H Q=>Q none H
noncomputable def ah9 (t:TE):TO:=fun σ H Q=>t σ H fun x H1=>∃ i,x = .int i/\Q (some i) H1
theorem jH {ns:List Int}:∀ {us:List Value},aQ (ns.map V.int) us->IntsAre us ns:=by
 induction ns with
 | nil=>intro us r; rw [List.map_nil] at r; cases r; exact .nil
 | cons n ns ih=>
  intro us r
  rw [aY8] at r
  cases r with
  | cons r1 r2=>
   obtain ⟨t,e⟩:=r1
   subst e
   exact .cons n t (ih r2)
section
variable {X : Cx} {e : Expr} {te : TE} {lo hi : Option Expr} {tl th : TO} {pos p2 : Pos}
theorem ai0:PO X none ah8:=by
 intro pins s σ H Q I h
 rw [evalPart_none]
 exact aW7 ⟨none,H,I,.none,h⟩
theorem ai1 (h:PE X e te):PO X (some e) (ah9 te):=by
 intro pins s σ H Q I hw
 rw [evalPart_some]
 refine aK (h pins s σ H _ I hw) fun u s1 ⟨x,H1,I1,r1,q1⟩=>?_
 obtain ⟨i,rfl,q⟩:=q1
 obtain ⟨t,rfl⟩:=r1
 exact⟨some i,H1,I1,.int i t,q⟩
noncomputable def jI (X:Cx) (r:V->Option Int->Option Int->Hp->VK->Prop):Prop:=
 ∀ (pins:List (Addr × Obj)) (s:Shared) (σ:St) (H:Hp) (x:V) (v vl vu:Value) (lo hi:Option Int) (sl:Addr) (Q:VK),a6 X pins σ H s->aP x v->s.heap.IsSliceOf sl vl vu .none->IsPart vl lo->IsPart vu hi->r x lo hi H Q->
  ∃ T id,typeLookup (.type T) "__getitem__" = pure (some (.builtin id))/\s.TypeIs v T/\wpAny (model X.prog X.w) X.A (getItem v (.ref sl)) (EP X pins σ Q) X.xe s
theorem jI.or {r r':V->Option Int->Option Int->Hp->VK->Prop} (h:jI X r) (h':jI X r'):jI X (fun x lo hi H Q=>r x lo hi H Q ∨ r' x lo hi H Q):=by
 intro pins s σ H x v vl vu lo hi sl Q I rx hs pl pu q
 rcases q with q | q
 ·exact h pins s σ H x v vl vu lo hi sl Q I rx hs pl pu q
 ·exact h' pins s σ H x v vl vu lo hi sl Q I rx hs pl pu q
noncomputable def tSl (r:V->Option Int->Option Int->Hp->VK->Prop) (te:TE) (tl th:TO):TE:=fun σ H Q=>te σ H fun x H1=>tl σ H1 fun l H2=>th σ H2 fun u H3=>r x l u H3 Q
theorem ai2 {r:V->Option Int->Option Int->Hp->VK->Prop} (hr:jI X r) (he:PE X e te) (hl:PO X lo tl) (hu:PO X hi th):PE X (.Subscript e (.Slice lo hi none p2) pos) (tSl r te tl th):=by
 intro pins s σ H Q I h
 refine Subscript_ (aK (he pins s σ H _ I h) fun v s1 ⟨x,H1,I1,r1,q1⟩=>?_)
 refine wpAny_Slice (aK (hl pins s1 σ H1 _ I1 q1) fun vl s2 ⟨l,H2,I2,pl,q2⟩=>aK (hu pins s2 σ H2 _ I2 q2) fun vu s3 ⟨u,H3,I3,pu,q3⟩=>?_)
 rw [evalPart_none]
 refine aW7 ?_
 have I4:a6 X pins σ H3 { s3 with heap:=s3.heap.push { cls:=.type "slice",data:=.fields #[vl,vu,.none] } }:=I3.kept (t':=s3.toks) fun b ob q=>aW4 _ q
 obtain ⟨T,id,hT,ht,hg⟩:=hr pins { s3 with heap:=s3.heap.push { cls:=.type "slice",data:=.fields #[vl,vu,.none] } } σ H3 x v vl vu l u s3.heap.objs.size Q I4 r1 (Heap.IsSliceOf.new ..) pl pu q3
 show wpAny (model X.prog X.w) X.A (subscriptTail e (.Slice lo hi none p2) v (.ref s3.heap.objs.size)) (EP X pins σ Q) X.xe { s3 with heap:=s3.heap.push { cls:=.type "slice",data:=.fields #[vl,vu,.none] } }
 exact tail_any (ops:=[.ref s3.heap.objs.size,v]) ht hT hg (by with_unfolding_all rfl)
noncomputable def hJ (xs:List V) (lo hi:Option Int):List V:=(xs.drop (HT.aV xs.length 0 lo)).take (HT.aV xs.length xs.length hi - HT.aV xs.length 0 lo)
theorem yX (xs:List V) (lo hi:Option Int):(hJ xs lo hi).length<=xs.length:=by
 unfold hJ
 rw [bi3,List.length_drop]
 omega
noncomputable def ai3 (K:PySem.W.Frag):V->Option Int->Option Int->Hp->VK->Prop:=fun x lo hi H Q=>∃ a xs,x = .ref a/\aR K H a xs/\
 ¬ (HT.aV xs.length 0 lo=0/\HT.aV xs.length xs.length hi=xs.length)/\∀ p,H p=none->Q (.ref p) (upd H p (.tup (hJ xs lo hi)))
theorem ai4:jI X (ai3 X.K):=by
 intro pins s σ H x v vl vu lo hi sl Q I rx hs pl pu h
 obtain ⟨a,xs,rfl,hx,hw,q⟩:=h
 cases rx
 obtain ⟨its,r,ht,hz⟩:=I.tuple hx
 have hlen:its.toArray.size=xs.length:=by rw [aY2]; exact r.length.symm
 refine⟨"tuple",_,PyProof.Rows.slot_tuple_getitem.lookup,ht.typeIs,?_⟩
 refine HT.ah7 ht hs pl pu (by rw [hlen]; exact hw) ?_ (by rw [hlen]; exact hz)
 rw [hlen]
 refine⟨.ref s.heap.objs.size,_,I.laid (t':=s.toks) (o:=.tup (hJ xs lo hi)) (fun b ob q=>aW4 _ q) (aX5 _) ?_,rfl,q _ (I.hok.fresh (aX5 _))⟩
 exact⟨aZ8 (yX xs lo hi) hz,_,(r.drop (HT.aV xs.length 0 lo)).take (HT.aV xs.length xs.length hi - HT.aV xs.length 0 lo),IsTup.new _ _,iS.new _ _ rfl⟩
noncomputable def t9 (K:PySem.W.Frag):R2:=fun x y H Q=>∃ a b ns ms,x = .ref a/\y = .ref b/\aR K H a (ns.map V.int)/\aR K H b (ms.map V.int)/\Q (.bl (HT.aL ns ms)) H
theorem yY (hu:X.A.units < cLine):cB X (compareOp .Lt) (t9 X.K):=by
 intro pins s σ H x y v u Q I rx ry h
 obtain ⟨a,b,ns,ms,rfl,rfl,ha,hb,q⟩:=h
 cases rx
 cases ry
 obtain ⟨its,r1,p1,_⟩:=I.tuple ha
 obtain ⟨its2,r2,p2,_⟩:=I.tuple hb
 have i1:IntsAre its.toArray.toList ns:=jH r1
 have i2:IntsAre its2.toArray.toList ms:=jH r2
 exact HT.yT p1 p2 i1 i2 hu ⟨.bl (HT.aL ns ms),H,I,rfl,q⟩
end
noncomputable def kE (n:Nat) (i:Int):Option Nat:=if 0<=i then (if i < n then some i.toNat else none) else if -(n:Int)<=i then some (i+n).toNat else none
noncomputable def atI {α:Type} (xs:List α) (i:Int):Option α:=(kE xs.length i).bind fun j=>xs[j]?
theorem ai5 {n:Nat}{i:Int}{j:Nat} (h:kE n i=some j):seqIndex? i n=some j/\j < n/\-(n:Int)<=i/\i < n:=by
 unfold kE at h
 by_cases h0:0<=i
 ·rw [if_pos h0] at h
  by_cases h1:i < n
  ·rw [if_pos h1] at h
   have e:i.toNat=j:=aZ0 h
   exact⟨by rw [seqIndex_of h0 h1,e],by omega,by omega,h1⟩
  ·rw [if_neg h1] at h; cases h
 ·rw [if_neg h0] at h
  by_cases h1 : -(n:Int)<=i
  ·rw [if_pos h1] at h
   have e:(i+n).toNat=j:=aZ0 h
   exact⟨by rw [seqIndex_neg (by omega) h1,e],by omega,h1,by omega⟩
  ·rw [if_neg h1] at h; cases h
theorem tD {α:Type}{xs:List α}{i:Int}{v:α} (h:atI xs i=some v):∃ j,seqIndex? i xs.length=some j/\xs[j]? = some v/\j < xs.length/\-(xs.length:Int)<=i/\i < xs.length:=by
 unfold atI at h
 cases e:kE xs.length i with
 | none=>rw [e] at h; cases h
 | some j=>
  rw [e] at h
  obtain ⟨h1,h2,h3,h4⟩:=ai5 e
  exact⟨j,h1,h,h2,h3,h4⟩
theorem yZ {α:Type}{xs:List α}{j:Nat}{v:α} (h:xs[j]? = some v):atI xs (j:Int)=some v:=by
 have hj:j < xs.length:=(aX7.mp h).1
 have e:kE xs.length (j:Int)=some j:=by
  unfold kE
  rw [if_pos (by omega),if_pos (by omega)]; simp
 unfold atI; rw [e]; exact h
noncomputable def z9 (b:Expr):Prop:=∀ o i,subscripted b false o i=operate [o,i] (getItem o i)
noncomputable def iV (X:Cx) (r:R2):Prop:=
 ∀ (value slice:Expr) (pins:List (Addr × Obj)) (s:Shared) (σ:St) (H:Hp) (x y:V) (v u:Value) (Q:VK),a6 X pins σ H s->aP x v->aP y u->r x y H Q->
  subscripted slice false v u=operate [v,u] (getItem v u)->wpAny (model X.prog X.w) X.A (subscriptTail value slice v u) (EP X pins σ Q) X.xe s
noncomputable def MtR (X:Cx) (id:String) (r:V->List V->Hp->VK->Prop):Prop:=
 ∀ (pins:List (Addr × Obj)) (s:Shared) (σ:St) (H:Hp) (x:V) (xs:List V) (v:Value) (us:List Value) (Q:VK),a6 X pins σ H s->aP x v->aQ xs us->r x xs H Q->
  wpAny (model X.prog X.w) X.A (call (.builtin id) (v :: us)) (EP X pins σ Q) X.xe s
section
variable {X : Cx} {a b : Expr} {ta tb : TE} {pos : Pos}
theorem iV.or {r r':R2} (h:iV X r) (h':iV X r'):iV X (fun x y H Q=>r x y H Q ∨ r' x y H Q):=by
 intro value slice pins s σ H x y v u Q I rx ry q hs
 rcases q with q | q
 ·exact h value slice pins s σ H x y v u Q I rx ry q hs
 ·exact h' value slice pins s σ H x y v u Q I rx ry q hs
theorem ai6 {r:R2} (hr:iV X r) (ha:PE X a ta) (hb:PE X b tb) (hs:z9 b):PE X (.Subscript a b pos) (nB r ta tb):=by
 intro pins s σ H Q I h
 exact Subscript_ (sX ha hb I h fun v u s2 x y H2 I2 rx ry q=>hr a b pins s2 σ H2 x y v u Q I2 rx ry q (hs _ _))
noncomputable def zA (K:PySem.W.Frag):R2:=fun x y H Q=>∃ p xs i v,x = .ref p/\y = .int i/\aU K H p xs/\atI xs i=some v/\Q v H
noncomputable def zB (K:PySem.W.Frag):R2:=fun x y H Q=>∃ p xs i v,x = .ref p/\y = .int i/\aR K H p xs/\atI xs i=some v/\Q v H
noncomputable def zC:R2:=fun x y H Q=>∃ z i c,x = .str z/\y = .int i/\z.length<=sizeLine/\atI z.cps.toList i=some c/\Q (.str ⟨#[c]⟩) H
theorem ai7:iV X (zA X.K):=by
 intro value slice pins s σ H x y v u Q I rx ry h hs
 obtain ⟨p,xs,i,z,rfl,rfl,hq,he,q⟩:=h
 cases rx
 obtain ⟨t,rfl⟩:=ry
 obtain ⟨its,r,pl,hz⟩:=I.list hq
 obtain ⟨j,h1,h2,h3,h4,h5⟩:=tD he
 obtain ⟨w,ew,rw'⟩:=r.get h2
 have hl:=r.length
 have hn:=pA
 have fin:EP X pins σ Q w s:=⟨z,H,I,rw',q⟩
 by_cases h0:0<=i
 ·have hj:i.toNat=j:=by
   rw [seqIndex_of h0 h5] at h1
   exact aZ0 h1
  exact item_listR pl.isList h0 (by omega) (by rw [hj]; simpa using ew) fin hs
 ·have hj:(i+(its.toArray.size:Int)).toNat=j:=by
   rw [seqIndex_neg (by omega) h4] at h1
   rw [aY2,<- hl]
   exact aZ0 h1
  exact subscriptTail_builtinR (x:=w) pl.isList.typeIs slot_list_getitem.lookup
   (wpAny_getItem_list_neg (Q:=fun r s'=>r=w/\EP X pins σ Q r s') pl.isList (by omega) (by rw [aY2] <;> omega) (by omega) (by rw [hj]; simpa using ew) ⟨rfl,fin⟩) hs
theorem ai8:iV X (zB X.K):=by
 intro value slice pins s σ H x y v u Q I rx ry h hs
 obtain ⟨p,xs,i,z,rfl,rfl,hq,he,q⟩:=h
 cases rx
 obtain ⟨t,rfl⟩:=ry
 obtain ⟨its,r,pl,hz⟩:=I.tuple hq
 obtain ⟨j,h1,h2,h3,h4,h5⟩:=tD he
 obtain ⟨w,ew,rw'⟩:=r.get h2
 have hl:=r.length
 have hn:=pA
 have fin:EP X pins σ Q w s:=⟨z,H,I,rw',q⟩
 exact subscriptTail_builtinR (x:=w) pl.typeIs slot_tuple_getitem.lookup
  (getItem_tuple (j:=j) (Q:=fun r s'=>r=w/\EP X pins σ Q r s') pl (by omega) (by omega) (by rw [aY2,<- hl]; exact h1) (by simpa using ew) ⟨rfl,fin⟩) hs
theorem ai9:iV X zC:=by
 intro value slice pins s σ H x y v u Q I rx ry h hs
 obtain ⟨z,i,c,rfl,rfl,hz,he,q⟩:=h
 obtain ⟨t,rfl⟩:=rx
 obtain ⟨t',rfl⟩:=ry
 obtain ⟨j,h1,h2,h3,h4,h5⟩:=tD he
 have hl:z.cps.toList.length=z.length:=by simp [Str.length]
 rw [hl] at h1 h4 h5
 have hn:=pA
 exact tail_any (typeIs_str s z t) slot_str_getitem.lookup (getItem_str (c:=c) (by
  have e1:decide (i < -(2 ^ 63:Int))=false:=aW6 (by omega)
  have e2:decide (i >= 2 ^ 63)=false:=aW6 (by omega)
  rw [e1,e2,Bool.or_false]) (by rw [h1]; simpa using h2) ⟨.str ⟨#[c]⟩,H,I.tok _,⟨_,rfl⟩,q⟩) hs
noncomputable def zD (K:PySem.W.Frag):R2:=fun x y H Q=>zA K x y H Q ∨ zB K x y H Q ∨ zC x y H Q
theorem aj0:iV X (zD X.K):=ai7.or (ai8.or ai9)
theorem aj1 (lo hi:Option Int) (n:Nat):(sliceBounds lo hi none n).1=((HT.aV n 0 lo:Nat):Int)/\(sliceBounds lo hi none n).2.1=((HT.aV n n hi:Nat):Int)/\(sliceBounds lo hi none n).2.2=1:=by
 refine⟨?_,?_,rfl⟩
 ·cases lo with
  | none=>simp [sliceBounds,HT.aV]
  | some i=>
   simp only [sliceBounds,HT.aV,Option.getD_none,show (1:Int) > 0 by decide,if_true]
   by_cases h:i < 0
   ·simp only [h,if_true] <;> omega
   ·simp only [h,be4] <;> omega
 ·cases hi with
  | none=>simp [sliceBounds,HT.aV]
  | some i=>
   simp only [sliceBounds,HT.aV,Option.getD_none,show (1:Int) > 0 by decide,if_true]
   by_cases h:i < 0
   ·simp only [h,if_true] <;> omega
   ·simp only [h,be4] <;> omega
theorem aj2 (its:List Value) (lo hi:Option Int):slicePick its.toArray lo hi none=((its.drop (HT.aV its.length 0 lo)).take (HT.aV its.length its.length hi - HT.aV its.length 0 lo)).toArray:=by
 obtain ⟨h1,h2,h3⟩:=aj1 lo hi its.toArray.size
 unfold slicePick
 rw [h1,h2,h3]
 simp only [sliceRange_one,pick_run,aY2] <;> rfl
noncomputable def aj3 (K:PySem.W.Frag):V->Option Int->Option Int->Hp->VK->Prop:=fun x lo hi H Q=>∃ a xs,x = .ref a/\aU K H a xs/\∀ p,H p=none->Q (.ref p) (upd H p (.lst (hJ xs lo hi)))
theorem aj4:jI X (aj3 X.K):=by
 intro pins s σ H x v vl vu lo hi sl Q I rx hs pl pu h
 obtain ⟨a,xs,rfl,hx,q⟩:=h
 cases rx
 obtain ⟨its,r,ht,hz⟩:=I.list hx
 have hlen:=r.length
 refine⟨"list",_,slot_list_getitem.lookup,ht.isList.typeIs,?_⟩
 refine wpAny_getItem_list_slice ht.isList hs pl pu .none (by simp) ?_ (by rw [aY2] <;> omega)
 rw [aj2,<- hlen]
 refine⟨.ref s.heap.objs.size,_,I.laid (t':=s.toks) (o:=.lst (hJ xs lo hi)) (fun b ob q=>aW4 _ q) (aX5 _) ?_,rfl,q _ (I.hok.fresh (aX5 _))⟩
 exact⟨aZ8 (yX xs lo hi) hz,_,0,(r.drop (HT.aV xs.length 0 lo)).take (HT.aV xs.length xs.length hi - HT.aV xs.length 0 lo),aY0 _ rfl⟩
theorem aj5:cJ X (.builtin "len") (fun xs H Q=>∃ p ys,xs = [.ref p]/\(aU X.K H p ys ∨ aR X.K H p ys)/\Q (.int ys.length) H):=by
 intro pins s σ H xs us Q I r h
 obtain ⟨p,ys,rfl,hq,q⟩:=h
 obtain ⟨u,rfl,rx⟩:=hG r
 cases rx
 have hn:=pA
 rcases hq with hq | hq
 ·obtain ⟨its,r',pl,hz⟩:=I.list hq
  have hlen:=r'.length
  exact Calls.call_len_list pl.isList (by simp only [aY2] <;> omega) ⟨.int ys.length,H,I.tok _,⟨s.toks+1,by rw [aY2,hlen]⟩,q⟩
 ·obtain ⟨its,r',pl,hz⟩:=I.tuple hq
  have hlen:=r'.length
  exact len_tuple pl (by simp only [aY2] <;> omega) ⟨.int ys.length,H,I.tok _,⟨s.toks+1,by rw [aY2,hlen]⟩,q⟩
theorem cJ.or {f:Value}{r r':List V->Hp->VK->Prop} (h:cJ X f r) (h':cJ X f r'):cJ X f (fun xs H Q=>r xs H Q ∨ r' xs H Q):=by
 intro pins s σ H xs us Q I rs q
 rcases q with q | q
 ·exact h pins s σ H xs us Q I rs q
 ·exact h' pins s σ H xs us Q I rs q
theorem aj6:cJ X (.type "tuple") (fun xs H Q=>∃ p ys,xs = [.ref p]/\((aU X.K H p ys/\∀ l,H l=none->Q (.ref l) (upd H l (.tup ys))) ∨ (aR X.K H p ys/\Q (.ref p) H))):=by
 intro pins s σ H xs us Q I r h
 obtain ⟨p,ys,rfl,h⟩:=h
 obtain ⟨u,rfl,rx⟩:=hG r
 cases rx
 rcases h with ⟨hq,q⟩ | ⟨hq,q⟩
 ·obtain ⟨its,r',pl,hz⟩:=I.list hq
  have hlen:=r'.length
  refine call_tuple_list pl.isList (fun h' kp=>?_) (by simp only [aY2] <;> omega)
  have I1:a6 X pins σ H { s with heap:=h' }:=I.kept (t':=s.toks) kp
  have I2:a6 X pins σ (upd H h'.objs.size (.tup ys)) { s with heap:=h'.push { cls:=.type "tuple",data:=.seq its.toArray } }:=
   I1.laid (t':=s.toks) (fun b o e=>aW4 _ e) (aX5 _) (show bN X.prog X.w _ _ _ (.tup ys) from ⟨hz,its,r',IsTup.new _ _,iS.new _ _ rfl⟩)
  exact⟨.ref h'.objs.size,_,I2,rfl,q _ (I1.hok.fresh (aX5 _))⟩
 ·obtain ⟨its,r',pl,hz⟩:=I.tuple hq
  exact call_tuple_same pl ⟨.ref p,H,I,rfl,q⟩
noncomputable def pE (K:PySem.W.Frag) (T:String) (x:V) (H:Hp):Prop:=match x with
 | .str _=>T="str"
 | .int _=>T="int"
 | .ref p=>(T="list"/\∃ xs,aU K H p xs) ∨ (T="tuple"/\∃ o,K.lookup p=some o/\o.cls = .type "tuple"/\o.dict=none) ∨
   (T="dict"/\((∃ kvs,H p=some (.dK kvs)) ∨ ∃ kvs,H p=some (.dT kvs))) ∨ (T="set"/\∃ S n,H p=some (.set S n))
 | _=>False
theorem aj7 {pins:List (Addr × Obj)}{σ:St}{H:Hp}{s:Shared}{T:String}{x:V}{v:Value} (I:a6 X pins σ H s) (r:aP x v) (ty:pE X.K T x H) :
  s.TypeIs v T/\∀ a,v = .ref a->∃ ob,s.heap.get? a=some ob/\ob.dict=none:=by
 cases x with
 | str z=>
  obtain ⟨t,rfl⟩:=r
  cases (show T="str" from ty)
  exact⟨typeIs_str s z t,fun _ e=>nomatch e⟩
 | int i=>
  obtain ⟨t,rfl⟩:=r
  cases (show T="int" from ty)
  exact⟨typeIs_int s i t,fun _ e=>nomatch e⟩
 | ref p=>
  cases r
  rcases ty with ⟨rfl,xs,hq⟩ | ⟨rfl,o,hk,hc,hd⟩ | ⟨rfl,hk⟩ | ⟨rfl,S,n,hk⟩
  ·obtain ⟨its,_,pl,_⟩:=I.list hq
   refine⟨pl.isList.typeIs,fun a e=>?_⟩
   cases e
   obtain ⟨o,n,e,c,hd,_⟩:=pl
   exact⟨o,e,hd⟩
  ·refine⟨⟨o,I.kIn p o hk,hc⟩,fun a e=>?_⟩
   cases e
   exact⟨o,I.kIn _ o hk,hd⟩
  ·have z:∃ o,s.heap.get? p=some o/\o.ExactDict:=by
    rcases hk with ⟨kvs,hk⟩ | ⟨kvs,hk⟩
    ·obtain ⟨_,_,_,_,o,_,_,e,ex,_⟩:=I.hok p _ hk
     exact⟨o,e,ex⟩
    ·obtain ⟨_,_,_,_,o,_,_,e,ex,_⟩:=I.hok p _ hk
     exact⟨o,e,ex⟩
   obtain ⟨o,e,ex⟩:=z
   refine⟨⟨o,e,ex.1⟩,fun a e2=>?_⟩
   cases e2
   exact⟨o,e,ex.2.1⟩
  ·obtain ⟨o,_,_,_,e,ex,_⟩:=I.hok p _ hk
   refine⟨⟨o,e,ex.1⟩,fun a e2=>?_⟩
   cases e2
   exact⟨o,e,ex.2.1⟩
 | _=>exact False.elim ty
noncomputable def tE (K:PySem.W.Frag) (T:String) (r:V->List V->Hp->VK->Prop) (to:TE) (t:TA):TE:=fun σ H Q=>to σ H fun x H1=>pE K T x H1/\t σ H1 fun xs H2=>r x xs H2 Q
variable {o e : Expr} {es : List Expr} {to : TE} {t : TA} {name : Str} {apos cpos : Pos} {T id : String} {r : V → List V → Hp → VK → Prop}
theorem zE (pa:PlainAttrs T) (slot:Slot T name id) (hty:typeOf (.builtin id)=pure (.type "method_descriptor")) (hm:MtR X id r) (ho:PE X o to) (ha:PA X (e :: es) t)
  (hbase:attributeBase o name X.env (eval o X.env)=eval o X.env:=by rfl)
  (hfew:((backTo cpos (starEach (e :: es) X.env)).all (fun x=>!x.1) && (backToKw cpos (keywordEach [] X.env)).all (fun x=>x.1.isSome)
   && decide ((e :: es).length+([]:List Keyword).length+(if ([]:List Keyword).isEmpty then 0 else 1) < 30))=true:=by rfl)
  (hline:(apos.endLine == cpos.line)=true:=by rfl) (hs:starEach (e :: es) X.env=(false,eval e X.env) :: starEach es X.env:=by rfl) (hplain:(backTo cpos (starEach es X.env)).any (·.1)=false:=by rfl) :
  PE X (.Call (.Attribute o name apos) (e :: es) [] cpos) (tE X.K T r to t):=by
 intro pins s σ H Q I h
 refine wpAny_Call_method_late hbase hfew hline rfl (aK (ho pins s σ H _ I h) fun v s1 ⟨x,H1,I1,r1,ty,q1⟩=>?_)
 obtain ⟨h1,h2⟩:=aj7 I1 r1 ty
 refine⟨T,id,pa,slot,hty,h1,h2,?_⟩
 have hA:=ha cpos pins s1 σ H1 _ I1 q1
 rw [hs] at hA ⊢
 refine Calls.callWith_builtin (by show (false || (backTo cpos (starEach es X.env)).any (·.1))=false; rw [hplain] <;> rfl) (Calls.evalArgs_plain ?_)
 exact aK hA fun us s2 ⟨vs,H2,I2,r2,q2⟩=>hm pins s2 σ H2 x vs v us Q I2 r1 r2 q2
end
noncomputable def zF (X:Cx) (id:String) (r:V->List V->Hp->VK->Prop):Prop:=
 ∀ (pins:List (Addr × Obj)) (s:Shared) (σ:St) (H:Hp) (x:V) (xs:List V) (v:Value) (us:List Value) (Q:VK),a6 X pins σ H s->aP x v->aQ xs us->r x xs H Q->
  wpAny (model X.prog X.w) X.A (call (.builtin id) (v :: us)) (EP X pins σ Q) X.xe s
theorem aQ.one {x:V}{us:List Value} (h:aQ [x] us):∃ u,us = [u]/\aP x u:=by
 cases h with
 | cons r t=>
  cases t
  exact⟨_,rfl,r⟩
theorem aQ.two {x y:V}{us:List Value} (h:aQ [x,y] us):∃ u v,us = [u,v]/\aP x u/\aP y v:=by
 cases h with
 | cons r t=>
  cases t with
  | cons q t=>
   cases t
   exact⟨_,_,rfl,r,q⟩
section
variable {X : Cx} {pins : List (Addr × Obj)} {σ : St} {H : Hp} {s : Shared} {l b : Addr} {xs ys zs : List V}
theorem a6.lset {its its':List Value}{n:Nat}{f:Array Value->Array Value}{t':Nat} (I:a6 X pins σ H s) (hH:H l=some (.lst xs))
  (e:s.heap.get? l=some { cls:=.type "list",data:=.seq its.toArray n }) (hf:f its.toArray=its'.toArray) (hv:aQ ys its') (hz:ys.length<=sizeLine) :
  a6 X pins σ (upd H l (.lst ys)) { s with heap:=s.heap.update l (Obj.mapSeq f),toks:=t' }:=by
 have q:=PySem.IsL.update e f
 rw [hf] at q
 refine I.write (x:=l) (e:=l) (by rw [hH]; exact trivial) (.inl rfl) (fun b' u hb hu=>(bj3 s.heap (Obj.mapSeq f) (Ne.symm hb)).trans hu) ⟨_,q⟩ ?_
 exact⟨hz,its',_,hv,q⟩
theorem a6.lstM (I:a6 X pins σ H s) (hH:H l=some (.lst xs)):xs.length<=sizeLine/\∃ (its:List Value) (n:Nat),aQ xs its/\xs.length=its.length/\s.heap.get? l=some { cls:=.type "list",data:=.seq its.toArray n }:=by
 obtain ⟨z,its,n,r,e⟩:=I.hok l _ hH
 exact⟨z,its,n,r,r.length,e⟩
end
section
variable {X : Cx}
noncomputable def zG:V->List V->Hp->VK->Prop:=fun x vs H Q=>∃ l xs y,x = .ref l/\vs = [y]/\H l=some (.lst xs)/\xs.length < sizeLine/\Q .non (upd H l (.lst (xs ++ [y])))
theorem zH:zF X "list.append" zG:=by
 intro pins s σ H x vs v us Q I rx rv h
 obtain ⟨l,xs,y,rfl,rfl,hH,hz,q⟩:=h
 cases rx
 obtain ⟨u,rfl,ru⟩:=rv.one
 obtain ⟨z,its,n,r,hl,e⟩:=I.lstM hH
 refine call_meets F.slot_list_append ⟨_,e,rfl⟩ F.entry_list_append (F.args_list_append_2 _ _) (PySem.list_append l its.toArray n u (by rw [aY2]; omega)) ⟨e,?_⟩
 refine⟨.non,_,I.lset (its':=its ++ [u]) hH e (by simp) (r.append (.cons ru .nil)) ?_,rfl,q⟩
 rw [aZ3,bc4]
 omega
end
section
variable {κ : Type} [DecidableEq κ]
noncomputable def eZ (kvs:List (κ × V)) (k:κ):Option V:=(kvs.find? fun kv=>decide (kv.1=k)).map (·.2)
noncomputable def fM (kvs:List (κ × V)) (k:κ) (v:V):List (κ × V):=
 if (kvs.any fun kv=>decide (kv.1=k))=true then kvs.map (fun kv=>if kv.1=k then (kv.1,v) else kv) else kvs ++ [(k,v)]
theorem tF {p:κ × V}{r:List (κ × V)}{k:κ} (e:p.1=k):eZ (p :: r) k=some p.2:=by simp [eZ,bf8,e]
theorem tG {p:κ × V}{r:List (κ × V)}{k:κ} (e : ¬ p.1=k):eZ (p :: r) k=eZ r k:=by simp [eZ,bf8,e]
theorem zI (k:κ):∀ kvs:List (κ × V),(kvs.any fun kv=>decide (kv.1=k))=(eZ kvs k).isSome
 | []=>rfl
 | p :: r=>by
  rw [List.any_cons]
  by_cases e:p.1=k
  ·simp only [tF e,aX2 e,Bool.true_or,Option.isSome_some]
  ·rw [tG e,aW6 e,Bool.false_or]; exact zI k r
theorem zJ (kvs:List (κ × V)) (k:κ) (v:V):(fM kvs k v).length<=kvs.length+1:=by
 unfold fM
 split
 ·rw [aW5]; omega
 ·rw [aZ3,ba0,bj0]; omega
theorem fY.isSome_eq {o:Option V}{u:Option Value} (r:fY o u):o.isSome=u.isSome:=by
 cases o with
 | none=>cases u with
  | none=>rfl
  | some _=>exact (show False from r).elim
 | some _=>cases u with
  | none=>exact (show False from r).elim
  | some _=>rfl
theorem fY.getD {o:Option V}{u:Option Value}{d:V}{d':Value} (r:fY o u) (rd:aP d d'):aP (o.getD d) (u.getD d'):=by
 cases o with
 | none=>cases u with
  | none=>exact rd
  | some _=>exact (show False from r).elim
 | some _=>cases u with
  | none=>exact (show False from r).elim
  | some _=>exact r
theorem KV.val {kvs:List (κ × V)}{vs:List (κ × Value)} (r:KV kvs vs) (k:κ):fY (eZ kvs k) (valueAt vs k):=by
 unfold KV at r
 induction r with
 | nil=>exact bl8
 | @cons p q ps qs h t ih=>
  obtain ⟨h1,h2⟩:=h
  by_cases e:p.1=k
  ·have e':q.1=k:=h1.symm.trans e
   have b:valueAt (q :: qs) k=some q.2:=by simp [valueAt,bf8,e']
   rw [tF e,b]; exact h2
  ·have e' : ¬ q.1=k:=fun z=>e (h1.trans z)
   have b:valueAt (q :: qs) k=valueAt qs k:=by simp [valueAt,bf8,e']
   rw [tG e,b]; exact ih
theorem KV.any {kvs:List (κ × V)}{vs:List (κ × Value)} (r:KV kvs vs) (k:κ):(kvs.any fun kv=>decide (kv.1=k))=vs.any fun kv=>decide (kv.1=k):=by
 unfold KV at r
 induction r with
 | nil=>rfl
 | cons h t ih=>rw [List.any_cons,List.any_cons,ih,h.1]
theorem KV.repl {kvs:List (κ × V)}{vs:List (κ × Value)} (r:KV kvs vs) (k:κ) {y:V}{u:Value} (ry:aP y u) :
  KV (kvs.map fun kv=>if kv.1=k then (kv.1,y) else kv) (vs.map fun kv=>if kv.1=k then (kv.1,u) else kv):=by
 unfold KV at r ⊢
 induction r with
 | nil=>exact .nil
 | @cons p q ps qs h t ih=>
  rw [aY8,aY8]
  refine .cons ?_ ih
  obtain ⟨h1,h2⟩:=h
  by_cases e:p.1=k
  ·rw [if_pos e,if_pos (h1.symm.trans e)]; exact⟨h1,ry⟩
  ·rw [if_neg e,if_neg (fun z=>e (h1.trans z))]; exact⟨h1,h2⟩
theorem KV.put {kvs:List (κ × V)}{vs:List (κ × Value)} (r:KV kvs vs) (k:κ) {y:V}{u:Value} (ry:aP y u):KV (fM kvs k y) (stored vs k u):=by
 unfold fM stored
 rw [r.any k]
 by_cases e:(vs.any fun kv=>decide (kv.1=k))=true
 ·rw [if_pos e,if_pos e]; exact r.repl k ry
 ·rw [if_neg e,if_neg e]; exact Paired.snoc r ⟨rfl,ry⟩
theorem KV.length {kvs:List (κ × V)}{vs:List (κ × Value)} (r:KV kvs vs):kvs.length=vs.length:=Paired.length r
end
theorem lM {P:Program}{w:World}{k:aH}{u:Value} (r:aP (kV k) u):(eI P w).is k u=true:=by
 cases k with
 | inl i=>obtain ⟨t,e⟩:=(show ∃ t,u=Value.int i t from r); subst e; exact ab1 P w i t
 | inr x=>obtain ⟨t,e⟩:=(show ∃ t,u=Value.str x t from r); subst e; exact ab2 P w x t
theorem zK {P:Program}{w:World}:∀ {ks:List aH}{us:List Value},aQ (ks.map kV) us->ItemsAre (eI P w) ks us
 | [],_,r=>by rw [List.map_nil] at r; cases r; exact .nil
 | k :: ks,_,r=>by
  rw [aY8] at r
  cases r with
  | cons h t=>exact .cons (lM h) (zK t)
noncomputable abbrev KT (H:Hp):List (List aH × V)->List (List aH × Addr × Value)->Prop:=Paired fun p q=>p.1=q.1/\H q.2.1=some (.tup (p.1.map kV))/\aP p.2 q.2.2
theorem KT.val {H:Hp}{kvs:List (List aH × V)}{xs:List (List aH × Addr × Value)} (r:KT H kvs xs) (k:List aH):fY (eZ kvs k) ((atKey xs k).map (·.2)):=by
 induction r with
 | nil=>exact bl8
 | @cons p q ps qs h t ih=>
  obtain ⟨h1,_,h2⟩:=h
  by_cases e:p.1=k
  ·have e':q.1=k:=h1.symm.trans e
   have b:atKey (q :: qs) k=some q.2:=by simp [atKey,bf8,e']
   rw [tF e,b]; exact h2
  ·have e' : ¬ q.1=k:=fun z=>e (h1.trans z)
   have b:atKey (q :: qs) k=atKey qs k:=by simp [atKey,bf8,e']
   rw [tG e,b]; exact ih
theorem KT.repl {H:Hp}{kvs:List (List aH × V)}{xs:List (List aH × Addr × Value)} (r:KT H kvs xs) (k:List aH) {y:V}{u:Value} (ry:aP y u) :
  KT H (kvs.map fun kv=>if kv.1=k then (kv.1,y) else kv) (xs.map (putAt k u)):=by
 induction r with
 | nil=>exact .nil
 | @cons p q ps qs h t ih=>
  rw [aY8,aY8]
  refine .cons ?_ ih
  obtain ⟨h1,h2,h3⟩:=h
  unfold putAt
  by_cases e:p.1=k
  ·rw [if_pos e,if_pos (h1.symm.trans e)]; exact⟨h1,h2,ry⟩
  ·rw [if_neg e,if_neg (fun z=>e (h1.trans z))]; exact⟨h1,h2,h3⟩
theorem KT.put {H:Hp}{kvs:List (List aH × V)}{xs:List (List aH × Addr × Value)} (r:KT H kvs xs) (k:List aH) {b:Addr}{y:V}{u:Value} (hb:H b=some (.tup (k.map kV))) (ry:aP y u) :
  KT H (fM kvs k y) (storedH xs k b u):=by
 have e:(kvs.any fun kv=>decide (kv.1=k))=(atKey xs k).isSome:=by
  rw [zI,(r.val k).isSome_eq,Option.isSome_map]
 unfold fM storedH
 rw [e]
 by_cases q:(atKey xs k).isSome=true
 ·rw [if_pos q,if_pos q]; exact r.repl k ry
 ·rw [if_neg q,if_neg q]; exact Paired.snoc r ⟨rfl,hb,ry⟩
theorem KT.keeps {H H':Hp}{kvs:List (List aH × V)}{xs:List (List aH × Addr × Value)} (r:KT H kvs xs) (ht:∀ b ys,H b=some (.tup ys)->H' b=some (.tup ys)):KT H' kvs xs:=
 Paired.mapP r fun _ _ z=>⟨z.1,ht _ _ z.2.1,z.2.2⟩
section
variable {P : Program} {w : World} {H : Hp} {h : Heap} {a : Addr}
theorem zL {u:HO} (ok:bK P w H h) (e:Rd H a u):bN P w H h a u:=e.ok ok
theorem jJ {kvs:List (aH × V)} (ok:bK P w H h) (e:Rd H a (.dK kvs)):kvs.length<=sizeLine/\(a == sysModules)=false/\∃ vs,KV kvs vs/\h.DictOf (eI P w) a vs:=
 show bN P w H h a (.dK kvs) from zL ok e
theorem aj8 {kvs:List (aH × V)} (ok:bK P w H h) (e:H a=some (.dK kvs)):kvs.length<=sizeLine/\(a == sysModules)=false/\∃ vs,KV kvs vs/\h.DictOf (eI P w) a vs:=jJ ok (.inl e)
theorem kF {ks:List aH} (ok:bK P w H h) (e:H a=some (.tup (ks.map kV))):(tupleKind (eI P w)).is h ks a:=by
 obtain ⟨_,its,r,⟨o,h1,h2,n,h3⟩,_⟩:=(show bN P w H h a (.tup (ks.map kV)) from ok a _ e)
 exact⟨o,its.toArray,n,h1,h2,h3,by simpa using zK r⟩
theorem kG {kvs:List (List aH × V)} (ok:bK P w H h) (e:Rd H a (.dT kvs)):kvs.length<=sizeLine/\(a == sysModules)=false/\
  ∃ xs,KT H kvs xs/\h.DictOfH (tupleKind (eI P w)) a xs:=by
 obtain ⟨z,y,xs,r,o,es,ep,h1,h2,h3,h4,h5⟩:=(show bN P w H h a (.dT kvs) from zL ok e)
 refine⟨z,y,xs,r,o,es,ep,h1,h2,h3,h4,fun x hx=>?_,h5⟩
 have all:∀ {l:List (List aH × V)}{m:List (List aH × Addr × Value)},KT H l m->∀ x ∈ m,(tupleKind (eI P w)).is h x.1 x.2.1:=by
  intro l m q
  induction q with
  | nil=>intro x hx; exact nomatch hx
  | @cons p q ps qs hq t ih=>
   intro x hx
   rcases aW9.mp hx with e | hx
   ·subst e
    exact kF ok (by rw [<- hq.1]; exact hq.2.1)
   ·exact ih x hx
 exact all r x hx
theorem zM {kvs:List (List aH × V)} (ok:bK P w H h) (e:H a=some (.dT kvs)):kvs.length<=sizeLine/\(a == sysModules)=false/\
  ∃ xs,KT H kvs xs/\h.DictOfH (tupleKind (eI P w)) a xs:=kG ok (.inl e)
end
noncomputable def eJ (H:Hp) (a:Addr) (y:V) (r:Option V):Prop:=
 (∃ kvs k,Rd H a (.dK kvs)/\y=kV k/\r=eZ kvs k) ∨ ∃ kvs k b,Rd H a (.dT kvs)/\y = .ref b/\H b=some (.tup (k.map kV))/\r=eZ kvs k
noncomputable def nE (H:Hp) (a:Addr) (y v:V) (H':Hp):Prop:=
 (∃ kvs k,H a=some (.dK kvs)/\y=kV k/\kvs.length < sizeLine/\H'=upd H a (.dK (fM kvs k v))) ∨
 ∃ kvs k b,H a=some (.dT kvs)/\y = .ref b/\H b=some (.tup (k.map kV))/\kvs.length < sizeLine/\H'=upd H a (.dT (fM kvs k v))
theorem eJ.k {H:Hp}{a:Addr}{kvs:List (aH × V)}{k:aH} (e:H a=some (.dK kvs)):eJ H a (kV k) (eZ kvs k):=.inl ⟨kvs,k,.inl e,rfl,rfl⟩
theorem eJ.t {H:Hp}{a b:Addr}{kvs:List (List aH × V)}{k:List aH} (e:H a=some (.dT kvs)) (eb:H b=some (.tup (k.map kV))):eJ H a (.ref b) (eZ kvs k):=.inr ⟨kvs,k,b,.inl e,rfl,eb,rfl⟩
theorem nE.t {H:Hp}{a b:Addr}{kvs:List (List aH × V)}{k:List aH}{v:V} (e:H a=some (.dT kvs)) (eb:H b=some (.tup (k.map kV))) (hl:kvs.length < sizeLine) :
  nE H a (.ref b) v (upd H a (.dT (fM kvs k v))):=.inr ⟨kvs,k,b,e,rfl,eb,hl,rfl⟩
section
variable {X : Cx} {pins : List (Addr × Obj)} {σ : St} {H : Hp} {s : Shared} {a : Addr} {y v : V} {u r : Value} {o : Option V} {A : Around} {E : Value → Shared → Prop}
theorem a6.big (I:a6 X pins σ H s):sysModules < s.heap.objs.size:=by
 have h:mainGlobals < s.heap.objs.size:=(I.mod.glob.keeps I.bk).lt
 exact Nat.lt_trans (by decide) h
theorem aj9 {Q:Value->Shared->Prop} (hu:A.units+1 < cLine) (I:a6 X pins σ H s) (g:eJ H a y (some v)) (ry:aP y u) (h:∀ w' s',a6 X pins σ H s'->aP v w'->Q w' s') :
  wpAny (model X.prog X.w) A (getItem (.ref a) u) Q E s:=by
 rcases g with ⟨kvs,k,e,ey,l⟩ | ⟨kvs,k,b,e,ey,eb,l⟩
 ·subst ey
  obtain ⟨z,hd,vs,rel,dd⟩:=jJ I.hok e
  obtain ⟨w',hw,rw'⟩:=fY.some_of (v:=v) (o:=valueAt vs k) (by rw [l]; exact rel.val k)
  exact wpAny_getItem_of (lM ry) dd.mapOf hw (h w' _ (I.tok _) rw')
 ·subst ey
  cases (show u=Value.ref b from ry)
  obtain ⟨z,hd,xs,rel,dd⟩:=kG I.hok e
  obtain ⟨w',hw,rw'⟩:=fY.some_of (v:=v) (o:=(atKey xs k).map (·.2)) (by rw [l]; exact rel.val k)
  obtain ⟨p,hp,hp2⟩:=Option.map_eq_some_iff.mp hw
  refine wpAny_getItem_heap (bj8 hu) (kF I.hok eb) dd hp ?_
  rw [hp2]
  exact h w' _ (I.tok _) rw'
theorem ak0 {Q:Value->Shared->Prop} (hu:A.units+1 < cLine) (I:a6 X pins σ H s) (g:eJ H a y o) (ry:aP y u) (h:∀ s',a6 X pins σ H s'->Q (.bool o.isSome) s') :
  wpAny (model X.prog X.w) A (compareOp .In u (.ref a)) Q E s:=by
 rcases g with ⟨kvs,k,e,ey,l⟩ | ⟨kvs,k,b,e,ey,eb,l⟩
 ·subst ey
  obtain ⟨z,hd,vs,rel,dd⟩:=jJ I.hok e
  refine wpAny_in_of (lM ry) hd dd.mapOf ?_
  rw [<- (rel.val k).isSome_eq,<- l]
  exact h _ (I.tok _)
 ·subst ey
  cases (show u=Value.ref b from ry)
  obtain ⟨z,hd,xs,rel,dd⟩:=kG I.hok e
  refine wpAny_in_heap (bj8 hu) (kF I.hok eb) hd dd ?_
  have q:=(rel.val k).isSome_eq
  rw [Option.isSome_map] at q
  rw [<- q,<- l]
  exact h _ (I.tok _)
theorem ak1 {Q:Value->Shared->Prop} (hu:A.units+1 < cLine) (I:a6 X pins σ H s) (g:eJ H a y o) (ry:aP y u) (h:∀ s',a6 X pins σ H s'->Q (.bool (!o.isSome)) s') :
  wpAny (model X.prog X.w) A (compareOp .NotIn u (.ref a)) Q E s:=by
 rcases g with ⟨kvs,k,e,ey,l⟩ | ⟨kvs,k,b,e,ey,eb,l⟩
 ·subst ey
  obtain ⟨z,hd,vs,rel,dd⟩:=jJ I.hok e
  refine wpAny_notIn_of (lM ry) hd dd.mapOf ?_
  rw [<- (rel.val k).isSome_eq,<- l]
  exact h _ (I.tok _)
 ·subst ey
  cases (show u=Value.ref b from ry)
  obtain ⟨z,hd,xs,rel,dd⟩:=kG I.hok e
  refine wpAny_notIn_heap (bj8 hu) (kF I.hok eb) hd dd ?_
  have q:=(rel.val k).isSome_eq
  rw [Option.isSome_map] at q
  rw [<- q,<- l]
  exact h _ (I.tok _)
theorem tH {h':Heap}{t':Nat}{ob:HO} (I:a6 X pins σ H s) (mu:mW (H a)) (hs:Heap.SameBut a s.heap h') (he:∃ q,h'.get? a=some q) (new:bN X.prog X.w (upd H a ob) h' a ob) :
  a6 X pins σ (upd H a ob) { s with heap:=h',toks:=t' }:=
 I.write (x:=a) (e:=a) mu (.inl rfl) (fun b q hb z=>(hs.2 b hb).trans z) he new
theorem ak2 {P:Program}{w:World}{H':Hp}{h':Heap}{kvs:List (aH × V)}{vs:List (aH × Value)} (z:kvs.length<=sizeLine) (hd:(a == sysModules)=false) (rel:KV kvs vs) (dd:h'.DictOf (eI P w) a vs) :
  bN P w H' h' a (.dK kvs):=⟨z,hd,vs,rel,dd⟩
theorem ak3 {H':Hp}{Q:Unit->Shared->Prop} (hu:A.units+1 < cLine) (I:a6 X pins σ H s) (g:nE H a y v H') (ry:aP y u) (rv:aP v r) (h:∀ s',a6 X pins σ H' s'->Q () s') :
  wpAny (model X.prog X.w) A (setItem (.ref a) u r) Q E s:=by
 rcases g with ⟨kvs,k,e,ey,l,eH⟩ | ⟨kvs,k,b,e,ey,eb,l,eH⟩
 ·subst ey eH
  obtain ⟨z,hd,vs,rel,dd⟩:=aj8 I.hok e
  have hz:vs.length<=sizeLine:=by rw [<- rel.length]; exact z
  have hl:(fM kvs k v).length<=sizeLine:=by have:=zJ kvs k v; omega
  refine wpAny_setItem_pairs (hsz:=hz) (lM ry) dd fun h' dd' hs=>h _ ?_
  have he:∃ q,h'.get? a=some q:=let ⟨q,_,_,hq,_⟩:=dd'; ⟨q,hq⟩
  exact tH I (by rw [e]; exact bl8) hs he (ak2 hl hd (rel.put k rv) dd')
 ·subst ey eH
  cases (show u=Value.ref b from ry)
  obtain ⟨z,hd,xs,rel,dd⟩:=zM I.hok e
  have hz:xs.length<=sizeLine:=by rw [<- Paired.length rel]; exact z
  have hl:(fM kvs k v).length<=sizeLine:=by have:=zJ kvs k v; omega
  refine wpAny_setItem_heap (hsz:=hz) (bj8 hu) (kF I.hok eb) dd fun h' dd' hs=>h _ ?_
  obtain ⟨q,es,ep,hq,h2,h3,h4,_,h5⟩:=dd'
  refine tH I (by rw [e]; exact bl8) hs ⟨q,hq⟩ ⟨hl,hd,_,(rel.put k eb rv).keeps fun c ys ec=>?_,q,es,ep,hq,h2,h3,h4,h5⟩
  rw [aF (xE ec e (fun z=>nomatch z))]
  exact ec
end
section
variable {X : Cx} {pins : List (Addr × Obj)} {σ : St} {H : Hp} {s : Shared} {a : Addr} {kvs : List (aH × V)} {k : aH} {u : Value} {A : Around} {E : Value → Shared → Prop}
theorem ak4 {Q:Value->Shared->Prop} (I:a6 X pins σ H s) (e:Rd H a (.dK kvs)) (h:∀ t s',a6 X pins σ H s'->Q (.int kvs.length t) s'):wpAny (model X.prog X.w) A (call (.builtin "len") [.ref a]) Q E s:=by
 obtain ⟨z,hd,vs,rel,dd⟩:=jJ I.hok e
 refine call_len_dict hd dd (by rw [<- rel.length]; rw [sizeLine_eq] at z; omega) ?_
 rw [<- rel.length]
 exact h _ _ (I.tok _)
end
noncomputable def tI (i:Expr):Prop:=∀ ov iv,subscripted i false ov iv=operate [ov,iv] (getItem ov iv)
theorem ak5 {prog:Program}{w:World}{A:Around}{E:Value->Shared->Prop}{s:Shared}{env:Env}{value slice:Expr}{pos:Pos}{T id:String}{Q:Value->Shared->Prop}
  (hl:typeLookup (.type T) "__getitem__" = pure (some (.builtin id))) (hs:tI slice)
  (h:wpAny (model prog w) A (eval value env) (fun o s₁=>wpAny (model prog w) A (eval slice env) (fun i s₂=>s₂.TypeIs o T/\wpAny (model prog w) A (getItem o i) Q E s₂) E s₁) E s) :
  wpAny (model prog w) A (eval (.Subscript value slice pos) env) Q E s:=by
 refine Subscript_ (be6 h (fun o s₁ h₁=>be6 h₁ (fun i s₂ h₂=>?_) fun _ _ x=>x) fun _ _ x=>x)
 obtain ⟨hT,h₂⟩:=h₂
 unfold subscriptTail
 refine aW2 ?_
 rw [getitemInPython_of_ne hT.not_modules]
 refine aW2 (wpAny_specialOf hT hl ?_)
 have fin:wpAny (model prog w) A (subscripted slice false o i) (fun r s₃=>wpAny (model prog w) A (letTemporaryGo value o r >>= fun _=>pure r) Q E s₃) E s₂:=by
  rw [hs o i]
  exact wpAny_operating (be6 h₂ (fun r s₃ h₃=>aW2 (wpAny_letTemporaryGo (aW7 h₃))) fun _ _ x=>x)
 first
  | exact aW7 (aW2 fin)
  | exact aW2 (aW7 (aW2 fin))
  | exact aW2 fin
theorem ak6 {X:Cx}{pins:List (Addr × Obj)}{σ:St}{H:Hp}{s:Shared}{a:Addr}{y:V}{o:Option V} (I:a6 X pins σ H s) (g:eJ H a y o):s.TypeIs (.ref a) "dict":=by
 rcases g with ⟨kvs,k,e,_,_⟩ | ⟨kvs,k,b,e,_,_,_⟩
 ·obtain ⟨_,_,vs,_,dd⟩:=jJ I.hok e
  exact dd.typeIs
 ·obtain ⟨_,_,xs,_,dd⟩:=kG I.hok e
  exact dd.typeIs
noncomputable def zN (td ty:TE):TE:=fun σ H Q=>td σ H fun x H1=>ty σ H1 fun y H2=>∃ a v,x = .ref a/\eJ H2 a y (some v)/\Q v H2
noncomputable def zO (ty td:TE):TE:=fun σ H Q=>ty σ H fun y H1=>td σ H1 fun x H2=>∃ a o,x = .ref a/\eJ H2 a y o/\Q (.bl o.isSome) H2
noncomputable def zP (ty td:TE):TE:=fun σ H Q=>ty σ H fun y H1=>td σ H1 fun x H2=>∃ a o,x = .ref a/\eJ H2 a y o/\Q (.bl (!o.isSome)) H2
noncomputable def zQ (td ty tv:TE):TS:=fun D σ H=>tv σ H fun v H1=>td σ H1 fun x H2=>ty σ H2 fun y H3=>∃ a H4,x = .ref a/\nE H3 a y v H4/\D.nx σ H4
section
variable {X : Cx} {o i e value : Expr} {pos pos' tpos : Pos} {td ty tv : TE}
theorem ak7 (hu:X.A.units+1 < cLine) (ho:PE X o td) (hi:PE X i ty) (hs:tI i):PE X (.Subscript o i pos) (zN td ty):=by
 intro pins s σ H Q I h
 refine ak5 PySem.F.slot_dict_getitem.lookup hs (aK (ho pins s σ H _ I h) fun u s1 ⟨x,H1,I1,rx,q1⟩=>aK (hi pins s1 σ H1 _ I1 q1) fun iv s2 ⟨y,H2,I2,ry,a,v,ex,g,q2⟩=>?_)
 subst ex
 obtain rfl:u=Value.ref a:=rx
 exact⟨ak6 I2 g,aj9 hu I2 g ry fun w' s3 I3 rw'=>⟨v,H2,I3,rw',q2⟩⟩
theorem ak8 (hu:X.A.units+1 < cLine) (hi:PE X i ty) (ho:PE X o td):PC X .In i o (zO ty td):=by
 intro pins s σ H Q I h
 refine aK (hi pins s σ H _ I h) fun iv s1 ⟨y,H1,I1,ry,q1⟩=>aK (ho pins s1 σ H1 _ I1 q1) fun u s2 ⟨x,H2,I2,rx,a,ov,ex,g,q2⟩=>?_
 subst ex
 obtain rfl:u=Value.ref a:=rx
 exact ak0 hu I2 g ry fun s3 I3=>⟨.bl ov.isSome,H2,I3,rfl,q2⟩
theorem zR (hu:X.A.units+1 < cLine) (hi:PE X i ty) (ho:PE X o td):PC X .NotIn i o (zP ty td):=by
 intro pins s σ H Q I h
 refine aK (hi pins s σ H _ I h) fun iv s1 ⟨y,H1,I1,ry,q1⟩=>aK (ho pins s1 σ H1 _ I1 q1) fun u s2 ⟨x,H2,I2,rx,a,ov,ex,g,q2⟩=>?_
 subst ex
 obtain rfl:u=Value.ref a:=rx
 exact ak1 hu I2 g ry fun s3 I3=>⟨.bl (!ov.isSome),H2,I3,rfl,q2⟩
theorem ak9 (hu:X.A.units+1 < cLine) (ho:PE X o td) (hi:PE X i ty) (hv:PE X value tv) (hs:swapsWith value (some (.Subscript o i pos')) pos.line X.env=pure false) :
  PS X (.Assign [.Subscript o i pos'] value pos) (zQ td ty tv):=by
 intro pins s σ H D I h
 refine wpAny_Assign_Subscript (aK (hv pins s σ H _ I h) fun r s1 ⟨v,H1,I1,rv,q1⟩=>aK (ho pins s1 σ H1 _ I1 q1) fun u s2 ⟨x,H2,I2,rx,q2⟩=>aK (hi pins s2 σ H2 _ I2 q2) fun iv s3 ⟨y,H3,I3,ry,a,H4,ex,g,q3⟩=>?_) hs
 subst ex
 obtain rfl:u=Value.ref a:=rx
 exact ak3 hu I3 g ry rv fun s4 I4=>⟨σ,H4,I4,q3⟩
end
theorem al0 {P:Program}{w:World}{H:Hp} (h:Heap) (hb:sysModules < h.objs.size):bN P w H (h.push { cls:=.type "dict",data:=.dict #[] }) h.objs.size (.dT []):=
 ⟨bf0 _,beq_eq_false_iff_ne.mpr (Ne.symm (aZ6 hb)),[],.nil,_,#[],0,aY0 _ rfl,⟨rfl,rfl,rfl⟩,rfl,rfl,bl3⟩
noncomputable def zS:TE:=fun _ H Q=>∀ p,H p=none->Q (.ref p) (upd H p (.dT []))
section
variable {X : Cx} {pos : Pos}
theorem al1:PE X (.Dict [] [] pos) zS:=fun pins s σ H Q I h=>
 wpAny_Dict_empty ⟨.ref s.heap.objs.size,_,I.laid (a:=s.heap.objs.size) (o:=.dT []) (t':=s.toks) (fun _ _ q=>aW4 _ q) (aX5 _) (al0 s.heap I.big),rfl,h _ (I.hok.fresh (aX5 _))⟩
end
structure M1 (X:Cx) (o:Expr) (m:Str) (apos:Pos) (e:Expr) (cpos:Pos):Prop where
 base:attributeBase o m X.env (eval o X.env)=eval o X.env
 few:((backTo cpos (starEach [e] X.env)).all (fun x=>!x.1) && (backToKw cpos (keywordEach [] X.env)).all (fun x=>x.1.isSome)
  && decide (([e]:List Expr).length+([]:List Keyword).length+(if ([]:List Keyword).isEmpty then 0 else 1) < 30))=true
 line:(apos.endLine == cpos.line)=true
 trees:backTo cpos (starEach [e] X.env) = [(false,eval e X.env)]
structure M2 (X:Cx) (o:Expr) (m:Str) (apos:Pos) (e f:Expr) (cpos:Pos):Prop where
 base:attributeBase o m X.env (eval o X.env)=eval o X.env
 few:((backTo cpos (starEach [e,f] X.env)).all (fun x=>!x.1) && (backToKw cpos (keywordEach [] X.env)).all (fun x=>x.1.isSome)
  && decide (([e,f]:List Expr).length+([]:List Keyword).length+(if ([]:List Keyword).isEmpty then 0 else 1) < 30))=true
 line:(apos.endLine == cpos.line)=true
 trees:backTo cpos (starEach [e,f] X.env) = [(false,eval e X.env),(false,eval f X.env)]
noncomputable def tJ (H:Hp) (a:Addr):Prop:=(∃ kvs,Rd H a (.dK kvs)) ∨ ∃ kvs,Rd H a (.dT kvs)
theorem zT {X:Cx}{pins:List (Addr × Obj)}{σ:St}{H:Hp}{s:Shared}{a:Addr} (I:a6 X pins σ H s) (d:tJ H a) :
  s.TypeIs (.ref a) "dict"/\(∀ b,Value.ref a = .ref b->∃ ob,s.heap.get? b=some ob/\ob.dict=none)/\(a == sysModules)=false:=by
 rcases d with ⟨kvs,e⟩ | ⟨kvs,e⟩
 ·obtain ⟨_,hd,vs,_,dd⟩:=jJ I.hok e
  refine⟨dd.typeIs,fun b q=>?_,hd⟩
  cases q
  obtain ⟨ob,_,_,h1,h2,_⟩:=dd
  exact⟨ob,h1,h2.2.1⟩
 ·obtain ⟨_,hd,xs,_,dd⟩:=kG I.hok e
  refine⟨dd.typeIs,fun b q=>?_,hd⟩
  cases q
  obtain ⟨ob,_,_,h1,h2,_⟩:=dd
  exact⟨ob,h1,h2.2.1⟩
section
variable {X : Cx} {pins : List (Addr × Obj)} {σ : St} {H : Hp} {s : Shared} {a : Addr} {y d : V} {u r : Value} {o : Option V} {A : Around} {E : Value → Shared → Prop}
theorem al2 {Q:Value->Shared->Prop} (hu:A.units+1 < cLine) (I:a6 X pins σ H s) (g:eJ H a y o) (ry:aP y u) (rd:aP d r) (h:∀ w' s',a6 X pins σ H s'->aP (o.getD d) w'->Q w' s') :
  wpAny (model X.prog X.w) A (call (.builtin "dict.get") [.ref a,u,r]) Q E s:=by
 rcases g with ⟨kvs,k,e,ey,l⟩ | ⟨kvs,k,b,e,ey,eb,l⟩
 ·subst ey
  obtain ⟨z,hd,vs,rel,dd⟩:=jJ I.hok e
  refine call_meetsIn PySem.F.slot_dict_get dd.typeIs PySem.F.entry_dict_get (PySem.F.args_dict_get_3 _ _ _) (meets_dict_get_default (eI X.prog X.w) a (lM ry) hd r) ⟨_,dd.mapOf,h _ _ (I.tok _) ?_⟩
  rw [l]
  exact (rel.val k).getD rd
 ·subst ey
  cases (show u=Value.ref b from ry)
  obtain ⟨z,hd,xs,rel,dd⟩:=kG I.hok e
  refine call_meetsIn PySem.F.slot_dict_get dd.typeIs PySem.F.entry_dict_get (PySem.F.args_dict_get_3 _ _ _) (meetsH_dict_get_default (tupleKind (eI X.prog X.w)) a b hd r) ⟨bj8 hu,k,xs,kF I.hok eb,dd,h _ _ (I.tok _) ?_⟩
  rw [l]
  exact (rel.val k).getD rd
end
noncomputable def zU (td ty tx:TE):TE:=fun σ H Q=>td σ H fun x H1=>∃ a,x = .ref a/\tJ H1 a/\ty σ H1 fun y H2=>tx σ H2 fun z H3=>∃ o,eJ H3 a y o/\Q (o.getD z) H3
section
variable {X : Cx} {o e f : Expr} {apos cpos : Pos} {td ty tx : TE}
theorem al3 (hu:X.A.units+1 < cLine) (ho:PE X o td) (he:PE X e ty) (hf:PE X f tx) (m:M2 X o "get" apos e f cpos):PE X (.Call (.Attribute o "get" apos) [e,f] [] cpos) (zU td ty tx):=by
 intro pins s σ H Q I h
 refine wpAny_Call_method m.base m.few m.line PySem.F.plainAttrs_dict PySem.F.slot_dict_get PySem.F.type_dict_get (aK (ho pins s σ H _ I h) fun u s1 ⟨x,H1,I1,rx,a,ex,d,q1⟩=>?_)
 subst ex
 obtain rfl:u=Value.ref a:=rx
 obtain ⟨t1,t2,_⟩:=zT I1 d
 refine⟨t1,t2,?_⟩
 rw [m.trees]
 refine Calls.callWith_builtin rfl (Calls.evalArgs_plain (Calls.spliced_cons (aK (he pins s1 σ H1 _ I1 q1) fun iv s2 ⟨y,H2,I2,ry,q2⟩=>
  Calls.spliced_cons (aK (hf pins s2 σ H2 _ I2 q2) fun fv s3 ⟨z,H3,I3,rz,ov,g,q3⟩=>Calls.spliced_nil ?_))))
 exact al2 hu I3 g ry rz fun w' s4 I4 rw'=>⟨_,H3,I4,rw',q3⟩
end
end L2
namespace Att
open PySem PySem.W PySem.Calls PyProof.Rows
theorem al4 {P:Params}{h:Heap}:∀ (ns:List Int) (vs:List Value),WellAll P h vs (ns.map WData.int)->IntsAre vs ns:=by
 intro ns
 induction ns with
 | nil=>
  intro vs w
  rw [List.map_nil] at w
  cases w
  exact .nil
 | cons n ns ih=>
  intro vs w
  rw [aY8] at w
  cases w with
  | cons a b=>
   cases a
   exact .cons _ _ (ih _ b)
theorem zV {l:OpenLaw}{n:Nat} (hn:l.most=some n) {P:Params}{h:Heap}{args:List WData}{vals:List Value}
  (hpre:l.row.toRowW.claim.pre args=true) (hwl:WellAll P h vals args) :
  ∃ a vs ns,vals = [Value.ref a]/\args = [WData.list (ns.map WData.int)]/\h.get? a=some { cls:=.type "list",data:=.seq vs.toArray }/\IntsAre vs ns/\ns.length<=n:=by
 have hsh:WShape.hasAll [] args [.list .int]=true:=(pre_splitW hpre).1
 have hc:l.pre.holds [] { args:=args }=true:=(pre_splitW hpre).2
 obtain ⟨d,r,rfl,h1,h2⟩:=hasAllW_cons hsh
 obtain rfl:=hasAllW_nil h2
 obtain ⟨xs,rfl,h3⟩:=hasW_list h1
 obtain ⟨ns,rfl⟩:=items_int h3
 have hlen:ns.length<=n:=by
  unfold OpenLaw.pre at hc
  have h4:(WTm.not (.lt (.lit (.int (n:Int))) (.len (.arg 0)))).holds [] { args:=[.list (ns.map .int)] }=true:=by
   have h4:=(holds_andW hc).1
   rw [hn] at h4
   exact h4
  have h5:=condW_of h4 (w_not (w_lt w_lit (w_len_list (w_arg rfl))))
  rw [aW5] at h5
  refine Nat.le_of_not_lt fun q=>?_
  have q':(n:Int) < ((ns.length:Nat):Int):=by omega
  first
   | (rw [aX2 q'] at h5; exact absurd h5 (by decide))
   | (simp at h5; omega)
 cases hwl with
 | cons w1 w2=>
  cases w2
  cases w1 with
  | list ho hall=>exact⟨_,_,ns,rfl,rfl,ho,al4 ns _ hall,hlen⟩
theorem zW (l:OpenLaw) (args:List WData):l.row.toRowW.claim.post args (.bool true) args=true:=
 postW_of (r:=l.row.toRowW) (X:=(true == true))
  (show WShape.has [] (.bool true) .bool=true by first | rfl | decide | simp [WShape.has,WShape.arms,WShape.armsAll])
  (show (WTm.eq .res (.lit (.bool true))).value [] { args:=args,res:=some (.bool true),after:=args }=some (.bool (true == true)) from w_eq_bool (w_res rfl) w_lit) rfl
theorem aV8 {l:OpenLaw}{n:Nat}{q:Program}{loose:List Str}{XP:(Str->Option Value)->Heap->Prop}{YP:World->Heap->Prop}{d:DefRec}{x:Str}
  (hn:l.most=some n) (hdf:d.params.defaults = [])
  (hbind:∀ pm cd doc v:Value,bindArgs (docDef d.name d.params d.body d.scope pm cd doc) ⟨[v],[]⟩=pure [(x,v)])
  (hx:d.scope.names.lookup x=some .local ∨ d.scope.names.lookup x=some .cell)
  (hk:d.scope.kind = .function) (hco:d.scope.isCoroutine=false) (hgen:d.scope.isGenerator=false)
  (body:∀ (w:World) (s₀ s₁ s:Shared) (mg mb:Str->Option Value) (fa:Addr) (o:Obj) (pm cd doc:Value) (a:Addr) (vs:List Value) (ns:List Int),
   Ground q loose [] XP w s₀ mg mb s₁.heap->YP w s₁.heap->
   s₁.heap.get? fa=some o->o.data = .func (docDef d.name d.params d.body d.scope pm cd doc)->s₁.heap.CodeRec cd d.name->mg d.name=some (.ref fa)->
   s₁.heap.get? a=some { cls:=.type "list",data:=.seq vs.toArray }->IntsAre vs ns->ns.length<=n->
   s.gens = #[]->s.os=s₁.os->
   Fr s₁.heap s₁.heap.objs.size s.heap (bindL (envOfC d.name d.scope s₁.heap.objs.size fa cd).kindOf [(x,.ref a)] fun _=>none)->
   Cl s₁.heap.objs.size (cellsFrom (s₁.heap.objs.size+1) d.scope.names []) s.heap (bindC (envOfC d.name d.scope s₁.heap.objs.size fa cd).kindOf [(x,.ref a)] fun _=>none)->
   wpAny (model l.prog w) (callerA.deeper (envOfC d.name d.scope s₁.heap.objs.size fa cd)) (execs d.body (envOfC d.name d.scope s₁.heap.objs.size fa cd))
    (fun f s'=>f = .ret (.bool true)/\OldK s₁.heap s'.heap/\s'.os=s₁.os/\AllBare s'.gens) (fun _ _=>False) s) :
  WalkO q loose XP YP l.row.toRowW d [] (fun f vs=>PySem.call f vs):=by
 intro w s₀ s₁ mg mb G Y fa o pm cd doc dV kV ho hd hcd hD hmg hg args vals as hpre hlay hrd hwl hlo
 obtain rfl:dV = .none:=Dflts.none hD hdf
 obtain rfl:kV = .none:=Dflts.noKw hD
 obtain ⟨a,vs,ns,rfl,rfl,hobj,hints,hlen⟩:=zV hn hpre hwl
 refine enter_call ?_
 refine call_cells_ret (o:=o) (by rw [depth_caller]; decide) ho (fd_plain hd) G.T.nolimit hcd (hbind pm cd doc (.ref a)) (fun y hy=>?_) (fun h₁ tk F X=>?_) hco hgen hk
 ·obtain rfl:y=(x,Value.ref a):=aX4.mp hy
  rcases hx with e | e
  ·exact .inl e
  ·exact .inr ⟨e,cellsFrom_some _ _ _ (.inl e)⟩
 ·refine be6 (body w s₀ s₁ { s₁ with heap:=h₁,toks:=tk } mg mb fa o pm cd doc a vs ns G Y ho (fd_plain hd) hcd hmg hobj hints hlen hg rfl F X) (fun f s' hq=>?_) (fun _ _ hq=>hq)
  obtain ⟨rfl,h2,h3,h4⟩:=hq
  exact⟨.inl ⟨.bool true,.bool true,[],rfl,fun _=>rfl,.bool true,zW l _,fun _=>⟨bi9,fun _ hm=>(nomatch hm)⟩⟩,h2,h3,h4⟩
theorem al5 {l:OpenLaw}{n:Nat}{q:Program}{loose:List Str}{XP:(Str->Option Value)->Heap->Prop}{YP:World->Heap->Prop}{d:DefRec}
  (hn:l.most=some n) (hdf:d.params.defaults = [])
  (call:∀ (w:World) (s₀ s₁:Shared) (mg mb:Str->Option Value) (fa:Addr) (o:Obj) (pm cd doc:Value) (a:Addr) (vs:List Value) (ns:List Int),
   Ground q loose [] XP w s₀ mg mb s₁.heap->YP w s₁.heap->
   s₁.heap.get? fa=some o->o.data = .func (docDef d.name d.params d.body d.scope pm cd doc)->s₁.heap.CodeRec cd d.name->mg d.name=some (.ref fa)->
   s₁.heap.get? a=some { cls:=.type "list",data:=.seq vs.toArray }->IntsAre vs ns->ns.length<=n->s₁.gens = #[]->
   codeAny (model l.prog w) callerA (.call (.ref fa) ⟨[.ref a],[]⟩) (fun r s'=>r = .ok (.ret (.bool true))/\OldK s₁.heap s'.heap/\s'.os=s₁.os/\AllBare s'.gens) s₁) :
  WalkO q loose XP YP l.row.toRowW d [] (fun f vs=>PySem.call f vs):=by
 intro w s₀ s₁ mg mb G Y fa o pm cd doc dV kV ho hd hcd hD hmg hg args vals as hpre hlay hrd hwl hlo
 obtain rfl:dV = .none:=Dflts.none hD hdf
 obtain rfl:kV = .none:=Dflts.noKw hD
 obtain ⟨a,vs,ns,rfl,rfl,hobj,hints,hlen⟩:=zV hn hpre hwl
 refine enter_call (codeAny_mono (call w s₀ s₁ mg mb fa o pm cd doc a vs ns G Y ho (fd_plain hd) hcd hmg hobj hints hlen hg) fun r s' hq=>?_)
 obtain ⟨rfl,h2,h3,h4⟩:=hq
 exact⟨.inl ⟨.bool true,.bool true,[],rfl,fun _=>rfl,.bool true,zW l _,fun _=>⟨bi9,fun _ hm=>(nomatch hm)⟩⟩,h2,h3,h4⟩
end Att
namespace L2
open PySem PySem.Spec PyProof.Rows
theorem zX:∀ {vs:List Value}{ns:List Int},IntsAre vs ns->aQ (ns.map V.int) vs
 | _,_,.nil=>.nil
 | _,_,.cons n t h=>.cons ⟨t,rfl⟩ (zX h)
noncomputable def pF (H:Hp):Prop:=∀ b,H b=none ∨ ∃ o xs,H b=some (.frz o (.lst xs))
theorem al6 {P:Program}{w:World}{K:PySem.W.Frag}{mg mb:Str->Option Value}{CX:gK}{k:Nat}{fa a:Addr}{fd:FuncData}{x:Str}{sp:Sp}{s₁:Shared}{vs:List Value}{ns:List Int}
  (KX:K.In s₁.heap) (hns:s₁.heap.Ns mainGlobals mg) (hb:s₁.heap.Ns builtinsNs mb) (hbb:∀ x:Str,x ≠ "__name__"->mb x=bootBuiltins x) (hlim:s₁.heap.NoLimit) (hg:s₁.gens = #[])
  (ha:s₁.heap.get? a=some { cls:=.type "list",data:=.seq vs.toArray }) (hi:IntsAre vs ns) (hl:ns.length<=sizeLine) (hr:c6 k callerA)
  (F:∀ base:Heap,K.In base->base.Ns mainGlobals mg->dQ P w K mg base CX k fa fd [x] sp) (hbind:∀ (s:Shared) (u:Value),BindsTo s fd ⟨[u],[]⟩ [(x,u)])
  (hsp:∀ H:Hp,pF H->aU K H a (ns.map V.int)->sp [.ref a] H (fun v _=>v = .bl true) fun _ _ _=>False)
  (hCX:∀ H e s',CX [] H s₁ (fun _ _ _=>False) e s'->False) :
  codeAny (model P w) callerA (.call (.ref fa) ⟨[.ref a],[]⟩) (fun r s'=>r = .ok (.ret (.bool true))/\OldK s₁.heap s'.heap/\s'.os=s₁.os/\AllBare s'.gens) s₁:=by
 have rv:=zX hi
 have lenV:=hi.length
 have core:∀ H:Hp,pF H->aU K H a (ns.map V.int)->bK P w H s₁.heap->(∀ b,H b ≠ none->b=a)->(H a ≠ none->K.lookup a=none)->
   codeAny (model P w) callerA (.call (.ref fa) ⟨[.ref a],[]⟩) (fun r s'=>r = .ok (.ret (.bool true))/\OldK s₁.heap s'.heap/\s'.os=s₁.os/\AllBare s'.gens) s₁:=by
  intro H hO hS hok hA hK
  have base_of:∀ {b:Addr}{o:Obj},s₁.heap.get? b=some o->H b=none->(iT s₁.heap H).get? b=some o:=fun e n=>ab4 e n
  have noA:∀ {b:Addr}{o:Obj}{es:Array DictEntry}{ep:Nat},s₁.heap.get? b=some o->o.data = .dict es ep->H b=none:=fun {b o es ep} e d=>by
   cases q:H b with
   | none=>rfl
   | some u=>
    have e':b=a:=hA b (by rw [q]; simp)
    subst e'
    rw [ha] at e; cases e
    have d':Data.seq vs.toArray _=Data.dict es ep:=d
    cases d'
  have nsK:∀ {b:Addr}{m:Str->Option Value},s₁.heap.Ns b m->(iT s₁.heap H).Ns b m:=fun {b m} ⟨o,es,ep,e,d,r⟩=>⟨o,es,ep,base_of e (noA e d),d,r⟩
  have hKb:K.In (iT s₁.heap H):=fun b o e=>base_of (KX b o e) (by
   cases q:H b with
   | none=>rfl
   | some u=>
    have e':b=a:=hA b (by rw [q]; simp)
    subst e'
    rw [hK (by rw [q]; simp)] at e; cases e)
  have hM:Mod K mg (iT s₁.heap H):=⟨hKb,nsK hns,⟨mb,nsK hb,hbb⟩,let ⟨mc,h1,h2⟩:=hlim; ⟨mc,nsK h1,h2⟩⟩
  have e0:pB P w K mg (iT s₁.heap H) callerA [] s₁ H:=⟨rfl,hM,fun b o e=>ab5 e,Nat.le_of_eq (ab3 _ _),trivial,fun b hb=>absurd (show b ∈ ([]:List Addr) from hb) (by simp),hok,.of_eq hg⟩
  refine codeAny_mono ((F _ hKb (nsK hns)).run callerA [] s₁ H ⟨[.ref a],[]⟩ [.ref a] [.ref a] _ _ hr e0 (hbind s₁ (.ref a)) (.cons rfl .nil) (hsp H hO hS)) fun r s' h=>?_
  cases r with
  | error e=>exact (hCX H e s' h).elim
  | ok fl=>
   cases fl with
   | next=>exact False.elim h
   | brk=>exact False.elim h
   | cont=>exact False.elim h
   | ret u=>
    obtain ⟨v,H',os,bare,un,hok',r',q⟩:=h
    have q':v = .bl true:=q
    subst q'
    obtain rfl:u=Value.bool true:=r'
    refine⟨rfl,OldK.of_keep fun b o e=>?_,os,bare⟩
    cases q:H b with
    | none=>exact un.keep b o e q (by intro z; exact absurd (show b ∈ ([]:List Addr) from z) (by simp)) (by simp)
    | some u=>
     rcases hO b with z | ⟨ob,xs,z⟩
     ·rw [q] at z; cases z
     ·have z2:=un.frzs b ob _ z
      obtain ⟨e1,_⟩:=hok b _ z
      obtain ⟨e2,_⟩:=hok' b _ z2
      rw [e] at e1; cases e1
      exact e2
 cases hk:K.lookup a with
 | some o=>
  have e:=KX a o hk
  rw [ha] at e
  cases e
  refine core (fun _=>none) (fun _=>.inl rfl) (.inr ⟨_,vs.toArray,_,hk,rfl,rfl,rfl,by rw [aY2,lenV]; exact hl,by simpa using rv⟩) (fun b u z=>by have z':(none:Option HO)=some u:=z; cases z') (fun b z=>absurd rfl z) fun z=>absurd rfl z
 | none=>
  refine core (fun b=>if b=a then some (.frz { cls:=.type "list",data:=.seq vs.toArray } (.lst (ns.map V.int))) else none) (fun b=>?_) (.inl (.inr ⟨{ cls:=.type "list",data:=.seq vs.toArray },if_pos rfl⟩)) (fun b u z=>?_) (fun b z=>?_) fun _=>hk
  ·by_cases hb:b=a
   ·exact .inr ⟨_,_,if_pos hb⟩
   ·exact .inl (if_neg hb)
  ·by_cases hb:b=a
   ·have z':=(if_pos hb).symm.trans z
    cases z'
    subst hb
    exact⟨ha,by rw [aW5]; exact hl,vs,_,rv,ha⟩
   ·have z':=(if_neg hb).symm.trans z
    cases z'
  ·by_cases hb:b=a
   ·exact hb
   ·exact absurd (if_neg hb) z
theorem al7 {l:PySem.W.OpenLaw}{n k:Nat}{q:Program}{loose:List Str}{XP:(Str->Option Value)->Heap->Prop}{YP:World->Heap->Prop}{d:DefRec}{K:Params->PySem.W.Frag}{CX:World->gK}{sp:World->Sp}{x:Str}
  (hn:l.most=some n) (hn2:n<=sizeLine) (hdf:d.params.defaults = []) (hr:c6 k callerA)
  (hY:∀ (w:World) (h:Heap),YP w h->(K w.params).In h)
  (F:∀ (w:World) (mg:Str->Option Value) (fa:Addr) (h:Heap),(K w.params).In h->h.Ns mainGlobals mg->mg d.name=some (.ref fa)->
   ∃ fd:FuncData,(∀ (s:Shared) (u:Value),BindsTo s fd ⟨[u],[]⟩ [(x,u)])/\
    ∀ base:Heap,(K w.params).In base->base.Ns mainGlobals mg->dQ l.prog w (K w.params) mg base (CX w) k fa fd [x] (sp w))
  (hsp:∀ (w:World) (H:Hp) (a:Addr) (ns:List Int),ns.length<=n->pF H->aU (K w.params) H a (ns.map V.int)->sp w [.ref a] H (fun v _=>v = .bl true) fun _ _ _=>False)
  (hCX:∀ (w:World) (H:Hp) (s:Shared) (e:Value) (s':Shared),CX w [] H s (fun _ _ _=>False) e s'->False) :
  PySem.W.WalkO q loose XP YP l.row.toRowW d [] (fun f vs=>PySem.call f vs):=by
 refine Att.al5 hn hdf fun w s₀ s₁ mg mb fa o pm cd doc a vs ns G Y ho hd hcd hmg hobj hints hlen hg=>?_
 have KX:=hY w _ Y
 obtain ⟨fd,hb,hF⟩:=F w mg fa _ KX G.T.g hmg
 exact al6 KX G.T.g G.T.b G.T.builtins G.T.nolimit hg hobj hints (aZ8 hlen hn2) hr hF hb (fun H hO hS=>hsp w H a ns hlen hO hS) fun H e s'=>hCX w H s₁ e s'
noncomputable def iW (s:Stmt):Arguments:=match s with
 | .FunctionDef _ a _ _ _ _ _ _ _ _=>a
 | _=>{ posonlyargs:=[],args:=[],vararg:=none,kwonlyargs:=[],kw_defaults:=[],kwarg:=none,defaults:=[] }
noncomputable def eL (s:Stmt):List Stmt:=match s with
 | .FunctionDef _ _ b _ _ _ _ _ _ _=>b
 | _=>[]
noncomputable def aW (s:Stmt):Scope:=match s with
 | .FunctionDef _ _ _ _ _ _ sc _ _ _=>sc
 | _=>{ kind:=.function,names:=[],isGenerator:=false,isCoroutine:=false }
noncomputable abbrev fN:gK:=fun _ _ _ _ _ _=>False
noncomputable abbrev E0:XK:=fun _ _ _=>False
theorem al8 {X:Cx}:nD fN X E0:=fun _ _ _ _ _ _ _ h=>h.elim
structure gB (K:PySem.W.Frag) (x qual:Str) (st:Stmt) (f:Addr) (fd:FuncData):Prop where
 ex:∃ (oc:Value) (od:Option Addr) (kV doc pm:Value) (an:Option Addr) (cdv ct:Value) (osl:Array (Option Value)),
  fd=PySem.W.fnOf x qual (iW st) (eL st) (aW st) .none kV doc pm an cdv ct/\K.lookup f=some ⟨oc,od,.func fd,osl⟩/\PySem.W.codeIn K cdv qual=true
 kp:PySem.W.keepIn K (.ref f)=true
section
variable {P : Program} {w : World} {K : PySem.W.Frag} {mg : Str → Option Value} {base : Heap}
theorem gB.ok {x qual:Str}{st:Stmt}{f:Addr}{fd:FuncData}{N ps:List Str}{k:Nat}{sp:Sp} (F:gB K x qual st f fd) (S:FnScope N ps (aW st)) (len:∀ vs H Q E,sp vs H Q E->vs.length=ps.length)
  (hbody:∀ (cdv:Value) (A:Around) (outer:List Env) (s:Shared) (H:Hp) (vs:List V) (Q:VK) (E:XK),c6 k (A.deeper (envOfC qual (aW st) s.heap.objs.size f cdv))->sp vs H Q E->
   ∃ t,dN (dA fN P w K mg base N qual (aW st) f cdv A outer s H E).nox (eL st) t/\t { nx:=fun _ H'=>Q .non H',rt:=Q } (gL N vs) H):dQ P w K mg base fN (k+1) f fd ps sp:=by
 obtain ⟨oc,od,kV,doc,pm,an,cdv,ct,osl,rfl,lk,hcd⟩:=F.ex
 refine yO lk hcd S len fun A outer s H vs Q E hr hsp=>?_
 obtain ⟨t,h,q⟩:=hbody cdv A outer s H vs Q E hr hsp
 exact⟨t,h.nox,q⟩
theorem gB.binds {x qual:Str}{st:Stmt}{f:Addr}{fd:FuncData}{ps:List Str} (F:gB K x qual st f fd)
  (h:∀ (kV doc pm:Value) (an:Option Addr) (cdv ct:Value) (us:List Value),us.length=ps.length->bindArgs (PySem.W.fnOf x qual (iW st) (eL st) (aW st) .none kV doc pm an cdv ct) ⟨us,[]⟩=pure (ps.zip us)):kD K fd ps []:=by
 obtain ⟨oc,od,kV,doc,pm,an,cdv,ct,osl,rfl,lk,hcd⟩:=F.ex
 exact .all (h kV doc pm an cdv ct)
theorem al9 {x qual:Str}{st:Stmt}{f:Addr}{oc:Value}{od an:Option Addr}{osl:Array (Option Value)}{kV doc pm cdv ct:Value} (l:K.lookup f=some ⟨oc,od,.func (PySem.W.fnOf x qual (iW st) (eL st) (aW st) .none kV doc pm an cdv ct),osl⟩)
  (c:PySem.W.codeIn K cdv qual=true) (k:PySem.W.keepIn K (.ref f)=true):gB K x qual st f (PySem.W.fnOf x qual (iW st) (eL st) (aW st) .none kV doc pm an cdv ct):=⟨⟨oc,od,kV,doc,pm,an,cdv,ct,osl,rfl,l,c⟩,k⟩
end
theorem iX {A:Around}{k:Nat} (hr:c6 k A):A.units+1 < cLine:=Nat.lt_of_le_of_lt (Nat.add_le_add_left (by decide:1<=64) _) hr.units
theorem am0 {n:Nat} (h:n<=1000):n < sizeLine:=Nat.lt_of_le_of_lt h (by decide)
section
variable {X : Cx}
theorem pv (i:Nat) {x:Str}{pos:Pos} (hN:X.N[i]? = some x:=by rfl) (hv:iE X.env.scope x:=by first | exact Or.inl rfl | exact Or.inr (Or.inl rfl) | exact Or.inr (Or.inr rfl)) (hd:(x == ("__debug__" : Str))=false:=by decide)
  (hcd:(x == ("__classdict__" : Str))=false:=by decide):PE X (.Name x pos) (fH i):=k8 hN hv hd hcd
theorem am1:cJ X (.builtin "len") (fun xs H Q=>∃ a kvs,xs = [V.ref a]/\H a=some (.dK kvs)/\Q (.int kvs.length) H):=by
 intro pins s σ H xs us Q I r h
 obtain ⟨a,kvs,rfl,ha,q⟩:=h
 obtain ⟨u,rfl,ru⟩:=hG r
 cases ru
 exact ak4 I (.inl ha) fun t s' I'=>⟨.int kvs.length,H,I',⟨t,rfl⟩,q⟩
end
theorem aS {A B:Prop} (h:B):if false=true then A else B:=by
 rw [if_neg aY9]
 exact h
theorem aZ {A B:Prop} (h:A):if true=true then A else B:=by
 rw [if_pos rfl]
 exact h
noncomputable def aD (H H':Hp):Prop:=∀ b o,H b=some o->H' b=some o
theorem aD.refl (H:Hp):aD H H:=fun _ _ h=>h
theorem aD.trans {H H1 H2:Hp} (a:aD H H1) (b:aD H1 H2):aD H H2:=fun c o h=>b c o (a c o h)
theorem aD.free {H H':Hp} (e:aD H H') {l:Addr} (h:H' l=Option.none):H l=Option.none:=by
 cases q:H l with
 | none=>rfl
 | some o=>
  rw [e l o q] at h
  cases h
noncomputable def e8 (cells:List (Str × Addr)):List (Str × NameKind)->List (Str × Addr)->List (Str × Addr)
 | [],cs=>cs
 | (n,k) :: r,cs=>e8 cells r (if k == .free then (n,(cells.lookup n).getD 0) :: cs else cs)
theorem tK {env:Env}:∀ (ns:List (Str × NameKind)) (cs:List (Str × Addr)),(∀ x ∈ ns,x.2 = .free->∃ c,env.cells.lookup x.1=some c)->
  (forIn ns cs (fun (x:Str × NameKind) r=>(match x with
   | (name,kind)=>if (kind == .free)=true then (do let y <- cellOf env name; pure (ForInStep.yield ((name,y) :: r))) else pure (ForInStep.yield r)):_->_->Sem _))=(pure (e8 env.cells ns cs):Sem (List (Str × Addr)))
 | [],cs,_=>by rw [List.forIn_nil]; rfl
 | (n,k) :: r,cs,h=>by
  rw [List.forIn_cons]
  have hr:∀ x ∈ r,x.2 = .free->∃ c,env.cells.lookup x.1=some c:=fun x hx=>h x (aX0 _ hx)
  cases hk:(k == NameKind.free) with
  | true=>
   have e:k = .free:=by simpa using hk
   obtain ⟨c,hc⟩:=h (n,k) aX3 e
   simp only [hk,if_true]
   have e1:cellOf env n=pure c:=by unfold cellOf; rw [hc]
   rw [e1]
   show ((pure c >>= fun y=>pure (ForInStep.yield ((n,y) :: cs))) >>= _:Sem _)=_
   rw [pure_bind,pure_bind]
   have:=tK (env:=env) r ((n,c) :: cs) hr
   refine this.trans ?_
   unfold e8
   simp only [hk,if_true,hc,Option.getD_some]
   cases r <;> rfl
  | false=>
   simp only [hk,aZ2,be4]
   rw [pure_bind]
   have:=tK (env:=env) r cs hr
   refine this.trans ?_
   conv=>rhs; unfold e8
   simp only [hk,aZ2,be4]
theorem zY {scope:Scope}{env:Env} (h:∀ x ∈ scope.names,x.2 = .free->∃ c,env.cells.lookup x.1=some c):closureFor scope env=pure (e8 env.cells scope.names []):=by
 have e:=tK (env:=env) scope.names [] h
 unfold closureFor
 rw [show (pure (e8 env.cells scope.names []):Sem (List (Str × Addr)))=(pure (e8 env.cells scope.names []) >>= pure) by rw [pure_bind]]
 rw [<- e]
theorem pG {cells:List (Str × Addr)}:∀ (ns:List (Str × NameKind)) (cs:List (Str × Addr)) {x:Str}{c:Addr},(∀ y ∈ ns,y.2 = .free->∃ c,cells.lookup y.1=some c)->
  (∀ x c,cs.lookup x=some c->cells.lookup x=some c)->(e8 cells ns cs).lookup x=some c->cells.lookup x=some c
 | [],cs,x,c,_,hc,h=>hc x c h
 | (n,k) :: r,cs,x,c,hn,hc,h=>by
  unfold e8 at h
  have hr:∀ y ∈ r,y.2 = .free->∃ c,cells.lookup y.1=some c:=fun y hy=>hn y (aX0 _ hy)
  cases hk:(k == NameKind.free) with
  | false=>
   simp only [hk,aZ2,be4] at h
   exact pG r cs hr hc h
  | true=>
   simp only [hk,if_true] at h
   refine pG r _ hr (fun y d e=>?_) h
   obtain ⟨c0,h0⟩:=hn (n,k) aX3 (by simpa using hk)
   have h0:cells.lookup n=some c0:=h0
   rw [h0] at e
   rw [bd1] at e
   by_cases hyn:y=n
   ·subst hyn
    simp only [bg1,Option.getD_some] at e
    rw [h0]; exact e
   ·have:(y == n)=false:=beq_eq_false_iff_ne.mpr hyn
    simp only [this] at e
    exact hc y d e
theorem tL {cells:List (Str × Addr)}:∀ (ns:List (Str × NameKind)) (cs:List (Str × Addr)) {x:Str},((x,NameKind.free) ∈ ns ∨ ∃ c,cs.lookup x=some c)->∃ c,(e8 cells ns cs).lookup x=some c
 | [],cs,x,h=>by
  rcases h with h | h
  ·simp at h
  ·exact h
 | (n,k) :: r,cs,x,h=>by
  unfold e8
  refine tL r _ ?_
  rcases h with h | ⟨c,h⟩
  ·rcases aW9.mp h with e | e
   ·cases e
    exact .inr ⟨_,by simp [bd1]; rfl⟩
   ·exact .inl e
  ·right
   cases hk:(k == NameKind.free) with
   | false=>exact⟨c,by simpa [hk] using h⟩
   | true=>
    simp only [if_true]
    rw [bd1]
    by_cases hxn:(x == n)=true
    ·simp only [hxn]; exact⟨_,rfl⟩
    ·simp only [Bool.eq_false_iff.mpr hxn]; exact⟨c,h⟩
theorem pH {env:Env}:∀ {names:List (Str × NameKind)}{x:Str}{k:NameKind},(names.map fun (n,k)=>if (k == NameKind.free && env.scope.kind == .function && env.kindOf n == some .cell) then (n,NameKind.cell) else (n,k)).lookup x=some k->
  names.lookup x=some k ∨ (names.lookup x=some .free/\k = .cell)
 | [],_,_,h=>by simp at h
 | (n,q) :: r,x,k,h=>by
  have ih:=@pH env r x k
  rw [aY8] at h
  by_cases hx:(x == n)=true
  ·have e:x=n:=by simpa using hx
   subst e
   by_cases hc:(q == NameKind.free && env.scope.kind == .function && env.kindOf x == some .cell)=true
   ·simp only [hc,if_true,bd1,bg1] at h
    have hq:q = .free:=by simp at hc; exact hc.1.1
    exact .inr ⟨by simp [bd1,hq],(aZ0 h).symm⟩
   ·simp only [hc,aZ2,be4,bd1,bg1] at h
    exact .inl (by simp [bd1]; exact aZ0 h)
  ·have hx':(x == n)=false:=Bool.eq_false_iff.mpr hx
   have h':(r.map fun (n,k)=>if (k == NameKind.free && env.scope.kind == .function && env.kindOf n == some .cell) then (n,NameKind.cell) else (n,k)).lookup x=some k:=by
    by_cases hc:(q == NameKind.free && env.scope.kind == .function && env.kindOf n == some .cell)=true
    ·simp only [hc,if_true,bd1,hx'] at h; exact h
    ·simp only [hc,aZ2,be4,bd1,hx'] at h; exact h
   simp only [bd1,hx']
   exact ih h'
noncomputable def e9 (fr:List (Option Nat)) (σ:St):St:=fr.map fun o=>o.bind fun j=>(σ[j]?).join
noncomputable def Wk (σ₁ σ₂:St):Prop:=σ₁.length=σ₂.length/\∀ (i:Nat) v,σ₁[i]? = some (some v)->σ₂[i]? = some (some v)
theorem iY:∀ (ns:List (Str × NameKind)) (n:Nat) (cs:List (Str × Addr)),cellsFrom n ns cs=cellsFrom n ns [] ++ cs
 | [],_,_=>rfl
 | (x,k) :: r,n,cs=>by
  unfold cellsFrom
  split
  ·rw [iY r (n+1) ((x,n) :: cs),iY r (n+1) [(x,n)]]; simp
  ·exact iY r n cs
theorem tM:∀ (ns:List (Str × NameKind)) (n:Nat) {x:Str}{c:Addr},(x,c) ∈ cellsFrom n ns []->(x,NameKind.cell) ∈ ns
 | [],_,_,_,h=>by simp [cellsFrom] at h
 | (y,k) :: r,n,x,c,h=>by
  unfold cellsFrom at h
  split at h
  ·rename_i hk
   rw [iY] at h
   rcases ba2.mp h with z | z
   ·exact aX0 _ (tM r _ z)
   ·rw [aX4] at z
    cases z
    have:k = .cell:=by simpa using hk
    rw [this]; exact aX3
  ·exact aX0 _ (tM r _ h)
theorem pI:∀ (ns:List (Str × NameKind)) (n:Nat) {x:Str},(x,NameKind.cell) ∈ ns->∃ c,(x,c) ∈ cellsFrom n ns []
 | (y,k) :: r,n,x,h=>by
  unfold cellsFrom
  rcases aW9.mp h with z | z
  ·cases z
   rw [if_pos (by rfl),iY]
   exact⟨n,aZ5 _ (by simp)⟩
  ·split
   ·obtain ⟨c,hc⟩:=pI r (n+1) z
    rw [iY]
    exact⟨c,bb1 _ hc⟩
   ·exact pI r n z
theorem tN {α:Type}:∀ {l:List (Str × α)}{x:Str}{c:α},(x,c) ∈ l->∃ d,l.lookup x=some d
 | (y,v) :: r,x,c,h=>by
  rw [bd1]
  cases hb:x == y with
  | true=>exact⟨v,rfl⟩
  | false=>
   rcases aW9.mp h with z | z
   ·cases z; simp at hb
   ·exact tN z
theorem pJ {α:Type}{x:Str}:∀ (l r:List (Str × α)),(l ++ r).lookup x=(match l.lookup x with | some v=>some v | none=>r.lookup x)
 | [],_=>rfl
 | (y,v) :: l,r=>by
  rw [List.cons_append,bd1,bd1]
  cases hb:x == y with
  | true=>rfl
  | false=>exact pJ l r
noncomputable def gN (X:Cx) (scope:Scope) (C:Addr):List (Str × Addr):=cellsFrom (C+1) scope.names (e8 X.env.cells scope.names [])
theorem kH {X:Cx}{scope:Scope}{C:Addr}{x:Str}{c:Addr} (h:(gN X scope C).lookup x=some c) :
  (x,c) ∈ cellsFrom (C+1) scope.names [] ∨ ((∀ d,(x,d) ∉ cellsFrom (C+1) scope.names [])/\(e8 X.env.cells scope.names []).lookup x=some c):=by
 unfold gN at h
 rw [iY,pJ] at h
 cases e:(cellsFrom (C+1) scope.names []).lookup x with
 | some v=>rw [e] at h; cases h; exact .inl (bc0 e)
 | none=>
  rw [e] at h
  refine .inr ⟨fun d hd=>?_,h⟩
  obtain ⟨d',z⟩:=tN hd
  rw [e] at z; cases z
theorem am2 {X:Cx}{scope:Scope}{C:Addr}{x:Str}{c:Addr} (hn:(x,NameKind.cell) ∉ scope.names) (h:(e8 X.env.cells scope.names []).lookup x=some c):(gN X scope C).lookup x=some c:=by
 unfold gN
 rw [iY,pJ]
 cases e:(cellsFrom (C+1) scope.names []).lookup x with
 | some v=>exact absurd (tM _ _ (bc0 e)) hn
 | none=>exact h
theorem zZ {X:Cx}{scope:Scope}{C:Addr}{x:Str} (h:(x,NameKind.cell) ∈ scope.names ∨ ∃ c,(e8 X.env.cells scope.names []).lookup x=some c):∃ c,(gN X scope C).lookup x=some c:=by
 unfold gN
 rw [iY,pJ]
 cases e:(cellsFrom (C+1) scope.names []).lookup x with
 | some v=>exact⟨v,rfl⟩
 | none=>
  rcases h with h | h
  ·obtain ⟨c,hc⟩:=pI scope.names (C+1) h
   obtain ⟨d,hd⟩:=tN hc
   rw [e] at hd; cases hd
  ·exact h
noncomputable def bO (X:Cx) (scope:Scope) (N:List Str) (s:Shared) (H:Hp) (C:Addr) (fp:List Addr) (E:Value->Shared->Prop):Cx:=
 { X with N:=N,s₀:=s,H₀:=H,env:=compEnvC scope (gN X scope C) C X.env,outer:=X.stack,ex:=fp,fn:=fun x=>scope.names.lookup x == some .cell,pn:=[],xe:=E }
structure dR (X:Cx) (scope:Scope) (N:List Str) (fr:List (Option Nat)):Prop where
 kind:scope.kind = .function
 own:∀ y ∈ scope.names,y.2 = .cell->scope.names.lookup y.1=some .cell
 names:∀ y ∈ scope.names,y.2 = .local->scope.names.lookup y.1=some .local
 free:∀ y ∈ scope.names,y.2 = .free->X.env.scope.names.lookup y.1=some .cell ∨ X.env.scope.names.lookup y.1=some .free
 len:fr.length=N.length
 from_:∀ (i j:Nat),fr[i]? = some (some j)->∃ x,N[i]? = some x/\X.N[j]? = some x/\scope.names.lookup x=some .free
section
variable {X : Cx} {pins : List (Addr × Obj)} {σ : St} {H : Hp} {s : Shared} {scope : Scope} {N : List Str} {fr : List (Option Nat)}
theorem dR.cells (S:dR X scope N fr) (I:a6 X pins σ H s):∀ y ∈ scope.names,y.2 = .free->∃ c,X.env.cells.lookup y.1=some c:=fun y hy hk=>I.ok.has y.1 (S.free y hy hk)
theorem am3 {C D:Addr}{fp:List Addr}{E:Value->Shared->Prop}{h1:Heap}{tk:Nat}{m:Str->Option Value} (S:dR X scope N fr) (I:a6 X pins σ H s)
  (hf:∀ b ∈ fp,g9 X pins H b) (hfl:∀ b ∈ fp,b < s.heap.objs.size) (hD:s.heap.objs.size<=D) (hC:s.heap.objs.size<=C) (hDC:D < C)
  (old:∀ b o,s.heap.get? b=some o->h1.get? b=some o) (hns:h1.Ns C m) (hacc:h1.get? D=some { cls:=.type "list",data:=.seq #[] 0 }) (hco:CellsOk h1 (C+1) (cellsFrom (C+1) scope.names [])) :
  a6 (bO X scope N s H C fp E) [] (e9 fr σ) (upd H D (.lst [])) { s with heap:=h1,toks:=tk }:=by
 have hHD:H D=none:=I.hok.fresh hD
 have cl:=S.cells I
 have cs:∀ {x:Str}{c:Addr},(e8 X.env.cells scope.names []).lookup x=some c->X.env.cells.lookup x=some c:=fun {x c} h=>pG scope.names [] cl (fun _ _ z=>by simp at z) h
 have clt:∀ {x:Str}{c:Addr},X.env.cells.lookup x=some c->c < s.heap.objs.size:=fun {x c} h=>by obtain ⟨v,z⟩:=I.cell x c h; exact z.lt
 have nge:∀ {x:Str}{c:Addr},(x,c) ∈ cellsFrom (C+1) scope.names []->C < c:=fun {x c} h=>(hco.empty x c h).2
 refine⟨⟨I.ok.mod,?_,I.ok.glob,I.ok.blt,hC,?_,?_,?_,I.ok.hd,I.ok.frames,.inl rfl,?_,I.bs,aZ8 I.ok.bsz I.sz,?_,?_,I.stack,I.stkFree⟩,rfl,I.bare,Un.laid old hD hHD,⟨m,hns,?_⟩,?_,?_,?_,fun p hp=>absurd (show p ∈ ([]:List (Addr × Obj)) from hp) (by simp),?_,?_⟩
 ·exact S.kind
 ·intro x y c h1 h2
  rcases kH h1 with a | ⟨_,a⟩ <;> rcases kH h2 with b | ⟨_,b⟩
  ·exact name_of_addr hco.apart a b
  ·exact absurd (aY4 (Nat.lt_trans (nge a) (clt (cs b))) hC) (be3 _)
  ·exact absurd (aY4 (Nat.lt_trans (nge b) (clt (cs a))) hC) (be3 _)
  ·exact I.ok.inj x y c (cs a) (cs b)
 ·intro x hx
  have hx:(relabel scope X.env).names.lookup x=some .cell ∨ (relabel scope X.env).names.lookup x=some .free:=hx
  have fin:(x,NameKind.free) ∈ scope.names->∃ c,(gN X scope C).lookup x=some c:=fun z=>zZ (.inr (tL scope.names [] (.inl z)))
  rcases hx with hx | hx
  ·rcases pH hx with z | z
   ·exact zZ (.inl (bc0 z))
   ·exact fin (bc0 z.1)
  ·rcases pH hx with z | z
   ·exact fin (bc0 z)
   ·exact absurd z.2 (by decide)
 ·intro x c hx h
  have hx:(scope.names.lookup x == some NameKind.cell)=true:=hx
  have hx:scope.names.lookup x=some .cell:=by simpa using hx
  rcases kH h with a | ⟨a,_⟩
  ·exact aZ8 hC (bj1 (nge a))
  ·obtain ⟨d,hd⟩:=pI scope.names (C+1) (bc0 hx)
   exact absurd hd (a d)
 ·intro b hb
  refine⟨aZ6 (aY4 (hfl b hb) hC),fun x c e=>?_⟩
  rcases kH e with a | ⟨_,a⟩
  ·exact bf3 (Nat.lt_trans (aY4 (hfl b hb) hC) (nge a))
  ·exact (hf b hb).2.2.2.2.1 x c (cs a)
 ·intro b o e hb
  rcases (hf b hb).2.2.2.1 with z | z
  ·exact I.ok.noex b o e z
  ·exact absurd (aY4 (aX8 e) (aZ8 I.ok.bsz z)) (be3 _)
 ·intro b hb z
  rcases aW9.mp (I.stkSub b z) with e | e
  ·exact (hf b hb).2.1 e
  ·exact (hf b hb).2.2.1 e
 ·intro i x v e1 e2 e3
  have e2:(fr.map fun o=>o.bind fun j=>(σ[j]?).join)[i]? = some (some v):=e2
  rw [aX1] at e2
  cases ef:fr[i]? with
  | none=>rw [ef] at e2; cases e2
  | some o=>
   rw [ef] at e2
   cases o with
   | none=>cases e2
   | some j=>
    have e2:some ((σ[j]?).join)=some (some v):=e2
    have ej:σ[j]? = some (some v):=by
     cases q:σ[j]? with
     | none=>rw [q] at e2; cases e2
     | some w=>rw [q] at e2; cases w with
      | none=>cases e2
      | some w=>cases e2; rfl
    obtain ⟨y,a1,a2,a4⟩:=S.from_ i j ef
    have e1:N[i]? = some x:=e1
    rw [e1] at a1
    cases a1
    have a3:(x,NameKind.free) ∈ scope.names:=bc0 a4
    have vis:iE X.env.scope x:=(S.free _ a3 rfl).elim (fun z=>.inr (.inl z)) fun z=>.inr (.inr z)
    obtain ⟨m0,hn0,hl0⟩:=I.loc
    obtain ⟨u,r,l⟩:=hl0 j x v a2 ej vis
    refine⟨u,r,.inr ⟨?_,?_⟩⟩
    ·have e3:(relabel scope X.env).names.lookup x=some .local ∨ (relabel scope X.env).names.lookup x=some .cell ∨ (relabel scope X.env).names.lookup x=some .free:=e3
     rcases e3 with z | z | z
     ·rcases pH z with y | y
      ·rw [a4] at y; cases y
      ·exact absurd y.2 (by decide)
     ·exact .inl z
     ·exact .inr z
    ·obtain ⟨c,hc⟩:=tL (cells:=X.env.cells) scope.names [] (x:=x) (.inl a3)
     refine⟨c,am2 (fun z=>by have:=S.own _ z rfl; rw [a4] at this; cases this) hc,?_⟩
     have hc':=cs hc
     have S1:=S.free (x,.free) a3 rfl
     rcases l with ⟨k,_⟩ | ⟨_,c2,hc2,z⟩
     ·have k:X.env.scope.names.lookup x=some .local:=k
      rcases S1 with q | q <;> (have q:X.env.scope.names.lookup x=_:=q; rw [k] at q; cases q)
     ·rw [hc'] at hc2; cases hc2
      obtain ⟨oc,ho,hd⟩:=z
      exact⟨oc,old c oc ho,hd⟩
 ·intro x c e
  rcases kH e with a | ⟨_,a⟩
  ·exact⟨_,(hco.empty x c a).1⟩
  ·obtain ⟨v,oc,ho,hd⟩:=I.cell x c (cs a)
   exact⟨v,oc,old c oc ho,hd⟩
 ·show upd H D (.lst []) C=none
  rw [aF (bf3 hDC)]; exact I.hok.fresh hC
 ·intro x c e
  show upd H D (.lst []) c=none
  rcases kH e with a | ⟨_,a⟩
  ·rw [aF (bf3 (Nat.lt_trans hDC (nge a)))]; exact I.hok.fresh (aZ8 hC (bj1 (nge a)))
  ·have q:=cs a
   rw [aF (aZ6 (aY4 (clt q) hD))]
   exact I.freeC x c q
 ·exact I.hok.laid old hD ⟨bf0 _,[],0,.nil,hacc⟩
 ·show (e9 fr σ).length=N.length
  unfold e9; rw [aW5]; exact S.len
end
noncomputable def kI (X:Cx) (ifs:List Expr) (t:TT):Prop:=
 ∀ (pins:List (Addr × Obj)) (s:Shared) (σ:St) (H:Hp) (Q:Bool->Hp->Prop),a6 X pins σ H s->t σ H Q->
  wpAny (model X.prog X.w) X.A (forIn ifs true fun c r=>if r=true then do let ok <- isTrue c X.env (eval c X.env); pure (ForInStep.yield ok) else pure (ForInStep.yield r)) (TP X pins σ Q) X.xe s
noncomputable def A0:TT:=fun _ H Q=>Q true H
theorem am4 {X:Cx}:kI X [] A0:=fun _ _ _ H _ I h=>wpAny_tests_nil ⟨H,I,h⟩
theorem tO {X:Cx}{c:Expr}{t:TT} (h:PT X c t):kI X [c] t:=fun pins s σ H Q I hq=>wpAny_tests_one (h pins s σ H Q I hq)
section
variable {prog : Program} {w : World} {A : Around}
noncomputable def tP (prog:Program) (w:World) (A:Around) (elt tg:Expr) (ifs:List Expr) (it acc:Value) (env:Env) (lost:Value->Shared->Prop) (stop next:Shared->Prop) (s:Shared):Prop:=
 let M:=model prog w
 let tests:Sem Bool:=forIn ifs true fun c r=>if r=true then do let ok <- isTrue c env (eval c env); pure (ForInStep.yield ok) else pure (ForInStep.yield r)
 let put:Shared->Prop:=wpAny M A (eval elt env) (fun x=>wpAny M A (call (.builtin "list.append") [acc,x]) (fun _=>next) lost) lost
 let taken:Value->Shared->Prop:=fun v=>wpAny M A (letOwnedTupleGo tg it v) (fun _=>wpAny M A (assign tg env v) (fun _=>wpAny M A tests (fun ok s'=>if ok=true then put s' else next s') lost) lost) lost
 wpAny M A (pyNext it) (fun r s'=>match r with
  | none=>stop s'
  | some v=>taken v s') lost s
theorem am5 {R:Result->Shared->Prop}{s:Shared}{elt tg iter:Expr}{ifs:List Expr}{scope:Scope}{pos:Pos}{it acc:Value}{env:Env} (I:Nat->Shared->Prop)
  (turn:∀ n s,I n s->tP prog w A elt tg ifs it acc env (notedBy (model prog w) A env fun e=>R (.error e)) (R (.ok .next)) (fun s'=>∃ m,m < n/\I m s') s) (n:Nat) (h:I n s) :
  codeAny (model prog w) A (.compLoop (.ListComp elt [⟨tg,iter,ifs,0⟩] scope pos) 0 it acc env) R s:=by
 apply codeAny_loop rfl I _ n h
 intro k s1 h1
 change wpAny _ A ((compTurn _ 0 it acc env).onRaise (fun x=>do noteFrame x env; theTreesLotGoes x)) _ _ s1
 apply wpAny_noted
 rw [compTurn_list]
 have t:=turn k s1 h1
 unfold tP at t
 apply aW2
 apply wpAny_standAt
 apply aW2
 refine be6 t (fun r s2 h2=>?_) fun _ _ z=>z
 cases r with
 | none=>exact aW7 h2
 | some v=>
  apply aW2
  refine be6 h2 (fun _ s3 h3=>?_) fun _ _ z=>z
  apply aW2
  refine be6 h3 (fun _ s4 h4=>?_) fun _ _ z=>z
  apply aW2
  refine be6 h4 (fun ok s5 h5=>?_) fun _ _ z=>z
  cases ok with
  | false=>exact aW7 ⟨rfl,h5⟩
  | true=>
   apply aW2
   apply aW2
   refine be6 h5 (fun x s6 h6=>?_) fun _ _ z=>z
   apply aW2
   exact be6 h6 (fun _ s7 h7=>aW7 (aW7 ⟨rfl,h7⟩)) fun _ _ z=>z
end
noncomputable def A1 (g:TG) (tc:TT) (te:TE) (σ0:St) (J:It) (D:Addr) (Q:VK) (W:Nat->Nat->List V->Hp->Prop):Prop:=
 ∀ i m acc H',W i m acc H'->H' D=some (.lst acc)/\((J.stop i H'/\Q (.ref D) H') ∨ (J.go i H'/\∀ x H2,J.yld i H' x H2->g x σ0 H2 fun σ2 H3=>Wk σ0 σ2/\tc σ2 H3 fun b H4=>
  if b=true then te σ2 H4 fun v H5=>H5 D=some (.lst acc)/\acc.length < sizeLine/\∃ m',m' < m/\W (i+1) m' (acc ++ [v]) (upd H5 D (.lst (acc ++ [v]))) else ∃ m',m' < m/\W (i+1) m' acc H4))
section
variable {M : Model} {A : Around} {E : Value → Shared → Prop} {s : Shared}
theorem am6 {scope:Scope}{globals:Addr}{cl:List (Str × Addr)}{qual:Str}{func:Option Addr}{code:Value}{builtins:Addr}{outer:Env}{Q:Env->Shared->Prop}
  (hQ:∀ h',h'.Ns s.heap.objs.size (fun _=>none)->(∀ b o,s.heap.get? b=some o->h'.get? b=some o)->CellsOk h' (s.heap.objs.size+1) (cellsFrom (s.heap.objs.size+1) scope.names [])->
   Q (newEnv scope s.heap.objs.size globals (cellsFrom (s.heap.objs.size+1) scope.names cl) qual func code (some outer) builtins) { s with heap:=h' }) :
  wpAny M A (newFunctionEnv scope globals cl [] qual func code (some outer) builtins) Q E s:=by
 simp only [newFunctionEnv,Option.isSome_some,if_true]
 refine aW2 (wpAny_alloc ?_)
 refine aW2 (wpAny_layCells _ (fun name kind cells=>by cases hkc:kind == NameKind.cell <;> simp [hkc]) _ _ _ _ ?_)
 have ok:=cellsFrom_ok scope.names (s.heap.push { cls:=.type "dict",data:=.dict #[] }) (s.heap.objs.size+1) [] ⟨fun _ _ hm=>(nomatch hm),bi9⟩ (by rw [be0]; exact aX5 _)
 rw [be0] at ok
 rw [show ({ s with heap:=s.heap.push { cls:=.type "dict",data:=.dict #[] } }:Shared).heap.objs.size=s.heap.objs.size+1 from be0 ..]
 rw [List.forIn_nil]
 refine aW2 (aW7 (aW7 (hQ _ ((Heap.Ns.new s.heap (.type "dict")).keeps (pushCells_keeps _ _)) (fun b o e=>pushCells_keeps _ _ b o (aW4 _ e)) ok)))
end
section
variable {X : Cx} {pins : List (Addr × Obj)} {σ : St} {H : Hp} {s : Shared} {scope : Scope} {N : List Str} {fr : List (Option Nat)} {tg iter elt : Expr} {ifs : List Expr} {pos : Pos} {wi : TI} {g : TG} {tc : TT} {te : TE}
structure nF (X:Cx) (scope:Scope) (N:List Str) (tg:Expr) (ifs:List Expr) (elt:Expr) (s:Shared) (H:Hp) (g:TG) (tc:TT) (te:TE):Prop where
 tg:∀ (C:Addr) (fp:List Addr),PG (bO X scope N s H C fp fun _ _=>False) tg g
 ifs:∀ (C:Addr) (fp:List Addr),kI (bO X scope N s H C fp fun _ _=>False) ifs tc
 elt:∀ (C:Addr) (fp:List Addr),PE (bO X scope N s H C fp fun _ _=>False) elt te
theorem am7 {C:Addr}{fp:List Addr}{E:Value->Shared->Prop}{pins':List (Addr × Obj)}{σ':St}{H':Hp}{s':Shared} (I:a6 X pins σ H s) (hf:∀ b ∈ fp,g9 X pins H b) (I':a6 (bO X scope N s H C fp E) pins' σ' H' s'):a6 X pins σ H' s':=
 I.call' (ch:=fp) I'.os I'.base I'.hok I'.bare fun b hb=>⟨(hf b hb).2.2.2.1,(hf b hb).2.1,(hf b hb).2.2.2.2.1,(hf b hb).2.2.2.2.2⟩
theorem A2 {Rr:Value->Addr->Result->Shared->Prop}{J:It}{fp:List Addr}{it:Addr}{tn:Nat->Heap->Prop}{Q:VK}
  (hc:X.calm=true) (S:dR X scope N fr) (B:nF X scope N tg ifs elt s H g tc te) (I:a6 X pins σ H s) (T:gZ X.prog X.w X.K tg J fp it tn) (hst:tn 0 s.heap) (hf:∀ b ∈ fp,g9 X pins H b)
  (h:∀ D,H D=none->∃ W:Nat->Nat->List V->Hp->Prop,(∃ m,W 0 m [] (upd H D (.lst [])))/\A1 g tc te (e9 fr σ) J D Q W)
  (hend:∀ (D C:Addr) (s':Shared) (H':Hp) (m:Str->Option Value),s.heap.objs.size<=C->s.heap.objs.size<=D->a6 X pins σ H' s'->s'.heap.Ns C m->H' C=none->Q (.ref D) H'->Rr (.ref D) C (.ok .next) s') :
  wpAny (model X.prog X.w) X.A (newList []) (fun acc s₃=>wpAny (model X.prog X.w) X.A (newFunctionEnv scope X.env.globals (e8 X.env.cells scope.names []) [] X.env.qual none .none (some X.env)) (fun cenv s₄=>
   codeAny (model X.prog X.w) X.A (.compStart (.ListComp elt [⟨tg,iter,ifs,0⟩] scope pos) 0 (.ref it) acc { cenv with scope:=relabel scope X.env }) (Rr acc cenv.locals) s₄) X.xe s₃) X.xe s:=by
 refine bb2 (am6 (fun h₁ hns₁ keep₁ hco₁=>?_))
 dsimp only at hns₁ keep₁ hco₁ ⊢
 generalize hH2:s.heap.push { cls:=.type "list",dict:=none,data:=.seq ([]:List Value).toArray }=H2 at hns₁ keep₁ hco₁ ⊢
 have hC:H2.objs.size=s.heap.objs.size+1:=by rw [<- hH2,be0]
 have hDC:s.heap.objs.size < H2.objs.size:=by rw [hC]; exact Nat.lt_succ_self _
 have hCle:s.heap.objs.size<=H2.objs.size:=by rw [hC]; exact Nat.le_succ _
 have old:∀ b o,s.heap.get? b=some o->h₁.get? b=some o:=fun b o e=>keep₁ b o (hH2 ▸ aW4 _ e)
 have hacc:h₁.get? s.heap.objs.size=some { cls:=.type "list",data:=.seq #[] 0 }:=keep₁ _ _ (hH2 ▸ aY0 _ rfl)
 have hfl:∀ b ∈ fp,b < s.heap.objs.size:=fun b hb=>by obtain ⟨o,e,_⟩:=T.obj _ _ hst b hb; exact aX8 e
 obtain ⟨W,⟨m0,w0⟩,turn⟩:=h s.heap.objs.size (I.hok.fresh (aX5 _))
 have st1:tn 0 h₁:=T.keep _ _ _ hst fun b _ o e=>old b o e
 have fr0:∀ b ∈ fp,upd H s.heap.objs.size (.lst []) b=none:=fun b hb=>by rw [aF (aZ6 (hfl b hb))]; exact (hf b hb).1
 have stat:∀ {H':Hp},(∀ b ∈ fp,H' b=none)->∀ b ∈ fp,g9 (bO X scope N s H H2.objs.size fp fun _ _=>False) [] H' b:=fun {H'} hn b hb=>by
  have f:=hf b hb
  refine⟨hn b hb,aZ6 (aY4 (hfl b hb) hCle),fun z=>?_,.inl hb,fun x c e=>(kH e).elim (fun z=>bf3 (Nat.lt_trans (aY4 (hfl b hb) hCle) (hco₁.empty x c z).2)) fun z=>f.2.2.2.2.1 x c (pG scope.names [] (S.cells I) (fun _ _ z=>by simp at z) z.2),fun p hp=>absurd (show p ∈ ([]:List (Addr × Obj)) from hp) (by simp)⟩
  rcases aW9.mp (I.stkSub b z) with e | e
  ·exact f.2.1 e
  ·exact f.2.2.1 e
 generalize hX:bO X scope N s H H2.objs.size fp (fun _ _=>False)=Y at stat
 have I0:a6 Y [] (e9 fr σ) (upd H s.heap.objs.size (.lst [])) { s with heap:=h₁ }:=hX ▸ am3 S I hf hfl (aX5 _) hCle hDC old hns₁ hacc hco₁
 have bt:PG Y tg g:=hX ▸ B.tg H2.objs.size fp
 have bi:kI Y ifs tc:=hX ▸ B.ifs H2.objs.size fp
 have be:PE Y elt te:=hX ▸ B.elt H2.objs.size fp
 have eP:Y.prog=X.prog:=by rw [<- hX]; rfl
 have ew:Y.w=X.w:=by rw [<- hX]; rfl
 have eK:Y.K=X.K:=by rw [<- hX]; rfl
 have eA:Y.A=X.A:=by rw [<- hX]; rfl
 have eE:Y.env=compEnvC scope (gN X scope H2.objs.size) H2.objs.size X.env:=by rw [<- hX]; rfl
 have eX:Y.xe=fun _ _=>False:=by rw [<- hX]; rfl
 have ec:Y.calm=true:=by rw [<- hX]; exact hc
 have never:∀ {E:Value->Shared->Prop} (e:Value) (s':Shared),Y.xe e s'->E e s':=fun {E} e s' z=>by rw [eX] at z; exact z.elim
 have out:∀ {pins' σ' H' s'},a6 Y pins' σ' H' s'->a6 X pins σ H' s':=fun {_ _ _ _} I'=>am7 (C:=H2.objs.size) (E:=fun _ _=>False) (scope:=scope) (N:=N) I hf (hX ▸ I')
 have loop:codeAny (model X.prog X.w) X.A (.compLoop (.ListComp elt [⟨tg,iter,ifs,0⟩] scope pos) 0 (.ref it) (.ref s.heap.objs.size) (compEnvC scope (gN X scope H2.objs.size) H2.objs.size X.env))
   (Rr (.ref s.heap.objs.size) H2.objs.size) { s with heap:=h₁ }:=by
  refine am5 (fun n s'=>∃ i acc H',a6 Y [] (e9 fr σ) H' s'/\tn i s'.heap/\(∀ b ∈ fp,H' b=none)/\W i n acc H') ?_ m0 ⟨0,[],_,I0,st1,fr0,w0⟩
  rintro n s3 ⟨i,acc,H3,I3,st3,fr3,w3⟩
  unfold tP
  dsimp only
  obtain ⟨hD3,step⟩:=turn i n acc H3 w3
  rcases step with ⟨stop,qn⟩ | ⟨go,step⟩
  ·have z:=T.done Y eP ew eK ec i [] s3 _ H3 (notedBy (model X.prog X.w) X.A (compEnvC scope (gN X scope H2.objs.size) H2.objs.size X.env) fun e s'=>Rr (.ref s.heap.objs.size) H2.objs.size (.error e) s') I3 (stat fr3) st3 stop
   rw [eA] at z
   refine aK z fun r s4 ⟨hr,I4⟩=>?_
   subst hr
   obtain ⟨m4,hn4,_⟩:=I4.loc
   rw [eE] at hn4
   have f4:=I4.free
   rw [eE] at f4
   exact hend _ _ s4 H3 m4 hCle (aX5 _) (out I4) hn4 f4 qn
  ·have z:=T.item Y eP ew eK ec i [] s3 _ H3 (notedBy (model X.prog X.w) X.A (compEnvC scope (gN X scope H2.objs.size) H2.objs.size X.env) fun e s'=>Rr (.ref s.heap.objs.size) H2.objs.size (.error e) s') I3 (stat fr3) st3 go
   rw [eA] at z
   refine aK z fun r s4 ⟨u,hr,h4⟩=>?_
   subst hr
   refine aK h4 fun _ s5 ⟨x,H5,I5,r5,y5,st5,fr5⟩=>?_
   have I5':=I5.pinned (stat fr5) (T.obj _ _ st5)
   have q1:=bt _ s5 _ H5 x u _ I5' r5 (step x H5 y5)
   rw [eP,ew,eA,eE] at q1
   refine be6 q1 (fun _ s6 ⟨σ6,H6,I6,wk,q6⟩=>?_) never
   have q2:=bi _ s6 σ6 H6 _ I6 q6
   rw [eP,ew,eA,eE] at q2
   refine be6 q2 (fun b s7 ⟨H7,I7,q7⟩=>?_) never
   have again:∀ {H8:Hp}{s8:Shared}{acc':List V},a6 Y ([] ++ nA fp s5.heap) σ6 H8 s8->(∃ m',m' < n/\W (i+1) m' acc' H8)->∃ m,m < n/\∃ i acc H',a6 Y [] (e9 fr σ) H' s8/\tn i s8.heap/\(∀ b ∈ fp,H' b=none)/\W i m acc H':=fun {H8 s8 acc'} I8 n8=>by
    obtain ⟨m',hm,w8⟩:=n8
    refine⟨m',hm,i+1,acc',H8,(I8.unpinned).weak wk.1 wk.2,T.keep _ _ _ st5 fun b hb o e=>(I8.pin (b,o) (aZ5 _ (aZ5 _ (oZ hb e)))).1,fun b hb=>?_,w8⟩
    obtain ⟨o,e,d⟩:=T.obj _ _ st5 b hb
    exact (I8.pin (b,o) (aZ5 _ (aZ5 _ (oZ hb e)))).2.1
   cases b with
   | false=>
    rw [if_neg aY9] at q7 ⊢
    exact again I7 q7
   | true=>
    rw [if_pos rfl] at q7 ⊢
    have q3:=be _ s7 σ6 H7 _ I7 q7
    rw [eP,ew,eA,eE] at q3
    refine be6 q3 (fun v s8 ⟨y,H8,I8,r8,hD8,hz8,q8⟩=>?_) never
    have q4:=zH _ s8 σ6 H8 (.ref s.heap.objs.size) [y] (.ref s.heap.objs.size) [v] (fun _ H9=>∃ m',m' < n/\W (i+1) m' (acc ++ [y]) H9) I8 rfl (.cons r8 .nil) ⟨_,_,_,rfl,rfl,hD8,hz8,q8⟩
    rw [eP,ew,eA] at q4
    exact be6 q4 (fun _ s9 ⟨_,H9,I9,_,q9⟩=>again I9 q9) never
 exact codeAny_compStart_list loop (T.self _ 0 _ _ _ st1 loop)
end
section
variable {X : Cx} {scope : Scope} {N : List Str} {fr : List (Option Nat)} {tg iter elt : Expr} {ifs : List Expr} {pos : Pos} {wi : TI} {g : TG} {tc : TT} {te : TE}
theorem a6.drop {pins:List (Addr × Obj)}{σ:St}{H H':Hp}{s s':Shared}{C:Addr}{h':Heap} (I0:a6 X pins σ H s) (hC:s.heap.objs.size<=C) {σ':St} (I:a6 X pins σ' H' s') (hn:H' C=none) (sb:Heap.SameBut C s'.heap h'):a6 X pins σ' H' { s' with heap:=h' }:=by
 refine I.turned (t':=s'.toks) (it:=C) (fun b o hb e=>(sb.2 b hb).trans e) hn (bf3 (aY4 I0.lt hC)) (.inr (aZ8 I0.sz hC)) (fun x c e z=>?_) fun p hp z=>?_
 ·obtain ⟨v,q⟩:=I0.cell x c e
  exact absurd (aY4 q.lt (by rw [z]; exact hC)) (be3 _)
 ·exact absurd (aY4 (aX8 (I0.pin p hp).1) (by rw [z]; exact hC)) (be3 _)
variable {gh : Hp → TG} {tch : Hp → TT} {teh : Hp → TE}
noncomputable def pK (wi:TI) (fr:List (Option Nat)) (gh:Hp->TG) (tch:Hp->TT) (teh:Hp->TE):TE:=fun σ H Q=>wi σ H fun J H1=>∀ D,H1 D=none->
 ∃ W:Nat->Nat->List V->Hp->Prop,(∃ m,W 0 m [] (upd H1 D (.lst [])))/\A1 (gh H1) (tch H1) (teh H1) (e9 fr σ) J D Q W
theorem pL (hc:X.calm=true) (S:dR X scope N fr) (hi:PI X tg iter wi) (B:∀ (s:Shared) (H:Hp),nF X scope N tg ifs elt s H (gh H) (tch H) (teh H))
  (hs:∀ x,foldedSetIterable iter X.env x=pure x:=by intro _; rfl):PE X (.ListComp elt [⟨tg,iter,ifs,0⟩] scope pos) (pK wi fr gh tch teh):=by
 intro pins s σ H Q I h
 rw [eval_ListComp]
 refine wpAny_comprehension_free (use:=none) rfl hs (zY (S.cells I)) S.kind S.names (aK (hi pins s σ H _ I h) fun v s1 h1=>aK h1 fun itv s2 h2=>?_)
 obtain ⟨it,fp,tn,J,H2,e,I2,T,st2,f2,hW⟩:=h2
 subst e
 refine A2 (Rr:=fun acc C=>compPost (model X.prog X.w) X.A X.xe none (EP X pins σ Q) acc C) hc S (B _ _) I2 T st2 f2 hW ?_
 intro D C s' H' m hC hD I' hns hHC q
 exact⟨m,hns,fun h' sb=>⟨.ref D,H',I2.drop hC I' hHC sb,rfl,q⟩⟩
theorem am8 {i:Nat}{x:Str}{px spos:Pos} (hc:X.calm=true) (S:dR X scope N fr) (hi:PI X tg iter wi) (B:∀ (s:Shared) (H:Hp),nF X scope N tg ifs elt s H (gh H) (tch H) (teh H)) (hN:X.N.Nodup) (hix:X.N[i]? = some x) (hx:X.env.scope.names.lookup x=some .local)
  (hsw:swapsWith (.ListComp elt [⟨tg,iter,ifs,0⟩] scope pos) (some (.Name x px)) spos.line X.env=pure true) (hs:∀ x,foldedSetIterable iter X.env x=pure x:=by intro _; rfl) :
  PS X (.Assign [.Name x px] (.ListComp elt [⟨tg,iter,ifs,0⟩] scope pos) spos) (lL (pK wi fr gh tch teh) (cR i)):=by
 intro pins s σ H D I h
 rw [exec_Assign_Name_used _ _ _ _ hsw]
 refine aW2 (wpAny_standAt (aW2 ?_))
 show wpAny _ _ (do let _ <- comprehension (.ListComp elt [⟨tg,iter,ifs,0⟩] scope pos) scope X.env _ (newList []) false (eval iter X.env) (some (assign (.Name x px) X.env))) _ _ s
 refine aW2 (be6 (wpAny_comprehension_free (Q:=fun _ s'=>SP X pins D .next s') (use:=some (assign (.Name x px) X.env)) rfl hs (zY (S.cells I)) S.kind S.names (aK (hi pins s σ H _ I h) fun v s1 h1=>aK h1 fun itv s2 h2=>?_))
  (fun _ s' hq=>aW7 (aW7 hq)) fun _ _ e=>e)
 obtain ⟨it,fp,tn,J,H2,e,I2,T,st2,f2,hW⟩:=h2
 subst e
 refine A2 (Rr:=fun acc C=>compPost (model X.prog X.w) X.A X.xe (some (assign (.Name x px) X.env)) (fun _ s'=>SP X pins D .next s') acc C) hc S (B _ _) I2 T st2 f2 hW ?_
 intro D' C s' H' m hC hD I' hns hHC q
 refine wpAny_assign_Name (xG I' hN hix (.inl hx) (v:=.ref D') rfl (fun s'' I'' sb=>?_) (.inr hx))
 obtain ⟨a,sb,ha⟩:=sb
 have hCa:C ≠ a:=by
  rcases ha with z | z
  ·rw [z]; exact bf3 (aY4 I2.lt hC)
  ·intro e; subst e
   obtain ⟨v,q⟩:=I2.cell x _ z
   exact absurd (aY4 q.lt hC) (be3 _)
 exact⟨m,hns.sameBut sb hCa,fun h' sb'=>⟨_,H',I2.drop hC I'' hHC sb',q⟩⟩
end
theorem cE {H:Hp}{p:Addr} (h:H p=none) (o:HO):aD H (upd H p o):=fun b u q=>by rw [aF (cZ q h)]; exact q
end L2
namespace Srt
open PySem PySem.W PyProof.Rows
noncomputable abbrev G (p:Array Nat) (i:Nat):Nat:=p.getD i 0
noncomputable def PP (n:Nat) (p:Array Nat):Prop:=p.toList.Perm (List.range n)
structure Ord (c:Nat->Nat->Bool):Prop where
 asym:∀ {i j},c i j=true->c j i=false
 ntr:∀ {i j k},c i j=false->c j k=false->c i k=false
end Srt
namespace L2
open PySem PySem.Spec PyProof.Rows
theorem tQ:∀ {xs:List V}{us:List Value} (i:Nat),i < xs.length->aQ xs us->aP (xs.getD i .non) (us.getD i Value.none)
 | _,_,_,h,.nil=>by simp at h
 | _,_,0,_,.cons r _=>by simpa using r
 | _,_,i+1,h,.cons _ t=>by
  have:=tQ i (by simpa using h) t
  simpa using this
theorem tR {α:Type}:∀ l:List α,(l.zip l).map (·.2)=l
 | []=>rfl
 | a :: l=>by
  show a :: ((l.zip l).map (·.2))=a :: l
  rw [tR l]
theorem A3 {prog:Program}{w:World}{A:Around}{E:Value->Shared->Prop}{s:Shared}{a:Addr}{vs:List Value}{n:Nat}{P:PySem.Fin->Shared->Prop} (e:s.heap.get? a=some (seqObj "list" vs.toArray n)) (few:vs.length < 2)
  (q:P (.done (.ret .none)) { s with heap:=sortedHeap s.heap a vs vs.toArray }):wpAny (model prog w) A (Builtin.«list.sort» ⟨[.ref a],[]⟩) P E s:=by
 have big:vs.length<=sizeLine:=aZ8 (bj1 few) (by decide)
 have la:=aX8 e
 have c:vs.toArray.size < 2:=by simpa using few
 have same:(arrOf (SortSt.mk' general' (vs.toArray.zip vs.toArray) #[] 7 none)).map (·.2)=vs.toArray:=by
  change (vs.toArray.zip vs.toArray).map (·.2)=vs.toArray
  apply Array.ext'
  simpa using tR vs
 obtain ⟨k,ek⟩:∃ k,(s.heap.update a (Obj.mapSeq fun _=>#[])).get? a=some (seqObj "list" #[] k):=⟨_,get?_update_seq e fun _=>#[]⟩
 have there:(((s.heap.update a (Obj.mapSeq fun _=>#[])).push (seqObj "tuple" vs.toArray 0)).push (seqObj "list" #[] 0)).get? a=some (seqObj "list" #[] k):=
  aW4 _ (aW4 _ ek)
 rw [list_sort_plain]
 apply aW2
 apply listItems_at e rfl
 apply aW2
 refine listUpdate_at e rfl ?_ (by simpa using big) (bf0 _)
 apply aW2
 apply seqEpoch_at ek rfl
 apply aW2
 refine wpAny_newTuple ?_ big
 apply aW2
 refine wpAny_newList ?_ (bf0 _)
 apply bf7
 simp only [c,if_true,StateT.run_pure]
 apply aW2
 apply aW7
 apply aW2
 apply aW7
 apply aW2
 apply seqEpoch_at there rfl
 apply aW2
 refine listUpdate_at there rfl ?_ (bf0 _) (by rw [same,aY2]; exact Nat.le_succ_of_le big)
 rw [same]
 simp only [bne_self_eq_false,aZ2,be4]
 exact aW7 q
theorem am9 {prog:Program}{w:World}{A:Around}{E:Value->Shared->Prop}{s:Shared}{l:Addr}{vs:List Value}{Q:Value->Shared->Prop} (hl:s.heap.IsList l vs.toArray) (few:vs.length < 2)
  (q:Q (.ref (s.heap.objs.size+1)) { s with heap:=sortedAll s.heap vs vs.toArray }):wpAny (model prog w) A (call (.builtin "sorted") [.ref l]) Q E s:=by
 have big:vs.length<=sizeLine:=aZ8 (bj1 few) (by decide)
 apply Calls.call_function_entry kind_sorted plain_sorted entry_sorted (args_sorted1 _)
 simp only [Builtin.«sorted»]
 apply aW2 (m:=checkCount "sorted" 1 1 _)
 apply aW7
 apply aW2
 refine collect_list hl ?_ big
 apply aW2
 refine wpAny_newList ?_ big
 have one:((s.heap.push (seqObj "list" #[] 0)).update s.heap.objs.size (Obj.mapSeq (· ++ vs.toArray))).objs.size=s.heap.objs.size+1:=(Heap.size_update _ _ _).trans (size_push' _ _)
 have at1:(((s.heap.push (seqObj "list" #[] 0)).update s.heap.objs.size (Obj.mapSeq (· ++ vs.toArray))).push (seqObj "list" vs.toArray 0)).get? (s.heap.objs.size+1)=some (seqObj "list" vs.toArray 0):=one ▸ aY0 _ rfl
 change wpAny _ _ _ _ _ { s with heap:=((s.heap.push (seqObj "list" #[] 0)).update s.heap.objs.size (Obj.mapSeq (· ++ vs.toArray))).push (seqObj "list" vs.toArray 0) }
 rw [one]
 apply aW2
 apply bf7
 refine bd0 slot_list_sort ⟨_,at1,rfl⟩ entry_list_sort ?_ (args_list_sort _)
 refine A3 at1 few ⟨_,rfl,?_⟩
 exact aW7 ⟨_,rfl,q⟩
theorem kJ:∀ {a b:List Int},HT.aL a b=true->HT.aL b a=false
 | [],[],h=>by cases h
 | [],_ :: _,_=>rfl
 | _ :: _,[],h=>by cases h
 | x :: xs,y :: ys,h=>by
  rw [HT.gM] at h ⊢
  by_cases e:x=y
  ·rw [if_pos e] at h; rw [if_pos e.symm]; exact kJ h
  ·rw [if_neg e] at h; rw [if_neg (Ne.symm e)]
   have:=bd3 h
   exact aW6 (by omega)
theorem tS:∀ {a b c:List Int},HT.aL a b=false->HT.aL b c=false->HT.aL a c=false
 | [],[],c,_,h=>h
 | [],_ :: _,_,h,_=>by cases h
 | _ :: _,[],[],_,_=>rfl
 | _ :: _,[],_ :: _,_,h=>by cases h
 | _ :: _,_ :: _,[],_,_=>rfl
 | x :: xs,y :: ys,z :: zs,h1,h2=>by
  rw [HT.gM] at h1 h2 ⊢
  by_cases e1:x=y
  ·rw [if_pos e1] at h1
   by_cases e2:y=z
   ·rw [if_pos e2] at h2; rw [if_pos (e1.trans e2)]; exact tS h1 h2
   ·rw [if_neg e2] at h2; rw [if_neg (by rw [e1]; exact e2)]; rw [e1]; exact h2
  ·rw [if_neg e1] at h1
   have k1:=bi4 h1
   by_cases e2:y=z
   ·rw [<- e2,if_neg e1]; exact h1
   ·rw [if_neg e2] at h2
    have k2:=bi4 h2
    rw [if_neg (by omega)]
    exact aW6 (by omega)
theorem tT:∀ {a b:List Int},HT.aL a b=false->HT.aL b a=false->a=b
 | [],[],_,_=>rfl
 | [],_ :: _,h,_=>by cases h
 | _ :: _,[],_,h=>by cases h
 | x :: xs,y :: ys,h1,h2=>by
  rw [HT.gM] at h1 h2
  by_cases e:x=y
  ·rw [if_pos e] at h1; rw [if_pos e.symm] at h2; rw [e,tT h1 h2]
  ·rw [if_neg e] at h1; rw [if_neg (Ne.symm e)] at h2
   have:=bi4 h1
   have:=bi4 h2
   omega
section
variable {prog : Program} {w : World} {A : Around} {s : Shared} {Q : Bool → Shared → Prop}
theorem tU:∀ {us ws:List Value}{xs ys:List Int} (i:Nat),IntsAre us xs->IntsAre ws ys->Q (HT.aL xs ys) s->PySem.W.KatLex prog w A true (decide (us.length < ws.length)) Q (us.zip ws) i s
 | _,_,_,_,_,.nil,.nil,h=>h
 | _,_,_,_,_,.nil,.cons _ _ _,h=>h
 | _,_,_,_,_,.cons _ _ _,.nil,h=>h
 | _,_,_,_,i,.cons (vs:=us) x t hx,.cons (vs:=ws) y u hy,h=>by
  refine PySem.W.kat_cons (wpAny_eqBool_int ?_)
  rw [HT.gM] at h
  by_cases e:x=y
  ·rw [if_pos e] at h
   have eb:(x == y)=true:=by simpa using e
   rw [eb]
   refine PySem.W.kat_yes ?_
   have e2:decide ((Value.int x t :: us).length < (Value.int y u :: ws).length)=decide (us.length < ws.length):=by simp
   rw [e2]
   exact tU (i+1) hx hy h
  ·rw [if_neg e] at h
   have eb:(x == y)=false:=by simpa using e
   rw [eb]
   refine PySem.W.kat_no ?_
   cases hi:(true && i == 0) with
   | true=>exact PySem.W.kat_lt_int h
   | false=>exact PySem.W.kat_one _ _ (lt_int h)
end
end L2
namespace Raw
open PySem PySem.W PySem.Calls PyProof.Rows
noncomputable def fO (h:Heap) (d:Addr) (es:Array DictEntry) (ep:Nat):Prop:=∃ o,h.get? d=some o/\o.ExactDict/\o.data = .dict es ep
theorem fO.ty {s:Shared}{d:Addr}{es:Array DictEntry}{ep:Nat} (x:fO s.heap d es ep):s.TypeIs (.ref d) "dict":=x.elim fun o y=>⟨o,y.1,y.2.1.1⟩
theorem fO.lt {h:Heap}{d:Addr}{es:Array DictEntry}{ep:Nat} (x:fO h d es ep):d < h.objs.size:=x.elim fun _ y=>aX8 y.1
theorem fO.keep {h h':Heap}{d:Addr}{es:Array DictEntry}{ep:Nat} (x:fO h d es ep) (k:∀ o,h.get? d=some o->h'.get? d=some o):fO h' d es ep:=x.elim fun o y=>⟨o,k o y.1,y.2⟩
section
variable {prog : Program} {w : World} {A : Around} {E : Value → Shared → Prop} {s : Shared} {d it : Addr} {es : Array DictEntry} {ep i : Nat}
theorem made (far:(d == sysModules)=false) (x:fO s.heap d es ep) {Q:Value->Shared->Prop}
  (q:Q (.ref s.heap.objs.size) { s with heap:=s.heap.push { cls:=.type "dict_keyiterator",data:=.fields #[.ref d,.int 0 0,.int es.size 0,.int ep 0] } }):wpAny (model prog w) A (pyIter (.ref d)) Q E s:=by
 have T:=x.ty
 obtain ⟨o,e1,e2,e3⟩:=x
 apply wpAny_pyIter_slot T PySem.F.slot_dict_iter
 apply bd0 PySem.F.slot_dict_iter T PySem.F.entry_dict_iter _ (PySem.F.args_dict_iter_1 _)
 simp only [Builtin.«dict.__iter__»,Builtin.Dict.dictSlotNone]
 apply aW2
 apply aW2
 apply wpAny_notOrdered_dict T
 apply aW7
 change wpAny _ _ (Builtin.Dict.showsAll d >>= _) _ _ s
 have far':Builtin.Dict.showsAll d=pure ():=by
  unfold Builtin.Dict.showsAll
  simp only [far,aZ2,be4]
 rw [far',pure_bind]
 apply aW2
 apply wpAny_dictEntries e1 e3
 apply aW2
 apply wpAny_dictEpoch e1 e3
 apply aW2
 refine bb2 (aW7 ?_)
 refine⟨.ref s.heap.objs.size,rfl,"dict_keyiterator",_,⟨_,aY0 _ rfl,rfl⟩,PySem.F.slot_dict_keyiterator_next.lookup,?_⟩
 simpa only [rawInt] using q
theorem turn (hh:A.handled=none) (hi:s.heap.IsKeyIter it d i es.size ep) (x:fO s.heap d es ep) {Q:Option Value->Shared->Prop}
  (yes:∀ (lt:i < es.size) h',h'.IsKeyIter it d (i+1) es.size ep->Heap.SameBut it s.heap h'->Q (some es[i].key) { s with heap:=h' })
  (no:es.size<=i->∀ h',Heap.ExtBut it s.heap h'->Q none { s with heap:=h' }):wpAny (model prog w) A (pyNext (.ref it)) Q E s:=by
 have T:=hi.typeIs
 obtain ⟨oi,f1,f2,f3⟩:=hi
 obtain ⟨o,e1,e2,e3⟩:=x
 have slot:=PySem.F.slot_dict_keyiterator_next
 have plain:Builtin.Dict_items.ownsTuple "dict_keyiterator" = false:=by decide
 have isref:(Value.ref d == Value.none)=false:=rfl
 have nn : ¬ (i:Int) < 0:=by omega
 unfold pyNext
 apply aW2
 apply wpAny_attempt
 apply bc7 (name:=Str.ofString "__next__") T slot
 apply bd0 slot T PySem.F.entry_dict_keyiterator_next _ (PySem.F.args_dict_keyiterator_next_1 _)
 apply aW2
 apply aW7
 apply aW2
 apply aW2
 apply aW2
 first
  | apply wpAny_typeNameOfWhole_keyiter T
  | apply wpAny_typeNameOf_keyiter T
 apply aW7
 apply aW2
 apply wpAny_fieldsOf f1 f3
 simp only [plain,aZ2,be4]
 change wpAny _ _ (if (Value.ref d == Value.none)=true then _ else _) _ _ s
 have adr:Builtin.Dict_items.addrOf (Value.ref d)=pure d:=rfl
 simp only [isref,aZ2,be4,adr,pure_bind]
 apply aW2
 apply wpAny_dictEntries e1 e3
 simp only [bne_self_eq_false,aZ2,be4]
 apply aW2
 apply wpAny_dictEpoch e1 e3
 simp only [bne_self_eq_false,aZ2,be4]
 apply aW7
 simp only [nn,be4,Int.toNat_natCast]
 by_cases lt:i < es.size
 ·simp only [Array.getElem?_eq_getElem lt]
  apply aW2
  apply aW2
  first
   | apply wpAny_typeNameOfWhole_keyiter T
   | apply wpAny_typeNameOf_keyiter T
  apply aW7
  apply aW2
  apply wpAny_isOneOf_keyiter T
  change wpAny _ _ (setField (.ref it) 1 (rawInt ((i:Int)+1)) >>= _) _ _ s
  apply aW2
  refine wpAny_setField f1 f3 (by simp) ?_
  have again:(s.heap.update it (Obj.mapFields (·.setIfInBounds 1 (rawInt ((i:Int)+1))))).IsKeyIter it d (i+1) es.size ep:=by
   refine⟨_,bg8 _ f1 (Obj.isFreed_of_fields (Obj.data_mapFields f3 _)),?_,?_⟩
   ·rw [Obj.cls_mapFields]; exact f2
   ·rw [Obj.data_mapFields f3]; simp [rawInt]
  apply aW2
  apply bf7
  apply aW2
  refine wpAny_isOneOf_keyiter (s:={ s with heap:=s.heap.update it (Obj.mapFields (·.setIfInBounds 1 (rawInt ((i:Int)+1)))) }) again.typeIs ?_
  change wpAny _ _ (pure es[i].key) _ _ _
  apply aW7
  apply aW7
  exact⟨es[i].key,rfl,aW7 (yes lt _ again (Heap.SameBut.update ..))⟩
 ·have ge:es.size<=i:=Nat.le_of_not_lt lt
  simp only [Array.getElem?_eq_none ge]
  apply aW2
  apply aW2
  first
   | apply wpAny_typeNameOfWhole_keyiter T
   | apply wpAny_typeNameOf_keyiter T
  apply aW7
  change wpAny _ _ (setField (.ref it) 0 .none >>= _) _ _ s
  apply aW2
  refine wpAny_setField f1 f3 (by simp) ?_
  apply aW2
  simp only [newExc,newTuple]
  apply aW2
  refine bb2 ?_ (by size_fits)
  apply aW2
  refine wpAny_of_eq (a:=Value.none) (by first | rfl | (simp only [firstArgMember]; rfl)) ?_
  refine bb2 ?_ (by size_fits)
  unfold raiseNew
  apply aW2
  apply wpAny_handled
  have quiet:A.in1.handled=none:=hh
  rw [quiet]
  refine wpAny_throw ?_
  apply aW2
  refine wpAny_isInstance (T:="StopIteration") (b:=true) ⟨_,aY0 _ rfl,rfl⟩ isSubtype_stop ?_
  exact aW7 (no ge _ (((Heap.SameBut.update ..).extBut.push _).push _))
theorem an0 (hh:A.handled=none) (ne:d ≠ it):Walks prog w A it [it,d] [it] es.size (fun i v=>∃ lt:i < es.size,es[i].key=v) (fun i h=>h.IsKeyIter it d i es.size ep/\fO h d es ep) where
 sub:=by intro b hb; rw [aX4.mp hb]; exact aX3
 frame:=by
  intro i h h' st hk
  exact⟨st.1.at (hk it aX3),st.2.keep (hk d (aX0 _ aX3))⟩
 item:=by
  intro i s Q E lt st hQ
  refine turn hh st.1 st.2 (fun lt' h' again sb=>?_) fun ge=>absurd lt (Nat.not_lt.mpr ge)
  exact hQ _ h' s.toks ⟨lt',rfl⟩ ⟨again,st.2.keep fun o e=>sb.extBut d o ne e⟩ fun b o hb e=>sb.extBut b o (fun z=>hb (aX4.mpr z)) e
 done:=by
  intro s Q E st hQ
  refine turn hh st.1 st.2 (fun lt=>absurd lt (be3 _)) fun _ h' eb=>?_
  exact hQ h' s.toks fun b o hb e=>eb b o (fun z=>hb (aX4.mpr z)) e
 self:=by intro i s Q E st hQ; exact wpAny_pyIter_keyiter st.1 hQ
theorem A4 (far:(d == sysModules)=false):KdlSrc prog w "dict" d d es.size (fun i v=>∃ lt:i < es.size,es[i].key=v) (fun h=>fO h d es ep) where
 type:=fun _ x=>x.ty
 there:=fun _ x=>⟨x.lt,x.lt⟩
 keep:=fun _ _ x k=>x.keep (k d (.inl rfl))
 notList:=by decide
 notTuple:=by decide
 hint:=fun _ _ _ _ x q=>kdl_hint_dict x.ty q
 iter:=fun _ _ hh x=>⟨_,_,fun _ _ q=>made far x q,an0 hh (aZ6 x.lt),⟨_,aY0 _ rfl,rfl,rfl⟩,x.keep fun o e=>aW4 _ e⟩
end
end Raw
namespace L2
open PySem PySem.Spec PyProof.Rows
section
variable {X : Cx} {pins : List (Addr × Obj)} {σ : St} {H : Hp} {s : Shared} {a : Addr}
noncomputable def fP (H:Hp) (y:V) (k:List aH):Prop:=∃ q,y = .ref q/\H q=some (.tup (k.map kV))
theorem an1 {kvs:List (aH × V)} (I:a6 X pins σ H s) (h:H a=some (.dK kvs)):∃ es ep,Raw.fO s.heap a es ep/\(a == sysModules)=false/\aQ (kvs.map fun p=>kV p.1) (es.toList.map (·.key))/\kvs.length<=sizeLine:=by
 obtain ⟨z,far,vs,rel,o,es,ep,e1,e2,e3,kk,pr,nd⟩:=(show bN X.prog X.w H s.heap a (.dK kvs) from I.hok a _ h)
 refine⟨es,ep,⟨o,e1,e2,e3⟩,far,?_,z⟩
 clear z far e1 e2 e3 kk nd h
 generalize es.toList=l at pr
 induction pr generalizing kvs with
 | nil=>cases rel; exact .nil
 | @cons e k es' kvs' h1 h2 _ ih=>
  cases rel with
  | @cons p q ps qs r rs=>
   refine .cons ?_ (ih rs)
   obtain ⟨r1,_⟩:=r
   show aP (kV p.1) e.key
   rw [r1]
   rcases iD h1 with ⟨n,t,e4,e5⟩ | ⟨x,t,e4,e5⟩
   ·rw [e4,e5]; exact⟨t,rfl⟩
   ·rw [e4,e5]; exact⟨t,rfl⟩
theorem tV {kvs:List (List aH × V)} (I:a6 X pins σ H s) (h:H a=some (.dT kvs)):∃ es ep ys,Raw.fO s.heap a es ep/\(a == sysModules)=false/\Paired (fP H) ys (kvs.map (·.1))/\aQ ys (es.toList.map (·.key))/\kvs.length<=sizeLine:=by
 obtain ⟨z,far,xs,rel,o,es,ep,e1,e2,e3,e4,nd⟩:=(show bN X.prog X.w H s.heap a (.dT kvs) from I.hok a _ h)
 refine⟨es,ep,xs.map fun q=>V.ref q.2.1,⟨o,e1,e2,e3⟩,far,?_,?_,z⟩
 ·clear e4 nd h z
  induction rel with
  | nil=>exact .nil
  | cons r rs ih=>exact .cons ⟨_,rfl,r.2.1⟩ ih
 ·rw [e4]
  clear rel e4 nd
  induction xs with
  | nil=>exact .nil
  | cons q qs ih=>exact .cons rfl ih
theorem tW {es:Array DictEntry}{acc:Array Value} (h:ItemsOf (fun i v=>∃ lt:i < es.size,es[i].key=v) acc es.size):acc.toList=es.toList.map (·.key):=by
 apply List.ext_getElem?
 intro j
 have h1:=h.1
 by_cases hj:j < es.size
 ·have hj':j < acc.size:=by rw [h1]; exact hj
  obtain ⟨_,e⟩:=h.2 j acc[j] (by simp [hj'])
  rw [aX1]
  simp [hj,hj',e]
 ·have hj' : ¬ j < acc.size:=by rw [h1]; exact hj
  rw [aX1]
  simp [Nat.le_of_not_lt hj,Nat.le_of_not_lt hj']
theorem an2 (hc:X.calm=true):cJ X (.type "list") (fun xs H Q=>∃ a kvs,xs = [.ref a]/\H a=some (.dT kvs)/\∀ l ys,H l=none->Paired (fP H) ys (kvs.map (·.1))->Q (.ref l) (upd H l (.lst ys))):=by
 intro pins s σ H xs us Q I r h
 obtain ⟨a,kvs,rfl,ha,q⟩:=h
 obtain ⟨u,rfl,ru⟩:=hG r
 cases ru
 obtain ⟨es,ep,ys,rd,far,pk,vk,z⟩:=tV I ha
 have hl:=vk.length
 have hl2:=pk.length
 rw [aW5] at hl hl2
 have hsz:es.toList.length=es.size:=bh7
 refine PySem.W.kdl_call (Raw.A4 far) (I.ok.hd hc) rd (by omega) fun h' tk acc c kp e it=>?_
 refine⟨.ref s.heap.objs.size,_,I.laid (t':=tk) kp (aX5 _) (show bN X.prog X.w _ h' _ (.lst ys) from ⟨by omega,acc.toList,c,by rw [tW it]; exact vk,by simpa using e⟩),rfl,q _ ys (I.hok.fresh (aX5 _)) pk⟩
end
section
variable {X : Cx}
theorem an3:cJ X (.builtin "isinstance") (fun xs H Q=>∃ x t n b,xs = [x,.ty n]/\fL X.K H x t/\PySem.W.kitOne X.K t (.type n)=some b/\Q (.bl b) H):=by
 intro pins s σ H xs us Q I r h
 obtain ⟨x,t,n,b,rfl,ty,e,q⟩:=h
 obtain ⟨u,u',rfl,ru,ru'⟩:=kA r
 cases ru'
 exact ag4 I ru ty e fun tk=>⟨.bl b,H,I.tok tk,rfl,q⟩
end
noncomputable def A5 (outer:List (Str × NameKind)) (XN:List Str) (names:List (Str × NameKind)) (N:List Str) (fr:List (Option Nat)):Bool:=
 names.all (fun y=>!(y.2 == .cell) || names.lookup y.1 == some .cell) && names.all (fun y=>!(y.2 == .local) || names.lookup y.1 == some .local) &&
 names.all (fun y=>!(y.2 == .free) || (outer.lookup y.1 == some .cell || outer.lookup y.1 == some .free)) && fr.length == N.length &&
 (fr.zip N).all (fun p=>match p.1 with
  | none=>true
  | some j=>XN[j]? == some p.2 && names.lookup p.2 == some .free)
theorem dR.of {X:Cx}{scope:Scope}{N:List Str}{fr:List (Option Nat)} (hk:scope.kind = .function) (h:A5 X.env.scope.names X.N scope.names N fr=true):dR X scope N fr:=by
 unfold A5 at h
 simp only [bb0] at h
 obtain ⟨⟨⟨⟨h1,h2⟩,h3⟩,h4⟩,h5⟩:=h
 refine⟨hk,fun y hy e=>?_,fun y hy e=>?_,fun y hy e=>?_,by simpa using h4,fun i j e=>?_⟩
 ·have:=bi5.mp h1 y hy
  rw [e] at this; simpa using this
 ·have:=bi5.mp h2 y hy
  rw [e] at this; simpa using this
 ·have:=bi5.mp h3 y hy
  rw [e] at this; simpa using this
 ·have hl:fr.length=N.length:=by simpa using h4
  have hi:i < fr.length:=(aX7.mp e).1
  have m:(some j,N[i]'(by omega)) ∈ fr.zip N:=by
   have:(fr.zip N)[i]? = some (some j,N[i]'(by omega)):=by
    rw [List.getElem?_zip_eq_some]
    exact⟨e,by simp⟩
   exact bd2 this
  have:=bi5.mp h5 _ m
  simp only [bb0,beq_iff_eq] at this
  exact⟨N[i]'(by omega),by simp,this.1,this.2⟩
noncomputable def tX (ls:List (Int × Int)) (k:Int):List Int:=ls.flatMap fun l=>(if l.1=k then [l.2] else []) ++ (if l.2=k then [l.1] else [])
theorem an4 {α:Type}{xs:List α}{i:Int}{v:α} (h0:0<=i) (h:xs[i.toNat]? = some v):atI xs i=some v:=by
 have:=yZ h
 rwa [show ((i.toNat:Nat):Int)=i by omega] at this
theorem pM {n:Nat} (h:n<=16000000):n < sizeLine:=by rw [sizeLine_eq]; omega
theorem A6 {K:PySem.W.Frag}{H:Hp}{p:Addr}{xs:List V} (h:aU K H p xs):pE K "list" (.ref p) H:=.inl ⟨rfl,xs,h⟩
end L2
namespace Zp
open PySem PyProof.Rows
section
variable {prog : Program} {w : World} {A : Around} {E : Value → Shared → Prop} {s : Shared}
theorem A7 {it t:Addr}{i:Nat}{items:Array Value}{x:Value}{Q:Value->Shared->Prop} (hi:s.heap.IsTupleIter it t i) (ht:s.heap.IsTuple t items) (hx:items[i]? = some x)
  (q:∀ h',h'.IsTupleIter it t (i+1)->Heap.SameBut it s.heap h'->Q x { s with heap:=h' }):wpAny (model prog w) A (Builtin.SmallTypes.nextOf (.ref it)) Q E s:=by
 have T:=hi.typeIs
 obtain ⟨o,e1,e2,e3⟩:=hi
 obtain ⟨u,f1,_,k,f3⟩:=ht
 have slot:=PySem.F.slot_tuple_iterator_next
 have isref:(Value.ref t == Value.none)=false:=rfl
 unfold Builtin.SmallTypes.nextOf
 apply aW2
 apply bc7 (name:=Str.ofString "__next__") T slot
 apply bd0 slot T PySem.F.entry_tuple_iterator_next _ (PySem.F.args_tuple_iterator_next_1 _)
 change wpAny _ _ (field (.ref it) 0 >>= _) _ _ s
 apply aW2
 refine bc6 e1 e3 (x:=.ref t) rfl ?_
 change wpAny _ _ (if (Value.ref t == Value.none)=true then _ else _) _ _ s
 simp only [isref,aZ2,be4]
 change wpAny _ _ (field (.ref it) 1 >>= _) _ _ s
 apply aW2
 refine bc6 e1 e3 (x:=.int i 0) rfl ?_
 change wpAny _ _ (seqItems? (.ref t) >>= _) _ _ s
 apply aW2
 apply be1 f1 f3
 simp only [Int.toNat_natCast,hx]
 apply aW2
 refine wpAny_setField e1 e3 (by simp) ?_
 apply aW7
 refine⟨x,rfl,aW7 (q _ ⟨_,bg8 _ e1 (Obj.isFreed_of_fields (Obj.data_mapFields e3 _)),?_,?_⟩ (Heap.SameBut.update ..))⟩
 ·rw [Obj.cls_mapFields]; exact e2
 ·rw [Obj.data_mapFields e3]; simp [rawInt]
theorem A8 {it t:Addr}{i:Nat}{items:Array Value}{Q:Value->Shared->Prop} (hh:A.handled=none) (hi:s.heap.IsTupleIter it t i) (ht:s.heap.IsTuple t items) (hx:items[i]? = none)
  (q:∀ h' e,Heap.ExtBut it s.heap h'->(∃ o,h'.get? e=some o/\o.cls = .type "StopIteration")->E (.ref e) { s with heap:=h' }):wpAny (model prog w) A (Builtin.SmallTypes.nextOf (.ref it)) Q E s:=by
 have T:=hi.typeIs
 obtain ⟨o,e1,e2,e3⟩:=hi
 obtain ⟨u,f1,_,k,f3⟩:=ht
 have slot:=PySem.F.slot_tuple_iterator_next
 have isref:(Value.ref t == Value.none)=false:=rfl
 unfold Builtin.SmallTypes.nextOf
 apply aW2
 apply bc7 (name:=Str.ofString "__next__") T slot
 apply bd0 slot T PySem.F.entry_tuple_iterator_next _ (PySem.F.args_tuple_iterator_next_1 _)
 change wpAny _ _ (field (.ref it) 0 >>= _) _ _ s
 apply aW2
 refine bc6 e1 e3 (x:=.ref t) rfl ?_
 change wpAny _ _ (if (Value.ref t == Value.none)=true then _ else _) _ _ s
 simp only [isref,aZ2,be4]
 change wpAny _ _ (field (.ref it) 1 >>= _) _ _ s
 apply aW2
 refine bc6 e1 e3 (x:=.int i 0) rfl ?_
 change wpAny _ _ (seqItems? (.ref t) >>= _) _ _ s
 apply aW2
 apply be1 f1 f3
 simp only [Int.toNat_natCast,hx]
 apply aW2
 apply bl2
 apply aW2
 refine wpAny_setField e1 e3 (by simp) ?_
 apply aW2
 simp only [newExc,newTuple]
 apply aW2
 refine bb2 ?_ (by size_fits)
 apply aW2
 refine wpAny_of_eq (a:=Value.none) (by first | rfl | (simp only [firstArgMember]; rfl)) ?_
 refine bb2 ?_ (by size_fits)
 unfold raiseNew
 apply aW2
 apply wpAny_handled
 have quiet:A.in1.handled=none:=hh
 rw [quiet]
 refine wpAny_throw ?_
 exact q _ _ (((Heap.SameBut.update ..).extBut.push _).push _) ⟨_,aY0 _ rfl,rfl⟩
theorem an5 (hh:A.handled=none) (it t:Addr) (ne:t ≠ it) (items:Array Value):Draws prog w A it [it,t] items.size (fun i v=>items[i]? = some v) (fun i h=>h.IsTupleIter it t i/\h.IsTuple t items) where
 live:=fun _ _ st=>st.1.elim fun o y=>⟨o,y.1⟩
 frame:=fun _ _ _ st k=>⟨st.1.at fun o e=>k it aX3 o e,st.2.elim fun o y=>⟨o,k t (aX0 _ aX3) o y.1,y.2⟩⟩
 item:=fun i s Q E lt st q=>A7 st.1 st.2 (Array.getElem?_eq_getElem lt) fun h' again sb=>q _ h' s.toks (Array.getElem?_eq_getElem lt) ⟨again,st.2.elim fun o y=>⟨o,sb.extBut t o ne y.1,y.2⟩⟩ sb
 done:=fun s Q E st q=>A8 hh st.1 st.2 (Array.getElem?_eq_none (aX5 _)) q
end
structure Ap (z TI TO i1 i2:Addr) (fp1 fp2:List Addr):Prop where
 TIz:TI ≠ z
 TOz:TO ≠ z
 TITO:TI ≠ TO
 z1:z ∉ fp1
 z2:z ∉ fp2
 o1:TO ∉ fp1
 o2:TO ∉ fp2
 t1:TI ∉ fp1
 t2:TI ∉ fp2
 m1:i1 ∈ fp1
 m2:i2 ∈ fp2
 n1:i1 ∉ fp2
 n2:i2 ∉ fp1
structure tY (z TI TO i1 i2:Addr) (St1 St2:Nat->Heap->Prop) (f0:Value) (i j:Nat) (h:Heap):Prop where
 zz:IsZip h z TI TO f0
 ti:IsPair h TI (.ref i1) (.ref i2)
 to_:∃ a b,IsPair h TO a b
 s1:St1 i h
 s2:St2 j h
section
variable {prog : Program} {w : World} {A : Around} {E : Value → Shared → Prop} {s : Shared} {z TI TO i1 i2 : Addr} {fp1 fp2 : List Addr} {n1 n2 : Nat} {P1 P2 : Nat → Value → Prop} {St1 St2 : Nat → Heap → Prop}
theorem lN (ap:Ap z TI TO i1 i2 fp1 fp2) {b:Addr} (h:b ∉ fp1):b ≠ i1:=fun e=>h (e ▸ ap.m1)
theorem pN (ap:Ap z TI TO i1 i2 fp1 fp2) {b:Addr} (h:b ∉ fp2):b ≠ i2:=fun e=>h (e ▸ ap.m2)
theorem item (D1:Draws prog w A.in1 i1 fp1 n1 P1 St1) (D2:Draws prog w A.in1 i2 fp2 n2 P2 St2) (ap:Ap z TI TO i1 i2 fp1 fp2) {i:Nat} (l1:i < n1) (l2:i < n2) (st:tY z TI TO i1 i2 St1 St2 .none i i s.heap) {Q:Option Value->Shared->Prop}
  (q:∀ x y h' tk,P1 i x->P2 i y->tY z TI TO i1 i2 St1 St2 (rawInt s.heap.objs.size) (i+1) (i+1) h'->IsPair h' s.heap.objs.size x y->(∀ c o,c ≠ z->c ≠ TO->c ≠ i1->c ≠ i2->s.heap.get? c=some o->h'.get? c=some o)->
   h'.objs.size=s.heap.objs.size+1->Q (some (.ref s.heap.objs.size)) { s with heap:=h',toks:=tk }):wpAny (model prog w) A (pyNext (.ref z)) Q E s:=by
 obtain ⟨hz,hti,⟨a,b,hto⟩,h1,h2⟩:=st
 have T:s.TypeIs (.ref z) "zip":=⟨_,hz,rfl⟩
 have slot:=PySem.F.slot_zip_next
 unfold pyNext
 apply aW2
 apply wpAny_attempt
 apply bc7 (name:=Str.ofString "__next__") T slot
 apply bd0 slot T PySem.F.entry_zip_next _ (PySem.F.args_zip_next_1 _)
 change wpAny _ _ (field (.ref z) 2 >>= _) _ _ _
 apply aW2
 refine bc6 hz rfl (x:=.bool false) rfl ?_
 change wpAny _ _ (field (.ref z) 3 >>= _) _ _ _
 apply aW2
 refine bc6 hz rfl (x:=.ref TI) rfl ?_
 apply aW2
 apply be1 hti rfl
 change wpAny _ _ (Builtin.SmallTypes.ownedTupleIsFree (.ref z) >>= _) _ _ _
 apply aW2
 unfold Builtin.SmallTypes.ownedTupleIsFree
 apply aW2
 refine bc6 hz rfl (x:=.none) rfl (aW7 ?_)
 simp only [if_true]
 apply aW2
 apply bl2
 apply aW2
 refine bc6 hz rfl (x:=.ref TO) rfl ?_
 apply aW2
 refine bd6 hz (by simp) fun g1 hz1 sb1=>?_
 have k1:∀ c o,c ≠ z->s.heap.get? c=some o->g1.get? c=some o:=fun c o c1 e=>sb1.extBut c o c1 e
 apply aW2
 simp only [List.zipIdx_cons,List.zipIdx_nil,List.forIn_cons,List.forIn_nil]
 apply aW2
 apply aW2
 apply wpAny_onRaise
 change wpAny _ _ (Builtin.SmallTypes.nextOf (.ref i1) >>= _) _ _ _
 apply aW2
 refine D1.item i { s with heap:=g1 } _ _ l1 (D1.frame _ _ _ h1 fun c hc o e=>k1 c o (fun y=>ap.z1 (y ▸ hc)) e) fun x g2 tk2 px st1 sb2=>aW7 ?_
 have k2:∀ c o,c ≠ z->c ≠ i1->s.heap.get? c=some o->g2.get? c=some o:=fun c o c1 c2 e=>sb2.extBut c o c2 (k1 c o c1 e)
 have to2:IsPair g2 TO a b:=k2 _ _ ap.TOz (lN ap ap.o1) hto
 apply aW2
 apply be1 to2 rfl
 apply aW2
 refine wpAny_updateSeq_pair to2 fun g3 to3 sb3=>?_
 have to3:IsPair g3 TO x b:=to3
 apply aW2
 apply bh9
 apply aW7
 apply aW2
 apply aW2
 apply wpAny_onRaise
 change wpAny _ _ (Builtin.SmallTypes.nextOf (.ref i2) >>= _) _ _ _
 apply aW2
 have k3:∀ c o,c ≠ z->c ≠ i1->c ≠ TO->s.heap.get? c=some o->g3.get? c=some o:=fun c o c1 c2 c3 e=>sb3.extBut c o c3 (k2 c o c1 c2 e)
 refine D2.item i { s with heap:=g3,toks:=tk2 } _ _ l2 (D2.frame _ _ _ h2 fun c hc o e=>k3 c o (fun y=>ap.z2 (y ▸ hc)) (fun y=>ap.n1 (y ▸ hc)) (fun y=>ap.o2 (y ▸ hc)) e) fun y g4 tk4 py st2 sb4=>aW7 ?_
 have to4:IsPair g4 TO x b:=sb4.extBut _ _ (pN ap ap.o2) to3
 apply aW2
 apply be1 to4 rfl
 apply aW2
 refine wpAny_updateSeq_pair to4 fun g5 to5 sb5=>?_
 have to5:IsPair g5 TO x y:=to5
 apply aW2
 apply bh9
 apply aW7
 apply aW7
 apply aW2
 apply be1 to5 rfl
 apply aW2
 refine wpAny_newTuple ?_ (by show 2<=sizeLine; decide)
 have size:g5.objs.size=s.heap.objs.size:=by rw [sb5.1,sb4.1,sb3.1,sb2.1,sb1.1]
 have k5:∀ c o,c ≠ z->c ≠ TO->c ≠ i1->c ≠ i2->s.heap.get? c=some o->g5.get? c=some o:=fun c o c1 c2 c3 c4 e=>sb5.extBut c o c2 (sb4.extBut c o c4 (k3 c o c1 c3 c2 e))
 have z5:IsZip g5 z TI TO .ellipsis:=sb5.extBut _ _ (Ne.symm ap.TOz) (sb4.extBut _ _ (pN ap ap.z2) (sb3.extBut _ _ (Ne.symm ap.TOz) (sb2.extBut _ _ (lN ap ap.z1) hz1)))
 change wpAny _ _ (Builtin.SmallTypes.ownedTupleHandOut (.ref z) (.ref g5.objs.size) >>= _) _ _ _
 apply aW2
 unfold Builtin.SmallTypes.ownedTupleHandOut
 apply aW2
 have z6:IsZip (g5.push { cls:=.type "tuple",data:=.seq #[x,y] }) z TI TO .ellipsis:=aW4 _ z5
 refine bd6 z6 (by simp) fun g7 z7 sb7=>?_
 have z7:IsZip g7 z TI TO (rawInt g5.objs.size):=z7
 refine bd6 z7 (by simp) fun g8 z8 sb8=>?_
 have z8:IsZip g8 z TI TO (rawInt g5.objs.size):=z8
 have zlt:z < g5.objs.size:=aX8 z5
 have up:∀ c o,c ≠ z->g5.get? c=some o->g8.get? c=some o:=fun c o c1 e=>sb8.extBut c o c1 (sb7.extBut c o c1 (aW4 _ e))
 have p8:IsPair g8 g5.objs.size x y:=sb8.extBut _ _ (bf3 zlt) (sb7.extBut _ _ (bf3 zlt) (aY0 _ rfl))
 have s8:g8.objs.size=g5.objs.size+1:=by rw [sb8.1,sb7.1,be0]
 have f1:St1 (i+1) g8:=D1.frame _ _ _ st1 fun c hc o e=>up c o (fun y=>ap.z1 (y ▸ hc)) (sb5.extBut c o (fun y=>ap.o1 (y ▸ hc)) (sb4.extBut c o (fun y=>ap.n2 (y ▸ hc)) (sb3.extBut c o (fun y=>ap.o1 (y ▸ hc)) e)))
 have f2:St2 (i+1) g8:=D2.frame _ _ _ st2 fun c hc o e=>up c o (fun y=>ap.z2 (y ▸ hc)) (sb5.extBut c o (fun y=>ap.o2 (y ▸ hc)) e)
 have ti8:IsPair g8 TI (.ref i1) (.ref i2):=up _ _ ap.TIz (k5 _ _ ap.TIz ap.TITO (lN ap ap.t1) (pN ap ap.t2) hti)
 rw [size] at z8 p8 s8
 apply aW7
 refine⟨_,rfl,aW7 ?_⟩
 change Q (some (.ref g5.objs.size)) _
 rw [size]
 exact q x y g8 tk4 px py ⟨z8,ti8,⟨x,y,up _ _ ap.TOz to5⟩,f1,f2⟩ p8 (fun c o c1 c2 c3 c4 e=>up c o c1 (k5 c o c1 c2 c3 c4 e)) s8
theorem fin (D1:Draws prog w A.in1 i1 fp1 n1 P1 St1) (D2:Draws prog w A.in1 i2 fp2 n2 P2 St2) (ap:Ap z TI TO i1 i2 fp1 fp2) {i:Nat} (le:i=n1 ∨ (i < n1/\i=n2)) (st:tY z TI TO i1 i2 St1 St2 .none i i s.heap) {Q:Option Value->Shared->Prop}
  (q:∀ h' tk,(∀ c o,c ≠ z->c ≠ TO->c ≠ i1->c ≠ i2->s.heap.get? c=some o->h'.get? c=some o)->Q none { s with heap:=h',toks:=tk }):wpAny (model prog w) A (pyNext (.ref z)) Q E s:=by
 obtain ⟨hz,hti,⟨a,b,hto⟩,h1,h2⟩:=st
 have T:s.TypeIs (.ref z) "zip":=⟨_,hz,rfl⟩
 have slot:=PySem.F.slot_zip_next
 unfold pyNext
 apply aW2
 apply wpAny_attempt
 apply bc7 (name:=Str.ofString "__next__") T slot
 apply bd0 slot T PySem.F.entry_zip_next _ (PySem.F.args_zip_next_1 _)
 change wpAny _ _ (field (.ref z) 2 >>= _) _ _ _
 apply aW2
 refine bc6 hz rfl (x:=.bool false) rfl ?_
 change wpAny _ _ (field (.ref z) 3 >>= _) _ _ _
 apply aW2
 refine bc6 hz rfl (x:=.ref TI) rfl ?_
 apply aW2
 apply be1 hti rfl
 change wpAny _ _ (Builtin.SmallTypes.ownedTupleIsFree (.ref z) >>= _) _ _ _
 apply aW2
 unfold Builtin.SmallTypes.ownedTupleIsFree
 apply aW2
 refine bc6 hz rfl (x:=.none) rfl (aW7 ?_)
 simp only [if_true]
 apply aW2
 apply bl2
 apply aW2
 refine bc6 hz rfl (x:=.ref TO) rfl ?_
 apply aW2
 refine bd6 hz (by simp) fun g1 hz1 sb1=>?_
 have k1:∀ c o,c ≠ z->s.heap.get? c=some o->g1.get? c=some o:=fun c o c1 e=>sb1.extBut c o c1 e
 apply aW2
 simp only [List.zipIdx_cons,List.zipIdx_nil,List.forIn_cons,List.forIn_nil]
 apply aW2
 apply aW2
 apply wpAny_onRaise
 change wpAny _ _ (Builtin.SmallTypes.nextOf (.ref i1) >>= _) _ _ _
 apply aW2
 have z1:IsZip g1 z TI TO .ellipsis:=hz1
 rcases le with rfl | ⟨lt,rfl⟩
 ·refine D1.done { s with heap:=g1 } _ _ (D1.frame _ _ _ h1 fun c hc o e=>k1 c o (fun y=>ap.z1 (y ▸ hc)) e) fun g2 e eb ex=>?_
  have z2:IsZip g2 z TI TO .ellipsis:=eb _ _ (lN ap ap.z1) z1
  refine bd6 z2 (by simp) fun g3 z3 sb3=>?_
  obtain ⟨oe,eo,co⟩:=ex
  have ne:e ≠ z:=fun y=>by
   rw [y,z2] at eo
   have:=aZ0 eo
   rw [<- this] at co; exact absurd (show Value.type "zip" = Value.type "StopIteration" from co) (by decide)
  apply aW2
  refine wpAny_isInstance (T:="StopIteration") (b:=true) ⟨oe,sb3.extBut _ _ ne eo,co⟩ isSubtype_stop ?_
  exact aW7 (q g3 s.toks fun c o c1 _ c3 _ e=>sb3.extBut c o c1 (eb c o c3 (k1 c o c1 e)))
 ·refine D1.item i { s with heap:=g1 } _ _ lt (D1.frame _ _ _ h1 fun c hc o e=>k1 c o (fun y=>ap.z1 (y ▸ hc)) e) fun x g2 tk2 px st1 sb2=>aW7 ?_
  have k2:∀ c o,c ≠ z->c ≠ i1->s.heap.get? c=some o->g2.get? c=some o:=fun c o c1 c2 e=>sb2.extBut c o c2 (k1 c o c1 e)
  have to2:IsPair g2 TO a b:=k2 _ _ ap.TOz (lN ap ap.o1) hto
  apply aW2
  apply be1 to2 rfl
  apply aW2
  refine wpAny_updateSeq_pair to2 fun g3 to3 sb3=>?_
  apply aW2
  apply bh9
  apply aW7
  apply aW2
  apply aW2
  apply wpAny_onRaise
  change wpAny _ _ (Builtin.SmallTypes.nextOf (.ref i2) >>= _) _ _ _
  apply aW2
  have k3:∀ c o,c ≠ z->c ≠ i1->c ≠ TO->s.heap.get? c=some o->g3.get? c=some o:=fun c o c1 c2 c3 e=>sb3.extBut c o c3 (k2 c o c1 c2 e)
  refine D2.done { s with heap:=g3,toks:=tk2 } _ _ (D2.frame _ _ _ h2 fun c hc o e=>k3 c o (fun y=>ap.z2 (y ▸ hc)) (fun y=>ap.n1 (y ▸ hc)) (fun y=>ap.o2 (y ▸ hc)) e) fun g4 e eb ex=>?_
  have z4:IsZip g4 z TI TO .ellipsis:=eb _ _ (pN ap ap.z2) (sb3.extBut _ _ (Ne.symm ap.TOz) (sb2.extBut _ _ (lN ap ap.z1) z1))
  refine bd6 z4 (by simp) fun g5 z5 sb5=>?_
  obtain ⟨oe,eo,co⟩:=ex
  have ne:e ≠ z:=fun y=>by
   rw [y,z4] at eo
   have:=aZ0 eo
   rw [<- this] at co; exact absurd (show Value.type "zip" = Value.type "StopIteration" from co) (by decide)
  apply aW2
  refine wpAny_isInstance (T:="StopIteration") (b:=true) ⟨oe,sb5.extBut _ _ ne eo,co⟩ isSubtype_stop ?_
  exact aW7 (q g5 tk2 fun c o c1 c2 c3 c4 e=>sb5.extBut c o c1 (eb c o c4 (k3 c o c1 c3 c2 e)))
end
noncomputable def gC (h:Heap) (t u:Addr):Heap:=
 ((((h.push { cls:=.type "tuple_iterator",data:=.fields #[.ref t,.int 0 0] }).push { cls:=.type "tuple_iterator",data:=.fields #[.ref u,.int 0 0] }).push { cls:=.type "tuple",data:=.seq #[.ref h.objs.size,.ref (h.objs.size+1)] }).push
  { cls:=.type "tuple",data:=.seq #[.none,.none] }).push { cls:=.type "zip",data:=.fields #[.none,.bool false,.bool false,.ref (h.objs.size+2),.ref (h.objs.size+3)] }
theorem an6 (t u:Addr) (xs ys:Array Value):Meets (Builtin.«zip.__new__» ⟨[.type "zip",.ref t,.ref u],[]⟩) (fun _ R s=>s.heap.IsTuple t xs/\s.heap.IsTuple u ys/\R (.ok (.ret (.ref (s.heap.objs.size+4)))) { s with heap:=gC s.heap t u }):=
 .of_wp fun prog w A R s h=>by
  obtain ⟨hp,g,d,tk,os⟩:=s
  obtain ⟨ht,hu,h⟩:=h
  have sub:=sub_zip
  have a1:Heap.IsTuple (Shared.heap ⟨hp,g,d,tk,os⟩) t xs:=ht
  have a2:Heap.IsTuple (Shared.heap ⟨hp.push { cls:=.type "tuple_iterator",data:=.fields #[.ref t,.int 0 0] },g,d,tk,os⟩) u ys:=hu.elim fun o y=>⟨o,aW4 _ y.1,y.2⟩
  wp_walk using bh1 a1,bh1 a2
  have e:∀ (o:Obj) (k:Heap),(k.push o).objs.size=k.objs.size+1:=fun o k=>be0 ..
  refine⟨_,rfl,?_⟩
  simp only [gC,e] at h ⊢
  exact h
section
variable {prog : Program} {w : World} {A : Around} {E : Value → Shared → Prop} {s : Shared}
theorem an7 {t u:Addr}{xs ys:Array Value}{Q:Value->Shared->Prop} (ht:s.heap.IsTuple t xs) (hu:s.heap.IsTuple u ys)
  (q:∀ h',IsZip h' (s.heap.objs.size+4) (s.heap.objs.size+2) (s.heap.objs.size+3) .none->IsPair h' (s.heap.objs.size+2) (.ref s.heap.objs.size) (.ref (s.heap.objs.size+1))->
   IsPair h' (s.heap.objs.size+3) .none .none->h'.IsTupleIter s.heap.objs.size t 0->h'.IsTupleIter (s.heap.objs.size+1) u 0->(∀ c o,s.heap.get? c=some o->h'.get? c=some o)->Q (.ref (s.heap.objs.size+4)) { s with heap:=h' }) :
  wpAny (model prog w) A (call (.type "zip") [.ref t,.ref u]) Q E s:=by
 refine callType_new PySem.F.called_zip (by decide) (PySem.F.typeCall_zip_2 _ _) (PySem.F.newCall_zip_2 _ _) (fun obj=>PySem.F.args_object_init_3 obj _ _) PySem.F.entry_zip_new (an6 t u xs ys) ⟨ht,hu,?_⟩
 have e:∀ (o:Obj) (k:Heap),(k.push o).objs.size=k.objs.size+1:=fun o k=>be0 ..
 have p0:∀ (k:Heap) (o:Obj) (m:Nat),o.isFreed=false->m=k.objs.size->(k.push o).get? m=some o:=fun k o m f z=>by rw [z]; exact aY0 _ f
 have g0:(gC s.heap t u).get? s.heap.objs.size=some { cls:=.type "tuple_iterator",data:=.fields #[.ref t,.int 0 0] }:=by
  unfold gC
  exact aW4 _ (aW4 _ (aW4 _ (aW4 _ (p0 _ _ _ rfl rfl))))
 have g1:(gC s.heap t u).get? (s.heap.objs.size+1)=some { cls:=.type "tuple_iterator",data:=.fields #[.ref u,.int 0 0] }:=by
  unfold gC
  exact aW4 _ (aW4 _ (aW4 _ (p0 _ _ _ rfl (by simp only [e]))))
 have g2:(gC s.heap t u).get? (s.heap.objs.size+2)=some { cls:=.type "tuple",data:=.seq #[.ref s.heap.objs.size,.ref (s.heap.objs.size+1)] }:=by
  unfold gC
  exact aW4 _ (aW4 _ (p0 _ _ _ rfl (by simp only [e])))
 have g3:(gC s.heap t u).get? (s.heap.objs.size+3)=some { cls:=.type "tuple",data:=.seq #[.none,.none] }:=by
  unfold gC
  exact aW4 _ (p0 _ _ _ rfl (by simp only [e]))
 have g4:(gC s.heap t u).get? (s.heap.objs.size+4)=some { cls:=.type "zip",data:=.fields #[.none,.bool false,.bool false,.ref (s.heap.objs.size+2),.ref (s.heap.objs.size+3)] }:=by
  unfold gC
  exact p0 _ _ _ rfl (by simp only [e])
 refine⟨⟨_,g4,rfl⟩,q _ g4 g2 g3 ⟨_,g0,rfl,rfl⟩ ⟨_,g1,rfl,rfl⟩ fun c o z=>?_⟩
 unfold gC
 exact aW4 _ (aW4 _ (aW4 _ (aW4 _ (aW4 _ z))))
end
end Zp
namespace L2
open PySem PySem.Spec PyProof.Rows
noncomputable def tZ (K:PySem.W.Frag) (a b:Addr):It:=
  ⟨fun i H=>∃ xs ys x y,aR K H a xs/\aR K H b ys/\xs[i]? = some x/\ys[i]? = some y,
   fun i H v H'=>∃ T x y,H T=none/\v = .ref T/\H'=upd H T (.tup [x,y])/\∀ xs ys,aR K H a xs->aR K H b ys->xs[i]? = some x/\ys[i]? = some y,
   fun i H=>∃ xs ys,aR K H a xs/\aR K H b ys/\(i=xs.length ∨ (i < xs.length/\i=ys.length))⟩
noncomputable def Sq (t:Bool) (K:PySem.W.Frag) (H:Hp) (a:Addr) (xs:List V):Prop:=match t with
 | true=>aR K H a xs
 | false=>aU K H a xs
noncomputable def gD (t:Bool) (h:Heap) (i a:Addr) (n:Nat):Prop:=match t with
 | true=>h.IsTupleIter i a n
 | false=>h.IsListIter i a n
noncomputable def A9 (t:Bool) (h:Heap) (a:Addr) (xs:Array Value):Prop:=match t with
 | true=>h.IsTuple a xs
 | false=>h.IsList a xs
theorem gD.at {h h':Heap}{i a:Addr}{n:Nat}:∀ {t:Bool},gD t h i a n->(∀ o,h.get? i=some o->h'.get? i=some o)->gD t h' i a n
 | true,x,k=>Heap.IsTupleIter.at x k
 | false,x,k=>Heap.IsListIter.at x k
theorem gD.ob {h:Heap}{i a:Addr}{n:Nat}:∀ {t:Bool},gD t h i a n->∃ o,h.get? i=some o/\∀ v,o.data ≠ .cell v
 | true,⟨o,f,_,d⟩=>⟨o,f,fun v q=>by rw [d] at q; cases q⟩
 | false,⟨o,f,_,d⟩=>⟨o,f,fun v q=>by rw [d] at q; cases q⟩
theorem gD.draws {prog:Program}{w:World}{A:Around}:∀ (t:Bool) (hh:A.handled=none) (it a:Addr) (ne:a ≠ it) (items:Array Value),Draws prog w A it [it,a] items.size (fun i v=>items[i]? = some v) (fun i h=>gD t h it a i/\A9 t h a items)
 | true,hh,it,a,ne,items=>Zp.an5 hh it a ne items
 | false,hh,it,a,ne,items=>Draws.list hh it a ne items
section
variable {X : Cx} {pins : List (Addr × Obj)} {σ : St} {H : Hp} {s : Shared} {a : Addr} {xs ys : List V}
theorem Sq.get (I:a6 X pins σ H s):∀ {t:Bool},Sq t X.K H a xs->∃ us,aQ xs us/\A9 t s.heap a us.toArray
 | true,h=>by obtain ⟨us,r,p,_⟩:=I.tuple h; exact⟨us,r,p⟩
 | false,h=>by obtain ⟨us,r,p,_⟩:=I.list h; exact⟨us,r,p.isList⟩
theorem Sq.inj (I:a6 X pins σ H s):∀ {t:Bool},Sq t X.K H a xs->Sq t X.K H a ys->xs=ys
 | true,h,g=>I.tuple_inj h g
 | false,h,g=>I.list_inj h g
theorem Sq.off (I:a6 X pins σ H s) (he:H a=none) (hb:X.base.get? a=none):∀ {t:Bool},Sq t X.K H a xs->False
 | true,h=>by
  rcases h with (h | ⟨_,h⟩) | ⟨o,_,_,h,_⟩
  ·rw [he] at h; cases h
  ·rw [he] at h; cases h
  ·have:=I.ok.mod.kin a o h
   rw [hb] at this; cases this
 | false,h=>by
  rcases h with (h | ⟨_,h⟩) | ⟨o,_,_,h,_⟩
  ·rw [he] at h; cases h
  ·rw [he] at h; cases h
  ·have:=I.ok.mod.kin a o h
   rw [hb] at this; cases this
end
noncomputable def an8 (t1 t2:Bool) (K:PySem.W.Frag) (a b:Addr):It:=
  ⟨fun i H=>∃ xs ys x y,Sq t1 K H a xs/\Sq t2 K H b ys/\xs[i]? = some x/\ys[i]? = some y,
   fun i H v H'=>∃ T x y,H T=none/\v = .ref T/\H'=upd H T (.tup [x,y])/\∀ xs ys,Sq t1 K H a xs->Sq t2 K H b ys->xs[i]? = some x/\ys[i]? = some y,
   fun i H=>∃ xs ys,Sq t1 K H a xs/\Sq t2 K H b ys/\(i=xs.length ∨ (i < xs.length/\i=ys.length))⟩
structure u5 (t1 t2:Bool) (z TI TO i1 i2 a b:Addr) (i:Nat) (h:Heap):Prop where
 zz:IsZip h z TI TO .none
 ti:IsPair h TI (.ref i1) (.ref i2)
 to_:∃ x y,IsPair h TO x y
 s1:gD t1 h i1 a i
 s2:gD t2 h i2 b i
theorem B0 (t1 t2:Bool) {P:Program}{w:World}{K:PySem.W.Frag}{elts:List Expr}{k:Nat}{pos:Pos} (a b z TI TO i1 i2:Addr) (d : [z,TI,TO,i1,i2].Nodup) :
  gZ P w K (.Tuple elts k pos) (an8 t1 t2 K a b) [z,TI,TO,i1,i2] z (u5 t1 t2 z TI TO i1 i2 a b):=by
 have nd:z ≠ TI/\z ≠ TO/\z ≠ i1/\z ≠ i2/\TI ≠ TO/\TI ≠ i1/\TI ≠ i2/\TO ≠ i1/\TO ≠ i2/\i1 ≠ i2:=by
  simp only [bb4,aW9,aX9,bb3,not_or] at d
  obtain ⟨⟨a1,a2,a3,a4⟩,⟨b1,b2,b3⟩,⟨c1,c2⟩,e1,_⟩:=d
  exact⟨a1,a2,a3,a4,b1,b2,b3,c1,c2,e1⟩
 obtain ⟨n1,n2,n3,n4,n5,n6,n7,n8,n9,n10⟩:=nd
 have offBase:∀ {X:Cx}{pins:List (Addr × Obj)}{σ:St}{H:Hp}{s:Shared},a6 X pins σ H s->(∀ c ∈ [z,TI,TO,i1,i2],g9 X pins H c)->∀ c ∈ [z,TI,TO,i1,i2],X.base.get? c=none:=by
  intro X pins σ H s I hf c hc
  cases q:X.base.get? c with
  | none=>rfl
  | some o=>
   rcases (hf c hc).2.2.2.1 with h | h
   ·exact absurd h (I.ok.noex c o q)
   ·exact absurd (aY4 (aX8 q) (aZ8 I.ok.bsz h)) (be3 _)
 have off:∀ {t:Bool}{X:Cx}{pins:List (Addr × Obj)}{σ:St}{H:Hp}{s:Shared}{c:Addr}{zs:List V},a6 X pins σ H s->(∀ c ∈ [z,TI,TO,i1,i2],g9 X pins H c)->Sq t X.K H c zs->c ∉ [z,TI,TO,i1,i2]:=by
  intro t X pins σ H s c zs I hf hc hm
  exact Sq.off I (hf c hm).1 (offBase I hf c hm) hc
 have ap:∀ {c e:Addr},c ∉ [z,TI,TO,i1,i2]->e ∉ [z,TI,TO,i1,i2]->Zp.Ap z TI TO i1 i2 [i1,c] [i2,e]:=fun {c e} hc he=>by
  simp only [aW9,aX9,bb3,not_or] at hc he
  obtain ⟨c1,c2,c3,c4,c5⟩:=hc
  obtain ⟨e1,e2,e3,e4,e5⟩:=he
  have two:∀ {q u v:Addr},q ≠ u->q ≠ v->q ∉ [u,v]:=fun {q u v} h1 h2 hm=>by
   simp only [aW9,aX9,bb3] at hm
   exact hm.elim h1 h2
  exact⟨n1.symm,n2.symm,n5,two n3 (Ne.symm c1),two n4 (Ne.symm e1),two n8 (Ne.symm c3),two n9 (Ne.symm e3),two n6 (Ne.symm c2),two n7 (Ne.symm e2),aX3,aX3,two n10 (Ne.symm e4),two n10.symm (Ne.symm c5)⟩
 refine⟨by simp,fun i h st c hc=>?_,fun i h h' st kp=>?_,?_,?_,fun A i s Q E st q=>wpAny_pyIter_zip st.zz q⟩
 ·simp only [aW9,aX9,bb3] at hc
  obtain ⟨x,y,to⟩:=st.to_
  rcases hc with rfl | rfl | rfl | rfl | rfl
  ·exact⟨_,st.zz,fun v q=>by cases q⟩
  ·exact⟨_,st.ti,fun v q=>by cases q⟩
  ·exact⟨_,to,fun v q=>by cases q⟩
  ·exact st.s1.ob
  ·exact st.s2.ob
 ·obtain ⟨x,y,to⟩:=st.to_
  exact⟨kp z (by simp) _ st.zz,kp TI (by simp) _ st.ti,⟨x,y,kp TO (by simp) _ to⟩,st.s1.at fun o e=>kp i1 (by simp) o e,st.s2.at fun o e=>kp i2 (by simp) o e⟩
 ·
  intro X hP hw hK hc i pins s σ H E I hf st hg
  subst hP hw hK
  obtain ⟨xs,ys,x,y,ha,hb,hx,hy⟩:=hg
  obtain ⟨us,ru,pu⟩:=Sq.get I ha
  obtain ⟨vs,rv,pv'⟩:=Sq.get I hb
  obtain ⟨ux,eux,rux⟩:=ru.get hx
  obtain ⟨vy,evy,rvy⟩:=rv.get hy
  have fa:=off I hf ha
  have fb:=off I hf hb
  have hh:X.A.in1.handled=none:=I.ok.hd hc
  have l1:i < us.toArray.size:=by simpa using (aX7.mp eux).1
  have l2:i < vs.toArray.size:=by simpa using (aX7.mp evy).1
  have fa':a ≠ i1:=fun q=>fa (by rw [q]; simp)
  have fb':b ≠ i2:=fun q=>fb (by rw [q]; simp)
  have D1:=gD.draws t1 (prog:=X.prog) (w:=X.w) hh i1 a fa' us.toArray
  have D2:=gD.draws t2 (prog:=X.prog) (w:=X.w) hh i2 b fb' vs.toArray
  refine Zp.item D1 D2 (ap fa fb) l1 l2 ⟨st.zz,st.ti,st.to_,⟨st.s1,pu⟩,⟨st.s2,pv'⟩⟩ fun p q h' tk hp hq st' pr kp sz=>⟨_,rfl,?_⟩
  obtain rfl:p=ux:=by
   have:us.toArray[i]? = some ux:=by simpa using eux
   rw [this] at hp; exact (aZ0 hp).symm
  obtain rfl:q=vy:=by
   have:vs.toArray[i]? = some vy:=by simpa using evy
   rw [this] at hq; exact (aZ0 hq).symm
  refine wpAny_letOwnedTupleGo_zip (s:={ s with heap:=h',toks:=tk }) st'.zz fun g zz sb=>?_
  have hzl:z < s.heap.objs.size:=aX8 st.zz
  have up:∀ c o,c ≠ z->c ≠ TO->c ≠ i1->c ≠ i2->s.heap.get? c=some o->g.get? c=some o:=fun c o c1 c2 c3 c4 e=>sb.extBut c o c1 (kp c o c1 c2 c3 c4 e)
  have hT:H s.heap.objs.size=none:=I.hok.fresh (aX5 _)
  have prG:IsPair g s.heap.objs.size p q:=sb.extBut _ _ (bf3 hzl) pr
  have fpn:∀ c u,H c=some u->c ∉ [z,TI,TO,i1,i2]:=fun c u e hm=>by rw [(hf c hm).1] at e; cases e
  have upH:∀ c o u,H c=some u->s.heap.get? c=some o->g.get? c=some o:=fun c o u e z=>by
   have:=fpn c u e
   simp only [aW9,aX9,bb3,not_or] at this
   exact up c o this.1 this.2.2.1 this.2.2.2.1 this.2.2.2.2 z
  have ns:∀ m,s.heap.Ns X.env.locals m->g.Ns X.env.locals m:=fun m hm=>by
   obtain ⟨o,es,ep,e1,e2⟩:=hm
   exact⟨o,es,ep,up _ o (Ne.symm (hf z (by simp)).2.1) (Ne.symm (hf TO (by simp)).2.1) (Ne.symm (hf i1 (by simp)).2.1) (Ne.symm (hf i2 (by simp)).2.1) e1,e2⟩
  have I2:a6 X pins σ (upd H s.heap.objs.size (.tup [x,y])) { s with heap:=g,toks:=tk }:=by
   refine I.step (g':=s.gens) (d':=s.drawn) (ch:=[z,TO,i1,i2]) (fun c hc'=>?_) (fun c o _ _ hc' e _=>?_) (fun c o _ _ hc' e _=>⟨o.slots,?_⟩) (fun c o _ e n=>?_) (fun c o hc' e=>⟨o,?_⟩)
    (fun c zs e=>by rw [aF (cZ e hT)]; exact e) (fun c u zs e=>by rw [aF (cZ e hT)]; exact e) (fun c ps e=>⟨#[],by rw [aF (cZ e hT),e]; simp⟩) ns (fun c u e=>?_) I.bare
   ·have hm:c ∈ [z,TI,TO,i1,i2]:=by
     simp only [aW9,aX9,bb3] at hc' ⊢
     rcases hc' with h | h | h | h <;> simp [h]
    exact⟨(hf c hm).2.2.2.1,(hf c hm).2.1,(hf c hm).2.2.2.2.1,(hf c hm).2.2.2.2.2⟩
   ·simp only [aW9,aX9,bb3,not_or] at hc'
    exact up c o hc'.1 hc'.2.1 hc'.2.2.1 hc'.2.2.2 e
   ·simp only [aW9,aX9,bb3,not_or] at hc'
    exact up c o hc'.1 hc'.2.1 hc'.2.2.1 hc'.2.2.2 e
   ·rw [aF (aZ6 (aX8 e))]; exact n
   ·simp only [aW9,aX9,bb3,not_or] at hc'
    exact up c o hc'.1 hc'.2.1 hc'.2.2.1 hc'.2.2.2 e
   ·by_cases hcT:c=s.heap.objs.size
    ·subst hcT
     rw [b9] at e; cases e
     exact⟨by show 2<=sizeLine; decide,[p,q],.cons rux (.cons rvy .nil),⟨_,prG,rfl,_,rfl⟩,fun u e=>by rw [prG] at e; cases e; rfl⟩
    ·rw [aF hcT] at e
     refine (I.hok c u e).stay (fun c' o' hc2 q'=>?_) (fun c' q'=>by rw [aF (cZ q' hT)]; exact q') fun c' zs q'=>by rw [aF (cZ q' hT)]; exact q'
     rcases hc2 with rfl | hc2
     ·exact upH _ _ _ e q'
     ·exact upH _ _ _ hc2 q'
  obtain ⟨x',y',to'⟩:=st'.to_
  refine⟨.ref s.heap.objs.size,_,I2,rfl,⟨_,x,y,hT,rfl,rfl,fun xs' ys' ha' hb'=>?_⟩,⟨zz,sb.extBut _ _ n1.symm st'.ti,⟨x',y',sb.extBut _ _ n2.symm to'⟩,st'.s1.1.at fun o e=>sb.extBut _ o n3.symm e,st'.s2.1.at fun o e=>sb.extBut _ o n4.symm e⟩,fun c hc'=>?_⟩
  ·rw [Sq.inj I ha' ha,Sq.inj I hb' hb]; exact⟨hx,hy⟩
  ·obtain ⟨o,e,_⟩:∃ o,s.heap.get? c=some o/\True:=by
    simp only [aW9,aX9,bb3] at hc'
    obtain ⟨x2,y2,to2⟩:=st.to_
    obtain ⟨o1,f1,_⟩:=st.s1.ob
    obtain ⟨o2,f2,_⟩:=st.s2.ob
    rcases hc' with rfl | rfl | rfl | rfl | rfl
    ·exact⟨_,st.zz,trivial⟩
    ·exact⟨_,st.ti,trivial⟩
    ·exact⟨_,to2,trivial⟩
    ·exact⟨_,f1,trivial⟩
    ·exact⟨_,f2,trivial⟩
   rw [aF (aZ6 (aX8 e))]; exact (hf c hc').1
 ·
  intro X hP hw hK hc i pins s σ H E I hf st hg
  subst hP hw hK
  obtain ⟨xs,ys,ha,hb,hi⟩:=hg
  obtain ⟨us,ru,pu⟩:=Sq.get I ha
  obtain ⟨vs,rv,pv'⟩:=Sq.get I hb
  have fa:=off I hf ha
  have fb:=off I hf hb
  have hh:X.A.in1.handled=none:=I.ok.hd hc
  have fa':a ≠ i1:=fun q=>fa (by rw [q]; simp)
  have fb':b ≠ i2:=fun q=>fb (by rw [q]; simp)
  have D1:=gD.draws t1 (prog:=X.prog) (w:=X.w) hh i1 a fa' us.toArray
  have D2:=gD.draws t2 (prog:=X.prog) (w:=X.w) hh i2 b fb' vs.toArray
  have e1:=ru.length
  have e2:=rv.length
  refine Zp.fin D1 D2 (ap fa fb) (by simp only [aY2]; omega) ⟨st.zz,st.ti,st.to_,⟨st.s1,pu⟩,⟨st.s2,pv'⟩⟩ fun g tk kp=>⟨rfl,?_⟩
  have fpn:∀ c u,H c=some u->c ∉ [z,TI,TO,i1,i2]:=fun c u e hm=>by rw [(hf c hm).1] at e; cases e
  have upH:∀ c o u,H c=some u->s.heap.get? c=some o->g.get? c=some o:=fun c o u e z=>by
   have:=fpn c u e
   simp only [aW9,aX9,bb3,not_or] at this
   exact kp c o this.1 this.2.2.1 this.2.2.2.1 this.2.2.2.2 z
  have ns:∀ m,s.heap.Ns X.env.locals m->g.Ns X.env.locals m:=fun m hm=>by
   obtain ⟨o,es,ep,e1,e2⟩:=hm
   exact⟨o,es,ep,kp _ o (Ne.symm (hf z (by simp)).2.1) (Ne.symm (hf TO (by simp)).2.1) (Ne.symm (hf i1 (by simp)).2.1) (Ne.symm (hf i2 (by simp)).2.1) e1,e2⟩
  refine I.step (g':=s.gens) (d':=s.drawn) (ch:=[z,TO,i1,i2]) (fun c hc'=>?_) (fun c o _ _ hc' e _=>?_) (fun c o _ _ hc' e _=>⟨o.slots,?_⟩) (fun c o _ e n=>n) (fun c o hc' e=>⟨o,?_⟩)
   (fun c zs e=>e) (fun c u zs e=>e) (fun c ps e=>⟨#[],by rw [e]; simp⟩) ns (fun c u e=>?_) I.bare
  ·have hm:c ∈ [z,TI,TO,i1,i2]:=by
    simp only [aW9,aX9,bb3] at hc' ⊢
    rcases hc' with h | h | h | h <;> simp [h]
   exact⟨(hf c hm).2.2.2.1,(hf c hm).2.1,(hf c hm).2.2.2.2.1,(hf c hm).2.2.2.2.2⟩
  ·simp only [aW9,aX9,bb3,not_or] at hc'
   exact kp c o hc'.1 hc'.2.1 hc'.2.2.1 hc'.2.2.2 e
  ·simp only [aW9,aX9,bb3,not_or] at hc'
   exact kp c o hc'.1 hc'.2.1 hc'.2.2.1 hc'.2.2.2 e
  ·simp only [aW9,aX9,bb3,not_or] at hc'
   exact kp c o hc'.1 hc'.2.1 hc'.2.2.1 hc'.2.2.2 e
  ·refine (I.hok c u e).stay (fun c' o' hc2 q'=>?_) (fun _ q'=>q') fun _ _ q'=>q'
   rcases hc2 with rfl | hc2
   ·exact upH _ _ _ e q'
   ·exact upH _ _ _ hc2 q'
noncomputable abbrev an9:=u5 true true
theorem ao0 {P:Program}{w:World}{K:PySem.W.Frag}{elts:List Expr}{k:Nat}{pos:Pos} (a b z TI TO i1 i2:Addr) (d : [z,TI,TO,i1,i2].Nodup) :
  gZ P w K (.Tuple elts k pos) (tZ K a b) [z,TI,TO,i1,i2] z (an9 z TI TO i1 i2 a b):=B0 true true a b z TI TO i1 i2 d
section
variable {X : Cx}
theorem ao1 (hc:X.calm=true):cJ X (.builtin "all") (fun xs H Q=>∃ (a:Addr) (bs:List Bool),xs = [.ref a]/\aU X.K H a (bs.map V.bl)/\Q (.bl (bs.all id)) H):=by
 intro pins s σ H xs us Q I r h
 obtain ⟨a,bs,rfl,hq,q⟩:=h
 obtain ⟨u,rfl,ru⟩:=hG r
 cases ru
 obtain ⟨its,rv,p,hz⟩:=I.list hq
 have hl:=rv.length
 rw [aW5] at hl
 have hlt:a < s.heap.objs.size:=by obtain ⟨o,e,_⟩:=p.isList; exact aX8 e
 refine call_all_walk (wpAny_pyIter_list p.isList ?_)
 have hh:X.A.in1.handled=none:=I.ok.hd hc
 refine⟨s.heap.objs.size,_,_,_,_,_,fun i=>bs.getD i false,rfl,Walks.list hh s.heap.objs.size a (aZ6 hlt) its.toArray,⟨⟨_,aY0 _ rfl,rfl,rfl⟩,p.isList.push _⟩,?_,fun h' tk kp=>?_⟩
 ·intro i v s' Q' E' hP hQ'
  have hi:its[i]? = some v:=by simpa using hP
  have hil:i < bs.length:=by rw [hl]; exact (aX7.mp hi).1
  obtain ⟨u,e1,e2⟩:=rv.get (i:=i) (x:=.bl bs[i]) (by simp [hil])
  rw [hi] at e1; cases e1
  cases e2
  have:bs.getD i false=bs[i]:=by rw [ba8,aY1 hil]; rfl
  have hQ2:Q' (bs.getD i false) s':=hQ'
  rw [this] at hQ2
  exact bf2 hQ2
 ·have all_eq:(List.range its.toArray.size).all (fun i=>bs.getD i false)=bs.all id:=by
   rw [aY2,<- hl]
   clear q rv hz hl hq hlt p hh kp
   induction bs with
   | nil=>rfl
   | cons b r ih=>
    rw [ba0,List.range_succ_eq_map,List.all_cons,List.all_map,List.all_cons,<- ih]
    rfl
  rw [all_eq]
  refine⟨.bl (bs.all id),H,I.kept (t':=tk) (h':=h') fun b o e=>kp b o (fun z=>?_) (aW4 _ e),rfl,q⟩
  rw [aX4.mp z] at e
  exact absurd (aX8 e) (be3 _)
end
end L2
namespace HT
open PySem PyProof.Rows
section
variable {prog : Program} {w : World} {A : Around} {E : Value → Shared → Prop} {s : Shared}
theorem ao2 {t sl:Addr}{items:Array Value}{vl vu:Value}{lo hi:Option Int}{Q:Value->Shared->Prop} (ht:IsTup s.heap t items) (hs:s.heap.IsSliceOf sl vl vu .none) (pl:IsPart vl lo) (pu:IsPart vu hi)
  (h1:aV items.size 0 lo=0) (h2:aV items.size items.size hi=items.size) (h:Q (.ref t) s):wpAny (model prog w) A (getItem (.ref t) (.ref sl)) Q E s:=by
 obtain ⟨o,e1,e2,e3⟩:=id hs
 have T:s.TypeIs (.ref sl) "slice":=⟨o,e1,e2⟩
 unfold getItem
 try with_reducible refine bf7 ?_
 first | refine aW2 (aW7 ?_) | skip
 apply aW2
 apply wpAny_sequenceKey ht.typeIs (by decide)
 apply aW2
 apply bc7 (name:=Str.ofString "__getitem__") ht.typeIs bi0
 apply bd0 bi0 ht.typeIs entry_tuple_getitem _ (args_tuple_getitem _ _)
 change wpAny _ _ (Builtin.Tuple.tupleItemsOf (.ref t) >>= _) _ _ s
 apply aW2
 apply tupleItemsOf_ ht
 apply aW2
 apply wpAny_typeOf T
 rw [if_pos (by decide)]
 apply aW2
 apply yW hs pl pu
 rw [h1,h2]
 have yes:((((0:Nat):Int) == 0 && (1:Int) == 1 && (items.size - 0) == items.size)=true):=by simp
 change wpAny _ _ (if ((((0:Nat):Int) == 0 && (1:Int) == 1 && (items.size - 0) == items.size)=true) then _ else _) _ _ s
 rw [if_pos yes]
 apply aW2
 unfold Builtin.Tuple.tupleIsExact
 apply aW2
 apply wpAny_typeOf ht.typeIs
 apply aW7
 change wpAny _ _ (rule "tuple.getitem.whole" >>= fun _=>ret (Value.ref t)) _ _ s
 apply aW2
 apply bl2
 exact aW7 ⟨_,rfl,aW7 h⟩
end
end HT
namespace L2
open PySem PySem.Spec PyProof.Rows
section
variable {X : Cx}
noncomputable def ao3 (K:PySem.W.Frag):V->Option Int->Option Int->Hp->VK->Prop:=fun x lo hi H Q=>∃ a xs,x = .ref a/\aR K H a xs/\(∀ p,H p=none->Q (.ref p) (upd H p (.tup (hJ xs lo hi))))/\(hJ xs lo hi=xs->Q (.ref a) H)
theorem ao4:jI X (ao3 X.K):=by
 intro pins s σ H x v vl vu lo hi sl Q I rx hs pl pu h
 obtain ⟨a,xs,ex,hx,q1,q2⟩:=h
 by_cases hw:HT.aV xs.length 0 lo=0/\HT.aV xs.length xs.length hi=xs.length
 ·subst ex
  cases rx
  obtain ⟨its,r,ht,hz⟩:=I.tuple hx
  have hlen:its.toArray.size=xs.length:=by rw [aY2]; exact r.length.symm
  refine⟨"tuple",_,PyProof.Rows.slot_tuple_getitem.lookup,ht.typeIs,?_⟩
  refine HT.ao2 ht hs pl pu (by rw [hlen]; exact hw.1) (by rw [hlen]; exact hw.2) ⟨.ref a,H,I,rfl,q2 ?_⟩
  unfold hJ
  rw [hw.1,hw.2]
  simp
 ·exact ai4 pins s σ H x v vl vu lo hi sl Q I rx hs pl pu ⟨a,xs,ex,hx,hw,q1⟩
end
noncomputable def u6 (K:PySem.W.Frag) (a b:Addr):It:=
  ⟨fun i H=>∃ xs ys x y,aU K H a xs/\aU K H b ys/\xs[i]? = some x/\ys[i]? = some y,
   fun i H v H'=>∃ T x y,H T=none/\v = .ref T/\H'=upd H T (.tup [x,y])/\∀ xs ys,aU K H a xs->aU K H b ys->xs[i]? = some x/\ys[i]? = some y,
   fun i H=>∃ xs ys,aU K H a xs/\aU K H b ys/\(i=xs.length ∨ (i < xs.length/\i=ys.length))⟩
noncomputable abbrev ao5:=u5 false false
theorem ao6 {P:Program}{w:World}{K:PySem.W.Frag}{elts:List Expr}{k:Nat}{pos:Pos} (a b z TI TO i1 i2:Addr) (d : [z,TI,TO,i1,i2].Nodup) :
  gZ P w K (.Tuple elts k pos) (u6 K a b) [z,TI,TO,i1,i2] z (ao5 z TI TO i1 i2 a b):=B0 false false a b z TI TO i1 i2 d
end L2
namespace PP
open PySem L2
inductive PV where
 | non | bl (b:Bool) | int (i:Int) | str (x:Str) | tup (xs:List PV) | lst (xs:List PV)
 | dK (kvs:List (aH × PV)) | dT (kvs:List (List aH × PV)) | scr (ns:List Int) | kt (xs:List PV) | exc (c:Str) | fK (kvs:List (aH × PV)) | fT (kvs:List (List aH × PV))
mutual
noncomputable def flat:PV->Bool
 | .tup xs=>flats xs
 | .lst _=>false
 | .dK _=>false
 | .dT _=>false
 | .non=>true
 | .bl _=>true
 | .int _=>true
 | .str _=>true
 | .scr _=>true
 | .kt xs=>flats xs
 | .exc _=>true
 | .fK _=>false
 | .fT _=>false
noncomputable def flats:List PV->Bool
 | []=>true
 | x :: r=>flat x && flats r
end
noncomputable def iZ (K:PySem.W.Frag) (H:Hp) (a:Addr) (ns:List Int):Prop:=(∃ o,H a=some (.frz o (.lst (ns.map V.int)))) ∨
  ∃ (o:Obj) (its:Array Value) (n:Nat),K.lookup a=some o/\o.cls = .type "list"/\o.dict=none/\o.data = .seq its n/\its.size<=sizeLine/\aQ (ns.map V.int) its.toList
noncomputable def nG (K:PySem.W.Frag) (a:Addr) (us:List V):Prop:=∃ (o:Obj) (its:Array Value) (n:Nat),K.lookup a=some o/\o.cls = .type "tuple"/\o.data = .seq its n/\its.size<=sizeLine/\aQ us its.toList
mutual
inductive aA (K:PySem.W.Frag) (M:Addr->Prop) (H:Hp):V->PV->Prop
 | non:aA K M H .non .non
 | bl (b:Bool):aA K M H (.bl b) (.bl b)
 | int (i:Int):aA K M H (.int i) (.int i)
 | str (x:Str):aA K M H (.str x) (.str x)
 | tup {a:Addr}{us:List V}{xs:List PV}:H a=some (.tup us)->Reps K M H us xs->aA K M H (.ref a) (.tup xs)
 | lst {a:Addr}{us:List V}{xs:List PV}:M a->H a=some (.lst us)->Reps K M H us xs->aA K M H (.ref a) (.lst xs)
 | dK {a:Addr}{kvs:List (aH × V)}{ps:List (aH × PV)}:M a->H a=some (.dK kvs)->kvs.map (·.1)=ps.map (·.1)->Reps K M H (kvs.map (·.2)) (ps.map (·.2))->aA K M H (.ref a) (.dK ps)
 | dT {a:Addr}{kvs:List (List aH × V)}{ps:List (List aH × PV)}:M a->H a=some (.dT kvs)->kvs.map (·.1)=ps.map (·.1)->Reps K M H (kvs.map (·.2)) (ps.map (·.2))->aA K M H (.ref a) (.dT ps)
 | scr {a:Addr}{ns:List Int}:iZ K H a ns->aA K M H (.ref a) (.scr ns)
 | kt {a:Addr}{us:List V}{xs:List PV}:nG K a us->Reps K M H us xs->aA K M H (.ref a) (.kt xs)
 | exc {a C:Addr}{o:Obj}{c:Str}:H a=some (.frz o (.own a))->PySem.W.nsIn K mainGlobals c=some (some (.ref C))->o.cls = .ref C->aA K M H (.ref a) (.exc c)
 | fK {a:Addr}{o:Obj}{kvs:List (aH × V)}{ps:List (aH × PV)}:H a=some (.frz o (.dK kvs))->kvs.map (·.1)=ps.map (·.1)->Reps K M H (kvs.map (·.2)) (ps.map (·.2))->aA K M H (.ref a) (.fK ps)
 | fT {a:Addr}{o:Obj}{kvs:List (List aH × V)}{ps:List (List aH × PV)}:H a=some (.frz o (.dT kvs))->kvs.map (·.1)=ps.map (·.1)->Reps K M H (kvs.map (·.2)) (ps.map (·.2))->aA K M H (.ref a) (.fT ps)
inductive Reps (K:PySem.W.Frag) (M:Addr->Prop) (H:Hp):List V->List PV->Prop
 | nil:Reps K M H [] []
 | cons {v:V}{x:PV}{vs:List V}{xs:List PV}:aA K M H v x->Reps K M H vs xs->Reps K M H (v :: vs) (x :: xs)
end
structure iF (M M':Addr->Prop) (H H':Hp):Prop where
 lst:∀ a us,M a->H a=some (.lst us)->M' a/\H' a=some (.lst us)
 dK:∀ a kvs,M a->H a=some (.dK kvs)->M' a/\H' a=some (.dK kvs)
 dT:∀ a kvs,M a->H a=some (.dT kvs)->M' a/\H' a=some (.dT kvs)
 tup:∀ a us,H a=some (.tup us)->H' a=some (.tup us)
 frz:∀ a o u,H a=some (.frz o u)->H' a=some (.frz o u)
theorem iZ.keep {K:PySem.W.Frag}{H H':Hp}{a:Addr}{ns:List Int} (k:∀ a o u,H a=some (.frz o u)->H' a=some (.frz o u)) (h:iZ K H a ns):iZ K H' a ns:=
 h.elim (fun ⟨o,e⟩=>.inl ⟨o,k _ _ _ e⟩) .inr
mutual
theorem aA.keep {K:PySem.W.Frag}{M M':Addr->Prop}{H H':Hp} (k:iF M M' H H'):∀ {v:V}{x:PV},aA K M H v x->aA K M' H' v x
 | _,_,.non=>.non
 | _,_,.bl b=>.bl b
 | _,_,.int i=>.int i
 | _,_,.str x=>.str x
 | _,_,.tup h r=>.tup (k.tup _ _ h) (Reps.keep k r)
 | _,_,.lst m h r=>.lst (k.lst _ _ m h).1 (k.lst _ _ m h).2 (Reps.keep k r)
 | _,_,.dK m h e r=>.dK (k.dK _ _ m h).1 (k.dK _ _ m h).2 e (Reps.keep k r)
 | _,_,.dT m h e r=>.dT (k.dT _ _ m h).1 (k.dT _ _ m h).2 e (Reps.keep k r)
 | _,_,.scr h=>.scr (h.keep k.frz)
 | _,_,.kt h r=>.kt h (Reps.keep k r)
 | _,_,.exc h e c=>.exc (k.frz _ _ _ h) e c
 | _,_,.fK h e r=>.fK (k.frz _ _ _ h) e (Reps.keep k r)
 | _,_,.fT h e r=>.fT (k.frz _ _ _ h) e (Reps.keep k r)
theorem Reps.keep {K:PySem.W.Frag}{M M':Addr->Prop}{H H':Hp} (k:iF M M' H H'):∀ {vs:List V}{xs:List PV},Reps K M H vs xs->Reps K M' H' vs xs
 | _,_,.nil=>.nil
 | _,_,.cons r t=>.cons (aA.keep k r) (Reps.keep k t)
end
mutual
theorem aA.flat {K:PySem.W.Frag}{M M':Addr->Prop}{H:Hp}{v:V}{x:PV} (f:flat x=true) (r:aA K M H v x):aA K M' H v x:=by
 cases r with
 | non=>exact .non
 | bl b=>exact .bl b
 | int i=>exact .int i
 | str x=>exact .str x
 | tup h r=>exact .tup h (Reps.flat (by unfold PP.flat at f; exact f) r)
 | lst m h r=>unfold PP.flat at f; cases f
 | dK m h e r=>unfold PP.flat at f; cases f
 | dT m h e r=>unfold PP.flat at f; cases f
 | scr h=>exact .scr h
 | kt h r=>exact .kt h (Reps.flat (by unfold PP.flat at f; exact f) r)
 | exc h e c=>exact .exc h e c
 | fK h e r=>unfold PP.flat at f; cases f
 | fT h e r=>unfold PP.flat at f; cases f
theorem Reps.flat {K:PySem.W.Frag}{M M':Addr->Prop}{H:Hp}{vs:List V}{xs:List PV} (f:flats xs=true) (r:Reps K M H vs xs):Reps K M' H vs xs:=by
 cases r with
 | nil=>exact .nil
 | cons r t=>
  unfold PP.flats at f
  rw [bb0] at f
  exact .cons (aA.flat f.1 r) (Reps.flat f.2 t)
end
theorem iF.same {M M':Addr->Prop}{H H':Hp} (s:aD H H') (m:∀ a,M a->M' a):iF M M' H H':=
 ⟨fun a _ h e=>⟨m a h,s _ _ e⟩,fun a _ h e=>⟨m a h,s _ _ e⟩,fun a _ h e=>⟨m a h,s _ _ e⟩,fun _ _ e=>s _ _ e,fun _ _ _ e=>s _ _ e⟩
theorem aA.same {K:PySem.W.Frag}{M M':Addr->Prop}{H H':Hp}{v:V}{x:PV} (r:aA K M H v x) (s:aD H H') (m:∀ a,M a->M' a):aA K M' H' v x:=r.keep (.same s m)
theorem Reps.same {K:PySem.W.Frag}{M M':Addr->Prop}{H H':Hp}{v:List V}{x:List PV} (r:Reps K M H v x) (s:aD H H') (m:∀ a,M a->M' a):Reps K M' H' v x:=r.keep (.same s m)
noncomputable def fQ:HO->Bool
 | .lst _=>true
 | .dK _=>true
 | .dT _=>true
 | _=>false
theorem iF.upd {M M':Addr->Prop}{H:Hp}{a:Addr}{o o':HO} (h:H a=some o') (mu:fQ o'=true) (m:∀ b,M b->b ≠ a/\M' b):iF M M' H (upd H a o):=
 ⟨fun b _ hb e=>⟨(m b hb).2,by rw [aF (m b hb).1]; exact e⟩,fun b _ hb e=>⟨(m b hb).2,by rw [aF (m b hb).1]; exact e⟩,fun b _ hb e=>⟨(m b hb).2,by rw [aF (m b hb).1]; exact e⟩,
  fun b _ e=>by rw [aF (fun z=>by rw [z,h] at e; cases e; cases mu)]; exact e,
  fun b _ _ e=>by rw [aF (fun z=>by rw [z,h] at e; cases e; cases mu)]; exact e⟩
theorem Reps.length {K:PySem.W.Frag}{M:Addr->Prop}{H:Hp}:∀ {vs:List V}{xs:List PV},Reps K M H vs xs->vs.length=xs.length
 | _,_,.nil=>rfl
 | _,_,.cons _ t=>congrArg (· + 1) t.length
theorem Reps.get {K:PySem.W.Frag}{M:Addr->Prop}{H:Hp}:∀ {vs:List V}{xs:List PV}{i:Nat}{v:V},Reps K M H vs xs->vs[i]? = some v->∃ x,xs[i]? = some x/\aA K M H v x
 | _,_,_,_,.nil,e=>by simp at e
 | _,_,0,_,.cons r _,e=>by simp at e; subst e; exact⟨_,rfl,r⟩
 | _,_,i+1,v,.cons _ t,e=>by
  rw [ba4] at e
  obtain ⟨x,h1,h2⟩:=t.get e
  exact⟨x,by rw [ba4]; exact h1,h2⟩
theorem Reps.at {K:PySem.W.Frag}{M:Addr->Prop}{H:Hp}:∀ {vs:List V}{xs:List PV}{i:Nat}{x:PV},Reps K M H vs xs->xs[i]? = some x->∃ v,vs[i]? = some v/\aA K M H v x
 | _,_,_,_,.nil,e=>by simp at e
 | _,_,0,_,.cons r _,e=>by simp at e; subst e; exact⟨_,rfl,r⟩
 | _,_,i+1,v,.cons _ t,e=>by
  rw [ba4] at e
  obtain ⟨x,h1,h2⟩:=t.at e
  exact⟨x,by rw [ba4]; exact h1,h2⟩
theorem Reps.append {K:PySem.W.Frag}{M:Addr->Prop}{H:Hp}:∀ {vs:List V}{xs:List PV}{us:List V}{ys:List PV},Reps K M H vs xs->Reps K M H us ys->Reps K M H (vs ++ us) (xs ++ ys)
 | _,_,_,_,.nil,s=>s
 | _,_,_,_,.cons r t,s=>.cons r (t.append s)
theorem Reps.set {K:PySem.W.Frag}{M:Addr->Prop}{H:Hp}{v:V}{x:PV} (q:aA K M H v x):∀ (i:Nat) {vs:List V}{xs:List PV},Reps K M H vs xs->Reps K M H (vs.set i v) (xs.set i x)
 | _,_,_,.nil=>.nil
 | 0,_,_,.cons r t=>.cons q t
 | i+1,_,_,.cons r t=>.cons r (Reps.set q i t)
theorem Reps.take {K:PySem.W.Frag}{M:Addr->Prop}{H:Hp}:∀ (n:Nat) {vs:List V}{xs:List PV},Reps K M H vs xs->Reps K M H (vs.take n) (xs.take n)
 | 0,_,_,_=>by simp; exact .nil
 | _+1,_,_,.nil=>.nil
 | n+1,_,_,.cons r t=>.cons r (Reps.take n t)
theorem Reps.drop {K:PySem.W.Frag}{M:Addr->Prop}{H:Hp}:∀ (n:Nat) {vs:List V}{xs:List PV},Reps K M H vs xs->Reps K M H (vs.drop n) (xs.drop n)
 | 0,_,_,r=>r
 | _+1,_,_,.nil=>.nil
 | n+1,_,_,.cons _ t=>Reps.drop n t
theorem Reps.eraseIdx {K:PySem.W.Frag}{M:Addr->Prop}{H:Hp}:∀ (n:Nat) {vs:List V}{xs:List PV},Reps K M H vs xs->Reps K M H (vs.eraseIdx n) (xs.eraseIdx n)
 | _,_,_,.nil=>.nil
 | 0,_,_,.cons _ t=>t
 | n+1,_,_,.cons r t=>.cons r (Reps.eraseIdx n t)
noncomputable abbrev intz (ns:List Int):List PV:=ns.map PV.int
theorem Reps.intz {K:PySem.W.Frag}{M:Addr->Prop}{H:Hp}:∀ (ns:List Int),Reps K M H (ns.map V.int) (intz ns)
 | []=>.nil
 | n :: r=>.cons (.int n) (Reps.intz r)
theorem Reps.ofInts {K:PySem.W.Frag}{M:Addr->Prop}{H:Hp}:∀ {ns:List Int}{us:List V},Reps K M H us (PP.intz ns)->us=ns.map V.int
 | [],_,.nil=>rfl
 | n :: r,_,.cons q t=>by
  cases q
  rw [Reps.ofInts t]; rfl
theorem u7:∀ (ns:List Int),flats (intz ns)=true
 | []=>rfl
 | n :: r=>by show (flat (.int n) && flats (intz r))=true; rw [u7 r]; rfl
inductive Tg | rd | sh | nw | fr
inductive Slot | sh (g:Bool) (x:PV) | own (x:PV)
noncomputable def Slot.val:Slot->PV
 | .sh _ x=>x
 | .own x=>x
noncomputable def Slot.tag:Slot->Tg
 | .sh true _=>.nw
 | .sh false _=>.sh
 | .own _=>.rd
noncomputable abbrev b6:=List (Option Slot)
noncomputable def Ms (H0:Hp) (W:Addr->Prop):Bool->Addr->Prop
 | false,a=>¬ W a
 | true,a=>¬ W a/\H0 a=none
noncomputable def Mg (H0:Hp) (W:Addr->Prop) (Hs:Hp):Tg->Addr->Prop
 | .rd,_=>True
 | .sh,a=>¬ W a
 | .nw,a=>¬ W a/\H0 a=none
 | .fr,a=>Hs a=none
noncomputable def hU (K:PySem.W.Frag) (M:Addr->Prop) (H:Hp) (a:Addr):PV->Prop
 | .lst xs=>∃ us,H a=some (.lst us)/\Reps K M H us xs
 | .dK ps=>∃ kvs,H a=some (.dK kvs)/\kvs.map (·.1)=ps.map (·.1)/\Reps K M H (kvs.map (·.2)) (ps.map (·.2))
 | .dT ps=>∃ kvs,H a=some (.dT kvs)/\kvs.map (·.1)=ps.map (·.1)/\Reps K M H (kvs.map (·.2)) (ps.map (·.2))
 | _=>False
noncomputable def pO (K:PySem.W.Frag) (H0:Hp) (W:Addr->Prop) (H:Hp) (v:V):Slot->Prop
 | .sh g x=>aA K (Ms H0 W g) H v x
 | .own x=>∃ a,v = .ref a/\W a/\hU K (Ms H0 W true) H a x
structure PX (K:PySem.W.Frag) (H0:Hp) (W:Addr->Prop) (σ:St) (ρ:b6) (H:Hp):Prop where
 len:ρ.length=σ.length
 same:aD H0 H
 wm:∀ a,W a->H0 a=none/\∃ o,H a=some o/\fQ o=true
 sl:∀ (i:Nat) (m:Slot),ρ[i]? = some (some m)->∃ v,σ[i]? = some (some v)/\pO K H0 W H v m
 dis:∀ (i j:Nat) (x y:PV) (a:Addr),ρ[i]? = some (some (.own x))->ρ[j]? = some (some (.own y))->σ[i]? = some (some (.ref a))->σ[j]? = some (some (.ref a))->i=j
theorem hU.keep {K:PySem.W.Frag}{M M':Addr->Prop}{H H':Hp}{a:Addr} (k:iF M M' H H') (ha:∀ o,H a=some o->H' a=some o):∀ {x:PV},hU K M H a x->hU K M' H' a x
 | .lst _,⟨us,e,r⟩=>⟨us,ha _ e,r.keep k⟩
 | .dK _,⟨us,e,q,r⟩=>⟨us,ha _ e,q,r.keep k⟩
 | .dT _,⟨us,e,q,r⟩=>⟨us,ha _ e,q,r.keep k⟩
theorem hU.at {K:PySem.W.Frag}{M:Addr->Prop}{H:Hp}{a:Addr}:∀ {x:PV},hU K M H a x->∃ o,H a=some o/\fQ o=true
 | .lst _,⟨us,e,r⟩=>⟨_,e,rfl⟩
 | .dK _,⟨us,e,q,r⟩=>⟨_,e,rfl⟩
 | .dT _,⟨us,e,q,r⟩=>⟨_,e,rfl⟩
theorem hU.rep {K:PySem.W.Frag}{M M':Addr->Prop}{H:Hp}{a:Addr} (m:∀ b,M b->M' b) (ha:M' a):∀ {x:PV},hU K M H a x->aA K M' H (.ref a) x
 | .lst _,⟨us,e,r⟩=>.lst ha e (r.same (aD.refl _) m)
 | .dK _,⟨us,e,q,r⟩=>.dK ha e q (r.same (aD.refl _) m)
 | .dT _,⟨us,e,q,r⟩=>.dT ha e q (r.same (aD.refl _) m)
section
variable {K : PySem.W.Frag} {H0 : Hp} {W W' : Addr → Prop} {σ : St} {ρ : b6} {H H' : Hp}
theorem PX.mono (p:PX K H0 W σ ρ H) (s:aD H H'):PX K H0 W σ ρ H':=by
 refine⟨p.len,p.same.trans s,fun a h=>⟨(p.wm a h).1,let ⟨o,e,m⟩:=(p.wm a h).2; ⟨o,s _ _ e,m⟩⟩,fun i m h=>?_,p.dis⟩
 obtain ⟨v,e,r⟩:=p.sl i m h
 refine⟨v,e,?_⟩
 cases m with
 | sh g x=>exact aA.same r s fun _ z=>z
 | own x=>
  obtain ⟨a,e1,e2,r⟩:=r
  exact⟨a,e1,e2,r.keep (.same s fun _ z=>z) fun _ z=>s _ _ z⟩
theorem PX.new (p:PX K H0 W σ ρ H) {a:Addr} (h:H a=none) : ¬ W a/\H0 a=none:=
 ⟨fun z=>(by obtain ⟨_,o,e,_⟩:=p.wm a z; rw [h] at e; cases e),p.same.free h⟩
theorem Mg.back {g:Tg}{H1:Hp} (s:aD H H1) {a:Addr} (h:Mg H0 W H1 g a):Mg H0 W H g a:=by
 cases g with
 | fr=>exact s.free h
 | rd=>exact h
 | sh=>exact h
 | nw=>exact h
end
noncomputable abbrev PK:=PV->Tg->Prop
noncomputable abbrev aE:=b6->PK->Prop
noncomputable abbrev bY:=b6->(Bool->Prop)->Prop
noncomputable abbrev cK:=b6->(List (PV × Tg)->Prop)->Prop
inductive hV (K:PySem.W.Frag) (H0:Hp) (W:Addr->Prop) (Hs H:Hp):List V->List (PV × Tg)->Prop
 | nil:hV K H0 W Hs H [] []
 | cons {v:V}{x:PV}{g:Tg}{vs:List V}{xs:List (PV × Tg)}:aA K (Mg H0 W Hs g) H v x->hV K H0 W Hs H vs xs->hV K H0 W Hs H (v :: vs) ((x,g) :: xs)
noncomputable def pP (K:PySem.W.Frag) (H0:Hp) (W:Addr->Prop) (H:Hp) (Q:PK) (Q':VK):Prop:=∀ v H' x g,aD H H'->aA K (Mg H0 W H g) H' v x->Q x g->Q' v H'
noncomputable def LE (X:Cx) (t:aE):TE:=fun σ H Q'=>∃ (W:Addr->Prop) (ρ:b6) (Q:PK),PX X.K X.H₀ W σ ρ H/\t ρ Q/\pP X.K X.H₀ W H Q Q'
noncomputable def LT (X:Cx) (t:bY):TT:=fun σ H Q'=>∃ (W:Addr->Prop) (ρ:b6) (Q:Bool->Prop),PX X.K X.H₀ W σ ρ H/\t ρ Q/\∀ b H',aD H H'->Q b->Q' b H'
noncomputable def LA (X:Cx) (t:cK):TA:=fun σ H Q'=>∃ (W:Addr->Prop) (ρ:b6) (Q:List (PV × Tg)->Prop),PX X.K X.H₀ W σ ρ H/\t ρ Q/\∀ vs H' xs,aD H H'->hV X.K X.H₀ W H H' vs xs->Q xs->Q' vs H'
theorem hV.same {K:PySem.W.Frag}{H0:Hp}{W:Addr->Prop}{Hs Hs' H H':Hp} (s:aD H H') (b:aD Hs' Hs):∀ {vs:List V}{xs:List (PV × Tg)},hV K H0 W Hs H vs xs->hV K H0 W Hs' H' vs xs
 | _,_,.nil=>.nil
 | _,_,.cons r t=>.cons (r.same s fun _ z=>Mg.back b z) (t.same s b)
theorem hV.any {K:PySem.W.Frag}{H0:Hp}{W:Addr->Prop}{Hs H:Hp}:∀ {vs:List V}{xs:List (PV × Tg)},hV K H0 W Hs H vs xs->Reps K (fun _=>True) H vs (xs.map (·.1))
 | _,_,.nil=>.nil
 | _,_,.cons r t=>.cons (r.same (aD.refl _) fun _ _=>trivial) t.any
noncomputable def Nw:Tg->PV->Prop
 | .fr,_=>True
 | .nw,_=>True
 | _,x=>flat x=true
section
variable {K : PySem.W.Frag} {H0 Hs H : Hp} {W : Addr → Prop} {σ : St} {ρ : b6}
theorem Nw.rep {g:Tg}{x:PV}{v:V} (px:PX K H0 W σ ρ Hs) (n:Nw g x) (r:aA K (Mg H0 W Hs g) H v x):aA K (Ms H0 W true) H v x:=by
 cases g with
 | fr=>exact r.same (aD.refl _) fun a z=>px.new z
 | nw=>exact r.same (aD.refl _) fun a z=>z
 | sh=>exact r.flat n
 | rd=>exact r.flat n
theorem pQ {v:V}{m:Slot} (r:pO K H0 W H v m):aA K (Mg H0 W Hs m.tag) H v m.val:=by
 cases m with
 | sh g x=>
  cases g with
  | true=>exact aA.same r (aD.refl _) fun _ z=>z
  | false=>exact aA.same r (aD.refl _) fun _ z=>z
 | own x=>
  obtain ⟨a,rfl,_,r⟩:=r
  exact r.rep (fun _ _=>trivial) trivial
end
section
variable {X : Cx} {σ : St} {H : Hp} {Q' : VK} {ta tb : aE}
noncomputable def a5 (i:Nat):aE:=fun ρ Q=>∃ m,ρ[i]? = some (some m)/\Q m.val m.tag
noncomputable def qC (x:PV):aE:=fun _ Q=>Q x .fr
theorem ao7 {i:Nat} (h:LE X (a5 i) σ H Q'):fH i σ H Q':=by
 obtain ⟨W,ρ,Q,px,⟨m,e,q⟩,k⟩:=h
 obtain ⟨v,ev,r⟩:=px.sl i m e
 exact⟨v,ev,k v H _ _ (aD.refl _) (pQ r) q⟩
theorem nH {x:PV}{v:V} (hr:∀ M,aA X.K M H v x) (h:LE X (qC x) σ H Q'):tC v σ H Q':=by
 obtain ⟨W,ρ,Q,px,q,k⟩:=h
 exact k v H _ _ (aD.refl _) (hr _) q
noncomputable def fR (X:Cx) (R:PV->Tg->PV->Tg->PK->Prop) (r:R2):Prop:=∀ (W:Addr->Prop) (Hs H:Hp) (u v:V) (x y:PV) (g g':Tg) (Q:PK) (Q':VK),aD Hs H->
 (∀ a,Hs a=none->¬ W a/\X.H₀ a=none)->aA X.K (Mg X.H₀ W Hs g) H u x->aA X.K (Mg X.H₀ W Hs g') H v y->R x g y g' Q->(∀ w H' z gz,aD H H'->aA X.K (Mg X.H₀ W Hs gz) H' w z->Q z gz->Q' w H')->r u v H Q'
noncomputable def q2 (R:PV->Tg->PV->Tg->PK->Prop) (ta tb:aE):aE:=fun ρ Q=>ta ρ fun x g=>tb ρ fun y g'=>R x g y g' Q
theorem pS {R:PV->Tg->PV->Tg->PK->Prop}{r:R2} (c:fR X R r) (h:LE X (q2 R ta tb) σ H Q'):nB r (LE X ta) (LE X tb) σ H Q':=by
 obtain ⟨W,ρ,Q,px,q,k⟩:=h
 refine⟨W,ρ,_,px,q,fun u H1 x g s1 r1 q1=>⟨W,ρ,_,px.mono s1,q1,fun v H2 y g' s2 r2 q2=>?_⟩⟩
 exact c W H H2 u v x y g g' Q Q' (s1.trans s2) (fun a z=>px.new z) (r1.same s2 fun _ z=>z) (r2.same (aD.refl _) fun _ z=>Mg.back s1 z) q2 fun w H' z gz s3 r3 q3=>k w H' z gz ((s1.trans s2).trans s3) r3 q3
noncomputable def RI (C:Int->Int->Prop) (f:Int->Int->PV):PV->Tg->PV->Tg->PK->Prop:=fun x _ y _ Q=>∃ i j,x = .int i/\y = .int j/\C i j/\Q (f i j) .fr
noncomputable def eN (f:Int->Int->PV):PV->Tg->PV->Tg->PK->Prop:=fun x _ y _ Q=>∃ i j,x = .int i/\y = .int j/\Q (f i j) .fr
theorem u8 {C:Int->Int->Prop}{f:Int->Int->Int}:fR X (RI C fun i j=>.int (f i j)) (rI C fun i j=>.int (f i j)):=by
 rintro W Hs H u v x y g g' Q Q' s n r1 r2 ⟨i,j,rfl,rfl,c,q⟩ k
 cases r1; cases r2
 exact⟨i,j,rfl,rfl,c,k _ _ _ _ (aD.refl _) (.int _) q⟩
theorem B1 {f:Int->Int->Int}:fR X (eN fun i j=>.int (f i j)) (gA fun i j=>.int (f i j)):=by
 rintro W Hs H u v x y g g' Q Q' s n r1 r2 ⟨i,j,rfl,rfl,q⟩ k
 cases r1; cases r2
 exact⟨i,j,rfl,rfl,k _ _ _ _ (aD.refl _) (.int _) q⟩
theorem lO {f:Int->Int->Bool}:fR X (eN fun i j=>.bl (f i j)) (gA fun i j=>.bl (f i j)):=by
 rintro W Hs H u v x y g g' Q Q' s n r1 r2 ⟨i,j,rfl,rfl,q⟩ k
 cases r1; cases r2
 exact⟨i,j,rfl,rfl,k _ _ _ _ (aD.refl _) (.bl _) q⟩
noncomputable def kK (neg:Bool):PV->Tg->PV->Tg->PK->Prop:=fun x _ y _ Q=>(∃ i j,x = .int i/\y = .int j/\Q (.bl (if neg=true then !decide (i=j) else decide (i=j))) .fr) ∨ (∃ i j,x = .bl i/\y = .bl j/\Q (.bl (if neg=true then !decide (i=j) else decide (i=j))) .fr)
theorem B2 (i j:Int):decide (V.int i=V.int j)=decide (i=j):=by
 rw [bc9,aY7,aY7]; exact⟨fun z=>V.int.inj z,fun z=>congrArg V.int z⟩
theorem B3 (i j:Bool):decide (V.bl i=V.bl j)=decide (i=j):=by
 rw [bc9,aY7,aY7]; exact⟨fun z=>V.bl.inj z,fun z=>congrArg V.bl z⟩
theorem B4:fR X (kK false) xZ:=by
 rintro W Hs H u v x y g g' Q Q' s n r1 r2 (⟨i,j,rfl,rfl,q⟩ | ⟨i,j,rfl,rfl,q⟩) k
 ·cases r1; cases r2
  exact⟨rfl,by rw [B2]; exact k _ _ _ _ (aD.refl _) (.bl _) q⟩
 ·cases r1; cases r2
  exact⟨rfl,by rw [B3]; exact k _ _ _ _ (aD.refl _) (.bl _) q⟩
theorem ao8:fR X (kK true) y8:=by
 rintro W Hs H u v x y g g' Q Q' s n r1 r2 (⟨i,j,rfl,rfl,q⟩ | ⟨i,j,rfl,rfl,q⟩) k
 ·cases r1; cases r2
  exact⟨rfl,by rw [B2]; exact k _ _ _ _ (aD.refl _) (.bl _) q⟩
 ·cases r1; cases r2
  exact⟨rfl,by rw [B3]; exact k _ _ _ _ (aD.refl _) (.bl _) q⟩
noncomputable def aX (t:aE):bY:=fun ρ Q=>t ρ fun x _=>∃ b,x = .bl b/\Q b
theorem lP {t:aE}{Q':Bool->Hp->Prop} (h:LT X (aX t) σ H Q'):LE X t σ H fun x H'=>∃ k,x = .bl k/\Q' k H':=by
 obtain ⟨W,ρ,Q,px,q,k⟩:=h
 refine⟨W,ρ,_,px,q,?_⟩
 rintro v H1 x g s r ⟨b,rfl,q⟩
 cases r
 exact⟨b,rfl,k _ _ s q⟩
noncomputable def jK (t u:bY):bY:=fun ρ Q=>t ρ fun c=>if c=true then u ρ Q else Q false
noncomputable def jL (t u:bY):bY:=fun ρ Q=>t ρ fun c=>if c=true then Q true else u ρ Q
noncomputable def kL (t:bY):bY:=fun ρ Q=>t ρ fun c=>Q (!c)
variable {t u : bY} {Qb : Bool → Hp → Prop}
theorem ao9 (h:LT X (jK t u) σ H Qb):xJ (LT X t) (LT X u) σ H Qb:=by
 obtain ⟨W,ρ,Q,px,q,k⟩:=h
 refine⟨W,ρ,_,px,q,fun b H1 s1 q1=>?_⟩
 cases b with
 | true=>exact aZ ⟨W,ρ,Q,px.mono s1,by simpa using q1,fun b H2 s2 q2=>k _ _ (s1.trans s2) q2⟩
 | false=>exact aS (k _ _ s1 (by simpa using q1))
theorem ap0 (h:LT X (jL t u) σ H Qb):xK (LT X t) (LT X u) σ H Qb:=by
 obtain ⟨W,ρ,Q,px,q,k⟩:=h
 refine⟨W,ρ,_,px,q,fun b H1 s1 q1=>?_⟩
 cases b with
 | false=>exact aS ⟨W,ρ,Q,px.mono s1,by simpa using q1,fun b H2 s2 q2=>k _ _ (s1.trans s2) q2⟩
 | true=>exact aZ (k _ _ s1 (by simpa using q1))
theorem ap1 (h:LT X (kL t) σ H Qb):xL (LT X t) σ H Qb:=by
 obtain ⟨W,ρ,Q,px,q,k⟩:=h
 exact⟨W,ρ,_,px,q,fun b H1 s1 q1=>k _ _ s1 q1⟩
noncomputable def kN (ta tb:aE):aE:=fun ρ Q=>ta ρ fun x _=>∃ c,x = .bl c/\if c=true then tb ρ Q else Q (.bl false) .fr
noncomputable def u9 (ta:aE):aE:=fun ρ Q=>ta ρ fun x _=>∃ c,x = .bl c/\Q (.bl (!c)) .fr
theorem pP.back {K:PySem.W.Frag}{H0:Hp}{W:Addr->Prop}{H H1:Hp}{Q:PK} (k:pP K H0 W H Q Q') (s:aD H H1):pP K H0 W H1 Q Q':=fun v H' x g s' r q=>k v H' x g (s.trans s') (r.same (aD.refl _) fun _ z=>Mg.back s z) q
theorem ap2 (h:LE X (kN ta tb) σ H Q'):xM (LE X ta) (LE X tb) σ H Q':=by
 obtain ⟨W,ρ,Q,px,q,k⟩:=h
 refine⟨W,ρ,_,px,q,?_⟩
 rintro v H1 x g s1 r ⟨c,rfl,q⟩
 cases r
 refine⟨c,rfl,?_⟩
 cases c with
 | true=>exact aZ ⟨W,ρ,Q,px.mono s1,by simpa using q,k.back s1⟩
 | false=>exact aS (k _ _ _ _ s1 (.bl _) (by simpa using q))
theorem ap3 (h:LE X (u9 ta) σ H Q'):xN (LE X ta) σ H Q':=by
 obtain ⟨W,ρ,Q,px,q,k⟩:=h
 refine⟨W,ρ,_,px,q,?_⟩
 rintro v H1 x g s1 r ⟨c,rfl,q⟩
 cases r
 exact⟨c,rfl,k _ _ _ _ s1 (.bl _) q⟩
noncomputable def aC:cK:=fun _ Q=>Q []
noncomputable def a7 (te:aE) (tr:cK):cK:=fun ρ Q=>te ρ fun x g=>tr ρ fun xs=>Q ((x,g) :: xs)
variable {Qa : List V → Hp → Prop} {tr : cK}
theorem ap4 (h:LA X aC σ H Qa):kB σ H Qa:=by
 obtain ⟨W,ρ,Q,px,q,k⟩:=h
 exact k _ _ _ (aD.refl _) .nil q
theorem ap5 (h:LA X (a7 ta tr) σ H Qa):jG (LE X ta) (LA X tr) σ H Qa:=by
 obtain ⟨W,ρ,Q,px,q,k⟩:=h
 refine⟨W,ρ,_,px,q,fun v H1 x g s1 r1 q1=>⟨W,ρ,_,px.mono s1,q1,fun vs H2 xs s2 r2 q2=>?_⟩⟩
 exact k _ _ _ (s1.trans s2) (.cons (r1.same s2 fun _ z=>z) (r2.same (aD.refl _) s1)) q2
noncomputable def cS (t:cK):aE:=fun ρ Q=>t ρ fun xs=>xs.length<=1000/\flats (xs.map (·.1))=true/\Q (.tup (xs.map (·.1))) .fr
noncomputable def iG (t:cK):aE:=fun ρ Q=>t ρ fun xs=>xs.length<=1000/\flats (xs.map (·.1))=true/\Q (.lst (xs.map (·.1))) .fr
theorem hV.length {K:PySem.W.Frag}{H0:Hp}{W:Addr->Prop}{Hs H:Hp}:∀ {vs:List V}{xs:List (PV × Tg)},hV K H0 W Hs H vs xs->vs.length=xs.length
 | _,_,.nil=>rfl
 | _,_,.cons _ t=>congrArg (· + 1) t.length
theorem uA {n:Nat} (h:n<=1000):n<=sizeLine:=bj1 (am0 h)
theorem ap6 (h:LE X (cS tr) σ H Q'):yH (LA X tr) σ H Q':=by
 obtain ⟨W,ρ,Q,px,q,k⟩:=h
 refine⟨W,ρ,_,px,q,?_⟩
 rintro vs H1 xs s1 r ⟨hl,n,q⟩
 refine⟨by rw [r.length]; exact uA hl,fun p hp=>k _ _ _ .fr (s1.trans (cE hp _)) (.tup b9 ?_) q⟩
 exact (r.any.flat n).same (cE hp _) fun _ z=>z
theorem ap7 (h:LE X (iG tr) σ H Q'):yI (LA X tr) σ H Q':=by
 obtain ⟨W,ρ,Q,px,q,k⟩:=h
 refine⟨W,ρ,_,px,q,?_⟩
 rintro vs H1 xs s1 r ⟨hl,n,q⟩
 refine⟨by rw [r.length]; exact uA hl,fun p hp=>k _ _ _ .fr (s1.trans (cE hp _)) (.lst (s1.free hp) b9 ?_) q⟩
 exact (r.any.flat n).same (cE hp _) fun _ z=>z
noncomputable def eO (X:Cx) (R:List PV->(PV->Prop)->Prop) (r:List V->Hp->VK->Prop):Prop:=∀ (H:Hp) (vs:List V) (xs:List PV) (Q:PV->Prop) (Q':VK),Reps X.K (fun _=>True) H vs xs->R xs Q->
 (∀ w H' z,aD H H'->aA X.K (fun a=>H a=none) H' w z->Q z->Q' w H')->r vs H Q'
noncomputable def aI (R:List PV->(PV->Prop)->Prop) (t:cK):aE:=fun ρ Q=>t ρ fun xs=>R (xs.map (·.1)) fun z=>Q z .fr
theorem B5 {R:List PV->(PV->Prop)->Prop}{r:List V->Hp->VK->Prop} (c:eO X R r) (h:LE X (aI R tr) σ H Q'):t8 r (LA X tr) σ H Q':=by
 obtain ⟨W,ρ,Q,px,q,k⟩:=h
 refine⟨W,ρ,_,px,q,fun vs H1 xs s1 r1 q1=>c H1 vs _ _ Q' r1.any q1 fun w H' z s2 r2 q2=>k w H' z .fr (s1.trans s2) (r2.same (aD.refl _) fun _ z=>s1.free z) q2⟩
end
structure lQ where
 nx:b6->Prop
 rt:PV->Prop
 bk:b6->Prop:=fun _=>False
 ct:b6->Prop:=fun _=>False
noncomputable abbrev aO:=lQ->b6->Prop
noncomputable def Ev (W:Addr->Prop) (H:Hp) (W':Addr->Prop) (H':Hp):Prop:=∀ b o,H b=some o->¬ W b->H' b=some o/\¬ W' b
theorem Ev.trans {W W1 W2:Addr->Prop}{H H1 H2:Hp} (a:Ev W H W1 H1) (b:Ev W1 H1 W2 H2):Ev W H W2 H2:=fun c o h n=>let ⟨h1,n1⟩:=a c o h n; b c o h1 n1
theorem Ev.same {W:Addr->Prop}{H H':Hp} (s:aD H H'):Ev W H W H':=fun c o h n=>⟨s _ _ h,n⟩
theorem Ev.refl (W:Addr->Prop) (H:Hp):Ev W H W H:=Ev.same (aD.refl _)
structure pT (X:Cx) (W:Addr->Prop) (H:Hp) (D':lQ) (D:dM):Prop where
 nx:∀ W' σ' H' ρ',Ev W H W' H'->PX X.K X.H₀ W' σ' ρ' H'->D'.nx ρ'->D.nx σ' H'
 rt:∀ v H' x,aD X.H₀ H'->aA X.K (fun a=>X.H₀ a=none) H' v x->D'.rt x->D.rt v H'
 bk:∀ W' σ' H' ρ',Ev W H W' H'->PX X.K X.H₀ W' σ' ρ' H'->D'.bk ρ'->D.bk σ' H'
 ct:∀ W' σ' H' ρ',Ev W H W' H'->PX X.K X.H₀ W' σ' ρ' H'->D'.ct ρ'->D.ct σ' H'
theorem pT.step {X:Cx}{W W1:Addr->Prop}{H H1:Hp}{D':lQ}{D:dM} (k:pT X W H D' D) (e:Ev W H W1 H1):pT X W1 H1 D' D:=
 ⟨fun W' σ' H' ρ' e'=>k.nx W' σ' H' ρ' (e.trans e'),k.rt,fun W' σ' H' ρ' e'=>k.bk W' σ' H' ρ' (e.trans e'),fun W' σ' H' ρ' e'=>k.ct W' σ' H' ρ' (e.trans e')⟩
noncomputable def LS (X:Cx) (t:aO):TS:=fun D σ H=>∃ (W:Addr->Prop) (ρ:b6) (D':lQ),PX X.K X.H₀ W σ ρ H/\t D' ρ/\pT X W H D' D
theorem gE {α:Type}{l:List α}{i j:Nat}{a b:α} (h:(l.set i a)[j]? = some b):(j=i/\i < l.length/\b=a) ∨ (j ≠ i/\l[j]? = some b):=by
 by_cases e:j=i
 ·subst e
  have hl:j < (l.set j a).length:=(aX7.mp h).1
  rw [bf9] at hl
  rw [bg0 hl] at h
  exact .inl ⟨rfl,hl,(aZ0 h).symm⟩
 ·rw [aZ4 (Ne.symm e)] at h
  exact .inr ⟨e,h⟩
section
variable {K : PySem.W.Frag} {H0 : Hp} {W W' : Addr → Prop} {σ : St} {ρ : b6} {H H' Hs : Hp}
theorem PX.setSh {i:Nat}{v:V}{g:Bool}{x:PV} (p:PX K H0 W σ ρ H) (r:aA K (Ms H0 W g) H v x):PX K H0 W (σ.set i (some v)) (ρ.set i (some (.sh g x))) H:=by
 refine⟨by rw [bf9,bf9]; exact p.len,p.same,p.wm,fun j m h=>?_,fun j k y z a h1 h2 h3 h4=>?_⟩
 ·rcases gE h with ⟨rfl,hl,e⟩ | ⟨hne,h⟩
  ·cases e
   rw [p.len] at hl
   exact⟨v,bg0 hl,r⟩
  ·obtain ⟨u,e,q⟩:=p.sl j m h
   exact⟨u,by rw [aZ4 (Ne.symm hne)]; exact e,q⟩
 ·rcases gE h1 with ⟨_,_,e⟩ | ⟨n1,h1⟩
  ·cases e
  ·rcases gE h2 with ⟨_,_,e⟩ | ⟨n2,h2⟩
   ·cases e
   ·rw [aZ4 (Ne.symm n1)] at h3
    rw [aZ4 (Ne.symm n2)] at h4
    exact p.dis j k y z a h1 h2 h3 h4
noncomputable def lR (W:Addr->Prop) (a:Addr):Addr->Prop:=fun b=>W b ∨ b=a
theorem uB {g:Bool}{a b:Addr} (n:b ≠ a) (h:Ms H0 W g b):Ms H0 (lR W a) g b:=by
 cases g with
 | true=>exact⟨fun z=>z.elim h.1 n,h.2⟩
 | false=>exact fun z=>z.elim h n
theorem PX.setOwn {i:Nat}{a:Addr}{x:PV} (p:PX K H0 W σ ρ Hs) (s:aD Hs H) (ha:Hs a=none) (r:hU K (Ms H0 (lR W a) true) H a x):PX K H0 (lR W a) (σ.set i (some (.ref a))) (ρ.set i (some (.own x))) H:=by
 have old:∀ b o,Hs b=some o->b ≠ a:=fun b o e z=>by rw [z,ha] at e; cases e
 have kp:∀ g,iF (Ms H0 W g) (Ms H0 (lR W a) g) Hs H:=fun g=>⟨fun b _ m e=>⟨uB (old _ _ e) m,s _ _ e⟩,fun b _ m e=>⟨uB (old _ _ e) m,s _ _ e⟩,fun b _ m e=>⟨uB (old _ _ e) m,s _ _ e⟩,fun _ _ e=>s _ _ e,fun _ _ _ e=>s _ _ e⟩
 have wa : ¬ W a:=(p.new ha).1
 refine⟨by rw [bf9,bf9]; exact p.len,p.same.trans s,fun b z=>?_,fun j m h=>?_,fun j k y z b h1 h2 h3 h4=>?_⟩
 ·rcases z with z | rfl
  ·obtain ⟨h1,o,h2,h3⟩:=p.wm b z
   exact⟨h1,o,s _ _ h2,h3⟩
  ·exact⟨(p.new ha).2,r.at⟩
 ·rcases gE h with ⟨rfl,hl,e⟩ | ⟨hne,h⟩
  ·cases e
   rw [p.len] at hl
   exact⟨_,bg0 hl,a,rfl,.inr rfl,r⟩
  ·obtain ⟨u,e,q⟩:=p.sl j m h
   refine⟨u,by rw [aZ4 (Ne.symm hne)]; exact e,?_⟩
   cases m with
   | sh g y=>exact aA.keep (kp g) q
   | own y=>
    obtain ⟨b,e1,e2,q⟩:=q
    exact⟨b,e1,.inl e2,q.keep (kp true) fun o z=>s _ _ z⟩
 ·have ne:∀ {j:Nat}{y:PV},ρ[j]? = some (some (.own y))->σ[j]? ≠ some (some (.ref a)):=fun {j y} h1 h2=>by
   obtain ⟨u,e,c,e1,e2,_⟩:=p.sl j _ h1
   rw [h2] at e
   cases e
   cases e1
   exact wa e2
  rcases gE h1 with ⟨e1,l1,_⟩ | ⟨n1,h1⟩
  ·rcases gE h2 with ⟨e2,_,_⟩ | ⟨n2,h2⟩
   ·rw [e1,e2]
   ·rw [e1,bg0 (by rw [<- p.len]; exact l1)] at h3
    rw [aZ4 (Ne.symm n2)] at h4
    cases h3
    exact absurd h4 (ne h2)
  ·rw [aZ4 (Ne.symm n1)] at h3
   rcases gE h2 with ⟨e2,l2,_⟩ | ⟨n2,h2⟩
   ·rw [e2,bg0 (by rw [<- p.len]; exact l2)] at h4
    cases h4
    exact absurd h3 (ne h1)
   ·rw [aZ4 (Ne.symm n2)] at h4
    exact p.dis j k y z b h1 h2 h3 h4
theorem Ev.own {a:Addr} (s:aD Hs H) (ha:Hs a=none):Ev W Hs (lR W a) H:=fun b o e n=>⟨s _ _ e,fun z=>z.elim n fun z=>by rw [z,ha] at e; cases e⟩
theorem nI {g:Bool}{a b:Addr} (wa:W a) (h:Ms H0 W g b):b ≠ a:=by
 cases g with
 | true=>exact fun z=>h.1 (by rw [z]; exact wa)
 | false=>exact fun z=>h (by rw [z]; exact wa)
theorem PX.updOwn {i:Nat}{a:Addr}{x y:PV}{o:HO} (p:PX K H0 W σ ρ H) (hi:ρ[i]? = some (some (.own x))) (ha:σ[i]? = some (some (.ref a))) (wa:W a) (mu:fQ o=true) (r:hU K (Ms H0 W true) (upd H a o) a y) :
  PX K H0 W σ (ρ.set i (some (.own y))) (upd H a o):=by
 obtain ⟨w0,o',e',mu'⟩:=p.wm a wa
 have kp:∀ g,iF (Ms H0 W g) (Ms H0 W g) H (upd H a o):=fun g=>.upd e' mu' fun b m=>⟨nI wa m,m⟩
 refine⟨by rw [bf9]; exact p.len,fun b u e=>by rw [aF (fun z=>by rw [z,w0] at e; cases e)]; exact p.same _ _ e,fun b z=>?_,fun j m h=>?_,fun j k y' z b h1 h2 h3 h4=>?_⟩
 ·by_cases e:b=a
  ·subst e; exact⟨w0,o,b9,mu⟩
  ·obtain ⟨h1,o2,h2,h3⟩:=p.wm b z
   exact⟨h1,o2,by rw [aF e]; exact h2,h3⟩
 ·rcases gE h with ⟨rfl,hl,e⟩ | ⟨hne,h⟩
  ·cases e
   exact⟨_,ha,a,rfl,wa,r⟩
  ·obtain ⟨u,e,q⟩:=p.sl j m h
   refine⟨u,e,?_⟩
   cases m with
   | sh g y=>exact aA.keep (kp g) q
   | own y=>
    obtain ⟨b,e1,e2,q⟩:=q
    have hb:b ≠ a:=fun z=>by
     subst e1
     rw [z] at e
     exact hne (p.dis j i _ _ a h hi e ha)
    exact⟨b,e1,e2,q.keep (kp true) fun o z=>by rw [aF hb]; exact z⟩
 ·have g1:∃ y,ρ[j]? = some (some (.own y)):=by
   rcases gE h1 with ⟨e,_,_⟩ | ⟨_,h⟩
   ·exact⟨x,by rw [e]; exact hi⟩
   ·exact⟨_,h⟩
  have g2:∃ y,ρ[k]? = some (some (.own y)):=by
   rcases gE h2 with ⟨e,_,_⟩ | ⟨_,h⟩
   ·exact⟨x,by rw [e]; exact hi⟩
   ·exact⟨_,h⟩
  obtain ⟨y1,g1⟩:=g1
  obtain ⟨y2,g2⟩:=g2
  exact p.dis j k y1 y2 b g1 g2 h3 h4
theorem Ev.upd {a:Addr}{o:HO} (wa:W a):Ev W H W (upd H a o):=fun b u e n=>⟨by rw [aF (fun z=>n (by rw [z]; exact wa))]; exact e,n⟩
end
section
variable {X : Cx} {σ : St} {H : Hp} {D : dM} {te : aE} {t u : aO}
noncomputable def cL:aO:=fun D ρ=>D.nx ρ
noncomputable def aJ (t u:aO):aO:=fun D ρ=>t { D with nx:=u D } ρ
theorem ap8 (h:LS X cL D σ H):xO D σ H:=by
 obtain ⟨W,ρ,D',px,q,k⟩:=h
 exact k.nx W σ H ρ (Ev.refl _ _) px q
theorem ap9 (h:LS X (aJ t u) D σ H):xP (LS X t) (LS X u) D σ H:=by
 obtain ⟨W,ρ,D',px,q,k⟩:=h
 exact⟨W,ρ,_,px,q,fun W' σ' H' ρ' e px' q'=>⟨W',ρ',D',px',q',k.step e⟩,k.rt,k.bk,k.ct⟩
noncomputable def uC:Tg->PV->Bool
 | .fr,_=>true
 | .nw,_=>true
 | _,x=>flat x
noncomputable def uD:Tg->PV->Prop
 | .rd,x=>flat x=true
 | _,_=>True
theorem B6 {K:PySem.W.Frag}{H0 Hs H:Hp}{W:Addr->Prop}{σ:St}{ρ:b6}{g:Tg}{x:PV}{v:V} (px:PX K H0 W σ ρ Hs) (n:uD g x) (r:aA K (Mg H0 W Hs g) H v x):aA K (Ms H0 W (uC g x)) H v x:=by
 cases g with
 | fr=>exact Nw.rep (g:=.fr) px trivial r
 | nw=>exact Nw.rep (g:=.nw) px trivial r
 | sh=>
  show aA K (Ms H0 W (flat x)) H v x
  cases e:flat x with
  | true=>exact r.flat e
  | false=>exact r.same (aD.refl _) fun _ z=>z
 | rd=>exact r.flat n
noncomputable def b7 (i:Nat) (te:aE):aO:=fun D ρ=>te ρ fun x g=>uD g x/\D.nx (ρ.set i (some (.sh (uC g x) x)))
theorem B7 {i:Nat} (h:LS X (b7 i te) D σ H):lL (LE X te) (cR i) D σ H:=by
 obtain ⟨W,ρ,D',px,q,k⟩:=h
 refine⟨W,ρ,_,px,q,?_⟩
 rintro v H1 x g s r ⟨n,q⟩
 exact k.nx W _ H1 _ (Ev.same s) ((px.mono s).setSh (B6 px n r)) q
noncomputable def B8:PV->Bool
 | .lst xs=>flats xs
 | .dK ps=>flats (ps.map (·.2))
 | .dT ps=>flats (ps.map (·.2))
 | _=>false
theorem aq0 {K:PySem.W.Frag}{M:Addr->Prop}{H:Hp}{v:V}{x:PV} (r:aA K M H v x) (o:B8 x=true):∃ a,v = .ref a/\M a/\∀ M',hU K M' H a x:=by
 cases r with
 | lst m e r=>exact⟨_,rfl,m,fun _=>⟨_,e,r.flat o⟩⟩
 | dK m e q r=>exact⟨_,rfl,m,fun _=>⟨_,e,q,r.flat o⟩⟩
 | dT m e q r=>exact⟨_,rfl,m,fun _=>⟨_,e,q,r.flat o⟩⟩
 | _=>cases o
noncomputable def hZ (i:Nat) (te:aE):aO:=fun D ρ=>te ρ fun x g=>g = .fr/\B8 x=true/\D.nx (ρ.set i (some (.own x)))
theorem aq1 {i:Nat} (h:LS X (hZ i te) D σ H):lL (LE X te) (cR i) D σ H:=by
 obtain ⟨W,ρ,D',px,q,k⟩:=h
 refine⟨W,ρ,_,px,q,?_⟩
 rintro v H1 x g s r ⟨rfl,o,q⟩
 obtain ⟨a,rfl,m,w⟩:=aq0 r o
 exact k.nx _ _ H1 _ (Ev.own s m) (px.setOwn s m (w _)) q
noncomputable def uE (te:aE):aO:=fun D ρ=>te ρ fun _ _=>D.nx ρ
theorem aq2 (h:LS X (uE te) D σ H):mX (LE X te) D σ H:=by
 obtain ⟨W,ρ,D',px,q,k⟩:=h
 exact⟨W,ρ,_,px,q,fun v H1 x g s r q=>k.nx W σ H1 ρ (Ev.same s) (px.mono s) q⟩
noncomputable def bV (te:aE):aO:=fun D ρ=>te ρ fun x g=>Nw g x/\D.rt x
theorem aq3 (h:LS X (bV te) D σ H):sU (LE X te) D σ H:=by
 obtain ⟨W,ρ,D',px,q,k⟩:=h
 refine⟨W,ρ,_,px,q,?_⟩
 rintro v H1 x g s r ⟨n,q⟩
 exact k.rt v H1 x (px.same.trans s) ((Nw.rep px n r).same (aD.refl _) fun _ z=>z.2) q
noncomputable def Slot.nw:Slot->Prop
 | .own _=>True
 | .sh true _=>True
 | .sh false x=>flat x=true
noncomputable def jM (i:Nat):aO:=fun D ρ=>∃ m,ρ[i]? = some (some m)/\m.nw/\D.rt m.val
theorem aq4 {i:Nat} (h:LS X (jM i) D σ H):sU (fH i) D σ H:=by
 obtain ⟨W,ρ,D',px,⟨m,hi,n,q⟩,k⟩:=h
 obtain ⟨v,ev,r⟩:=px.sl i _ hi
 refine⟨v,ev,k.rt v H _ px.same ?_ q⟩
 cases m with
 | own x=>
  obtain ⟨a,rfl,wa,r⟩:=r
  exact r.rep (fun _ z=>z.2) (px.wm a wa).1
 | sh g x=>
  cases g with
  | true=>exact aA.same r (aD.refl _) fun _ z=>z.2
  | false=>exact aA.flat n r
noncomputable def cF (c:bY) (t u:aO):aO:=fun D ρ=>c ρ fun b=>if b=true then t D ρ else u D ρ
theorem aq5 {c:bY} (h:LS X (cF c t u) D σ H):xR (LT X c) (LS X t) (LS X u) D σ H:=by
 obtain ⟨W,ρ,D',px,q,k⟩:=h
 refine⟨W,ρ,_,px,q,fun b H1 s q1=>?_⟩
 cases b with
 | true=>exact aZ ⟨W,ρ,D',px.mono s,by simpa using q1,k.step (Ev.same s)⟩
 | false=>exact aS ⟨W,ρ,D',px.mono s,by simpa using q1,k.step (Ev.same s)⟩
noncomputable def pU (c:bY) (tb:aO):aO:=fun D ρ=>∃ I:Nat->b6->Prop,(∃ m,I m ρ)/\∀ m ρ',I m ρ'->c ρ' fun b=>if b=true then tb { D with nx:=fun ρ2=>∃ m',m' < m/\I m' ρ2,ct:=fun ρ2=>∃ m',m' < m/\I m' ρ2,bk:=D.nx } ρ' else D.nx ρ'
theorem aq6 {c:bY}{tb:aO} (h:LS X (pU c tb) D σ H):xT (LT X c) (LS X tb) D σ H:=by
 obtain ⟨W,ρ,D',px,⟨I,⟨m0,i0⟩,turn⟩,k⟩:=h
 refine⟨fun m σ2 H2=>∃ W2 ρ2,PX X.K X.H₀ W2 σ2 ρ2 H2/\Ev W H W2 H2/\I m ρ2,⟨m0,W,ρ,px,Ev.refl _ _,i0⟩,?_⟩
 rintro m σ2 H2 ⟨W2,ρ2,px2,e2,i2⟩
 refine⟨W2,ρ2,_,px2,turn m ρ2 i2,fun b H3 s3 q3=>?_⟩
 cases b with
 | true=>
  refine aZ ⟨fun σ4 H4=>∃ W4 ρ4,PX X.K X.H₀ W4 σ4 ρ4 H4/\Ev W H W4 H4/\∃ m',m' < m/\I m' ρ4,fun σ4 H4 ⟨W4,ρ4,a,b,m',c,d⟩=>⟨m',c,W4,ρ4,a,b,d⟩,W2,ρ2,_,px2.mono s3,by simpa using q3,?_⟩
  have e3:Ev W H W2 H3:=e2.trans (Ev.same s3)
  exact⟨fun W' σ' H' ρ' e p q=>⟨W',ρ',p,e3.trans e,q⟩,k.rt,fun W' σ' H' ρ' e p q=>k.nx W' σ' H' ρ' (e3.trans e) p q,fun W' σ' H' ρ' e p q=>⟨W',ρ',p,e3.trans e,q⟩⟩
 | false=>exact aS (k.nx W2 σ2 H3 ρ2 (e2.trans (Ev.same s3)) (px2.mono s3) (by simpa using q3))
end
theorem aA.sqT {K:PySem.W.Frag}{M:Addr->Prop}{H:Hp}{v:V}{xs:List PV} (r:aA K M H v (.tup xs)):∃ a us,v = .ref a/\H a=some (.tup us)/\Reps K M H us xs:=by
 cases r with
 | tup e r=>exact⟨_,_,rfl,e,r⟩
theorem aA.sqL {K:PySem.W.Frag}{M:Addr->Prop}{H:Hp}{v:V}{xs:List PV} (r:aA K M H v (.lst xs)):∃ a us,v = .ref a/\M a/\H a=some (.lst us)/\Reps K M H us xs:=by
 cases r with
 | lst m e r=>exact⟨_,_,rfl,m,e,r⟩
theorem iZ.sqL {K:PySem.W.Frag}{H:Hp}{a:Addr}{ns:List Int} (h:iZ K H a ns):aU K H a (ns.map V.int):=h.elim (fun z=>.inl (.inr z)) .inr
noncomputable def j5:PV->Option (List PV)
 | .tup xs=>some xs
 | .lst xs=>some xs
 | .scr ns=>some (intz ns)
 | .kt xs=>some xs
 | _=>none
theorem aA.seq {K:PySem.W.Frag}{M:Addr->Prop}{H:Hp}{v:V}{x:PV}{xs:List PV} (r:aA K M H v x) (e:j5 x=some xs):∃ a us,v = .ref a/\(aU K H a us ∨ aR K H a us)/\Reps K M H us xs:=by
 cases r with
 | tup h r=>cases e; exact⟨_,_,rfl,.inr (aR.of h),r⟩
 | lst m h r=>cases e; exact⟨_,_,rfl,.inl (aU.of h),r⟩
 | scr h=>cases e; exact⟨_,_,rfl,.inl h.sqL,Reps.intz _⟩
 | kt h r=>cases e; exact⟨_,_,rfl,.inr (.inr h),r⟩
 | _=>cases e
section
variable {X : Cx} {σ : St} {H : Hp} {D : dM} {te ti to : aE} {t u : aO} {Q' : VK}
theorem _root_.PP.PX.updL {K:PySem.W.Frag}{H0:Hp}{W:Addr->Prop}{σ:St}{ρ:b6}{H:Hp}{i:Nat}{a:Addr}{x:PV}{us:List V}{ys:List PV} (p:PX K H0 W σ ρ H) (hi:ρ[i]? = some (some (.own x))) (ha:σ[i]? = some (some (.ref a))) (wa:W a) (r:Reps K (Ms H0 W true) (upd H a (.lst us)) us ys) :
  PX K H0 W σ (ρ.set i (some (.own (.lst ys)))) (upd H a (.lst us)):=p.updOwn hi ha wa rfl (y:=.lst ys) ⟨us,b9,r⟩
noncomputable def kO (i:Nat) (te:aE):aO:=fun D ρ=>∃ xs,ρ[i]? = some (some (.own (.lst xs)))/\te ρ fun x g=>Nw g x/\xs.length < 16000000/\D.nx (ρ.set i (some (.own (.lst (xs ++ [x])))))
theorem aq7 {i:Nat} (h:LS X (kO i te) D σ H):mX (tE X.K "list" zG (fH i) (jG (LE X te) kB)) D σ H:=by
 obtain ⟨W,ρ,D',px,⟨xs,hi,q⟩,k⟩:=h
 obtain ⟨v,ev,a,rfl,wa,us,ea,r⟩:=px.sl i _ hi
 refine⟨_,ev,A6 (aU.of ea),W,ρ,_,px,q,?_⟩
 rintro w H1 x g s rx ⟨n,hl,q⟩
 have ea1:=s _ _ ea
 refine⟨a,us,w,rfl,rfl,ea1,pM (by rw [r.length]; omega),?_⟩
 refine k.nx W σ _ _ ((Ev.same s).trans (Ev.upd wa)) ((px.mono s).updL hi ev wa ?_) q
 exact ((r.same s fun _ z=>z).append (.cons (Nw.rep px n rx) .nil)).keep (.upd ea1 rfl fun b m=>⟨nI wa m,m⟩)
end
theorem Reps.atI {K:PySem.W.Frag}{M:Addr->Prop}{H:Hp}{us:List V}{xs:List PV}{i:Int}{z:PV} (r:Reps K M H us xs) (h:L2.atI xs i=some z):∃ v,L2.atI us i=some v/\aA K M H v z:=by
 unfold L2.atI at h ⊢
 rw [r.length]
 cases e:kE xs.length i with
 | none=>rw [e] at h; cases h
 | some j=>rw [e] at h; exact r.at h
section
variable {X : Cx} {σ : St} {H : Hp} {Q' : VK} {ta tb te : aE} {tr : cK}
noncomputable def uF:PV->Tg->PV->Tg->PK->Prop:=fun x g y _ Q=>∃ xs i z,j5 x=some xs/\y = .int i/\L2.atI xs i=some z/\Q z g
theorem aq8:fR X uF (zD X.K):=by
 rintro W Hs H u v x y g g' Q Q' s n r1 r2 ⟨xs,i,z,e,rfl,hz,q⟩ k
 cases r2
 obtain ⟨a,us,rfl,hs,r⟩:=r1.seq e
 obtain ⟨v,hv,rv⟩:=r.atI hz
 rcases hs with hs | hs
 ·exact .inl ⟨a,us,i,v,rfl,rfl,hs,hv,k v H z g (aD.refl _) rv q⟩
 ·exact .inr (.inl ⟨a,us,i,v,rfl,rfl,hs,hv,k v H z g (aD.refl _) rv q⟩)
noncomputable def B9:PV->Option Nat
 | .tup xs=>some xs.length
 | .lst xs=>some xs.length
 | .scr ns=>some ns.length
 | .dK ps=>some ps.length
 | .kt xs=>some xs.length
 | _=>none
noncomputable def gO:List PV->(PV->Prop)->Prop:=fun xs Q=>∃ x n,xs = [x]/\B9 x=some n/\Q (.int n)
theorem Reps.one {K:PySem.W.Frag}{M:Addr->Prop}{H:Hp}{vs:List V}{x:PV} (r:Reps K M H vs [x]):∃ v,vs = [v]/\aA K M H v x:=by
 cases r with
 | cons r t=>cases t; exact⟨_,rfl,r⟩
theorem Reps.two {K:PySem.W.Frag}{M:Addr->Prop}{H:Hp}{vs:List V}{x y:PV} (r:Reps K M H vs [x,y]):∃ v w,vs = [v,w]/\aA K M H v x/\aA K M H w y:=by
 cases r with
 | cons r t=>
  obtain ⟨w,rfl,q⟩:=t.one
  exact⟨_,_,rfl,r,q⟩
theorem aq9:eO X gO (fun xs H Q=>(∃ p ys,xs = [.ref p]/\(aU X.K H p ys ∨ aR X.K H p ys)/\Q (.int ys.length) H) ∨ ∃ a kvs,xs = [V.ref a]/\H a=some (.dK kvs)/\Q (.int kvs.length) H):=by
 rintro H vs xs Q Q' r ⟨x,n,rfl,e,q⟩ k
 obtain ⟨v,rfl,r1⟩:=r.one
 have fin:∀ {m:Nat},m=n->Q' (.int m) H:=fun {m} z=>by rw [z]; exact k _ _ _ (aD.refl _) (.int _) q
 cases r1 with
 | tup h r2=>cases e; exact .inl ⟨_,_,rfl,.inr (aR.of h),fin r2.length⟩
 | lst m h r2=>cases e; exact .inl ⟨_,_,rfl,.inl (aU.of h),fin r2.length⟩
 | scr h=>cases e; exact .inl ⟨_,_,rfl,.inl h.sqL,fin (by rw [aW5])⟩
 | kt h r2=>cases e; exact .inl ⟨_,_,rfl,.inr (.inr h),fin r2.length⟩
 | dK m h e' r=>
  cases e
  refine .inr ⟨_,_,rfl,h,fin ?_⟩
  have:=congrArg List.length e'
  rw [aW5,aW5] at this
  exact this
 | _=>cases e
noncomputable def pV:PV->Option (List PV)
 | .kt _=>none
 | x=>j5 x
noncomputable def C0:List PV->(PV->Prop)->Prop:=fun xs Q=>∃ x ys,xs = [x]/\pV x=some ys/\flats ys=true/\Q (.tup ys)
theorem ar0:eO X (fun xs Q=>C0 xs Q/\∀ ns,xs ≠ [.scr ns]) (fun xs H Q=>∃ p ys,xs = [.ref p]/\((aU X.K H p ys/\∀ l,H l=none->Q (.ref l) (upd H l (.tup ys))) ∨ (aR X.K H p ys/\Q (.ref p) H))):=by
 rintro H vs xs Q Q' r ⟨⟨x,ys,rfl,e,f,q⟩,nsc⟩ k
 obtain ⟨v,rfl,r1⟩:=r.one
 cases r1 with
 | tup h r2=>cases e; exact⟨_,_,rfl,.inr ⟨aR.of h,k _ _ _ (aD.refl _) (.tup h (r2.flat f)) q⟩⟩
 | lst m h r2=>cases e; exact⟨_,_,rfl,.inl ⟨aU.of h,fun l hl=>k _ _ _ (cE hl _) (.tup b9 ((r2.flat f).same (cE hl _) fun _ z=>z)) q⟩⟩
 | scr h=>exact absurd rfl (nsc _)
 | _=>cases e
noncomputable def pW:List PV->(PV->Prop)->Prop:=fun xs Q=>∃ bs:List Bool,xs = [.lst (bs.map PV.bl)]/\Q (.bl (bs.all id))
theorem Reps.ofBls {K:PySem.W.Frag}{M:Addr->Prop}{H:Hp}:∀ {ns:List Bool}{us:List V},Reps K M H us (ns.map PV.bl)->us=ns.map V.bl
 | [],_,.nil=>rfl
 | n :: r,_,.cons q t=>by
  cases q
  rw [Reps.ofBls t]; rfl
theorem ar1:eO X pW (fun xs H Q=>∃ (a:Addr) (bs:List Bool),xs = [.ref a]/\aU X.K H a (bs.map V.bl)/\Q (.bl (bs.all id)) H):=by
 rintro H vs xs Q Q' r ⟨bs,rfl,q⟩ k
 obtain ⟨v,rfl,r1⟩:=r.one
 obtain ⟨a,us,rfl,_,h,r2⟩:=r1.sqL
 obtain rfl:=r2.ofBls
 exact⟨a,bs,rfl,aU.of h,k _ _ _ (aD.refl _) (.bl _) q⟩
noncomputable def nJ:List PV->(PV->Prop)->Prop:=fun xs Q=>∃ i j,xs = [.int i,.int j]/\Q (.int (if j < i then j else i))
noncomputable def lS:List PV->(PV->Prop)->Prop:=fun xs Q=>∃ i j,xs = [.int i,.int j]/\Q (.int (if j > i then j else i))
theorem ar2:eO X nJ (fun xs H Q=>∃ i j,xs = [.int i,.int j]/\Q (.int (if j < i then j else i)) H):=by
 rintro H vs xs Q Q' r ⟨i,j,rfl,q⟩ k
 obtain ⟨v,w,rfl,r1,r2⟩:=r.two
 cases r1; cases r2
 exact⟨i,j,rfl,k _ _ _ (aD.refl _) (.int _) q⟩
theorem ar3:eO X lS (fun xs H Q=>∃ i j,xs = [.int i,.int j]/\Q (.int (if j > i then j else i)) H):=by
 rintro H vs xs Q Q' r ⟨i,j,rfl,q⟩ k
 obtain ⟨v,w,rfl,r1,r2⟩:=r.two
 cases r1; cases r2
 exact⟨i,j,rfl,k _ _ _ (aD.refl _) (.int _) q⟩
noncomputable abbrev bW:=List PV->(PV->Prop)->Prop
noncomputable def nK (K:PySem.W.Frag) (p:bW):Sp:=fun vs H Q _=>∃ xs Qp,Reps K (fun _=>True) H vs xs/\p xs Qp/\∀ v H' x,aD H H'->aA K (fun a=>H a=none) H' v x->Qp x->Q v H'
theorem ar4 {p:bW}{E:XK} (h:LE X (aI p tr) σ H Q'):t6 (nK X.K p) [] E (LA X tr) σ H Q':=by
 obtain ⟨W,ρ,Q,px,q,k⟩:=h
 refine⟨W,ρ,_,px,q,fun vs H1 xs s1 r1 q1=>⟨_,_,by rw [bb7]; exact r1.any,q1,fun v H' x s2 r2 q2=>k v H' x .fr (s1.trans s2) (r2.same (aD.refl _) fun _ z=>s1.free z) q2⟩⟩
noncomputable def uG:PV->Bool
 | .non=>true
 | _=>false
noncomputable def uH (neg:Bool):PV->Tg->PV->Tg->PK->Prop:=fun x _ y _ Q=>y = .non/\Q (.bl (if neg=true then !uG x else uG x)) .fr
theorem ar5 {K:PySem.W.Frag}{M:Addr->Prop}{H:Hp}{v:V}{x:PV} (r:aA K M H v x):decide (v = .non)=uG x:=by
 cases r <;> rfl
theorem ar6:fR X (uH true) (fun x y H Q=>y = .non/\Q (.bl (!decide (x = .non))) H):=by
 rintro W Hs H u v x y g g' Q Q' s n r1 r2 ⟨rfl,q⟩ k
 cases r2
 exact⟨rfl,by rw [ar5 r1]; exact k _ _ _ _ (aD.refl _) (.bl _) q⟩
end
structure jN (K:PySem.W.Frag) (H0:Hp) (W:Addr->Prop) (g:Bool) (H1:Hp) (J:It) (xs:List PV):Prop where
 go:∀ W' H' i,Ev W H1 W' H'->i < xs.length->J.go i H'
 yld:∀ W' H' i v H2,Ev W H1 W' H'->J.yld i H' v H2->i < xs.length->aD H' H2/\∃ x,xs[i]? = some x/\aA K (Ms H0 W' g) H2 v x
 stop:∀ W' H',Ev W H1 W' H'->J.stop xs.length H'
noncomputable abbrev eQ:=b6->(List PV->Bool->Prop)->Prop
noncomputable def LI (X:Cx) (t:eQ):TI:=fun σ H R=>∃ (W:Addr->Prop) (ρ:b6) (Q:List PV->Bool->Prop),PX X.K X.H₀ W σ ρ H/\t ρ Q/\∀ J H1 xs g,aD H H1->jN X.K X.H₀ W g H1 J xs->Q xs g->R J H1
theorem Ev.keep {H0:Hp}{W W':Addr->Prop}{H H':Hp}{g:Bool} (e:Ev W H W' H') (tw:∀ a,W a->∃ o,H a=some o/\fQ o=true):iF (Ms H0 W g) (Ms H0 W' g) H H':=by
 have m:∀ {a:Addr}{o:HO},Ms H0 W g a->H a=some o->Ms H0 W' g a/\H' a=some o:=fun {a o} z h=>by
  cases g with
  | true=>
   obtain ⟨h1,h2⟩:=e a _ h z.1
   exact⟨⟨h2,z.2⟩,h1⟩
  | false=>
   obtain ⟨h1,h2⟩:=e a _ h z
   exact⟨h2,h1⟩
 refine⟨fun a _ z h=>m z h,fun a _ z h=>m z h,fun a _ z h=>m z h,fun a _ h=>(e a _ h fun z=>?_).1,fun a _ _ h=>(e a _ h fun z=>?_).1⟩
 ·obtain ⟨o,h',mu⟩:=tw a z; rw [h] at h'; cases h'; cases mu
 ·obtain ⟨o,h',mu⟩:=tw a z; rw [h] at h'; cases h'; cases mu
section
variable {X : Cx} {σ : St} {H : Hp} {te : aE} {tr : cK} {R : It → Hp → Prop}
noncomputable def C1 (K:PySem.W.Frag) (tl:TE):TI:=fun σ H R=>tl σ H fun x H1=>∃ a,x = .ref a/\((∃ xs,aU K H1 a xs/\R (sV K a) H1) ∨ (∃ xs,aR K H1 a xs/\R (sW K a) H1))
noncomputable def uI:Tg->List PV->Bool
 | .fr,_=>true
 | .nw,_=>true
 | _,xs=>flats xs
noncomputable def dS (te:aE):eQ:=fun ρ Q=>te ρ fun x g=>∃ xs,j5 x=some xs/\(g = .rd->flat x=true)/\Q xs (uI g xs)
theorem C2 {K:PySem.W.Frag}{H0:Hp}{W:Addr->Prop}{g:Bool}{H1:Hp}{a:Addr}{us:List V}{xs:List PV} (tw:∀ a,W a->∃ o,H1 a=some o/\fQ o=true) (ha:∀ W' H',Ev W H1 W' H'->aU K H' a us) (r:Reps K (Ms H0 W g) H1 us xs):jN K H0 W g H1 (sV K a) xs:=by
 have lr:=r.length
 refine⟨fun W' H' i e hi=>⟨us,us[i]'(by omega),ha W' H' e,by simp⟩,fun W' H' i v H2 e y hi=>?_,fun W' H' e=>⟨us,ha W' H' e,by omega⟩⟩
 obtain ⟨rfl,y⟩:=y
 obtain ⟨x,hx,rx⟩:=r.get (y us (ha W' _ e))
 exact⟨aD.refl _,x,hx,rx.keep (e.keep tw)⟩
theorem C3 {K:PySem.W.Frag}{H0:Hp}{W:Addr->Prop}{g:Bool}{H1:Hp}{a:Addr}{us:List V}{xs:List PV} (tw:∀ a,W a->∃ o,H1 a=some o/\fQ o=true) (ha:∀ W' H',Ev W H1 W' H'->aR K H' a us) (r:Reps K (Ms H0 W g) H1 us xs):jN K H0 W g H1 (sW K a) xs:=by
 have lr:=r.length
 refine⟨fun W' H' i e hi=>⟨us,us[i]'(by omega),ha W' H' e,by simp⟩,fun W' H' i v H2 e y hi=>?_,fun W' H' e=>⟨us,ha W' H' e,by omega⟩⟩
 obtain ⟨rfl,y⟩:=y
 obtain ⟨x,hx,rx⟩:=r.get (y us (ha W' _ e))
 exact⟨aD.refl _,x,hx,rx.keep (e.keep tw)⟩
theorem lT {K:PySem.W.Frag}{H0 Hs H:Hp}{W:Addr->Prop}{σ:St}{ρ:b6}{g:Tg}{us:List V}{xs:List PV} (px:PX K H0 W σ ρ Hs) (hg:g = .rd->flats xs=true) (r:Reps K (Mg H0 W Hs g) H us xs):Reps K (Ms H0 W (uI g xs)) H us xs:=by
 cases g with
 | fr=>exact r.same (aD.refl _) fun _ z=>px.new z
 | nw=>exact r.same (aD.refl _) fun _ z=>z
 | sh=>
  show Reps K (Ms H0 W (flats xs)) H us xs
  cases e:flats xs with
  | true=>exact r.flat e
  | false=>exact r.same (aD.refl _) fun _ z=>z
 | rd=>exact r.flat (hg rfl)
theorem ar7 (h:LI X (dS te) σ H R):C1 X.K (LE X te) σ H R:=by
 obtain ⟨W,ρ,Q,px,q,k⟩:=h
 refine⟨W,ρ,_,px,q,?_⟩
 rintro v H1 x g s r ⟨xs,e,hg,q⟩
 have px1:=px.mono s
 have tw:∀ a,W a->∃ o,H1 a=some o/\fQ o=true:=fun a z=>(px1.wm a z).2
 cases r with
 | tup h r=>
  cases e
  refine⟨_,rfl,.inr ⟨_,aR.of h,k _ _ _ _ s (C3 tw (fun W' H' e=>aR.of (e _ _ h fun z=>?_).1) (lT px (fun z=>by have:=hg z; unfold flat at this; exact this) r)) q⟩⟩
  obtain ⟨o,h',mu⟩:=tw _ z; rw [h] at h'; cases h'; cases mu
 | @lst a us xs' m h r=>
  cases e
  have wa : ¬ W a:=by
   cases g with
   | fr=>exact (px.new m).1
   | nw=>exact m.1
   | sh=>exact m
   | rd=>have:=hg rfl; unfold flat at this; cases this
  exact⟨_,rfl,.inl ⟨_,aU.of h,k _ _ _ _ s (C2 tw (fun W' H' e=>aU.of (e _ _ h wa).1) (lT px (fun z=>by have:=hg z; unfold flat at this; cases this) r)) q⟩⟩
 | scr h=>
  cases e
  refine⟨_,rfl,.inl ⟨_,h.sqL,k _ _ _ _ s (C2 tw (fun W' H' e=>(iZ.keep (fun a o u hz=>(e _ _ hz fun z=>?_).1) h).sqL) (lT (g:=g) px (fun z=>u7 _) (Reps.intz _))) q⟩⟩
  obtain ⟨o,h',mu⟩:=tw _ z; rw [hz] at h'; cases h'; cases mu
 | kt h r=>
  cases e
  exact⟨_,rfl,.inr ⟨_,.inr h,k _ _ _ _ s (C3 tw (fun W' H' e=>.inr h) (lT px (fun z=>by have:=hg z; unfold flat at this; exact this) r)) q⟩⟩
 | _=>cases e
noncomputable def jO (lo:Int) (n:Nat):List PV:=(List.range n).map fun (i:Nat)=>PV.int (lo+(i:Int))
theorem lU (lo:Int) (n:Nat):(jO lo n).length=n:=by unfold jO; rw [aW5,List.length_range]
theorem C4 {lo:Int}{n i:Nat} (h:i < n):(jO lo n)[i]? = some (.int (lo+i)):=by unfold jO; rw [aX1,List.getElem?_range h]; rfl
noncomputable def pX (te:aE):eQ:=fun ρ Q=>te ρ fun x _=>∃ j:Int,x = .int j/\-1000000<=j/\j<=1000000/\Q (jO 0 j.toNat) true
theorem ar8 {K:PySem.W.Frag}{H0:Hp}{W:Addr->Prop}{H1:Hp} (lo:Int) (n:Nat):jN K H0 W true H1 (oX lo n) (jO lo n):=by
 refine⟨fun W' H' i e hi=>by rw [lU] at hi; exact hi,fun W' H' i v H2 e y hi=>?_,fun W' H' e=>by show n<=(jO lo n).length; rw [lU]; exact aX5 _⟩
 rw [lU] at hi
 obtain ⟨rfl,rfl⟩:=y
 exact⟨aD.refl _,_,C4 hi,.int _⟩
theorem ar9 (h:LI X (pX te) σ H R):xV (jG (LE X te) kB) σ H R:=by
 obtain ⟨W,ρ,Q,px,q,k⟩:=h
 refine⟨W,ρ,_,px,q,?_⟩
 rintro v H1 x g s r ⟨j,rfl,h1,h2,q⟩
 cases r
 exact⟨j,rfl,by omega,by omega,k _ _ _ _ s (ar8 0 j.toNat) q⟩
end
noncomputable abbrev eR:=PV->Bool->b6->(b6->Prop)->Prop
noncomputable def iH (K:PySem.W.Frag) (own:Nat->Prop) (p:eR) (t:TG):Prop:=∀ (H0:Hp) (W:Addr->Prop) (σ:St) (ρ:b6) (H:Hp) (v:V) (x:PV) (g:Bool) (Q:b6->Prop) (Q':St->Hp->Prop),
 PX K H0 W σ ρ H->aA K (Ms H0 W g) H v x->p x g ρ Q->(∀ σ' ρ',PX K H0 W σ' ρ' H->(∀ i,¬ own i->σ'[i]? = σ[i]?)->σ'.length=σ.length->Q ρ'->Q' σ' H)->t v σ H Q'
noncomputable def cG (i:Nat):eR:=fun x g ρ Q=>Q (ρ.set i (some (.sh (g || flat x) x)))
theorem jP {K:PySem.W.Frag}{H0 H:Hp}{W:Addr->Prop}{v:V}{x:PV}{g:Bool} (r:aA K (Ms H0 W g) H v x):aA K (Ms H0 W (g || flat x)) H v x:=by
 cases g with
 | true=>exact r
 | false=>
  show aA K (Ms H0 W (flat x)) H v x
  cases e:flat x with
  | true=>exact r.flat e
  | false=>exact r
theorem nL (K:PySem.W.Frag) (i:Nat):iH K (· = i) (cG i) (cR i):=by
 intro H0 W σ ρ H v x g Q Q' px r q k
 exact k _ _ (px.setSh (jP r)) (fun j hj=>by rw [aZ4 (Ne.symm hj)]) (bf9 ..) q
noncomputable def gP (i j:Nat):eR:=fun x g ρ Q=>∃ y z,x = .tup [y,z]/\Q ((ρ.set i (some (.sh (g || flat y) y))).set j (some (.sh (g || flat z) z)))
theorem pY (K:PySem.W.Frag) (i j:Nat):iH K (fun k=>k=i ∨ k=j) (gP i j) (lK K 2 (fZ (cR i) (fZ (cR j) lJ))):=by
 intro H0 W σ ρ H v x g Q Q' px r q k
 obtain ⟨y,z,rfl,q⟩:=q
 obtain ⟨a,us,rfl,h,r⟩:=r.sqT
 obtain ⟨u1,u2,rfl,r1,r2⟩:=r.two
 refine⟨a,_,rfl,aR.of h,rfl,u1,_,rfl,u2,_,rfl,rfl,k _ _ ((px.setSh (jP r1)).setSh (jP r2)) (fun k hk=>?_) (by rw [bf9,bf9]) q⟩
 rw [aZ4 (fun e=>hk (.inr e.symm)),aZ4 (fun e=>hk (.inl e.symm))]
section
variable {X : Cx} {σ : St} {H : Hp} {D : dM}
noncomputable def dU (ti:eQ) (p:eR) (tb:aO):aO:=fun D ρ=>ti ρ fun xs g=>∃ I:Nat->b6->Prop,I 0 ρ/\(∀ i x ρ',xs[i]? = some x->I i ρ'->p x g ρ' fun ρ2=>tb { D with nx:=I (i+1),ct:=I (i+1),bk:=D.nx } ρ2)/\∀ ρ',I xs.length ρ'->D.nx ρ'
theorem as0 {ti:eQ}{p:eR}{g:TG}{tb:aO}{own:Nat->Prop} (hg:iH X.K own p g) (h:LS X (dU ti p tb) D σ H):oY (LI X ti) g (LS X tb) D σ H:=by
 obtain ⟨W,ρ,D',px,q,k⟩:=h
 refine⟨W,ρ,_,px,q,?_⟩
 rintro J H1 xs gb s it ⟨I,i0,turn,fin⟩
 refine⟨fun i m σ2 H2=>m=xs.length - i/\i<=xs.length/\∃ W2 ρ2,PX X.K X.H₀ W2 σ2 ρ2 H2/\Ev W H1 W2 H2/\I i ρ2,⟨xs.length,by omega,bf0 _,W,ρ,px.mono s,Ev.refl _ _,i0⟩,?_⟩
 rintro i m σ2 H2 ⟨rfl,hi,W2,ρ2,px2,e2,i2⟩
 have e0:Ev W H W2 H2:=(Ev.same s).trans e2
 by_cases hlt:i < xs.length
 ·refine .inr ⟨it.go W2 H2 i e2 hlt,fun σ3 H3=>∃ W3 ρ3,PX X.K X.H₀ W3 σ3 ρ3 H3/\Ev W H1 W3 H3/\I (i+1) ρ3,fun σ3 H3 ⟨W3,ρ3,a,b,c⟩=>⟨xs.length - (i+1),by omega,rfl,hlt,W3,ρ3,a,b,c⟩,fun v H3 y=>?_⟩
  obtain ⟨s3,x,hx,rx⟩:=it.yld W2 H2 i v H3 e2 y hlt
  refine hg X.H₀ W2 σ2 ρ2 H3 v x gb _ _ (px2.mono s3) rx (turn i x ρ2 hx i2) fun σ4 ρ4 px4 _ _ q4=>?_
  have e3:Ev W H1 W2 H3:=e2.trans (Ev.same s3)
  have e3':Ev W H W2 H3:=e0.trans (Ev.same s3)
  exact⟨W2,ρ4,_,px4,q4,fun W' σ' H' ρ' e p q=>⟨W',ρ',p,e3.trans e,q⟩,k.rt,fun W' σ' H' ρ' e p q=>k.nx W' σ' H' ρ' (e3'.trans e) p q,fun W' σ' H' ρ' e p q=>⟨W',ρ',p,e3.trans e,q⟩⟩
 ·have e:i=xs.length:=by omega
  subst e
  exact .inl ⟨it.stop W2 H2 e2,k.nx W2 σ2 H2 ρ2 e0 px2 (fin ρ2 i2)⟩
end
noncomputable def lV (fr:List (Option Nat)) (ρ:b6):b6:=fr.map fun o=>o.bind fun j=>(ρ[j]?).join.map fun m=>Slot.sh false m.val
noncomputable def gF (D:Addr):Addr->Prop:=fun a=>a=D
theorem as1 {K:PySem.W.Frag}{H0:Hp}{W:Addr->Prop}{σ:St}{ρ:b6}{H1 H':Hp}{D:Addr}{acc:List V}{fr:List (Option Nat)} (px:PX K H0 W σ ρ H1) (hD:H1 D=none) (s:aD H1 H') (ha:H' D=some (.lst acc)) :
  PX K H1 (gF D) (e9 fr σ) (lV fr ρ) H':=by
 have old:∀ {a:Addr}{o:HO},H1 a=some o->a ≠ D:=fun {a o} e z=>by rw [z,hD] at e; cases e
 refine⟨by unfold e9 lV; rw [aW5,aW5],s,fun a z=>by cases z; exact⟨hD,_,ha,rfl⟩,fun i m h=>?_,fun i j x y a h1=>?_⟩
 ·unfold lV at h
  rw [aX1] at h
  cases ef:fr[i]? with
  | none=>rw [ef] at h; cases h
  | some o=>
   rw [ef] at h
   cases o with
   | none=>cases h
   | some j=>
    have h:some ((ρ[j]?).join.map fun m=>Slot.sh false m.val)=some (some m):=h
    cases er:ρ[j]? with
    | none=>rw [er] at h; cases h
    | some o=>
     rw [er] at h
     cases o with
     | none=>cases h
     | some m0=>
      cases h
      obtain ⟨v,ev,r⟩:=px.sl j m0 er
      refine⟨v,?_,?_⟩
      ·unfold e9
       rw [aX1,ef]
       show some ((σ[j]?).join)=_
       rw [ev]; rfl
      ·have r':aA K (fun _=>True) H1 v m0.val:=(pQ (Hs:=H1) r).same (aD.refl _) fun _ _=>trivial
       exact r'.keep ⟨fun a _ _ e=>⟨old e,s _ _ e⟩,fun a _ _ e=>⟨old e,s _ _ e⟩,fun a _ _ e=>⟨old e,s _ _ e⟩,fun _ _ e=>s _ _ e,fun _ _ _ e=>s _ _ e⟩
 ·unfold lV at h1
  rw [aX1] at h1
  cases ef:fr[i]? with
  | none=>rw [ef] at h1; cases h1
  | some o=>
   rw [ef] at h1
   cases o with
   | none=>cases h1
   | some j=>
    have h1:some ((ρ[j]?).join.map fun m=>Slot.sh false m.val)=some (some (Slot.own x)):=h1
    cases er:ρ[j]? with
    | none=>rw [er] at h1; cases h1
    | some o=>
     rw [er] at h1
     cases o with
     | none=>cases h1
     | some m0=>cases h1
section
variable {X : Cx} {σ : St} {H : Hp} {Q' : VK}
noncomputable abbrev _root_.L2.Cx.frm (X:Cx) (H1:Hp):Cx:={ X with H₀:=H1 }
noncomputable def gQ (ti:eQ) (fr:List (Option Nat)) (p:eR) (tc:bY) (te:aE):aE:=fun ρ Q=>ti ρ fun xs g=>xs.length<=16000000/\∃ I:Nat->List PV->Prop,I 0 []/\
 (∀ i x acc,xs[i]? = some x->I i acc->p x false (lV fr ρ) fun ρ2=>tc ρ2 fun b=>if b=true then te ρ2 fun y gy=>Nw gy y/\I (i+1) (acc ++ [y]) else I (i+1) acc)/\∀ acc,I xs.length acc->Q (.lst acc) .fr
theorem pZ {ti:eQ}{fr:List (Option Nat)}{p:eR}{g:TG}{tc:bY}{te:aE}{own:Nat->Prop} (hg:iH X.K own p g) (ho:∀ i,own i->fr[i]? = some none) (h:LE X (gQ ti fr p tc te) σ H Q') :
  pK (LI X ti) fr (fun _=>g) (fun H1=>LT (X.frm H1) tc) (fun H1=>LE (X.frm H1) te) σ H Q':=by
 obtain ⟨W,ρ,Q,px,q,k⟩:=h
 refine⟨W,ρ,_,px,q,?_⟩
 rintro J H1 xs gb s it ⟨hl,I,i0,turn,fin⟩ D hD
 have px1:=px.mono s
 refine⟨fun i m acc H'=>m=xs.length - i/\i<=xs.length/\aD H1 H'/\H' D=some (.lst acc)/\∃ ys,Reps X.K (Ms H1 (gF D) true) H' acc ys/\ys.length<=i/\I i ys,⟨xs.length,by omega,bf0 _,cE hD _,b9,[],.nil,aX5 _,i0⟩,?_⟩
 rintro i m acc H' ⟨rfl,hi,sm,ha,ys,ry,hy,iy⟩
 refine⟨ha,?_⟩
 have ev:Ev W H1 (lR W D) H':=Ev.own sm hD
 by_cases hlt:i < xs.length
 ·refine .inr ⟨it.go _ H' i ev hlt,fun v H2 y=>?_⟩
  obtain ⟨s2,x,hx,rx⟩:=it.yld _ H' i v H2 ev y hlt
  have ha2:=s2 _ _ ha
  have pxb:PX X.K H1 (gF D) (e9 fr σ) (lV fr ρ) H2:=as1 px1 hD (sm.trans s2) ha2
  have rx':aA X.K (Ms H1 (gF D) false) H2 v x:=rx.same (aD.refl _) fun a z=>by
   cases gb with
   | true=>exact fun e=>z.1 (.inr e)
   | false=>exact fun e=>z (.inr e)
  refine hg H1 (gF D) _ _ H2 v x false _ _ pxb rx' (turn i x ys hx iy) fun σ2 ρ2 px2 hown hlen q2=>⟨⟨hlen.symm,fun j w e=>?_⟩,?_⟩
  ·by_cases oj:own j
   ·have:=ho j oj
    unfold e9 at e
    rw [aX1,this] at e
    cases e
   ·rw [hown j oj]; exact e
  ·refine⟨gF D,ρ2,_,px2,q2,fun b H4 s4 q4=>?_⟩
   have ha4:=s4 _ _ ha2
   have sm4:=(sm.trans s2).trans s4
   cases b with
   | false=>
    refine aS ⟨xs.length - (i+1),by omega,rfl,hlt,sm4,ha4,ys,ry.same (s2.trans s4) fun _ z=>z,by omega,by simpa using q4⟩
   | true=>
    refine aZ ⟨gF D,ρ2,_,px2.mono s4,by simpa using q4,?_⟩
    rintro w H5 y gy s5 ryy ⟨nw,q5⟩
    have ha5:=s5 _ _ ha4
    have lr:=ry.length
    refine⟨ha5,pM (by omega),xs.length - (i+1),by omega,rfl,hlt,fun b o e=>?_,b9,ys ++ [y],?_,by rw [aZ3,bc4]; omega,q5⟩
    ·rw [aF (fun z=>by rw [z,hD] at e; cases e)]
     exact s5 _ _ (sm4 _ _ e)
    ·exact ((ry.same ((s2.trans s4).trans s5) fun _ z=>z).append (.cons (Nw.rep (px2.mono s4) nw ryy) .nil)).keep (.upd ha5 rfl fun b m=>⟨m.1,m⟩)
 ·have e:i=xs.length:=by omega
  subst e
  refine .inl ⟨it.stop _ H' ev,k _ H' _ .fr (s.trans sm) (.lst (s.free hD) ha (ry.same (aD.refl _) fun _ z=>s.free z.2)) (fin ys iy)⟩
noncomputable def i5:bY:=fun _ Q=>Q true
theorem as2 {Qb:Bool->Hp->Prop} (h:LT X i5 σ H Qb):A0 σ H Qb:=by
 obtain ⟨W,ρ,Q,px,q,k⟩:=h
 exact k _ _ (aD.refl _) q
end
section
variable {κ : Type} [DecidableEq κ]
noncomputable def cC (ps:List (κ × PV)) (k:κ):Option PV:=(ps.find? fun p=>decide (p.1=k)).map (·.2)
noncomputable def gR (ps:List (κ × PV)) (k:κ) (x:PV):List (κ × PV):=if (ps.any fun p=>decide (p.1=k))=true then ps.map (fun p=>if p.1=k then (p.1,x) else p) else ps ++ [(k,x)]
variable {K : PySem.W.Frag} {M : Addr → Prop} {H : Hp}
theorem j6 (k:κ):∀ {kvs:List (κ × V)}{ps:List (κ × PV)},kvs.map (·.1)=ps.map (·.1)->Reps K M H (kvs.map (·.2)) (ps.map (·.2))->(cC ps k=none->eZ kvs k=none)/\∀ x,cC ps k=some x->∃ v,eZ kvs k=some v/\aA K M H v x
 | [],[],_,_=>⟨fun _=>rfl,fun x h=>by cases h⟩
 | [],_ :: _,e,_=>by cases e
 | _ :: _,[],e,_=>by cases e
 | (k1,v) :: kvs,(k2,x) :: ps,e,r=>by
  injection e with e1 e2
  have e1:k1=k2:=e1
  subst e1
  cases r with
  | cons r t=>
   obtain ⟨h1,h2⟩:=j6 k e2 t
   unfold cC eZ at h1 h2 ⊢
   by_cases e:k1=k
   ·simp only [bf8,e,decide_true,Option.map_some]
    exact⟨fun z=>(by cases z),fun y z=>(by cases z; exact⟨v,rfl,r⟩)⟩
   ·simp only [bf8,e,decide_false]
    exact⟨h1,h2⟩
theorem as3 (k:κ) {kvs:List (κ × V)}{ps:List (κ × PV)} (e:kvs.map (·.1)=ps.map (·.1)):(kvs.any fun p=>decide (p.1=k))=ps.any fun p=>decide (p.1=k):=by
 have h1:(kvs.any fun p=>decide (p.1=k))=(kvs.map (·.1)).any fun z=>decide (z=k):=by rw [List.any_map]; rfl
 have h2:(ps.any fun p=>decide (p.1=k))=(ps.map (·.1)).any fun z=>decide (z=k):=by rw [List.any_map]; rfl
 rw [h1,h2,e]
theorem C5 (k:κ) {w:V}{y:PV} (q:aA K M H w y):∀ {kvs:List (κ × V)}{ps:List (κ × PV)},kvs.map (·.1)=ps.map (·.1)->Reps K M H (kvs.map (·.2)) (ps.map (·.2))->
  (kvs.map fun kv=>if kv.1=k then (kv.1,w) else kv).map (·.1)=(ps.map fun kv=>if kv.1=k then (kv.1,y) else kv).map (·.1)/\Reps K M H ((kvs.map fun kv=>if kv.1=k then (kv.1,w) else kv).map (·.2)) ((ps.map fun kv=>if kv.1=k then (kv.1,y) else kv).map (·.2))
 | [],[],_,_=>⟨rfl,.nil⟩
 | [],_ :: _,e,_=>by cases e
 | _ :: _,[],e,_=>by cases e
 | (k1,v) :: kvs,(k2,x) :: ps,e,r=>by
  injection e with e1 e2
  have e1:k1=k2:=e1
  subst e1
  cases r with
  | cons r t=>
   obtain ⟨h1,h2⟩:=C5 k q e2 t
   by_cases e:k1=k
   ·simp only [aY8,e,if_true]
    exact⟨by rw [h1],.cons q h2⟩
   ·simp only [aY8,e,be4]
    exact⟨by rw [h1],.cons r h2⟩
theorem as4 (k:κ) {w:V}{y:PV} (q:aA K M H w y) {kvs:List (κ × V)}{ps:List (κ × PV)} (e:kvs.map (·.1)=ps.map (·.1)) (r:Reps K M H (kvs.map (·.2)) (ps.map (·.2))) :
  (fM kvs k w).map (·.1)=(gR ps k y).map (·.1)/\Reps K M H ((fM kvs k w).map (·.2)) ((gR ps k y).map (·.2)):=by
 unfold fM gR
 rw [as3 k e]
 split
 ·exact C5 k q e r
 ·rw [aZ1,aZ1,aZ1,aZ1,e]
  exact⟨rfl,r.append (.cons q .nil)⟩
end
noncomputable def kP:aH->PV
 | .inl i=>.int i
 | .inr x=>.str x
theorem C6 {K:PySem.W.Frag}{M:Addr->Prop}{H:Hp}{v:V}{k:aH} (r:aA K M H v (kP k)):v=kV k:=by
 cases k with
 | inl i=>cases r; rfl
 | inr x=>cases r; rfl
theorem qA {K:PySem.W.Frag}{M:Addr->Prop}{H:Hp}:∀ {ks:List aH}{us:List V},Reps K M H us (ks.map kP)->us=ks.map kV
 | [],_,.nil=>rfl
 | k :: r,_,.cons q t=>by rw [C6 q,qA t]; rfl
noncomputable def C7:PV->PV
 | .fK ps=>.dK ps
 | .fT ps=>.dT ps
 | x=>x
noncomputable def uJ (x y:PV) (o:Option PV):Prop:=(∃ ps k,C7 x = .dK ps/\y=kP k/\o=cC ps k) ∨ (∃ ps k,C7 x = .dT ps/\y = .tup (k.map kP)/\o=cC ps k)
theorem qB {K:PySem.W.Frag}{M M2:Addr->Prop}{H:Hp}{v w:V}{x y:PV}{o:Option PV} (h:uJ x y o) (rx:aA K M H v x) (ry:aA K M2 H w y):∃ a o',v = .ref a/\eJ H a w o'/\(o=none->o'=none)/\∀ z,o=some z->∃ u,o'=some u/\aA K M H u z:=by
 rcases h with ⟨ps,k,ex,rfl,rfl⟩ | ⟨ps,k,ex,rfl,rfl⟩
 ·obtain rfl:=C6 ry
  cases rx with
  | dK m h e r=>cases ex; exact⟨_,_,rfl,eJ.k h,(j6 k e r).1,(j6 k e r).2⟩
  | fK h e r=>cases ex; exact⟨_,_,rfl,.inl ⟨_,k,.inr ⟨_,h⟩,rfl,rfl⟩,(j6 k e r).1,(j6 k e r).2⟩
  | _=>cases ex
 ·obtain ⟨b,us,rfl,hb,rb⟩:=ry.sqT
  obtain rfl:=qA rb
  cases rx with
  | dT m h e r=>cases ex; exact⟨_,_,rfl,eJ.t h hb,(j6 k e r).1,(j6 k e r).2⟩
  | fT h e r=>cases ex; exact⟨_,_,rfl,.inr ⟨_,k,b,.inr ⟨_,h⟩,rfl,hb,rfl⟩,(j6 k e r).1,(j6 k e r).2⟩
  | _=>cases ex
section
variable {X : Cx} {σ : St} {H : Hp} {D : dM} {tk td te : aE} {Q' : VK}
noncomputable def iI (neg:Bool) (tk td:aE):aE:=fun ρ Q=>tk ρ fun y _=>td ρ fun x _=>∃ o,uJ x y o/\Q (.bl (if neg=true then !o.isSome else o.isSome)) .fr
theorem C8 {α β:Type}{o:Option α}{o':Option β}{P:β->α->Prop} (h1:o=none->o'=none) (h2:∀ z,o=some z->∃ u,o'=some u/\P u z):o'.isSome=o.isSome:=by
 cases o with
 | none=>rw [h1 rfl]; rfl
 | some z=>obtain ⟨u,e,_⟩:=h2 z rfl; rw [e]; rfl
theorem as5 (h:LE X (iI false tk td) σ H Q'):zO (LE X tk) (LE X td) σ H Q':=by
 obtain ⟨W,ρ,Q,px,q,k⟩:=h
 refine⟨W,ρ,_,px,q,fun w H1 y g s r q=>⟨W,ρ,_,px.mono s,q,?_⟩⟩
 rintro v H2 x g' s2 r2 ⟨o,ak,q⟩
 obtain ⟨a,o',rfl,dg,h1,h2⟩:=qB ak r2 (r.same s2 fun _ z=>z)
 refine⟨a,o',rfl,dg,?_⟩
 rw [C8 h1 h2]
 exact k _ _ _ .fr (s.trans s2) (.bl _) q
theorem C9 (h:LE X (iI true tk td) σ H Q'):zP (LE X tk) (LE X td) σ H Q':=by
 obtain ⟨W,ρ,Q,px,q,k⟩:=h
 refine⟨W,ρ,_,px,q,fun w H1 y g s r q=>⟨W,ρ,_,px.mono s,q,?_⟩⟩
 rintro v H2 x g' s2 r2 ⟨o,ak,q⟩
 obtain ⟨a,o',rfl,dg,h1,h2⟩:=qB ak r2 (r.same s2 fun _ z=>z)
 refine⟨a,o',rfl,dg,?_⟩
 rw [C8 h1 h2]
 exact k _ _ _ .fr (s.trans s2) (.bl _) q
noncomputable def uK (td tk:aE):aE:=fun ρ Q=>td ρ fun x g=>tk ρ fun y _=>∃ z,uJ x y (some z)/\Q z g
theorem as6 (h:LE X (uK td tk) σ H Q'):zN (LE X td) (LE X tk) σ H Q':=by
 obtain ⟨W,ρ,Q,px,q,k⟩:=h
 refine⟨W,ρ,_,px,q,fun v H1 x g s r q=>⟨W,ρ,_,px.mono s,q,?_⟩⟩
 rintro w H2 y g' s2 r2 ⟨z,ak,q⟩
 obtain ⟨a,o',rfl,dg,h1,h2⟩:=qB ak (r.same s2 fun _ z=>z) r2
 obtain ⟨u,rfl,ru⟩:=h2 z rfl
 exact⟨a,u,rfl,dg,k _ _ _ g (s.trans s2) ru q⟩
theorem PX.updT {K:PySem.W.Frag}{H0:Hp}{W:Addr->Prop}{σ:St}{ρ:b6}{H:Hp}{i:Nat}{a:Addr}{x:PV}{kvs:List (List aH × V)}{ps:List (List aH × PV)} (p:PX K H0 W σ ρ H) (hi:ρ[i]? = some (some (.own x))) (ha:σ[i]? = some (some (.ref a))) (wa:W a)
  (r:kvs.map (·.1)=ps.map (·.1)/\Reps K (Ms H0 W true) (upd H a (.dT kvs)) (kvs.map (·.2)) (ps.map (·.2))):PX K H0 W σ (ρ.set i (some (.own (.dT ps)))) (upd H a (.dT kvs)):=p.updOwn hi ha wa rfl (y:=.dT ps) ⟨kvs,b9,r⟩
theorem nM {κ α β:Type}{l:List (κ × α)}{m:List (κ × β)} (e:l.map (·.1)=m.map (·.1)):l.length=m.length:=by
 have:=congrArg List.length e
 rw [aW5,aW5] at this
 exact this
noncomputable def jQ (i:Nat) (tk te:aE):aO:=fun D ρ=>te ρ fun z g=>∃ ps,ρ[i]? = some (some (.own (.dT ps)))/\tk ρ fun y _=>∃ k,y = .tup (k.map kP)/\Nw g z/\ps.length < 16000000/\D.nx (ρ.set i (some (.own (.dT (gR ps k z)))))
theorem as7 {i:Nat} (h:LS X (jQ i tk te) D σ H):zQ (fH i) (LE X tk) (LE X te) D σ H:=by
 obtain ⟨W,ρ,D',px,q,k⟩:=h
 refine⟨W,ρ,_,px,q,?_⟩
 rintro w H1 z g s rz ⟨ps,hi,q⟩
 obtain ⟨v,ev,a,rfl,wa,kvs,ea,e1,r⟩:=(px.mono s).sl i _ hi
 refine⟨_,ev,W,ρ,_,px.mono s,q,?_⟩
 rintro kv H2 y g' s2 ry ⟨kk,rfl,nw,hl,q⟩
 obtain ⟨b,us,rfl,hb,rb⟩:=ry.sqT
 obtain rfl:=qA rb
 have ea2:=s2 _ _ ea
 refine⟨a,_,rfl,nE.t ea2 hb (pM (by rw [nM e1]; omega)),?_⟩
 refine k.nx W σ _ _ ((Ev.same (s.trans s2)).trans (Ev.upd wa)) ((px.mono (s.trans s2)).updT hi ev wa ?_) q
 obtain ⟨h1,h2⟩:=as4 kk ((Nw.rep px nw rz).same s2 fun _ z=>z) e1 (r.same s2 fun _ z=>z)
 exact⟨h1,h2.keep (.upd ea2 rfl fun b m=>⟨nI wa m,m⟩)⟩
theorem as8 (h:LE X (qC (.dT [])) σ H Q'):zS σ H Q':=by
 obtain ⟨W,ρ,Q,px,q,k⟩:=h
 exact fun p hp=>k _ _ _ .fr (cE hp _) (.dT hp b9 rfl .nil) q
end
noncomputable def eB:Nat->PV->PV->Bool
 | _,.non,.non=>true
 | _,.bl a,.bl b=>a == b
 | _,.int a,.int b=>a == b
 | _,.str a,.str b=>a == b
 | n+1,.tup xs,.tup ys=>(xs.zip ys).all (fun p=>eB n p.1 p.2) && xs.length == ys.length
 | n+1,.lst xs,.lst ys=>(xs.zip ys).all (fun p=>eB n p.1 p.2) && xs.length == ys.length
 | n+1,.kt xs,.kt ys=>(xs.zip ys).all (fun p=>eB n p.1 p.2) && xs.length == ys.length
 | _,_,_=>false
noncomputable def gS:Nat->PV->PV->Bool
 | _,.non,.non=>true
 | _,.bl _,.bl _=>true
 | _,.int _,.int _=>true
 | _,.str _,.str _=>true
 | _,.non,.int _=>true
 | _,.int _,.non=>true
 | n+1,.tup xs,.tup ys=>(xs.zip ys).all (fun p=>gS n p.1 p.2)
 | n+1,.lst xs,.lst ys=>(xs.zip ys).all (fun p=>gS n p.1 p.2)
 | n+1,.kt xs,.kt ys=>(xs.zip ys).all (fun p=>gS n p.1 p.2)
 | _+1,.non,.tup _=>true
 | _+1,.tup _,.non=>true
 | _,_,_=>false
theorem as9 (n:Nat) (a b:Int):eB n (.int a) (.int b)=(a == b):=by cases n <;> rfl
theorem E1 (n:Nat):∀ (a b:List Int),((((intz a).zip (intz b)).all fun p=>eB n p.1 p.2) && (intz a).length == (intz b).length)=decide (a=b)
 | [],[]=>rfl
 | [],_ :: _=>by simp
 | _ :: _,[]=>by simp
 | x :: a,y :: b=>by
  have ih:=E1 n a b
  simp only [aY8,bh0,List.all_cons,ba0,as9] at ih ⊢
  by_cases e:x=y
  ·subst e
   have:((intz a).length+1 == (intz b).length+1)=((intz a).length == (intz b).length):=by simp
   rw [this,bg1,Bool.true_and,ih]
   simp
  ·have:(x == y)=false:=beq_eq_false_iff_ne.mpr e
   rw [this,Bool.false_and,Bool.false_and]
   simp [e]
theorem at0 (n:Nat) (a b:List Int):eB (n+1) (.tup (intz a)) (.tup (intz b))=decide (a=b):=E1 n a b
theorem E2 (n:Nat):∀ (a b:List Int),(((intz a).zip (intz b)).all fun p=>gS n p.1 p.2)=true
 | [],_=>by simp
 | _ :: _,[]=>by simp
 | x :: a,y :: b=>by
  simp only [aY8,bh0,List.all_cons,E2 n a b,Bool.and_true]
  cases n <;> rfl
theorem at2 (n:Nat) (a b:List Int):gS (n+1) (.tup (intz a)) (.tup (intz b))=true:=E2 n a b
noncomputable def E3:PV->Option String
 | .non=>some "NoneType"
 | .bl _=>some "bool"
 | .int _=>some "int"
 | .str _=>some "str"
 | .tup _=>some "tuple"
 | .kt _=>some "tuple"
 | .lst _=>some "list"
 | _=>none
noncomputable def kQ (K:PySem.W.Frag) (n:String) (te:aE):aE:=fun ρ Q=>te ρ fun x _=>∃ T b,E3 x=some T/\PySem.W.kitOne K (.type T) (.type n)=some b/\Q (.bl b) .fr
noncomputable abbrev lW:=b6->(Option Int->Prop)->Prop
noncomputable def i6 (xs:List PV) (lo hi:Option Int):List PV:=(xs.drop (HT.aV xs.length 0 lo)).take (HT.aV xs.length xs.length hi - HT.aV xs.length 0 lo)
noncomputable def at3:PV->List PV->PV
 | .tup _,ys=>.tup ys
 | .kt _,ys=>.tup ys
 | _,ys=>.lst ys
noncomputable def qD:lW:=fun _ Q=>Q none
noncomputable def qE (te:aE):lW:=fun ρ Q=>te ρ fun x _=>∃ i,x = .int i/\Q (some i)
noncomputable def qF (te:aE) (tl th:lW):aE:=fun ρ Q=>te ρ fun x _=>tl ρ fun lo=>th ρ fun hi=>∃ xs,pV x=some xs/\flats xs=true/\Q (at3 x (i6 xs lo hi)) .fr
noncomputable def fU (N:List Str) (xs:List PV):b6:=xs.map (fun x=>some (.sh (flat x) x)) ++ List.replicate (N.length - xs.length) none
noncomputable abbrev cM (ta tb:aE):aE:=q2 (eN fun i j=>.int (i+j)) ta tb
noncomputable abbrev eC (ta tb:aE):aE:=q2 (eN fun i j=>.int (i - j)) ta tb
noncomputable abbrev jR (ta tb:aE):aE:=q2 (RI nC fun i j=>.int (i * j)) ta tb
noncomputable abbrev gG (ta tb:aE):aE:=q2 (RI sZ fun i j=>.int (i / j)) ta tb
noncomputable abbrev cY (ta tb:aE):aE:=q2 (RI (fun _ j=>0 < j) fun i j=>.int (i % j)) ta tb
noncomputable abbrev iJ (ta tb:aE):aE:=q2 (eN fun i j=>.bl (decide (i < j))) ta tb
noncomputable abbrev qLe (ta tb:aE):aE:=q2 (eN fun i j=>.bl (decide (i<=j))) ta tb
noncomputable abbrev kR (ta tb:aE):aE:=q2 (eN fun i j=>.bl (decide (j < i))) ta tb
noncomputable abbrev E4 (ta tb:aE):aE:=q2 (eN fun i j=>.bl (decide (j<=i))) ta tb
noncomputable abbrev nN (ta tb:aE):aE:=q2 (kK false) ta tb
noncomputable abbrev uL (ta tb:aE):aE:=q2 (kK true) ta tb
noncomputable abbrev E5 (ta tb:aE):aE:=q2 (uH true) ta tb
noncomputable abbrev bC (ta tb:aE):aE:=q2 uF ta tb
noncomputable def qG:List PV->(PV->Prop)->Prop:=fun xs Q=>C0 xs Q/\∀ ns,xs ≠ [.scr ns]
noncomputable def QE (X:Cx) (e:Expr) (t:aE):Prop:=PE X e (LE X t)
noncomputable def QT (X:Cx) (e:Expr) (t:bY):Prop:=PT X e (LT X t)
noncomputable def QW (X:Cx) (e:Expr) (t:bY):Prop:=PW X e (LT X t)
noncomputable def QA (X:Cx) (es:List Expr) (t:cK):Prop:=PA X es (LA X t)
noncomputable def QS (X:Cx) (st:Stmt) (t:aO):Prop:=PS X st (LS X t)
noncomputable def dW (X:Cx) (st:List Stmt) (t:aO):Prop:=dN X st (LS X t)
noncomputable def QI (X:Cx) (tg iter:Expr) (t:eQ):Prop:=PI X tg iter (LI X t)
section
variable {X : Cx}
theorem c7 {e:Expr}{t t':TE} (h:PE X e t) (m:∀ σ H Q,t' σ H Q->t σ H Q):PE X e t':=fun pins s σ H Q I q=>h pins s σ H Q I (m σ H Q q)
theorem kS {e:Expr}{t t':TT} (h:PT X e t) (m:∀ σ H Q,t' σ H Q->t σ H Q):PT X e t':=fun pins s σ H Q I q=>h pins s σ H Q I (m σ H Q q)
theorem E6 {e:Expr}{t t':TT} (h:PW X e t) (m:∀ σ H Q,t' σ H Q->t σ H Q):PW X e t':=fun wh pins s σ H Q I q=>h wh pins s σ H Q I (m σ H Q q)
theorem E7 {e:List Expr}{t t':TA} (h:PA X e t) (m:∀ σ H Q,t' σ H Q->t σ H Q):PA X e t':=fun pos pins s σ H Q I q=>h pos pins s σ H Q I (m σ H Q q)
theorem eU {e:Stmt}{t t':TS} (h:PS X e t) (m:∀ D σ H,t' D σ H->t D σ H):PS X e t':=fun pins s σ H D I q=>h pins s σ H D I (m D σ H q)
theorem E8 {e:List Stmt}{t t':TS} (h:dN X e t) (m:∀ D σ H,t' D σ H->t D σ H):dN X e t':=fun pins s σ H D I q=>h pins s σ H D I (m D σ H q)
theorem qH {tg e:Expr}{t t':TI} (h:PI X tg e t) (m:∀ σ H R,t' σ H R->t σ H R):PI X tg e t':=fun pins s σ H R I q=>h pins s σ H R I (m σ H R q)
variable {a b c e o : Expr} {es cD : List Expr} {ta tb te to tk : aE} {tr : cK} {tA tB' tc : bY} {pos p2 px : Pos} {st : Stmt} {sts : List Stmt} {t u : aO}
theorem qv (i:Nat) {x:Str}{pos:Pos} (hN:X.N[i]? = some x:=by rfl) (hv:iE X.env.scope x:=by first | exact Or.inl rfl | exact Or.inr (Or.inl rfl) | exact Or.inr (Or.inr rfl)) (hd:(x == ("__debug__" : Str))=false:=by decide)
  (hcd:(x == ("__classdict__" : Str))=false:=by decide):QE X (.Name x pos) (a5 i):=c7 (k8 hN hv hd hcd) fun _ _ _=>ao7
theorem aB {i j}:QE X (.Constant (.int i) j pos) (qC (.int i)):=c7 ab8 fun _ _ _=>nH fun _=>.int i
theorem iK {i j}:QE X (.Constant (.bool i) j pos) (qC (.bl i)):=c7 ab9 fun _ _ _=>nH fun _=>.bl i
theorem uM {j}:QE X (.Constant .none j pos) (qC .non):=c7 ac0 fun _ _ _=>nH fun _=>.non
theorem qI {i j}:QE X (.Constant (.str i) j pos) (qC (.str i)):=c7 ac1 fun _ _ _=>nH fun _=>.str i
theorem nO {op:Operator}{R:PV->Tg->PV->Tg->PK->Prop}{r:R2} (ho:cB X (binaryOp op) r) (cv:fR X R r) (ha:QE X a ta) (hb:QE X b tb):QE X (.BinOp a op b pos) (q2 R ta tb):=c7 (ae7 ho ha hb) fun _ _ _=>pS cv
theorem cN (ha:QE X a ta) (hb:QE X b tb):QE X (.BinOp a .Add b pos) (q2 (eN fun i j=>.int (i+j)) ta tb):=nO ae8 B1 ha hb
theorem eV (ha:QE X a ta) (hb:QE X b tb):QE X (.BinOp a .Sub b pos) (q2 (eN fun i j=>.int (i - j)) ta tb):=nO ae9 B1 ha hb
theorem jS (ha:QE X a ta) (hb:QE X b tb):QE X (.BinOp a .Mult b pos) (q2 (RI nC fun i j=>.int (i * j)) ta tb):=nO af0 u8 ha hb
theorem gU (ha:QE X a ta) (hb:QE X b tb):QE X (.BinOp a .FloorDiv b pos) (q2 (RI sZ fun i j=>.int (i / j)) ta tb):=nO af1 u8 ha hb
theorem dB (ha:QE X a ta) (hb:QE X b tb):QE X (.BinOp a .Mod b pos) (q2 (RI (fun _ j=>0 < j) fun i j=>.int (i % j)) ta tb):=nO af2 u8 ha hb
theorem lX {op:CmpOp}{R:PV->Tg->PV->Tg->PK->Prop}{r:R2} (ho:cB X (compareOp op) r) (cv:fR X R r) (ha:QE X a ta) (hb:QE X b tb) (hm:behindInMarks op b=false):QE X (.Compare a [op] [b] pos) (q2 R ta tb):=c7 (af7 ho ha hb hm) fun _ _ _=>pS cv
theorem lY {op:CmpOp}{R:PV->Tg->PV->Tg->PK->Prop}{r:R2} (ho:cB X (compareOp op) r) (cv:fR X R r) (ha:QE X a ta) (hb:QE X b tb) (hm:behindInMarks op b=false):QT X (.Compare a [op] [b] pos) (aX (q2 R ta tb)):=kS (af8 ho ha hb hm) fun _ _ _ h=>pS cv (lP h)
theorem E9 (ha:QE X a ta) (hb:QE X b tb):QE X (.Compare a [.Lt] [b] pos) (q2 (eN fun i j=>.bl (decide (i < j))) ta tb):=lX p6 lO ha hb (hB _)
theorem at4 (ha:QE X a ta) (hb:QE X b tb):QE X (.Compare a [.LtE] [b] pos) (q2 (eN fun i j=>.bl (decide (i<=j))) ta tb):=lX p9 lO ha hb (hB _)
theorem F0 (ha:QE X a ta) (hb:QE X b tb):QE X (.Compare a [.GtE] [b] pos) (q2 (eN fun i j=>.bl (decide (j<=i))) ta tb):=lX af5 lO ha hb (hB _)
theorem at5 (ha:QE X a ta) (hb:QE X b tb):QE X (.Compare a [.Eq] [b] pos) (q2 (kK false) ta tb):=lX yD B4 ha hb (hB _)
theorem kT (ha:QE X a ta) (hb:QE X b tb):QT X (.Compare a [.Lt] [b] pos) (aX (q2 (eN fun i j=>.bl (decide (i < j))) ta tb)):=lY p6 lO ha hb (hB _)
theorem lZ (ha:QE X a ta) (hb:QE X b tb):QT X (.Compare a [.Gt] [b] pos) (aX (q2 (eN fun i j=>.bl (decide (j < i))) ta tb)):=lY af4 lO ha hb (hB _)
theorem qJ (ha:QE X a ta) (hb:QE X b tb):QT X (.Compare a [.Eq] [b] pos) (aX (q2 (kK false) ta tb)):=lY yD B4 ha hb (hB _)
theorem uN (ha:QE X a ta) (hb:QE X b tb):QT X (.Compare a [.NotEq] [b] pos) (aX (q2 (kK true) ta tb)):=lY af3 ao8 ha hb (hB _)
theorem F1 (ha:QE X a ta) (hb:QE X b tb):QT X (.Compare a [.IsNot] [b] pos) (aX (q2 (uH true) ta tb)):=lY af6 ar6 ha hb (hB _)
theorem at6 (hu:X.A.units+1 < cLine) (hk:QE X a tk) (hd:QE X b te) (hm:behindInMarks .In b=false:=by rfl):QT X (.Compare a [.In] [b] pos) (aX (iI false tk te)):=kS (xI (ak8 hu hk hd) hm) fun _ _ _ h=>as5 (lP h)
theorem uO (hu:X.A.units+1 < cLine) (hk:QE X a tk) (hd:QE X b te) (hm:behindInMarks .NotIn b=false:=by rfl):QT X (.Compare a [.NotIn] [b] pos) (aX (iI true tk te)):=kS (xI (zR hu hk hd) hm) fun _ _ _ h=>C9 (lP h)
theorem at7 (hu:X.A.units+1 < cLine) (hk:QE X a tk) (hd:QE X b te) (hm:behindInMarks .NotIn b=false:=by rfl):QE X (.Compare a [.NotIn] [b] pos) (iI true tk te):=c7 (ac4 (zR hu hk hd) hm) fun _ _ _ h=>C9 h
theorem kU (h:QE X e te) (he:∀ whole,isTrue e X.env whole=(do let v <- whole; standAt e.pos; holding [v] (truthy v)):=by intro _; rfl):QT X e (aX te):=kS (ac5 h he) fun _ _ _ h=>lP h
theorem qK (ha:QT X a tA):QW X (.BoolOp .And [a] pos) tA:=ac6 ha
theorem m5 (ha:QT X a tA):QW X (.BoolOp .Or [a] pos) tA:=ac7 ha
theorem nP (ha:QT X a tA) (hb:QW X (.BoolOp .And (b :: cD) pos) tB'):QW X (.BoolOp .And (a :: b :: cD) pos) (jK tA tB'):=E6 (ac8 ha hb) fun _ _ _=>ao9
theorem m6 (ha:QT X a tA) (hb:QW X (.BoolOp .Or (b :: cD) pos) tB'):QW X (.BoolOp .Or (a :: b :: cD) pos) (jL tA tB'):=E6 (ac9 ha hb) fun _ _ _=>ap0
theorem iL (h:QW X e tA):QT X e tA:=PW.pt h
theorem nQ (ha:QT X a tA):QT X (.UnaryOp .Not a pos) (kL tA):=kS (ad0 ha) fun _ _ _=>ap1
theorem uP {op} (h:QE X a ta):QE X (.BoolOp op [a] pos) ta:=ad1 h
theorem nR (ha:QE X a ta) (hb:QE X (.BoolOp .And (b :: cD) pos) tb):QE X (.BoolOp .And (a :: b :: cD) pos) (kN ta tb):=c7 (ad2 ha hb) fun _ _ _=>ap2
theorem at8 (ha:QE X a ta):QE X (.UnaryOp .Not a pos) (u9 ta):=c7 (ad3 ha) fun _ _ _=>ap3
theorem aG:QA X [] aC:=E7 kC fun _ _ _=>ap4
theorem a8 (ha:QE X e te) (hr:QA X es tr) (hs:starEach (e :: es) X.env=(false,eval e X.env) :: starEach es X.env:=by rfl):QA X (e :: es) (a7 te tr):=E7 (iU ha hr hs) fun _ _ _=>ap5
theorem dO {x1} (h:QA X es tr):QE X (.Tuple es x1 pos) (cS tr):=c7 (ag5 h) fun _ _ _=>ap6
theorem jT (h:QA X es tr):QE X (.List es pos) (iG tr):=c7 (ag6 h) fun _ _ _=>ap7
theorem bD (ha:QE X a ta) (hb:QE X b tb) (hs:z9 b:=by exact fun _ _=>rfl):QE X (.Subscript a b pos) (q2 uF ta tb):=c7 (ai6 aj0 ha hb hs) fun _ _ _=>pS aq8
theorem at9 (hu:X.A.units+1 < cLine) (ha:QE X a ta) (hb:QE X b tb) (hs:tI b:=by exact fun _ _=>rfl):QE X (.Subscript a b pos) (uK ta tb):=c7 (ak7 hu ha hb hs) fun _ _ _=>as6
theorem qL:QE X (.Dict [] [] pos) (qC (.dT [])):=c7 al1 fun _ _ _=>as8
theorem iM {x:Str}{id:String}{R:List PV->(PV->Prop)->Prop}{r:List V->Hp->VK->Prop} (hc:cJ X (.builtin id) r) (cv:eO X R r) (hg:Gl X x) (hm:X.mg x=none) (hv:bootBuiltins x=some (.builtin id)) (ha:QA X (e :: es) tr) (hn:x ≠ "__name__":=by decide) (hdb:(x == ("__debug__" : Str))=false:=by decide)
  (he:starEach (e :: es) X.env=(false,eval e X.env) :: starEach es X.env:=by rfl) (hpl:(backTo pos (starEach es X.env)).any (·.1)=false:=by rfl):QE X (.Call (.Name x p2) (e :: es) [] pos) (aI R tr):=c7 (yP hc hg hm hv ha hn hdb he hpl) fun _ _ _=>B5 cv
theorem uQ {x:Str}{T:String}{R:List PV->(PV->Prop)->Prop}{r:List V->Hp->VK->Prop} (hc:cJ X (.type T) r) (cv:eO X R r) (hg:Gl X x) (hm:X.mg x=none) (hv:bootBuiltins x=some (.type T)) (ha:QA X (e :: es) tr) (hn:x ≠ "__name__":=by decide) (hdb:(x == ("__debug__" : Str))=false:=by decide)
  (he:starEach (e :: es) X.env=(false,eval e X.env) :: starEach es X.env:=by rfl) (hpl:(backTo pos (starEach es X.env)).any (·.1)=false:=by rfl):QE X (.Call (.Name x p2) (e :: es) [] pos) (aI R tr):=c7 (ag9 hc hg hm hv ha hn hdb he hpl) fun _ _ _=>B5 cv
theorem dI:dW X [] cL:=E8 ad5 fun _ _ _=>ap8
theorem aM (h1:QS X st t) (h2:dW X sts u):dW X (st :: sts) (aJ t u):=E8 (ad6 h1 h2) fun _ _ _=>ap9
theorem aT (h1:QS X st t):dW X [st] t:=ad7 h1
theorem bB {i:Nat}{x:Str} (hN:X.N.Nodup) (he:QE X e te) (hi:X.N[i]? = some x:=by rfl) (hx:fG X.env.scope x:=by first | exact Or.inl rfl | exact Or.inr rfl) (hs:swapsWith e (some (.Name x p2)) pos.line X.env=pure false:=by rfl) (hf:X.fn x=true ∨ X.env.scope.names.lookup x=some .local:=by first | exact .inl rfl | exact .inr rfl) :
  QS X (.Assign [.Name x p2] e pos) (b7 i te):=eU (xS hN hi hx he hs hf) fun _ _ _=>B7
theorem j7 {i:Nat}{x:Str} (hN:X.N.Nodup) (he:QE X e te) (hi:X.N[i]? = some x:=by rfl) (hx:fG X.env.scope x:=by first | exact Or.inl rfl | exact Or.inr rfl) (hs:swapsWith e (some (.Name x p2)) pos.line X.env=pure false:=by rfl) (hf:X.fn x=true ∨ X.env.scope.names.lookup x=some .local:=by first | exact .inl rfl | exact .inr rfl) :
  QS X (.Assign [.Name x p2] e pos) (hZ i te):=eU (xS hN hi hx he hs hf) fun _ _ _=>aq1
theorem au0 (he:QE X e te) (hs:swapsWith e none pos.line X.env=pure false:=by rfl):QS X (.Expr e pos) (uE te):=eU (oU he hs) fun _ _ _=>aq2
theorem c8 (he:QE X e te):QS X (.Return (some e) pos) (bV te):=eU (xQ he) fun _ _ _=>aq3
theorem m7 (i:Nat) {x:Str} (hN:X.N[i]? = some x:=by rfl) (hv:iE X.env.scope x:=by first | exact Or.inl rfl | exact Or.inr (Or.inl rfl) | exact Or.inr (Or.inr rfl)) (hd:(x == ("__debug__" : Str))=false:=by decide) (hcd:(x == ("__classdict__" : Str))=false:=by decide) :
  QS X (.Return (some (.Name x p2)) pos) (jM i):=eU (xQ (k8 hN hv hd hcd)) fun _ _ _=>aq4
theorem dC {sa sb:List Stmt} (hc:QT X c tc) (ha:dW X sa t) (hb:dW X sb u):QS X (.If c sa sb pos) (cF tc t u):=eU (ad8 hc ha hb) fun _ _ _=>aq5
theorem F2 {body:List Stmt} (hp:PassesOwn (model X.prog X.w) X.A X.env X.xe) (hc:QT X c tc) (hb:dW X body t):QS X (.While c body [] pos) (pU tc t):=eU (ae0 hp hc hb) fun _ _ _=>aq6
theorem qM (i:Nat) {x:Str}{apos cpos xpos:Pos} (he:QE X e te) (hN:X.N[i]? = some x:=by rfl) (hv:iE X.env.scope x:=by first | exact Or.inl rfl | exact Or.inr (Or.inl rfl) | exact Or.inr (Or.inr rfl)) (hd:(x == ("__debug__" : Str))=false:=by decide) (hcd:(x == ("__classdict__" : Str))=false:=by decide)
  (hbase:attributeBase (.Name x xpos) "append" X.env (eval (.Name x xpos) X.env)=eval (.Name x xpos) X.env:=by rfl)
  (hfew:((backTo cpos (starEach [e] X.env)).all (fun x=>!x.1) && (backToKw cpos (keywordEach [] X.env)).all (fun x=>x.1.isSome) && decide (([e]:List Expr).length+([]:List Keyword).length+(if ([]:List Keyword).isEmpty then 0 else 1) < 30))=true:=by rfl)
  (hline:(apos.endLine == cpos.line)=true:=by rfl) (hs:starEach [e] X.env=(false,eval e X.env) :: starEach [] X.env:=by rfl) (hplain:(backTo cpos (starEach [] X.env)).any (·.1)=false:=by rfl)
  (hsw:swapsWith (.Call (.Attribute (.Name x xpos) "append" apos) [e] [] cpos) none pos.line X.env=pure false:=by rfl) :
  QS X (.Expr (.Call (.Attribute (.Name x xpos) "append" apos) [e] [] cpos) pos) (kO i te):=
 eU (oU (zE PySem.F.plainAttrs_list PySem.F.slot_list_append PySem.F.type_list_append zH (k8 hN hv hd hcd) (iU he kC hs) hbase hfew hline hs hplain) hsw) fun _ _ _=>aq7
theorem m8 {i:Nat}{x:Str}{xpos tpos:Pos} (hu:X.A.units+1 < cLine) (hk:QE X a tk) (he:QE X e te) (hN:X.N[i]? = some x:=by rfl) (hv:iE X.env.scope x:=by first | exact Or.inl rfl | exact Or.inr (Or.inl rfl) | exact Or.inr (Or.inr rfl)) (hd:(x == ("__debug__" : Str))=false:=by decide) (hcd:(x == ("__classdict__" : Str))=false:=by decide)
  (hs:swapsWith e (some (.Subscript (.Name x xpos) a tpos)) pos.line X.env=pure false:=by rfl):QS X (.Assign [.Subscript (.Name x xpos) a tpos] e pos) (jQ i tk te):=eU (ak9 hu (k8 hN hv hd hcd) hk he hs) fun _ _ _=>as7
theorem au1 {tg l:Expr}{tl:TE} (hl:PE X l tl):PI X tg l (C1 X.K tl):=by
 intro pins s σ H R I h
 refine aK (hl pins s σ H _ I h) fun v s1 ⟨x,H1,I1,r1,q1⟩=>?_
 obtain ⟨a,e,q⟩:=q1
 subst e
 cases r1
 rcases q with ⟨xs,hq,q⟩ | ⟨xs,hq,q⟩
 ·obtain ⟨its,rv,p,hz⟩:=I1.list hq
  refine wpAny_pyIter_list p.isList ?_
  refine⟨s1.heap.objs.size,[s1.heap.objs.size],_,_,H1,rfl,I1.kept (t':=s1.toks) fun b o e=>aW4 _ e,ae1 a _,⟨_,aY0 _ rfl,rfl,rfl⟩,fun b hb=>?_,q⟩
  have e:b=s1.heap.objs.size:=by simpa using hb
  subst e
  exact I1.fpOk (aX5 _) (I1.hok.fresh (aX5 _))
 ·obtain ⟨its,rv,p,hz⟩:=I1.tuple hq
  refine bh1 (show s1.heap.IsTuple a its.toArray from p) ?_
  refine⟨s1.heap.objs.size,[s1.heap.objs.size],_,_,H1,rfl,I1.kept (t':=s1.toks) fun b o e=>aW4 _ e,ae2 a _,⟨_,aY0 _ rfl,rfl,rfl⟩,fun b hb=>?_,q⟩
  have e:b=s1.heap.objs.size:=by simpa using hb
  subst e
  exact I1.fpOk (aX5 _) (I1.hok.fresh (aX5 _))
theorem eW {tg l:Expr} (hl:QE X l te):QI X tg l (dS te):=qH (au1 hl) fun _ _ _=>ar7
theorem F3 {tg:Expr} (hg:Gl X "range") (hm:X.mg "range" = none) (ha:QE X a ta) (hs:starEach [a] X.env = [(false,eval a X.env)]:=by rfl):QI X tg (.Call (.Name "range" p2) [a] [] pos) (pX ta):=qH (ae5 hg hm (iU ha kC hs) hs) fun _ _ _=>ar9
theorem uR {tg:Expr}{body:List Stmt}{ti:eQ}{p:eR}{g:TG}{own:Nat->Prop} (hp:PassesOwn (model X.prog X.w) X.A X.env X.xe) (hc:X.calm=true) (hi:QI X tg e ti) (hg:PG X tg g) (ht:iH X.K own p g) (hb:dW X body t)
  (hs:∀ x,foldedSetIterable e X.env x=pure x:=by intro _; rfl):QS X (.For tg e body [] pos) (dU ti p t):=eU (xW hp hc hi hg hb hs) fun _ _ _=>as0 ht
end
section
variable {X : Cx} {pins : List (Addr × Obj)} {σ : St} {H : Hp} {s : Shared} {K : PySem.W.Frag} {M M' : Addr → Prop}
theorem nG.inj {a:Addr}{us ws:List V} (h:nG K a us) (h':nG K a ws):us=ws:=by
 obtain ⟨o,its,n,e1,_,e2,_,v⟩:=h
 obtain ⟨o',its',n',e1',_,e2',_,v'⟩:=h'
 rw [e1] at e1'; cases e1'
 rw [e2] at e2'; cases e2'
 exact v.inj v'
theorem Reps.self_of {n:Nat} (ih:∀ {v:V}{x y:PV},aA K M H v x->aA K M' H v y->gS n x y=true->eB n x y=true):∀ {vs:List V}{xs ys:List PV},Reps K M H vs xs->Reps K M' H vs ys->((xs.zip ys).all fun p=>gS n p.1 p.2)=true->(((xs.zip ys).all fun p=>eB n p.1 p.2) && xs.length == ys.length)=true
 | _,_,_,.nil,.nil,_=>rfl
 | _,_,_,.cons r t,.cons r' t',o=>by
  simp only [bh0,List.all_cons,bb0] at o
  have h1:=ih r r' o.1
  have h2:=Reps.self_of ih t t' o.2
  simp only [bh0,List.all_cons,h1,Bool.true_and,ba0] at h2 ⊢
  rw [<- h2]
  congr 1
  simp
theorem aA.self:∀ (n:Nat) {v:V}{x y:PV},aA K M H v x->aA K M' H v y->gS n x y=true->eB n x y=true:=by
 intro n
 induction n with
 | zero=>
  intro v x y r r' o
  cases r with
  | non=>cases r'; rfl
  | bl b=>cases r'; exact bg1 b
  | int i=>cases r'; exact bg1 i
  | str z=>cases r'; exact bg1 z
  | _=>cases o
 | succ n ih=>
  intro v x y r r' o
  cases r with
  | non=>cases r'; rfl
  | bl b=>cases r'; exact bg1 b
  | int i=>cases r'; exact bg1 i
  | str z=>cases r'; exact bg1 z
  | tup h rr=>
   cases r' with
   | tup h' rr'=>rw [h] at h'; cases h'; exact Reps.self_of ih rr rr' o
   | _=>cases o
  | lst _ h rr=>
   cases r' with
   | lst _ h' rr'=>rw [h] at h'; cases h'; exact Reps.self_of ih rr rr' o
   | _=>cases o
  | kt h rr=>
   cases r' with
   | kt h' rr'=>cases nG.inj h h'; exact Reps.self_of ih rr rr' o
   | _=>cases o
  | _=>cases o
theorem Reps.self (n:Nat) {vs:List V}{xs ys:List PV} (r:Reps K M H vs xs) (r':Reps K M' H vs ys) (o:((xs.zip ys).all fun p=>gS n p.1 p.2)=true):(((xs.zip ys).all fun p=>eB n p.1 p.2) && xs.length == ys.length)=true:=Reps.self_of (aA.self n) r r' o
theorem uS (n:Nat) (xs ys:List PV):(List.range (min xs.length ys.length)).all (fun j=>eB n (xs.getD j .non) (ys.getD j .non))=(xs.zip ys).all fun p=>eB n p.1 p.2:=by
 rw [bc9]
 simp only [bi5,List.mem_range]
 constructor
 ·intro h p hp
  obtain ⟨j,hj,e⟩:=bh8 hp
  have hj':j < min xs.length ys.length:=by simpa using hj
  have:=h j hj'
  rw [List.getElem_zip] at e
  subst e
  have h1:j < xs.length:=by omega
  have h2:j < ys.length:=by omega
  simpa [ba8,h1,h2] using this
 ·intro h j hj
  have h1:j < xs.length:=by omega
  have h2:j < ys.length:=by omega
  have hz:j < (xs.zip ys).length:=by simp; omega
  have:=h _ (bj4 hz)
  rw [List.getElem_zip] at this
  simpa [ba8,h1,h2] using this
theorem au2 (I:a6 X pins σ H s):∀ (n:Nat) {A:Around}{v w:V}{x y:PV}{a b:Value},A.units+n < cLine->aA X.K M H v x->aA X.K M' H w y->aP v a->aP w b->gS n x y=true->SeqAt.EqAt A s a b (eB n x y):=by
 intro n
 induction n with
 | zero=>
  intro A v w x y a b hu rx ry ra rb o
  cases rx with
  | non=>
   cases ra
   cases ry with
   | non=>cases rb; exact SeqAt.EqAt.same _
   | int i=>obtain ⟨t',rfl⟩:=rb; exact SeqAt.EqAt.none_int _ _
   | _=>cases o
  | bl i=>
   cases ra
   cases ry with
   | bl j=>cases rb; exact SeqAt.EqAt.bool_bool _ _
   | _=>cases o
  | int i=>
   obtain ⟨t,rfl⟩:=ra
   cases ry with
   | int j=>obtain ⟨t',rfl⟩:=rb; exact SeqAt.EqAt.int_int _ _ _ _
   | non=>cases rb; exact SeqAt.EqAt.int_none _ _
   | _=>cases o
  | str i=>
   obtain ⟨t,rfl⟩:=ra
   cases ry with
   | str j=>obtain ⟨t',rfl⟩:=rb; exact SeqAt.EqAt.str_str _ _ _ _
   | _=>cases o
  | _=>cases o
 | succ n ih=>
  intro A v w x y a b hu rx ry ra rb o
  have items:∀ {us ws:List V}{xs ys:List PV}{its its2:List Value},Reps X.K M H us xs->Reps X.K M' H ws ys->aQ us its->aQ ws its2->((xs.zip ys).all fun p=>gS n p.1 p.2)=true->
    ∀ j (h1:j < its.toArray.size) (h2:j < its2.toArray.size),SeqAt.EqAt A.in1 s its.toArray[j] its2.toArray[j] (eB n (xs.getD j .non) (ys.getD j .non)):=fun {us ws xs ys its its2} r1 r2 v1 v2 ok j h1 h2=>by
   have l1:=v1.length
   have l2:=v2.length
   have m1:=r1.length
   have m2:=r2.length
   have k1:j < its.length:=by simpa using h1
   have k2:j < its2.length:=by simpa using h2
   have j1:j < us.length:=by omega
   have j2:j < ws.length:=by omega
   have i1:j < xs.length:=by omega
   have i2:j < ys.length:=by omega
   obtain ⟨u,hu',ru⟩:=v1.get (aY1 j1)
   obtain ⟨u2,hu2',ru2⟩:=v2.get (aY1 j2)
   obtain ⟨x,hx,rx⟩:=r1.get (aY1 j1)
   obtain ⟨y,hy,ry⟩:=r2.get (aY1 j2)
   have e1:its.toArray[j]=u:=by
    rw [aY1 k1] at hu'
    simpa using hu'
   have e2:its2.toArray[j]=u2:=by
    rw [aY1 k2] at hu2'
    simpa using hu2'
   have ok':gS n x y=true:=by
    rw [bi5] at ok
    have hz:j < (xs.zip ys).length:=by simp; omega
    have:=ok _ (bj4 hz)
    rw [List.getElem_zip] at this
    rw [aY1 i1] at hx
    rw [aY1 i2] at hy
    cases hx; cases hy
    exact this
   rw [e1,e2]
   have g1:xs.getD j .non=x:=by rw [ba8,hx]; rfl
   have g2:ys.getD j .non=y:=by rw [ba8,hy]; rfl
   rw [g1,g2]
   exact ih (by show A.units+1+n < cLine; omega) rx ry ru ru2 ok'
  have huA:A.units < cLine:=by omega
  cases rx with
  | @kt p us xs h1 r1=>
   obtain ⟨its,v1,p1,_⟩:=I.tuple (.inr h1)
   cases (show a=Value.ref p from ra)
   cases ry with
   | @kt p2 ws ys h2 r2=>
    obtain ⟨its2,v2,p2',_⟩:=I.tuple (.inr h2)
    cases (show b=Value.ref p2 from rb)
    by_cases e:p=p2
    ·subst e
     have:=aA.self (K:=X.K) (M:=M) (M':=M') (n+1) (.kt h1 r1) (.kt h2 r2) o
     rw [this]
     exact SeqAt.EqAt.same _
    ·have:=SeqAt.RcAt.tuples p1 p2' huA (items r1 r2 v1 v2 o)
     refine .of_refs e ?_
     have l1:=v1.length
     have l2:=v2.length
     have m1:=r1.length
     have m2:=r2.length
     rw [aY2,aY2,<- l1,<- l2,m1,m2,uS] at this
     exact this
   | _=>cases o
  | @tup p us xs h1 r1=>
   obtain ⟨its,v1,p1,_⟩:=I.tuple (aR.of (K:=X.K) h1)
   cases (show a=Value.ref p from ra)
   cases ry with
   | @tup p2 ws ys h2 r2=>
    obtain ⟨its2,v2,p2',_⟩:=I.tuple (aR.of (K:=X.K) h2)
    cases (show b=Value.ref p2 from rb)
    by_cases e:p=p2
    ·subst e
     have:=aA.self (K:=X.K) (M:=M) (M':=M') (n+1) (.tup h1 r1) (.tup h2 r2) o
     rw [this]
     exact SeqAt.EqAt.same _
    ·have:=SeqAt.RcAt.tuples p1 p2' huA (items r1 r2 v1 v2 o)
     refine .of_refs e ?_
     have l1:=v1.length
     have l2:=v2.length
     have m1:=r1.length
     have m2:=r2.length
     rw [aY2,aY2,<- l1,<- l2,m1,m2,uS] at this
     exact this
   | non=>cases rb; exact SeqAt.EqAt.tuple_none p1 huA
   | _=>cases o
  | @lst p us xs _ h1 r1=>
   obtain ⟨its,v1,p1,_⟩:=I.list (aU.of (K:=X.K) h1)
   cases (show a=Value.ref p from ra)
   cases ry with
   | @lst p2 ws ys _ h2 r2=>
    obtain ⟨its2,v2,p2',_⟩:=I.list (aU.of (K:=X.K) h2)
    cases (show b=Value.ref p2 from rb)
    have l1:=v1.length
    have l2:=v2.length
    have m1:=r1.length
    have m2:=r2.length
    by_cases e:p=p2
    ·subst e
     rw [h1] at h2; cases h2
     have:=Reps.self n r1 r2 o
     show SeqAt.EqAt A s _ _ ((xs.zip ys).all (fun p=>eB n p.1 p.2) && xs.length == ys.length)
     rw [this]
     exact SeqAt.EqAt.same _
    ·refine .of_refs e ?_
     by_cases hl:xs.length=ys.length
     ·have:=SeqAt.RcAt.lists p1.isList p2'.isList (by rw [aY2,aY2]; omega) huA (items r1 r2 v1 v2 o)
      have hm:min xs.length ys.length=its.length:=by omega
      rw [aY2,<- hm,uS] at this
      show SeqAt.RcAt A s _ _ ((xs.zip ys).all (fun p=>eB n p.1 p.2) && xs.length == ys.length)
      rw [show (xs.length == ys.length)=true by simpa using hl,Bool.and_true]
      exact this
     ·have:=SeqAt.RcAt.lists_lengths (A:=A) p1.isList p2'.isList (by rw [aY2,aY2]; simp; omega) huA
      show SeqAt.RcAt A s _ _ ((xs.zip ys).all (fun p=>eB n p.1 p.2) && xs.length == ys.length)
      rw [show (xs.length == ys.length)=false by simpa using hl,Bool.and_false]
      exact this
   | _=>cases o
  | non=>
   cases ra
   cases ry with
   | non=>cases rb; exact SeqAt.EqAt.same _
   | int i=>obtain ⟨t',rfl⟩:=rb; exact SeqAt.EqAt.none_int _ _
   | @tup p2 ws ys h2 r2=>
    obtain ⟨its2,v2,p2',_⟩:=I.tuple (aR.of (K:=X.K) h2)
    cases (show b=Value.ref p2 from rb)
    exact SeqAt.EqAt.none_tuple p2' huA
   | _=>cases o
  | bl i=>
   cases ra
   cases ry with
   | bl j=>cases rb; exact SeqAt.EqAt.bool_bool _ _
   | _=>cases o
  | int i=>
   obtain ⟨t,rfl⟩:=ra
   cases ry with
   | int j=>obtain ⟨t',rfl⟩:=rb; exact SeqAt.EqAt.int_int _ _ _ _
   | non=>cases rb; exact SeqAt.EqAt.int_none _ _
   | _=>cases o
  | str i=>
   obtain ⟨t,rfl⟩:=ra
   cases ry with
   | str j=>obtain ⟨t',rfl⟩:=rb; exact SeqAt.EqAt.str_str _ _ _ _
   | _=>cases o
  | _=>cases o
end
structure Bt (mg:Str->Option Value):Prop where
 len:mg "len" = none
 range:mg "range" = none
 tuple:mg "tuple" = none
 list:mg "list" = none
 sorted:mg "sorted" = none
 all:mg "all" = none
 any:mg "any" = none
 zip:mg "zip" = none
 min:mg "min" = none
 max:mg "max" = none
 sum:mg "sum" = none
 isinst:mg "isinstance" = none
 int:mg "int" = none
 bool:mg "bool" = none
 enum:mg "enumerate" = none
section
variable {X : Cx} {a b c e o : Expr} {es cD : List Expr} {ta tb te to tk : aE} {tr : cK} {tA tB' tc : bY} {pos p2 px : Pos} {st : Stmt} {sts : List Stmt} {t u : aO}
theorem j8 (B:Bt X.mg) (ha:QA X [e] tr) (hg:Gl X "len":=by rfl) (he:starEach [e] X.env=(false,eval e X.env) :: starEach [] X.env:=by rfl) (hpl:(backTo pos (starEach [] X.env)).any (·.1)=false:=by rfl):QE X (.Call (.Name "len" p2) [e] [] pos) (aI gO tr):=
 iM (aj5.or am1) aq9 hg B.len PySem.boot_len ha (he:=he) (hpl:=hpl)
theorem uT (B:Bt X.mg) (ha:QA X [e] tr) (hg:Gl X "tuple":=by rfl) (he:starEach [e] X.env=(false,eval e X.env) :: starEach [] X.env:=by rfl) (hpl:(backTo pos (starEach [] X.env)).any (·.1)=false:=by rfl):QE X (.Call (.Name "tuple" p2) [e] [] pos) (aI qG tr):=
 uQ aj6 ar0 hg B.tuple PyProof.Rows.boot_tuple ha (he:=he) (hpl:=hpl)
theorem F4 (B:Bt X.mg) (hc:X.calm=true) (ha:QA X [e] tr) (hg:Gl X "all":=by rfl) (he:starEach [e] X.env=(false,eval e X.env) :: starEach [] X.env:=by rfl) (hpl:(backTo pos (starEach [] X.env)).any (·.1)=false:=by rfl):QE X (.Call (.Name "all" p2) [e] [] pos) (aI pW tr):=
 iM (ao1 hc) ar1 hg B.all PyProof.Rows.boot_all ha (he:=he) (hpl:=hpl)
theorem uU (B:Bt X.mg) (hc:X.calm=true) (ha:QA X [a,b] tr) (hg:Gl X "min":=by rfl) (he:starEach [a,b] X.env=(false,eval a X.env) :: starEach [b] X.env:=by rfl) (hpl:(backTo pos (starEach [b] X.env)).any (·.1)=false:=by rfl):QE X (.Call (.Name "min" p2) [a,b] [] pos) (aI nJ tr):=
 iM (ag0 hc) ar2 hg B.min PyProof.Rows.boot_min ha (he:=he) (hpl:=hpl)
theorem qN (B:Bt X.mg) (hc:X.calm=true) (ha:QA X [a,b] tr) (hg:Gl X "max":=by rfl) (he:starEach [a,b] X.env=(false,eval a X.env) :: starEach [b] X.env:=by rfl) (hpl:(backTo pos (starEach [b] X.env)).any (·.1)=false:=by rfl):QE X (.Call (.Name "max" p2) [a,b] [] pos) (aI lS tr):=
 iM (af9 hc) ar3 hg B.max PyProof.Rows.boot_max ha (he:=he) (hpl:=hpl)
noncomputable def F5 (K:PySem.W.Frag) (H:Hp) (x:V) (t:Value):Prop:=fL K H x t ∨ ∃ a us,x = .ref a/\aR K H a us/\t = .type "tuple"
theorem au3:cJ X (.builtin "isinstance") (fun xs H Q=>∃ x t n b,xs = [x,.ty n]/\F5 X.K H x t/\PySem.W.kitOne X.K t (.type n)=some b/\Q (.bl b) H):=by
 intro pins s σ H xs us Q I r h
 obtain ⟨x,t,n,b,rfl,ty,e,q⟩:=h
 rcases ty with ty | ⟨a,ws,rfl,hs,rfl⟩
 ·exact an3 pins s σ H _ us Q I r ⟨x,t,n,b,rfl,ty,e,q⟩
 obtain ⟨u,u',rfl,ru,ru'⟩:=kA r
 cases ru'
 cases (show u=Value.ref a from ru)
 obtain ⟨its,_,⟨o,h1,h2,_⟩,_⟩:=I.tuple hs
 exact be9 PySem.W.kitx_tuple I.kIn ⟨o,h1,h2⟩ e (fun z=>nomatch z) fun tk=>⟨.bl b,H,I.tok tk,rfl,q⟩
theorem au4 {K:PySem.W.Frag}{M:Addr->Prop}{H:Hp}{v:V}{x:PV}{T:String} (r:aA K M H v x) (e:E3 x=some T):F5 K H v (.type T):=by
 cases r with
 | non=>cases e; exact .inl .non
 | bl b=>cases e; exact .inl (.bl b)
 | int i=>cases e; exact .inl (.int i)
 | str i=>cases e; exact .inl (.str i)
 | tup h _=>cases e; exact .inl (.tup h)
 | lst _ h _=>cases e; exact .inl (.lst h)
 | kt h _=>cases e; exact .inr ⟨_,_,rfl,.inr h,rfl⟩
 | _=>cases e
theorem uV {x:Str}{n:String} (B:Bt X.mg) (hn:bootBuiltins x=some (.type n)) (hm:X.mg x=none) (ha:QE X a ta) (hg:Gl X "isinstance":=by rfl) (hgx:Gl X x:=by rfl) (hx:x ≠ "__name__":=by decide) (hdx:(x == ("__debug__" : Str))=false:=by decide)
  (he:starEach [a,.Name x px] X.env=(false,eval a X.env) :: starEach [.Name x px] X.env:=by rfl) (he2:starEach [.Name x px] X.env=(false,eval (.Name x px) X.env) :: starEach [] X.env:=by rfl) (hpl:(backTo pos (starEach [.Name x px] X.env)).any (·.1)=false:=by rfl):QE X (.Call (.Name "isinstance" p2) [a,.Name x px] [] pos) (kQ X.K n ta):=
 c7 (yP au3 hg B.isinst PyProof.Rows.boot_isinstance (iU ha (iU (ac3 (v:=.ty n) hgx hm hn rfl hx hdx) kC he2) he) (he:=he) (hpl:=hpl)) fun σ H Q' h=>by
  obtain ⟨W,ρ,Q,px,q,k⟩:=h
  refine⟨W,ρ,_,px,q,?_⟩
  rintro v H1 x g s r ⟨T,b,e,kt,q⟩
  exact⟨v,_,n,b,rfl,au4 r e,kt,k _ _ _ .fr s (.bl _) q⟩
theorem au5 (B:Bt X.mg) (ha:QE X a ta) (hg:Gl X "isinstance":=by rfl) (hgx:Gl X "int":=by rfl)
  (he:starEach [a,.Name "int" px] X.env=(false,eval a X.env) :: starEach [.Name "int" px] X.env:=by rfl) (he2:starEach [.Name "int" px] X.env=(false,eval (.Name "int" px) X.env) :: starEach [] X.env:=by rfl) (hpl:(backTo pos (starEach [.Name "int" px] X.env)).any (·.1)=false:=by rfl):QE X (.Call (.Name "isinstance" p2) [a,.Name "int" px] [] pos) (kQ X.K "int" ta):=uV B PyProof.Rows.boot_int B.int ha (hg:=hg) (hgx:=hgx) (he:=he) (he2:=he2) (hpl:=hpl)
theorem au6 (B:Bt X.mg) (ha:QE X a ta) (hg:Gl X "isinstance":=by rfl) (hgx:Gl X "bool":=by rfl)
  (he:starEach [a,.Name "bool" px] X.env=(false,eval a X.env) :: starEach [.Name "bool" px] X.env:=by rfl) (he2:starEach [.Name "bool" px] X.env=(false,eval (.Name "bool" px) X.env) :: starEach [] X.env:=by rfl) (hpl:(backTo pos (starEach [.Name "bool" px] X.env)).any (·.1)=false:=by rfl):QE X (.Call (.Name "isinstance" p2) [a,.Name "bool" px] [] pos) (kQ X.K "bool" ta):=uV B PyProof.Rows.boot_bool B.bool ha (hg:=hg) (hgx:=hgx) (he:=he) (he2:=he2) (hpl:=hpl)
theorem au7 (B:Bt X.mg) (ha:QE X a ta) (hg:Gl X "isinstance":=by rfl) (hgx:Gl X "tuple":=by rfl)
  (he:starEach [a,.Name "tuple" px] X.env=(false,eval a X.env) :: starEach [.Name "tuple" px] X.env:=by rfl) (he2:starEach [.Name "tuple" px] X.env=(false,eval (.Name "tuple" px) X.env) :: starEach [] X.env:=by rfl) (hpl:(backTo pos (starEach [.Name "tuple" px] X.env)).any (·.1)=false:=by rfl):QE X (.Call (.Name "isinstance" p2) [a,.Name "tuple" px] [] pos) (kQ X.K "tuple" ta):=uV B PyProof.Rows.boot_tuple B.tuple ha (hg:=hg) (hgx:=hgx) (he:=he) (he2:=he2) (hpl:=hpl)
end
end PP
namespace PP
open PySem L2 PyProof.Rows
noncomputable def LO (X:Cx) (t:lW):TO:=fun σ H Q'=>∃ (W:Addr->Prop) (ρ:b6) (Q:Option Int->Prop),PX X.K X.H₀ W σ ρ H/\t ρ Q/\∀ o H',aD H H'->Q o->Q' o H'
noncomputable def QO (X:Cx) (e:Option Expr) (t:lW):Prop:=PO X e (LO X t)
theorem Reps.cut {K:PySem.W.Frag}{M:Addr->Prop}{H:Hp}{us:List V}{xs:List PV} (r:Reps K M H us xs) (lo hi:Option Int):Reps K M H (hJ us lo hi) (i6 xs lo hi):=by
 unfold hJ i6
 rw [r.length]
 exact (r.drop _).take _
section
variable {X : Cx} {a b c e o : Expr} {es cD : List Expr} {ta tb te to tk : aE} {tr : cK} {tA tB' tc : bY} {pos p2 px : Pos} {st : Stmt} {sts : List Stmt} {t u : aO}
theorem uW:QO X none qD:=fun pins s σ H Q I h=>ai0 pins s σ H Q I (by
 obtain ⟨W,ρ,Q1,px,q,k⟩:=h
 exact k _ _ (aD.refl _) q)
theorem uX (h:QE X e te):QO X (some e) (qE te):=fun pins s σ H Q I hq=>ai1 h pins s σ H Q I (by
 obtain ⟨W,ρ,Q1,px,q,k⟩:=hq
 refine⟨W,ρ,_,px,q,?_⟩
 rintro v H1 x g s r ⟨i,rfl,q⟩
 cases r
 exact⟨i,rfl,k _ _ s q⟩)
theorem uY {lo hi:Option Expr}{tl th:lW}{sp:Pos} (he:QE X e te) (hl:QO X lo tl) (hh:QO X hi th):QE X (.Subscript e (.Slice lo hi none sp) pos) (qF te tl th):=c7 (ai2 (aj4.or ao4) he hl hh) fun σ H Q' h=>by
 obtain ⟨W,ρ,Q,px,q,k⟩:=h
 refine⟨W,ρ,_,px,q,fun v H1 x g s1 r1 q1=>⟨W,ρ,_,px.mono s1,q1,fun lo H2 s2 q2=>⟨W,ρ,_,px.mono (s1.trans s2),q2,?_⟩⟩⟩
 rintro hi H3 s3 ⟨xs,e,f,q3⟩
 have S:=(s1.trans s2).trans s3
 have r3:=r1.same (M':=Mg X.H₀ W H g) (s2.trans s3) fun _ z=>z
 cases r3 with
 | tup h r=>
  cases e
  refine .inr ⟨_,_,rfl,aR.of h,fun p hp=>k _ _ _ .fr (S.trans (cE hp _)) (.tup b9 (((r.flat f).cut lo hi).same (cE hp _) fun _ z=>z)) q3,fun ec=>k _ _ _ .fr S (.tup h ?_) q3⟩
  have:=(r.flat (M':=Mg X.H₀ W H .fr) f).cut lo hi
  rw [ec] at this
  exact this
 | lst m h r=>
  cases e
  exact .inl ⟨_,_,rfl,aU.of h,fun p hp=>k _ _ _ .fr (S.trans (cE hp _)) (.lst (S.free hp) b9 (((r.flat f).cut lo hi).same (cE hp _) fun _ z=>z)) q3⟩
 | scr h=>
  cases e
  exact .inl ⟨_,_,rfl,h.sqL,fun p hp=>k _ _ _ .fr (S.trans (cE hp _)) (.lst (S.free hp) b9 (((Reps.intz _).cut lo hi).same (cE hp _) fun _ z=>z)) q3⟩
 | _=>cases e
structure Df (P:Program) (w:World) (K:PySem.W.Frag) (mg:Str->Option Value) (base:Heap) (k:Nat) (x:Str) (ps:List Str) (p:bW):Prop where
 ex:∃ f fd,dQ P w K mg base fN k f fd ps (nK K p)/\kD K fd ps []/\PySem.W.keepIn K (.ref f)=true/\mg x=some (.ref f)
theorem bR {k j:Nat}{x:Str}{ps:List Str}{p:bW} (d:Df X.prog X.w X.K X.mg X.base k x ps p) (hr:c6 j X.A) (ha:QA X (e :: es) tr) (hkj:k<=j:=by decide) (hg:Gl X x:=by rfl) (hdb:(x == ("__debug__" : Str))=false:=by decide)
  (he:starEach (e :: es) X.env=(false,eval e X.env) :: starEach es X.env:=by rfl) (hpl:(backTo pos (starEach es X.env)).any (·.1)=false:=by rfl):QE X (.Call (.Name x p2) (e :: es) [] pos) (aI p tr):=by
 obtain ⟨f,fd,F,b,kp,m⟩:=d.ex
 exact c7 (t7 F (hr.mono hkj) hg m kp b .nil al8 ha hdb he hpl) fun _ _ _=>ar4
theorem uZ {K:PySem.W.Frag}{H:Hp}{N:List Str}{vs:List V}{xs:List PV} (r:Reps K (fun _=>True) H vs xs):PX K H (fun _=>False) (L2.gL N vs) (fU N xs) H:=by
 have lr:=r.length
 have own:∀ {i:Nat}{m:Slot},(fU N xs)[i]? = some (some m)->∃ x,xs[i]? = some x/\m = .sh (flat x) x:=fun {i m} h=>by
  unfold fU at h
  by_cases hi:i < xs.length
  ·rw [bi1 (by simpa using hi),aX1] at h
   rw [aY1 hi] at h ⊢
   cases h
   exact⟨_,rfl,rfl⟩
  ·rw [bj6 (by simpa using hi),List.getElem?_replicate] at h
   split at h <;> cases h
 refine⟨by unfold L2.gL fU; simp [lr],aD.refl _,fun a z=>z.elim,fun i m h=>?_,fun i j x y a h1=>?_⟩
 ·obtain ⟨x,hx,rfl⟩:=own h
  obtain ⟨v,hv,rx⟩:=r.at hx
  refine⟨v,?_,jP (g:=false) (rx.same (aD.refl _) fun _ _ z=>z)⟩
  have hi:i < vs.length:=(aX7.mp hv).1
  unfold L2.gL
  rw [bi1 (by simpa using hi),aX1,hv]; rfl
 ·obtain ⟨x,_,e⟩:=own h1
  cases e
theorem Df.of {P:Program}{w:World}{K:PySem.W.Frag}{mg:Str->Option Value}{base:Heap}{k:Nat}{x:Str}{ps N:List Str}{p:bW}{st:Stmt}{f:Addr}{fd:FuncData} (F:gB K x x st f fd) (m:mg x=some (.ref f)) (S:FnScope N ps (aW st))
  (hb:∀ (kV doc pm:Value) (an:Option Addr) (cdv ct:Value) (us:List Value),us.length=ps.length->bindArgs (PySem.W.fnOf x x (iW st) (eL st) (aW st) .none kV doc pm an cdv ct) ⟨us,[]⟩=pure (ps.zip us))
  (len:∀ xs Q,p xs Q->xs.length=ps.length)
  (body:∀ (cdv:Value) (A:Around) (outer:List Env) (s:Shared) (H:Hp) (E:XK),c6 k (A.deeper (envOfC x (aW st) s.heap.objs.size f cdv))->
   ∃ t,dW (dA fN P w K mg base N x (aW st) f cdv A outer s H E).nox (eL st) t/\∀ xs Q,p xs Q->t { nx:=fun _=>Q .non,rt:=Q } (fU N xs)):Df P w K mg base (k+1) x ps p:=by
 refine⟨f,fd,F.ok S (fun vs H Q E h=>?_) (fun cdv A outer s H vs Q E hr h=>?_),F.binds hb,F.kp,m⟩
 ·obtain ⟨xs,Qp,r,q,_⟩:=h
  rw [r.length]; exact len xs Qp q
 ·obtain ⟨xs,Qp,r,q,k⟩:=h
  obtain ⟨t,ht,hq⟩:=body cdv A outer s H E hr
  refine⟨_,ht,fun _=>False,fU N xs,_,uZ r,hq xs Qp q,?_,?_,?_,?_⟩
  ·exact fun W' σ' H' ρ' e px q=>k _ _ _ px.same .non q
  ·exact fun v H' x s r q=>k _ _ _ s r q
  ·exact fun W' σ' H' ρ' e px q=>q
  ·exact fun W' σ' H' ρ' e px q=>q
theorem i7 (i:Nat) {x:Str}{tp:Pos}{body:List Stmt}{ti:eQ} (hN:X.N.Nodup) (hi:QI X (.Name x tp) e ti) (hb:dW X body t) (hx:X.N[i]? = some x:=by rfl) (hl:fG X.env.scope x:=by first | exact Or.inl rfl | exact Or.inr rfl) (hf:X.fn x=true ∨ X.env.scope.names.lookup x=some .local:=by first | exact .inl rfl | exact .inr rfl)
  (hp:PassesOwn (model X.prog X.w) X.A X.env X.xe:=by exact PassesOwn.never) (hc:X.calm=true:=by rfl) (hs:∀ x,foldedSetIterable e X.env x=pure x:=by intro _; rfl):QS X (.For (.Name x tp) e body [] pos) (dU ti (cG i) t):=
 uR hp hc hi (fJ hN hx hl hf) (nL _ i) hb hs
theorem au8 (i j:Nat) {x y:Str}{tp xp yp:Pos}{kt:Nat}{body:List Stmt}{ti:eQ} (hN:X.N.Nodup) (hi:QI X (.Tuple [.Name x xp,.Name y yp] kt tp) e ti) (hb:dW X body t) (hx:X.N[i]? = some x:=by rfl) (hy:X.N[j]? = some y:=by rfl) (hlx:fG X.env.scope x:=by first | exact Or.inl rfl | exact Or.inr rfl) (hly:fG X.env.scope y:=by first | exact Or.inl rfl | exact Or.inr rfl)
  (hfx:X.fn x=true ∨ X.env.scope.names.lookup x=some .local:=by first | exact .inl rfl | exact .inr rfl) (hfy:X.fn y=true ∨ X.env.scope.names.lookup y=some .local:=by first | exact .inl rfl | exact .inr rfl)
  (hp:PassesOwn (model X.prog X.w) X.A X.env X.xe:=by exact PassesOwn.never) (hc:X.calm=true:=by rfl) (hs:∀ x,foldedSetIterable e X.env x=pure x:=by intro _; rfl):QS X (.For (.Tuple [.Name x xp,.Name y yp] kt tp) e body [] pos) (dU ti (gP i j) t):=
 uR hp hc hi (mZ hc (gJ (fJ hN hx hlx hfx) (gJ (fJ hN hy hly hfy) mY))) (pY _ i j) hb hs
noncomputable abbrev cH:Value->Shared->Prop:=fun _ _=>False
section
variable {scope : Scope} {N : List Str} {fr : List (Option Nat)} {x y : Str} {tp xp yp : Pos} {kt : Nat} {iter elt : Expr} {ti : eQ}
theorem qO {ifs:List Expr}{tcs:bY} (he:∀ (s:Shared) (H:Hp) (C:Addr) (fp:List Addr),QE (bO X scope N s H C fp cH) elt te) (hi:∀ (s:Shared) (H:Hp) (C:Addr) (fp:List Addr),kI (bO X scope N s H C fp cH) ifs (LT (bO X scope N s H C fp cH) tcs))
  (hN:N.Nodup) (h0:N[0]? = some x) (hl:∀ (s:Shared) (H:Hp) (C:Addr) (fp:List Addr),(bO X scope N s H C fp cH).env.scope.names.lookup x=some .local) (s:Shared) (H:Hp) :
  nF X scope N (.Name x tp) ifs elt s H (cR 0) (LT (X.frm H) tcs) (LE (X.frm H) te):=
 ⟨fun C fp=>fJ (X:=bO X scope N s H C fp cH) hN h0 (.inl (hl s H C fp)) (.inr (hl s H C fp)),fun C fp=>hi s H C fp,fun C fp=>he s H C fp⟩
theorem F6 {Y:Cx}:kI Y [] (LT Y i5):=fun pins s σ H Q I h=>am4 pins s σ H Q I (as2 h)
theorem F7 (hi:QI X (.Name x tp) iter ti) (he:∀ (s:Shared) (H:Hp) (C:Addr) (fp:List Addr),QE (bO X scope N s H C fp cH) elt te)
  (hc:X.calm=true:=by rfl) (S:dR X scope N fr:=by exact dR.of rfl rfl) (hN:N.Nodup:=by decide +kernel) (h0:N[0]? = some x:=by rfl) (hl:∀ (s:Shared) (H:Hp) (C:Addr) (fp:List Addr),(bO X scope N s H C fp cH).env.scope.names.lookup x=some .local:=by intro _ _ _ _; rfl) (hf:fr[0]? = some none:=by rfl)
  (hs:∀ x,foldedSetIterable iter X.env x=pure x:=by intro _; rfl):QE X (.ListComp elt [⟨.Name x tp,iter,[],0⟩] scope pos) (gQ ti fr (cG 0) i5 te):=
 c7 (pL (gh:=fun _=>cR 0) (tch:=fun H=>LT (X.frm H) i5) (teh:=fun H=>LE (X.frm H) te) hc S hi (qO he (fun _ _ _ _=>F6) hN h0 hl) hs) fun _ _ _=>pZ (nL _ 0) (fun i e=>by subst e; exact hf)
theorem F8 {c:Expr}{tcs:bY} (hi:QI X (.Name x tp) iter ti) (ht:∀ (s:Shared) (H:Hp) (C:Addr) (fp:List Addr),QT (bO X scope N s H C fp cH) c tcs) (he:∀ (s:Shared) (H:Hp) (C:Addr) (fp:List Addr),QE (bO X scope N s H C fp cH) elt te)
  (hc:X.calm=true:=by rfl) (S:dR X scope N fr:=by exact dR.of rfl rfl) (hN:N.Nodup:=by decide +kernel) (h0:N[0]? = some x:=by rfl) (hl:∀ (s:Shared) (H:Hp) (C:Addr) (fp:List Addr),(bO X scope N s H C fp cH).env.scope.names.lookup x=some .local:=by intro _ _ _ _; rfl) (hf:fr[0]? = some none:=by rfl)
  (hs:∀ x,foldedSetIterable iter X.env x=pure x:=by intro _; rfl):QE X (.ListComp elt [⟨.Name x tp,iter,[c],0⟩] scope pos) (gQ ti fr (cG 0) tcs te):=
 c7 (pL (gh:=fun _=>cR 0) (tch:=fun H=>LT (X.frm H) tcs) (teh:=fun H=>LE (X.frm H) te) hc S hi (qO he (fun s H C fp=>tO (ht s H C fp)) hN h0 hl) hs) fun _ _ _=>pZ (nL _ 0) (fun i e=>by subst e; exact hf)
theorem au9 {c:Expr}{tcs:bY}{i:Nat}{z:Str}{zp:Pos} (nd:X.N.Nodup) (hi:QI X (.Name x tp) iter ti) (ht:∀ (s:Shared) (H:Hp) (C:Addr) (fp:List Addr),QT (bO X scope N s H C fp cH) c tcs) (he:∀ (s:Shared) (H:Hp) (C:Addr) (fp:List Addr),QE (bO X scope N s H C fp cH) elt te)
  (hz:X.N[i]? = some z:=by rfl) (hzl:X.env.scope.names.lookup z=some .local:=by rfl) (hsw:swapsWith (.ListComp elt [⟨.Name x tp,iter,[c],0⟩] scope p2) (some (.Name z zp)) pos.line X.env=pure true:=by rfl)
  (hc:X.calm=true:=by rfl) (S:dR X scope N fr:=by exact dR.of rfl rfl) (hN:N.Nodup:=by decide +kernel) (h0:N[0]? = some x:=by rfl) (hl:∀ (s:Shared) (H:Hp) (C:Addr) (fp:List Addr),(bO X scope N s H C fp cH).env.scope.names.lookup x=some .local:=by intro _ _ _ _; rfl) (hf:fr[0]? = some none:=by rfl)
  (hs:∀ x,foldedSetIterable iter X.env x=pure x:=by intro _; rfl):QS X (.Assign [.Name z zp] (.ListComp elt [⟨.Name x tp,iter,[c],0⟩] scope p2) pos) (b7 i (gQ ti fr (cG 0) tcs te)):=
 eU (am8 (gh:=fun _=>cR 0) (tch:=fun H=>LT (X.frm H) tcs) (teh:=fun H=>LE (X.frm H) te) hc S hi (qO he (fun s H C fp=>tO (ht s H C fp)) hN h0 hl) nd hz hzl hsw hs) fun D σ H h=>pZ (nL _ 0) (fun i e=>by subst e; exact hf) (B7 h)
end
end
end PP
namespace SO
open PySem PyProof.Rows
section
variable (rk : Keyed → Int)
noncomputable def Kr (xs:Array Keyed) (i:Nat):Int:=((xs[i]?).map rk).getD 0
noncomputable def Up (xs:Array Keyed) (lo hi:Nat):Prop:=∀ i j,lo<=i->i<=j->j < hi->Kr rk xs i<=Kr rk xs j
noncomputable def Dn (xs:Array Keyed) (lo hi:Nat):Prop:=∀ i j,lo<=i->i<=j->j < hi->Kr rk xs j<=Kr rk xs i
end
variable {rk : Keyed → Int}
theorem kW {xs ys:Array Keyed}{i j:Nat} (h:xs[i]? = ys[j]?):Kr rk xs i=Kr rk ys j:=by unfold Kr; rw [h]
theorem qP {xs:Array Keyed}{i j:Nat} (hj:j<=xs.size) (k:Nat):Kr rk (mirror xs i j ((j - i) / 2)) k=Kr rk xs (if i<=k/\k < j then i+j - 1 - k else k):=by
 refine kW ?_
 rw [getElem?_mirror_all hj]
 split <;> rfl
theorem v5 {xs:Array Keyed}{i j:Nat} (hj:j<=xs.size) (e:∀ k,i<=k->k < j->Kr rk xs k=Kr rk xs (j - 1)) (k:Nat):Kr rk (mirror xs i j ((j - i) / 2)) k=Kr rk xs k:=by
 rw [qP hj]
 split
 ·rename_i h; rw [e k h.1 h.2,e _ (by omega) (by omega)]
 ·rfl
theorem av0 {xs:Array Keyed}{src d:Nat} (hs:src < xs.size) (hd:d<=src) (k:Nat):Kr rk (bubble xs src d) k=Kr rk xs (if k=src - d then src else if src - d < k/\k<=src then k - 1 else k):=by
 refine kW ?_
 rw [getElem?_bubble hs d hd]
 repeat' split
 all_goals rfl
structure SB (κ:SortKind) (a0:Array Keyed) (pd:Array (Nat × Nat × Nat)) (st:SortSt):Prop where
 pm:(arrOf st).Perm a0
 kd:kindOf st=κ
 ok:failedOf st=none
 pd:pendingOf st=pd
section
variable {κ : SortKind} {a0 : Array Keyed} {pd : Array (Nat × Nat × Nat)} {st : SortSt} {prog : Program} {w : World} {A : Around} {E : Value → Shared → Prop} {s : Shared} {Ok : Keyed → Prop}
theorem SB.sz (h:SB κ a0 pd st):(arrOf st).size=a0.size:=h.pm.size_eq
theorem SB.put (h:SB κ a0 pd st) {xs:Array Keyed} (hp:xs.Perm (arrOf st)):SB κ a0 pd (setArr st xs):=⟨hp.trans h.pm,h.kd,h.ok,h.pd⟩
noncomputable def c9 (prog:Program) (w:World) (A:Around) (E:Value->Shared->Prop) (s:Shared) (κ:SortKind) (Ok:Keyed->Prop) (rk:Keyed->Int):Prop:=
 ∀ (x y:Keyed),Ok x->Ok y->∀ (st:SortSt) (Q:Option Bool->SortSt->Prop),kindOf st=κ->Q (some (decide (rk x < rk y))) st->wpS (model prog w) A E s (lt' x y) Q st
noncomputable def bE (Ok:Keyed->Prop) (xs:Array Keyed):Prop:=∀ x ∈ xs,Ok x
theorem SB.all (h:SB κ a0 pd st) (o:bE Ok a0):bE Ok (arrOf st):=fun x hx=>o x (h.pm.mem_iff.mp hx)
theorem cU {xs:Array Keyed}{i:Nat}{Q:Keyed->SortSt->Prop} (hi:i < xs.size) (h:Q xs[i] st):wpS (model prog w) A E s (elem' xs i) Q st:=by
 rw [elem'_eq,getElem?_pos xs i hi]; exact aY3 h
theorem bX {xs:Array Keyed}{i:Nat} (hi:i < xs.size):Kr rk xs i=rk xs[i]:=by unfold Kr; rw [getElem?_pos xs i hi]; rfl
theorem nT (c:c9 prog w A E s κ Ok rk) (o:bE Ok a0) (b:SB κ a0 pd st) {i j:Nat}{Q:Option Bool->SortSt->Prop} (hi:i < a0.size) (hj:j < a0.size)
  (h:Q (some (decide (Kr rk (arrOf st) i < Kr rk (arrOf st) j))) st):wpS (model prog w) A E s (ltAt' i j) Q st:=by
 have hi':i < (arrOf st).size:=by rw [b.sz]; exact hi
 have hj':j < (arrOf st).size:=by rw [b.sz]; exact hj
 rw [ltAt'_eq]
 refine aX6 (wpS_get (aX6 (cU hi' (aX6 (cU hj' ?_)))))
 refine c _ _ (b.all o _ (ba9 hi')) (b.all o _ (ba9 hj')) st Q b.kd ?_
 rw [<- bX (rk:=rk) hi',<- bX (rk:=rk) hj']; exact h
theorem qQ {i j:Nat}{Q:Unit->SortSt->Prop} (h:Q () (setArr st (mirror (arrOf st) i j ((j - i) / 2)))):wpS (model prog w) A E s (reverseSlice' i j) Q st:=by
 rw [reverseSlice'_eq]; exact wpS_modify h
noncomputable abbrev CS:=Option (Option Nat) × Nat
noncomputable abbrev DS:=Option (Option Nat) × Nat × Nat
noncomputable def nU (lo b nrem:Nat):StateT SortSt Sem CS:=forIn [b:nrem] ((none,b):CS) fun _ r=>do
 match <- ltAt' (lo+r.2) (lo+r.2 - 1) with
 | some q=>if q=true then pure (ForInStep.done (none,r.2)) else pure (ForInStep.yield (none,r.2+1))
 | _=>pure (ForInStep.done (some none,r.2))
noncomputable def v6 (lo b nrem:Nat):StateT SortSt Sem DS:=forIn [b:nrem] ((none,b,0):DS) fun _ r=>do
 match <- ltAt' (lo+r.2.1) (lo+r.2.1 - 1) with
 | some q=>
  if q=true then (if r.2.2 > 0 then do reverseSlice' (lo+r.2.1 - (r.2.2+1)) (lo+r.2.1); pure (ForInStep.yield (none,r.2.1+1,0)) else pure (ForInStep.yield (none,r.2.1+1,0)))
  else do
   match <- ltAt' (lo+r.2.1 - 1) (lo+r.2.1) with
   | some q=>if q=true then pure (ForInStep.done (none,r.2.1,r.2.2)) else pure (ForInStep.yield (none,r.2.1+1,r.2.2+1))
   | _=>pure (ForInStep.done (some none,r.2.1,r.2.2))
 | _=>pure (ForInStep.done (some none,r.2.1,r.2.2))
theorem F9 (c:c9 prog w A E s κ Ok rk) (o:bE Ok a0) (b:SB κ a0 pd st) {lo n nrem:Nat}{Q:CS->SortSt->Prop} (hz:lo+nrem<=a0.size) (h1:1<=n) (hn:n<=nrem) (u:Up rk (arrOf st) lo (lo+n))
  (h:∀ m,n<=m->m<=nrem->Up rk (arrOf st) lo (lo+m)->(m=nrem ∨ Kr rk (arrOf st) (lo+m) < Kr rk (arrOf st) (lo+m - 1))->Q (none,m) st):wpS (model prog w) A E s (nU lo n nrem) Q st:=by
 unfold nU
 refine be8 (I:=fun x r st'=>st'=st/\r=(none,x)/\Up rk (arrOf st) lo (lo+x)) ?_ ?_ ⟨rfl,rfl,u⟩
 ·rintro x r st' hx hx' ⟨rfl,rfl,u'⟩
  refine aX6 (nT c o b (by omega) (by omega) ?_)
  by_cases hq:Kr rk (arrOf st') (lo+x) < Kr rk (arrOf st') (lo+x - 1)
  ·rw [aX2 hq]
   exact aY3 (h x hx (by omega) u' (.inr hq))
  ·rw [aW6 hq]
   refine aY3 ⟨rfl,rfl,fun i j hi hij hj=>?_⟩
   rcases bc5 j (lo+x) with z | z
   ·exact u' i j hi hij z
   ·have ej:j=lo+x:=by omega
    subst ej
    rcases bj9 hij with z | z
    ·rw [z]; exact aW8 _
    ·have:=u' i (lo+x - 1) hi (by omega) (by omega)
     omega
 ·rintro r st' ⟨rfl,rfl,u'⟩
  have em:max n nrem=nrem:=by omega
  rw [em] at u' ⊢
  exact h nrem hn (aX5 _) u' (.inl rfl)
structure nV (rk:Keyed->Int) (xs ys:Array Keyed) (lo m q:Nat):Prop where
 dn:Dn rk ys lo (lo+m)
 le:q+1<=m
 eq:∀ i,lo+m - (q+1)<=i->i < lo+m->Kr rk ys i=Kr rk ys (lo+m - 1)
 low:∀ i,i < lo->Kr rk ys i=Kr rk xs i
theorem av1 (c:c9 prog w A E s κ Ok rk) (o:bE Ok a0) (b:SB κ a0 pd st) {lo n nrem:Nat}{xs:Array Keyed}{Q:DS->SortSt->Prop} (hz:lo+nrem<=a0.size) (h1:1<=n) (hn:n<=nrem) (u:nV rk xs (arrOf st) lo n 0)
  (h:∀ m q st',SB κ a0 pd st'->n<=m->m<=nrem->nV rk xs (arrOf st') lo m q->Q (none,m,q) st'):wpS (model prog w) A E s (v6 lo n nrem) Q st:=by
 unfold v6
 refine be8 (I:=fun x r st'=>∃ q,r=(none,x,q)/\SB κ a0 pd st'/\nV rk xs (arrOf st') lo x q) ?_ ?_ ⟨0,rfl,b,u⟩
 ·rintro x r st' hx hx' ⟨q,rfl,b',f⟩
  have sz:=b'.sz
  dsimp only
  refine aX6 (nT c o b' (by omega) (by omega) ?_)
  by_cases hq:Kr rk (arrOf st') (lo+x) < Kr rk (arrOf st') (lo+x - 1)
  ·rw [aX2 hq]
   have nx:∀ ys:Array Keyed,(∀ k,Kr rk ys k=Kr rk (arrOf st') k)->nV rk xs ys lo (x+1) 0:=fun ys e=>by
    refine⟨fun i j hi hij hj=>?_,by omega,fun i h1 h2=>by rw [show i=lo+(x+1) - 1 by omega],fun i hi=>(e i).trans (f.low i hi)⟩
    rw [e,e]
    rcases bc5 j (lo+x) with z | z
    ·exact f.dn i j hi hij z
    ·have ej:j=lo+x:=by omega
     subst ej
     rcases bj9 hij with z | z
     ·rw [z]; exact aW8 _
     ·have:=f.dn i (lo+x - 1) hi (by omega) (by omega)
      omega
   dsimp only
   rw [if_pos rfl]
   by_cases hp:q > 0
   ·rw [if_pos hp]
    exact aX6 (qQ (aY3 ⟨0,rfl,b'.put (mirror_perm _ _ _ _),nx _ (v5 (by omega) f.eq)⟩))
   ·rw [if_neg hp]
    exact aY3 ⟨0,rfl,b',nx _ fun _=>rfl⟩
  ·rw [aW6 hq]
   dsimp only
   rw [if_neg aY9]
   refine aX6 (nT c o b' (by omega) (by omega) ?_)
   by_cases hl:Kr rk (arrOf st') (lo+x - 1) < Kr rk (arrOf st') (lo+x)
   ·rw [aX2 hl]
    exact aY3 (h x q st' b' hx (by omega) f)
   ·rw [aW6 hl]
    have ex:Kr rk (arrOf st') (lo+x)=Kr rk (arrOf st') (lo+x - 1):=by omega
    refine aY3 ⟨q+1,rfl,b',fun i j hi hij hj=>?_,by have:=f.le; omega,fun i h1 h2=>?_,f.low⟩
    ·rcases bc5 j (lo+x) with z | z
     ·exact f.dn i j hi hij z
     ·have ej:j=lo+x:=by omega
      subst ej
      rcases bj9 hij with z | z
      ·rw [z]; exact aW8 _
      ·rw [ex]; exact f.dn i (lo+x - 1) hi (by omega) (by omega)
    ·rw [show lo+(x+1) - 1=lo+x by omega]
     rcases bc5 i (lo+x) with z | z
     ·rw [ex]; exact f.eq i (by omega) z
     ·rw [show i=lo+x by omega]
 ·rintro r st' ⟨q,rfl,b',f⟩
  have em:max n nrem=nrem:=by omega
  rw [em] at f ⊢
  exact h nrem q st' b' hn (aX5 _) f
theorem G0 (c:c9 prog w A E s κ Ok rk) (o:bE Ok a0) (b:SB κ a0 pd st) {lo nrem:Nat} (n:Nat) {xs:Array Keyed}{Q:Option Nat->SortSt->Prop}{K:DS->StateT SortSt Sem (Option Nat)}{k:CS->StateT SortSt Sem (Option Nat)} (hz:lo+nrem<=a0.size) (hn:n+1<=nrem)
  (hK:∀ m q,K (none,m,q)=if q > 0 then reverseSlice' (lo+m - (q+1)) (lo+m) >>= fun _=>reverseSlice' lo (lo+m) >>= fun _=>nU lo m nrem >>= k else reverseSlice' lo (lo+m) >>= fun _=>nU lo m nrem >>= k)
  (hk:∀ m,k (none,m)=pure (some m)) (u:nV rk xs (arrOf st) lo (n+1) 0)
  (h:∀ m st',SB κ a0 pd st'->1<=m->m<=nrem->Up rk (arrOf st') lo (lo+m)->(∀ i,i < lo->Kr rk (arrOf st') i=Kr rk xs i)->Q (some m) st'):wpS (model prog w) A E s (liftM (rule "list.sort.descending-run") >>= fun _=>v6 lo (n+1) nrem >>= K) Q st:=by
 refine aX6 (wpS_lift (bl2 ⟨rfl,?_⟩))
 refine aX6 (av1 c o b hz (by omega) hn u fun m q st1 b1 m1 m2 f=>?_)
 have fin:∀ st2:SortSt,SB κ a0 pd st2->(∀ k,Kr rk (arrOf st2) k=Kr rk (arrOf st1) k)->
   wpS (model prog w) A E s (reverseSlice' lo (lo+m) >>= fun _=>nU lo m nrem >>= k) Q st2:=fun st2 b2 e=>by
  have sz:=b2.sz
  have low:∀ i,i < lo->Kr rk (mirror (arrOf st2) lo (lo+m) ((lo+m - lo) / 2)) i=Kr rk xs i:=fun i hi=>by
   rw [qP (by omega),if_neg (by omega),e]
   exact f.low i hi
  refine aX6 (qQ (aX6 (F9 (κ:=κ) c o (b2.put (mirror_perm _ _ _ _)) hz (by omega) m2 ?_ fun m' h1 h2 up _=>by rw [hk]; exact aY3 (h m' _ (b2.put (mirror_perm _ _ _ _)) (by omega) h2 up low))))
  ·intro i j hi hij hj
   show Kr rk (mirror (arrOf st2) lo (lo+m) _) i<=Kr rk (mirror (arrOf st2) lo (lo+m) _) j
   rw [qP (by omega),qP (by omega),if_pos (by omega),if_pos (by omega),e,e]
   exact f.dn _ _ (by omega) (by omega) (by omega)
 rw [hK]
 by_cases hp:q > 0
 ·rw [if_pos hp]
  have sz:=b1.sz
  exact aX6 (qQ (fin _ (b1.put (mirror_perm _ _ _ _)) (v5 (by omega) f.eq)))
 ·rw [if_neg hp]
  exact fin st1 b1 fun _=>rfl
theorem av2 (c:c9 prog w A E s κ Ok rk) (o:bE Ok a0) (b:SB κ a0 pd st) {lo nrem:Nat}{Q:Option Nat->SortSt->Prop} (hz:lo+nrem<=a0.size) (h1:1<=nrem)
  (h:∀ m st',SB κ a0 pd st'->1<=m->m<=nrem->Up rk (arrOf st') lo (lo+m)->(∀ i,i < lo->Kr rk (arrOf st') i=Kr rk (arrOf st) i)->Q (some m) st'):wpS (model prog w) A E s (countRun' lo nrem) Q st:=by
 rw [countRun'_eq]
 refine aX6 (F9 (n:=1) c o b hz (aX5 _) h1 (fun i j hi hij hj=>by rw [show i=j by omega]; exact aW8 _) fun n n1 n2 un on=>?_)
 dsimp only
 by_cases en:(n == nrem)=true
 ·rw [if_pos en]
  exact aY3 (h n st b n1 n2 un fun _ _=>rfl)
 ·rw [if_neg en]
  have en':n ≠ nrem:=by simpa using en
  have lt:=on.resolve_left en'
  have sz:=b.sz
  by_cases g:n > 1
  ·rw [if_pos g]
   refine aX6 (nT c o b (by omega) (by omega) ?_)
   by_cases hq:Kr rk (arrOf st) lo < Kr rk (arrOf st) (lo+n - 1)
   ·rw [aX2 hq]
    exact aY3 (h n st b n1 n2 un fun _ _=>rfl)
   ·rw [aW6 hq]
    dsimp only
    rw [if_neg aY9]
    have all:∀ k,lo<=k->k < lo+n->Kr rk (arrOf st) k=Kr rk (arrOf st) (lo+n - 1):=fun k k1 k2=>by
     have a1:=un lo k (aX5 _) k1 k2
     have a2:=un k (lo+n - 1) k1 (by omega) (by omega)
     omega
    have sm:=v5 (rk:=rk) (xs:=arrOf st) (i:=lo) (j:=lo+n) (by omega) all
    refine aX6 (qQ (G0 (xs:=arrOf st) (κ:=κ) c o (b.put (mirror_perm _ _ _ _)) n hz (by omega) (fun _ _=>rfl) (fun _=>rfl) ⟨fun i j hi hij hj=>?_,by omega,fun i h1 h2=>by rw [show i=lo+(n+1) - 1 by omega],fun i _=>sm i⟩ h))
    show Kr rk (mirror (arrOf st) lo (lo+n) _) j<=Kr rk (mirror (arrOf st) lo (lo+n) _) i
    rw [sm,sm]
    rcases bc5 j (lo+n) with z | z
    ·rw [all i hi (by omega),all j (by omega) z]; exact aW8 _
    ·have ej:j=lo+n:=by omega
     subst ej
     rcases bj9 hij with z | z
     ·rw [z]; exact aW8 _
     ·rw [all i hi (by omega)]; exact Int.le_of_lt lt
  ·rw [if_neg g]
   have e1:n=1:=by omega
   subst e1
   refine G0 (xs:=arrOf st) c o b 1 hz (by omega) (fun _ _=>rfl) (fun _=>rfl) ⟨fun i j hi hij hj=>?_,by omega,fun i h1 h2=>by rw [show i=lo+(1+1) - 1 by omega],fun i _=>rfl⟩ h
   rcases bj9 hij with z | z
   ·rw [z]; exact aW8 _
   ·have ei:i=lo+1 - 1:=by omega
    have ej:j=lo+1:=by omega
    rw [ei,ej]; exact Int.le_of_lt lt
theorem av3 (c:c9 prog w A E s κ Ok rk) (o:bE Ok a0) (b:SB κ a0 pd st) {lo n q:Nat}{Q:Bool->SortSt->Prop} (hz:lo+n<=a0.size) (hq:q<=n) (u:Up rk (arrOf st) lo (lo+q))
  (h:∀ st',SB κ a0 pd st'->Up rk (arrOf st') lo (lo+n)->(∀ i,i < lo->Kr rk (arrOf st') i=Kr rk (arrOf st) i)->Q true st'):wpS (model prog w) A E s (binarySort' lo n q) Q st:=by
 rw [binarySort'_eq]
 refine aX6 (bk8 (be8 (I:=fun k r st'=>r=(none,())/\SB κ a0 pd st'/\Up rk (arrOf st') lo (lo+min k n)/\∀ i,i < lo->Kr rk (arrOf st') i=Kr rk (arrOf st) i)
  (Q:=fun r st'=>r=(none,())/\SB κ a0 pd st'/\Up rk (arrOf st') lo (lo+n)/\∀ i,i < lo->Kr rk (arrOf st') i=Kr rk (arrOf st) i) ?_ ?_ ?_) ?_)
 ·rintro k r st1 hk hkn ⟨rfl,b1,u1,l1⟩
  rw [show min k n=k by omega] at u1
  have hk0:lo+k < a0.size:=by omega
  have sz:=b1.sz
  refine aX6 (bk8 (be8 (I:=fun x r st'=>st'=st1/\∃ l g,r=(none,l,g)/\l<=g/\g<=k/\g - l<=k - x/\(∀ i,i < l->Kr rk (arrOf st1) (lo+i)<=Kr rk (arrOf st1) (lo+k))/\∀ i,g<=i->i < k->Kr rk (arrOf st1) (lo+k) < Kr rk (arrOf st1) (lo+i))
   (Q:=fun r st'=>st'=st1/\∃ l g,r=(none,l,g)/\l<=k/\(∀ i,i < l->Kr rk (arrOf st1) (lo+i)<=Kr rk (arrOf st1) (lo+k))/\∀ i,l<=i->i < k->Kr rk (arrOf st1) (lo+k) < Kr rk (arrOf st1) (lo+i)) ?_ ?_ ?_) ?_)
  ·rintro x r st2 _ hx ⟨rfl,l,g,rfl,d1,d2,d3,f1,f2⟩
   dsimp only
   by_cases hlg:l >= g
   ·rw [if_pos hlg]
    have e:g=l:=by omega
    subst e
    exact aY3 ⟨rfl,g,g,rfl,d2,f1,f2⟩
   ·rw [if_neg hlg]
    refine aX6 (nT c o b1 hk0 (by omega) ?_)
    by_cases hc:Kr rk (arrOf st2) (lo+k) < Kr rk (arrOf st2) (lo+(l+g) / 2)
    ·rw [aX2 hc]
     refine aY3 ⟨rfl,l,(l+g) / 2,rfl,by omega,by omega,by omega,f1,fun i i1 i2=>?_⟩
     have:=u1 (lo+(l+g) / 2) (lo+i) (by omega) (by omega) (by omega)
     omega
    ·rw [aW6 hc]
     refine aY3 ⟨rfl,(l+g) / 2+1,g,rfl,by omega,d2,by omega,fun i i1=>?_,f2⟩
     have:=u1 (lo+i) (lo+(l+g) / 2) (by omega) (by omega) (by omega)
     omega
  ·rintro r st2 ⟨rfl,l,g,rfl,d1,d2,d3,f1,f2⟩
   have e:g=l:=by omega
   subst e
   exact⟨rfl,g,g,rfl,d2,f1,f2⟩
  ·exact⟨rfl,0,k,rfl,by omega,by omega,by omega,fun i hi=>absurd hi (by omega),fun i i1 i2=>absurd i1 (by omega)⟩
  ·rintro r st2 ⟨rfl,l,g,rfl,d,f1,f2⟩
   dsimp only
   rw [moveDown'_eq]
   have kb:∀ i,Kr rk (bubble (arrOf st2) (lo+k) (lo+k - (lo+l))) i=Kr rk (arrOf st2) (if i=lo+l then lo+k else if lo+l < i/\i<=lo+k then i - 1 else i):=fun i=>by
    rw [av0 (by omega) (by omega),show lo+k - (lo+k - (lo+l))=lo+l by omega]
   refine aX6 (wpS_modify (aY3 ⟨rfl,b1.put (bubble_perm _ _ _),fun i j hi hij hj=>?_,fun i hi=>?_⟩))
   ·show Kr rk (bubble (arrOf st2) (lo+k) (lo+k - (lo+l))) i<=Kr rk (bubble (arrOf st2) (lo+k) (lo+k - (lo+l))) j
    rw [kb,kb]
    rw [show min (k+1) n=k+1 by omega] at hj
    have v1:∀ p,lo<=p->p < lo+l->Kr rk (arrOf st2) p<=Kr rk (arrOf st2) (lo+k):=fun p p1 p2=>by have:=f1 (p - lo) (by omega); rwa [show lo+(p - lo)=p by omega] at this
    have v2:∀ p,lo+l<=p->p < lo+k->Kr rk (arrOf st2) (lo+k) < Kr rk (arrOf st2) p:=fun p p1 p2=>by have:=f2 (p - lo) (by omega) (by omega); rwa [show lo+(p - lo)=p by omega] at this
    repeat' split
    all_goals first
     | (exfalso; omega)
     | exact aW8 _
     | exact v1 _ (by omega) (by omega)
     | exact Int.le_of_lt (v2 _ (by omega) (by omega))
     | exact u1 _ _ (by omega) (by omega) (by omega)
   ·show Kr rk (bubble (arrOf st2) (lo+k) (lo+k - (lo+l))) i=_
    rw [kb,if_neg (by omega),if_neg (by omega)]
    exact l1 i hi
 ·rintro r st1 ⟨rfl,b1,u1,l1⟩
  rw [show min (max (max q 1) n) n=n by omega] at u1
  exact⟨rfl,b1,u1,l1⟩
 ·refine⟨rfl,b,fun i j hi hij hj=>?_,fun _ _=>rfl⟩
  rcases bc5 j (lo+q) with z | z
  ·exact u i j hi hij z
  ·rw [show i=j by omega]; exact aW8 _
 ·rintro r st1 ⟨rfl,b1,u1,l1⟩
  exact aY3 (h st1 b1 u1 l1)
end
noncomputable def jU:Bool->Keyed->Array Keyed->Nat->Nat->Nat->StateT SortSt Sem (Option Nat):=sortPriv% PySem.Builtin.gallop
noncomputable def kX (lf:Bool) (key:Keyed) (xs:Array Keyed) (bs i:Nat):StateT SortSt Sem (Option Bool):=do
 let z <- elem' xs (bs+i)
 if lf then lt' z key else return (<- lt' key z).map (!·)
theorem av4 (lf:Bool) (key:Keyed) (xs:Array Keyed) (bs n h:Nat):jU lf key xs bs n h=(do
 let mut la:=0
 let mut of:=1
 let mut l:=0
 let mut g:=0
 let some rt <- kX lf key xs bs h | return none
 if rt then
  let mx:=n - h
  for _ in [0:n] do
   if of >= mx then break
   let some mr <- kX lf key xs bs (h+of) | return none
   if !mr then break
   la:=of
   of:=2 * of+1
  l:=h+la+1
  g:=h+min of mx
 else
  let mx:=h+1
  for _ in [0:n] do
   if of >= mx then break
   let some fd <- kX lf key xs bs (h - of) | return none
   if fd then break
   la:=of
   of:=2 * of+1
  l:=h+1 - min of mx
  g:=h - la
 for _ in [0:n] do
  if l >= g then break
  let m:=l+(g - l) / 2
  let some mr <- kX lf key xs bs m | return none
  if mr then l:=m+1 else g:=m
 return some g):=rfl
section
variable {rk : Keyed → Int} {κ : SortKind} {st : SortSt} {prog : Program} {w : World} {A : Around} {E : Value → Shared → Prop} {s : Shared} {Ok : Keyed → Prop}
noncomputable def bS (rk:Keyed->Int) (lf:Bool) (key:Keyed) (xs:Array Keyed) (bs i:Nat):Bool:=if lf then decide (Kr rk xs (bs+i) < rk key) else decide (Kr rk xs (bs+i)<=rk key)
theorem qR (c:c9 prog w A E s κ Ok rk) (hk:kindOf st=κ) {lf:Bool}{key:Keyed}{xs:Array Keyed}{bs i:Nat}{Q:Option Bool->SortSt->Prop} (ok:Ok key) (o:bE Ok xs) (hi:bs+i < xs.size)
  (h:Q (some (bS rk lf key xs bs i)) st):wpS (model prog w) A E s (kX lf key xs bs i) Q st:=by
 unfold kX
 refine aX6 (cU hi ?_)
 unfold bS at h
 rw [bX hi] at h
 cases lf with
 | true=>
  simp only [if_true] at h ⊢
  exact c _ _ (o _ (ba9 hi)) ok st Q hk h
 | false=>
  simp only [aZ2,be4] at h ⊢
  refine aX6 (c _ _ ok (o _ (ba9 hi)) st _ hk (aY3 ?_))
  have e:(!decide (rk key < rk xs[bs+i]))=decide (rk xs[bs+i]<=rk key):=by
   by_cases z:rk xs[bs+i]<=rk key
   ·rw [aX2 z,aW6 (by omega)]; rfl
   ·rw [aW6 z,aX2 (by omega)]; rfl
  show Q (some (!decide (rk key < rk xs[bs+i]))) st
  rw [e]; exact h
noncomputable abbrev GS:=Option (Option Nat) × Nat × Nat
noncomputable def G1 (lf:Bool) (key:Keyed) (xs:Array Keyed) (bs n l g:Nat):StateT SortSt Sem GS:=forIn [0:n] ((none,l,g):GS) fun _ r=>
 if r.2.1 >= r.2.2 then pure (ForInStep.done (none,r.2.1,r.2.2)) else do
  match <- kX lf key xs bs (r.2.1+(r.2.2 - r.2.1) / 2) with
  | some q=>if q=true then pure (ForInStep.yield (none,r.2.1+(r.2.2 - r.2.1) / 2+1,r.2.2)) else pure (ForInStep.yield (none,r.2.1,r.2.1+(r.2.2 - r.2.1) / 2))
  | _=>pure (ForInStep.done (some none,r.2.1,r.2.2))
theorem G2 (c:c9 prog w A E s κ Ok rk) (hk:kindOf st=κ) {lf:Bool}{key:Keyed}{xs:Array Keyed}{bs n l g:Nat}{Q:GS->SortSt->Prop} (ok:Ok key) (o:bE Ok xs) (hz:bs+n<=xs.size)
  (mono:∀ i j,i<=j->j < n->bS rk lf key xs bs j=true->bS rk lf key xs bs i=true) (hlg:l<=g) (hg:g<=n) (h1:∀ i,i < l->bS rk lf key xs bs i=true) (h2:∀ i,g<=i->i < n->bS rk lf key xs bs i=false)
  (hq:∀ k,k<=n->(∀ i,i < k->bS rk lf key xs bs i=true)->(∀ i,k<=i->i < n->bS rk lf key xs bs i=false)->Q (none,k,k) st):wpS (model prog w) A E s (G1 lf key xs bs n l g) Q st:=by
 unfold G1
 refine be8 (I:=fun x r st'=>st'=st/\∃ l g,r=(none,l,g)/\l<=g/\g<=n/\g - l<=n - x/\(∀ i,i < l->bS rk lf key xs bs i=true)/\∀ i,g<=i->i < n->bS rk lf key xs bs i=false) ?_ ?_ ⟨rfl,l,g,rfl,hlg,hg,by omega,h1,h2⟩
 ·rintro x r st' _ hx ⟨rfl,l,g,rfl,d1,d2,d3,f1,f2⟩
  dsimp only
  by_cases hc:l >= g
  ·rw [if_pos hc]
   have e:g=l:=by omega
   subst e
   exact aY3 (hq g d2 f1 f2)
  ·rw [if_neg hc]
   refine aX6 (qR c hk ok o (by omega) ?_)
   cases z:bS rk lf key xs bs (l+(g - l) / 2) with
   | true=>exact aY3 ⟨rfl,_,_,rfl,by omega,d2,by omega,fun i hi=>mono i (l+(g - l) / 2) (by omega) (by omega) z,f2⟩
   | false=>
    refine aY3 ⟨rfl,_,_,rfl,by omega,by omega,by omega,f1,fun i i1 i2=>?_⟩
    cases y:bS rk lf key xs bs i with
    | false=>rfl
    | true=>rw [mono _ i i1 i2 y] at z; cases z
 ·rintro r st' ⟨rfl,l,g,rfl,d1,d2,d3,f1,f2⟩
  have e:g=l:=by omega
  subst e
  exact hq g d2 f1 f2
theorem m9 (c:c9 prog w A E s κ Ok rk) (hk:kindOf st=κ) {lf:Bool}{key:Keyed}{xs:Array Keyed}{bs n h:Nat}{Q:Option Nat->SortSt->Prop} (ok:Ok key) (o:bE Ok xs) (hh:h < n) (hz:bs+n<=xs.size) (u:Up rk xs bs (bs+n))
  (hq:∀ k,k<=n->(∀ i,i < k->bS rk lf key xs bs i=true)->(∀ i,k<=i->i < n->bS rk lf key xs bs i=false)->Q (some k) st):wpS (model prog w) A E s (jU lf key xs bs n h) Q st:=by
 have mono:∀ i j,i<=j->j < n->bS rk lf key xs bs j=true->bS rk lf key xs bs i=true:=fun i j hij hj e=>by
  have:=u (bs+i) (bs+j) (by omega) (by omega) (by omega)
  unfold bS at e ⊢
  cases lf with
  | true=>simp only [if_true,aY7] at e ⊢; omega
  | false=>simp only [aZ2,be4,aY7] at e ⊢; omega
 have monf:∀ i j,i<=j->j < n->bS rk lf key xs bs i=false->bS rk lf key xs bs j=false:=fun i j hij hj e=>by
  cases z:bS rk lf key xs bs j with
  | false=>rfl
  | true=>rw [mono i j hij hj z] at e; cases e
 rw [av4]
 refine aX6 (qR c hk ok o (by omega) ?_)
 dsimp only
 cases z:bS rk lf key xs bs h with
 | true=>
  rw [if_pos rfl]
  refine aX6 (bk8 (be8 (I:=fun x r st'=>st'=st/\∃ la of,r=(none,la,of)/\la < of/\x < of/\h+la < n/\bS rk lf key xs bs (h+la)=true)
   (Q:=fun r st'=>st'=st/\∃ la of,r=(none,la,of)/\la < of/\h+la < n/\bS rk lf key xs bs (h+la)=true/\(of < n - h->bS rk lf key xs bs (h+of)=false)) ?_ ?_ ⟨rfl,0,1,rfl,by omega,by omega,by omega,z⟩) ?_)
  ·rintro x r st' _ hx ⟨rfl,la,of,rfl,d1,d2,d3,f⟩
   dsimp only
   by_cases hc:of >= n - h
   ·rw [if_pos hc]
    exact aY3 ⟨rfl,la,of,rfl,d1,d3,f,fun y=>absurd y (by omega)⟩
   ·rw [if_neg hc]
    refine aX6 (qR c hk ok o (by omega) ?_)
    cases y:bS rk lf key xs bs (h+of) with
    | true=>exact aY3 ⟨rfl,of,2 * of+1,rfl,by omega,by omega,by omega,y⟩
    | false=>exact aY3 ⟨rfl,la,of,rfl,d1,d3,f,fun _=>y⟩
  ·rintro r st' ⟨rfl,la,of,rfl,d1,d2,d3,f⟩
   exact⟨rfl,la,of,rfl,d1,d3,f,fun y=>absurd y (by omega)⟩
  ·rintro r st' ⟨rfl,la,of,rfl,d1,d3,f,ft⟩
   dsimp only
   refine aX6 (G2 (l:=h+la+1) (g:=h+min of (n - h)) c hk ok o hz mono (by omega) (by omega) (fun i hi=>mono i (h+la) (by omega) d3 f) (fun i i1 i2=>?_) fun k k1 k2 k3=>aY3 (hq k k1 k2 k3))
   rcases bc5 of (n - h) with y | y
   ·exact monf (h+of) i (by omega) i2 (ft y)
   ·exact absurd i1 (by omega)
 | false=>
  rw [if_neg aY9]
  refine aX6 (bk8 (be8 (I:=fun x r st'=>st'=st/\∃ la of,r=(none,la,of)/\la < of/\x < of/\la<=h/\bS rk lf key xs bs (h - la)=false)
   (Q:=fun r st'=>st'=st/\∃ la of,r=(none,la,of)/\la < of/\la<=h/\bS rk lf key xs bs (h - la)=false/\(of < h+1->bS rk lf key xs bs (h - of)=true)) ?_ ?_ ⟨rfl,0,1,rfl,by omega,by omega,by omega,z⟩) ?_)
  ·rintro x r st' _ hx ⟨rfl,la,of,rfl,d1,d2,d3,f⟩
   dsimp only
   by_cases hc:of >= h+1
   ·rw [if_pos hc]
    exact aY3 ⟨rfl,la,of,rfl,d1,d3,f,fun y=>absurd y (by omega)⟩
   ·rw [if_neg hc]
    refine aX6 (qR c hk ok o (by omega) ?_)
    cases y:bS rk lf key xs bs (h - of) with
    | false=>exact aY3 ⟨rfl,of,2 * of+1,rfl,by omega,by omega,by omega,y⟩
    | true=>exact aY3 ⟨rfl,la,of,rfl,d1,d3,f,fun _=>y⟩
  ·rintro r st' ⟨rfl,la,of,rfl,d1,d2,d3,f⟩
   exact⟨rfl,la,of,rfl,d1,d3,f,fun y=>absurd y (by omega)⟩
  ·rintro r st' ⟨rfl,la,of,rfl,d1,d3,f,ft⟩
   dsimp only
   refine aX6 (G2 (l:=h+1 - min of (h+1)) (g:=h - la) c hk ok o hz mono (by omega) (by omega) (fun i hi=>?_) (fun i i1 i2=>monf (h - la) i i1 i2 f) fun k k1 k2 k3=>aY3 (hq k k1 k2 k3))
   rcases bc5 of (h+1) with y | y
   ·exact mono i (h - of) (by omega) (by omega) (ft y)
   ·exact absurd hi (by omega)
end
noncomputable def mB:Nat->StateT SortSt Sem Unit:=sortPriv% PySem.Builtin.setMinGallop
noncomputable def v7:Array Keyed->Array Keyed->StateT SortSt Sem (Array Keyed):=sortPriv% PySem.Builtin.mergeLo
theorem av5 (g:Nat):mB g=modify (fun st=>SortSt.mk' (kindOf st) (arrOf st) (pendingOf st) g (failedOf st)):=rfl
noncomputable abbrev LS:=Option (Array Keyed) × Array Keyed × Nat × Nat × Nat × Nat × Nat
noncomputable abbrev v8:=Option (Array Keyed) × Array Keyed × Nat × Nat × Nat × Nat
noncomputable abbrev LO:=Option (Array Keyed) × Array Keyed × Nat × Nat × Nat
noncomputable def qS (x y o:Array Keyed) (i j mg p q:Nat):StateT SortSt Sem (ForInStep LS):=do
 let v <- elem' x i
 if (i+1+1 == x.size)=true then pure (.done (some (o.push v ++ y.extract j y.size ++ x.extract (i+1) x.size),o.push v,i+1,j,mg,p,q))
 else if (decide (p < 7) && decide (q < 7))=true then pure (.done (none,o.push v,i+1,j,mg,p,q)) else pure (.yield (none,o.push v,i+1,j,mg,p,q))
noncomputable def qT (x y o:Array Keyed) (i j mg p q:Nat):StateT SortSt Sem (ForInStep LS):=do
 let v <- elem' y j
 if (j+1 == y.size)=true then pure (.done (some (o.push v ++ x.extract i x.size ++ y.extract (j+1) y.size),o.push v,i,j+1,mg,p,q)) else do
  let u <- elem' x i
  match <- jU true u y (j+1) (y.size - (j+1)) 0 with
  | some k=>
   if k > 0 then
    if (j+1+k == y.size)=true then pure (.done (some (o.push v ++ y.extract (j+1) (j+1+k) ++ x.extract i x.size ++ y.extract (j+1+k) y.size),o.push v ++ y.extract (j+1) (j+1+k),i,j+1+k,mg,p,k))
    else qS x y (o.push v ++ y.extract (j+1) (j+1+k)) i (j+1+k) mg p k
   else qS x y (o.push v) i (j+1) mg p k
  | _=>pure (.done (some (o.push v ++ x.extract i x.size ++ y.extract (j+1) y.size),o.push v,i,j+1,mg,p,q))
noncomputable def qU (x y o:Array Keyed) (i j mg p q:Nat):StateT SortSt Sem (ForInStep LS):=do
 mB mg
 let v <- elem' y j
 match <- jU false v x i (x.size - i) 0 with
 | some k=>
  if k > 0 then
   if (i+k+1 == x.size)=true then pure (.done (some (o ++ x.extract i (i+k) ++ y.extract j y.size ++ x.extract (i+k) x.size),o ++ x.extract i (i+k),i+k,j,mg,k,q))
   else if (i+k == x.size)=true then pure (.done (some (o ++ x.extract i (i+k) ++ x.extract (i+k) x.size ++ y.extract j y.size),o ++ x.extract i (i+k),i+k,j,mg,k,q))
   else qT x y (o ++ x.extract i (i+k)) (i+k) j mg k q
  else qT x y o i j mg k q
 | _=>pure (.done (some (o ++ x.extract i x.size ++ y.extract j y.size),o,i,j,mg,p,q))
noncomputable def v9 (x y o:Array Keyed) (i j mg p q:Nat):StateT SortSt Sem LS:=forIn [0:x.size+y.size] ((none,o,i,j,mg,p,q):LS) fun _ r=>
 if r.2.2.2.2.1 > 1 then qU x y r.2.1 r.2.2.1 r.2.2.2.1 (r.2.2.2.2.1 - 1) r.2.2.2.2.2.1 r.2.2.2.2.2.2 else qU x y r.2.1 r.2.2.1 r.2.2.2.1 r.2.2.2.2.1 r.2.2.2.2.2.1 r.2.2.2.2.2.2
noncomputable def vA (x y o:Array Keyed) (i j mg:Nat):StateT SortSt Sem v8:=forIn [0:x.size+y.size] ((none,o,i,j,0,0):v8) fun _ r=>do
 let v <- elem' y r.2.2.2.1
 let u <- elem' x r.2.2.1
 match <- lt' v u with
 | some q=>
  if q=true then do
   let v <- elem' y r.2.2.2.1
   if (r.2.2.2.1+1 == y.size)=true then pure (.done (some (r.2.1.push v ++ x.extract r.2.2.1 x.size ++ y.extract (r.2.2.2.1+1) y.size),r.2.1.push v,r.2.2.1,r.2.2.2.1+1,0,r.2.2.2.2.2+1))
   else if r.2.2.2.2.2+1 >= mg then pure (.done (none,r.2.1.push v,r.2.2.1,r.2.2.2.1+1,0,r.2.2.2.2.2+1)) else pure (.yield (none,r.2.1.push v,r.2.2.1,r.2.2.2.1+1,0,r.2.2.2.2.2+1))
  else do
   let u <- elem' x r.2.2.1
   if (r.2.2.1+1+1 == x.size)=true then pure (.done (some (r.2.1.push u ++ y.extract r.2.2.2.1 y.size ++ x.extract (r.2.2.1+1) x.size),r.2.1.push u,r.2.2.1+1,r.2.2.2.1,r.2.2.2.2.1+1,0))
   else if r.2.2.2.2.1+1 >= mg then pure (.done (none,r.2.1.push u,r.2.2.1+1,r.2.2.2.1,r.2.2.2.2.1+1,0)) else pure (.yield (none,r.2.1.push u,r.2.2.1+1,r.2.2.2.1,r.2.2.2.2.1+1,0))
 | _=>pure (.done (some (r.2.1 ++ x.extract r.2.2.1 x.size ++ y.extract r.2.2.2.1 y.size),r.2.1,r.2.2.1,r.2.2.2.1,r.2.2.2.2.1,r.2.2.2.2.2))
noncomputable def G3 (x y o:Array Keyed) (i j mg:Nat):StateT SortSt Sem LO:=forIn [0:x.size+y.size] ((none,o,i,j,mg):LO) fun _ r=>do
 let u <- vA x y r.2.1 r.2.2.1 r.2.2.2.1 r.2.2.2.2
 match u.1 with
 | some z=>pure (.done (some z,u.2.1,u.2.2.1,u.2.2.2.1,r.2.2.2.2))
 | none=>do
  liftM (rule "list.sort.gallop")
  let v <- v9 x y u.2.1 u.2.2.1 u.2.2.2.1 (r.2.2.2.2+1) u.2.2.2.2.1 u.2.2.2.2.2
  match v.1 with
  | some z=>pure (.done (some z,v.2.1,v.2.2.1,v.2.2.2.1,v.2.2.2.2.1))
  | none=>do
   mB (v.2.2.2.2.1+1)
   pure (.yield (none,v.2.1,v.2.2.1,v.2.2.2.1,v.2.2.2.2.1+1))
theorem av6 (x y:Array Keyed):v7 x y=(do
 liftM (rule "list.sort.merge-lo")
 let v <- elem' y 0
 if (1 == y.size)=true then pure (#[v] ++ x.extract 0 x.size ++ y.extract 1 y.size)
 else if (0+1 == x.size)=true then pure (#[v] ++ y.extract 1 y.size ++ x.extract 0 x.size)
 else do
  let z <- get
  let r <- G3 x y #[v] 0 1 (gallopOf z)
  match r.1 with
  | some z=>pure z
  | none=>unsupported "internal:list.sort.merge-bound"):=by kernel_rfl
section
variable (rk : Keyed → Int)
noncomputable def Sd (l:List Keyed):Prop:=l.Pairwise fun a b=>rk a<=rk b
structure MI (xs ys o:List Keyed) (i j:Nat):Prop where
 pm:o.Perm (xs.take i ++ ys.take j)
 sx:Sd rk (o ++ xs.drop i)
 sy:Sd rk (o ++ ys.drop j)
end
variable {rk : Keyed → Int} {xs ys o : List Keyed} {i j : Nat}
theorem Sd.ins {o a b d:List Keyed} (h1:Sd rk (o ++ a)) (h2:Sd rk (o ++ (b ++ d))) (h:∀ u ∈ b,∀ t ∈ a,rk u<=rk t):Sd rk ((o ++ b) ++ a):=by
 unfold Sd at *
 rw [aY5]
 obtain ⟨p1,p2,p3⟩:=ba5.mp h1
 obtain ⟨q1,q2,q3⟩:=ba5.mp h2
 obtain ⟨r1,r2,r3⟩:=ba5.mp q2
 refine ba5.mpr ⟨p1,ba5.mpr ⟨r1,p2,h⟩,fun u hu t ht=>?_⟩
 rcases ba2.mp ht with z | z
 ·exact q3 u hu t (bb1 _ z)
 ·exact p3 u hu t z
theorem MI.ofy (m:MI rk xs ys o i j) (k:Nat) (h:∀ u ∈ (ys.drop j).take k,∀ t ∈ xs.drop i,rk u<=rk t):MI rk xs ys (o ++ (ys.drop j).take k) i (j+k):=by
 have e:(ys.drop j).take k ++ ys.drop (j+k)=ys.drop j:=by rw [<- List.drop_drop]; exact ba7 k _
 refine⟨?_,Sd.ins m.sx (d:=ys.drop (j+k)) (by rw [e]; exact m.sy) h,by rw [aY5,e]; exact m.sy⟩
 rw [List.take_add,<- aY5]
 exact m.pm.append_right _
theorem MI.ofx (m:MI rk xs ys o i j) (k:Nat) (h:∀ u ∈ (xs.drop i).take k,∀ t ∈ ys.drop j,rk u<=rk t):MI rk xs ys (o ++ (xs.drop i).take k) (i+k) j:=by
 have e:(xs.drop i).take k ++ xs.drop (i+k)=xs.drop i:=by rw [<- List.drop_drop]; exact ba7 k _
 refine⟨?_,by rw [aY5,e]; exact m.sx,Sd.ins m.sy (d:=xs.drop (i+k)) (by rw [e]; exact m.sx) h⟩
 rw [List.take_add]
 refine (m.pm.append_right _).trans ?_
 rw [aY5,aY5]
 exact (bd7).append_left _
theorem MI.fin (m:MI rk xs ys o i j) (h:xs.length<=i ∨ ys.length<=j):(o ++ xs.drop i ++ ys.drop j).Perm (xs ++ ys)/\Sd rk (o ++ xs.drop i ++ ys.drop j):=by
 refine⟨?_,?_⟩
 ·rw [aY5]
  refine (m.pm.append_right _).trans ?_
  have e1:xs=xs.take i ++ xs.drop i:=(ba7 i xs).symm
  have e2:ys=ys.take j ++ ys.drop j:=(ba7 j ys).symm
  conv=>rhs; rw [e1,e2]
  rw [aY5,aY5]
  refine bk3 _ ?_
  rw [<- aY5,<- aY5]
  exact (bd7).append_right _
 ·rcases h with h | h
  ·rw [List.drop_eq_nil_of_le h,bb7]; exact m.sy
  ·rw [List.drop_eq_nil_of_le h,bb7]; exact m.sx
theorem MI.lst (m:MI rk xs ys o i j) (h:∀ u ∈ ys,∀ t ∈ xs.drop i,rk u<=rk t):(o ++ ys.drop j ++ xs.drop i).Perm (xs ++ ys)/\Sd rk (o ++ ys.drop j ++ xs.drop i):=by
 have m2:=m.ofy ys.length fun u hu t ht=>h u (List.mem_of_mem_drop (bk9 hu)) t ht
 have e:(ys.drop j).take ys.length=ys.drop j:=bh5 (by simp)
 rw [e] at m2
 have f:=m2.fin (.inr (by omega))
 rw [List.drop_eq_nil_of_le (as:=ys) (i:=j+ys.length) (by omega),bb7] at f
 exact f
theorem G4 {x:Array Keyed}{i k:Nat}{u:Keyed} (h:u ∈ (x.toList.drop i).take k):∃ t,t < k/\i+t < x.size/\rk u=Kr rk x (i+t):=by
 obtain ⟨t,ht,e⟩:=bh8 h
 have h1:t < k/\i+t < x.size:=by simp at ht; omega
 refine⟨t,h1.1,h1.2,?_⟩
 rw [bX h1.2,<- e]
 simp
theorem nW {x:Array Keyed}{i:Nat}{u:Keyed} (h:u ∈ x.toList.drop i):∃ t,i+t < x.size/\rk u=Kr rk x (i+t):=by
 obtain ⟨t,ht,e⟩:=bh8 h
 have h1:i+t < x.size:=by simp at ht; omega
 refine⟨t,h1,?_⟩
 rw [bX h1,<- e]
 simp
theorem Sd.up {x:Array Keyed} (h:Sd rk x.toList) (lo hi:Nat) (hh:hi<=x.size):Up rk x lo hi:=fun i j _ hij hj=>by
 rw [bX (by omega:i < x.size),bX (by omega:j < x.size)]
 rcases bj9 hij with z | z
 ·subst z; exact aW8 _
 ·have:=be5.mp h i j (by simp; omega) (by simp; omega) z
  simpa using this
theorem G5 (x:Array Keyed) (i k:Nat):(x.extract i (i+k)).toList=(x.toList.drop i).take k:=by
 simp [List.extract]
theorem qV (x:Array Keyed) (i:Nat):(x.extract i x.size).toList=x.toList.drop i:=by
 simp [List.extract]
 exact bh5 (by simp)
theorem kY {x:Array Keyed}{i:Nat} (h:i < x.size) : [x[i]]=(x.toList.drop i).take 1:=by
 rw [bi2 (by simpa using h)]; simp
structure Gq (st st':SortSt):Prop where
 kd:kindOf st'=kindOf st
 ar:arrOf st'=arrOf st
 pd:pendingOf st'=pendingOf st
 ok:failedOf st'=failedOf st
theorem Gq.refl (st:SortSt):Gq st st:=⟨rfl,rfl,rfl,rfl⟩
section
variable {κ : SortKind} {st : SortSt} {prog : Program} {w : World} {A : Around} {E : Value → Shared → Prop} {s : Shared} {Ok : Keyed → Prop}
theorem qW {st0:SortSt}{g:Nat}{Q:Unit->SortSt->Prop} (q:Gq st0 st) (h:∀ st',Gq st0 st'->Q () st'):wpS (model prog w) A E s (mB g) Q st:=by
 rw [av5]; exact wpS_modify (h _ ⟨q.kd,q.ar,q.pd,q.ok⟩)
noncomputable def dX (rk:Keyed->Int) (x y r:Array Keyed):Prop:=r.toList.Perm (x.toList ++ y.toList)/\Sd rk r.toList
theorem MI.y1 {x y o:Array Keyed} (m:MI rk x.toList y.toList o.toList i j) (hj:j < y.size) (h:∀ t,i+t < x.size->rk y[j]<=Kr rk x (i+t)):MI rk x.toList y.toList (o.push y[j]).toList i (j+1):=by
 have:=m.ofy 1 fun u hu t ht=>?_
 ·rw [<- kY hj] at this; simpa using this
 ·rw [<- kY hj,aX4] at hu
  subst hu
  obtain ⟨q,q1,q2⟩:=nW (rk:=rk) ht
  rw [q2]; exact h q q1
theorem MI.x1 {x y o:Array Keyed} (m:MI rk x.toList y.toList o.toList i j) (hi:i < x.size) (h:∀ t,j+t < y.size->rk x[i]<=Kr rk y (j+t)):MI rk x.toList y.toList (o.push x[i]).toList (i+1) j:=by
 have:=m.ofx 1 fun u hu t ht=>?_
 ·rw [<- kY hi] at this; simpa using this
 ·rw [<- kY hi,aX4] at hu
  subst hu
  obtain ⟨q,q1,q2⟩:=nW (rk:=rk) ht
  rw [q2]; exact h q q1
theorem MI.yk {x y o:Array Keyed} (m:MI rk x.toList y.toList o.toList i j) (k:Nat) (h:∀ p t,p < k->j+p < y.size->i+t < x.size->Kr rk y (j+p)<=Kr rk x (i+t)):MI rk x.toList y.toList (o ++ y.extract j (j+k)).toList i (j+k):=by
 have:=m.ofy k fun u hu t ht=>?_
 ·rw [<- G5] at this; rw [bd8]; exact this
 ·obtain ⟨p,p1,p2,p3⟩:=G4 (rk:=rk) hu
  obtain ⟨q,q1,q2⟩:=nW (rk:=rk) ht
  rw [q2,p3]; exact h p q p1 p2 q1
theorem MI.xk {x y o:Array Keyed} (m:MI rk x.toList y.toList o.toList i j) (k:Nat) (h:∀ p t,p < k->i+p < x.size->j+t < y.size->Kr rk x (i+p)<=Kr rk y (j+t)):MI rk x.toList y.toList (o ++ x.extract i (i+k)).toList (i+k) j:=by
 have:=m.ofx k fun u hu t ht=>?_
 ·rw [<- G5] at this; rw [bd8]; exact this
 ·obtain ⟨p,p1,p2,p3⟩:=G4 (rk:=rk) hu
  obtain ⟨q,q1,q2⟩:=nW (rk:=rk) ht
  rw [q2,p3]; exact h p q p1 p2 q1
theorem mC {key:Keyed}{xs:Array Keyed}{bs i:Nat}:bS rk false key xs bs i=decide (Kr rk xs (bs+i)<=rk key):=rfl
theorem mD {key:Keyed}{xs:Array Keyed}{bs i:Nat}:bS rk true key xs bs i=decide (Kr rk xs (bs+i) < rk key):=rfl
noncomputable def GI (rk:Keyed->Int) (x y:Array Keyed) (lb:Nat) (st:SortSt) (c:LS) (st':SortSt):Prop:=Gq st st'/\∃ o i j mg p q,c=(none,o,i,j,mg,p,q)/\MI rk x.toList y.toList o.toList i j/\i+1 < x.size/\j < y.size/\lb<=i+j
noncomputable def GQ (rk:Keyed->Int) (x y:Array Keyed) (lb:Nat) (st:SortSt) (c:LS) (st':SortSt):Prop:=Gq st st'/\((∃ r o i j mg p q,c=(some r,o,i,j,mg,p,q)/\dX rk x y r) ∨ ∃ o i j mg p q,c=(none,o,i,j,mg,p,q)/\MI rk x.toList y.toList o.toList i j/\i+1 < x.size/\j < y.size/\lb<=i+j)
noncomputable def GR (rk:Keyed->Int) (x y:Array Keyed) (lb:Nat) (st:SortSt) (r:ForInStep LS) (st':SortSt):Prop:=match r with | .done c=>GQ rk x y lb st c st' | .yield c=>GI rk x y lb st c st'
theorem MI.done {x y o:Array Keyed} (m:MI rk x.toList y.toList o.toList i j) (hh:x.size<=i ∨ y.size<=j):dX rk x y (o ++ x.extract i x.size ++ y.extract j y.size):=by
 unfold dX
 rw [bd8,bd8,qV,qV]
 exact m.fin (by simpa using hh)
theorem MI.last {x y o:Array Keyed} (m:MI rk x.toList y.toList o.toList i j) (x0:0 < x.size) (hl:∀ u ∈ y.toList,rk u<=rk x[x.size - 1]) (hh:i+1=x.size):dX rk x y (o ++ y.extract j y.size ++ x.extract i x.size):=by
 unfold dX
 rw [bd8,bd8,qV,qV]
 refine m.lst fun u hu t ht=>?_
 obtain ⟨q,q1,q2⟩:=nW (rk:=rk) ht
 have e:i+q=x.size - 1:=by omega
 rw [q2,e,bX (by omega)]
 exact hl u hu
theorem G6 {st0:SortSt}{x y o:Array Keyed}{mg p q lb:Nat} (x0:0 < x.size) (hl:∀ u ∈ y.toList,rk u<=rk x[x.size - 1]) (g:Gq st0 st) (m:MI rk x.toList y.toList o.toList i j) (hi:i+1 < x.size) (hj:j < y.size) (hb:lb<=i+j)
  (hm:∀ t,j+t < y.size->rk x[i]<=Kr rk y (j+t)):wpS (model prog w) A E s (qS x y o i j mg p q) (GR rk x y lb st0) st:=by
 unfold qS
 have hi':i < x.size:=by omega
 have m':=m.x1 hi' hm
 refine aX6 (cU hi' ?_)
 by_cases he:(i+1+1 == x.size)=true
 ·rw [if_pos he]
  have he:i+1+1=x.size:=by simpa using he
  exact aY3 ⟨g,.inl ⟨_,_,_,_,_,_,_,rfl,m'.last x0 hl he⟩⟩
 ·rw [if_neg he]
  have he:i+1+1 ≠ x.size:=by simpa using he
  split
  ·exact aY3 ⟨g,.inr ⟨_,_,_,_,_,_,rfl,m',by omega,hj,by omega⟩⟩
  ·exact aY3 ⟨g,_,_,_,_,_,_,rfl,m',by omega,hj,by omega⟩
theorem G7 (c:c9 prog w A E s κ Ok rk) {st0:SortSt} (hk:kindOf st0=κ) {x y o:Array Keyed}{mg p q lb:Nat} (ox:bE Ok x) (oy:bE Ok y) (sx:Sd rk x.toList) (sy:Sd rk y.toList) (x0:0 < x.size) (hl:∀ u ∈ y.toList,rk u<=rk x[x.size - 1]) (g:Gq st0 st) (m:MI rk x.toList y.toList o.toList i j) (hi:i+1 < x.size) (hj:j < y.size) (hb:lb<=i+j)
  (hm:∀ t,i+t < x.size->rk y[j]<=Kr rk x (i+t)):wpS (model prog w) A E s (qT x y o i j mg p q) (GR rk x y lb st0) st:=by
 unfold qT
 have hi':i < x.size:=by omega
 have m':=m.y1 hj hm
 refine aX6 (cU hj ?_)
 by_cases he:(j+1 == y.size)=true
 ·rw [if_pos he]
  have he:j+1=y.size:=by simpa using he
  exact aY3 ⟨g,.inl ⟨_,_,_,_,_,_,_,rfl,m'.done (.inr (by omega))⟩⟩
 ·rw [if_neg he]
  have he:j+1 ≠ y.size:=by simpa using he
  refine aX6 (cU hi' (aX6 (m9 c (g.kd.trans hk) (ox _ (ba9 hi')) oy (by omega) (by omega) (sy.up _ _ (by omega)) fun k k1 k2 k3=>?_)))
  dsimp only
  have ux:=sx.up 0 _ (aX5 x.size)
  have mk:=m'.yk k fun p t hp _ ht=>by
   have a1:=k2 p hp
   rw [mD,aY7] at a1
   have a2:=ux i (i+t) (by omega) (by omega) ht
   rw [bX hi'] at a2
   omega
  have km:∀ t,j+1+k+t < y.size->rk x[i]<=Kr rk y (j+1+k+t):=fun t ht=>by
   have a1:=k3 (k+t) (by omega) (by omega)
   rw [mD,bh3,<- Nat.add_assoc] at a1
   omega
  by_cases hk0:k > 0
  ·rw [if_pos hk0]
   by_cases hf:(j+1+k == y.size)=true
   ·rw [if_pos hf]
    have hf:j+1+k=y.size:=by simpa using hf
    exact aY3 ⟨g,.inl ⟨_,_,_,_,_,_,_,rfl,mk.done (.inr (by omega))⟩⟩
   ·rw [if_neg hf]
    have hf:j+1+k ≠ y.size:=by simpa using hf
    exact G6 x0 hl g mk hi (by omega) (by omega) km
  ·rw [if_neg hk0]
   have e0:k=0:=by omega
   subst e0
   exact G6 x0 hl g m' hi (by omega) (by omega) km
theorem G8 (c:c9 prog w A E s κ Ok rk) {st0:SortSt} (hk:kindOf st0=κ) {x y o:Array Keyed}{mg p q lb:Nat} (ox:bE Ok x) (oy:bE Ok y) (sx:Sd rk x.toList) (sy:Sd rk y.toList) (x0:0 < x.size) (hl:∀ u ∈ y.toList,rk u<=rk x[x.size - 1]) (g:Gq st0 st) (m:MI rk x.toList y.toList o.toList i j) (hi:i+1 < x.size) (hj:j < y.size) (hb:lb<=i+j) :
  wpS (model prog w) A E s (qU x y o i j mg p q) (GR rk x y lb st0) st:=by
 unfold qU
 refine aX6 (qW g fun st4 q4=>aX6 (cU hj (aX6 (m9 c (q4.kd.trans hk) (oy _ (ba9 hj)) ox (by omega) (by omega) (sx.up _ _ (by omega)) fun k k1 k2 k3=>?_))))
 dsimp only
 have uy:=sy.up 0 _ (aX5 y.size)
 have mk:=m.xk k fun p t hp _ ht=>by
  have a1:=k2 p hp
  rw [mC,aY7] at a1
  have a2:=uy j (j+t) (by omega) (by omega) ht
  rw [bX hj] at a2
  omega
 have km:∀ t,i+k+t < x.size->rk y[j]<=Kr rk x (i+k+t):=fun t ht=>by
  have a1:=k3 (k+t) (by omega) (by omega)
  rw [mC,bh3,<- Nat.add_assoc] at a1
  omega
 by_cases hk0:k > 0
 ·rw [if_pos hk0]
  by_cases he:(i+k+1 == x.size)=true
  ·rw [if_pos he]
   exact aY3 ⟨q4,.inl ⟨_,_,_,_,_,_,_,rfl,mk.last x0 hl (by simpa using he)⟩⟩
  ·rw [if_neg he]
   have he:i+k+1 ≠ x.size:=by simpa using he
   by_cases hf:(i+k == x.size)=true
   ·rw [if_pos hf]
    have hf:i+k=x.size:=by simpa using hf
    exact aY3 ⟨q4,.inl ⟨_,_,_,_,_,_,_,rfl,mk.done (.inl (by omega))⟩⟩
   ·rw [if_neg hf]
    have hf:i+k ≠ x.size:=by simpa using hf
    exact G7 c hk ox oy sx sy x0 hl q4 mk (by omega) hj (by omega) km
 ·rw [if_neg hk0]
  have e0:k=0:=by omega
  subst e0
  exact G7 c hk ox oy sx sy x0 hl q4 m hi hj hb km
theorem av7 (c:c9 prog w A E s κ Ok rk) {st0:SortSt} (hk:kindOf st0=κ) {x y o:Array Keyed}{mg p q lb:Nat} (ox:bE Ok x) (oy:bE Ok y) (sx:Sd rk x.toList) (sy:Sd rk y.toList) (x0:0 < x.size) (hl:∀ u ∈ y.toList,rk u<=rk x[x.size - 1]) (g:Gq st0 st) (m:MI rk x.toList y.toList o.toList i j) (hi:i+1 < x.size) (hj:j < y.size) (hb:lb<=i+j) :
  wpS (model prog w) A E s (v9 x y o i j mg p q) (GQ rk x y lb st0) st:=by
 unfold v9
 refine be8 (I:=fun _=>GI rk x y lb st0) ?_ ?_ ⟨g,o,i,j,_,p,q,rfl,m,hi,hj,hb⟩
 ·rintro t c3 st3 _ _ ⟨q3,o,i,j,mg,p,q,rfl,m,hi,hj,pr3⟩
  dsimp only
  split
  ·exact bk8 (G8 c hk ox oy sx sy x0 hl q3 m hi hj pr3) fun r _ hr=>by cases r <;> exact hr
  ·exact bk8 (G8 c hk ox oy sx sy x0 hl q3 m hi hj pr3) fun r _ hr=>by cases r <;> exact hr
 ·rintro c3 st3 ⟨q3,o,i,j,mg,p,q,rfl,m,hi,hj,pr3⟩
  exact⟨q3,.inr ⟨_,_,_,_,_,_,rfl,m,hi,hj,pr3⟩⟩
theorem av8 (c:c9 prog w A E s κ Ok rk) {st0:SortSt} (hk:kindOf st0=κ) {x y o:Array Keyed}{mg:Nat}{Q:v8->SortSt->Prop} (ox:bE Ok x) (oy:bE Ok y) (sx:Sd rk x.toList) (sy:Sd rk y.toList) (x0:0 < x.size) (hl:∀ u ∈ y.toList,rk u<=rk x[x.size - 1]) (g:Gq st0 st) (m:MI rk x.toList y.toList o.toList i j) (hi:i+1 < x.size) (hj:j < y.size)
  (h1:∀ r o' i' j' p q st',Gq st0 st'->dX rk x y r->Q (some r,o',i',j',p,q) st')
  (h2:∀ o' i' j' p q st',Gq st0 st'->MI rk x.toList y.toList o'.toList i' j'->i'+1 < x.size->j' < y.size->i+j+1<=i'+j'->Q (none,o',i',j',p,q) st') :
  wpS (model prog w) A E s (vA x y o i j mg) Q st:=by
 have ux:Up rk x 0 x.size:=sx.up 0 _ (aX5 _)
 have uy:Up rk y 0 y.size:=sy.up 0 _ (aX5 _)
 unfold vA
 refine be8 (I:=fun t c st'=>Gq st0 st'/\∃ o i' j' p q,c=(none,o,i',j',p,q)/\MI rk x.toList y.toList o.toList i' j'/\i'+1 < x.size/\j' < y.size/\i+j+t<=i'+j') ?_ ?_ ⟨g,o,i,j,0,0,rfl,m,hi,hj,by omega⟩
 ·rintro t c2 st2 _ ht ⟨q2,o,i',j',p,q,rfl,m,hi,hj,pr2⟩
  dsimp only
  have hi':i' < x.size:=by omega
  refine aX6 (cU hj (aX6 (cU hi' (aX6 (c _ _ (oy _ (ba9 hj)) (ox _ (ba9 hi')) st2 _ (q2.kd.trans hk) ?_)))))
  by_cases hc:rk y[j'] < rk x[i']
  ·rw [aX2 hc]
   dsimp only
   rw [if_pos rfl]
   have m':=m.y1 hj fun t ht=>by
    have:=ux i' (i'+t) (by omega) (by omega) ht
    rw [bX hi'] at this
    omega
   refine aX6 (cU hj ?_)
   by_cases he:(j'+1 == y.size)=true
   ·rw [if_pos he]
    have he:j'+1=y.size:=by simpa using he
    exact aY3 (h1 _ _ _ _ _ _ _ q2 (m'.done (.inr (by omega))))
   ·rw [if_neg he]
    have he:j'+1 ≠ y.size:=by simpa using he
    split
    ·exact aY3 (h2 _ _ _ _ _ _ q2 m' hi (by omega) (by omega))
    ·exact aY3 ⟨q2,_,_,_,_,_,rfl,m',hi,by omega,by omega⟩
  ·rw [aW6 hc]
   dsimp only
   rw [if_neg aY9]
   have m':=m.x1 hi' fun t ht=>by
    have:=uy j' (j'+t) (by omega) (by omega) ht
    rw [bX hj] at this
    omega
   refine aX6 (cU hi' ?_)
   by_cases he:(i'+1+1 == x.size)=true
   ·rw [if_pos he]
    exact aY3 (h1 _ _ _ _ _ _ _ q2 (m'.last x0 hl (by simpa using he)))
   ·rw [if_neg he]
    have he:i'+1+1 ≠ x.size:=by simpa using he
    split
    ·exact aY3 (h2 _ _ _ _ _ _ q2 m' (by omega) hj (by omega))
    ·exact aY3 ⟨q2,_,_,_,_,_,rfl,m',by omega,hj,by omega⟩
 ·rintro c2 st2 ⟨q2,o,i',j',p,q,rfl,m,hi,hj,pr2⟩
  exact h2 _ _ _ _ _ _ q2 m hi hj (by omega)
theorem av9 (c:c9 prog w A E s κ Ok rk) (hk:kindOf st=κ) {x y:Array Keyed}{Q:Array Keyed->SortSt->Prop} (ox:bE Ok x) (oy:bE Ok y) (sx:Sd rk x.toList) (sy:Sd rk y.toList) (x0:0 < x.size) (y0:0 < y.size)
  (hf:∀ t ∈ x.toList,rk y[0]<=rk t) (hl:∀ u ∈ y.toList,rk u<=rk x[x.size - 1])
  (h:∀ r st',Gq st st'->dX rk x y r->Q r st'):wpS (model prog w) A E s (v7 x y) Q st:=by
 rw [av6]
 refine aX6 (wpS_lift (bl2 ⟨rfl,aX6 (cU y0 ?_)⟩))
 have m0:MI rk x.toList y.toList (#[y[0]]:Array Keyed).toList 0 1:=by
  have mm:MI rk x.toList y.toList [] 0 0:=⟨by simp,sx,sy⟩
  have:=mm.ofy 1 fun u hu t ht=>?_
  ·rw [<- kY y0] at this; exact this
  ·rw [<- kY y0,aX4] at hu
   subst hu
   exact hf t ht
 by_cases e1:(1 == y.size)=true
 ·rw [if_pos e1]
  have e1:1=y.size:=by simpa using e1
  exact aY3 (h _ st (Gq.refl st) (m0.done (.inr (by omega))))
 ·rw [if_neg e1]
  have e1:1 ≠ y.size:=by simpa using e1
  by_cases e2:(0+1 == x.size)=true
  ·rw [if_pos e2]
   exact aY3 (h _ st (Gq.refl st) (m0.last x0 hl (by simpa using e2)))
  ·rw [if_neg e2]
   have e2:0+1 ≠ x.size:=by simpa using e2
   refine aX6 (wpS_get ?_)
   unfold G3
   refine aX6 (bk8 (be8
    (I:=fun n c st'=>Gq st st'/\∃ o i j mg,c=(none,o,i,j,mg)/\MI rk x.toList y.toList o.toList i j/\i+1 < x.size/\j < y.size/\n+1<=i+j)
    (Q:=fun c st'=>Gq st st'/\∃ r o i j mg,c=(some r,o,i,j,mg)/\dX rk x y r) ?_ ?_ ⟨Gq.refl st,_,0,1,_,rfl,m0,by omega,by omega,by omega⟩) ?_)
   ·rintro n c1 st1 _ hn ⟨q1,o,i,j,mg,rfl,m,hi,hj,pr⟩
    dsimp only
    refine aX6 (av8 c hk ox oy sx sy x0 hl q1 m hi hj (fun r o' i' j' p q st' g md=>aY3 ⟨g,r,_,_,_,_,rfl,md⟩) fun o' i' j' p q st' g m' hi' hj' pr'=>?_)
    refine aX6 (wpS_lift (bl2 ⟨rfl,?_⟩))
    refine aX6 (bk8 (av7 c hk ox oy sx sy x0 hl g m' hi' hj' pr') ?_)
    rintro c3 st3 ⟨q3,⟨r,o,i3,j3,mg,p,q,rfl,md⟩ | ⟨o,i3,j3,mg,p,q,rfl,m,hi,hj,pr3⟩⟩
    ·exact aY3 ⟨q3,r,_,_,_,_,rfl,md⟩
    ·exact aX6 (qW q3 fun st4 q4=>aY3 ⟨q4,o,i3,j3,_,rfl,m,hi,hj,by omega⟩)
   ·rintro c1 st1 ⟨q1,o,i,j,mg,rfl,m,hi,hj,pr⟩
    exact absurd pr (by omega)
   ·rintro c1 st1 ⟨q1,r,o,i,j,mg,rfl,md⟩
    exact aY3 (h r _ q1 md)
end
noncomputable def vB:Array Keyed->Array Keyed->StateT SortSt Sem (Array Keyed):=sortPriv% PySem.Builtin.mergeHi
noncomputable abbrev LH:=Option (Array Keyed) × Nat × Nat × Array Keyed × Nat × Nat × Nat
noncomputable abbrev vC:=Option (Array Keyed) × Nat × Nat × Array Keyed × Nat × Nat
noncomputable abbrev LP:=Option (Array Keyed) × Nat × Nat × Array Keyed × Nat
noncomputable def qX (x y o:Array Keyed) (i j mg p q:Nat):StateT SortSt Sem (ForInStep LH):=do
 let v <- elem' x (i - 1)
 if (i - 1 == 0)=true then pure (.done (some (x.extract 0 (i - 1) ++ y.extract 0 j ++ (o.push v).reverse),i - 1,j,o.push v,mg,p,q))
 else if (decide (p < 7) && decide (q < 7))=true then pure (.done (none,i - 1,j,o.push v,mg,p,q)) else pure (.yield (none,i - 1,j,o.push v,mg,p,q))
noncomputable def qY (x y o:Array Keyed) (i j mg p q:Nat):StateT SortSt Sem (ForInStep LH):=do
 let v <- elem' y (j - 1)
 if (j - 1 == 1)=true then pure (.done (some (y.extract 0 (j - 1) ++ x.extract 0 i ++ (o.push v).reverse),i,j - 1,o.push v,mg,p,q)) else do
  let u <- elem' x (i - 1)
  match <- jU true u y 0 (j - 1) (j - 1 - 1) with
  | some z=>
   if j - 1 - z > 0 then
    if (z == 1)=true then pure (.done (some (y.extract 0 z ++ x.extract 0 i ++ (o.push v ++ (y.extract z (j - 1)).reverse).reverse),i,z,o.push v ++ (y.extract z (j - 1)).reverse,mg,p,j - 1 - z))
    else if (z == 0)=true then pure (.done (some (x.extract 0 i ++ y.extract 0 z ++ (o.push v ++ (y.extract z (j - 1)).reverse).reverse),i,z,o.push v ++ (y.extract z (j - 1)).reverse,mg,p,j - 1 - z))
    else qX x y (o.push v ++ (y.extract z (j - 1)).reverse) i z mg p (j - 1 - z)
   else qX x y (o.push v) i (j - 1) mg p (j - 1 - z)
  | _=>pure (.done (some (x.extract 0 i ++ y.extract 0 (j - 1) ++ (o.push v).reverse),i,j - 1,o.push v,mg,p,q))
noncomputable def qZ (x y o:Array Keyed) (i j mg p q:Nat):StateT SortSt Sem (ForInStep LH):=do
 mB mg
 let v <- elem' y (j - 1)
 match <- jU false v x 0 i (i - 1) with
 | some z=>
  if i - z > 0 then
   if (z == 0)=true then pure (.done (some (x.extract 0 z ++ y.extract 0 j ++ (o ++ (x.extract z i).reverse).reverse),z,j,o ++ (x.extract z i).reverse,mg,i - z,q))
   else qY x y (o ++ (x.extract z i).reverse) z j mg (i - z) q
  else qY x y o i j mg (i - z) q
 | _=>pure (.done (some (x.extract 0 i ++ y.extract 0 j ++ o.reverse),i,j,o,mg,p,q))
noncomputable def vD (x y o:Array Keyed) (i j mg p q:Nat):StateT SortSt Sem LH:=forIn [0:x.size+y.size] ((none,i,j,o,mg,p,q):LH) fun _ r=>
 if r.2.2.2.2.1 > 1 then qZ x y r.2.2.2.1 r.2.1 r.2.2.1 (r.2.2.2.2.1 - 1) r.2.2.2.2.2.1 r.2.2.2.2.2.2 else qZ x y r.2.2.2.1 r.2.1 r.2.2.1 r.2.2.2.2.1 r.2.2.2.2.2.1 r.2.2.2.2.2.2
noncomputable def vE (x y o:Array Keyed) (i j mg:Nat):StateT SortSt Sem vC:=forIn [0:x.size+y.size] ((none,i,j,o,0,0):vC) fun _ r=>do
 let v <- elem' y (r.2.2.1 - 1)
 let u <- elem' x (r.2.1 - 1)
 match <- lt' v u with
 | some q=>
  if q=true then do
   let u <- elem' x (r.2.1 - 1)
   if (r.2.1 - 1 == 0)=true then pure (.done (some (x.extract 0 (r.2.1 - 1) ++ y.extract 0 r.2.2.1 ++ (r.2.2.2.1.push u).reverse),r.2.1 - 1,r.2.2.1,r.2.2.2.1.push u,r.2.2.2.2.1+1,0))
   else if r.2.2.2.2.1+1 >= mg then pure (.done (none,r.2.1 - 1,r.2.2.1,r.2.2.2.1.push u,r.2.2.2.2.1+1,0)) else pure (.yield (none,r.2.1 - 1,r.2.2.1,r.2.2.2.1.push u,r.2.2.2.2.1+1,0))
  else do
   let v <- elem' y (r.2.2.1 - 1)
   if (r.2.2.1 - 1 == 1)=true then pure (.done (some (y.extract 0 (r.2.2.1 - 1) ++ x.extract 0 r.2.1 ++ (r.2.2.2.1.push v).reverse),r.2.1,r.2.2.1 - 1,r.2.2.2.1.push v,0,r.2.2.2.2.2+1))
   else if r.2.2.2.2.2+1 >= mg then pure (.done (none,r.2.1,r.2.2.1 - 1,r.2.2.2.1.push v,0,r.2.2.2.2.2+1)) else pure (.yield (none,r.2.1,r.2.2.1 - 1,r.2.2.2.1.push v,0,r.2.2.2.2.2+1))
 | _=>pure (.done (some (x.extract 0 r.2.1 ++ y.extract 0 r.2.2.1 ++ r.2.2.2.1.reverse),r.2.1,r.2.2.1,r.2.2.2.1,r.2.2.2.2.1,r.2.2.2.2.2))
noncomputable def G9 (x y o:Array Keyed) (i j mg:Nat):StateT SortSt Sem LP:=forIn [0:x.size+y.size] ((none,i,j,o,mg):LP) fun _ r=>do
 let u <- vE x y r.2.2.2.1 r.2.1 r.2.2.1 r.2.2.2.2
 match u.1 with
 | some z=>pure (.done (some z,u.2.1,u.2.2.1,u.2.2.2.1,r.2.2.2.2))
 | none=>do
  liftM (rule "list.sort.gallop")
  let v <- vD x y u.2.2.2.1 u.2.1 u.2.2.1 (r.2.2.2.2+1) u.2.2.2.2.1 u.2.2.2.2.2
  match v.1 with
  | some z=>pure (.done (some z,v.2.1,v.2.2.1,v.2.2.2.1,v.2.2.2.2.1))
  | none=>do
   mB (v.2.2.2.2.1+1)
   pure (.yield (none,v.2.1,v.2.2.1,v.2.2.2.1,v.2.2.2.2.1+1))
theorem aw0 (x y:Array Keyed):vB x y=(do
 liftM (rule "list.sort.merge-hi")
 let v <- elem' x (x.size - 1)
 if (x.size - 1 == 0)=true then pure (x.extract 0 (x.size - 1) ++ y.extract 0 y.size ++ (#[v]:Array Keyed).reverse)
 else if (y.size == 1)=true then pure (y.extract 0 y.size ++ x.extract 0 (x.size - 1) ++ (#[v]:Array Keyed).reverse)
 else do
  let z <- get
  let r <- G9 x y #[v] (x.size - 1) y.size (gallopOf z)
  match r.1 with
  | some z=>pure z
  | none=>unsupported "internal:list.sort.merge-bound"):=by kernel_rfl
structure MH (rk:Keyed->Int) (xs ys o:List Keyed) (i j:Nat):Prop where
 pm:o.Perm (xs.drop i ++ ys.drop j)
 sx:Sd rk (xs.take i ++ o)
 sy:Sd rk (ys.take j ++ o)
variable {rk : Keyed → Int} {xs ys o : List Keyed} {i j : Nat}
theorem Sd.insR {o a b d:List Keyed} (h1:Sd rk (a ++ o)) (h2:Sd rk ((d ++ b) ++ o)) (h:∀ t ∈ a,∀ u ∈ b,rk t<=rk u):Sd rk (a ++ (b ++ o)):=by
 unfold Sd at *
 obtain ⟨p1,p2,p3⟩:=ba5.mp h1
 obtain ⟨q1,q2,q3⟩:=ba5.mp h2
 obtain ⟨r1,r2,r3⟩:=ba5.mp q1
 refine ba5.mpr ⟨p1,ba5.mpr ⟨r2,p2,fun u hu t ht=>q3 u (aZ5 _ hu) t ht⟩,fun u hu t ht=>?_⟩
 rcases ba2.mp ht with z | z
 ·exact h u hu t z
 ·exact p3 u hu t z
theorem r6 (l:List Keyed) {z j:Nat} (h:z<=j):l.take z ++ (l.take j).drop z=l.take j:=by
 have e:l.take z=(l.take j).take z:=by rw [List.take_take,Nat.min_eq_left h]
 rw [e]; exact ba7 z _
theorem vF (l:List Keyed) {z j:Nat} (h:z<=j):(l.take j).drop z ++ l.drop j=l.drop z:=by
 rw [bl5,show l.drop j=(l.drop z).drop (j - z) by rw [List.drop_drop,Nat.add_sub_cancel' h]]
 exact ba7 _ _
theorem MH.ofy (m:MH rk xs ys o i j) {z:Nat} (hz:z<=j) (h:∀ t ∈ xs.take i,∀ u ∈ (ys.take j).drop z,rk t<=rk u):MH rk xs ys ((ys.take j).drop z ++ o) i z:=by
 refine⟨?_,Sd.insR m.sx (d:=ys.take z) (by rw [r6 _ hz]; exact m.sy) h,by rw [<- aY5,r6 _ hz]; exact m.sy⟩
 rw [<- vF ys hz]
 refine (m.pm.append_left _).trans ?_
 rw [<- aY5,<- aY5]
 exact (bd7).append_right _
theorem MH.ofx (m:MH rk xs ys o i j) {z:Nat} (hz:z<=i) (h:∀ t ∈ ys.take j,∀ u ∈ (xs.take i).drop z,rk t<=rk u):MH rk xs ys ((xs.take i).drop z ++ o) z j:=by
 refine⟨?_,by rw [<- aY5,r6 _ hz]; exact m.sx,Sd.insR m.sy (d:=xs.take z) (by rw [r6 _ hz]; exact m.sx) h⟩
 rw [<- vF xs hz,aY5]
 exact m.pm.append_left _
theorem MH.fin (m:MH rk xs ys o i j) (h:i=0 ∨ j=0):(xs.take i ++ ys.take j ++ o).Perm (xs ++ ys)/\Sd rk (xs.take i ++ ys.take j ++ o):=by
 refine⟨?_,?_⟩
 ·have e1:xs=xs.take i ++ xs.drop i:=(ba7 i xs).symm
  have e2:ys=ys.take j ++ ys.drop j:=(ba7 j ys).symm
  conv=>rhs; rw [e1,e2]
  rw [aY5,aY5]
  refine bk3 _ ((m.pm.append_left _).trans ?_)
  rw [<- aY5,<- aY5]
  exact (bd7).append_right _
 ·rcases h with h | h
  ·subst h; simpa using m.sy
  ·subst h; simpa using m.sx
theorem MH.fst (m:MH rk xs ys o i j) (h:∀ t ∈ ys.take j,∀ u ∈ xs,rk t<=rk u):(ys.take j ++ xs.take i ++ o).Perm (xs ++ ys)/\Sd rk (ys.take j ++ xs.take i ++ o):=by
 have m2:=m.ofx (bf0 i) fun t ht u hu=>h t ht u (bk9 (List.mem_of_mem_drop hu))
 have f:=m2.fin (.inl rfl)
 simpa using f
theorem nX {x:Array Keyed}{i:Nat}{u:Keyed} (h:u ∈ x.toList.take i):∃ t,t < i/\t < x.size/\rk u=Kr rk x t:=by
 obtain ⟨t,ht,e⟩:=bh8 h
 have h1:t < i/\t < x.size:=by simp at ht; omega
 refine⟨t,h1.1,h1.2,?_⟩
 rw [bX h1.2,<- e]
 simp
theorem nY {x:Array Keyed}{z i:Nat}{u:Keyed} (h:u ∈ (x.toList.take i).drop z):∃ t,z<=t/\t < i/\t < x.size/\rk u=Kr rk x t:=by
 obtain ⟨t,ht,e⟩:=bh8 h
 have h1:z+t < i/\z+t < x.size:=by simp at ht; omega
 refine⟨z+t,by omega,h1.1,h1.2,?_⟩
 rw [bX h1.2,<- e]
 simp
theorem kZ (x:Array Keyed) (z i:Nat):(x.extract z i).toList=(x.toList.take i).drop z:=by
 rw [bl5]; simp [List.extract]
theorem r9 (x:Array Keyed) (i:Nat):(x.extract 0 i).toList=x.toList.take i:=by
 simp [List.extract]
theorem nZ {x:Array Keyed}{i:Nat} (h:i < x.size) : [x[i]]=(x.toList.take (i+1)).drop i:=by
 rw [bl5,kY h,show i+1 - i=1 by omega]
section
variable {κ : SortKind} {st : SortSt} {prog : Program} {w : World} {A : Around} {E : Value → Shared → Prop} {s : Shared} {Ok : Keyed → Prop}
theorem MH.y1 {x y o:Array Keyed} (m:MH rk x.toList y.toList o.toList.reverse i (j+1)) (hj:j < y.size) (h:∀ t,t < i->t < x.size->Kr rk x t<=rk y[j]):MH rk x.toList y.toList (o.push y[j]).toList.reverse i j:=by
 have:=m.ofy (Nat.le_succ j) fun t ht u hu=>?_
 ·rw [<- nZ hj] at this; simpa using this
 ·rw [<- nZ hj,aX4] at hu
  subst hu
  obtain ⟨q,q1,q2,q3⟩:=nX (rk:=rk) ht
  rw [q3]; exact h q q1 q2
theorem MH.x1 {x y o:Array Keyed} (m:MH rk x.toList y.toList o.toList.reverse (i+1) j) (hi:i < x.size) (h:∀ t,t < j->t < y.size->Kr rk y t<=rk x[i]):MH rk x.toList y.toList (o.push x[i]).toList.reverse i j:=by
 have:=m.ofx (Nat.le_succ i) fun t ht u hu=>?_
 ·rw [<- nZ hi] at this; simpa using this
 ·rw [<- nZ hi,aX4] at hu
  subst hu
  obtain ⟨q,q1,q2,q3⟩:=nX (rk:=rk) ht
  rw [q3]; exact h q q1 q2
theorem MH.yk {x y o:Array Keyed} (m:MH rk x.toList y.toList o.toList.reverse i j) {z:Nat} (hz:z<=j) (h:∀ t p,t < i->t < x.size->z<=p->p < j->p < y.size->Kr rk x t<=Kr rk y p):MH rk x.toList y.toList (o ++ (y.extract z j).reverse).toList.reverse i z:=by
 have:=m.ofy hz fun t ht u hu=>?_
 ·rw [<- kZ] at this; simpa using this
 ·obtain ⟨q,q1,q2,q3⟩:=nX (rk:=rk) ht
  obtain ⟨p,p1,p2,p3,p4⟩:=nY (rk:=rk) hu
  rw [q3,p4]; exact h q p q1 q2 p1 p2 p3
theorem MH.xk {x y o:Array Keyed} (m:MH rk x.toList y.toList o.toList.reverse i j) {z:Nat} (hz:z<=i) (h:∀ t p,t < j->t < y.size->z<=p->p < i->p < x.size->Kr rk y t<=Kr rk x p):MH rk x.toList y.toList (o ++ (x.extract z i).reverse).toList.reverse z j:=by
 have:=m.ofx hz fun t ht u hu=>?_
 ·rw [<- kZ] at this; simpa using this
 ·obtain ⟨q,q1,q2,q3⟩:=nX (rk:=rk) ht
  obtain ⟨p,p1,p2,p3,p4⟩:=nY (rk:=rk) hu
  rw [q3,p4]; exact h q p q1 q2 p1 p2 p3
theorem MH.done {x y o:Array Keyed} (m:MH rk x.toList y.toList o.toList.reverse i j) (hh:i=0 ∨ j=0):dX rk x y (x.extract 0 i ++ y.extract 0 j ++ o.reverse):=by
 unfold dX
 rw [bd8,bd8,r9,r9,Array.toList_reverse]
 exact m.fin hh
theorem MH.frst {x y o:Array Keyed} (m:MH rk x.toList y.toList o.toList.reverse i j) (y0:0 < y.size) (hf:∀ t ∈ x.toList,rk y[0]<=rk t) (hh:j=1):dX rk x y (y.extract 0 j ++ x.extract 0 i ++ o.reverse):=by
 unfold dX
 rw [bd8,bd8,r9,r9,Array.toList_reverse]
 refine m.fst fun t ht u hu=>?_
 subst hh
 obtain ⟨q,q1,q2,q3⟩:=nX (rk:=rk) ht
 have e:q=0:=by omega
 subst e
 rw [q3,bX y0]
 exact hf u hu
structure HB (rk:Keyed->Int) (x y:Array Keyed) (lb i j:Nat) (o:Array Keyed):Prop where
 m:MH rk x.toList y.toList o.toList.reverse i j
 i0:0 < i
 i1:i < x.size
 j0:1 < j
 j1:j<=y.size
 pr:i+j+lb<=x.size+y.size
noncomputable def HI (rk:Keyed->Int) (x y:Array Keyed) (lb:Nat) (st:SortSt) (c:LH) (st':SortSt):Prop:=Gq st st'/\∃ i j o mg p q,c=(none,i,j,o,mg,p,q)/\HB rk x y lb i j o
noncomputable def HQ (rk:Keyed->Int) (x y:Array Keyed) (lb:Nat) (st:SortSt) (c:LH) (st':SortSt):Prop:=Gq st st'/\((∃ r i j o mg p q,c=(some r,i,j,o,mg,p,q)/\dX rk x y r) ∨ ∃ i j o mg p q,c=(none,i,j,o,mg,p,q)/\HB rk x y lb i j o)
noncomputable def HR (rk:Keyed->Int) (x y:Array Keyed) (lb:Nat) (st:SortSt) (r:ForInStep LH) (st':SortSt):Prop:=match r with | .done c=>HQ rk x y lb st c st' | .yield c=>HI rk x y lb st c st'
theorem J0 {st0:SortSt}{x y o:Array Keyed}{i j mg p q lb:Nat} (g:Gq st0 st) (b:HB rk x y lb (i+1) j o) (hm:∀ (hi:i < x.size) t,t < j->t < y.size->Kr rk y t<=rk x[i]):wpS (model prog w) A E s (qX x y o (i+1) j mg p q) (HR rk x y lb st0) st:=by
 unfold qX
 obtain ⟨m,i0,i1,j0,j1,pr⟩:=b
 have hi':i < x.size:=by omega
 have m':=m.x1 hi' (hm hi')
 simp only [Nat.add_sub_cancel]
 refine aX6 (cU hi' ?_)
 by_cases he:(i == 0)=true
 ·rw [if_pos he]
  have he:i=0:=by simpa using he
  exact aY3 ⟨g,.inl ⟨_,_,_,_,_,_,_,rfl,m'.done (.inl he)⟩⟩
 ·rw [if_neg he]
  have he:i ≠ 0:=by simpa using he
  split
  ·exact aY3 ⟨g,.inr ⟨_,_,_,_,_,_,rfl,m',by omega,by omega,j0,j1,by omega⟩⟩
  ·exact aY3 ⟨g,_,_,_,_,_,_,rfl,m',by omega,by omega,j0,j1,by omega⟩
theorem J1 (c:c9 prog w A E s κ Ok rk) {st0:SortSt} (hk:kindOf st0=κ) {x y o:Array Keyed}{i j mg p q lb:Nat} (ox:bE Ok x) (oy:bE Ok y) (sx:Sd rk x.toList) (sy:Sd rk y.toList) (y0:0 < y.size) (hf:∀ t ∈ x.toList,rk y[0]<=rk t) (g:Gq st0 st) (b:HB rk x y lb (i+1) (j+1) o)
  (hm:∀ (hj:j < y.size) t,t < i+1->t < x.size->Kr rk x t<=rk y[j]):wpS (model prog w) A E s (qY x y o (i+1) (j+1) mg p q) (HR rk x y lb st0) st:=by
 unfold qY
 obtain ⟨m,i0,i1,j0,j1,pr⟩:=b
 have hi':i < x.size:=by omega
 have hj:j < y.size:=by omega
 have m':=m.y1 hj (hm hj)
 simp only [Nat.add_sub_cancel]
 refine aX6 (cU hj ?_)
 by_cases he:(j == 1)=true
 ·rw [if_pos he]
  have he:j=1:=by simpa using he
  exact aY3 ⟨g,.inl ⟨_,_,_,_,_,_,_,rfl,m'.frst y0 hf he⟩⟩
 ·rw [if_neg he]
  have he:j ≠ 1:=by simpa using he
  refine aX6 (cU hi' (aX6 (m9 c (g.kd.trans hk) (ox _ (ba9 hi')) oy (by omega) (by omega) (sy.up _ _ (by omega)) fun z k1 k2 k3=>?_)))
  dsimp only
  have ux:=sx.up 0 _ (aX5 x.size)
  have mk:=m'.yk k1 fun t p ht ht' hp hp' _=>by
   have a1:=k3 p hp hp'
   rw [mD,bh3,Nat.zero_add] at a1
   have a2:=ux t i (by omega) (by omega) hi'
   rw [bX (i:=i) hi'] at a2
   omega
  have km:∀ (hi:i < x.size) t,t < z->t < y.size->Kr rk y t<=rk x[i]:=fun _ t ht _=>by
   have a1:=k2 t ht
   rw [mD,aY7,Nat.zero_add] at a1
   omega
  by_cases hk0:j - z > 0
  ·rw [if_pos hk0]
   by_cases h1:(z == 1)=true
   ·rw [if_pos h1]
    have h1:z=1:=by simpa using h1
    exact aY3 ⟨g,.inl ⟨_,_,_,_,_,_,_,rfl,mk.frst y0 hf h1⟩⟩
   ·rw [if_neg h1]
    have h1:z ≠ 1:=by simpa using h1
    by_cases h0:(z == 0)=true
    ·rw [if_pos h0]
     have h0:z=0:=by simpa using h0
     exact aY3 ⟨g,.inl ⟨_,_,_,_,_,_,_,rfl,mk.done (.inr h0)⟩⟩
    ·rw [if_neg h0]
     have h0:z ≠ 0:=by simpa using h0
     exact J0 g ⟨mk,by omega,i1,by omega,by omega,by omega⟩ km
  ·rw [if_neg hk0]
   have e0:z=j:=by omega
   subst e0
   exact J0 g ⟨m',by omega,i1,by omega,by omega,by omega⟩ km
theorem J2 (c:c9 prog w A E s κ Ok rk) {st0:SortSt} (hk:kindOf st0=κ) {x y o:Array Keyed}{i j mg p q lb:Nat} (ox:bE Ok x) (oy:bE Ok y) (sx:Sd rk x.toList) (sy:Sd rk y.toList) (y0:0 < y.size) (hf:∀ t ∈ x.toList,rk y[0]<=rk t) (g:Gq st0 st) (b:HB rk x y lb i (j+1) o) :
  wpS (model prog w) A E s (qZ x y o i (j+1) mg p q) (HR rk x y lb st0) st:=by
 unfold qZ
 obtain ⟨m,i0,i1,j0,j1,pr⟩:=b
 have hj:j < y.size:=by omega
 simp only [Nat.add_sub_cancel]
 refine aX6 (qW g fun st4 q4=>aX6 (cU hj (aX6 (m9 c (q4.kd.trans hk) (oy _ (ba9 hj)) ox (by omega) (by omega) (sx.up _ _ (by omega)) fun z k1 k2 k3=>?_))))
 dsimp only
 have uy:=sy.up 0 _ (aX5 y.size)
 have mk:=m.xk k1 fun t p ht ht' hp hp' _=>by
  have a1:=k3 p hp hp'
  rw [mC,bh3,Nat.zero_add] at a1
  have a2:=uy t j (by omega) (by omega) hj
  rw [bX (i:=j) hj] at a2
  omega
 have km:∀ (hj:j < y.size) t,t < z->t < x.size->Kr rk x t<=rk y[j]:=fun _ t ht _=>by
  have a1:=k2 t ht
  rw [mC,aY7,Nat.zero_add] at a1
  exact a1
 by_cases hk0:i - z > 0
 ·rw [if_pos hk0]
  by_cases he:(z == 0)=true
  ·rw [if_pos he]
   exact aY3 ⟨q4,.inl ⟨_,_,_,_,_,_,_,rfl,mk.done (.inl (by simpa using he))⟩⟩
  ·rw [if_neg he]
   have he:z ≠ 0:=by simpa using he
   obtain ⟨z2,rfl⟩:∃ z2,z=z2+1:=⟨z - 1,by omega⟩
   exact J1 c hk ox oy sx sy y0 hf q4 ⟨mk,by omega,by omega,j0,j1,by omega⟩ km
 ·rw [if_neg hk0]
  have e0:z=i:=by omega
  subst e0
  obtain ⟨z2,rfl⟩:∃ z2,z=z2+1:=⟨z - 1,by omega⟩
  exact J1 c hk ox oy sx sy y0 hf q4 ⟨m,i0,i1,j0,j1,pr⟩ km
theorem aw1 (c:c9 prog w A E s κ Ok rk) {st0:SortSt} (hk:kindOf st0=κ) {x y o:Array Keyed}{i j mg p q lb:Nat} (ox:bE Ok x) (oy:bE Ok y) (sx:Sd rk x.toList) (sy:Sd rk y.toList) (y0:0 < y.size) (hf:∀ t ∈ x.toList,rk y[0]<=rk t) (g:Gq st0 st) (b:HB rk x y lb i j o) :
  wpS (model prog w) A E s (vD x y o i j mg p q) (HQ rk x y lb st0) st:=by
 unfold vD
 refine be8 (I:=fun _=>HI rk x y lb st0) ?_ ?_ ⟨g,i,j,o,_,p,q,rfl,b⟩
 ·rintro t c3 st3 _ _ ⟨q3,i,j,o,mg,p,q,rfl,b3⟩
  obtain ⟨j3,rfl⟩:∃ j3,j=j3+1:=⟨j - 1,by have:=b3.j0; omega⟩
  dsimp only
  split
  ·exact bk8 (J2 c hk ox oy sx sy y0 hf q3 b3) fun r _ hr=>by cases r <;> exact hr
  ·exact bk8 (J2 c hk ox oy sx sy y0 hf q3 b3) fun r _ hr=>by cases r <;> exact hr
 ·rintro c3 st3 ⟨q3,i,j,o,mg,p,q,rfl,b3⟩
  exact⟨q3,.inr ⟨_,_,_,_,_,_,rfl,b3⟩⟩
theorem aw2 (c:c9 prog w A E s κ Ok rk) {st0:SortSt} (hk:kindOf st0=κ) {x y o:Array Keyed}{i j mg n:Nat}{Q:vC->SortSt->Prop} (ox:bE Ok x) (oy:bE Ok y) (sx:Sd rk x.toList) (sy:Sd rk y.toList) (y0:0 < y.size) (hf:∀ t ∈ x.toList,rk y[0]<=rk t) (g:Gq st0 st) (b:HB rk x y n i j o)
  (h1:∀ r i' j' o' p q st',Gq st0 st'->dX rk x y r->Q (some r,i',j',o',p,q) st') (h2:∀ i' j' o' p q st',Gq st0 st'->HB rk x y (n+1) i' j' o'->Q (none,i',j',o',p,q) st') :
  wpS (model prog w) A E s (vE x y o i j mg) Q st:=by
 have ux:Up rk x 0 x.size:=sx.up 0 _ (aX5 _)
 have uy:Up rk y 0 y.size:=sy.up 0 _ (aX5 _)
 unfold vE
 refine be8 (I:=fun t c st'=>Gq st0 st'/\∃ i j o p q,c=(none,i,j,o,p,q)/\HB rk x y (n+t) i j o) ?_ ?_ ⟨g,i,j,o,0,0,rfl,b⟩
 ·rintro t c2 st2 _ ht ⟨q2,i',j',o,p,q,rfl,m,i0,i1,j0,j1,pr⟩
  obtain ⟨i2,rfl⟩:∃ i2,i'=i2+1:=⟨i' - 1,by omega⟩
  obtain ⟨j2,rfl⟩:∃ j2,j'=j2+1:=⟨j' - 1,by omega⟩
  simp only [Nat.add_sub_cancel]
  have hi:i2 < x.size:=by omega
  have hj:j2 < y.size:=by omega
  refine aX6 (cU hj (aX6 (cU hi (aX6 (c _ _ (oy _ (ba9 hj)) (ox _ (ba9 hi)) st2 _ (q2.kd.trans hk) ?_)))))
  by_cases hc:rk y[j2] < rk x[i2]
  ·rw [aX2 hc]
   dsimp only
   rw [if_pos rfl]
   have m':=m.x1 hi fun t ht _=>by
    have:=uy t j2 (by omega) (by omega) hj
    rw [bX hj] at this
    omega
   refine aX6 (cU hi ?_)
   by_cases he:(i2 == 0)=true
   ·rw [if_pos he]
    exact aY3 (h1 _ _ _ _ _ _ _ q2 (m'.done (.inl (by simpa using he))))
   ·rw [if_neg he]
    have he:i2 ≠ 0:=by simpa using he
    split
    ·exact aY3 (h2 _ _ _ _ _ _ q2 ⟨m',by omega,by omega,j0,j1,by omega⟩)
    ·exact aY3 ⟨q2,_,_,_,_,_,rfl,m',by omega,by omega,j0,j1,by omega⟩
  ·rw [aW6 hc]
   dsimp only
   rw [if_neg aY9]
   have m':=m.y1 hj fun t ht _=>by
    have:=ux t i2 (by omega) (by omega) hi
    rw [bX hi] at this
    omega
   refine aX6 (cU hj ?_)
   by_cases he:(j2 == 1)=true
   ·rw [if_pos he]
    exact aY3 (h1 _ _ _ _ _ _ _ q2 (m'.frst y0 hf (by simpa using he)))
   ·rw [if_neg he]
    have he:j2 ≠ 1:=by simpa using he
    split
    ·exact aY3 (h2 _ _ _ _ _ _ q2 ⟨m',i0,i1,by omega,by omega,by omega⟩)
    ·exact aY3 ⟨q2,_,_,_,_,_,rfl,m',i0,i1,by omega,by omega,by omega⟩
 ·rintro c2 st2 ⟨q2,i',j',o,p,q,rfl,m,i0,i1,j0,j1,pr⟩
  exact h2 _ _ _ _ _ _ q2 ⟨m,i0,i1,j0,j1,by omega⟩
theorem aw3 (c:c9 prog w A E s κ Ok rk) (hk:kindOf st=κ) {x y:Array Keyed}{Q:Array Keyed->SortSt->Prop} (ox:bE Ok x) (oy:bE Ok y) (sx:Sd rk x.toList) (sy:Sd rk y.toList) (x0:0 < x.size) (y0:0 < y.size)
  (hf:∀ t ∈ x.toList,rk y[0]<=rk t) (hl:∀ u ∈ y.toList,rk u<=rk x[x.size - 1])
  (h:∀ r st',Gq st st'->dX rk x y r->Q r st'):wpS (model prog w) A E s (vB x y) Q st:=by
 rw [aw0]
 refine aX6 (wpS_lift (bl2 ⟨rfl,aX6 (cU (by omega:x.size - 1 < x.size) ?_)⟩))
 have m0:MH rk x.toList y.toList (#[x[x.size - 1]]:Array Keyed).toList.reverse (x.size - 1) y.size:=by
  have mm:MH rk x.toList y.toList [] x.size y.size:=⟨by simp,by rw [bh5 (by simp),bb7]; exact sx,by rw [bh5 (by simp),bb7]; exact sy⟩
  have e:=nZ (x:=x) (i:=x.size - 1) (by omega)
  rw [show x.size - 1+1=x.size by omega] at e
  have:=mm.ofx (Nat.sub_le x.size 1) fun t ht u hu=>?_
  ·rw [<- e] at this; simpa using this
  ·rw [<- e,aX4] at hu
   subst hu
   exact hl t (bk9 ht)
 by_cases e1:(x.size - 1 == 0)=true
 ·rw [if_pos e1]
  exact aY3 (h _ st (Gq.refl st) (m0.done (.inl (by simpa using e1))))
 ·rw [if_neg e1]
  have e1:x.size - 1 ≠ 0:=by simpa using e1
  by_cases e2:(y.size == 1)=true
  ·rw [if_pos e2]
   exact aY3 (h _ st (Gq.refl st) (m0.frst y0 hf (by simpa using e2)))
  ·rw [if_neg e2]
   have e2:y.size ≠ 1:=by simpa using e2
   refine aX6 (wpS_get ?_)
   unfold G9
   refine aX6 (bk8 (be8
    (I:=fun n c st'=>Gq st st'/\∃ i j o mg,c=(none,i,j,o,mg)/\HB rk x y (n+1) i j o)
    (Q:=fun c st'=>Gq st st'/\∃ r i j o mg,c=(some r,i,j,o,mg)/\dX rk x y r) ?_ ?_ ⟨Gq.refl st,_,_,_,_,rfl,m0,by omega,by omega,by omega,by omega,by omega⟩) ?_)
   ·rintro n c1 st1 _ hn ⟨q1,i,j,o,mg,rfl,b⟩
    dsimp only
    refine aX6 (aw2 c hk ox oy sx sy y0 hf q1 b (fun r o' i' j' p q st' g md=>aY3 ⟨g,r,_,_,_,_,rfl,md⟩) fun i' j' o' p q st' g b'=>?_)
    refine aX6 (wpS_lift (bl2 ⟨rfl,?_⟩))
    refine aX6 (bk8 (aw1 c hk ox oy sx sy y0 hf g b') ?_)
    rintro c3 st3 ⟨q3,⟨r,i3,j3,o,mg,p,q,rfl,md⟩ | ⟨i3,j3,o,mg,p,q,rfl,b3⟩⟩
    ·exact aY3 ⟨q3,r,_,_,_,_,rfl,md⟩
    ·exact aX6 (qW q3 fun st4 q4=>aY3 ⟨q4,i3,j3,o,_,rfl,b3⟩)
   ·rintro c1 st1 ⟨q1,i,j,o,mg,rfl,b⟩
    have:=b.pr
    exact absurd this (by omega)
   ·rintro c1 st1 ⟨q1,r,i,j,o,mg,rfl,md⟩
    exact aY3 (h r _ q1 md)
end
theorem aw4 (i:Nat):mergeAt' i=(do
 let z <- get
 let (some (sa,na,pw),some (sb,nb,_)):=((pendingOf z)[i]?,(pendingOf z)[i+1]?) | unsupported "internal:list.sort.pending"
 set (SortSt.mk' (kindOf z) (arrOf z) (((pendingOf z).setIfInBounds i (sa,na+nb,pw)).eraseIdxIfInBounds (i+1)) (gallopOf z) (failedOf z))
 let some k <- jU false (<- elem' (arrOf z) sb) (arrOf z) sa na 0 | return false
 let (sa,na):=(sa+k,na - k)
 if na == 0 then return true
 let some nb <- jU true (<- elem' (arrOf z) (sa+na - 1)) (arrOf z) sb nb (nb - 1) | return false
 if nb == 0 then return true
 let x:=(arrOf z).extract sa sb
 let y:=(arrOf z).extract sb (sb+nb)
 let m <- if na<=nb then v7 x y else vB x y
 modify fun z=>setArr z (m.toList.zipIdx.foldl (fun a (p,j)=>a.setIfInBounds (sa+j) p) (arrOf z))
 return (failedOf (<- get)).isNone):=rfl
variable {rk : Keyed → Int}
theorem aw5 {σ:Type}{M:Model}{A:Around}{E:Value->Shared->Prop}{s:Shared}{a b:σ}{Q:PUnit->σ->Prop} (h:Q ⟨⟩ a):wpS M A E s (set a:StateT σ Sem PUnit) Q b:=by
 unfold wpS; rw [StateT.run_set]; exact aW7 ⟨rfl,h⟩
theorem J3 (o:Nat):∀ (m:List Keyed) (n:Nat) (a:Array Keyed) (t:Nat),o+n+m.length<=a.size->
  ((m.zipIdx n).foldl (fun a (p,j)=>a.setIfInBounds (o+j) p) a)[t]? = if o+n<=t/\t < o+n+m.length then m[t - (o+n)]? else a[t]?
 | [],n,a,t,_=>by
  show a[t]? = _
  rw [if_neg (fun z=>Nat.not_lt_of_ge z.1 z.2)]
 | p :: m,n,a,t,h=>by
  rw [List.zipIdx_cons,List.foldl_cons]
  have h':o+(n+1)+m.length<=(a.setIfInBounds (o+n) p).size:=by rw [Array.size_setIfInBounds]; simp at h; omega
  have ih:=J3 o m (n+1) (a.setIfInBounds (o+n) p) t h'
  refine ih.trans ?_
  have hs:o+n < a.size:=by simp at h; omega
  rw [Array.getElem?_setIfInBounds]
  by_cases e:o+n=t
  ·subst e
   rw [if_neg (by omega),if_pos rfl,if_pos hs,if_pos (by simp),Nat.sub_self]; rfl
  ·rw [if_neg e]
   by_cases c:o+n<=t/\t < o+n+(p :: m).length
   ·rw [if_pos c,if_pos (by simp at c; omega)]
    rw [show t - (o+n)=(t - (o+(n+1)))+1 by omega]; rfl
   ·rw [if_neg c,if_neg (by simp at c ⊢; omega)]
theorem J4 {a:Array Keyed}{lo hi:Nat} (u:Up rk a lo hi) (hh:hi<=a.size):Sd rk (a.extract lo hi).toList:=by
 unfold Sd
 rw [be5]
 intro i j hi' hj hij
 have h2:lo+j < hi:=by simp at hj; omega
 have:=u (lo+i) (lo+j) (by omega) (by omega) h2
 rw [bX (by omega:lo+i < a.size),bX (by omega:lo+j < a.size)] at this
 simpa using this
theorem J5 {a:Array Keyed}{lo mid hi:Nat} (u:Up rk a lo mid) (v:Up rk a mid hi) (h0:lo < mid) (h1:mid < hi) (h:Kr rk a (mid - 1)<=Kr rk a mid):Up rk a lo hi:=fun i j hi' hij hj=>by
 rcases bc5 j mid with z | z
 ·exact u i j hi' hij z
 ·rcases bc5 i mid with y | y
  ·have a1:=u i (mid - 1) hi' (by omega) (by omega)
   have a2:=v mid j (aX5 _) z hj
   omega
  ·exact v i j y hij hj
theorem J6 {a:Array Keyed}{lo hi t:Nat} (h:t < hi - lo) (hh:hi<=a.size):Kr rk (a.extract lo hi) t=Kr rk a (lo+t):=by
 refine kW ?_
 rw [Array.getElem?_extract_of_lt (by omega)]
 exact (getElem?_pos a (lo+t) (by omega)).symm
section
variable {κ : SortKind} {a0 : Array Keyed} {pd : Array (Nat × Nat × Nat)} {st : SortSt} {prog : Program} {w : World} {A : Around} {E : Value → Shared → Prop} {s : Shared} {Ok : Keyed → Prop}
theorem aw6 {a m:Array Keyed}{p x e:Nat} (hpx:p<=x) (hxe:x<=e) (he:e<=a.size) (md:dX rk (a.extract p x) (a.extract x e) m) :
  let r:=m.toList.zipIdx.foldl (fun a (q,j)=>a.setIfInBounds (p+j) q) a
  r.Perm a/\(∀ t,(t < p ∨ e<=t)->Kr rk r t=Kr rk a t)/\(∀ t t',p<=t->t<=t'->t' < e->Kr rk r t<=Kr rk r t')/\∀ t,p<=t->t < e->∃ t',p<=t'/\t' < e/\Kr rk r t=Kr rk a t':=by
 intro r
 have ml:m.toList.length=e - p:=by
  rw [md.1.length_eq]; simp; omega
 have g:∀ t,r[t]? = if p<=t/\t < e then m[t - p]? else a[t]?:=fun t=>by
  have:=J3 p m.toList 0 a t (by omega)
  rw [show r=(m.toList.zipIdx 0).foldl (fun a (q,j)=>a.setIfInBounds (p+j) q) a from rfl,this]
  simp only [Nat.add_zero,ml,show p+(e - p)=e by omega,bk4]
 have ex:(a.extract p x).toList ++ (a.extract x e).toList=(a.toList.take e).drop p:=by
  rw [kZ,kZ,bl5,bl5,bl5]
  rw [show x=p+(x - p) by omega,<- List.drop_drop,show p+(x - p) - p=x - p by omega,show e - (p+(x - p))=(e - p) - (x - p) by omega]
  have:=ba7 (x - p) ((a.toList.drop p).take (e - p))
  rw [List.take_take,bl5,Nat.min_eq_left (by omega)] at this
  exact this
 have rl:r.toList=a.toList.take p ++ (m.toList ++ a.toList.drop e):=by
  apply List.ext_getElem?
  intro t
  rw [bk4,g]
  rcases bc5 t p with z | z
  ·rw [if_neg (by omega),bi1 (by simp; omega),List.getElem?_take_of_lt z,bk4]
  ·rw [bj6 (by simp; omega)]
   have lp:(a.toList.take p).length=p:=by simp; omega
   rw [lp]
   rcases bc5 t e with y | y
   ·rw [if_pos ⟨z,y⟩,bi1 (by omega),bk4]
   ·rw [if_neg (by omega),bj6 (by omega),ml,List.getElem?_drop,bk4]
    congr 1; omega
 have mp:m.toList.Perm ((a.toList.take e).drop p):=ex ▸ md.1
 refine⟨?_,fun t ht=>kW (by rw [g,if_neg (by omega)]),fun t t' h1 h2 h3=>?_,fun t h1 h2=>?_⟩
 ·refine Array.perm_iff_toList_perm.mpr ?_
  rw [rl]
  have:a.toList=a.toList.take p ++ ((a.toList.take e).drop p ++ a.toList.drop e):=by
   rw [vF _ (by omega:p<=e)]; exact (ba7 p _).symm
  conv=>rhs; rw [this]
  exact (mp.append_right _).append_left _
 ·have e1:Kr rk r t=Kr rk m (t - p):=kW (by rw [g,if_pos (by omega)])
  have e2:Kr rk r t'=Kr rk m (t' - p):=kW (by rw [g,if_pos (by omega)])
  rw [e1,e2]
  have ms:m.size=e - p:=by rw [<- ml]; simp
  exact md.2.up 0 m.size (aX5 _) (t - p) (t' - p) (by omega) (by omega) (by omega)
 ·have e1:Kr rk r t=Kr rk m (t - p):=kW (by rw [g,if_pos (by omega)])
  have ms:m.size=e - p:=by rw [<- ml]; simp
  have hm:t - p < m.size:=by omega
  have mm:m[t - p] ∈ (a.toList.take e).drop p:=mp.mem_iff.mp (by simp)
  obtain ⟨t',q1,q2,q3,q4⟩:=nY (rk:=rk) mm
  exact⟨t',q1,q2,by rw [e1,bX hm]; exact q4⟩
theorem aw7 (c:c9 prog w A E s κ Ok rk) (o:bE Ok a0) (b:SB κ a0 pd st) {i sa na pw sb nb pw':Nat}{Q:Bool->SortSt->Prop} (e1:pd[i]? = some (sa,na,pw)) (e2:pd[i+1]? = some (sb,nb,pw')) (hs:sb=sa+na) (n0:0 < na) (m0:0 < nb) (hz:sb+nb<=a0.size)
  (u:Up rk (arrOf st) sa sb) (v:Up rk (arrOf st) sb (sb+nb))
  (h:∀ st',SB κ a0 ((pd.setIfInBounds i (sa,na+nb,pw)).eraseIdxIfInBounds (i+1)) st'->Up rk (arrOf st') sa (sb+nb)->(∀ t,(t < sa ∨ sb+nb<=t)->Kr rk (arrOf st') t=Kr rk (arrOf st) t)->Q true st'):wpS (model prog w) A E s (mergeAt' i) Q st:=by
 have sz:=b.sz
 rw [aw4]
 refine aX6 (wpS_get ?_)
 rw [b.pd,e1,e2]
 dsimp only
 refine aX6 (aw5 ?_)
 generalize hst:SortSt.mk' (kindOf st) (arrOf st) ((pd.setIfInBounds i (sa,na+nb,pw)).eraseIdxIfInBounds (i+1)) (gallopOf st) (failedOf st)=st1
 have b1:SB κ a0 ((pd.setIfInBounds i (sa,na+nb,pw)).eraseIdxIfInBounds (i+1)) st1:=by rw [<- hst]; exact⟨b.pm,b.kd,b.ok,rfl⟩
 have ar:arrOf st1=arrOf st:=by rw [<- hst]
 have oa:=b.all o
 have hsb:sb < (arrOf st).size:=by omega
 refine aX6 (cU hsb (aX6 (m9 c b1.kd (oa _ (ba9 hsb)) oa n0 (by omega) (hs ▸ u) fun k k1 k2 k3=>?_)))
 dsimp only
 have k2':∀ t,sa<=t->t < sa+k->Kr rk (arrOf st) t<=Kr rk (arrOf st) sb:=fun t t1 t2=>by
  have:=k2 (t - sa) (by omega)
  rw [mC,aY7,show sa+(t - sa)=t by omega] at this
  rw [bX hsb]; exact this
 have k3':∀ t,sa+k<=t->t < sb->Kr rk (arrOf st) sb < Kr rk (arrOf st) t:=fun t t1 t2=>by
  have:=k3 (t - sa) (by omega) (by omega)
  rw [mC,bh3,show sa+(t - sa)=t by omega] at this
  rw [bX hsb]; omega
 by_cases ek:(na - k == 0)=true
 ·rw [if_pos ek]
  have ek:na - k=0:=by simpa using ek
  refine aY3 (h st1 b1 ?_ fun t _=>by rw [ar])
  rw [ar]
  exact J5 u v (by omega) (by omega) (k2' (sb - 1) (by omega) (by omega))
 ·rw [if_neg ek]
  have ek:na - k ≠ 0:=by simpa using ek
  have el:sa+k+(na - k) - 1=sb - 1:=by omega
  rw [el]
  have hsl:sb - 1 < (arrOf st).size:=by omega
  refine aX6 (cU hsl (aX6 (m9 c b1.kd (oa _ (ba9 hsl)) oa (by omega) (by omega) v fun l l1 l2 l3=>?_)))
  dsimp only
  have l2':∀ t,sb<=t->t < sb+l->Kr rk (arrOf st) t < Kr rk (arrOf st) (sb - 1):=fun t t1 t2=>by
   have:=l2 (t - sb) (by omega)
   rw [mD,aY7,show sb+(t - sb)=t by omega] at this
   rw [bX hsl]; exact this
  have l3':∀ t,sb+l<=t->t < sb+nb->Kr rk (arrOf st) (sb - 1)<=Kr rk (arrOf st) t:=fun t t1 t2=>by
   have:=l3 (t - sb) (by omega) (by omega)
   rw [mD,bh3,show sb+(t - sb)=t by omega] at this
   rw [bX hsl]; omega
  by_cases en:(l == 0)=true
  ·rw [if_pos en]
   have en:l=0:=by simpa using en
   subst en
   refine aY3 (h st1 b1 ?_ fun t _=>by rw [ar])
   rw [ar]
   exact J5 u v (by omega) (by omega) (l3' sb (by omega) (by omega))
  ·rw [if_neg en]
   have en:l ≠ 0:=by simpa using en
   have sub:∀ p e,bE Ok ((arrOf st).extract p e):=fun p e z hz=>oa z (by
    have:z ∈ ((arrOf st).extract p e).toList:=Array.mem_toList_iff.mpr hz
    rw [kZ] at this
    exact Array.mem_toList_iff.mp (bk9 (List.mem_of_mem_drop this)))
   have sx:Sd rk ((arrOf st).extract (sa+k) sb).toList:=J4 (fun i j h1 h2 h3=>u i j (by omega) h2 h3) (by omega)
   have sy:Sd rk ((arrOf st).extract sb (sb+l)).toList:=J4 (fun i j h1 h2 h3=>v i j h1 h2 (by omega)) (by omega)
   have x0:0 < ((arrOf st).extract (sa+k) sb).size:=by simp; omega
   have y0:0 < ((arrOf st).extract sb (sb+l)).size:=by simp; omega
   have hf:∀ t ∈ ((arrOf st).extract (sa+k) sb).toList,rk ((arrOf st).extract sb (sb+l))[0]<=rk t:=fun t ht=>by
    rw [kZ] at ht
    obtain ⟨t',q1,q2,q3,q4⟩:=nY (rk:=rk) ht
    rw [q4,<- bX (rk:=rk) y0,J6 (by omega) (by omega)]
    exact Int.le_of_lt (k3' t' q1 q2)
   have hl:∀ t ∈ ((arrOf st).extract sb (sb+l)).toList,rk t<=rk ((arrOf st).extract (sa+k) sb)[((arrOf st).extract (sa+k) sb).size - 1]:=fun t ht=>by
    rw [kZ] at ht
    obtain ⟨t',q1,q2,q3,q4⟩:=nY (rk:=rk) ht
    have e:((arrOf st).extract (sa+k) sb).size=sb - (sa+k):=by simp; omega
    rw [q4,<- bX (rk:=rk) (by omega),J6 (by omega) (by omega),e,show sa+k+(sb - (sa+k) - 1)=sb - 1 by omega]
    exact Int.le_of_lt (l2' t' q1 q2)
   have fin:∀ (m:Array Keyed) (st2:SortSt),Gq st1 st2->dX rk ((arrOf st).extract (sa+k) sb) ((arrOf st).extract sb (sb+l)) m->
     wpS (model prog w) A E s (do modify (fun z=>setArr z (m.toList.zipIdx.foldl (fun a (p,j)=>a.setIfInBounds (sa+k+j) p) (arrOf z))); return (failedOf (<- get)).isNone) Q st2:=fun m st2 g md=>by
    have b2:SB κ a0 ((pd.setIfInBounds i (sa,na+nb,pw)).eraseIdxIfInBounds (i+1)) st2:=⟨by rw [g.ar]; exact b1.pm,g.kd.trans b1.kd,g.ok.trans b1.ok,g.pd.trans b1.pd⟩
    have a2:arrOf st2=arrOf st:=g.ar.trans ar
    obtain ⟨r1,r2,r3,r4⟩:=aw6 (by omega) (by omega) (by omega) md
    generalize hr:m.toList.zipIdx.foldl (fun a (q,j)=>a.setIfInBounds (sa+k+j) q) (arrOf st)=r at r1 r2 r3 r4
    refine aX6 (wpS_modify (aX6 (wpS_get (aY3 ?_))))
    have b3:=b2.put (xs:=m.toList.zipIdx.foldl (fun a (q,j)=>a.setIfInBounds (sa+k+j) q) (arrOf st2)) (by rw [a2,hr]; exact r1)
    have er:arrOf (setArr st2 (m.toList.zipIdx.foldl (fun a (q,j)=>a.setIfInBounds (sa+k+j) q) (arrOf st2)))=r:=by rw [<- hr,a2]
    have tr:(failedOf (setArr st2 (m.toList.zipIdx.foldl (fun a (q,j)=>a.setIfInBounds (sa+k+j) q) (arrOf st2)))).isNone=true:=by rw [b3.ok]; rfl
    rw [tr]
    refine h _ b3 (fun i j hi hij hj=>?_) fun t ht=>?_
    ·rw [er]
     have bl:∀ t,sa<=t->t < sa+k->∀ t',sa+k<=t'->t' < sb+l->Kr rk (arrOf st) t<=Kr rk (arrOf st) t':=fun t t1 t2 t' t3 t4=>by
      rcases bc5 t' sb with z | z
      ·exact u t t' t1 (by omega) z
      ·have a1:=k2' t t1 t2
       have a2:=v sb t' (aX5 _) z (by omega)
       omega
     have br:∀ t,sb+l<=t->t < sb+nb->∀ t',sa+k<=t'->t' < sb+l->Kr rk (arrOf st) t'<=Kr rk (arrOf st) t:=fun t t1 t2 t' t3 t4=>by
      rcases bc5 t' sb with z | z
      ·have a1:=u t' (sb - 1) (by omega) (by omega) (by omega)
       have a2:=l3' t t1 t2
       omega
      ·exact v t' t z (by omega) t2
     have blr:∀ t,sa<=t->t < sa+k->∀ t',sb+l<=t'->t' < sb+nb->Kr rk (arrOf st) t<=Kr rk (arrOf st) t':=fun t t1 t2 t' t3 t4=>by
      have a1:=bl t t1 t2 (sb - 1) (by omega) (by omega)
      have a2:=l3' t' t3 t4
      omega
     rcases bc5 i (sa+k) with z | z
     ·rw [r2 i (.inl z)]
      rcases bc5 j (sa+k) with y | y
      ·rw [r2 j (.inl y)]; exact u i j hi hij (by omega)
      ·rcases bc5 j (sb+l) with x | x
       ·obtain ⟨t',q1,q2,q3⟩:=r4 j y x
        rw [q3]; exact bl i hi z t' q1 q2
       ·rw [r2 j (.inr x)]; exact blr i hi z j x hj
     ·rcases bc5 j (sb+l) with x | x
      ·exact r3 i j z hij x
      ·rw [r2 j (.inr x)]
       rcases bc5 i (sb+l) with y | y
       ·obtain ⟨t',q1,q2,q3⟩:=r4 i z y
        rw [q3]; exact br j x hj t' q1 q2
       ·rw [r2 i (.inr y)]; exact v i j (by omega) hij hj
    ·rw [er]; exact r2 t (by omega)
   by_cases hle:na - k<=l
   ·rw [if_pos hle]
    exact aX6 (av9 c b1.kd (sub _ _) (sub _ _) sx sy x0 y0 hf hl fun m st2 g md=>fin m st2 g md)
   ·rw [if_neg hle]
    exact aX6 (aw3 c b1.kd (sub _ _) (sub _ _) sx sy x0 y0 hf hl fun m st2 g md=>fin m st2 g md)
end
noncomputable def Ch:Nat->List (Nat × Nat)->Nat->Prop
 | a,[],b=>a=b
 | a,(p,n) :: r,b=>p=a/\0 < n/\Ch (a+n) r b
theorem Ch.split:∀ {l l':List (Nat × Nat)}{a b:Nat},Ch a (l ++ l') b->∃ m,Ch a l m/\Ch m l' b
 | [],_,a,_,h=>⟨a,rfl,h⟩
 | (p,n) :: l,l',a,b,h=>by
  obtain ⟨h1,h2,h3⟩:=h
  obtain ⟨m,q1,q2⟩:=Ch.split h3
  exact⟨m,⟨h1,h2,q1⟩,q2⟩
theorem Ch.join:∀ {l l':List (Nat × Nat)}{a m b:Nat},Ch a l m->Ch m l' b->Ch a (l ++ l') b
 | [],_,a,m,_,h,h'=>by cases (show a=m from h); exact h'
 | (p,n) :: l,l',a,m,b,h,h'=>⟨h.1,h.2.1,Ch.join h.2.2 h'⟩
theorem Ch.len:∀ {l:List (Nat × Nat)}{a b:Nat},Ch a l b->a+l.length<=b
 | [],a,b,h=>by cases (show a=b from h); simp
 | (p,n) :: l,a,b,h=>by
  have:=Ch.len h.2.2
  have:=h.2.1
  simp; omega
theorem Ch.mem:∀ {l:List (Nat × Nat)}{a b:Nat}{r:Nat × Nat},Ch a l b->r ∈ l->a<=r.1/\r.1+r.2<=b/\0 < r.2
 | (p,n) :: l,a,b,r,h,hr=>by
  obtain ⟨h1,h2,h3⟩:=h
  have hb:=Ch.len h3
  rcases aW9.mp hr with e | e
  ·subst e
   have h1:p=a:=h1
   refine⟨?_,?_,h2⟩
   ·show a<=p; omega
   ·show p+n<=b; omega
  ·have:=Ch.mem h3 e
   exact⟨by omega,this.2.1,this.2.2⟩
noncomputable def sk (pd:Array (Nat × Nat × Nat)):List (Nat × Nat):=pd.toList.map fun r=>(r.1,r.2.1)
theorem rA (pd:Array (Nat × Nat × Nat)):(sk pd).length=pd.size:=by simp [sk]
structure Rn (rk:Keyed->Int) (a:Array Keyed) (l:List (Nat × Nat)) (lo:Nat):Prop where
 ch:Ch 0 l lo
 up:∀ r ∈ l,Up rk a r.1 (r.1+r.2)
variable {rk : Keyed → Int} {κ : SortKind} {a0 : Array Keyed} {pd : Array (Nat × Nat × Nat)} {st : SortSt} {prog : Program} {w : World} {A : Around} {E : Value → Shared → Prop} {s : Shared} {Ok : Keyed → Prop}
theorem Rn.same {a b:Array Keyed}{l:List (Nat × Nat)}{lo:Nat} (h:Rn rk a l lo) (e:∀ t,t < lo->Kr rk b t=Kr rk a t):Rn rk b l lo:=⟨h.ch,fun r hr i j hi hij hj=>by
 have:=(h.ch.mem hr).2.1
 rw [e i (by omega),e j (by omega)]
 exact h.up r hr i j hi hij hj⟩
theorem J7 (c:c9 prog w A E s κ Ok rk) (o:bE Ok a0) (b:SB κ a0 pd st) {i lo:Nat}{Q:Bool->SortSt->Prop} (hi:i+1 < pd.size) (hz:lo<=a0.size) (rn:Rn rk (arrOf st) (sk pd) lo)
  (h:∀ pd' st',SB κ a0 pd' st'->pd'.size+1=pd.size->Rn rk (arrOf st') (sk pd') lo->(∀ t,lo<=t->Kr rk (arrOf st') t=Kr rk (arrOf st) t)->Q true st'):wpS (model prog w) A E s (mergeAt' i) Q st:=by
 obtain ⟨⟨sa,na,pw⟩,e1⟩:∃ r,pd[i]? = some r:=⟨pd[i],getElem?_pos pd i (by omega)⟩
 obtain ⟨⟨sb,nb,pw'⟩,e2⟩:∃ r,pd[i+1]? = some r:=⟨pd[i+1],getElem?_pos pd (i+1) hi⟩
 have d1:pd.toList=pd.toList.take i ++ (sa,na,pw) :: (sb,nb,pw') :: pd.toList.drop (i+2):=by
  have hl:i < pd.toList.length:=by simp; omega
  have hl2:i+1 < pd.toList.length:=by simpa using hi
  have g1:pd.toList[i]=(sa,na,pw):=by rw [getElem?_pos pd i (by omega)] at e1; simpa using e1
  have g2:pd.toList[i+1]=(sb,nb,pw'):=by rw [getElem?_pos pd (i+1) hi] at e2; simpa using e2
  have:=ba7 i pd.toList
  rw [bi2 hl,bi2 hl2,g1,g2] at this
  exact this.symm
 have li:(pd.toList.take i).length=i:=by simp; omega
 have d2:((pd.setIfInBounds i (sa,na+nb,pw)).eraseIdxIfInBounds (i+1)).toList=pd.toList.take i ++ (sa,na+nb,pw) :: pd.toList.drop (i+2):=by
  have e:((pd.setIfInBounds i (sa,na+nb,pw)).eraseIdxIfInBounds (i+1)).toList=(pd.toList.set i (sa,na+nb,pw)).eraseIdx (i+1):=by
   unfold Array.eraseIdxIfInBounds
   rw [dif_pos (by rw [Array.size_setIfInBounds]; exact hi),Array.toList_eraseIdx,Array.toList_setIfInBounds]
  rw [e]
  conv=>lhs; rw [d1]
  rw [List.set_append_right _ _ (by omega),li,Nat.sub_self,List.set_cons_zero,List.eraseIdx_append_of_length_le (by omega),li,show i+1 - i=1 by omega]
  rfl
 have k1:sk pd=(pd.toList.take i).map (fun r=>(r.1,r.2.1)) ++ (sa,na) :: (sb,nb) :: (pd.toList.drop (i+2)).map (fun r=>(r.1,r.2.1)):=by
  unfold sk; conv=>lhs; rw [d1]
  simp
 have k2:sk ((pd.setIfInBounds i (sa,na+nb,pw)).eraseIdxIfInBounds (i+1))=(pd.toList.take i).map (fun r=>(r.1,r.2.1)) ++ (sa,na+nb) :: (pd.toList.drop (i+2)).map (fun r=>(r.1,r.2.1)):=by
  unfold sk; rw [d2]
  simp
 have ch:=rn.ch
 rw [k1] at ch
 obtain ⟨m,c1,c2⟩:=ch.split
 obtain ⟨f1,f2,f3,f4,f5⟩:=c2
 have f1:sa=m:=f1
 have f3:sb=m+na:=f3
 have up:=rn.up
 rw [k1] at up
 have lo2:=f5.len
 refine aw7 c o b e1 e2 (by omega) f2 f4 (by omega) (by have:=up (sa,na) (by simp); rw [f3,<- f1]; exact this) (up (sb,nb) (by simp)) fun st' b' u' fr=>h _ st' b' ?_ ⟨?_,?_⟩ fun t ht=>fr t (by omega)
 ·rw [<- rA,<- rA,k1,k2]; simp; omega
 ·rw [k2]
  refine c1.join ⟨f1,by omega,?_⟩
  rw [<- Nat.add_assoc]; exact f5
 ·intro r hr
  rw [k2] at hr
  rcases ba2.mp hr with z | z
  ·intro p q h1 h2 h3
   have:=(c1.mem z).2.1
   rw [fr p (by omega),fr q (by omega)]
   exact up r (bb1 _ z) p q h1 h2 h3
  ·rcases aW9.mp z with z | z
   ·subst z
    show Up rk (arrOf st') sa (sa+(na+nb))
    rw [show sa+(na+nb)=sb+nb by omega]; exact u'
   ·intro p q h1 h2 h3
    have:=(f5.mem z).1
    rw [fr p (by omega),fr q (by omega)]
    exact up r (aZ5 _ (aX0 _ (aX0 _ z))) p q h1 h2 h3
noncomputable abbrev RS:=Option Unit × Nat
noncomputable def J8 (sz pw:Nat):StateT SortSt Sem (Option Unit × Unit):=forIn [0:sz] ((none,()):Option Unit × Unit) fun _ _=>do
 let z <- get
 match (if (pendingOf z).size > 1 then (pendingOf z)[(pendingOf z).size - 2]? else none) with
 | some (_,_,o)=>if o<=pw then pure (.done (none,())) else do
   let q <- mergeAt' ((pendingOf z).size - 2)
   if (!q)=true then pure (.done (some (),())) else pure (.yield (none,()))
 | _=>pure (.done (none,()))
noncomputable def jn (sz lo n:Nat):StateT SortSt Sem (ForInStep RS):=do
 let z <- get
 match (pendingOf z).back? with
 | some (s1,n1,_)=>do
  let r <- J8 sz (power' sz (2 * s1+n1) (2 * s1+n1+n1+n) sz)
  match r.1 with
  | some u=>pure (.done (some u,lo))
  | none=>do
   modify fun s=>setPending s ((pendingOf s).modify ((pendingOf s).size - 1) fun x=>(x.1,x.2.1,power' sz (2 * s1+n1) (2 * s1+n1+n1+n) sz))
   modify fun s=>setPending s ((pendingOf s).push (lo,n,0))
   pure (.yield (none,lo+n))
 | _=>do
  modify fun s=>setPending s ((pendingOf s).push (lo,n,0))
  pure (.yield (none,lo+n))
noncomputable def J9 (sz mr lo:Nat):StateT SortSt Sem (ForInStep RS):=if lo >= sz then pure (.done (none,lo)) else do
 match <- countRun' lo (sz - lo) with
 | some n=>
  if n < mr then
   liftM (rule "list.sort.binary-insertion")
   let q <- binarySort' lo (min (sz - lo) mr) n
   if (!q)=true then pure (.done (some (),lo)) else jn sz lo (min (sz - lo) mr)
  else jn sz lo n
 | _=>pure (.done (some (),lo))
noncomputable def K0 (sz:Nat):StateT SortSt Sem (Option Unit × Unit):=forIn [0:sz] ((none,()):Option Unit × Unit) fun _ _=>do
 let z <- get
 if (pendingOf z).size<=1 then pure (.done (none,())) else do
  let q <- mergeAt' (if ((if (pendingOf z).size - 2 > 0 then (pendingOf z)[(pendingOf z).size - 2 - 1]?.map (·.2.1) else none).any (· < ((pendingOf z)[(pendingOf z).size - 2+1]?.elim 0 (·.2.1))))=true then (pendingOf z).size - 2 - 1 else (pendingOf z).size - 2)
  if (!q)=true then pure (.done (some (),())) else pure (.yield (none,()))
theorem aw8:sortRuns'=(do
 let z <- get
 let r <- (forIn [0:(arrOf z).size] ((none,0):RS) fun _ r=>J9 (arrOf z).size (minRun' (arrOf z).size (arrOf z).size 0) r.2)
 match r.1 with
 | some u=>pure u
 | none=>do
  let q <- K0 (arrOf z).size
  match q.1 with
  | some u=>pure u
  | none=>pure ()):=by kernel_rfl
theorem K1 {lo nn:Nat} (n1:0 < nn) {pd:Array (Nat × Nat × Nat)}{a:Array Keyed} (r:Rn rk a (sk pd) lo) (u:Up rk a lo (lo+nn)):Rn rk a (sk (pd.push (lo,nn,0))) (lo+nn):=by
 have e:sk (pd.push (lo,nn,0))=sk pd ++ [(lo,nn)]:=by simp [sk]
 refine⟨by rw [e]; exact r.ch.join ⟨rfl,n1,rfl⟩,fun q hq=>?_⟩
 rw [e] at hq
 rcases ba2.mp hq with z | z
 ·exact r.up q z
 ·rw [aX4] at z
  subst z
  exact u
theorem K2 (c:c9 prog w A E s κ Ok rk) (o:bE Ok a0) (b:SB κ a0 pd st) {lo n:Nat}{Q:ForInStep RS->SortSt->Prop} (n1:1<=n) (n2:lo+n<=a0.size) (rn:Rn rk (arrOf st) (sk pd) lo) (u:Up rk (arrOf st) lo (lo+n))
  (h:∀ pd' st',SB κ a0 pd' st'->Rn rk (arrOf st') (sk pd') (lo+n)->Q (.yield (none,lo+n)) st'):wpS (model prog w) A E s (jn a0.size lo n) Q st:=by
 unfold jn
 refine aX6 (wpS_get ?_)
 rw [b.pd]
 cases hb:pd.back? with
 | none=>exact aX6 (wpS_modify (aY3 (h (pd.push (lo,n,0)) _ ⟨b.pm,b.kd,b.ok,by show (pendingOf st).push _=_; rw [b.pd]⟩ (K1 n1 rn u))))
 | some q=>
  obtain ⟨s1,m1,q3⟩:=q
  dsimp only
  generalize power' a0.size (2 * s1+m1) (2 * s1+m1+m1+n) a0.size=pw
  unfold J8
  refine aX6 (bk8 (be8
   (I:=fun _ r st'=>r=(none,())/\∃ pd,SB κ a0 pd st'/\Rn rk (arrOf st') (sk pd) lo/\Up rk (arrOf st') lo (lo+n))
   (Q:=fun r st'=>r=(none,())/\∃ pd,SB κ a0 pd st'/\Rn rk (arrOf st') (sk pd) lo/\Up rk (arrOf st') lo (lo+n)) ?_ (fun _ _ z=>z) ⟨rfl,pd,b,rn,u⟩) ?_)
  ·rintro t r st4 _ ht ⟨rfl,pd4,b4,r4,u4⟩
   refine aX6 (wpS_get ?_)
   rw [b4.pd]
   cases ho:(if pd4.size > 1 then pd4[pd4.size - 2]? else none) with
   | none=>exact aY3 ⟨rfl,pd4,b4,r4,u4⟩
   | some z=>
    obtain ⟨z1,z2,z3⟩:=z
    have h1:pd4.size > 1:=by
     by_cases y:pd4.size > 1
     ·exact y
     ·rw [if_neg y] at ho; cases ho
    dsimp only
    by_cases hp:z3<=pw
    ·rw [if_pos hp]
     exact aY3 ⟨rfl,pd4,b4,r4,u4⟩
    ·rw [if_neg hp]
     refine aX6 (J7 c o b4 (by omega) (by omega) r4 fun pd5 st5 b5 _ r5 f5=>?_)
     exact aY3 ⟨rfl,pd5,b5,r5,fun i j hi hij hj=>by rw [f5 i hi,f5 j (by omega)]; exact u4 i j hi hij hj⟩
  ·rintro r st4 ⟨rfl,pd4,b4,r4,u4⟩
   refine aX6 (wpS_modify (aX6 (wpS_modify (aY3 ?_))))
   have e:sk (pd4.modify (pd4.size - 1) fun x=>(x.1,x.2.1,pw))=sk pd4:=by
    unfold sk
    rw [Array.toList_modify]
    apply List.ext_getElem?
    intro t
    rw [aX1,aX1,List.getElem?_modify]
    cases pd4.toList[t]? with
    | none=>simp
    | some v=>by_cases y:pd4.size - 1=t <;> simp [y]
   refine h ((pd4.modify (pd4.size - 1) fun x=>(x.1,x.2.1,pw)).push (lo,n,0)) _ ⟨b4.pm,b4.kd,b4.ok,?_⟩ (K1 n1 (by rw [e]; exact r4) u4)
   show ((pendingOf st4).modify ((pendingOf st4).size - 1) fun x=>(x.1,x.2.1,pw)).push _=_
   rw [b4.pd]
theorem aw9 (c:c9 prog w A E s κ Ok rk) (o:bE Ok a0) (b:SB κ a0 #[] st) {Q:Unit->SortSt->Prop} (h2:1<=a0.size)
  (h:∀ st',(arrOf st').Perm a0->failedOf st'=none->Up rk (arrOf st') 0 a0.size->Q () st'):wpS (model prog w) A E s sortRuns' Q st:=by
 rw [aw8]
 refine aX6 (wpS_get ?_)
 rw [b.sz]
 generalize minRun' a0.size a0.size 0=mr
 refine aX6 (bk8 (be8
  (I:=fun x r st'=>∃ lo pd,r=(none,lo)/\x<=lo/\lo<=a0.size/\SB κ a0 pd st'/\Rn rk (arrOf st') (sk pd) lo)
  (Q:=fun r st'=>∃ pd,r=(none,a0.size)/\SB κ a0 pd st'/\Rn rk (arrOf st') (sk pd) a0.size) ?_ ?_ ⟨0,#[],rfl,aX5 _,bf0 _,b,⟨rfl,fun r hr=>absurd hr (by simp [sk])⟩⟩) ?_)
 ·rintro x r st1 _ hx ⟨lo,pd,rfl,xl,lz,b1,rn⟩
  unfold J9
  dsimp only
  by_cases hd:lo >= a0.size
  ·rw [if_pos hd]
   have e:lo=a0.size:=by omega
   subst e
   exact aY3 ⟨pd,rfl,b1,rn⟩
  ·rw [if_neg hd]
   refine aX6 (av2 c o b1 (by omega) (by omega) fun n st2 b2 n1 n2 u2 l2=>?_)
   have rn2:=rn.same l2
   dsimp only
   by_cases hmr:n < mr
   ·rw [if_pos hmr]
    refine aX6 (wpS_lift (bl2 ⟨rfl,?_⟩))
    refine aX6 (av3 c o b2 (by omega) (by omega) u2 fun st3 b3 u3 l3=>?_)
    rw [if_neg (by decide)]
    exact K2 c o b3 (by omega) (by omega) (rn2.same l3) u3 fun pd' st' b' r'=>⟨_,pd',rfl,by omega,by omega,b',r'⟩
   ·rw [if_neg hmr]
    exact K2 c o b2 n1 (by omega) rn2 u2 fun pd' st' b' r'=>⟨lo+n,pd',rfl,by omega,by omega,b',r'⟩
 ·rintro r st1 ⟨lo,pd,rfl,xl,lz,b1,rn⟩
  have e:lo=a0.size:=by omega
  subst e
  exact⟨pd,rfl,b1,rn⟩
 ·rintro r st1 ⟨pd,rfl,b1,rn⟩
  dsimp only
  unfold K0
  refine aX6 (bk8 (be8
   (I:=fun t r st'=>r=(none,())/\∃ pd,SB κ a0 pd st'/\Rn rk (arrOf st') (sk pd) a0.size/\(pd.size+t<=a0.size ∨ pd.size<=1))
   (Q:=fun r st'=>r=(none,())/\∃ pd,SB κ a0 pd st'/\Rn rk (arrOf st') (sk pd) a0.size/\pd.size<=1) ?_ ?_ ⟨rfl,pd,b1,rn,.inl (by have:=rn.ch.len; rw [rA] at this; omega)⟩) ?_)
  ·rintro t r st2 _ ht ⟨rfl,pd,b2,rn2,pr⟩
   refine aX6 (wpS_get ?_)
   rw [b2.pd]
   by_cases h1:pd.size<=1
   ·rw [if_pos h1]
    exact aY3 ⟨rfl,pd,b2,rn2,h1⟩
   ·rw [if_neg h1]
    refine aX6 (J7 c o b2 ?_ (aX5 _) rn2 fun pd' st3 b3 sz3 rn3 _=>?_)
    ·split <;> split <;> omega
    ·exact aY3 ⟨rfl,pd',b3,rn3,by omega⟩
  ·rintro r st2 ⟨rfl,pd,b2,rn2,pr⟩
   exact⟨rfl,pd,b2,rn2,by omega⟩
  ·rintro r st2 ⟨rfl,pd,b2,rn2,pr⟩
   refine aY3 (h st2 b2.pm b2.ok ?_)
   have ch:=rn2.ch
   have up:=rn2.up
   rw [<- rA] at pr
   cases e:sk pd with
   | nil=>rw [e] at ch; exact absurd (show 0=a0.size from ch) (by omega)
   | cons r l=>
    rw [e] at ch up pr
    have el:l = []:=List.eq_nil_of_length_eq_zero (by have:=pr; rw [ba0] at this; omega)
    subst el
    obtain ⟨p,n⟩:=r
    obtain ⟨q1,q2,q3⟩:=ch
    have q1:p=0:=q1
    have q3:0+n=a0.size:=q3
    subst q1
    have:=up (0,n) (by simp)
    rw [<- q3]; exact this
end SO
namespace L2
open PySem PySem.Spec PyProof.Rows SO
noncomputable abbrev dD (h:Heap) (a:Addr) (vs:List Value):Heap:=((h.update a (Obj.mapSeq fun _=>#[])).push (seqObj "tuple" vs.toArray 0)).push (seqObj "list" #[] 0)
noncomputable abbrev fV (h:Heap) (vs:List Value):Heap:=((h.push (seqObj "list" #[] 0)).update h.objs.size (Obj.mapSeq (· ++ vs.toArray))).push (seqObj "list" vs.toArray 0)
theorem ax0 {h:Heap}{vs:List Value}{b:Addr}{o:Obj} (e:h.get? b=some o):(fV h vs).get? b=some o:=by
 have l:=aX8 e
 refine aW4 _ ?_
 rw [Heap.get?_update_ne _ _ _ _ (aZ6 l)]
 exact aW4 _ e
theorem K3 {h:Heap}{vs:List Value}{a b:Addr}{o:Obj} (hb:b ≠ a) (e:h.get? b=some o):(dD h a vs).get? b=some o:=by
 refine aW4 _ (aW4 _ ?_)
 rw [Heap.get?_update_ne _ _ _ _ hb]; exact e
theorem K4 {prog:Program}{w:World}{A:Around}{E:Value->Shared->Prop}{s:Shared}{a:Addr}{vs:List Value}{n:Nat}{P:PySem.Fin->Shared->Prop}{κ:SortKind}{Ok:Keyed->Prop}{rk:Keyed->Int}
  (e:s.heap.get? a=some (seqObj "list" vs.toArray n)) (h2:2<=vs.length) (big:vs.length<=sizeLine)
  (hk:∀ Q:SortKind->Shared->Prop,Q κ { s with heap:=dD s.heap a vs }->wpAny (model prog w) A (keyKind' vs.toArray) Q E { s with heap:=dD s.heap a vs })
  (c:c9 prog w A E { s with heap:=dD s.heap a vs } κ Ok rk) (o:∀ v ∈ vs,Ok (v,v))
  (q:∀ out:List Value,out.Perm vs->out.Pairwise (fun u v=>rk (u,u)<=rk (v,v))->P (.done (.ret .none)) { s with heap:=sortedHeap s.heap a vs out.toArray }):wpAny (model prog w) A (Builtin.«list.sort» ⟨[.ref a],[]⟩) P E s:=by
 have la:=aX8 e
 have cc : ¬ vs.toArray.size < 2:=by simpa using h2
 obtain ⟨k,ek⟩:∃ k,(s.heap.update a (Obj.mapSeq fun _=>#[])).get? a=some (seqObj "list" #[] k):=⟨_,get?_update_seq e fun _=>#[]⟩
 have there:(dD s.heap a vs).get? a=some (seqObj "list" #[] k):=aW4 _ (aW4 _ ek)
 rw [list_sort_plain]
 apply aW2
 apply listItems_at e rfl
 apply aW2
 refine listUpdate_at e rfl ?_ (by simpa using big) (bf0 _)
 apply aW2
 apply seqEpoch_at ek rfl
 apply aW2
 refine wpAny_newTuple ?_ big
 apply aW2
 refine wpAny_newList ?_ (bf0 _)
 apply bf7
 simp only [cc,be4]
 apply aW2
 refine hk _ ?_
 have zl:(vs.toArray.zip vs.toArray).toList=vs.zip vs:=by simp
 apply aW2
 refine be6 (aw9 (a0:=vs.toArray.zip vs.toArray) (Q:=fun _ st'=>(arrOf st').Perm (vs.toArray.zip vs.toArray)/\failedOf st'=none/\Up rk (arrOf st') 0 (vs.toArray.zip vs.toArray).size) c (fun x hx=>?_) ⟨Array.Perm.refl _,rfl,rfl,rfl⟩ (by simp; omega) fun st' a1 a2 a3=>⟨a1,a2,a3⟩) ?_ fun _ _ z=>z
 ·have hx':x ∈ vs.zip vs:=by rw [<- zl]; exact Array.mem_toList_iff.mpr hx
  obtain ⟨y1,y2⟩:=mem_zip_self hx'
  have:=o x.1 y2
  have ex:x=(x.1,x.1):=bj7 rfl y1.symm
  rw [ex]; exact this
 ·rintro ⟨⟨⟩,st'⟩ s' ⟨rfl,pm,ok,up⟩
  have lp:(arrOf st').toList.Perm (vs.zip vs):=by rw [<- zl]; exact Array.perm_iff_toList_perm.mp pm
  have out:(arrOf st').map (·.2)=((arrOf st').toList.map (·.2)).toArray:=by apply Array.toList_inj.mp; rw [Array.toList_map]
  have op:((arrOf st').toList.map (·.2)).Perm vs:=by
   have:=lp.map (·.2)
   rw [tR] at this; exact this
  have sz:(arrOf st').size=vs.length:=by rw [pm.size_eq]; simp
  dsimp only
  apply aW2
  apply seqEpoch_at there rfl
  apply aW2
  refine listUpdate_at there rfl ?_ (bf0 _) (by rw [Array.size_map,sz]; exact Nat.le_succ_of_le big)
  rw [ok]
  simp only [bne_self_eq_false,aZ2,be4]
  refine aW7 ?_
  have hq:=q _ op ?_
  ·rw [<- out] at hq; exact hq
  ·rw [bg6,be5]
   intro i j hi hj hij
   have hi':i < (arrOf st').size:=by simpa using hi
   have hj':j < (arrOf st').size:=by simpa using hj
   have h1:=up i j (bf0 _) (bj1 hij) (by simp; omega)
   rw [bX hi',bX hj'] at h1
   have dg:∀ x ∈ (arrOf st').toList,(x.2,x.2)=x:=fun x hx=>bj7 (mem_zip_self (lp.mem_iff.mp hx)).1.symm rfl
   rw [dg _ (bj4 hi),dg _ (bj4 hj)]
   simpa using h1
theorem ax1 {prog:Program}{w:World}{A:Around}{E:Value->Shared->Prop}{s:Shared}{l:Addr}{vs:List Value}{Q:Value->Shared->Prop}{κ:SortKind}{Ok:Keyed->Prop}{rk:Keyed->Int}
  (hl:s.heap.IsList l vs.toArray) (h2:2<=vs.length) (big:vs.length<=sizeLine)
  (hk:∀ (A:Around) (E:Value->Shared->Prop) (Q:SortKind->Shared->Prop),Q κ { s with heap:=dD (fV s.heap vs) (s.heap.objs.size+1) vs }->wpAny (model prog w) A (keyKind' vs.toArray) Q E { s with heap:=dD (fV s.heap vs) (s.heap.objs.size+1) vs })
  (c:∀ (A:Around) (E:Value->Shared->Prop),c9 prog w A E { s with heap:=dD (fV s.heap vs) (s.heap.objs.size+1) vs } κ Ok rk) (o:∀ v ∈ vs,Ok (v,v))
  (q:∀ out:List Value,out.Perm vs->out.Pairwise (fun u v=>rk (u,u)<=rk (v,v))->Q (.ref (s.heap.objs.size+1)) { s with heap:=sortedAll s.heap vs out.toArray }):wpAny (model prog w) A (call (.builtin "sorted") [.ref l]) Q E s:=by
 apply Calls.call_function_entry kind_sorted plain_sorted entry_sorted (args_sorted1 _)
 simp only [Builtin.«sorted»]
 apply aW2 (m:=checkCount "sorted" 1 1 _)
 apply aW7
 apply aW2
 refine collect_list hl ?_ big
 apply aW2
 refine wpAny_newList ?_ big
 have one:((s.heap.push (seqObj "list" #[] 0)).update s.heap.objs.size (Obj.mapSeq (· ++ vs.toArray))).objs.size=s.heap.objs.size+1:=(Heap.size_update _ _ _).trans (size_push' _ _)
 have at1:(fV s.heap vs).get? (s.heap.objs.size+1)=some (seqObj "list" vs.toArray 0):=one ▸ aY0 _ rfl
 change wpAny _ _ _ _ _ { s with heap:=fV s.heap vs }
 rw [one]
 apply aW2
 apply bf7
 refine bd0 slot_list_sort ⟨_,at1,rfl⟩ entry_list_sort ?_ (args_list_sort _)
 exact K4 (s:={ s with heap:=fV s.heap vs }) at1 h2 big (hk _ _) (c _ _) o fun out a1 a2=>⟨_,rfl,aW7 ⟨_,rfl,q out a1 a2⟩⟩
noncomputable def rB (h:Heap) (B:Int) (x:Keyed):Int:=match x.1 with
 | .ref b=>match h.get? b with
  | some ob=>match ob.data with
   | .seq us _=>numOf (us.getD 0 .none) * B+numOf (us.getD 1 .none)
   | _=>0
  | none=>0
 | _=>0
structure j9 (h:Heap) (M:Int) (v:Value) (p q:Int):Prop where
 at_:∃ b ob us n,v = .ref b/\h.get? b=some ob/\ob.cls = .type "tuple"/\ob.data = .seq (List.toArray us) n/\IntsAre us [p,q]
 lo : -M<=q
 hi:q<=M
theorem j9.rk {h:Heap}{M B:Int}{x:Keyed}{p q:Int} (z:j9 h M x.1 p q):rB h B x=p * B+q:=by
 obtain ⟨b,ob,us,n,e1,e2,_,e4,e5⟩:=z.at_
 cases e5 with
 | cons _ t e6=>cases e6 with
  | cons _ u e7=>cases e7; unfold rB; rw [e1]; dsimp only; rw [e2]; dsimp only; rw [e4]; rfl
theorem K5 {p q p' q' M:Int} (h1 : -M<=q) (h2:q<=M) (h3 : -M<=q') (h4:q'<=M):HT.aL [p,q] [p',q']=decide (p * (2 * M+1)+q < p' * (2 * M+1)+q'):=by
 rw [HT.gM]
 have mm:∀ {a b:Int},a < b->a * (2 * M+1)+(2 * M+1)<=b * (2 * M+1):=fun {a b} z=>by
  have:=Int.mul_le_mul_of_nonneg_right (show a+1<=b by omega) (show 0<=2 * M+1 by omega)
  rw [Int.add_mul,Int.one_mul] at this
  exact this
 by_cases e:p=p'
 ·subst e
  rw [if_pos rfl,HT.gM]
  by_cases e2:q=q'
  ·subst e2
   rw [if_pos rfl,HT.pD,aW6 (by omega)]
  ·rw [if_neg e2]
   by_cases l:q < q'
   ·rw [aX2 l,aX2 (by omega)]
   ·rw [aW6 l,aW6 (by omega)]
 ·rw [if_neg e]
  by_cases l:p < p'
  ·have:=mm l
   rw [aX2 l,aX2 (by omega)]
  ·have:=mm (show p' < p by omega)
   rw [aW6 l,aW6 (by omega)]
theorem ax2 {prog:Program}{w:World}{A:Around}{E:Value->Shared->Prop}{s:Shared}{M:Int}:c9 prog w A E s (tuples' true) (fun x=>∃ p q,j9 s.heap M x.1 p q) (rB s.heap (2 * M+1)):=by
 rintro x y ⟨p,q,z⟩ ⟨p',q',z'⟩ st Q hk hq
 rw [z.rk,z'.rk] at hq
 rw [<- K5 z.lo z.hi z'.lo z'.hi] at hq
 obtain ⟨b,ob,us,n,e1,e2,e3,e4,e5⟩:=z.at_
 obtain ⟨b',ob',us',n',e1',e2',e3',e4',e5'⟩:=z'.at_
 rw [lt'_eq]
 refine aX6 (wpS_get ?_)
 rw [hk,e1,e1']
 refine aX6 (wpS_lift (wpAny_attempt (PySem.W.kat_lt e2 e4 e2' e4' ?_)))
 have:=tU (prog:=prog) (w:=w) (A:=A) (s:=s) (Q:=fun a s'=>s'=s/\wpS (model prog w) A E s (pure (some a)) Q st) 0 e5 e5' ⟨rfl,aY3 hq⟩
 simpa using this
theorem ax3 {vs vs':List Value} (h:vs.Perm vs'):∀ {xs:List V},aQ xs vs->∃ xs',xs'.Perm xs/\aQ xs' vs':=by
 induction h with
 | nil=>intro xs r; exact⟨xs,bk0 _,r⟩
 | cons v _ ih=>
  intro xs r
  cases r with
  | cons r t=>
   obtain ⟨xs',p,r'⟩:=ih t
   exact⟨_ :: xs',p.cons _,.cons r r'⟩
 | swap u v l=>
  intro xs r
  cases r with
  | cons r t=>cases t with
   | cons r2 t2=>exact⟨_,List.Perm.swap _ _ _,.cons r2 (.cons r t2)⟩
 | trans _ _ ih1 ih2=>
  intro xs r
  obtain ⟨x1,p1,r1⟩:=ih1 r
  obtain ⟨x2,p2,r2⟩:=ih2 r1
  exact⟨x2,p2.trans p1,r2⟩
theorem K6 {α:Type} (f:α->Int):∀ l:List α,∃ M:Int,∀ y ∈ l,-M<=f y/\f y<=M
 | []=>⟨0,fun _ h=>nomatch h⟩
 | x :: l=>by
  obtain ⟨M,h⟩:=K6 f l
  refine⟨max M (max (f x) (- f x)),fun y hy=>?_⟩
  rcases aW9.mp hy with e | e
  ·subst e; omega
  ·have:=h y e; omega
noncomputable def K7 (K:PySem.W.Frag):List V->Hp->VK->Prop:=fun xs H Q=>∃ (a:Addr) (ys:List V) (key:V->List Int),xs = [.ref a]/\aU K H a ys/\ys.length<=4096/\(∀ y ∈ ys,∃ b,y = .ref b/\aR K H b ((key y).map V.int)/\(key y).length=2)/\
 ∀ l (zs:List V),H l=none->zs.Perm ys->zs.Pairwise (fun u v=>HT.aL (key v) (key u)=false)->Q (.ref l) (upd H l (.lst zs))
theorem ax4 {X:Cx}:cJ X (.builtin "sorted") (K7 X.K):=by
 intro pins s σ H xs us Q I r h
 obtain ⟨a,ys,key,rfl,hs,hz4,hk,q⟩:=h
 obtain ⟨u,rfl,ru⟩:=hG r
 cases ru
 obtain ⟨its,rv,p,hz⟩:=I.list hs
 have hl:=rv.length
 have hn:s.heap.objs.size<=s.heap.objs.size+1:=Nat.le_succ _
 by_cases h2:its.length < 2
 ·refine am9 p.isList h2 ?_
  obtain ⟨e,he⟩:=sortedAll_at s.heap its its.toArray
  refine⟨.ref (s.heap.objs.size+1),upd H (s.heap.objs.size+1) (.lst ys),I.laid (t':=s.toks) (fun _ _=>sortedAll_old) hn ⟨hz,its,e,rv,he⟩,rfl,q _ ys (I.hok.fresh hn) (bk0 _) ?_⟩
  match ys,hl with
  | [],_=>exact bi9
  | [_],_=>exact be2 _ _
  | _ :: _ :: _,hl=>simp at hl; omega
 ·obtain ⟨M,hM⟩:=K6 (fun y=>(key y).getD 1 0) ys
  have pv:∀ {y:V}{v:Value},aP y v->y ∈ ys->∃ pp qq,key y = [pp,qq]/\j9 (dD (fV s.heap its) (s.heap.objs.size+1) its) M v pp qq:=fun {y v} ry hy=>by
   obtain ⟨b,rfl,sq,l2⟩:=hk y hy
   cases ry
   obtain ⟨us,ru,⟨ob,e1,c1,n1,d1⟩,_⟩:=I.tuple sq
   have ia:=jH ru
   have mm:=hM _ hy
   match hkk:key (V.ref b),l2 with
   | [pp,qq],_=>
    rw [hkk] at ia mm
    exact⟨pp,qq,rfl,⟨b,ob,us,n1,rfl,K3 (aZ6 (Nat.lt_succ_of_lt (aX8 e1))) (ax0 e1),c1,d1,ia⟩,mm.1,mm.2⟩
  have pvs:∀ {xs:List V}{vs:List Value},aQ xs vs->(∀ y ∈ xs,y ∈ ys)->∀ v ∈ vs,∃ pp qq,j9 (dD (fV s.heap its) (s.heap.objs.size+1) its) M v pp qq:=by
   intro xs vs r
   induction r with
   | nil=>intro _ v hv; cases hv
   | cons rx rt ih=>
    intro hh v hv
    rcases aW9.mp hv with z | z
    ·subst z
     obtain ⟨pp,qq,_,z⟩:=pv rx (hh _ aX3)
     exact⟨pp,qq,z⟩
    ·exact ih (fun y hy=>hh y (aX0 _ hy)) v z
  have firsts:∀ {vs:List Value},(∀ v ∈ vs,∃ pp qq,j9 (dD (fV s.heap its) (s.heap.objs.size+1) its) M v pp qq)->∃ fs:List Value,PySem.W.KatTups (dD (fV s.heap its) (s.heap.objs.size+1) its) vs fs/\fs.length=vs.length/\∀ v ∈ fs,∃ i t,v=Value.int i t:=by
   intro vs
   induction vs with
   | nil=>intro _; exact⟨[],PySem.W.KatTups.nil,rfl,fun _ z=>nomatch z⟩
   | cons v vs ih=>
    intro hh
    obtain ⟨fs,t1,t2,t3⟩:=ih fun y hy=>hh y (aX0 _ hy)
    obtain ⟨pp,qq,z⟩:=hh v aX3
    obtain ⟨b,ob,us,n,rfl,e2,e3,e4,e5⟩:=z.at_
    cases e5 with
    | cons _ t e6=>exact⟨Value.int pp t :: fs,PySem.W.KatTups.cons e2 e3 e4 (by simp) t1,by simp [t2],fun v hv=>(aW9.mp hv).elim (fun z=>⟨pp,t,z⟩) (t3 v)⟩
  have allp:=pvs rv fun _ h=>h
  obtain ⟨fs,t1,t2,t3⟩:=firsts allp
  refine ax1 (κ:=tuples' true) (Ok:=fun x=>∃ pp qq,j9 (dD (fV s.heap its) (s.heap.objs.size+1) its) M x.1 pp qq) (rk:=rB (dD (fV s.heap its) (s.heap.objs.size+1) its) (2 * M+1)) p.isList (by omega) (by rw [<- hl]; exact hz)
   (fun A E Q hQ=>?_) (fun A E=>ax2 (s:={ s with heap:=dD (fV s.heap its) (s.heap.objs.size+1) its })) (fun v hv=>allp v hv) fun out pm so=>?_
  ·refine PySem.W.kat_kind (T:=.type "int") t1 (by omega) (fun v hv=>?_) (by decide) ?_
   ·obtain ⟨i,t,rfl⟩:=t3 v hv
    exact PySem.W.Looks.now
   ·have eT:(Value.type "int" != Value.type "tuple")=true:=by decide
    rw [eT]; exact hQ
  ·obtain ⟨zs,pz,rz⟩:=ax3 pm.symm rv
   obtain ⟨e,he⟩:=sortedAll_at s.heap its out.toArray
   refine⟨.ref (s.heap.objs.size+1),upd H (s.heap.objs.size+1) (.lst zs),I.laid (t':=s.toks) (fun _ _=>sortedAll_old) hn ⟨by rw [pz.length_eq]; exact hz,out,e,rz,he⟩,rfl,q _ zs (I.hok.fresh hn) pz ?_⟩
   have lz:=rz.length
   rw [be5]
   intro i j hi hj hij
   have s1:=be5.mp so i j (by omega) (by omega) hij
   have gi:=tQ i hi rz
   have gj:=tQ j hj rz
   simp only [ba8,aY1 hi,aY1 hj,aY1 (show i < out.length by omega),aY1 (show j < out.length by omega),Option.getD_some] at gi gj
   obtain ⟨pi,qi,ki,vi⟩:=pv gi (pz.mem_iff.mp (bj4 hi))
   obtain ⟨pj,qj,kj,vj⟩:=pv gj (pz.mem_iff.mp (bj4 hj))
   rw [j9.rk (x:=(out[i],out[i])) vi,j9.rk (x:=(out[j],out[j])) vj] at s1
   rw [ki,kj,K5 vj.lo vj.hi vi.lo vi.hi]
   exact aW6 (by omega)
end L2
namespace L2
open PySem PySem.Spec PyProof.Rows
theorem bN.at {P:Program}{w:World}{H:Hp}{h:Heap}{a:Addr}{o:HO} (x:bN P w H h a o):∃ ob,h.get? a=some ob:=by
 cases o with
 | lst xs=>obtain ⟨_,_,_,_,e⟩:=x; exact⟨_,e⟩
 | tup xs=>obtain ⟨_,_,_,⟨_,e,_⟩,_⟩:=x; exact⟨_,e⟩
 | dK kvs=>obtain ⟨_,_,_,_,_,_,_,e,_⟩:=x; exact⟨_,e⟩
 | dT kvs=>obtain ⟨_,_,_,_,_,_,_,e,_⟩:=x; exact⟨_,e⟩
 | set S n=>obtain ⟨_,_,_,_,e,_⟩:=x; exact⟨_,e⟩
 | ins C dx fs=>obtain ⟨_,_,_,e,_⟩:=x; exact⟨_,e⟩
 | own y=>exact x
 | xd fs=>obtain ⟨_,⟨_,_,_,e,_⟩,_⟩:=x; exact⟨_,e⟩
 | rng lo hi=>obtain ⟨_,_,_,e⟩:=x; exact⟨_,e⟩
 | frz ob u=>obtain ⟨e,_⟩:=x; exact⟨_,e⟩
 | tbl ps=>exact⟨_,x⟩
 | met f y=>exact⟨_,x⟩
 | ext φ=>exact x.2.1
structure vG (P:Program) (w:World) (outer:List Env) (H:Hp) (s:Shared) (H':Hp) (B:Heap) (a C:Addr) (s':Shared):Prop where
 os:s'.os=s.os
 bare:AllBare s'.gens
 un:Un (bU outer) [] H H' s.heap s'.heap
 hok:bK P w H' s'.heap
 fly:∃ a0,Heap.FlyingW B outer a (.ref C) a0 s'.heap
 b0:∀ b o,s.heap.get? b=some o->b ∉ bU outer->∃ o',B.get? b=some o'
 b1:∀ b o,s.heap.get? b=some o->H b=none->b ∉ bU outer->B.get? b=some o
 b2:∀ b u o,H' b=some u->s'.heap.get? b=some o->B.get? b=some o
noncomputable def eY (P:Program) (w:World):gK:=fun outer H s E e s'=>∃ (H':Hp) (B:Heap) (a C:Addr),e = .ref a/\vG P w outer H s H' B a C s'/\E (.ref C) none H'
section
variable {P : Program} {w : World} {outer : List Env} {H H' : Hp} {s s' : Shared} {B h2 : Heap} {a C : Addr}
theorem vG.hok2 (f:vG P w outer H s H' B a C s') (k:B.StaysIn h2):bK P w H' h2:=fun b u e=>
 (f.hok b u e).stay (fun c v hc q=>by
  rcases hc with z | z
  ·subst z; exact k _ _ (f.b2 _ _ _ e q)
  ·exact k _ _ (f.b2 _ _ _ z q)) (fun _ q=>q) fun _ _ q=>q
end
section
variable {P : Program} {w : World} {K : PySem.W.Frag} {mg : Str → Option Value} {base : Heap} {N : List Str} {qual : Str} {scope : Scope} {f : Addr} {cd : Value} {A : Around} {outer : List Env} {s₀ : Shared} {H₀ : Hp} {E₀ E₁ : XK}
theorem rC {pins:List (Addr × Obj)}{σ:St}{H:Hp}{s:Shared} (I:a6 (dA (eY P w) P w K mg base N qual scope f cd A outer s₀ H₀ E₀) pins σ H s) {b:Addr}{o:Obj} (e:s₀.heap.get? b=some o) (n:b ∉ bU outer) :
  b ∉ bU (envOfC qual scope s₀.heap.objs.size f cd :: outer):=fun z=>by
 rcases aW9.mp (I.stkSub b z) with y | y
 ·have l:=aX8 e
  have y:b=s₀.heap.objs.size:=y
  exact absurd l (by rw [y]; exact be3 _)
 ·exact n y
theorem ax5 (hE:∀ c d H',E₁ c d H'->E₀ c d H'):nD (eY P w) (dA (eY P w) P w K mg base N qual scope f cd A outer s₀ H₀ E₀) E₁:=by
 intro pins σ H s e s' I hx
 obtain ⟨H',B,a,C,e1,fl,q⟩:=hx
 subst e1
 have I':=I.call' fl.os fl.un fl.hok fl.bare (ch:=[]) (fun b z=>absurd z (by simp))
 obtain ⟨a0,fly⟩:=fl.fly
 refine wpAny_leaves_onW I.ok.frames rfl fly fun h' fly' up=>?_
 have slot:∀ b o,s₀.heap.get? b=some o->b ∈ bU outer->∃ sl,h'.get? b=some { o with slots:=sl }:=fun b o e hb=>by
  obtain ⟨sl,e1⟩:=I'.base.slot b o e (I.ok.frf b hb) hb (fun z=>nomatch z)
  obtain ⟨_,o2,e2,nf⟩:=I.ok.funs.mem hb
  rw [show (dA (eY P w) P w K mg base N qual scope f cd A outer s₀ H₀ E₀).s₀=s₀ from rfl,e] at e2
  cases e2
  obtain ⟨sl',e3⟩:=up b _ e1 nf
  exact⟨sl',e3⟩
 have old:∀ b o,s₀.heap.get? b=some o->H₀ b=none->b ∉ bU outer->B.get? b=some o:=fun b o e n hb=>
  fl.b1 b o (I.base.keep b o e n hb (fun z=>nomatch z)) (I.base.free b o e n (fun z=>nomatch z)) (rC I e hb)
 have old0:∀ b o,s₀.heap.get? b=some o->b ∉ bU outer->∃ o',B.get? b=some o':=fun b o e hb=>by
  obtain ⟨o1,e1⟩:=I.base.there b o e (fun z=>nomatch z)
  exact fl.b0 b o1 e1 (rC I e hb)
 refine⟨H',B,a,C,rfl,⟨I'.os,I'.bare,⟨fun b o e n hb _=>fly'.1 _ _ (old b o e n hb),fun b o e n hb _=>slot b o e hb,fun b o e n hx=>I'.base.free b o e n hx,fun b o e _=>?_,I'.base.tups,I'.base.frzs,I'.base.tbls⟩,fl.hok2 fly'.1,⟨a0,fly'⟩,old0,old,fun b u o e h=>?_⟩,hE _ _ _ q⟩
 ·by_cases hb:b ∈ bU outer
  ·obtain ⟨sl,e1⟩:=slot b o e hb
   exact⟨_,e1⟩
  ·obtain ⟨o',e1⟩:=old0 b o e hb
   exact⟨o',fly'.1 _ _ e1⟩
 ·obtain ⟨ob,e1⟩:=(fl.hok b u e).at
  have e2:=fl.b2 b u ob e e1
  have e3:=fly'.1 _ _ e2
  have h:h'.get? b=some o:=h
  rw [h] at e3; cases e3; exact e2
theorem ax6 {pins:List (Addr × Obj)}{σ:St}{H:Hp}{s:Shared}{h':Heap}{e C:Addr}{args:List Value} (I:a6 (dA (eY P w) P w K mg base N qual scope f cd A outer s₀ H₀ E₀) pins σ H s) (mx:Heap.MadeExcOf s.heap h' e (.ref C) args) (q:E₀ (.ref C) none H) :
  (dA (eY P w) P w K mg base N qual scope f cd A outer s₀ H₀ E₀).xe (.ref e) { s with heap:=h' }:=by
 have tr:∀ b u,H b=some u->b ∉ bU (envOfC qual scope s₀.heap.objs.size f cd :: outer):=fun b u z n=>by
  rw [I.stkFree b n] at z; cases z
 have inB:∀ b o,s.heap.get? b=some o->b ∉ bU (envOfC qual scope s₀.heap.objs.size f cd :: outer)->(PySem.W.hideAll s.heap (bU (envOfC qual scope s₀.heap.objs.size f cd :: outer))).get? b=some o:=fun b o z n=>PySem.W.hideAll_get _ z n
 refine wpAny_leaves_madeW (base:=PySem.W.hideAll s.heap (bU (envOfC qual scope s₀.heap.objs.size f cd :: outer))) I.ok.frames rfl (fun b o z=>PySem.W.of_hideAll _ z) (PySem.W.funFrames_hide I.stack fun env he b hb=>List.mem_filterMap.mpr ⟨env,he,hb⟩) mx fun h'' t fly _ _ up=>?_
 have slot:∀ b o,s₀.heap.get? b=some o->b ∈ bU outer->∃ sl,h''.get? b=some { o with slots:=sl }:=fun b o e hb=>by
  obtain ⟨sl,e1⟩:=I.base.slot b o e (I.ok.frf b hb) hb (fun z=>nomatch z)
  obtain ⟨_,o2,e2,nf⟩:=I.ok.funs.mem hb
  rw [show (dA (eY P w) P w K mg base N qual scope f cd A outer s₀ H₀ E₀).s₀=s₀ from rfl,e] at e2
  cases e2
  obtain ⟨sl',e3⟩:=up b _ (mx.keeps _ _ e1) nf
  exact⟨sl',e3⟩
 have old:∀ b o,s₀.heap.get? b=some o->H₀ b=none->b ∉ bU outer->(PySem.W.hideAll s.heap (bU (envOfC qual scope s₀.heap.objs.size f cd :: outer))).get? b=some o:=fun b o e n hb=>
  inB b o (I.base.keep b o e n hb (fun z=>nomatch z)) (rC I e hb)
 have old0:∀ b o,s₀.heap.get? b=some o->b ∉ bU outer->∃ o',(PySem.W.hideAll s.heap (bU (envOfC qual scope s₀.heap.objs.size f cd :: outer))).get? b=some o':=fun b o e hb=>by
  obtain ⟨o1,e1⟩:=I.base.there b o e (fun z=>nomatch z)
  exact⟨o1,inB b o1 e1 (rC I e hb)⟩
 refine⟨H,_,e,C,rfl,⟨I.os,I.bare,⟨fun b o e n hb _=>fly.1 _ _ (old b o e n hb),fun b o e n hb _=>slot b o e hb,fun b o e n hx=>I.base.free b o e n hx,fun b o e _=>?_,I.base.tups,I.base.frzs,I.base.tbls⟩,fun b u z=>?_,⟨_,fly⟩,old0,old,fun b u o z h=>?_⟩,q⟩
 ·by_cases hb:b ∈ bU outer
  ·obtain ⟨sl,e1⟩:=slot b o e hb
   exact⟨_,e1⟩
  ·obtain ⟨o',e1⟩:=old0 b o e hb
   exact⟨o',fly.1 _ _ e1⟩
 ·refine (I.hok b u z).stay (fun c v hc y=>?_) (fun _ y=>y) fun _ _ y=>y
  rcases hc with z' | z'
  ·subst z'; exact fly.1 _ _ (inB _ _ y (tr _ _ z))
  ·exact fly.1 _ _ (inB _ _ y (tr _ _ z'))
 ·obtain ⟨ob,e1⟩:=(I.hok b u z).at
  have e2:=inB b ob e1 (tr b u z)
  have e3:=fly.1 _ _ e2
  have h:h''.get? b=some o:=h
  rw [h] at e3; cases e3; exact e2
end
structure mE (X:Cx) (E:XK):Prop where
 pass:nD (eY X.prog X.w) X E
 made:∀ (pins:List (Addr × Obj)) (σ:St) (H:Hp) (s:Shared) (h':Heap) (e C:Addr) (args:List Value),a6 X pins σ H s->Heap.MadeExcOf s.heap h' e (.ref C) args->E (.ref C) none H->X.xe (.ref e) { s with heap:=h' }
 own:PassesOwn (model X.prog X.w) X.A X.env X.xe
theorem ax7 {P:Program}{w:World}{K:PySem.W.Frag}{mg:Str->Option Value}{base:Heap}{N:List Str}{qual:Str}{scope:Scope}{f:Addr}{cd:Value}{A:Around}{outer:List Env}{s₀:Shared}{H₀:Hp}{E₀ E₁:XK} (hE:∀ c d H',E₁ c d H'->E₀ c d H') :
  mE (dA (eY P w) P w K mg base N qual scope f cd A outer s₀ H₀ E₀) E₁:=
 ⟨ax5 hE,fun _ _ _ _ _ _ _ _ I mx q=>ax6 I mx (hE _ _ _ q),PassesOwn.leaving⟩
noncomputable def K8 (E:XK) (C:Addr) (t:TA):TS:=fun _ σ H=>t σ H fun vs H1=>vs.length<=sizeLine/\E (.ref C) none H1
theorem ax8 {X:Cx}{E:XK}{x:Str}{C:Addr}{bm:List Value}{B newId initId:String}{np cpos pos:Pos}{e:Expr}{es:List Expr}{t:TA} (hX:mE X E) (hc:X.calm=true) (O:OwnCls x C bm newId X.mg X.base) (FB:ExcBaseFacts B newId initId bm) (ha:PA X (e :: es) t) (hg:Gl X x)
  (hd:(x == ("__debug__" : Str))=false:=by decide) (he:starEach (e :: es) X.env=(false,eval e X.env) :: starEach es X.env:=by rfl) (hpl:(backTo cpos (starEach es X.env)).any (·.1)=false:=by rfl) :
  PS X (.Raise (some (.Call (.Name x np) (e :: es) [] cpos)) none pos) (K8 E C t):=by
 intro pins s σ H D I h
 obtain ⟨tl,Na,nm,qn,bs,hx,sn,sub,ab,col,dd,k0,k1,k2,k3,k5,mN,hC,hN,hni,T⟩:=O.obj
 refine wpAny_Raise_call_subT (nm:=nm) (q:=qn) (N:=Na) (bs:=bs) (bm:=tl) (hdct:=hx) (sn:=sn) (sub:=sub) (ab:=ab) (col:=col) (dd:=dd) (k0:=k0) (k1:=k1) (k2:=k2) (k3:=k3) (k5:=k5) FB (C:=C) (mN:=mN) (T.hasType FB.hasBase) (I.ok.hd hc) (by rw [he]; show (false || (backTo cpos (starEach es X.env)).any (·.1))=false; rw [hpl]; rfl) hni (sS I hg O.bound ⟨rfl,?_⟩ hd)
 have h1:=ha cpos pins s σ H _ I h
 rw [he] at h1 ⊢
 refine Calls.evalArgs_plain (be6 h1 (fun us s2 h2=>?_) fun _ _ y=>y)
 obtain ⟨vs,H2,I2,r,hl,q⟩:=h2
 have r:aQ vs us:=r
 exact⟨rfl,by show us.length<=sizeLine; rw [<- r.length]; exact hl,I2.bk _ _ hC,hN.keeps I2.bk,T.keeps I2.bk,fun h' e' mx=>hX.made pins σ H2 s2 h' e' C _ I2 mx q⟩
theorem gB.okX {P:Program}{w:World}{K:PySem.W.Frag}{mg:Str->Option Value}{base:Heap}{x qual:Str}{st:Stmt}{f:Addr}{fd:FuncData}{N ps:List Str}{k:Nat}{sp:Sp} (F:gB K x qual st f fd) (S:FnScope N ps (aW st)) (len:∀ vs H Q E,sp vs H Q E->vs.length=ps.length)
  (hbody:∀ (cdv:Value) (A:Around) (outer:List Env) (s:Shared) (H:Hp) (vs:List V) (Q:VK) (E:XK),c6 k (A.deeper (envOfC qual (aW st) s.heap.objs.size f cdv))->sp vs H Q E->
   ∃ t,dN (dA (eY P w) P w K mg base N qual (aW st) f cdv A outer s H E) (eL st) t/\t { nx:=fun _ H'=>Q .non H',rt:=Q } (gL N vs) H):dQ P w K mg base (eY P w) (k+1) f fd ps sp:=by
 obtain ⟨oc,od,kV,doc,pm,an,cdv,ct,osl,rfl,lk,hcd⟩:=F.ex
 exact yO lk hcd S len fun A outer s H vs Q E hr hsp=>hbody cdv A outer s H vs Q E hr hsp
section
variable {X : Cx} {pins : List (Addr × Obj)} {σ : St} {H H1 H' : Hp} {s s1 s' : Shared} {B h2 : Heap} {a C : Addr}
noncomputable abbrev Cx.suite (X:Cx) (a:Addr):Cx:={ X with A:=X.A.mark (some (.ref a)),calm:=false,xe:=fun _ _=>False }
end
noncomputable abbrev TB:=dM->XK->St->Hp->Prop
section
variable {X : Cx} {pins : List (Addr × Obj)} {σ : St} {H H' : Hp} {s : Shared} {a : Addr}
theorem a6.reH (I:a6 X pins σ H s) (d:∀ b,b ≠ a->H' b=H b) (ha:∃ x,H a=some x) (tup:∀ xs,H a ≠ some (.tup xs)) (frz:∀ o v,X.H₀ a ≠ some (.frz o v)) (tbl:∀ ps,H a ≠ some (.tbl ps)) (hok:bK X.prog X.w H' s.heap):a6 X pins σ H' s:=by
 have none:∀ b,H b=none->H' b=none:=fun b e=>by
  rw [d b fun z=>?_]; exact e
  obtain ⟨x,hx⟩:=ha
  rw [z,hx] at e; cases e
 refine⟨I.ok,I.os,I.bare,⟨I.base.keep,I.base.slot,fun b o e n hx=>none b (I.base.free b o e n hx),I.base.there,fun b xs q=>?_,fun b o u q=>?_,fun b ps q=>?_⟩,I.loc,I.cell,none _ I.free,fun x c e=>none c (I.freeC x c e),fun p hp=>?_,hok,I.len⟩
 ·have e:=I.base.tups b xs q
  rw [d b fun z=>tup xs (by rw [<- z]; exact e)]; exact e
 ·rw [d b fun z=>frz o u (by rw [<- z]; exact q)]; exact I.base.frzs b o u q
 ·obtain ⟨more,e⟩:=I.base.tbls b ps q
  exact⟨more,by rw [d b fun z=>tbl _ (by rw [<- z]; exact e)]; exact e⟩
 ·obtain ⟨e,n,r⟩:=I.pin p hp
  exact⟨e,none _ n,r⟩
theorem a6.thaw {o:Obj}{u:HO} (I:a6 X pins σ H s) (h:H a=some (.frz o u)) (n:∀ o v,X.H₀ a ≠ some (.frz o v)):a6 X pins σ (upd H a u) s:=by
 have own:∀ {c:Addr}{y:Addr},H c=some (.own y)->c ≠ a:=fun {c y} q z=>by rw [z,h] at q; cases q
 have tp:∀ {c:Addr}{xs:List V},H c=some (.tup xs)->c ≠ a:=fun {c xs} q z=>by rw [z,h] at q; cases q
 refine I.reH (a:=a) (fun b n=>aF n) ⟨_,h⟩ (fun xs q=>by rw [h] at q; cases q) n (fun ps q=>by rw [h] at q; cases q) fun b v q=>?_
 by_cases hb:b=a
 ·subst hb
  rw [b9] at q; cases q
  exact bN.stay (I.hok b _ h).2 (fun _ _ _ q=>q) (fun c q=>by rw [aF (own q)]; exact q) fun c xs q=>by rw [aF (tp q)]; exact q
 ·rw [aF hb] at q
  exact (I.hok b v q).stay (fun _ _ _ q=>q) (fun c q=>by rw [aF (own q)]; exact q) fun c xs q=>by rw [aF (tp q)]; exact q
end
noncomputable def K9 (a:Addr) (o:Obj) (ys:List V):It:=
 ⟨fun i H=>(∃ u,H a=some (.frz o u))/\i < ys.length,fun i H v H'=>H'=H/\ys[i]? = some v,fun i H=>(∃ u,H a=some (.frz o u))/\i=ys.length⟩
theorem ax9 {P:Program}{w:World}{K:PySem.W.Frag}{tg:Expr}{o:Obj}{es:Array DictEntry}{ep:Nat}{ys:List V} (a it:Addr) (od:o.ExactDict/\o.data = .dict es ep) (vl:aQ ys (es.toList.map (·.key))) :
  gZ P w K tg (K9 a o ys) [it] it (fun i h=>h.IsKeyIter it a i es.size ep):=by
 have hs:es.size=ys.length:=by
  have:=vl.length
  rw [aW5,bh7] at this
  exact this.symm
 refine⟨by simp,fun i h st b hb=>?_,fun i h h' st k=>st.at fun o e=>k it (by simp) o e,?_,?_,fun _ _ _ _ _ st q=>wpAny_pyIter_keyiter st q⟩
 ·obtain rfl:b=it:=by simpa using hb
  obtain ⟨o,e,c,d⟩:=st
  exact⟨o,e,fun v z=>by rw [d] at z; cases z⟩
 ·intro X hP hw hK hc i pins s σ H E I hf st hg
  subst hP hw hK
  obtain ⟨⟨u,hu⟩,hi⟩:=hg
  obtain ⟨f0,f1,f2,f3,f4,f5⟩:=hf it (by simp)
  refine Raw.turn (I.ok.hd hc) st ⟨o,(I.hok a _ hu).1,od.1,od.2⟩ (fun lt h' again sb=>?_) (fun ge=>absurd ge (by omega))
  have I1:a6 X pins σ H { s with heap:=h' }:=I.turned (t':=s.toks) (fun b o hb e=>(sb.2 b hb).trans e) f0 f1 f3 f4 f5
  have hv:=aY1 hi
  obtain ⟨key,hk,rv⟩:=vl.get hv
  obtain rfl:key=es[i].key:=by
   rw [aX1] at hk
   simp [lt] at hk
   exact hk.symm
  obtain ⟨o',e,c,d⟩:=id again
  exact⟨es[i].key,rfl,oW (s:={ s with heap:=h' }) e c d (by decide) ⟨_,H,I1,rv,⟨rfl,hv⟩,again,fun b hb=>(hf b hb).1⟩⟩
 ·intro X hP hw hK hc i pins s σ H E I hf st hg
  subst hP hw hK
  obtain ⟨⟨u,hu⟩,hi⟩:=hg
  obtain ⟨f0,f1,f2,f3,f4,f5⟩:=hf it (by simp)
  exact Raw.turn (I.ok.hd hc) st ⟨o,(I.hok a _ hu).1,od.1,od.2⟩ (fun lt=>absurd lt (by omega)) fun _ h' eb=>⟨rfl,I.turned (t':=s.toks) (fun b o hb e=>eb b o hb e) f0 f1 f3 f4 f5⟩
section
variable {X : Cx} {tg l : Expr} {tl : TE}
noncomputable def L0 (X:Cx) (t:TE):TE:=fun σ H Q=>t σ H fun v H'=>∃ a o u,H' a=some (.frz o u)/\(∀ o' v',X.H₀ a ≠ some (.frz o' v'))/\Q v (upd H' a u)
theorem ay0 {e:Expr}{t:TE} (h:PE X e t):PE X e (L0 X t):=by
 intro pins s σ H Q I hq
 refine aK (h pins s σ H _ I hq) fun v s1 h1=>?_
 obtain ⟨x,H1,I1,r1,a,o,u,e,n,q⟩:=h1
 exact⟨x,_,I1.thaw e n,r1,q⟩
end
end L2
namespace Raw
open PySem PySem.W PySem.Calls PyProof.Rows
theorem jA {α β:Type} (f:α->β):∀ (j:Nat) (l:List α),(l.eraseIdx j).map f=(l.map f).eraseIdx j
 | _,[]=>rfl
 | 0,_ :: _=>rfl
 | j+1,x :: r=>by
  show f x :: (r.eraseIdx j).map f=f x :: (r.map f).eraseIdx j
  rw [jA f j r]
section
variable {prog : Program} {w : World} {K : Type} [DecidableEq K] {knd : HeapKind prog w K} {A : Around} {E : Value → Shared → Prop} {s : Shared} {d a : Addr} {k : K} {xs : List (K × Addr × Value)}
noncomputable def L1 (knd:HeapKind prog w K) (h:Heap) (d:Addr) (xs:List (K × Addr × Value)) (j:Nat):Prop:=∃ o es ep,h.get? d=some o/\o.ExactDict/\o.data = .dict es ep/\es.toList=(xs.eraseIdx j).map (entryOfKey knd)
theorem ay1 {Q:Option DictEntry->Shared->Prop} (hu:knd.room A) (hkey:knd.is s.heap k a) (hm:s.heap.DictOfH knd d xs) (hz:xs.length<=sizeLine) (is:∃ (j:Nat) (p:Addr × Value),xs[j]? = some (k,p))
  (q:∀ (j:Nat) (p:Addr × Value) h',xs[j]? = some (k,p)->L1 knd h' d xs j->Heap.SameBut d s.heap h'->Q (some (entryOfKey knd (k,p))) { s with heap:=h',toks:=s.toks+knd.draws k }):wpAny (model prog w) A (Builtin.Dict.takeOut d (.ref a)) Q E s:=by
 obtain ⟨o,es,ep,e1,e2,e3,e4,e5,e6⟩:=hm
 obtain ⟨j0,p0,h0⟩:=is
 unfold Builtin.Dict.takeOut
 try with_reducible refine bf7 ?_
 apply aW2
 apply knd.pyHash hu hkey
 apply aW2
 refine wpAny_dictFind_heap (s:={ s with toks:=s.toks+knd.draws k }) hu hkey e1 e3 e4 e5 e6 (fun no=>absurd h0 (no j0 p0)) fun j p hj=>?_
 apply aW2
 apply wpAny_dictEntries (s:={ s with toks:=s.toks+knd.draws k }) e1 e3
 rw [entry_at e4 j,hj]
 have sz:=size_of_entries e4
 apply aW2
 refine wpAny_updateDictKeys (hz:=by omega) (s:={ s with toks:=s.toks+knd.draws k }) e1 e3 (aW7 (q j p _ hj ⟨_,_,ep+1,bg8 _ e1 (Obj.isFreed_of_dict (Obj.data_mapDictKeys e3 _)),e2.mapDictKeys _,Obj.data_mapDictKeys e3 _,?_⟩ (Heap.SameBut.update ..)))
 rw [jA,<- e4]
 obtain ⟨l⟩:=es
 simp
end
section
variable {prog : Program} {w : World} {K : Type} [DecidableEq K] (knd : HeapKind prog w K) (d a : Addr)
theorem ay2:MeetsIn prog w (Builtin.«dict.pop» ⟨[.ref d,.ref a],[]⟩) (fun A R s=>knd.room A.in1/\∃ k xs,knd.is s.heap k a/\s.heap.DictOfH knd d xs/\xs.length<=sizeLine/\(∃ (j:Nat) (p:Addr × Value),xs[j]? = some (k,p))/\
  ∀ (j:Nat) (p:Addr × Value) h',xs[j]? = some (k,p)->L1 knd h' d xs j->Heap.SameBut d s.heap h'->R (.ok (.ret p.2)) { s with heap:=h',toks:=s.toks+knd.draws k }):=
 .of_wp fun A R s h=>by
  obtain ⟨hu,k,xs,hk,hm,hz,is,q⟩:=h
  obtain ⟨o,es,ep,e1,e2,e3,e4,e5,e6⟩:=id hm
  have ne:es.isEmpty=false:=by
   obtain ⟨j,p,hj⟩:=is
   have sz:=size_of_entries e4
   have:=(aX7.mp hj).1
   rw [Array.isEmpty_eq_false_iff,ne_eq,<- Array.size_eq_zero_iff]
   omega
  unfold Builtin.«dict.pop»
  apply aW2
  unfold Builtin.Dict.keyAndDefault
  apply aW2
  apply wpAny_notOrdered_dict hm.typeIs
  change wpAny _ _ (pure (d,Value.ref a,none)) _ _ s
  apply aW7
  have kp:(keyPart (Value.ref a)).isSome=false:=rfl
  simp only [kp,aZ2,be4]
  refine aW2 (wpAny_dictEntries e1 e3 (aW2 (aW7 ?_)))
  simp only [ne,aZ2,be4]
  apply aW2
  refine ay1 hu hk hm hz is fun j p h' hj c sb=>?_
  simp only [Option.isNone_some,aZ2,be4]
  exact aW2 (bh9 (aW7 ⟨p.2,rfl,q j p h' hj c sb⟩))
end
end Raw
namespace L2
open PySem PySem.Spec PyProof.Rows
theorem Paired.erase {α β:Type}{F:α->β->Prop}:∀ (j:Nat) {l:List α}{m:List β},Paired F l m->Paired F (l.eraseIdx j) (m.eraseIdx j)
 | _,_,_,.nil=>.nil
 | 0,_,_,.cons _ t=>t
 | j+1,_,_,.cons r t=>.cons r (Paired.erase j t)
theorem L3 {α β:Type}{F:α->β->Prop}:∀ {l:List α}{m:List β}{i:Nat}{y:β},Paired F l m->m[i]? = some y->∃ x,l[i]? = some x/\F x y
 | _,_,_,_,.nil,e=>by simp at e
 | _,_,0,_,.cons r _,e=>by simp at e; subst e; exact⟨_,rfl,r⟩
 | _,_,i+1,y,.cons _ t,e=>by
  rw [ba4] at e
  obtain ⟨x,h1,h2⟩:=L3 t e
  exact⟨x,by rw [ba4]; exact h1,h2⟩
theorem L4 {α β:Type}{F:α->β->Prop}:∀ {l:List α}{m:List β}{i:Nat}{x:α},Paired F l m->l[i]? = some x->∃ y,m[i]? = some y/\F x y
 | _,_,_,_,.nil,e=>by simp at e
 | _,_,0,_,.cons r _,e=>by simp at e; subst e; exact⟨_,rfl,r⟩
 | _,_,i+1,x,.cons _ t,e=>by
  rw [ba4] at e
  obtain ⟨y,h1,h2⟩:=L4 t e
  exact⟨y,by rw [ba4]; exact h1,h2⟩
section
variable {X : Cx} {pins : List (Addr × Obj)} {σ : St} {H : Hp} {s : Shared} {a b : Addr} {kvs : List (List aH × V)} {k : List aH} {A : Around} {E : Value → Shared → Prop}
theorem ay3 {Q:Value->Shared->Prop} (hu:A.units+1 < cLine) (I:a6 X pins σ H s) (e:H a=some (.dT kvs)) (eb:H b=some (.tup (k.map kV))) (is:∃ j:Nat,(kvs.map (·.1))[j]? = some k)
  (h:∀ (j:Nat) v w' s',(kvs.map (·.1))[j]? = some k->a6 X pins σ (upd H a (.dT (kvs.eraseIdx j))) s'->aP v w'->Q w' s'):wpAny (model X.prog X.w) A (call (.builtin "dict.pop") [.ref a,.ref b]) Q E s:=by
 obtain ⟨z,hd,xs,rel,dd⟩:=zM I.hok e
 have hz:xs.length<=sizeLine:=by rw [<- Paired.length rel]; exact z
 refine call_meetsIn PySem.F.slot_dict_pop dd.typeIs PySem.F.entry_dict_pop (PySem.F.args_dict_pop_2 _ _) (Raw.ay2 (tupleKind (eI X.prog X.w)) a b) ⟨bj8 hu,k,xs,kF I.hok eb,dd,hz,?_,fun j p h' hj c sb=>?_⟩
 ·obtain ⟨j,hj⟩:=is
  rw [aX1] at hj
  cases ej:kvs[j]? with
  | none=>rw [ej] at hj; cases hj
  | some kv=>
   rw [ej] at hj
   cases hj
   obtain ⟨y,hy,r⟩:=L4 rel ej
   exact⟨j,y.2,by rw [hy]; exact congrArg some (bj7 r.1.symm rfl)⟩
 ·obtain ⟨kv,hkv,r⟩:=L3 rel hj
  obtain ⟨o,es,ep,h1,h2,h3,h4⟩:=c
  have nd:((xs.eraseIdx j).map (·.1)).Nodup:=by
   obtain ⟨_,_,_,_,_,_,_,_,nd⟩:=dd
   exact nd.sublist ((List.eraseIdx_sublist xs j).map _)
  refine h j kv.2 p.2 _ (by rw [aX1,hkv]; exact congrArg some r.1) ?_ r.2.2
  refine tH I (by rw [e]; exact bl8) sb ⟨o,h1⟩ ⟨aZ8 (List.length_eraseIdx_le kvs j) z,hd,_,KT.keeps (Paired.erase j rel) fun c ys ec=>?_,o,es,ep,h1,h2,h3,h4,nd⟩
  rw [aF (xE ec e (fun z=>nomatch z))]
  exact ec
end
section
variable {X : Cx} {o e : Expr} {apos cpos : Pos} {td ty : TE}
noncomputable def L5 (td ty:TE):TE:=fun σ H Q=>td σ H fun x H1=>∃ a,x = .ref a/\tJ H1 a/\ty σ H1 fun y H2=>∃ kvs k b,H2 a=some (.dT kvs)/\y = .ref b/\H2 b=some (.tup (k.map kV))/\(∃ j:Nat,(kvs.map (·.1))[j]? = some k)/\∀ (j:Nat) v,(kvs.map (·.1))[j]? = some k->Q v (upd H2 a (.dT (kvs.eraseIdx j)))
theorem ay4 (hu:X.A.units+1 < cLine) (ho:PE X o td) (he:PE X e ty) (m:M1 X o "pop" apos e cpos):PE X (.Call (.Attribute o "pop" apos) [e] [] cpos) (L5 td ty):=by
 intro pins s σ H Q I h
 refine wpAny_Call_method m.base m.few m.line PySem.F.plainAttrs_dict PySem.F.slot_dict_pop PySem.F.type_dict_pop (aK (ho pins s σ H _ I h) fun u s1 h1=>?_)
 obtain ⟨x,H1,I1,rx,a,ex,d,q1⟩:=h1
 subst ex
 obtain rfl:u=Value.ref a:=rx
 obtain ⟨t1,t2,_⟩:=zT I1 d
 refine⟨t1,t2,?_⟩
 rw [m.trees]
 refine Calls.callWith_builtin rfl (Calls.evalArgs_plain (Calls.spliced_cons (aK (he pins s1 σ H1 _ I1 q1) fun iv s2 h2=>Calls.spliced_nil ?_)))
 obtain ⟨y,H2,I2,ry,kvs,k,b,ea,ey,eb,is,q2⟩:=h2
 subst ey
 obtain rfl:iv=Value.ref b:=ry
 exact ay3 hu I2 ea eb is fun j v w' s3 hj I3 rw'=>⟨v,_,I3,rw',q2 j v hj⟩
end
end L2
namespace Core
open PySem L2 PP
noncomputable def ay5 (ns:List Int):Bool:=((ns.zip (ns.drop 1)).map fun p=>decide (p.1 < p.2)).all id
theorem L6 {α β:Type}{l:List α}{f:α->β}{i:Nat}{x:α} (h:l[i]? = some x):(l.take (i+1)).map f=(l.take i).map f ++ [f x]:=by
 rw [aZ9,h]; simp
noncomputable def kin (ws:List Int) (ls:List (Int × Int)) (S:List Int) (h:Int):Bool:=!decide (h ∈ S) && decide (ws.getD h.toNat 0<=(((tX ls h).filter fun x=>decide (x ∈ S)).length:Int))
noncomputable def nextOf (ws:List Int) (ls:List (Int × Int)) (S:List Int):List Int:=((List.range ws.length).map fun (i:Nat)=>(i:Int)).filter (kin ws ls S)
noncomputable def o0 (ws:List Int) (ls:List (Int × Int)) (S:List Int):Nat->List Int
 | 0=>S
 | k+1=>o0 ws ls S k ++ nextOf ws ls (o0 ws ls S k)
theorem ay6 {ws:List Int}{ls:List (Int × Int)}{S:List Int}{x:Int} (h:kin ws ls S x=true):decide (x ∈ S)=false:=by
 unfold kin at h
 cases e:decide (x ∈ S) with
 | false=>rfl
 | true=>rw [e] at h; cases h
noncomputable def after (ws:List Int) (ls:List (Int × Int)) (S:List Int) (m:Nat):List (List Int):=(List.range m).map fun k=>nextOf ws ls (o0 ws ls S k)
noncomputable def dM (ws:List Int) (ls:List (Int × Int)) (ns:List Int) (m:Nat):Prop:=(∀ k < m,nextOf ws ls (o0 ws ls ns k) ≠ [])/\nextOf ws ls (o0 ws ls ns m) = []
theorem L7 {lo:Int}{n i:Nat}{x:PV} (h:(jO lo n)[i]? = some x):x = .int (lo+i)/\i < n:=by
 have hi:i < n:=by
  have:=(aX7.mp h).1
  rwa [lU] at this
 rw [C4 hi] at h
 exact⟨(aZ0 h).symm,hi⟩
noncomputable def rng (n:Nat):List Int:=(List.range n).map fun (i:Nat)=>(i:Int)
theorem o3 {α:Type}{l:List α}{p:α->Bool}{i:Nat}{x:α} (h:l[i]? = some x):(l.take (i+1)).filter p=(l.take i).filter p ++ (if p x=true then [x] else []):=by
 rw [aZ9,h,List.filter_append]
 congr 1
 cases e:p x <;> simp [e]
theorem ay7 (a b:List Int):intz (a ++ b)=intz a ++ intz b:=aZ1
theorem ay8 (a:List Int):(intz a).length=a.length:=aW5 _
noncomputable def IsI (x:PV) (ns:List Int):Prop:=x = .tup (intz ns) ∨ x = .lst (intz ns)
theorem o5:∀ (ls:List (Int × Int)),flats (ls.map fun l=>PV.tup [.int l.1,.int l.2])=true
 | []=>rfl
 | l :: r=>by
  show (flat (.tup [.int l.1,.int l.2]) && flats (r.map fun l=>PV.tup [.int l.1,.int l.2]))=true
  rw [o5 r]; rfl
theorem rD (ns:List Int):flat (.tup (intz ns))=true:=u7 ns
noncomputable abbrev dJ (t:aO) (N:List Str) (p:bW):Prop:=∀ xs Q,p xs Q->t { nx:=fun _=>Q .non,rt:=Q } (fU N xs)
noncomputable def inB (n:Nat) (x:Int):Bool:=decide (0<=x) && decide (x < (n:Int))
structure DS (ps:List (aH × PV)) (S:List Int):Prop where
 has:∀ i:Int,(cC ps (Sum.inl i:aH)).isSome=decide (i ∈ S)
 len:ps.length<=S.length
 fl:flats (ps.map (·.2))=true
section
variable {κ : Type} [DecidableEq κ]
theorem ay9 {p:κ × PV}{r:List (κ × PV)}{k:κ} (e:p.1=k):cC (p :: r) k=some p.2:=by simp [cC,bf8,e]
theorem az0 {p:κ × PV}{r:List (κ × PV)}{k:κ} (e : ¬ p.1=k):cC (p :: r) k=cC r k:=by simp [cC,bf8,e]
theorem rE (k:κ):∀ kvs:List (κ × PV),(kvs.any fun kv=>decide (kv.1=k))=(cC kvs k).isSome
 | []=>rfl
 | p :: r=>by
  rw [List.any_cons]
  by_cases e:p.1=k
  ·simp only [ay9 e,aX2 e,Bool.true_or,Option.isSome_some]
  ·rw [az0 e,aW6 e,Bool.false_or]; exact rE k r
end
noncomputable def az1:aO:=(bV (aI gO (a7 (gQ (dS (a5 0)) [none,some 1] (cG 0) (aX (iI false (a5 0) (a5 1))) (a5 0)) aC)))
theorem L8 {ws:List Int}{h:Int} (h0:0<=h) (h1:h < (ws.length:Int)):atI (intz ws) h=some (.int (ws.getD h.toNat 0)):=by
 refine an4 h0 ?_
 have:h.toNat < ws.length:=by omega
 rw [aX1,ba8,aY1 this]; rfl
noncomputable def tups (rs:List (List Int)):List PV:=rs.map fun r=>PV.tup (intz r)
theorem L9:∀ (rs:List (List Int)),flats (tups rs)=true
 | []=>rfl
 | r :: t=>by
  show (flat (.tup (intz r)) && flats (tups t))=true
  rw [rD,L9 t]; rfl
end Core
namespace PP
open PySem L2
noncomputable def vH:List PV->(PV->Prop)->Prop:=fun xs Q=>∃ ps:List (List aH × PV),xs = [.dT ps]/\Q (.lst (ps.map fun p=>PV.tup (p.1.map kP)))
end PP
namespace Core
open PySem L2 PP
theorem az2 (g:Tg) (n:Int):Nw g (.int n):=by cases g <;> first | exact trivial | rfl
noncomputable def o6 (x:PV) (ns:List Int):Prop:=x = .scr ns ∨ x = .lst (intz ns)
theorem o6.seq {x:PV}{ns:List Int} (h:o6 x ns):j5 x=some (intz ns):=by rcases h with rfl | rfl <;> rfl
theorem o6.len {x:PV}{ns:List Int} (h:o6 x ns):B9 x=some ns.length:=by
 rcases h with rfl | rfl
 ·rfl
 ·show some (intz ns).length=_
  rw [ay8]
noncomputable def jV:bW:=fun xs Q=>∃ x ns k,xs = [x,.int k]/\o6 x ns/\0<=k/\Q (.int (ns.getD k.toNat 0))
noncomputable def M0:aO:=(aJ (cF (aX (iJ (a5 1) (aI gO (a7 (a5 0) aC)))) (bV (bC (a5 0) (a5 1))) cL)
 (bV (qC (.int 0))))
theorem az3:dJ M0 ["script","k"] jV:=by
 rintro xs Q ⟨x,ns,k,rfl,hx,h0,q⟩
 refine⟨_,rfl,_,rfl,_,_,rfl,hx.len,_,_,rfl,rfl,_,rfl,?_⟩
 by_cases h:k < (ns.length:Int)
 ·rw [aX2 h]
  exact aZ ⟨_,rfl,_,rfl,_,_,_,hx.seq,rfl,L8 h0 h,az2 _ _,q⟩
 ·rw [aW6 h]
  rw [ba8,List.getElem?_eq_none (by omega)] at q
  exact aS ⟨trivial,q⟩
noncomputable def aN (ls:List (Int × Int)):List PV:=ls.map fun l=>PV.tup [.int l.1,.int l.2]
theorem dY (ls:List (Int × Int)):(aN ls).length=ls.length:=aW5 _
noncomputable def eD (l m:Int × Int):Prop:=l.1 < m.1 ∨ (l.1=m.1/\l.2 < m.2)
noncomputable abbrev si (n:Int):Option Slot:=some (.sh true (.int n))
noncomputable def rF:bW:=fun xs Q=>∃ i,xs = [.int i]/\Q (.bl true)
noncomputable def M3 (K:PySem.W.Frag):aO:=(bV (kN (kQ K "int" (a5 0)) (u9 (kQ K "bool" (a5 0)))))
theorem az4 {K:PySem.W.Frag} (k1:PySem.W.kitOne K (.type "int") (.type "int")=some true) (k2:PySem.W.kitOne K (.type "int") (.type "bool")=some false):dJ (M3 K) ["found"] rF:=by
 rintro xs Q ⟨i,rfl,q⟩
 exact⟨_,rfl,_,_,rfl,k1,_,rfl,aZ ⟨_,rfl,_,_,rfl,k2,_,rfl,trivial,q⟩⟩
theorem rG {ls:List (Int × Int)}{i:Nat}{x:PV} (h:(aN ls)[i]? = some x):∃ l,x = .tup [.int l.1,.int l.2]/\ls[i]? = some l:=by
 unfold aN at h
 rw [aX1] at h
 cases e:ls[i]? with
 | none=>rw [e] at h; cases h
 | some n=>rw [e] at h; exact⟨n,(aZ0 h).symm,rfl⟩
end Core
namespace PP
open PySem L2 PyProof.Rows
section
variable {X : Cx} {a b e : Expr} {ta tb te : aE} {tr : cK} {pos p2 p3 pos2 : Pos}
theorem az5:eO X vH (fun xs H Q=>∃ a kvs,xs = [.ref a]/\H a=some (.dT kvs)/\∀ l ys,H l=none->Paired (fP H) ys (kvs.map (·.1))->Q (.ref l) (upd H l (.lst ys))):=by
 rintro H vs xs Q Q' r ⟨ps,rfl,q⟩ k
 obtain ⟨v,rfl,r1⟩:=r.one
 cases r1 with
 | @dT a kvs _ m h e r2=>
  refine⟨a,kvs,rfl,h,fun l ys hl pr=>k _ _ _ (cE hl _) (.lst hl b9 ?_) q⟩
  have kv:∀ (k:List aH),Reps X.K (fun a=>H a=none) H (k.map kV) (k.map kP):=fun k=>by
   induction k with
   | nil=>exact .nil
   | cons a r ih=>exact .cons (by cases a <;> constructor) ih
  have go:∀ {ys:List V}{ks:List (List aH)},Paired (fP H) ys ks->Reps X.K (fun a=>H a=none) H ys (ks.map fun k=>PV.tup (k.map kP)):=fun {ys ks} pr=>by
   induction pr with
   | nil=>exact .nil
   | cons h t ih=>
    obtain ⟨q,rfl,hq⟩:=h
    exact .cons (.tup hq (kv _)) ih
  have e2:(ps.map fun p=>PV.tup (p.1.map kP))=(kvs.map (·.1)).map fun k=>PV.tup (k.map kP):=by rw [e,bb5]; rfl
  rw [e2]
  exact (go pr).same (cE hl _) fun _ z=>z
theorem az6 (B:Bt X.mg) (hc:X.calm=true) (ha:QA X [e] tr) (hg:Gl X "list":=by rfl) (he:starEach [e] X.env=(false,eval e X.env) :: starEach [] X.env:=by rfl) (hpl:(backTo pos (starEach [] X.env)).any (·.1)=false:=by rfl):QE X (.Call (.Name "list" p2) [e] [] pos) (aI vH tr):=
 uQ (an2 hc) az5 hg B.list PyProof.Rows.boot_list ha (he:=he) (hpl:=hpl)
noncomputable def vI:V->Int
 | .int i=>i
 | _=>0
noncomputable def l0 (H:Hp):V->List Int
 | .ref a=>match H a with
  | some (.tup us)=>us.map vI
  | _=>[]
 | _=>[]
theorem az7 {H:Hp}{a:Addr}{ns:List Int} (h:H a=some (.tup (ns.map V.int))):l0 H (.ref a)=ns:=by
 show (match H a with | some (.tup us)=>us.map vI | _=>[])=ns
 rw [h]
 show (ns.map V.int).map vI=ns
 rw [bb5]
 exact List.map_id _
theorem M4 {K:PySem.W.Frag}{M:Addr->Prop}{H:Hp}:∀ {us:List V}{ys:List (List Int)},Reps K M H us (ys.map fun r=>PV.tup (intz r))->us.map (l0 H)=ys/\∀ u ∈ us,∃ b,u = .ref b/\H b=some (.tup ((l0 H u).map V.int))
 | _,[],.nil=>⟨rfl,fun u h=>nomatch h⟩
 | _,y :: ys,.cons r t=>by
  obtain ⟨a,us,rfl,h,r1⟩:=r.sqT
  obtain rfl:=r1.ofInts
  obtain ⟨h1,h2⟩:=M4 t
  have hk:=az7 h
  refine⟨by rw [aY8,h1,hk],fun u hu=>?_⟩
  rcases aW9.mp hu with rfl | hu
  ·exact⟨a,rfl,by rw [hk]; exact h⟩
  ·exact h2 u hu
theorem M5 {K:PySem.W.Frag}{M:Addr->Prop}{H:Hp}:∀ {us:List V},(∀ u ∈ us,∃ b,u = .ref b/\H b=some (.tup ((l0 H u).map V.int)))->Reps K M H us ((us.map (l0 H)).map fun r=>PV.tup (intz r))
 | [],_=>.nil
 | u :: us,h=>by
  obtain ⟨b,rfl,hb⟩:=h u aX3
  exact .cons (.tup hb (Reps.intz _)) (M5 fun v hv=>h v (aX0 _ hv))
end
end PP
namespace Core
open PySem L2 PP
noncomputable def two (l:Int × Int):List Int:=[l.1,l.2]
noncomputable def o7 (r:List Int):Int × Int:=(r.getD 0 0,r.getD 1 0)
theorem l4 (ls:List (Int × Int)):aN ls=(ls.map two).map fun r=>PV.tup (intz r):=by
 unfold aN
 rw [bb5]; rfl
theorem vJ {zs:List (List Int)}{ls:List (Int × Int)} (h:zs.Perm (ls.map two)):∃ ls':List (Int × Int),zs=ls'.map two/\ls'.Perm ls:=by
 refine⟨zs.map o7,?_,?_⟩
 ·rw [bb5]
  have:∀ z ∈ zs,(two ∘ o7) z=z:=fun z hz=>by
   obtain ⟨l,_,rfl⟩:=ba3.mp (h.mem_iff.mp hz)
   rfl
  rw [List.map_congr_left this,List.map_id']
 ·have:=h.map o7
  rw [bb5] at this
  have e:ls.map (o7 ∘ two)=ls:=by
   have:∀ l ∈ ls,(o7 ∘ two) l=id l:=fun l _=>rfl
   rw [List.map_congr_left this,List.map_id]
  rw [e] at this
  exact this
theorem vK {ls:List (Int × Int)} (so:(ls.map two).Pairwise fun u v=>HT.aL v u=false) (nd:ls.Nodup):ls.Pairwise eD:=by
 rw [bg6] at so
 refine (List.pairwise_and_iff.mpr ⟨so,nd⟩).imp fun {a b} h=>?_
 obtain ⟨h1,h2⟩:=h
 unfold two at h1
 rw [HT.gM] at h1
 unfold eD
 by_cases e:b.1=a.1
 ·rw [if_pos e,HT.gM] at h1
  by_cases e2:b.2=a.2
  ·exact absurd (bj7 e.symm e2.symm) h2
  ·rw [if_neg e2] at h1
   have:=bi4 h1
   omega
 ·rw [if_neg e] at h1
  have:=bi4 h1
  omega
noncomputable def bF (l:Int × Int):List aH:=[Sum.inl l.1,Sum.inl l.2]
noncomputable def M6:bW:=fun xs Q=>∃ ns:List Int,xs = [.scr ns]/\ns.length<=63/\Q (.bl true)
structure az8 (K:PySem.W.Frag):Prop where
 ii:PySem.W.kitOne K (.type "int") (.type "int")=some true
 ib:PySem.W.kitOne K (.type "int") (.type "bool")=some false
 tt:PySem.W.kitOne K (.type "tuple") (.type "tuple")=some true
 ll:PySem.W.kitOne K (.type "list") (.type "list")=some true
 bb:PySem.W.kitOne K (.type "bool") (.type "bool")=some true
theorem vL (K:PySem.W.Frag):az8 K:=by
 have same:∀ n:String,PySem.W.kitMeta n=true->True:=fun _ _=>trivial
 refine⟨?_,?_,?_,?_,?_⟩
 ·unfold PySem.W.kitOne; rw [if_pos (by decide)]
 ·have e:(if PySem.W.kitMeta "bool" = true then (fastBuiltinMro "int").map (·.contains (Value.type "bool")) else none)=some false:=by decide +kernel
  unfold PySem.W.kitOne
  rw [if_neg (by decide)]
  exact e
 ·unfold PySem.W.kitOne; rw [if_pos (by decide)]
 ·unfold PySem.W.kitOne; rw [if_pos (by decide)]
 ·unfold PySem.W.kitOne; rw [if_pos (by decide)]
end Core
namespace PP
open PySem L2 PyProof.Rows
theorem az9 {P:Program}{w:World}{K:PySem.W.Frag}{mg:Str->Option Value}{base:Heap}{k:Nat}{x:Str}{ps N:List Str}{p:bW}{st:Stmt}{f:Addr}{fd:FuncData} (F:gB K x x st f fd) (S:FnScope N ps (aW st))
  (len:∀ xs Q,p xs Q->xs.length=ps.length)
  (body:∀ (cdv:Value) (A:Around) (outer:List Env) (s:Shared) (H:Hp) (E:XK),c6 k (A.deeper (envOfC x (aW st) s.heap.objs.size f cdv))->
   ∃ t,dW (dA fN P w K mg base N x (aW st) f cdv A outer s H E).nox (eL st) t/\∀ xs Q,p xs Q->t { nx:=fun _=>Q .non,rt:=Q } (fU N xs)):dQ P w K mg base fN (k+1) f fd ps (nK K p):=by
 refine F.ok S (fun vs H Q E h=>?_) (fun cdv A outer s H vs Q E hr h=>?_)
 ·obtain ⟨xs,Qp,r,q,_⟩:=h
  rw [r.length]; exact len xs Qp q
 ·obtain ⟨xs,Qp,r,q,k⟩:=h
  obtain ⟨t,ht,hq⟩:=body cdv A outer s H E hr
  refine⟨_,ht,fun _=>False,fU N xs,_,uZ r,hq xs Qp q,?_,?_,?_,?_⟩
  ·exact fun W' σ' H' ρ' e px q=>k _ _ _ px.same .non q
  ·exact fun v H' x s r q=>k _ _ _ s r q
  ·exact fun W' σ' H' ρ' e px q=>q
  ·exact fun W' σ' H' ρ' e px q=>q
noncomputable def rH (K:PySem.W.Frag):Sp:=fun vs H Q _=>∃ (a:Addr) (ns:List Int),vs = [.ref a]/\iZ K H a ns/\ns.length<=63/\∀ H',Q (.bl true) H'
theorem aA0 {P:Program}{w:World}{K:PySem.W.Frag}{mg:Str->Option Value}{base:Heap}{k:Nat}{f:Addr}{fd:FuncData} (F:dQ P w K mg base fN k f fd ["script"] (nK K Core.M6)):dQ P w K mg base fN k f fd ["script"] (rH K):=
 F.imp fun vs H Q E h=>by
  obtain ⟨a,ns,rfl,hs,hl,q⟩:=h
  refine⟨[.scr ns],fun z=>z = .bl true,.cons (.scr hs) .nil,⟨ns,rfl,hl,rfl⟩,?_⟩
  rintro v H' x _ r rfl
  cases r
  exact q H'
theorem aA1 {K:PySem.W.Frag}{H:Hp}{a:Addr}{ns:List Int} (hO:pF H) (h:aU K H a (ns.map V.int)):iZ K H a ns:=by
 rcases h with (h | ⟨o,h⟩) | h
 ·rcases hO a with e | ⟨o,xs,e⟩ <;> (rw [h] at e; cases e)
 ·exact .inl ⟨o,h⟩
 ·exact .inr h
end PP
namespace PyProof.Rows
open PySem
end PyProof.Rows
namespace L2
open PySem PySem.Spec PyProof.Rows
noncomputable def vM (K:PySem.W.Frag) (a:Addr):It:=
  ⟨fun i H=>∃ xs x,aU K H a xs/\xs[i]? = some x,
   fun i H v H'=>∃ T x,H T=none/\v = .ref T/\H'=upd H T (.tup [.int i,x])/\∀ xs,aU K H a xs->xs[i]? = some x,
   fun i H=>∃ xs,aU K H a xs/\xs.length<=i⟩
structure aA2 (e it a:Addr) (i:Nat) (h:Heap):Prop where
 ee:∃ old,IsEnum h e it i old
 s1:h.IsListIter it a i
theorem aA3 {P:Program}{w:World}{K:PySem.W.Frag}{elts:List Expr}{k:Nat}{pos:Pos} (a e it:Addr) (d:e ≠ it) :
  gZ P w K (.Tuple elts k pos) (vM K a) [e,it] e (aA2 e it a):=by
 refine⟨by simp,fun i h st c hc=>?_,fun i h h' st kp=>?_,?_,?_,fun A i s Q E st q=>?_⟩
 ·simp only [aW9,aX9,bb3] at hc
  obtain ⟨old,ee⟩:=st.ee
  obtain ⟨o1,f1,g1,d1⟩:=st.s1
  rcases hc with rfl | rfl
  ·exact⟨_,ee,fun v q=>by cases q⟩
  ·exact⟨_,f1,fun v q=>by rw [d1] at q; cases q⟩
 ·obtain ⟨old,ee⟩:=st.ee
  exact⟨⟨old,kp e (by simp) _ ee⟩,st.s1.at fun o z=>kp it (by simp) o z⟩
 ·intro X hP hw hK hc i pins s σ H E I hf st hg
  subst hP hw hK
  obtain ⟨xs,x,ha,hx⟩:=hg
  obtain ⟨us,ru,pu,lu⟩:=I.list ha
  obtain ⟨ux,eux,rux⟩:=ru.get hx
  obtain ⟨old,ee⟩:=st.ee
  refine wpAny_pyNext_enum_item ee st.s1 pu.isList (by simpa using eux) d fun h' eo it' pr sz kp=>⟨_,rfl,?_⟩
  refine wpAny_letOwnedTupleGo_enum (s:={ s with heap:=h',toks:=s.toks+1 }) eo fun g zz sb=>?_
  have hzl:e < s.heap.objs.size:=aX8 ee
  have up:∀ c o,c ≠ e->c ≠ it->s.heap.get? c=some o->g.get? c=some o:=fun c o c1 c2 z=>sb.extBut c o c1 (kp c o c1 c2 z)
  have hT:H s.heap.objs.size=none:=I.hok.fresh (aX5 _)
  have prG:g.get? s.heap.objs.size=some { cls:=.type "tuple",data:=.seq #[.int i s.toks,ux] }:=sb.extBut _ _ (bf3 hzl) pr
  have fpn:∀ c u,H c=some u->c ∉ [e,it]:=fun c u z hm=>by rw [(hf c hm).1] at z; cases z
  have upH:∀ c o u,H c=some u->s.heap.get? c=some o->g.get? c=some o:=fun c o u q z=>by
   have:=fpn c u q
   simp only [aW9,aX9,bb3,not_or] at this
   exact up c o this.1 this.2 z
  have ns:∀ m,s.heap.Ns X.env.locals m->g.Ns X.env.locals m:=fun m hm=>by
   obtain ⟨o,es,ep,e1,e2⟩:=hm
   exact⟨o,es,ep,up _ o (Ne.symm (hf e (by simp)).2.1) (Ne.symm (hf it (by simp)).2.1) e1,e2⟩
  have I2:a6 X pins σ (upd H s.heap.objs.size (.tup [.int i,x])) { s with heap:=g,toks:=s.toks+1 }:=by
   refine I.step (g':=s.gens) (d':=s.drawn) (ch:=[e,it]) (fun c hc'=>?_) (fun c o _ _ hc' z _=>?_) (fun c o _ _ hc' z _=>⟨o.slots,?_⟩) (fun c o _ z n=>?_) (fun c o hc' z=>⟨o,?_⟩)
    (fun c zs z=>by rw [aF (cZ z hT)]; exact z) (fun c u zs z=>by rw [aF (cZ z hT)]; exact z) (fun c ps z=>⟨#[],by rw [aF (cZ z hT),z]; simp⟩) ns (fun c u z=>?_) I.bare
   ·exact⟨(hf c hc').2.2.2.1,(hf c hc').2.1,(hf c hc').2.2.2.2.1,(hf c hc').2.2.2.2.2⟩
   ·simp only [aW9,aX9,bb3,not_or] at hc'
    exact up c o hc'.1 hc'.2 z
   ·simp only [aW9,aX9,bb3,not_or] at hc'
    exact up c o hc'.1 hc'.2 z
   ·rw [aF (aZ6 (aX8 z))]; exact n
   ·simp only [aW9,aX9,bb3,not_or] at hc'
    exact up c o hc'.1 hc'.2 z
   ·by_cases hcT:c=s.heap.objs.size
    ·subst hcT
     rw [b9] at z; cases z
     exact⟨by show 2<=sizeLine; decide,[.int i s.toks,ux],.cons ⟨_,rfl⟩ (.cons rux .nil),⟨_,prG,rfl,_,rfl⟩,fun u e=>by rw [prG] at e; cases e; rfl⟩
    ·rw [aF hcT] at z
     refine (I.hok c u z).stay (fun c' o' hc2 q'=>?_) (fun c' q'=>by rw [aF (cZ q' hT)]; exact q') fun c' zs q'=>by rw [aF (cZ q' hT)]; exact q'
     rcases hc2 with rfl | hc2
     ·exact upH _ _ _ z q'
     ·exact upH _ _ _ hc2 q'
  refine⟨.ref s.heap.objs.size,_,I2,rfl,⟨_,x,hT,rfl,rfl,fun xs' ha'=>?_⟩,⟨⟨ux,by push_cast; exact zz⟩,it'.at fun o z=>sb.extBut _ o (Ne.symm d) z⟩,fun c hc'=>?_⟩
  ·rw [I.list_inj ha' ha]; exact hx
  ·obtain ⟨o,z⟩:∃ o,s.heap.get? c=some o:=by
    simp only [aW9,aX9,bb3] at hc'
    obtain ⟨o1,f1,_⟩:=st.s1
    rcases hc' with rfl | rfl
    ·exact⟨_,ee⟩
    ·exact⟨_,f1⟩
   rw [aF (aZ6 (aX8 z))]; exact (hf c hc').1
 ·intro X hP hw hK hc i pins s σ H E I hf st hg
  subst hP hw hK
  obtain ⟨xs,ha,hi⟩:=hg
  obtain ⟨us,ru,pu,lu⟩:=I.list ha
  obtain ⟨old,ee⟩:=st.ee
  have hh:X.A.handled=none:=I.ok.hd hc
  have e1:=ru.length
  refine wpAny_pyNext_enum_end hh ee st.s1 pu.isList (by rw [Array.getElem?_eq_none]; simp only [aY2]; omega) fun g kp=>⟨rfl,?_⟩
  have fpn:∀ c u,H c=some u->c ∉ [e,it]:=fun c u z hm=>by rw [(hf c hm).1] at z; cases z
  have upH:∀ c o u,H c=some u->s.heap.get? c=some o->g.get? c=some o:=fun c o u q z=>by
   have:=fpn c u q
   simp only [aW9,aX9,bb3,not_or] at this
   exact kp c o this.2 z
  have ns:∀ m,s.heap.Ns X.env.locals m->g.Ns X.env.locals m:=fun m hm=>by
   obtain ⟨o,es,ep,e1,e2⟩:=hm
   exact⟨o,es,ep,kp _ o (Ne.symm (hf it (by simp)).2.1) e1,e2⟩
  refine I.step (g':=s.gens) (d':=s.drawn) (ch:=[it]) (fun c hc'=>?_) (fun c o _ _ hc' z _=>?_) (fun c o _ _ hc' z _=>⟨o.slots,?_⟩) (fun c o _ z n=>n) (fun c o hc' z=>⟨o,?_⟩)
   (fun c zs z=>z) (fun c u zs z=>z) (fun c ps z=>⟨#[],by rw [z]; simp⟩) ns (fun c u z=>?_) I.bare
  ·have hm:c ∈ [e,it]:=aX0 _ hc'
   exact⟨(hf c hm).2.2.2.1,(hf c hm).2.1,(hf c hm).2.2.2.2.1,(hf c hm).2.2.2.2.2⟩
  ·exact kp c o (fun y=>hc' (by rw [y]; simp)) z
  ·exact kp c o (fun y=>hc' (by rw [y]; simp)) z
  ·exact kp c o (fun y=>hc' (by rw [y]; simp)) z
  ·refine (I.hok c u z).stay (fun c' o' hc2 q'=>?_) (fun _ q'=>q') fun _ _ q'=>q'
   rcases hc2 with rfl | hc2
   ·exact upH _ _ _ z q'
   ·exact upH _ _ _ hc2 q'
 ·obtain ⟨old,ee⟩:=st.ee
  exact wpAny_pyIter_enum ee q
end L2
namespace Zp
open PySem PyProof.Rows
section
variable {prog : Program} {w : World} {A : Around} {E : Value → Shared → Prop} {s : Shared}
theorem aA4 {e it t:Addr}{i:Nat}{items:Array Value}{x old:Value}{Q:Option Value->Shared->Prop} (he:IsEnum s.heap e it i old) (hi:s.heap.IsTupleIter it t i) (ht:s.heap.IsTuple t items) (hx:items[i]? = some x) (ne:e ≠ it)
  (q:∀ h',IsEnumOut h' e it ((i:Int)+1) x s.heap.objs.size->h'.IsTupleIter it t (i+1)->h'.get? s.heap.objs.size=some { cls:=.type "tuple",data:=.seq #[.int i s.toks,x] }->h'.objs.size=s.heap.objs.size+1->
   (∀ b o,b ≠ e->b ≠ it->s.heap.get? b=some o->h'.get? b=some o)->Q (some (.ref s.heap.objs.size)) { s with heap:=h',toks:=s.toks+1 }):wpAny (model prog w) A (pyNext (.ref e)) Q E s:=by
 have T:s.TypeIs (.ref e) "enumerate":=⟨_,he,rfl⟩
 have slot:=PySem.F.slot_enumerate_next
 unfold pyNext
 apply aW2
 apply wpAny_attempt
 apply bc7 (name:=Str.ofString "__next__") T slot
 apply bd0 slot T PySem.F.entry_enumerate_next _ (PySem.F.args_enumerate_next_1 _)
 change wpAny _ _ (field (.ref e) 2 >>= _) _ _ _
 apply aW2
 refine bc6 he rfl (x:=.ref it) rfl ?_
 apply aW2
 refine A7 hi ht hx fun g1 it1 sb1=>?_
 have e1:IsEnum g1 e it i old:=sb1.extBut _ _ ne he
 change wpAny _ _ (field (.ref e) 3 >>= _) _ _ _
 apply aW2
 refine bc6 e1 rfl (x:=rawInt i) rfl ?_
 change wpAny _ _ (field (.ref e) 4 >>= _) _ _ _
 apply aW2
 refine bc6 e1 rfl (x:=.none) rfl ?_
 change wpAny _ _ (mkInt i >>= _) _ _ _
 apply aW2
 refine wpAny_mkInt ?_
 change wpAny _ _ (setField (.ref e) 3 (rawInt ((i:Int)+1)) >>= _) _ _ _
 apply aW2
 refine bd6 e1 (by simp) fun g2 e2 sb2=>?_
 apply aW2
 refine bd6 e2 (by simp) fun g3 e3 sb3=>?_
 have e3:IsEnum g3 e it ((i:Int)+1) old:=e3
 apply aW2
 refine wpAny_newTuple ?_ (by show 2<=sizeLine; decide)
 have e4:IsEnum (g3.push { cls:=.type "tuple",data:=.seq #[.int i s.toks,x] }) e it ((i:Int)+1) old:=aW4 _ e3
 have size:g3.objs.size=s.heap.objs.size:=by rw [sb3.1,sb2.1,sb1.1]
 change wpAny _ _ (Builtin.SmallTypes.ownedTupleIsFree (.ref e) >>= _) _ _ _
 apply aW2
 unfold Builtin.SmallTypes.ownedTupleIsFree
 apply aW2
 refine bc6 e4 rfl (x:=.none) rfl (aW7 ?_)
 simp only [if_true]
 apply aW2
 apply bl2
 apply aW2
 refine bc6 e4 rfl (x:=old) rfl ?_
 apply aW2
 refine bd6 e4 (by simp) fun g5 e5 sb5=>?_
 apply aW2
 unfold Builtin.SmallTypes.ownedTupleHandOut
 apply aW2
 refine bd6 e5 (by simp) fun g6 e6 sb6=>?_
 refine bd6 e6 (by simp) fun g7 e7 sb7=>?_
 have e7:IsEnumOut g7 e it ((i:Int)+1) x g3.objs.size:=e7
 have elt:e < g3.objs.size:=aX8 e3
 have up:∀ c o,c ≠ e->(g3.push { cls:=.type "tuple",data:=.seq #[.int i s.toks,x] }).get? c=some o->g7.get? c=some o:=fun c o c1 z=>sb7.extBut c o c1 (sb6.extBut c o c1 (sb5.extBut c o c1 z))
 have up3:∀ c o,c ≠ e->g1.get? c=some o->g7.get? c=some o:=fun c o c1 z=>up c o c1 (aW4 _ (sb3.extBut c o c1 (sb2.extBut c o c1 z)))
 have p7:g7.get? g3.objs.size=some { cls:=.type "tuple",data:=.seq #[.int i s.toks,x] }:=up _ _ (bf3 elt) (aY0 _ rfl)
 have s7:g7.objs.size=g3.objs.size+1:=by rw [sb7.1,sb6.1,sb5.1,be0]
 apply aW2
 apply bh9
 apply aW7
 rw [size] at e7 p7 s7
 refine⟨_,rfl,aW7 ?_⟩
 change Q (some (.ref g3.objs.size)) _
 rw [size]
 exact q g7 e7 (it1.at fun o z=>up3 it o (Ne.symm ne) z) p7 s7 fun b o b1 b2 z=>up3 b o b1 (sb1.extBut b o b2 z)
theorem aA5 {e it t:Addr}{i:Nat}{items:Array Value}{old:Value}{Q:Option Value->Shared->Prop} (hh:A.handled=none) (he:IsEnum s.heap e it i old) (hi:s.heap.IsTupleIter it t i) (ht:s.heap.IsTuple t items) (hx:items[i]? = none)
  (q:∀ h',Heap.ExtBut it s.heap h'->Q none { s with heap:=h' }):wpAny (model prog w) A (pyNext (.ref e)) Q E s:=by
 have T:s.TypeIs (.ref e) "enumerate":=⟨_,he,rfl⟩
 have slot:=PySem.F.slot_enumerate_next
 unfold pyNext
 apply aW2
 apply wpAny_attempt
 apply bc7 (name:=Str.ofString "__next__") T slot
 apply bd0 slot T PySem.F.entry_enumerate_next _ (PySem.F.args_enumerate_next_1 _)
 change wpAny _ _ (field (.ref e) 2 >>= _) _ _ _
 apply aW2
 refine bc6 he rfl (x:=.ref it) rfl ?_
 apply aW2
 refine A8 hh hi ht hx fun g2 ex eb exo=>?_
 obtain ⟨oe,eo,co⟩:=exo
 apply aW2
 refine wpAny_isInstance (T:="StopIteration") (b:=true) ⟨oe,eo,co⟩ isSubtype_stop ?_
 exact aW7 (q g2 eb)
theorem aA6 {M:Model}{A:Around}{E:Value->Shared->Prop}{s:Shared}{α:Type}{c:Prop} [Decidable c] {m n:Sem α}{Q:α->Shared->Prop} (h1:wpAny M A m Q E s) (h2:wpAny M A n Q E s):wpAny M A (if c then m else n) Q E s:=by
 split
 ·exact h1
 ·exact h2
theorem aA7 (t:Addr) (xs:Array Value):Meets (Builtin.«enumerate.__new__» ⟨[.type "enumerate",.ref t],[]⟩) (fun _ R s=>s.heap.IsTuple t xs/\R (.ok (.ret (.ref (s.heap.objs.size+1)))) { s with heap:=(s.heap.push { cls:=.type "tuple_iterator",data:=.fields #[.ref t,.int 0 0] }).push { cls:=.type "enumerate",data:=.fields #[.none,.bool false,.ref s.heap.objs.size,rawInt 0,.none,.none] } }):=
 .of_wp fun prog w A R s h=>by
  obtain ⟨hp,g,d,tk,os⟩:=s
  obtain ⟨ht,h⟩:=h
  have sub:=sub_enumerate
  have a1:Heap.IsTuple (Shared.heap ⟨hp,g,d,tk,os⟩) t xs:=ht
  wp_walk using bh1 a1
  refine wpAny_stack_any fun st=>aW7 ?_
  refine aA6 ?_ ?_
  all_goals
   apply aW2
   refine wpAny_of_eq (a:=(Value.ref t,none)) rfl ?_
   wp_walk using bh1 a1
   have e:∀ (o:Obj) (k:Heap),(k.push o).objs.size=k.objs.size+1:=fun o k=>be0 ..
   refine⟨_,rfl,?_⟩
   simp only [e] at h ⊢
   exact h
theorem aA8 {t:Addr}{xs:Array Value}{Q:Value->Shared->Prop} (ht:s.heap.IsTuple t xs)
  (q:∀ h',IsEnum h' (s.heap.objs.size+1) s.heap.objs.size 0 .none->h'.IsTupleIter s.heap.objs.size t 0->h'.objs.size=s.heap.objs.size+2->(∀ c o,s.heap.get? c=some o->h'.get? c=some o)->Q (.ref (s.heap.objs.size+1)) { s with heap:=h' }) :
  wpAny (model prog w) A (call (.type "enumerate") [.ref t]) Q E s:=by
 refine callType_new PySem.F.called_enumerate (by decide) (PySem.F.typeCall_enumerate_1 _) (PySem.F.newCall_enumerate_1 _) (fun obj=>PySem.F.args_object_init_2 obj _) PySem.F.entry_enumerate_new (aA7 t xs) ⟨ht,?_⟩
 have e:∀ (o:Obj) (k:Heap),(k.push o).objs.size=k.objs.size+1:=fun o k=>be0 ..
 have g0:((s.heap.push { cls:=.type "tuple_iterator",data:=.fields #[.ref t,.int 0 0] }).push { cls:=.type "enumerate",data:=.fields #[.none,.bool false,.ref s.heap.objs.size,rawInt 0,.none,.none] }).get? s.heap.objs.size=some { cls:=.type "tuple_iterator",data:=.fields #[.ref t,.int 0 0] }:=aW4 _ (aY0 _ rfl)
 have g1:((s.heap.push { cls:=.type "tuple_iterator",data:=.fields #[.ref t,.int 0 0] }).push { cls:=.type "enumerate",data:=.fields #[.none,.bool false,.ref s.heap.objs.size,rawInt 0,.none,.none] }).get? (s.heap.objs.size+1)=some { cls:=.type "enumerate",data:=.fields #[.none,.bool false,.ref s.heap.objs.size,rawInt 0,.none,.none] }:=by
  have:=aY0 (h:=s.heap.push { cls:=.type "tuple_iterator",data:=.fields #[.ref t,.int 0 0] }) (o:={ cls:=.type "enumerate",data:=.fields #[.none,.bool false,.ref s.heap.objs.size,rawInt 0,.none,.none] }) rfl
  rw [e] at this; exact this
 exact⟨⟨_,g1,rfl⟩,q _ g1 ⟨_,g0,rfl,rfl⟩ (by rw [e,e]) fun c o z=>aW4 _ (aW4 _ z)⟩
end
end Zp
namespace L2
open PySem PySem.Spec PyProof.Rows
noncomputable def vN (K:PySem.W.Frag) (a:Addr):It:=
  ⟨fun i H=>∃ xs x,aR K H a xs/\xs[i]? = some x,
   fun i H v H'=>∃ T x,H T=none/\v = .ref T/\H'=upd H T (.tup [.int i,x])/\∀ xs,aR K H a xs->xs[i]? = some x,
   fun i H=>∃ xs,aR K H a xs/\xs.length<=i⟩
structure aA9 (e it a:Addr) (i:Nat) (h:Heap):Prop where
 ee:∃ old,IsEnum h e it i old
 s1:h.IsTupleIter it a i
theorem aB0 {P:Program}{w:World}{K:PySem.W.Frag}{elts:List Expr}{k:Nat}{pos:Pos} (a e it:Addr) (d:e ≠ it) :
  gZ P w K (.Tuple elts k pos) (vN K a) [e,it] e (aA9 e it a):=by
 refine⟨by simp,fun i h st c hc=>?_,fun i h h' st kp=>?_,?_,?_,fun A i s Q E st q=>?_⟩
 ·simp only [aW9,aX9,bb3] at hc
  obtain ⟨old,ee⟩:=st.ee
  obtain ⟨o1,f1,g1,d1⟩:=st.s1
  rcases hc with rfl | rfl
  ·exact⟨_,ee,fun v q=>by cases q⟩
  ·exact⟨_,f1,fun v q=>by rw [d1] at q; cases q⟩
 ·obtain ⟨old,ee⟩:=st.ee
  exact⟨⟨old,kp e (by simp) _ ee⟩,st.s1.at fun o z=>kp it (by simp) o z⟩
 ·intro X hP hw hK hc i pins s σ H E I hf st hg
  subst hP hw hK
  obtain ⟨xs,x,ha,hx⟩:=hg
  obtain ⟨us,ru,pu,lu⟩:=I.tuple ha
  obtain ⟨ux,eux,rux⟩:=ru.get hx
  obtain ⟨old,ee⟩:=st.ee
  refine Zp.aA4 ee st.s1 pu (by simpa using eux) d fun h' eo it' pr sz kp=>⟨_,rfl,?_⟩
  refine wpAny_letOwnedTupleGo_enum (s:={ s with heap:=h',toks:=s.toks+1 }) eo fun g zz sb=>?_
  have hzl:e < s.heap.objs.size:=aX8 ee
  have up:∀ c o,c ≠ e->c ≠ it->s.heap.get? c=some o->g.get? c=some o:=fun c o c1 c2 z=>sb.extBut c o c1 (kp c o c1 c2 z)
  have hT:H s.heap.objs.size=none:=I.hok.fresh (aX5 _)
  have prG:g.get? s.heap.objs.size=some { cls:=.type "tuple",data:=.seq #[.int i s.toks,ux] }:=sb.extBut _ _ (bf3 hzl) pr
  have fpn:∀ c u,H c=some u->c ∉ [e,it]:=fun c u z hm=>by rw [(hf c hm).1] at z; cases z
  have upH:∀ c o u,H c=some u->s.heap.get? c=some o->g.get? c=some o:=fun c o u q z=>by
   have:=fpn c u q
   simp only [aW9,aX9,bb3,not_or] at this
   exact up c o this.1 this.2 z
  have ns:∀ m,s.heap.Ns X.env.locals m->g.Ns X.env.locals m:=fun m hm=>by
   obtain ⟨o,es,ep,e1,e2⟩:=hm
   exact⟨o,es,ep,up _ o (Ne.symm (hf e (by simp)).2.1) (Ne.symm (hf it (by simp)).2.1) e1,e2⟩
  have I2:a6 X pins σ (upd H s.heap.objs.size (.tup [.int i,x])) { s with heap:=g,toks:=s.toks+1 }:=by
   refine I.step (g':=s.gens) (d':=s.drawn) (ch:=[e,it]) (fun c hc'=>?_) (fun c o _ _ hc' z _=>?_) (fun c o _ _ hc' z _=>⟨o.slots,?_⟩) (fun c o _ z n=>?_) (fun c o hc' z=>⟨o,?_⟩)
    (fun c zs z=>by rw [aF (cZ z hT)]; exact z) (fun c u zs z=>by rw [aF (cZ z hT)]; exact z) (fun c ps z=>⟨#[],by rw [aF (cZ z hT),z]; simp⟩) ns (fun c u z=>?_) I.bare
   ·exact⟨(hf c hc').2.2.2.1,(hf c hc').2.1,(hf c hc').2.2.2.2.1,(hf c hc').2.2.2.2.2⟩
   ·simp only [aW9,aX9,bb3,not_or] at hc'
    exact up c o hc'.1 hc'.2 z
   ·simp only [aW9,aX9,bb3,not_or] at hc'
    exact up c o hc'.1 hc'.2 z
   ·rw [aF (aZ6 (aX8 z))]; exact n
   ·simp only [aW9,aX9,bb3,not_or] at hc'
    exact up c o hc'.1 hc'.2 z
   ·by_cases hcT:c=s.heap.objs.size
    ·subst hcT
     rw [b9] at z; cases z
     exact⟨by show 2<=sizeLine; decide,[.int i s.toks,ux],.cons ⟨_,rfl⟩ (.cons rux .nil),⟨_,prG,rfl,_,rfl⟩,fun u e=>by rw [prG] at e; cases e; rfl⟩
    ·rw [aF hcT] at z
     refine (I.hok c u z).stay (fun c' o' hc2 q'=>?_) (fun c' q'=>by rw [aF (cZ q' hT)]; exact q') fun c' zs q'=>by rw [aF (cZ q' hT)]; exact q'
     rcases hc2 with rfl | hc2
     ·exact upH _ _ _ z q'
     ·exact upH _ _ _ hc2 q'
  refine⟨.ref s.heap.objs.size,_,I2,rfl,⟨_,x,hT,rfl,rfl,fun xs' ha'=>?_⟩,⟨⟨ux,by push_cast; exact zz⟩,it'.at fun o z=>sb.extBut _ o (Ne.symm d) z⟩,fun c hc'=>?_⟩
  ·rw [I.tuple_inj ha' ha]; exact hx
  ·obtain ⟨o,z⟩:∃ o,s.heap.get? c=some o:=by
    simp only [aW9,aX9,bb3] at hc'
    obtain ⟨o1,f1,_⟩:=st.s1
    rcases hc' with rfl | rfl
    ·exact⟨_,ee⟩
    ·exact⟨_,f1⟩
   rw [aF (aZ6 (aX8 z))]; exact (hf c hc').1
 ·intro X hP hw hK hc i pins s σ H E I hf st hg
  subst hP hw hK
  obtain ⟨xs,ha,hi⟩:=hg
  obtain ⟨us,ru,pu,lu⟩:=I.tuple ha
  obtain ⟨old,ee⟩:=st.ee
  have hh:X.A.handled=none:=I.ok.hd hc
  have e1:=ru.length
  refine Zp.aA5 hh ee st.s1 pu (by rw [Array.getElem?_eq_none]; simp only [aY2]; omega) fun g kp=>⟨rfl,?_⟩
  have fpn:∀ c u,H c=some u->c ∉ [e,it]:=fun c u z hm=>by rw [(hf c hm).1] at z; cases z
  have upH:∀ c o u,H c=some u->s.heap.get? c=some o->g.get? c=some o:=fun c o u q z=>by
   have:=fpn c u q
   simp only [aW9,aX9,bb3,not_or] at this
   exact kp c o this.2 z
  have ns:∀ m,s.heap.Ns X.env.locals m->g.Ns X.env.locals m:=fun m hm=>by
   obtain ⟨o,es,ep,e1,e2⟩:=hm
   exact⟨o,es,ep,kp _ o (Ne.symm (hf it (by simp)).2.1) e1,e2⟩
  refine I.step (g':=s.gens) (d':=s.drawn) (ch:=[it]) (fun c hc'=>?_) (fun c o _ _ hc' z _=>?_) (fun c o _ _ hc' z _=>⟨o.slots,?_⟩) (fun c o _ z n=>n) (fun c o hc' z=>⟨o,?_⟩)
   (fun c zs z=>z) (fun c u zs z=>z) (fun c ps z=>⟨#[],by rw [z]; simp⟩) ns (fun c u z=>?_) I.bare
  ·have hm:c ∈ [e,it]:=aX0 _ hc'
   exact⟨(hf c hm).2.2.2.1,(hf c hm).2.1,(hf c hm).2.2.2.2.1,(hf c hm).2.2.2.2.2⟩
  ·exact kp c o (fun y=>hc' (by rw [y]; simp)) z
  ·exact kp c o (fun y=>hc' (by rw [y]; simp)) z
  ·exact kp c o (fun y=>hc' (by rw [y]; simp)) z
  ·refine (I.hok c u z).stay (fun c' o' hc2 q'=>?_) (fun _ q'=>q') fun _ _ q'=>q'
   rcases hc2 with rfl | hc2
   ·exact upH _ _ _ z q'
   ·exact upH _ _ _ hc2 q'
 ·obtain ⟨old,ee⟩:=st.ee
  exact wpAny_pyIter_enum ee q
section
variable {X : Cx}
noncomputable def M7 (K:PySem.W.Frag) (ta:TA):TI:=fun σ H R=>ta σ H fun vs H1=>∃ a,vs = [.ref a]/\((∃ xs,aU K H1 a xs/\R (vM K a) H1) ∨ (∃ xs,aR K H1 a xs/\R (vN K a) H1))
theorem aB1 {elts:List Expr}{kt:Nat}{pt:Pos}{a:Expr}{ta:TA}{p pos:Pos} (hg:Gl X "enumerate") (hm:X.mg "enumerate" = none) (ha:PA X [a] ta) (hs:starEach [a] X.env = [(false,eval a X.env)]:=by rfl) :
  PI X (.Tuple elts kt pt) (.Call (.Name "enumerate" p) [a] [] pos) (M7 X.K ta):=by
 intro pins s σ H R I h
 refine Call_ (lI I hg hm PyProof.Rows.boot_enumerate (bj2 (aK (ha pos pins s σ H _ I h) fun us s1 ⟨vs,H1,I1,r1,q1⟩=>?_) (by rw [hs]; rfl) (by rfl)))
 obtain ⟨a',e,q⟩:=q1
 subst e
 have fresh:∀ k,H1 (s1.heap.objs.size+k)=none:=fun k=>I1.hok.fresh (bg2 _ _)
 cases r1 with
 | cons r rr=>
  cases rr
  cases r
  rcases q with ⟨xs,h1,q⟩ | ⟨xs,h1,q⟩
  ·obtain ⟨us,_,p1,_⟩:=I1.list h1
   refine call_enumerate_list p1.isList fun h' z s1' sz kp=>wpAny_pyIter_enum z ?_
   refine⟨s1.heap.objs.size+1,[s1.heap.objs.size+1,s1.heap.objs.size],_,_,H1,rfl,I1.kept (t':=s1.toks) kp,
    aA3 a' _ _ (Nat.succ_ne_self _),⟨⟨_,z⟩,s1'⟩,fun c hc=>?_,q⟩
   simp only [aW9,aX9,bb3] at hc
   rcases hc with rfl | rfl
   ·exact I1.fpOk (bg2 _ _) (fresh 1)
   ·exact I1.fpOk (aX5 _) (fresh 0)
  ·obtain ⟨us,_,p1,_⟩:=I1.tuple h1
   refine Zp.aA8 p1 fun h' z s1' sz kp=>wpAny_pyIter_enum z ?_
   refine⟨s1.heap.objs.size+1,[s1.heap.objs.size+1,s1.heap.objs.size],_,_,H1,rfl,I1.kept (t':=s1.toks) kp,
    aB0 a' _ _ (Nat.succ_ne_self _),⟨⟨_,z⟩,s1'⟩,fun c hc=>?_,q⟩
   simp only [aW9,aX9,bb3] at hc
   rcases hc with rfl | rfl
   ·exact I1.fpOk (bg2 _ _) (fresh 1)
   ·exact I1.fpOk (aX5 _) (fresh 0)
end
end L2
namespace PP
open PySem L2 PyProof.Rows
noncomputable def jB (xs:List PV):List PV:=xs.mapIdx fun i x=>PV.tup [.int (i:Int),x]
theorem vO (xs:List PV):(jB xs).length=xs.length:=by unfold jB; rw [List.length_mapIdx]
theorem M8 {xs:List PV}{i:Nat}{x:PV} (h:xs[i]? = some x):(jB xs)[i]? = some (.tup [.int (i:Int),x]):=by
 unfold jB; rw [List.getElem?_mapIdx,h]; rfl
theorem aB2 {xs:List PV}{i:Nat}{z:PV} (h:(jB xs)[i]? = some z):∃ x,xs[i]? = some x/\z = .tup [.int (i:Int),x]:=by
 unfold jB at h
 rw [List.getElem?_mapIdx] at h
 cases e:xs[i]? with
 | none=>rw [e] at h; cases h
 | some x=>rw [e] at h; exact⟨x,rfl,(aZ0 h).symm⟩
noncomputable def vP (te:aE):eQ:=fun ρ Q=>te ρ fun x g=>∃ xs,(x = .lst xs ∨ x = .tup xs)/\(g = .rd->flat x=true)/\Q (jB xs) (uI g xs)
theorem aB3 {K:PySem.W.Frag}{H0:Hp}{W:Addr->Prop}{g:Bool}{H1:Hp}{a:Addr}{us:List V}{xs:List PV} (tw:∀ a,W a->∃ o,H1 a=some o/\fQ o=true) (ha:∀ W' H',Ev W H1 W' H'->aU K H' a us) (r:Reps K (Ms H0 W g) H1 us xs):jN K H0 W g H1 (vM K a) (jB xs):=by
 have lr:=r.length
 have ll:=vO xs
 refine⟨fun W' H' i e hi=>⟨us,us[i]'(by omega),ha W' H' e,by simp⟩,fun W' H' i v H2 e y hi=>?_,fun W' H' e=>⟨us,ha W' H' e,by omega⟩⟩
 obtain ⟨T,x,hT,rfl,rfl,y⟩:=y
 obtain ⟨z,hz,rz⟩:=r.get (y us (ha W' _ e))
 have sm:=cE hT (HO.tup [.int (i:Int),x])
 exact⟨sm,_,M8 hz,.tup b9 (.cons (.int _) (.cons ((rz.keep (e.keep tw)).same sm fun _ q=>q) .nil))⟩
theorem aB4 {K:PySem.W.Frag}{H0:Hp}{W:Addr->Prop}{g:Bool}{H1:Hp}{a:Addr}{us:List V}{xs:List PV} (tw:∀ a,W a->∃ o,H1 a=some o/\fQ o=true) (ha:∀ W' H',Ev W H1 W' H'->aR K H' a us) (r:Reps K (Ms H0 W g) H1 us xs):jN K H0 W g H1 (vN K a) (jB xs):=by
 have lr:=r.length
 have ll:=vO xs
 refine⟨fun W' H' i e hi=>⟨us,us[i]'(by omega),ha W' H' e,by simp⟩,fun W' H' i v H2 e y hi=>?_,fun W' H' e=>⟨us,ha W' H' e,by omega⟩⟩
 obtain ⟨T,x,hT,rfl,rfl,y⟩:=y
 obtain ⟨z,hz,rz⟩:=r.get (y us (ha W' _ e))
 have sm:=cE hT (HO.tup [.int (i:Int),x])
 exact⟨sm,_,M8 hz,.tup b9 (.cons (.int _) (.cons ((rz.keep (e.keep tw)).same sm fun _ q=>q) .nil))⟩
section
variable {X : Cx} {σ : L2.St} {H : Hp} {te : aE} {R : It → Hp → Prop}
theorem aB5 (h:LI X (vP te) σ H R):M7 X.K (jG (LE X te) kB) σ H R:=by
 obtain ⟨W,ρ,Q,px,q,k⟩:=h
 refine⟨W,ρ,_,px,q,?_⟩
 rintro v H1 x g s r ⟨xs,hx,hg,q⟩
 have px1:=px.mono s
 have tw:∀ a,W a->∃ o,H1 a=some o/\fQ o=true:=fun a z=>(px1.wm a z).2
 rcases hx with rfl | rfl
 ·obtain ⟨a,us,rfl,m,h,r⟩:=r.sqL
  have wa : ¬ W a:=by
   cases g with
   | fr=>exact (px.new m).1
   | nw=>exact m.1
   | sh=>exact m
   | rd=>have:=hg rfl; unfold flat at this; cases this
  exact⟨a,rfl,.inl ⟨us,aU.of h,k _ _ _ _ s (aB3 tw (fun W' H' e=>aU.of (e _ _ h wa).1) (lT px (fun z=>by have:=hg z; unfold flat at this; cases this) r)) q⟩⟩
 ·obtain ⟨a,us,rfl,h,r⟩:=r.sqT
  refine⟨a,rfl,.inr ⟨us,aR.of h,k _ _ _ _ s (aB4 tw (fun W' H' e=>aR.of (e _ _ h fun z=>?_).1) (lT px (fun z=>by have:=hg z; unfold flat at this; exact this) r)) q⟩⟩
  obtain ⟨o,h',mu⟩:=tw _ z; rw [h] at h'; cases h'; cases mu
theorem aB6 {elts:List Expr}{kt:Nat}{pt p2 pos:Pos}{a:Expr}{ta:aE} (hg:Gl X "enumerate") (hm:X.mg "enumerate" = none) (ha:QE X a ta) (hs:starEach [a] X.env = [(false,eval a X.env)]:=by rfl):QI X (.Tuple elts kt pt) (.Call (.Name "enumerate" p2) [a] [] pos) (vP ta):=
 qH (aB1 hg hm (iU ha kC hs) hs) fun _ _ _=>aB5
end
section
variable {X : Cx} {e : Expr} {te : aE} {pos p2 : Pos} {scope : Scope} {N : List Str} {fr : List (Option Nat)} {x y : Str} {tp xp yp : Pos} {kt : Nat} {iter elt : Expr} {ti : eQ}
noncomputable abbrev vQ (x y:Str) (xp yp:Pos) (kt:Nat) (tp:Pos):Expr:=.Tuple [.Name x xp,.Name y yp] kt tp
theorem aB7 {ifs:List Expr}{tcs:bY} (hc:X.calm=true) (he:∀ (s:Shared) (H:Hp) (C:Addr) (fp:List Addr),QE (bO X scope N s H C fp cH) elt te) (hi:∀ (s:Shared) (H:Hp) (C:Addr) (fp:List Addr),kI (bO X scope N s H C fp cH) ifs (LT (bO X scope N s H C fp cH) tcs))
  (hN:N.Nodup) (h0:N[0]? = some x) (h1:N[1]? = some y) (hl:∀ (s:Shared) (H:Hp) (C:Addr) (fp:List Addr),(bO X scope N s H C fp cH).env.scope.names.lookup x=some .local) (hl2:∀ (s:Shared) (H:Hp) (C:Addr) (fp:List Addr),(bO X scope N s H C fp cH).env.scope.names.lookup y=some .local) (s:Shared) (H:Hp) :
  nF X scope N (vQ x y xp yp kt tp) ifs elt s H (lK X.K 2 (fZ (cR 0) (fZ (cR 1) lJ))) (LT (X.frm H) tcs) (LE (X.frm H) te):=
 ⟨fun C fp=>mZ (X:=bO X scope N s H C fp cH) hc (gJ (fJ hN h0 (.inl (hl s H C fp)) (.inr (hl s H C fp))) (gJ (fJ hN h1 (.inl (hl2 s H C fp)) (.inr (hl2 s H C fp))) mY)),fun C fp=>hi s H C fp,fun C fp=>he s H C fp⟩
theorem M9 (hi:QI X (vQ x y xp yp kt tp) iter ti) (he:∀ (s:Shared) (H:Hp) (C:Addr) (fp:List Addr),QE (bO X scope N s H C fp cH) elt te)
  (hc:X.calm=true:=by rfl) (S:dR X scope N fr:=by exact dR.of rfl rfl) (hN:N.Nodup:=by decide +kernel) (h0:N[0]? = some x:=by rfl) (h1:N[1]? = some y:=by rfl) (hl:∀ (s:Shared) (H:Hp) (C:Addr) (fp:List Addr),(bO X scope N s H C fp cH).env.scope.names.lookup x=some .local:=by intro _ _ _ _; rfl) (hl2:∀ (s:Shared) (H:Hp) (C:Addr) (fp:List Addr),(bO X scope N s H C fp cH).env.scope.names.lookup y=some .local:=by intro _ _ _ _; rfl) (hf:fr[0]? = some none:=by rfl) (hf2:fr[1]? = some none:=by rfl)
  (hs:∀ x,foldedSetIterable iter X.env x=pure x:=by intro _; rfl):QE X (.ListComp elt [⟨vQ x y xp yp kt tp,iter,[],0⟩] scope pos) (gQ ti fr (gP 0 1) i5 te):=
 c7 (pL (gh:=fun _=>lK X.K 2 (fZ (cR 0) (fZ (cR 1) lJ))) (tch:=fun H=>LT (X.frm H) i5) (teh:=fun H=>LE (X.frm H) te) hc S hi (aB7 hc he (fun _ _ _ _=>F6) hN h0 h1 hl hl2) hs) fun _ _ _=>pZ (pY _ 0 1) (fun i e=>by rcases e with e | e <;> (subst e; assumption))
end
section
variable {X : Cx} {a b e o f : Expr} {ta tb te td tk tx : aE} {pos p2 apos cpos : Pos} {σ : L2.St} {H : Hp} {Q' : VK}
theorem N0 {x:Str}{n:Int}{t:Nat} (hg:Gl X x) (hm:X.mg x=some (.int n t)) (hd:(x == ("__debug__" : Str))=false:=by decide):QE X (.Name x pos) (qC (.int n)):=
 c7 (ac2 (v:=.int n) hg hm ⟨t,rfl⟩ hd) fun _ _ _=>nH fun _=>.int n
end
end PP
namespace Core
open PySem L2 PP
section
variable (ws : List Int) (ls : List (Int × Int)) (os ns : List Int)
noncomputable def l5:Nat->List Int
 | 0=>[]
 | k+1=>l5 k ++ (os.find? (kin ws ls (ns ++ l5 k))).toList
noncomputable def vR (k:Nat):Option Int:=os.find? (kin ws ls (ns ++ l5 ws ls os ns k))
end
section
variable {ws : List Int} {ls : List (Int × Int)} {os ns : List Int}
theorem aV9 {k:Nat}{h:Int} (e:vR ws ls os ns k=some h):l5 ws ls os ns (k+1)=l5 ws ls os ns k ++ [h]:=by
 show l5 ws ls os ns k ++ (vR ws ls os ns k).toList=_
 rw [e]; rfl
noncomputable def aB8 (ws:List Int) (ls:List (Int × Int)) (T:List Int):Prop:=∀ h ∈ rng ws.length,kin ws ls T h=false
theorem aW0 {k:Nat}{h:Int} (e:vR ws ls os ns k=some h):h ∈ os/\h ∉ ns ++ l5 ws ls os ns k:=
 ⟨List.mem_of_find?_eq_some e,bi4 (ay6 (List.find?_some e))⟩
end
noncomputable def aB9 (ns S:List Int):Int:=(ns.length:Int) - (((ns.filter fun x=>decide (x ∈ S)).length:Nat):Int)
noncomputable def aC0 (ws:List Int) (ls:List (Int × Int)) (S:List Int) (h:Int):Bool:=decide (aB9 (tX ls h) S < ws.getD h.toNat 0)
noncomputable def stay (ws:List Int) (ls:List (Int × Int)) (S:List Int):List Int:=S.filter (aC0 ws ls S)
end Core
namespace Raw
open PySem PySem.W PyProof.Rows
section
variable {prog : Program} {w : World} {A : Around} {E : Value → Shared → Prop} {s : Shared} {T : String} {r d : Addr} {n : Nat} {P : Nat → Value → Prop} {OK : Heap → Prop}
theorem aC1 {R:Result->Shared->Prop} (K:KdlSrc prog w T r d n P OK) (hh:A.handled=none) (hok:OK s.heap) (hn:n<=sizeLine)
  (hR:∀ h' tk acc c,(∀ b o,b ≠ s.heap.objs.size->(s.heap.push { cls:=.type "list",data:=.seq ([]:List Value).toArray }).get? b=some o->h'.get? b=some o)->h'.get? s.heap.objs.size=some { cls:=.type "list",dict:=none,data:=.seq acc c,slots:=#[] }->ItemsOf P acc n->R (.ok (.ret (.ref s.heap.objs.size))) { s with heap:=h',toks:=tk }) :
  codeAny (model prog w) A (.builtin "proto.collect" ⟨[.ref r],[]⟩) R s:=by
 have lt:=K.there _ hok
 refine bg9 PySem.F.entry_proto_collect ?_
 rw [bd4 PySem.F.plain_proto_collect _]
 show wpAny _ A.in1 (newList [] >>= fun l=>again (.builtin "list.__iadd__" ⟨[l,.ref r],[]⟩)) _ _ s
 refine aW2 (bb2 ?_)
 refine aW7 ⟨bh4 PySem.F.plain_list_iadd _,bg9 PySem.F.entry_list_iadd ?_⟩
 rw [bd4 PySem.F.plain_list_iadd _]
 show wpAny _ A.in1 (Builtin.List.listExtendWith (.ref s.heap.objs.size) (.ref r) (.ref s.heap.objs.size)) _ _ _
 exact kdl_extend (s:={ s with heap:=s.heap.push { cls:=.type "list",data:=.seq ([]:List Value).toArray } }) (R:=R) K hh (K.keep _ _ hok fun b _ o e=>aW4 _ e) s.heap.objs.size (bf3 lt.1) (bf3 lt.2) _ 0 (aY0 _ rfl) hR hn
theorem aC2 {Q:List Value->Shared->Prop} (K:KdlSrc prog w T r d n P OK) (hh:A.handled=none) (hok:OK s.heap) (hn:n<=sizeLine)
  (hQ:∀ h' tk acc,(∀ b o,s.heap.get? b=some o->h'.get? b=some o)->s.heap.objs.size<=h'.objs.size->ItemsOf P acc n->Q acc.toList { s with heap:=h',toks:=tk }) :
  wpAny (model prog w) A (collect (.ref r)) Q E s:=by
 unfold collect
 refine aW2 (wpAny_runValue (aC1 (s:=s) K hh hok hn fun h' tk acc c kp at1 it=>?_))
 show wpAny _ A (load s.heap.objs.size >>= _) _ _ _
 refine aW2 (wpAny_load at1 ?_)
 exact aW7 (hQ h' tk acc (fun b o e=>kp b o (aZ6 (aX8 e)) (aW4 _ e)) (bj1 (aX8 at1)) it)
end
end Raw
namespace Core
open PySem L2 PP
theorem N1 {xs:List PV}{w:Int} (h:0<=w):i6 xs none (some w)=xs.take w.toNat:=by
 unfold i6
 rw [HT.ah2,List.drop_zero,Nat.sub_zero]
 have:HT.aV xs.length xs.length (some w)=min w.toNat xs.length:=by
  show (if w < 0 then (w+(xs.length:Int)).toNat else min w.toNat xs.length)=_
  rw [if_neg (by omega)]
 rw [this,<- List.take_take,ba6]
end Core
namespace L2
open PySem PySem.Spec PyProof.Rows
theorem N2:∀ (n:Nat) (ns:List Int),n<=ns.length->preSum (fun i=>ns.getD i 0) n=(ns.take n).sum
 | 0,_,_=>by simp [preSum]
 | n+1,ns,h=>by
  show preSum (fun i=>ns.getD i 0) n+ns.getD n 0=_
  have h1:ns[n]? = some (ns[n]'(by omega)):=aY1 (by omega)
  have h2:ns.take (n+1)=ns.take n ++ [ns[n]'(by omega)]:=by rw [aZ9,h1]; rfl
  have h3:ns.getD n 0=ns[n]'(by omega):=by rw [ba8,h1]; rfl
  rw [N2 n ns (by omega),h2,h3,List.sum_append,bc3,List.sum_nil]
  omega
section
variable {X : Cx}
theorem aC3 (hc:X.calm=true):cJ X (.builtin "sum") (fun xs H Q=>∃ (a:Addr) (ns:List Int),xs = [.ref a]/\(aU X.K H a (ns.map V.int) ∨ aR X.K H a (ns.map V.int))/\Q (.int ns.sum) H):=by
 intro pins s σ H xs us Q I r h
 obtain ⟨a,ns,rfl,hq,q⟩:=h
 obtain ⟨u,rfl,ru⟩:=hG r
 cases ru
 have hh:X.A.in1.handled=none:=I.ok.hd hc
 have fin:∀ (its:List Value) (o:Obj) (wr:List Addr) (hw:∀ b ∈ wr,s.heap.objs.size<=b),aQ (ns.map V.int) its->∀ s' t',Moved wr (fun a b=>b=a) { s with heap:=s.heap.push o } s'->
   ∃ x H',a6 X pins σ H' s'/\aP x (.int (preSum (fun i=>ns.getD i 0) its.toArray.size) t')/\Q x H':=fun its o wr hw rv s' t' hm=>by
  have hl:=rv.length
  rw [aW5] at hl
  have e:=Moved.eq_with hm
  have e2:preSum (fun i=>ns.getD i 0) its.toArray.size=ns.sum:=by rw [aY2,<- hl,N2 _ _ (aX5 _),ba6]
  rw [e2,e]
  refine⟨.int ns.sum,H,I.kept (t':=s'.toks) (h':=s'.heap) fun b o' eb=>hm.heap b o' (fun z=>?_) (aW4 _ eb),⟨t',rfl⟩,q⟩
  exact absurd (aX8 eb) (Nat.not_lt.mpr (hw b z))
 have val:∀ (its:List Value),aQ (ns.map V.int) its->∀ (i:Nat) (v:Value),its.toArray[i]? = some v->∃ t,v = .int (ns.getD i 0) t:=fun its rv i v hv=>by
  have hi:its[i]? = some v:=by simpa using hv
  have hl:=rv.length
  rw [aW5] at hl
  have hil:i < ns.length:=by rw [hl]; exact (aX7.mp hi).1
  obtain ⟨u,e1,e2⟩:=rv.get (i:=i) (x:=.int ns[i]) (by simp [hil])
  rw [hi] at e1; cases e1
  obtain ⟨t,rfl⟩:=e2
  exact⟨t,by rw [ba8,aY1 hil]; rfl⟩
 rcases hq with hq | hq
 ·obtain ⟨its,rv,p,hz⟩:=I.list hq
  have hlt:a < s.heap.objs.size:=by obtain ⟨o,e,_⟩:=p.isList; exact aX8 e
  refine call_sum_walkAnyS (wpAny_pyIter_list p.isList ?_)
  refine⟨s.heap.objs.size,_,_,_,_,_,_,fun i=>ns.getD i 0,rfl,(Walks.list hh s.heap.objs.size a (aZ6 hlt) its.toArray).toS,⟨⟨_,aY0 _ rfl,rfl,rfl⟩,p.isList.push _⟩,?_,val its rv,fun s' t' hm=>fin its _ _ ?_ rv s' t' hm⟩
  ·intro b hb
   have hs:(s.heap.push { cls:=.type "list_iterator",data:=.fields #[.ref a,.int 0 0] }).objs.size=s.heap.objs.size+1:=size_push' _ _
   show b < (s.heap.push _).objs.size
   rw [size_push']
   rcases aW9.mp hb with rfl | hb
   ·exact Nat.lt_succ_self _
   ·rw [aX4.mp hb]; exact Nat.lt_succ_of_lt hlt
  ·intro b hb
   rw [aX4.mp hb]; exact aX5 _
 ·obtain ⟨its,rv,p,hz⟩:=I.tuple hq
  have hlt:a < s.heap.objs.size:=by obtain ⟨o,e,_⟩:=p; exact aX8 e
  refine call_sum_walkAnyS (bh1 p ?_)
  refine⟨s.heap.objs.size,_,_,_,_,_,_,fun i=>ns.getD i 0,rfl,(Walks.tuple hh s.heap.objs.size a (aZ6 hlt) its.toArray).toS,⟨⟨_,aY0 _ rfl,rfl,rfl⟩,?_⟩,?_,val its rv,fun s' t' hm=>fin its _ _ ?_ rv s' t' hm⟩
  ·obtain ⟨o,e,h⟩:=p
   exact⟨o,aW4 _ e,h⟩
  ·intro b hb
   show b < (s.heap.push _).objs.size
   rw [size_push']
   rcases aW9.mp hb with rfl | hb
   ·exact Nat.lt_succ_self _
   ·rw [aX4.mp hb]; exact Nat.lt_succ_of_lt hlt
  ·intro b hb
   rw [aX4.mp hb]; exact aX5 _
end
end L2
namespace PP
open PySem L2 PyProof.Rows
section
variable {X : Cx} {a b e : Expr} {ta tb te : aE} {tr : cK} {pos p2 : Pos}
noncomputable def vS:List PV->(PV->Prop)->Prop:=fun xs Q=>∃ x ns,xs = [x]/\j5 x=some (intz ns)/\Q (.int ns.sum)
theorem aC4:eO X vS (fun xs H Q=>∃ (a:Addr) (ns:List Int),xs = [.ref a]/\(aU X.K H a (ns.map V.int) ∨ aR X.K H a (ns.map V.int))/\Q (.int ns.sum) H):=by
 rintro H vs xs Q Q' r ⟨x,ns,rfl,e,q⟩ k
 obtain ⟨v,rfl,r1⟩:=r.one
 obtain ⟨a,us,rfl,hs,r2⟩:=r1.seq e
 obtain rfl:=r2.ofInts
 exact⟨a,ns,rfl,hs,k _ _ _ (aD.refl _) (.int _) q⟩
theorem aC5 (B:Bt X.mg) (hc:X.calm=true) (ha:QA X [e] tr) (hg:Gl X "sum":=by rfl) (he:starEach [e] X.env=(false,eval e X.env) :: starEach [] X.env:=by rfl) (hpl:(backTo pos (starEach [] X.env)).any (·.1)=false:=by rfl):QE X (.Call (.Name "sum" p2) [e] [] pos) (aI vS tr):=
 iM (aC3 hc) aC4 hg B.sum PyProof.Rows.boot_sum ha (he:=he) (hpl:=hpl)
end
noncomputable def iN (xs ys:List PV):List PV:=List.zipWith (fun x y=>PV.tup [x,y]) xs ys
theorem vT (xs ys:List PV):(iN xs ys).length=min xs.length ys.length:=by unfold iN; rw [List.length_zipWith]
theorem N3 {xs ys:List PV}{i:Nat}{x y:PV} (h:xs[i]? = some x) (h':ys[i]? = some y):(iN xs ys)[i]? = some (.tup [x,y]):=by
 unfold iN; rw [List.getElem?_zipWith,h,h']
theorem aC6 {xs ys:List PV}{i:Nat}{z:PV} (h:(iN xs ys)[i]? = some z):∃ x y,xs[i]? = some x/\ys[i]? = some y/\z = .tup [x,y]:=by
 unfold iN at h
 rw [List.getElem?_zipWith] at h
 cases e:xs[i]? with
 | none=>rw [e] at h; cases h
 | some x=>
  cases e':ys[i]? with
  | none=>rw [e,e'] at h; cases h
  | some y=>rw [e,e'] at h; exact⟨x,y,rfl,rfl,(aZ0 h).symm⟩
theorem aC7 {K:PySem.W.Frag}{H0:Hp}{W:Addr->Prop}{g:Bool}{H1:Hp}{a b:Addr}{us vs:List V}{xs ys:List PV} (tw:∀ a,W a->∃ o,H1 a=some o/\fQ o=true) (ha:∀ W' H',Ev W H1 W' H'->aR K H' a us) (hb:∀ W' H',Ev W H1 W' H'->aR K H' b vs)
  (r:Reps K (Ms H0 W g) H1 us xs) (r':Reps K (Ms H0 W g) H1 vs ys):jN K H0 W g H1 (tZ K a b) (iN xs ys):=by
 have lr:=r.length
 have lr':=r'.length
 have ll:=vT xs ys
 refine⟨fun W' H' i e hi=>⟨us,vs,us[i]'(by omega),vs[i]'(by omega),ha W' H' e,hb W' H' e,by simp,by simp⟩,fun W' H' i v H2 e y hi=>?_,fun W' H' e=>⟨us,vs,ha W' H' e,hb W' H' e,by omega⟩⟩
 obtain ⟨T,x,y',hT,rfl,rfl,y⟩:=y
 obtain ⟨h1,h2⟩:=y us vs (ha W' _ e) (hb W' _ e)
 obtain ⟨z,hz,rz⟩:=r.get h1
 obtain ⟨z',hz',rz'⟩:=r'.get h2
 have sm:=cE hT (HO.tup [x,y'])
 exact⟨sm,_,N3 hz hz',.tup b9 (.cons ((rz.keep (e.keep tw)).same sm fun _ q=>q) (.cons ((rz'.keep (e.keep tw)).same sm fun _ q=>q) .nil))⟩
end PP
namespace Core
open PySem L2 PP
section
variable {ws : List Int} {ls : List (Int × Int)} {ns wts : List Int} {m : Nat}
noncomputable def loose (ls:List (Int × Int)) (wts ns:List Int):List ((Int × Int) × Int):=(ls.zip wts).filter fun z=>!(decide (z.1.1 ∈ ns) && decide (z.1.2 ∈ ns))
end
end Core
namespace PP
open PySem L2 PyProof.Rows
section
variable {X : Cx} {a b e : Expr} {ta tb te : aE} {D : dM} {σ : L2.St} {H : Hp} {pos p2 : Pos}
noncomputable def vU (p:eR) (te:aE):aO:=fun D ρ=>te ρ fun x g=>uD g x/\p x (uC g x) ρ fun ρ2=>D.nx ρ2
theorem aC8 {p:eR}{g:TG}{own:Nat->Prop} (hg:iH X.K own p g) (h:LS X (vU p te) D σ H):lL (LE X te) g D σ H:=by
 obtain ⟨W,ρ,D',px,q,k⟩:=h
 refine⟨W,ρ,_,px,q,?_⟩
 rintro v H1 x gt s r ⟨st,q⟩
 refine hg X.H₀ W σ ρ H1 v x _ _ _ (px.mono s) (B6 px st r) q fun σ' ρ' px' _ _ q'=>?_
 exact k.nx W σ' H1 ρ' (Ev.same s) px' q'
theorem aC9 (i j:Nat) {x y:Str}{tp xp yp:Pos}{kt:Nat} (hN:X.N.Nodup) (he:QE X e te) (hx:X.N[i]? = some x:=by rfl) (hy:X.N[j]? = some y:=by rfl) (hlx:fG X.env.scope x:=by first | exact Or.inl rfl | exact Or.inr rfl) (hly:fG X.env.scope y:=by first | exact Or.inl rfl | exact Or.inr rfl)
  (hfx:X.fn x=true ∨ X.env.scope.names.lookup x=some .local:=by first | exact .inl rfl | exact .inr rfl) (hfy:X.fn y=true ∨ X.env.scope.names.lookup y=some .local:=by first | exact .inl rfl | exact .inr rfl) (hc:X.calm=true:=by rfl)
  (hs:swapsWithSole [.Tuple [.Name x xp,.Name y yp] kt tp] e pos.line X.env=pure false:=by rfl) (hw:swappedStores [.Tuple [.Name x xp,.Name y yp] kt tp] e X.env=pure none:=by rfl):QS X (.Assign [.Tuple [.Name x xp,.Name y yp] kt tp] e pos) (vU (gP i j) te):=by
 have g:PG X (.Tuple [.Name x xp,.Name y yp] kt tp) (lK X.K 2 (fZ (cR i) (fZ (cR j) lJ))):=mZ hc (gJ (fJ hN hx hlx hfx) (gJ (fJ hN hy hly hfy) mY))
 exact eU (ad9 he g hs hw) fun _ _ _=>aC8 (pY _ i j)
end
noncomputable abbrev fB:=(Str->Prop)->bW
noncomputable def EX (K:PySem.W.Frag) (H0:Hp) (Ep:Str->Prop):XK:=fun c d H'=>d=none/\aD H0 H'/\∃ n C,c = .ref C/\PySem.W.nsIn K mainGlobals n=some (some (.ref C))/\Ep n
noncomputable def N4 (K:PySem.W.Frag) (p:fB):Sp:=fun vs H Q E=>∃ xs Qp Ep,Reps K (fun _=>True) H vs xs/\p Ep xs Qp/\(∀ v H' x,aD H H'->aA K (fun a=>H a=none) H' v x->Qp x->Q v H')/\
 ∀ n C H',aD H H'->PySem.W.nsIn K mainGlobals n=some (some (.ref C))->Ep n->E (.ref C) none H'
structure cA (P:Program) (w:World) (K:PySem.W.Frag) (mg:Str->Option Value) (base:Heap) (k:Nat) (x:Str) (ps:List Str) (p:fB):Prop where
 ex:∃ f fd,dQ P w K mg base (eY P w) k f fd ps (N4 K p)/\kD K fd ps []/\PySem.W.keepIn K (.ref f)=true/\mg x=some (.ref f)
section
variable {X : Cx} {σ : L2.St} {H : Hp} {D : dM} {tr : cK} {Q' : VK} {a b c e : Expr} {es : List Expr} {pos p2 cp np hp : Pos} {t : aO} {te : aE} {tc : bY}
noncomputable def jW (Ep:Str->Prop) (p:fB) (t:cK):aE:=aI (p Ep) t
theorem N5 {p:fB}{Ep:Str->Prop} (h:LE X (jW Ep p tr) σ H Q'):t6 (N4 X.K p) [] (EX X.K X.H₀ Ep) (LA X tr) σ H Q':=by
 obtain ⟨W,ρ,Q,px,q,k⟩:=h
 refine⟨W,ρ,_,px,q,fun vs H1 xs s1 r1 q1=>⟨_,_,Ep,by rw [bb7]; exact r1.any,q1,fun v H' x s2 r2 q2=>k v H' x .fr (s1.trans s2) (r2.same (aD.refl _) fun _ z=>s1.free z) q2,fun n C H' s2 z1 z2=>⟨rfl,(px.same.trans s1).trans s2,n,C,rfl,z1,z2⟩⟩⟩
theorem mG {Ep:Str->Prop}{k j:Nat}{x:Str}{ps:List Str}{p:fB} (hX:mE X (EX X.K X.H₀ Ep)) (d:cA X.prog X.w X.K X.mg X.base k x ps p) (hr:c6 j X.A) (ha:QA X (e :: es) tr) (hkj:k<=j:=by decide) (hg:Gl X x:=by rfl) (hdb:(x == ("__debug__" : Str))=false:=by decide)
  (he:starEach (e :: es) X.env=(false,eval e X.env) :: starEach es X.env:=by rfl) (hpl:(backTo pos (starEach es X.env)).any (·.1)=false:=by rfl):QE X (.Call (.Name x p2) (e :: es) [] pos) (jW Ep p tr):=by
 obtain ⟨f,fd,F,b,kp,m⟩:=d.ex
 exact c7 (t7 F (hr.mono hkj) hg m kp b .nil hX.pass ha hdb he hpl) fun _ _ _=>N5
theorem vV {k j:Nat}{x:Str}{ps:List Str}{p:fB} (d:cA X.prog X.w X.K X.mg X.base k x ps p) (hr:c6 j X.A) (ha:QA X (e :: es) tr) (hkj:k<=j:=by decide) (hg:Gl X x:=by rfl) (hdb:(x == ("__debug__" : Str))=false:=by decide)
  (he:starEach (e :: es) X.env=(false,eval e X.env) :: starEach es X.env:=by rfl) (hpl:(backTo pos (starEach es X.env)).any (·.1)=false:=by rfl):QE X (.Call (.Name x p2) (e :: es) [] pos) (aI (p fun _=>False) tr):=by
 obtain ⟨f,fd,F,b,kp,m⟩:=d.ex
 refine c7 (t7 F (E:=EX X.K X.H₀ fun _=>False) (hr.mono hkj) hg m kp b .nil (fun _ _ _ _ _ _ _ h=>?_) ha hdb he hpl) fun _ _ _ h=>N5 (Ep:=fun _=>False) h
 obtain ⟨_,_,_,_,_,_,_,_,_,_,_,_,z⟩:=h
 exact z.elim
noncomputable def mH (Ep:Str->Prop) (n:Str) (t:cK):aO:=fun _ ρ=>t ρ fun xs=>xs.length<=1000/\Ep n
theorem aD0 {Ep:Str->Prop}{n:Str}{C:Addr} (hn:PySem.W.nsIn X.K mainGlobals n=some (some (.ref C))) (h:LS X (mH Ep n tr) D σ H):K8 (EX X.K X.H₀ Ep) C (LA X tr) D σ H:=by
 obtain ⟨W,ρ,D',px,q,k⟩:=h
 exact⟨W,ρ,_,px,q,fun vs H1 xs s1 r z=>⟨by rw [r.length]; exact uA z.1,rfl,px.same.trans s1,n,C,rfl,hn,z.2⟩⟩
structure Xc (K:PySem.W.Frag) (mg:Str->Option Value) (base:Heap) (n:Str):Prop where
 ex:∃ C B newId initId bm,OwnCls n C bm newId mg base/\ExcBaseFacts B newId initId bm/\PySem.W.nsIn K mainGlobals n=some (some (.ref C))
theorem rJ {Ep:Str->Prop}{n:Str} (hX:mE X (EX X.K X.H₀ Ep)) (x:Xc X.K X.mg X.base n) (ha:QA X (e :: es) tr) (hc:X.calm=true:=by rfl) (hg:Gl X n:=by rfl) (hd:(n == ("__debug__" : Str))=false:=by decide)
  (he:starEach (e :: es) X.env=(false,eval e X.env) :: starEach es X.env:=by rfl) (hpl:(backTo cp (starEach es X.env)).any (·.1)=false:=by rfl):QS X (.Raise (some (.Call (.Name n np) (e :: es) [] cp)) none pos) (mH Ep n tr):=by
 obtain ⟨C,B,newId,initId,bm,O,FB,hn⟩:=x.ex
 exact eU (ax8 hX hc O FB ha hg hd he hpl) fun _ _ _=>aD0 hn
noncomputable def pE:V->Value
 | .ref a=>.ref a
 | .ty n=>.type n
 | _=>.none
end
structure rK (K:PySem.W.Frag) (C:Addr):Prop where
 cls:PySem.W.isClsIn K C=true
 ty:PySem.W.typeIn K (.ref C)=some (.type "type")
 ga:PySem.W.findIn K (.ref C) "__getattribute__" = some (some (.builtin "BaseException.__getattribute__"))
 gt:PySem.W.findIn K (.ref C) "__getattr__" = some none
 fc:PySem.W.findIn K (.ref C) "__class__" = some (some (.builtin "object.__class__"))
 fg:PySem.W.specialIn K (.builtin "object.__class__") "__get__" = some (some (.builtin "getset_descriptor.__get__"))
 ft:PySem.W.takesIn K (.builtin "object.__class__")=some true
 ob:PySem.W.mroIn K C (.type "object")=some true
 be:PySem.W.mroIn K C (.type "BaseException")=some true
theorem vW {K:PySem.W.Frag}{h₀:Heap}{mg:Str->Option Value}{x:Str}{C:Addr}{bmB:List Value}{newId:String} (X:K.In h₀) (m:mg x=some (.ref C)) (q:PySem.W.excIn K C bmB newId=true):OwnCls x C bmB newId mg h₀:=by
 refine⟨m,?_⟩
 unfold PySem.W.excIn at q
 split at q
 case h_2=>cases q
 rename_i dd cd sl ho
 split at q
 case h_2=>cases q
 rename_i C' bm k0 k1 k2 k3 n k5 hm hs
 simp only [bb0,beq_iff_eq,Bool.not_eq_true'] at q
 obtain ⟨⟨⟨⟨⟨rfl,rfl⟩,dl⟩,ht⟩,hok⟩,hni⟩:=q
 obtain ⟨nm,bs,mro,ns,qn,hd,sn,sub,ab,col,del⟩:=cd
 dsimp only at hm dl hok hni
 subst hm dl
 obtain rfl:sl = #[k0,k1,k2,k3,some (.builtin n),k5]:=by
  obtain ⟨l⟩:=sl
  exact congrArg Array.mk hs
 exact⟨bm,ns,nm,qn,bs,hd,sn,sub,ab,col,dd,k0,k1,k2,k3,k5,_,X _ _ ho,.of_isNs (PySem.W.isNs_of_in X hok),PySem.W.nsMap_none_of_in X hok hni,PySem.W.tail_of_in X ht⟩
theorem cA.of {P:Program}{w:World}{K:PySem.W.Frag}{mg:Str->Option Value}{base:Heap}{k:Nat}{x:Str}{ps N:List Str}{p:fB}{st:Stmt}{f:Addr}{fd:FuncData} (F:gB K x x st f fd) (m:mg x=some (.ref f)) (S:FnScope N ps (aW st))
  (hb:∀ (kV doc pm:Value) (an:Option Addr) (cdv ct:Value) (us:List Value),us.length=ps.length->bindArgs (PySem.W.fnOf x x (iW st) (eL st) (aW st) .none kV doc pm an cdv ct) ⟨us,[]⟩=pure (ps.zip us))
  (t:(Str->Prop)->aO) (len:∀ Ep xs Q,p Ep xs Q->xs.length=ps.length) (rd:∀ Ep xs Q,p Ep xs Q->t Ep { nx:=fun _=>Q .non,rt:=Q } (fU N xs))
  (body:∀ (cdv:Value) (A:Around) (outer:List Env) (s:Shared) (H:Hp) (E:XK) (Ep:Str->Prop),c6 k (A.deeper (envOfC x (aW st) s.heap.objs.size f cdv))->mE (dA (eY P w) P w K mg base N x (aW st) f cdv A outer s H E) (EX K H Ep)->
   dW (dA (eY P w) P w K mg base N x (aW st) f cdv A outer s H E) (eL st) (t Ep)):cA P w K mg base (k+1) x ps p:=by
 refine⟨f,fd,F.okX S (fun vs H Q E h=>?_) (fun cdv A outer s H vs Q E hr h=>?_),F.binds hb,F.kp,m⟩
 ·obtain ⟨xs,Qp,Ep,r,q,_⟩:=h
  rw [r.length]; exact len Ep xs Qp q
 ·obtain ⟨xs,Qp,Ep,r,q,k,ke⟩:=h
  have ht:=body cdv A outer s H E Ep hr (ax7 fun c d H' z=>?_)
  ·refine⟨_,ht,fun _=>False,fU N xs,_,uZ r,rd Ep xs Qp q,?_,?_,?_,?_⟩
   ·exact fun W' σ' H' ρ' e px q=>k _ _ _ px.same .non q
   ·exact fun v H' x s r q=>k _ _ _ s r q
   ·exact fun W' σ' H' ρ' e px q=>q
   ·exact fun W' σ' H' ρ' e px q=>q
  ·obtain ⟨rfl,s1,n,C,rfl,z1,z2⟩:=z
   exact ke n C H' s1 z1 z2
end PP
namespace Core
open PySem L2 PP
noncomputable abbrev mI (t:(Str->Prop)->aO) (N:List Str) (p:fB):Prop:=∀ Ep xs Q,p Ep xs Q->t Ep { nx:=fun _=>Q .non,rt:=Q } (fU N xs)
end Core
namespace PP
open PySem L2
theorem Reps.keys {K:PySem.W.Frag}{M:Addr->Prop}{H:Hp}:∀ (k:List aH),Reps K M H (k.map kV) (k.map kP)
 | []=>.nil
 | .inl i :: r=>.cons (.int i) (Reps.keys r)
 | .inr x :: r=>.cons (.str x) (Reps.keys r)
theorem vX {α β:Type}{F:α->β->Prop}:∀ {l:List α}{m:List β}{i:Nat}{x:α},Paired F l m->l[i]? = some x->∃ y,m[i]? = some y/\F x y
 | _,_,_,_,.nil,e=>by simp at e
 | _,_,0,_,.cons r _,e=>by simp at e; subst e; exact⟨_,rfl,r⟩
 | _,_,i+1,x,.cons _ t,e=>by
  rw [ba4] at e
  obtain ⟨y,h1,h2⟩:=vX t e
  exact⟨y,by rw [ba4]; exact h1,h2⟩
theorem N6:∀ {xs:List PV}{y:PV},flats xs=true->flat y=true->flats (xs ++ [y])=true
 | [],y,_,f=>by show (flat y && flats [])=true; rw [f]; rfl
 | x :: r,y,h,f=>by
  unfold flats at h
  rw [bb0] at h
  show (flat x && flats (r ++ [y]))=true
  rw [h.1,N6 h.2 f]; rfl
theorem vY {us:List Value} (h:us.length=1):∃ a,us = [a]:=List.length_eq_one_iff.mp h
theorem vZ {us:List Value} (h:us.length=2):∃ a b,us = [a,b]:=by
 cases us with
 | nil=>cases h
 | cons a r=>
  obtain ⟨b,rfl⟩:=vY (us:=r) (by simpa using h)
  exact⟨a,b,rfl⟩
theorem w4 {us:List Value} (h:us.length=3):∃ a b c,us = [a,b,c]:=by
 cases us with
 | nil=>cases h
 | cons a r=>
  obtain ⟨b,c,rfl⟩:=vZ (us:=r) (by simpa using h)
  exact⟨a,b,c,rfl⟩
theorem N7 {us:List Value} (h:us.length=4):∃ a b c d,us = [a,b,c,d]:=by
 cases us with
 | nil=>cases h
 | cons a r=>
  obtain ⟨b,c,d,rfl⟩:=w4 (us:=r) (by simpa using h)
  exact⟨a,b,c,d,rfl⟩
section
variable {X : Cx} {e : Expr} {tk : aE} {D : dM} {σ : St} {H : Hp} {pos : Pos}
noncomputable def rL (i:Nat) (tk:aE):aO:=fun D ρ=>∃ ps,ρ[i]? = some (some (.own (.dT ps)))/\tk ρ fun y _=>∃ k,y = .tup (k.map kP)/\(∃ j:Nat,(ps.map (·.1))[j]? = some k)/\∀ j:Nat,(ps.map (·.1))[j]? = some k->D.nx (ρ.set i (some (.own (.dT (ps.eraseIdx j)))))
theorem aD1 {i:Nat} (h:LS X (rL i tk) D σ H):mX (L5 (fH i) (LE X tk)) D σ H:=by
 obtain ⟨W,ρ,D',px,⟨ps,hi,q⟩,k⟩:=h
 obtain ⟨v,ev,a,rfl,wa,kvs,ea,e1,r⟩:=px.sl i _ hi
 refine⟨_,ev,a,rfl,.inr ⟨kvs,.inl ea⟩,W,ρ,_,px,q,?_⟩
 rintro kv H2 y g s ry ⟨kk,rfl,is,q⟩
 obtain ⟨b,us,rfl,hb,rb⟩:=ry.sqT
 obtain rfl:=qA rb
 have ea2:=s _ _ ea
 refine⟨kvs,kk,b,ea2,rfl,hb,by rw [e1]; exact is,fun j v hj=>?_⟩
 rw [e1] at hj
 refine k.nx W σ _ _ ((Ev.same s).trans (Ev.upd wa)) ((px.mono s).updT hi ev wa ⟨?_,?_⟩) (q j hj)
 ·rw [Raw.jA,Raw.jA,e1]
 ·rw [Raw.jA,Raw.jA]
  exact ((r.same s fun _ z=>z).eraseIdx j).keep (.upd ea2 rfl fun b m=>⟨nI wa m,m⟩)
theorem N8 (i:Nat) {x:Str}{apos cpos xpos:Pos} (hu:X.A.units+1 < cLine) (he:QE X e tk) (hm:M1 X (.Name x xpos) "pop" apos e cpos:=by exact⟨rfl,rfl,rfl,rfl⟩) (hN:X.N[i]? = some x:=by rfl) (hv:iE X.env.scope x:=by first | exact Or.inl rfl | exact Or.inr (Or.inl rfl) | exact Or.inr (Or.inr rfl)) (hd:(x == ("__debug__" : Str))=false:=by decide) (hcd:(x == ("__classdict__" : Str))=false:=by decide)
  (hsw:swapsWith (.Call (.Attribute (.Name x xpos) "pop" apos) [e] [] cpos) none pos.line X.env=pure false:=by rfl):QS X (.Expr (.Call (.Attribute (.Name x xpos) "pop" apos) [e] [] cpos) pos) (rL i tk):=
 eU (oU (ay4 hu (k8 hN hv hd hcd) he hm) hsw) fun _ _ _=>aD1
end
end PP
namespace Core
open PySem L2 PP
theorem w5:∀ (m:Nat) (l:List Nat),l.Nodup->(∀ x ∈ l,x < m)->l.length<=m
 | 0,[],_,_=>aX5 _
 | 0,x :: _,_,h=>absurd (h x aX3) (Nat.not_lt_zero _)
 | m+1,l,nd,h=>by
  by_cases hm:m ∈ l
  ·have h1:=w5 m (l.erase m) (nd.erase m) fun x hx=>by
    obtain ⟨h2,h3⟩:=(nd.mem_erase_iff).mp hx
    have:=h x h3
    omega
   rw [List.length_erase_of_mem hm] at h1
   omega
  ·have h1:=w5 m l nd fun x hx=>by
    have:=h x hx
    have:x ≠ m:=fun z=>hm (z ▸ hx)
    omega
   omega
end Core
namespace PP
open PySem L2
section
variable {X : Cx} {e : Expr} {tr : cK} {pos p2 : Pos}
noncomputable def o8:List PV->(PV->Prop)->Prop:=fun xs Q=>∃ ys:List (List Int),xs = [.lst (ys.map fun r=>PV.tup (intz r))]/\ys.length<=4096/\(∀ y ∈ ys,y.length=2)/\∀ zs:List (List Int),zs.Perm ys->zs.Pairwise (fun u v=>HT.aL v u=false)->Q (.lst (zs.map fun r=>PV.tup (intz r)))
theorem aD2:eO X o8 (K7 X.K):=by
 rintro H vs xs Q Q' r ⟨ys,rfl,hl,hne,q⟩ k
 obtain ⟨v,rfl,r1⟩:=r.one
 obtain ⟨a,us,rfl,_,h,r2⟩:=r1.sqL
 obtain ⟨h1,h2⟩:=M4 r2
 have lr:=r2.length
 rw [aW5] at lr
 refine⟨a,us,l0 H,rfl,aU.of h,by omega,fun y hy=>?_,fun l zs hl' pm so=>?_⟩
 ·obtain ⟨b,rfl,hb⟩:=h2 y hy
  refine⟨b,rfl,aR.of hb,hne _ ?_⟩
  rw [<- h1]; exact ba3.mpr ⟨_,hy,rfl⟩
 ·have hz:∀ u ∈ zs,∃ b,u = .ref b/\H b=some (.tup ((l0 H u).map V.int)):=fun u hu=>h2 u (pm.mem_iff.mp hu)
  refine k _ _ _ (cE hl' _) (.lst hl' b9 ((M5 hz).same (cE hl' _) fun _ z=>z)) (q _ ?_ ?_)
  ·rw [<- h1]; exact pm.map _
  ·rw [bg6]; exact so
theorem w6 (B:Bt X.mg) (ha:QA X [e] tr) (hg:Gl X "sorted":=by rfl) (he:starEach [e] X.env=(false,eval e X.env) :: starEach [] X.env:=by rfl) (hpl:(backTo pos (starEach [] X.env)).any (·.1)=false:=by rfl):QE X (.Call (.Name "sorted" p2) [e] [] pos) (aI o8 tr):=
 iM ax4 aD2 hg B.sorted PyProof.Rows.boot_sorted ha (he:=he) (hpl:=hpl)
end
end PP
namespace Core
open PySem L2 PP
noncomputable abbrev N9 (bs:List Bool):List PV:=bs.map PV.bl
section
variable {ws : List Int} {ls : List (Int × Int)}
noncomputable def cne (ws:List Int) (ls:List (Int × Int)) (S:List Int):Bool:=!decide (S = []) && decide (stay ws ls S=S)
end
end Core
namespace PP
open PySem L2
section
variable {X : Cx} {a b : Expr} {ta tb : aE} {pos : Pos}
theorem aD3 {K:PySem.W.Frag}{M M':Addr->Prop}{H:Hp}{v:V}{m n:List Int} (r1:aA K M H v (.tup (intz m))) (r2:aA K M' H v (.tup (intz n))):m=n:=by
 obtain ⟨p,us,rfl,h1,q1⟩:=r1.sqT
 obtain ⟨p2,ws,e,h2,q2⟩:=r2.sqT
 cases e
 rw [h1] at h2
 cases h2
 have:=(q1.ofInts).symm.trans q2.ofInts
 exact (List.map_inj_right fun _ _ e=>by cases e; rfl).mp this
end
end PP
namespace Core
open PySem L2 PP
noncomputable def far (ns S:List Int):Bool:=decide (((S.filter fun x=>decide (x ∈ ns)).length:Int)=0)
noncomputable def O0 (ws:List Int) (ls:List (Int × Int)):List Int->List Int->Bool
 | _,[]=>true
 | B,h :: R=>inB ws.length h && (kin ws ls B h && O0 ws ls (B ++ [h]) R)
end Core
namespace L2
open PySem PySem.Spec PyProof.Rows
theorem aD4 {a b c:List Int} (h1:HT.aL a b=true) (h2:HT.aL b c=true):HT.aL a c=true:=by
 cases e:HT.aL a c with
 | true=>rfl
 | false=>
  have ca:=tS (kJ h2) (kJ h1)
  have:=tT e ca
  subst this
  have:=kJ h1
  rw [h2] at this; cases this
theorem w9 {α:Type}{p q:α->Bool}:∀ {l:List α},(∀ x ∈ l,p x=true->q x=true)->(l.filter p).length<=(l.filter q).length
 | [],_=>aX5 _
 | x :: l,h=>by
  have ih:=w9 (l:=l) fun y hy=>h y (aX0 _ hy)
  have hx:=h x aX3
  rw [bg3,bg3]
  cases ep:p x with
  | false=>cases q x <;> simp <;> omega
  | true=>rw [hx ep]; simp; omega
theorem O1 {α:Type}{p q:α->Bool}:∀ {l:List α},(∀ x ∈ l,p x=true->q x=true)->(∃ x ∈ l,q x=true/\p x=false)->(l.filter p).length < (l.filter q).length
 | [],_,e=>by obtain ⟨_,z,_⟩:=e; cases z
 | x :: l,h,e=>by
  have hx:=h x aX3
  have h':∀ y ∈ l,p y=true->q y=true:=fun y hy=>h y (aX0 _ hy)
  have le:=w9 h'
  rw [bg3,bg3]
  obtain ⟨y,hy,qy,py⟩:=e
  rcases aW9.mp hy with rfl | hy
  ·rw [qy,py]; simp; omega
  ·have ih:=O1 h' ⟨y,hy,qy,py⟩
   cases ep:p x with
   | false=>cases q x <;> simp <;> omega
   | true=>rw [hx ep]; simp; omega
noncomputable def l6 (ys:List (List Int)) (x:List Int):Nat:=(ys.filter fun y=>HT.aL y x).length
theorem O2 {ys:List (List Int)}{u v:List Int} (hu:u ∈ ys) (hv:v ∈ ys):HT.aL u v=decide ((l6 ys u:Int) < (l6 ys v:Int)):=by
 have irr:∀ a:List Int,HT.aL a a=false:=fun a=>by
  cases e:HT.aL a a with
  | false=>rfl
  | true=>have:=kJ e; rw [e] at this; cases this
 cases e:HT.aL u v with
 | true=>
  have:l6 ys u < l6 ys v:=O1 (fun x _ h=>aD4 h e) ⟨u,hu,e,irr u⟩
  exact (aX2 (by omega)).symm
 | false=>
  have:l6 ys v<=l6 ys u:=w9 fun x _ h=>by
   cases e2:HT.aL x u with
   | true=>rfl
   | false=>have:=tS e2 e; rw [h] at this; cases this
  exact (aW6 (by omega)).symm
end L2
namespace L2
open PySem PySem.Spec PyProof.Rows SO
section
variable {prog : Program} {w : World} {A : Around} {E : Value → Shared → Prop} {s : Shared}
structure i8 (h:Heap) (v:Value) (ns:List Int):Prop where
 at_:∃ b ob us n,v = .ref b/\h.get? b=some ob/\ob.cls = .type "tuple"/\ob.data = .seq (List.toArray us) n/\IntsAre us ns
noncomputable def wA (h:Heap) (v:Value):List Int:=match v with
 | .ref b=>match h.get? b with
  | some ob=>match ob.data with
   | .seq us _=>us.toList.map numOf
   | _=>[]
  | none=>[]
 | _=>[]
theorem O3:∀ {us:List Value}{ns:List Int},IntsAre us ns->us.map numOf=ns
 | _,_,.nil=>rfl
 | _,_,.cons _ _ h=>by rw [aY8,O3 h]; rfl
theorem i8.ints {h:Heap}{v:Value}{ns:List Int} (z:i8 h v ns):wA h v=ns:=by
 obtain ⟨b,ob,us,n,rfl,e2,_,e4,e5⟩:=z.at_
 unfold wA
 dsimp only
 rw [e2]; dsimp only
 rw [e4]; exact O3 e5
noncomputable def mJ (h:Heap) (ys:List (List Int)) (x:Keyed):Int:=(l6 ys (wA h x.1):Int)
end
end L2
namespace PP
open PySem L2
section
variable {X : Cx} {a b e o : Expr} {ta tb te to : aE} {tr : cK} {pos p2 apos cpos : Pos} {σ : St} {H : Hp} {Q' : VK}
noncomputable def wB:List PV->(PV->Prop)->Prop:=fun xs Q=>(∃ i,xs = [.int i]/\Q (.int i)) ∨ ∃ k,xs = [.bl k]/\Q (.int (if k then 1 else 0))
theorem aD5:eO X wB (fun xs H Q=>(∃ i,xs = [.int i]/\Q (.int i) H) ∨ ∃ k,xs = [.bl k]/\Q (.int (if k then 1 else 0)) H):=by
 rintro H vs xs Q Q' r (⟨i,rfl,q⟩ | ⟨i,rfl,q⟩) k
 ·obtain ⟨v,rfl,r1⟩:=r.one
  cases r1
  exact .inl ⟨i,rfl,k _ _ _ (aD.refl _) (.int _) q⟩
 ·obtain ⟨v,rfl,r1⟩:=r.one
  cases r1
  exact .inr ⟨i,rfl,k _ _ _ (aD.refl _) (.int _) q⟩
theorem aD6 (B:Bt X.mg) (ha:QA X [e] tr) (hg:Gl X "int":=by rfl) (he:starEach [e] X.env=(false,eval e X.env) :: starEach [] X.env:=by rfl) (hpl:(backTo pos (starEach [] X.env)).any (·.1)=false:=by rfl):QE X (.Call (.Name "int" p2) [e] [] pos) (aI wB tr):=
 uQ ag1 aD5 hg B.int PyProof.Rows.boot_int ha (he:=he) (hpl:=hpl)
open Classical in
theorem O4 {A:Around} (hu:A.units+2 < cLine) {pins:List (Addr × Obj)}{s:Shared}{H:Hp}{us:List V}{its:List Value}{rs:List (List Int)}{ns:List Int}{x:V}{v:Value} (I:a6 X pins σ H s) (rx:aP x v) (r:aQ us its)
  (rn:aA X.K (fun _=>True) H x (.tup (intz ns))) (rr:Reps X.K (fun _=>True) H us (rs.map fun r=>PV.tup (intz r))):∃ f:Value->Bool,∀ (j:Nat) (w:Value),its[j]? = some w->∃ m,rs[j]? = some m/\SeqAt.EqAt A s w v (f w)/\f w=decide (m=ns):=by
 have lr:=r.length
 have lp:=rr.length
 rw [aW5] at lp
 refine⟨fun w=>decide (∃ v',aP v' w/\aA X.K (fun _=>True) H v' (.tup (intz ns))),fun j w hw=>?_⟩
 have hj:=(aX7.mp hw).1
 have h1:j < us.length:=by omega
 obtain ⟨w',hw',rw'⟩:=r.get (aY1 h1)
 rw [hw] at hw'
 cases hw'
 obtain ⟨m',hm',rm⟩:=rr.get (aY1 h1)
 rw [aX1] at hm'
 cases hm:rs[j]? with
 | none=>rw [hm] at hm'; cases hm'
 | some m=>
  rw [hm] at hm'
  cases hm'
  have e2:(decide (∃ v',aP v' w/\aA X.K (fun _=>True) H v' (.tup (intz ns))))=decide (m=ns):=by
   have:(∃ v',aP v' w/\aA X.K (fun _=>True) H v' (.tup (intz ns))) ↔ m=ns:=by
    refine⟨fun ⟨v',h1',h2'⟩=>?_,fun e=>⟨_,rw',by rw [<- e]; exact rm⟩⟩
    obtain ⟨p1,w1,e1,_,_⟩:=rm.sqT
    obtain ⟨p2,w2,e2,_,_⟩:=h2'.sqT
    rw [e1] at rw' rm
    rw [e2] at h1' h2'
    cases rw'
    cases h1'
    exact aD3 rm h2'
   exact decide_eq_decide.mpr this
  refine⟨m,rfl,?_,e2⟩
  show SeqAt.EqAt A s w v (decide _)
  rw [e2]
  have:=au2 I 2 (A:=A) hu rm rn rw' rx (by exact at2 1 m ns)
  rw [at0 1] at this
  exact this
noncomputable def O5 (K:PySem.W.Frag):R2:=fun x y H Q=>∃ p us ns,∃ rs:List (List Int),y = .ref p/\H p=some (.lst us)/\aA K (fun _=>True) H x (.tup (intz ns))/\Reps K (fun _=>True) H us (rs.map fun r=>PV.tup (intz r))/\Q (.bl (!decide (ns ∈ rs))) H
theorem aD7 (hu:X.A.units+3 < cLine):cB X (compareOp .NotIn) (O5 X.K):=by
 intro pins s σ H x y v u Q I rx ry h
 obtain ⟨p,us,ns,rs,rfl,hp,rn,rr,q⟩:=h
 cases ry
 obtain ⟨its,r,pl,hz⟩:=I.list (aU.of (K:=X.K) hp)
 have lr:=r.length
 have lp:=rr.length
 rw [aW5] at lp
 obtain ⟨f,key⟩:=O4 (A:=X.A.in1) (by show X.A.units+1+2 < cLine; omega) I rx r rn rr
 refine SeqAt.notIn_listAt f pl.isList (fun w hw=>?_) ⟨.bl _,H,I,rfl,?_⟩
 ·have hw:w ∈ its:=by simpa using hw
  obtain ⟨j,hj⟩:=bi8 hw
  obtain ⟨m,_,h1,h2⟩:=key j w hj
  exact h1
 ·have:its.toArray.any f=decide (ns ∈ rs):=by
   rw [show its.toArray.any f=its.any f by simp,bc9,List.any_eq_true,aY7]
   refine⟨fun ⟨w,hw,e⟩=>?_,fun h=>?_⟩
   ·obtain ⟨j,hj⟩:=bi8 hw
    obtain ⟨m,hm,_,h2⟩:=key j w hj
    rw [h2,aY7] at e
    rw [<- e]; exact bd2 hm
   ·obtain ⟨j,hj⟩:=bi8 h
    have hl:=(aX7.mp hj).1
    obtain ⟨m,hm,_,h2⟩:=key j its[j] (aY1 (by omega))
    rw [hj] at hm
    cases hm
    exact⟨its[j]'(by omega),bj4 _,by rw [h2]; exact aX2 rfl⟩
  rw [this]
  exact q
noncomputable def rM:PV->Tg->PV->Tg->PK->Prop:=fun x _ y _ Q=>∃ ns,∃ rs:List (List Int),x = .tup (intz ns)/\y = .lst (rs.map fun r=>PV.tup (intz r))/\Q (.bl (!decide (ns ∈ rs))) .fr
theorem aD8:fR X rM (O5 X.K):=by
 rintro W Hs H u v x y g g' Q Q' s n r1 r2 ⟨ns,rs,rfl,rfl,q⟩ k
 obtain ⟨p,us,rfl,_,h,r⟩:=r2.sqL
 exact⟨p,us,ns,rs,rfl,h,r1.same (aD.refl _) (fun _ _=>trivial),r.same (aD.refl _) (fun _ _=>trivial),k _ _ _ .fr (aD.refl _) (.bl _) q⟩
theorem aD9 (hu:X.A.units+3 < cLine) (ha:QE X a ta) (hb:QE X b tb) (hm:behindInMarks .NotIn b=false:=by rfl):QT X (.Compare a [.NotIn] [b] pos) (aX (q2 rM ta tb)):=lY (aD7 hu) aD8 ha hb hm
end
end PP
namespace Core
open PySem L2 PP
theorem l7 {ps:List (Int × Int)}{i:Nat}{y:PV} (h:(aN ps)[i]? = some y):∃ p:Int × Int,y = .tup [.int p.1,.int p.2]/\ps[i]? = some p:=by
 unfold aN at h
 rw [aX1] at h
 cases e:ps[i]? with
 | none=>rw [e] at h; cases h
 | some p=>rw [e] at h; cases h; exact⟨p,rfl,rfl⟩
noncomputable def Ord (ws:List Int) (ls:List (Int × Int)) (ns R:List Int):Prop:=O0 ws ls ns R=true/\aB8 ws ls (ns ++ R)
end Core
namespace PP
open PySem L2
section
variable {X : Cx} {a b : Expr} {ta tb : aE} {pos : Pos}
noncomputable def rN:PV->Tg->PV->Tg->PK->Prop:=fun x _ y _ Q=>∃ ns ms:List Int,x = .tup (intz ns)/\y = .tup (intz ms)/\Q (.bl (HT.aL ns ms)) .fr
theorem O6:fR X rN (t9 X.K):=by
 rintro W Hs H u v x y g g' Q Q' s n r1 r2 ⟨ns,ms,rfl,rfl,q⟩ k
 obtain ⟨p1,us,rfl,h1,r1⟩:=r1.sqT
 obtain ⟨p2,vs,rfl,h2,r2⟩:=r2.sqT
 obtain rfl:=r1.ofInts
 obtain rfl:=r2.ofInts
 exact⟨p1,p2,ns,ms,rfl,rfl,aR.of h1,aR.of h2,k _ _ _ _ (aD.refl _) (.bl _) q⟩
theorem aE0 (hu:X.A.units+3 < cLine) (ha:QE X a ta) (hb:QE X b tb):QE X (.Compare a [.Lt] [b] pos) (q2 rN ta tb):=lX (yY (by omega)) O6 ha hb (hB _)
end
end PP
namespace L2
open PySem PySem.Spec PyProof.Rows PP
section
variable {prog : Program} {w : World} {A : Around} {R : Result → Shared → Prop} {I S : Addr} {n : Nat} {l : Addr} {its : Array Value} {s0 : Shared} {bt : Nat → Nat → Bool}
noncomputable abbrev at_ (s:Shared) (h:Heap) (k:Nat):Shared:={ s with heap:=h,toks:=k }
noncomputable abbrev dE (g h:Heap):Prop:=∀ b o,g.get? b=some o->h.get? b=some o
noncomputable def c9 (prog:Program) (w:World) (A:Around) (s0:Shared) (its:Array Value) (bt:Nat->Nat->Bool):Prop:=
 ∀ (i j:Nat) (v u:Value) (h:Heap) (k:Nat) (Q E:Value->Shared->Prop),its[i]? = some v->its[j]? = some u->dE s0.heap h->Q (.bool (bt i j)) (at_ s0 h k)->wpAny (model prog w) A (richCompare .Lt v u) Q E (at_ s0 h k)
end
section
variable {prog : Program} {w : World} {A : Around} {s0 : Shared} {l : Addr} {its : Array Value} {bt : Nat → Nat → Bool}
theorem rO {h:Heap}{a:Addr} (z:h.objs.size<=a):h.get? a=none:=by
 cases q:h.get? a with
 | none=>rfl
 | some o=>exact absurd (aX8 q) (Nat.not_lt.mpr z)
end
end L2
namespace Core
open PySem L2 PP
noncomputable def FB (L:List (List Int)) (f:List Int->Int) (r:List Int):Prop:=∃ i,L[i]? = some r/\(∀ (j:Nat) (s:List Int),j < i->L[j]? = some s->f s < f r)/\∀ s ∈ L,f s<=f r
end Core
namespace PP
open PySem L2
section
variable {X : Cx} {a b e : Expr} {ta tb : aE} {tr : cK} {pos p2 : Pos}
noncomputable def O7 (K:PySem.W.Frag):R2:=fun x y H Q=>gA (fun i j=>.bl (decide (i < j))) x y H Q ∨ t9 K x y H Q
theorem aE1 (hu:X.A.units < cLine):cB X (compareOp .Lt) (O7 X.K):=by
 intro pins s σ H x y v u Q I rx ry h
 rcases h with h | h
 ·exact p6 pins s σ H x y v u Q I rx ry h
 ·exact yY hu pins s σ H x y v u Q I rx ry h
noncomputable def rP:PV->Tg->PV->Tg->PK->Prop:=fun x g y g' Q=>eN (fun i j=>.bl (decide (i < j))) x g y g' Q ∨ rN x g y g' Q
theorem aE2:fR X rP (O7 X.K):=by
 intro W Hs H u v x y g g' Q Q' s n r1 r2 h k
 rcases h with h | h
 ·exact .inl (lO W Hs H u v x y g g' Q Q' s n r1 r2 h k)
 ·exact .inr (O6 W Hs H u v x y g g' Q Q' s n r1 r2 h k)
theorem aE3 (hu:X.A.units+1 < cLine) (ha:QE X a ta) (hb:QE X b tb):QE X (.Compare a [.Lt] [b] pos) (q2 rP ta tb):=lX (aE1 (by omega)) aE2 ha hb (hB _)
end
end PP
namespace L2
open PySem PySem.Spec PyProof.Rows
section
variable {X : Cx}
noncomputable def O8 (K:PySem.W.Frag) (ta:TA):TI:=fun σ H R=>ta σ H fun vs H1=>∃ a b,vs = [.ref a,.ref b]/\((∃ xs ys,aR K H1 a xs/\aR K H1 b ys/\R (tZ K a b) H1) ∨ ∃ xs ys,aU K H1 a xs/\aU K H1 b ys/\R (u6 K a b) H1)
theorem aE4 {elts:List Expr}{kt:Nat}{pt:Pos}{a b:Expr}{ta:TA}{p pos:Pos} (hg:Gl X "zip") (hm:X.mg "zip" = none) (ha:PA X [a,b] ta) (hs:starEach [a,b] X.env = [(false,eval a X.env),(false,eval b X.env)]:=by rfl) (hs2:starEach [b] X.env = [(false,eval b X.env)]:=by rfl) :
  PI X (.Tuple elts kt pt) (.Call (.Name "zip" p) [a,b] [] pos) (O8 X.K ta):=by
 intro pins s σ H R I h
 refine Call_ (lI I hg hm PyProof.Rows.boot_zip (bj2 (aK (ha pos pins s σ H _ I h) fun us s1 ⟨vs,H1,I1,r1,q1⟩=>?_) (by rw [hs,hs2]) (by rw [hs2]; rfl)))
 obtain ⟨a',b',e,q1⟩:=q1
 subst e
 obtain ⟨u1,u2,rfl,r,r'⟩:=aQ.two r1
 cases r
 cases r'
 have fresh:∀ k,H1 (s1.heap.objs.size+k)=none:=fun k=>I1.hok.fresh (bg2 _ _)
 have fp:∀ c ∈ [s1.heap.objs.size+4,s1.heap.objs.size+2,s1.heap.objs.size+3,s1.heap.objs.size,s1.heap.objs.size+1],g9 X pins H1 c:=fun c hc=>by
  simp only [aW9,aX9,bb3] at hc
  rcases hc with rfl | rfl | rfl | rfl | rfl
  ·exact I1.fpOk (bg2 _ _) (fresh 4)
  ·exact I1.fpOk (bg2 _ _) (fresh 2)
  ·exact I1.fpOk (bg2 _ _) (fresh 3)
  ·exact I1.fpOk (aX5 _) (fresh 0)
  ·exact I1.fpOk (bg2 _ _) (fresh 1)
 rcases q1 with ⟨xs,ys,h1,h2,q⟩ | ⟨xs,ys,h1,h2,q⟩
 ·obtain ⟨us,_,p1,_⟩:=I1.tuple h1
  obtain ⟨ws,_,p2,_⟩:=I1.tuple h2
  refine Zp.an7 p1 p2 fun h' z ti to s1' s2' kp=>wpAny_pyIter_zip z ?_
  exact⟨s1.heap.objs.size+4,[s1.heap.objs.size+4,s1.heap.objs.size+2,s1.heap.objs.size+3,s1.heap.objs.size,s1.heap.objs.size+1],_,_,H1,rfl,I1.kept (t':=s1.toks) kp,ao0 a' b' _ _ _ _ _ (by simp),⟨z,ti,⟨_,_,to⟩,s1',s2'⟩,fp,q⟩
 ·obtain ⟨us,_,p1,_⟩:=I1.list h1
  obtain ⟨ws,_,p2,_⟩:=I1.list h2
  refine call_zip_2 p1.isList p2.isList fun h' z ti to s1' s2' _ kp=>wpAny_pyIter_zip z ?_
  exact⟨s1.heap.objs.size+4,[s1.heap.objs.size+4,s1.heap.objs.size+2,s1.heap.objs.size+3,s1.heap.objs.size,s1.heap.objs.size+1],_,_,H1,rfl,I1.kept (t':=s1.toks) kp,ao6 a' b' _ _ _ _ _ (by simp),⟨z,ti,⟨_,_,to⟩,s1',s2'⟩,fp,q⟩
end
end L2
namespace PP
open PySem L2
theorem aE5 {K:PySem.W.Frag}{H0:Hp}{W:Addr->Prop}{g:Bool}{H1:Hp}{a b:Addr}{us vs:List V}{xs ys:List PV} (tw:∀ a,W a->∃ o,H1 a=some o/\fQ o=true) (ha:∀ W' H',Ev W H1 W' H'->aU K H' a us) (hb:∀ W' H',Ev W H1 W' H'->aU K H' b vs)
  (r:Reps K (Ms H0 W g) H1 us xs) (r':Reps K (Ms H0 W g) H1 vs ys):jN K H0 W g H1 (u6 K a b) (iN xs ys):=by
 have lr:=r.length
 have lr':=r'.length
 have ll:=vT xs ys
 refine⟨fun W' H' i e hi=>⟨us,vs,us[i]'(by omega),vs[i]'(by omega),ha W' H' e,hb W' H' e,by simp,by simp⟩,fun W' H' i v H2 e y hi=>?_,fun W' H' e=>⟨us,vs,ha W' H' e,hb W' H' e,by omega⟩⟩
 obtain ⟨T,x,y',hT,rfl,rfl,y⟩:=y
 obtain ⟨h1,h2⟩:=y us vs (ha W' _ e) (hb W' _ e)
 obtain ⟨z,hz,rz⟩:=r.get h1
 obtain ⟨z',hz',rz'⟩:=r'.get h2
 have sm:=cE hT (HO.tup [x,y'])
 exact⟨sm,_,N3 hz hz',.tup b9 (.cons ((rz.keep (e.keep tw)).same sm fun _ q=>q) (.cons ((rz'.keep (e.keep tw)).same sm fun _ q=>q) .nil))⟩
section
variable {X : Cx} {σ : L2.St} {H : Hp} {ta tb : aE} {R : It → Hp → Prop}
noncomputable def wC (ta tb:aE):eQ:=fun ρ Q=>ta ρ fun x g0=>tb ρ fun y g=>∃ xs ys,((x = .tup xs/\y = .tup ys) ∨ (x = .lst xs/\y = .lst ys/\g0 ≠ .rd/\g ≠ .rd))/\flats xs=true/\flats ys=true/\Q (iN xs ys) true
theorem O9 {K:PySem.W.Frag}{H0 Hs:Hp}{W:Addr->Prop}{σ:L2.St}{ρ:b6}{g:Tg}{b:Addr} (px:PX K H0 W σ ρ Hs) (ng:g ≠ .rd) (m:Mg H0 W Hs g b) : ¬ W b:=by
 cases g with
 | fr=>exact (px.new m).1
 | nw=>exact m.1
 | sh=>exact m
 | rd=>exact absurd rfl ng
theorem aE6 (h:LI X (wC ta tb) σ H R):O8 X.K (jG (LE X ta) (jG (LE X tb) kB)) σ H R:=by
 obtain ⟨W,ρ,Q,px,q,k⟩:=h
 refine⟨W,ρ,_,px,q,fun v0 H0 x0 g0 s0 r0 q0=>⟨W,ρ,_,px.mono s0,q0,?_⟩⟩
 rintro v H1 x g s r ⟨xs,ys,c,fx,fy,q⟩
 have S:=s0.trans s
 have px1:=px.mono S
 have tw:∀ a,W a->∃ o,H1 a=some o/\fQ o=true:=fun a z=>(px1.wm a z).2
 rcases c with ⟨rfl,rfl⟩ | ⟨rfl,rfl,n0,n1⟩
 ·obtain ⟨a,us,rfl,h1,ra⟩:=(r0.same (M':=fun _=>True) s fun _ _=>trivial).sqT
  obtain ⟨b,vs,rfl,h2,rb⟩:=r.sqT
  have sta:∀ {c us},H1 c=some (.tup us)->∀ W' H',Ev W H1 W' H'->aR X.K H' c us:=fun {c us} hc W' H' e=>aR.of (e _ _ hc fun z=>by obtain ⟨o,h',mu⟩:=tw _ z; rw [hc] at h'; cases h'; cases mu).1
  exact⟨a,b,rfl,.inl ⟨us,vs,aR.of h1,aR.of h2,k _ _ _ _ S (aC7 tw (sta h1) (sta h2) (ra.flat fx) (rb.flat fy)) q⟩⟩
 ·obtain ⟨a,us,rfl,m0,h1,ra⟩:=(r0.same s fun _ z=>z).sqL
  obtain ⟨b,vs,rfl,m1,h2,rb⟩:=r.sqL
  have w0:=O9 px n0 m0
  have w1:=O9 (px.mono s0) n1 m1
  exact⟨a,b,rfl,.inr ⟨us,vs,aU.of h1,aU.of h2,k _ _ _ _ S (aE5 tw (fun W' H' e=>aU.of (e _ _ h1 w0).1) (fun W' H' e=>aU.of (e _ _ h2 w1).1) (ra.flat fx) (rb.flat fy)) q⟩⟩
theorem aE7 {elts:List Expr}{kt:Nat}{pt p2 pos:Pos}{a b:Expr} (B:Bt X.mg) (ha:QE X a ta) (hb:QE X b tb) (hg:Gl X "zip":=by rfl) (hs:starEach [a,b] X.env = [(false,eval a X.env),(false,eval b X.env)]:=by rfl) (hs2:starEach [b] X.env = [(false,eval b X.env)]:=by rfl):QI X (.Tuple elts kt pt) (.Call (.Name "zip" p2) [a,b] [] pos) (wC ta tb):=
 qH (aE4 hg B.zip (iU ha (iU hb kC hs2) (by rw [hs,hs2])) hs hs2) fun _ _ _=>aE6
end
end PP
namespace Core
open PySem L2 PP
theorem aE8 (xs:List PV):i6 xs (some 1) none=xs.drop 1:=by
 unfold i6
 have e1:HT.aV xs.length 0 (some 1)=min 1 xs.length:=by
  show (if (1:Int) < 0 then ((1:Int)+(xs.length:Int)).toNat else min (1:Int).toNat xs.length)=_
  rw [if_neg (by decide)]; rfl
 rw [e1]
 show (xs.drop (min 1 xs.length)).take (xs.length - min 1 xs.length)=_
 rw [bh5 (by rw [List.length_drop]; exact aX5 _)]
 cases xs with
 | nil=>rfl
 | cons x xs=>rw [show min 1 (x :: xs).length=1 by simp]
noncomputable def rQ {α:Type} (lt:α->α->Bool) (A:List α):Bool:=((A.zip (A.drop 1)).map fun p=>lt p.1 p.2).all id
noncomputable def P0:aO:=(bV (aI pW (a7 (gQ (wC (a5 0) (qF (a5 0) (qE (qC (.int 1))) qD)) [none,none] (gP 0 1) i5 (q2 rP (a5 0) (a5 1))) aC)))
theorem P3 {α:Type} (f:α->PV) (lt:α->α->Bool) (fl:∀ a,flat (f a)=true) (hlt:∀ (a b:α) (g g':Tg) (K:PK),K (.bl (lt a b)) .fr->rP (f a) g (f b) g' K) (A:List α) (la:A.length<=10000) (x:PV) (hx:x = .tup (A.map f) ∨ x = .lst (A.map f)) {Q:PV->Prop} (q:Q (.bl (rQ lt A))) :
  P0 { nx:=fun _=>Q .non,rt:=Q } [some (.sh (flat x) x)]:=by
 have fls:∀ B:List α,flats (B.map f)=true:=fun B=>by
  induction B with
  | nil=>rfl
  | cons b B ih=>show (flat (f b) && flats (B.map f))=true; rw [fl,ih]; rfl
 have sx:pV x=some (A.map f):=by rcases hx with rfl | rfl <;> rfl
 have cut:i6 (A.map f) (some 1) none=(A.drop 1).map f:=by rw [aE8,List.map_drop]
 refine⟨_,rfl,_,rfl,_,rfl,_,sx,fls A,?_⟩
 rw [cut]
 refine⟨A.map f,(A.drop 1).map f,?_,fls A,fls _,?_⟩
 ·rcases hx with rfl | rfl
  ·exact .inl ⟨rfl,rfl⟩
  ·refine .inr ⟨rfl,rfl,?_,fun z=>by cases z⟩
   cases flat (.lst (A.map f)) <;> intro z <;> cases z
 have zl:(iN (A.map f) ((A.drop 1).map f)).length=A.length - 1:=by rw [vT,aW5,aW5,List.length_drop]; omega
 refine⟨by rw [zl]; omega,fun i acc=>acc=N9 (((A.zip (A.drop 1)).take i).map fun p=>lt p.1 p.2),rfl,?_,?_⟩
 ·rintro i y acc hy rfl
  obtain ⟨u,v,h1,h2,rfl⟩:=aC6 hy
  rw [aX1] at h1 h2
  cases ha:A[i]? with
  | none=>rw [ha] at h1; cases h1
  | some a=>
   cases hb:(A.drop 1)[i]? with
   | none=>rw [hb] at h2; cases h2
   | some b=>
    rw [ha] at h1
    rw [hb] at h2
    cases h1
    cases h2
    have hz:(A.zip (A.drop 1))[i]? = some (a,b):=List.getElem?_zip_eq_some.mpr ⟨ha,hb⟩
    refine⟨_,_,rfl,_,rfl,_,rfl,hlt a b _ _ _ ⟨trivial,?_⟩⟩
    dsimp only
    rw [aZ9,hz,aZ1]
    unfold N9
    rw [aZ1]; rfl
 ·rintro acc rfl
  rw [bh5 (by rw [zl,List.length_zip,List.length_drop]; omega)]
  exact⟨_,rfl,trivial,q⟩
theorem aE9 (ls:List (Int × Int)):rQ (fun a b=>HT.aL [a.1,a.2] [b.1,b.2]) ls=true ↔ ls.Pairwise eD:=by
 have lt2:∀ a b:Int × Int,HT.aL [a.1,a.2] [b.1,b.2]=true ↔ eD a b:=fun a b=>by
  unfold eD
  rw [HT.gM,HT.gM,HT.pD]
  by_cases h1:a.1=b.1
  ·rw [if_pos h1]
   by_cases h2:a.2=b.2
   ·rw [if_pos h2]
    exact⟨fun z=>(by cases z),fun z=>(by omega)⟩
   ·rw [if_neg h2,aY7]; omega
  ·rw [if_neg h1,aY7]; omega
 induction ls with
 | nil=>exact⟨fun _=>.nil,fun _=>rfl⟩
 | cons a r ih=>
  cases r with
  | nil=>exact⟨fun _=>be2 _ _,fun _=>rfl⟩
  | cons b r=>
   have e:rQ (fun a b:Int × Int=>HT.aL [a.1,a.2] [b.1,b.2]) (a :: b :: r)=(HT.aL [a.1,a.2] [b.1,b.2] && rQ (fun a b:Int × Int=>HT.aL [a.1,a.2] [b.1,b.2]) (b :: r)):=rfl
   rw [e,bb0,lt2,List.pairwise_cons]
   refine⟨fun ⟨h1,h2⟩=>⟨fun c hc=>?_,ih.mp h2⟩,fun ⟨h1,h2⟩=>⟨h1 b aX3,ih.mpr h2⟩⟩
   rcases aW9.mp hc with rfl | hc
   ·exact h1
   ·have:=(List.pairwise_cons.mp (ih.mp h2)).1 c hc
    unfold eD at *; omega
noncomputable def nrm (l:Int × Int):Int × Int:=(min l.1 l.2,max l.1 l.2)
noncomputable def P4 (os:List Int) (h:Int):Int:=os.getD h.toNat 0
structure Moved (ws os ws':List Int):Prop where
 len:ws'.length=ws.length
 at_:∀ h:Nat,h < ws.length->ws'[(os.getD h 0).toNat]? = ws[h]?
noncomputable def mv (os:List Int) (l:Int × Int):Int × Int:=nrm (P4 os l.1,P4 os l.2)
theorem wD {ls:List (Int × Int)} (h:ls.Pairwise eD):ls.Nodup:=h.imp fun {a b} z e=>by subst e; unfold eD at z; omega
end Core
namespace L2
open PySem PySem.Spec PyProof.Rows
noncomputable def gV:HO->Bool
 | .dK _=>true
 | .dT _=>true
 | _=>false
section
variable {X : Cx} {pins : List (Addr × Obj)} {σ : St} {H H' : Hp} {s : Shared} {a : Addr}
theorem a6.frozeD {o:Obj}{u:HO} (I:a6 X pins σ H s) (h:H a=some u) (du:gV u=true) (e:s.heap.get? a=some o):a6 X pins σ (upd H a (.frz o u)) s:=by
 have own:∀ {c:Addr}{y:Addr},H c=some (.own y)->c ≠ a:=fun {c y} q z=>by rw [z,h] at q; cases q; cases du
 have tp:∀ {c:Addr}{xs:List V},H c=some (.tup xs)->c ≠ a:=fun {c xs} q z=>by rw [z,h] at q; cases q; cases du
 refine I.reH (a:=a) (fun b n=>aF n) ⟨_,h⟩ (fun xs q=>by rw [h] at q; cases q; cases du) (fun o' v q=>by have:=I.base.frzs a o' v q; rw [h] at this; cases this; cases du) (fun ps q=>by rw [h] at q; cases q; cases du) fun b v q=>?_
 by_cases hb:b=a
 ·subst hb
  rw [b9] at q; cases q
  exact⟨e,(I.hok b _ h).stay (fun _ _ _ q=>q) (fun c q=>by rw [aF (own q)]; exact q) fun c xs q=>by rw [aF (tp q)]; exact q⟩
 ·rw [aF hb] at q
  exact (I.hok b v q).stay (fun _ _ _ q=>q) (fun c q=>by rw [aF (own q)]; exact q) fun c xs q=>by rw [aF (tp q)]; exact q
end
noncomputable def rR (H:Hp):HO->List V->Prop
 | .dK kvs,ys=>ys=kvs.map fun p=>kV p.1
 | .dT kvs,ys=>Paired (fP H) ys (kvs.map (·.1))
 | _,_=>False
section
variable {X : Cx} {tg l : Expr} {tl : TE}
noncomputable def rS (tl:TE):TI:=fun σ H R=>tl σ H fun x H1=>∃ a u,x = .ref a/\H1 a=some u/\gV u=true/\∀ o ys,rR H1 u ys->R (K9 a o ys) (upd H1 a (.frz o u))
theorem P5 (hl:PE X l tl):PI X tg l (rS tl):=by
 intro pins s σ H R I h
 refine aK (hl pins s σ H _ I h) fun v s1 h1=>?_
 obtain ⟨x,H1,I1,r1,a,u,e,ha,du,q⟩:=h1
 subst e
 cases r1
 have hf:H1 s1.heap.objs.size=none:=I1.hok.fresh (aX5 _)
 obtain ⟨es,ep,ys,⟨o,e1,e2,e3⟩,far,pk,vl⟩:∃ es ep ys,Raw.fO s1.heap a es ep/\(a == sysModules)=false/\rR H1 u ys/\aQ ys (es.toList.map (·.key)):=by
  cases u with
  | dK kvs=>
   obtain ⟨es,ep,rw_,far,vl,z⟩:=an1 I1 ha
   exact⟨es,ep,_,rw_,far,rfl,vl⟩
  | dT kvs=>
   obtain ⟨es,ep,ys,rw_,far,pk,vl,z⟩:=tV I1 ha
   exact⟨es,ep,ys,rw_,far,pk,vl⟩
  | _=>cases du
 refine Raw.made far ⟨o,e1,e2,e3⟩ ?_
 refine⟨s1.heap.objs.size,[s1.heap.objs.size],_,_,upd H1 a (.frz o u),rfl,(I1.frozeD ha du e1).kept (t':=s1.toks) fun b o e=>aW4 _ e,ax9 a _ ⟨e2,e3⟩ vl,⟨_,aY0 _ rfl,rfl,rfl⟩,fun b hb=>?_,q o ys pk⟩
 obtain rfl:b=s1.heap.objs.size:=by simpa using hb
 exact I1.fpOk (aX5 _) (by rw [aF (fun z=>by rw [z,ha] at hf; cases hf)]; exact hf)
end
end L2
namespace PP
open PySem L2
mutual
noncomputable def dF:PV->Bool
 | .tup xs=>nods xs
 | .lst xs=>nods xs
 | .kt xs=>nods xs
 | .dK _=>false
 | .dT _=>false
 | .fK _=>false
 | .fT _=>false
 | .non=>true
 | .bl _=>true
 | .int _=>true
 | .str _=>true
 | .scr _=>true
 | .exc _=>true
noncomputable def nods:List PV->Bool
 | []=>true
 | x :: r=>dF x && nods r
end
structure iO (M M':Addr->Prop) (H H':Hp):Prop where
 lst:∀ a us,M a->H a=some (.lst us)->M' a/\H' a=some (.lst us)
 tup:∀ a us,H a=some (.tup us)->H' a=some (.tup us)
 frz:∀ a o u,H a=some (.frz o u)->gV u=false->H' a=some (.frz o u)
mutual
theorem aA.keepN {K:PySem.W.Frag}{M M':Addr->Prop}{H H':Hp} (k:iO M M' H H'):∀ {v:V}{x:PV},dF x=true->aA K M H v x->aA K M' H' v x
 | _,_,_,.non=>.non
 | _,_,_,.bl b=>.bl b
 | _,_,_,.int i=>.int i
 | _,_,_,.str x=>.str x
 | _,_,f,.tup h r=>.tup (k.tup _ _ h) (Reps.keepN k (by unfold PP.dF at f; exact f) r)
 | _,_,f,.lst m h r=>.lst (k.lst _ _ m h).1 (k.lst _ _ m h).2 (Reps.keepN k (by unfold PP.dF at f; exact f) r)
 | _,_,f,.dK m h e r=>by unfold PP.dF at f; cases f
 | _,_,f,.dT m h e r=>by unfold PP.dF at f; cases f
 | _,_,_,.scr h=>.scr (h.elim (fun ⟨o,e⟩=>.inl ⟨o,k.frz _ _ _ e rfl⟩) .inr)
 | _,_,f,.kt h r=>.kt h (Reps.keepN k (by unfold PP.dF at f; exact f) r)
 | _,_,_,.exc h e c=>.exc (k.frz _ _ _ h rfl) e c
 | _,_,f,.fK h e r=>by unfold PP.dF at f; cases f
 | _,_,f,.fT h e r=>by unfold PP.dF at f; cases f
theorem Reps.keepN {K:PySem.W.Frag}{M M':Addr->Prop}{H H':Hp} (k:iO M M' H H'):∀ {vs:List V}{xs:List PV},nods xs=true->Reps K M H vs xs->Reps K M' H' vs xs
 | _,_,_,.nil=>.nil
 | _,_,f,.cons r t=>by
  unfold PP.nods at f
  rw [bb0] at f
  exact .cons (aA.keepN k f.1 r) (Reps.keepN k f.2 t)
end
theorem iO.froze {M M':Addr->Prop}{H:Hp}{a:Addr}{u:HO}{o:Obj} (h:H a=some u) (du:gV u=true) (m:∀ b us,M b->H b=some (.lst us)->M' b):iO M M' H (upd H a (.frz o u)):=
 ⟨fun b us hb e=>⟨m b us hb e,by rw [aF (fun z=>by rw [z,h] at e; cases e; cases du)]; exact e⟩,fun b us e=>by rw [aF (fun z=>by rw [z,h] at e; cases e; cases du)]; exact e,
  fun b o' u' e _=>by rw [aF (fun z=>by rw [z,h] at e; cases e; cases du)]; exact e⟩
theorem iO.thaw {M M':Addr->Prop}{H:Hp}{a:Addr}{u w:HO}{o:Obj} (h:H a=some (.frz o u)) (du:gV u=true) (m:∀ b us,M b->H b=some (.lst us)->M' b):iO M M' H (upd H a w):=
 ⟨fun b us hb e=>⟨m b us hb e,by rw [aF (fun z=>by rw [z,h] at e; cases e)]; exact e⟩,fun b us e=>by rw [aF (fun z=>by rw [z,h] at e; cases e)]; exact e,
  fun b o' u' e d'=>by rw [aF (fun z=>by rw [z,h] at e; cases e; rw [du] at d'; cases d')]; exact e⟩
theorem iO.same {M M':Addr->Prop}{H H':Hp} (s:aD H H') (m:∀ b us,M b->H b=some (.lst us)->M' b):iO M M' H H':=
 ⟨fun b us hb e=>⟨m b us hb e,s _ _ e⟩,fun b us e=>s _ _ e,fun b o' u' e _=>s _ _ e⟩
mutual
theorem aF0:∀ {x:PV},flat x=true->dF x=true
 | .tup xs,f=>by unfold PP.flat at f; unfold PP.dF; exact flats_nods f
 | .kt xs,f=>by unfold PP.flat at f; unfold PP.dF; exact flats_nods f
 | .lst xs,f=>by unfold PP.flat at f; cases f
 | .dK _,f=>by unfold PP.flat at f; cases f
 | .dT _,f=>by unfold PP.flat at f; cases f
 | .fK _,f=>by unfold PP.flat at f; cases f
 | .fT _,f=>by unfold PP.flat at f; cases f
 | .non,_=>by unfold PP.dF; rfl
 | .bl _,_=>by unfold PP.dF; rfl
 | .int _,_=>by unfold PP.dF; rfl
 | .str _,_=>by unfold PP.dF; rfl
 | .scr _,_=>by unfold PP.dF; rfl
 | .exc _,_=>by unfold PP.dF; rfl
theorem flats_nods:∀ {xs:List PV},flats xs=true->nods xs=true
 | [],_=>by unfold PP.nods; rfl
 | x :: r,f=>by
  unfold PP.flats at f
  rw [bb0] at f
  unfold PP.nods
  rw [aF0 f.1,flats_nods f.2]; rfl
end
noncomputable def fz:PV->PV
 | .dK ps=>.fK ps
 | .dT ps=>.fT ps
 | x=>x
noncomputable def P6:PV->Option (List PV)
 | .dK ps=>some (ps.map fun p=>kP p.1)
 | .dT ps=>some (ps.map fun p=>.tup (p.1.map kP))
 | _=>none
noncomputable def P7:PV->List PV
 | .dK ps=>ps.map (·.2)
 | .dT ps=>ps.map (·.2)
 | _=>[]
noncomputable def o9 (i:Nat) (fr:List (Option Nat)) (ρ:b6):b6:=fr.map fun o=>o.bind fun j=>(ρ[j]?).join.map fun m=>Slot.sh false (if j=i then fz m.val else m.val)
theorem P8 {i:Nat}{fr:List (Option Nat)}{ρ:b6}{k:Nat}{m:Slot} (h:(o9 i fr ρ)[k]? = some (some m)):∃ j m0,fr[k]? = some (some j)/\ρ[j]? = some (some m0)/\m = .sh false (if j=i then fz m0.val else m0.val):=by
 unfold o9 at h
 rw [aX1] at h
 cases ef:fr[k]? with
 | none=>rw [ef] at h; cases h
 | some o=>
  rw [ef] at h
  cases o with
  | none=>cases h
  | some j=>
   have h:some ((ρ[j]?).join.map fun m=>Slot.sh false (if j=i then fz m.val else m.val))=some (some m):=h
   cases er:ρ[j]? with
   | none=>rw [er] at h; cases h
   | some o2=>
    rw [er] at h
    cases o2 with
    | none=>cases h
    | some m0=>cases h; exact⟨j,m0,rfl,er,rfl⟩
theorem aF1 {K:PySem.W.Frag}{H0:Hp}{W:Addr->Prop}{σ:St}{ρ:b6}{H1 H':Hp}{D a:Addr}{o:Obj}{u:HO}{acc:List V}{fr:List (Option Nat)}{i:Nat} (px:PX K H0 W σ ρ H1) (ha:H1 a=some u) (du:gV u=true) (hD:upd H1 a (.frz o u) D=none) (s:aD (upd H1 a (.frz o u)) H') (hl:H' D=some (.lst acc))
  (nd:∀ j m',some j ∈ fr->j ≠ i->ρ[j]? = some (some m')->dF m'.val=true)
  (it:∀ m v,ρ[i]? = some (some m)->σ[i]? = some (some v)->aA K (Ms (upd H1 a (.frz o u)) (gF D) false) H' v (fz m.val)):PX K (upd H1 a (.frz o u)) (gF D) (e9 fr σ) (o9 i fr ρ) H':=by
 refine⟨by unfold e9 o9; rw [aW5,aW5],s,fun b z=>by cases z; exact⟨hD,_,hl,rfl⟩,fun k m h=>?_,fun k l x y b h1=>?_⟩
 ·obtain ⟨j,m0,ef,er,rfl⟩:=P8 h
  obtain ⟨v,ev,r⟩:=px.sl j m0 er
  refine⟨v,?_,?_⟩
  ·unfold e9
   rw [aX1,ef]
   show some ((σ[j]?).join)=_
   rw [ev]; rfl
  ·by_cases e:j=i
   ·subst e
    show aA K _ H' v (if j=j then fz m0.val else m0.val)
    rw [if_pos rfl]
    exact it m0 v er ev
   ·show aA K _ H' v (if j=i then fz m0.val else m0.val)
    rw [if_neg e]
    have r':aA K (fun _=>True) H1 v m0.val:=(pQ (Hs:=H1) r).same (aD.refl _) fun _ _=>trivial
    have hDa:D ≠ a:=fun z=>by rw [z,b9] at hD; cases hD
    have hD1:H1 D=none:=by rw [aF hDa] at hD; exact hD
    have f:=nd j m0 (bd2 ef) e er
    refine aA.keepN (.same s fun b us hb _=>hb) f (aA.keepN (M':=fun b=>b ≠ D) (.froze ha du fun b us _ e=>fun z=>by rw [z,hD1] at e; cases e) f r')
 ·obtain ⟨j,m0,ef,er,e⟩:=P8 h1
  cases e
section
variable {X : Cx} {σ : St} {H : Hp} {Q' : VK}
noncomputable def wE (i:Nat) (fr:List (Option Nat)) (p:eR) (tc:bY) (te:aE):aE:=fun ρ Q=>∃ m ks,ρ[i]? = some (some m)/\P6 m.val=some ks/\ks.length<=16000000/\nods (P7 m.val)=true/\(∀ j m',some j ∈ fr->j ≠ i->ρ[j]? = some (some m')->dF m'.val=true)/\∃ I:Nat->List PV->Prop,I 0 []/\
 (∀ k x acc,ks[k]? = some x->I k acc->p x false (o9 i fr ρ) fun ρ2=>tc ρ2 fun b=>if b=true then te ρ2 fun y gy=>(Nw gy y/\flat y=true)/\I (k+1) (acc ++ [y]) else I (k+1) acc)/\∀ acc,I ks.length acc->Q (.lst acc) .fr
theorem P9 {K:PySem.W.Frag}{M:Addr->Prop}{H:Hp} (k:aH):aA K M H (kV k) (kP k):=by cases k <;> constructor
theorem aF2 {i:Nat}{fr:List (Option Nat)}{p:eR}{g:TG}{tc:bY}{te:aE}{own:Nat->Prop} (hg:iH X.K own p g) (ho:∀ i,own i->fr[i]? = some none) (h:LE X (wE i fr p tc te) σ H Q') :
  L0 X (pK (rS (fH i)) fr (fun _=>g) (fun H1=>LT (X.frm H1) tc) (fun H1=>LE (X.frm H1) te)) σ H Q':=by
 obtain ⟨W,ρ,Q,px,⟨m,ks,hi,hk,hl,nv,nd,I,i0,turn,fin⟩,k⟩:=h
 obtain ⟨v,ev,r⟩:=px.sl i m hi
 have r:aA X.K (fun _=>True) H v m.val:=(pQ (Hs:=H) r).same (aD.refl _) fun _ _=>trivial
 obtain ⟨a,u,rfl,ha,du,frz,keys⟩:∃ a u,v = .ref a/\H a=some u/\gV u=true/\(∀ (o:Obj) (H':Hp) (D:Addr),H D=none->aD (upd H a (.frz o u)) H'->aA X.K (fun b=>b ≠ D) H' (.ref a) (fz m.val))/\
   ∀ ys,rR H u ys->ys.length=ks.length/\∀ (o:Obj) (H':Hp) (M:Addr->Prop) (j:Nat) (y:V),aD (upd H a (.frz o u)) H'->ys[j]? = some y->∃ x,ks[j]? = some x/\aA X.K M H' y x:=by
  generalize hmv:m.val=mv at r hk nv
  cases r with
  | @dK a kvs ps _ ha ek rv=>
   cases hk
   refine⟨a,_,rfl,ha,rfl,fun o H' D hD s=>?_,fun ys ky=>?_⟩
   ·refine .fK (s _ _ b9) ek (Reps.keepN (.same s fun b us hb _=>hb) nv (Reps.keepN (M':=fun b=>b ≠ D) (.froze ha rfl fun b us _ e=>fun z=>by rw [z,hD] at e; cases e) nv rv))
   ·obtain rfl:ys=kvs.map fun p=>kV p.1:=ky
    have lk:=nM ek
    refine⟨by rw [aW5,aW5]; exact lk,fun o H' M j y s hy=>?_⟩
    rw [aX1] at hy
    cases e:kvs[j]? with
    | none=>rw [e] at hy; cases hy
    | some kv=>
     rw [e] at hy; cases hy
     have:(kvs.map (·.1))[j]? = some kv.1:=by rw [aX1,e]; rfl
     rw [ek,aX1] at this
     cases e2:ps[j]? with
     | none=>rw [e2] at this; cases this
     | some pp=>
      rw [e2] at this
      have e3:pp.1=kv.1:=aZ0 this
      exact⟨kP pp.1,by rw [aX1,e2]; rfl,by rw [e3]; exact P9 kv.1⟩
  | @dT a kvs ps _ ha ek rv=>
   cases hk
   refine⟨a,_,rfl,ha,rfl,fun o H' D hD s=>?_,fun ys ky=>?_⟩
   ·refine .fT (s _ _ b9) ek (Reps.keepN (.same s fun b us hb _=>hb) nv (Reps.keepN (M':=fun b=>b ≠ D) (.froze ha rfl fun b us _ e=>fun z=>by rw [z,hD] at e; cases e) nv rv))
   ·have ky:Paired (fP H) ys (kvs.map (·.1)):=ky
    have lk:=nM ek
    have ll:=ky.length
    rw [aW5] at ll
    refine⟨by rw [aW5]; omega,fun o H' M j y s hy=>?_⟩
    obtain ⟨key,hkey,q2,rfl,hq2⟩:=vX ky hy
    rw [ek,aX1] at hkey
    cases e2:ps[j]? with
    | none=>rw [e2] at hkey; cases hkey
    | some pp=>
     rw [e2] at hkey
     have e3:pp.1=key:=aZ0 hkey
     refine⟨.tup (pp.1.map kP),by rw [aX1,e2]; rfl,?_⟩
     rw [e3]
     exact .tup (s _ _ (by rw [aF (fun z=>by rw [z,ha] at hq2; cases hq2)]; exact hq2)) (Reps.keys key)
  | _=>cases hk
 refine⟨_,ev,a,u,rfl,ha,du,fun o ys pk D hD=>?_⟩
 obtain ⟨lk,kys⟩:=keys ys pk
 have hDa:D ≠ a:=fun z=>by rw [z,b9] at hD; cases hD
 have hD1:H D=none:=by rw [aF hDa] at hD; exact hD
 have nofr:∀ o' v',X.H₀ a ≠ some (.frz o' v'):=fun o' v' e=>by have:=px.same _ _ e; rw [ha] at this; cases this; cases du
 refine⟨fun i m acc H'=>m=ks.length - i/\i<=ks.length/\aD (upd H a (.frz o u)) H'/\H' D=some (.lst acc)/\∃ zs,Reps X.K (fun _=>False) H' acc zs/\flats zs=true/\zs.length<=i/\I i zs,⟨ks.length,by omega,bf0 _,cE hD _,b9,[],.nil,rfl,aX5 _,i0⟩,?_⟩
 rintro j m2 acc H' ⟨rfl,hi2,sm,hl',zs,rz,fzs,hz,iz⟩
 refine⟨hl',?_⟩
 have fro:H' a=some (.frz o u):=sm _ _ b9
 by_cases hlt:j < ks.length
 ·refine .inr ⟨⟨⟨_,fro⟩,by omega⟩,fun v2 H2 y=>?_⟩
  obtain ⟨rfl,hy⟩:=y
  obtain ⟨x,hx,rx⟩:=kys o H2 (Ms (upd H a (.frz o u)) (gF D) false) j v2 sm hy
  have pxb:=aF1 (fr:=fr) px ha du hD sm hl' nd fun m' v' hm' hv'=>by
   rw [hi] at hm'; cases hm'
   rw [ev] at hv'; cases hv'
   exact frz o H2 D hD1 sm
  refine hg (upd H a (.frz o u)) (gF D) _ _ H2 _ _ false _ _ pxb rx (turn j x zs hx iz) fun σ2 ρ2 px2 hown hlen q2=>⟨⟨hlen.symm,fun j w e=>?_⟩,?_⟩
  ·by_cases oj:own j
   ·have:=ho j oj
    unfold e9 at e
    rw [aX1,this] at e
    cases e
   ·rw [hown j oj]; exact e
  ·refine⟨gF D,ρ2,_,px2,q2,fun b H4 s4 q4=>?_⟩
   have hl4:=s4 _ _ hl'
   have sm4:=sm.trans s4
   cases b with
   | false=>exact aS ⟨ks.length - (j+1),by omega,rfl,hlt,sm4,hl4,zs,rz.same s4 fun _ z=>z,fzs,by omega,by simpa using q4⟩
   | true=>
    refine aZ ⟨gF D,ρ2,_,px2.mono s4,by simpa using q4,?_⟩
    rintro w H5 y gy s5 ryy ⟨⟨nw,fy⟩,q5⟩
    have hl5:=s5 _ _ hl4
    have lr:=rz.length
    refine⟨hl5,pM (by omega),ks.length - (j+1),by omega,rfl,hlt,fun b o' e=>?_,b9,zs ++ [y],?_,N6 fzs fy,by rw [aZ3,bc4]; omega,q5⟩
    ·rw [aF (fun z=>by rw [z,hD] at e; cases e)]
     exact s5 _ _ (sm4 _ _ e)
    ·exact ((rz.same (s4.trans s5) fun _ z=>z).append (.cons (ryy.flat fy) .nil)).keep (.upd hl5 rfl fun b z=>z.elim)
 ·obtain rfl:j=ks.length:=by omega
  refine .inl ⟨⟨⟨_,fro⟩,lk.symm⟩,a,o,u,fro,nofr,k _ _ _ .fr (fun b x e=>?_) (.lst hD1 (by rw [aF hDa]; exact hl') (Reps.keepN (.thaw fro du fun b us z=>z.elim) (flats_nods fzs) rz)) (fin zs iz)⟩
  by_cases hb:b=a
  ·subst hb
   rw [ha] at e; cases e
   exact b9
  ·rw [aF hb]
   exact sm _ _ (by rw [aF hb]; exact e)
end
end PP
namespace Core
open PySem L2 PP
noncomputable def rT:bW:=fun xs Q=>∃ x,xs = [x]/\((∃ ns,IsI x ns/\ns.length<=1000/\Q (.bl (ay5 ns))) ∨ ∃ ls:List (Int × Int),(x = .tup (aN ls) ∨ x = .lst (aN ls))/\ls.length<=4096/\∀ b:Bool,(b=true ↔ ls.Pairwise eD)->Q (.bl b))
noncomputable abbrev Q0:aO:=P0
theorem aF3:dJ Q0 ["things"] rT:=by
 rintro xs Q ⟨x,rfl,⟨ns,hx,hl,q⟩ | ⟨ls,hx,hl,q⟩⟩
 ·exact P3 PV.int (fun a b=>decide (a < b)) (fun _=>rfl) (fun a b g g' K h=>.inl ⟨_,_,rfl,rfl,h⟩) ns (by omega) x hx q
 ·exact P3 (fun l:Int × Int=>PV.tup [.int l.1,.int l.2]) (fun a b=>HT.aL [a.1,a.2] [b.1,b.2]) (fun _=>rfl) (fun a b g g' K h=>.inr ⟨_,_,rfl,rfl,h⟩) ls (by omega) x hx (q _ (aE9 ls))
noncomputable def bZ (r c:Int):Prop:=1<=r/\r<=40/\1<=c/\c<=40
noncomputable def rU:fB:=fun Ep xs Q=>∃ r c:Int,xs = [.int r,.int c]/\(bZ r c->Q .non)/\(¬ bZ r c->Ep "BadBoard")
noncomputable def Q2 (Ep:Str->Prop):aO:=(cF (jL (aX (iJ (aI nJ (a7 (a5 0) (a7 (a5 1) aC))) (qC (.int 1)))) (aX (kR (aI lS (a7 (a5 0) (a7 (a5 1) aC))) (qC (.int 40))))) (mH Ep "BadBoard" (a7 (qC (.str "a board has from 1 to 40 rows and columns")) aC)) cL)
theorem aF4:mI Q2 ["rows","columns"] rU:=by
 rintro Ep xs Q ⟨r,c,rfl,q,ex⟩
 refine⟨_,rfl,_,rfl,_,_,rfl,_,_,rfl,rfl,_,rfl,?_⟩
 show if decide ((if c < r then c else r) < 1)=true then _ else _
 by_cases h1:(if c < r then c else r) < 1
 ·rw [aX2 h1]
  exact aZ (aZ ⟨by decide,ex fun z=>by unfold bZ at z; split at h1 <;> omega⟩)
 rw [aW6 h1]
 refine aS ⟨_,rfl,_,rfl,_,_,rfl,_,_,rfl,rfl,_,rfl,?_⟩
 show if decide ((if c > r then c else r) > 40)=true then _ else _
 by_cases h2:(if c > r then c else r) > 40
 ·rw [aX2 h2]
  exact aZ ⟨by decide,ex fun z=>by unfold bZ at z; split at h2 <;> omega⟩
 rw [aW6 h2]
 refine aS (q ?_)
 unfold bZ
 split at h1 <;> split at h2 <;> omega
noncomputable def bL (r c:Int) (l:Int × Int):Bool:=decide (0<=l.1) && (decide (l.1 < r) && (decide (0<=l.2) && decide (l.2 < c)))
theorem l8 {r c:Int}{l:Int × Int}:bL r c l=true ↔ 0<=l.1/\l.1 < r/\0<=l.2/\l.2 < c:=by
 unfold bL
 simp only [bb0,aY7]
noncomputable def mK:bW:=fun xs Q=>∃ (r c:Int) (l:Int × Int),xs = [.int r,.int c,.tup [.int l.1,.int l.2]]/\Q (.bl (bL r c l))
noncomputable def Q3:aO:=(bV (kN (E4 (bC (a5 2) (qC (.int 0))) (qC (.int 0))) (kN (iJ (bC (a5 2) (qC (.int 0))) (a5 0)) (kN (E4 (bC (a5 2) (qC (.int 1))) (qC (.int 0))) (iJ (bC (a5 2) (qC (.int 1))) (a5 1))))))
theorem aF5:dJ Q3 ["rows","columns","cell"] mK:=by
 rintro xs Q ⟨r,c,l,rfl,q⟩
 unfold bL at q
 refine⟨_,rfl,_,_,_,rfl,rfl,rfl,_,_,rfl,rfl,_,rfl,?_⟩
 show if decide (l.1 >= 0)=true then _ else _
 by_cases h1:0<=l.1
 ·rw [aX2 h1] at q
  rw [aX2 (show l.1 >= 0 from h1)]
  refine aZ ⟨_,rfl,_,_,_,rfl,rfl,rfl,_,rfl,_,_,rfl,rfl,_,rfl,?_⟩
  show if decide (l.1 < r)=true then _ else _
  by_cases h2:l.1 < r
  ·rw [aX2 h2] at q ⊢
   refine aZ ⟨_,rfl,_,_,_,rfl,rfl,rfl,_,_,rfl,rfl,_,rfl,?_⟩
   show if decide (l.2 >= 0)=true then _ else _
   by_cases h3:0<=l.2
   ·rw [aX2 h3] at q
    rw [aX2 (show l.2 >= 0 from h3)]
    exact aZ ⟨_,rfl,_,_,_,rfl,rfl,rfl,_,rfl,_,_,rfl,rfl,trivial,q⟩
   ·rw [aW6 h3] at q
    rw [aW6 (show ¬ l.2 >= 0 from h3)]
    exact aS ⟨trivial,q⟩
  ·rw [aW6 h2] at q ⊢
   exact aS ⟨trivial,q⟩
 ·rw [aW6 h1] at q
  rw [aW6 (show ¬ l.1 >= 0 from h1)]
  exact aS ⟨trivial,q⟩
noncomputable def fD (r c:Int) (ls:List (Int × Int)):Prop:=ls.Pairwise eD/\∀ l ∈ ls,bL r c l=true
noncomputable def jX:fB:=fun Ep xs Q=>∃ (r c:Int) (x:PV) (ls:List (Int × Int)),xs = [.int r,.int c,x]/\(x = .tup (aN ls) ∨ x = .lst (aN ls))/\ls.length<=4096/\(¬ bZ r c->Ep "BadBoard")/\(bZ r c->¬ fD r c ls->Ep "BadSet")/\(bZ r c->fD r c ls->Q (.tup (aN ls)))
noncomputable def Q4 (Ep:Str->Prop):aO:=(aJ (uE (jW Ep rU (a7 (a5 0) (a7 (a5 1) aC))))
 (aJ (cF (jL (kL (aX (aI rT (a7 (a5 2) aC)))) (kL (aX (aI pW (a7 (gQ (dS (a5 2)) [none,some 0,some 1] (cG 0) i5 (aI mK (a7 (a5 1) (a7 (a5 2) (a7 (a5 0) aC))))) aC))))) (mH Ep "BadSet" (a7 (qC (.str "a set is of rising cells of the board")) aC)) cL)
 (bV (aI qG (a7 (a5 2) aC)))))
theorem aF6:mI Q4 ["rows","columns","cells"] jX:=by
 rintro Ep xs Q ⟨r,c,x,ls,rfl,hx,hl,e1,e2,q⟩
 have sx:j5 x=some (aN ls):=by rcases hx with rfl | rfl <;> rfl
 have pl:(aN ls).length=ls.length:=aW5 _
 have tg:(Slot.sh (flat x) x).tag = .rd->flat x=true:=by cases flat x <;> intro z <;> cases z
 refine⟨_,rfl,_,rfl,r,c,rfl,fun ok=>?_,e1⟩
 refine⟨_,rfl,_,rfl,.inr ⟨ls,hx,hl,fun b hb=>⟨_,rfl,?_⟩⟩⟩
 cases b with
 | false=>exact aZ (aZ ⟨by decide,e2 ok fun z=>by have:=hb.mpr z.1; cases this⟩)
 | true=>
  have ord:=hb.mp rfl
  refine aS ⟨_,rfl,aN ls,sx,tg,by rw [pl]; omega,fun i acc=>acc=(((ls.take i).map (bL r c)).map PV.bl),rfl,?_,?_⟩
  ·rintro i z acc hz rfl
   obtain ⟨l,rfl,hlm⟩:=rG hz
   refine⟨_,rfl,_,rfl,_,rfl,r,c,l,rfl,trivial,?_⟩
   dsimp only
   rw [aZ9,hlm,aZ1,aZ1]; rfl
  rintro acc rfl
  rw [pl,ba6]
  refine⟨ls.map (bL r c),rfl,_,rfl,?_⟩
  cases ha:(ls.map (bL r c)).all id with
  | false=>
   refine aZ ⟨by decide,e2 ok fun z=>?_⟩
   have:(ls.map (bL r c)).all id=true:=by
    rw [List.all_map,bi5]
    exact fun l hlm=>z.2 l hlm
   rw [ha] at this; cases this
  | true=>
   refine aS ?_
   have st:fD r c ls:=⟨ord,fun l hlm=>by
    rw [List.all_map,bi5] at ha
    exact ha l hlm⟩
   have sT:pV x=some (aN ls):=by rcases hx with rfl | rfl <;> rfl
   refine⟨_,rfl,⟨_,_,rfl,sT,o5 _,trivial,q ok st⟩,fun ns z=>?_⟩
   rcases hx with rfl | rfl <;> cases z
noncomputable def l9 (l:Int × Int):List (Int × Int):=[(l.1 - 1,l.2),(l.1,l.2 - 1),(l.1,l.2+1),(l.1+1,l.2)]
noncomputable def fW (r c:Int) (l:Int × Int):List (Int × Int):=(l9 l).filter (bL r c)
noncomputable def rV:bW:=fun xs Q=>∃ (r c:Int) (l:Int × Int),xs = [.int r,.int c,.tup [.int l.1,.int l.2]]/\Q (.lst (aN (fW r c l)))
noncomputable def Q5:aO:=(aJ (b7 3 (bC (a5 2) (qC (.int 0))))
 (aJ (b7 4 (bC (a5 2) (qC (.int 1))))
 (aJ (b7 5 (iG (a7 (cS (a7 (eC (a5 3) (qC (.int 1))) (a7 (a5 4) aC))) (a7 (cS (a7 (a5 3) (a7 (eC (a5 4) (qC (.int 1))) aC))) (a7 (cS (a7 (a5 3) (a7 (cM (a5 4) (qC (.int 1))) aC))) (a7 (cS (a7 (cM (a5 3) (qC (.int 1))) (a7 (a5 4) aC))) aC))))))
 (bV (gQ (dS (a5 5)) [none,some 0,some 1] (cG 0) (aX (aI mK (a7 (a5 1) (a7 (a5 2) (a7 (a5 0) aC))))) (a5 0))))))
theorem aF7:dJ Q5 ["rows","columns","cell","row","column","sides"] rV:=by
 rintro xs Q ⟨r,c,l,rfl,q⟩
 refine⟨_,rfl,_,_,_,rfl,rfl,rfl,trivial,?_⟩
 refine⟨_,rfl,_,_,_,rfl,rfl,rfl,trivial,?_⟩
 refine⟨_,rfl,_,_,rfl,rfl,_,rfl,by show 2<=1000; decide,rfl,_,rfl,_,rfl,_,_,rfl,rfl,by show 2<=1000; decide,rfl,_,rfl,_,rfl,_,_,rfl,rfl,by show 2<=1000; decide,rfl,_,rfl,_,_,rfl,rfl,_,rfl,by show 2<=1000; decide,rfl,by show 4<=1000; decide,rfl,trivial,?_⟩
 refine⟨_,rfl,aN (l9 l),rfl,(fun z=>by cases z),by show 4<=16000000; decide,fun i acc=>acc=aN (((l9 l).take i).filter (bL r c)),rfl,?_,?_⟩
 ·rintro i z acc hz rfl
  obtain ⟨m,rfl,hm⟩:=rG hz
  have tk:=o3 (p:=bL r c) hm
  refine⟨_,rfl,_,rfl,_,rfl,r,c,m,rfl,_,rfl,?_⟩
  cases hb:bL r c m with
  | true=>
   rw [hb,if_pos rfl] at tk
   refine aZ ⟨_,rfl,trivial,?_⟩
   dsimp only
   rw [tk]
   unfold aN
   rw [aZ1]; rfl
  | false=>
   rw [hb,if_neg (by decide),bb7] at tk
   refine aS ?_
   dsimp only
   rw [tk]
 ·rintro acc rfl
  exact⟨trivial,q⟩
section
variable {ls : List (Int × Int)} {n : Nat} {B : List Int}
noncomputable def ins (ls:List (Int × Int)) (S:List Int) (h:Int):Nat:=((tX ls h).filter fun x=>decide (x ∈ S)).length
end
end Core
namespace L2
open PySem PySem.Spec PyProof.Rows SO
noncomputable abbrev kk (l:Int × Int):List aH:=[Sum.inl l.1,Sum.inl l.2]
theorem aF8 {α β:Type}{R:α->β->Prop}{xs ys:List α} (h:xs.Perm ys):∀ {ks:List β},Paired R xs ks->∃ ks',ks'.Perm ks/\Paired R ys ks':=by
 induction h with
 | nil=>intro ks r; exact⟨ks,bk0 _,r⟩
 | cons v _ ih=>
  intro ks r
  cases r with
  | cons r t=>
   obtain ⟨xs',p,r'⟩:=ih t
   exact⟨_ :: xs',p.cons _,.cons r r'⟩
 | swap u v l=>
  intro xs r
  cases r with
  | cons r t=>cases t with
   | cons r2 t2=>exact⟨_,List.Perm.swap _ _ _,.cons r2 (.cons r t2)⟩
 | trans _ _ ih1 ih2=>
  intro xs r
  obtain ⟨x1,p1,r1⟩:=ih1 r
  obtain ⟨x2,p2,r2⟩:=ih2 r1
  exact⟨x2,p2.trans p1,r2⟩
theorem Q6 {α β:Type}{R:α->β->Prop}:∀ {xs:List α}{ys:List β},Paired R xs ys->∀ y ∈ ys,∃ x ∈ xs,R x y
 | _,_,.nil,y,h=>nomatch h
 | _,_,.cons r p,y,h=>by
  rcases aW9.mp h with rfl | h
  ·exact⟨_,aX3,r⟩
  ·obtain ⟨x,hx,rx⟩:=Q6 p y h
   exact⟨x,aX0 _ hx,rx⟩
theorem Q7 {α β:Type}{R:α->β->Prop}:∀ {xs:List α}{ys:List β},Paired R xs ys->∀ x ∈ xs,∃ y ∈ ys,R x y
 | _,_,.nil,y,h=>nomatch h
 | _,_,.cons r p,y,h=>by
  rcases aW9.mp h with rfl | h
  ·exact⟨_,aX3,r⟩
  ·obtain ⟨x,hx,rx⟩:=Q7 p y h
   exact⟨x,aX0 _ hx,rx⟩
theorem Q8 {α β:Type}{J:α->β->Prop}{R:α->α->Prop}{S:β->β->Prop}:∀ {xs:List α}{ys:List β},Paired J xs ys->xs.Pairwise R->(∀ u v a b,a ∈ ys->b ∈ ys->J u a->J v b->R u v->S a b)->ys.Pairwise S
 | _,_,.nil,_,_=>.nil
 | _,_,.cons (a:=x) (b:=y) r p,.cons h t,f=>by
  refine .cons (fun b hb=>?_) (Q8 p t fun u v a b ha hb=>f u v a b (aX0 _ ha) (aX0 _ hb))
  obtain ⟨v,hv,jv⟩:=Q6 p b hb
  exact f x v y b aX3 (aX0 _ hb) r jv (h v hv)
end L2
namespace PP
open PySem L2
section
variable {X : Cx} {o e f : Expr} {td tk tx : aE} {pos apos cpos : Pos} {σ : St} {H : Hp} {Q' : VK}
noncomputable def wF (td tk tx:aE):aE:=fun ρ Q=>td ρ fun x _=>∃ ps,x = .dT ps/\tk ρ fun y _=>tx ρ fun z _=>∃ k,y = .tup (k.map kP)/\flat ((cC ps k).getD z)=true/\Q ((cC ps k).getD z) .fr
theorem aF9 (h:LE X (wF td tk tx) σ H Q'):zU (LE X td) (LE X tk) (LE X tx) σ H Q':=by
 obtain ⟨W,ρ,Q,px,q,k⟩:=h
 refine⟨W,ρ,_,px,q,?_⟩
 rintro v H1 x g s r ⟨ps,rfl,q⟩
 have r0:=r
 cases r with
 | @dT a kvs _ m h e rr=>
  refine⟨a,rfl,.inr ⟨kvs,.inl h⟩,W,ρ,_,px.mono s,q,fun w H2 y g' s2 r2 q2=>⟨W,ρ,_,(px.mono s).mono s2,q2,?_⟩⟩
  rintro w3 H3 z gz s3 r3 ⟨kk,rfl,fl,q⟩
  obtain ⟨a',o',ea,dg,h1,h2⟩:=qB (.inr ⟨ps,kk,rfl,rfl,rfl⟩) (r0.same (s2.trans s3) fun _ z=>z) (r2.same s3 fun _ z=>z)
  cases ea
  refine⟨o',dg,?_⟩
  cases hv:cC ps kk with
  | none=>
   rw [hv] at fl q
   rw [h1 hv]
   exact k _ _ _ .fr ((s.trans s2).trans s3) (r3.flat fl) q
  | some z'=>
   rw [hv] at fl q
   obtain ⟨u,rfl,ru⟩:=h2 z' hv
   exact k _ _ _ .fr ((s.trans s2).trans s3) (ru.flat fl) q
theorem aG0 (hu:X.A.units+1 < cLine) (ho:QE X o td) (he:QE X e tk) (hf:QE X f tx) (m:M2 X o "get" apos e f cpos:=by exact⟨rfl,rfl,rfl,rfl⟩):QE X (.Call (.Attribute o "get" apos) [e,f] [] cpos) (wF td tk tx):=c7 (al3 hu ho he hf m) fun _ _ _=>aF9
noncomputable def lA (p p':Int->Int->Bool) (ta tb tc:aE):aE:=fun ρ Q=>ta ρ fun x _=>tb ρ fun y _=>∃ i j,x = .int i/\y = .int j/\if p i j=true then tc ρ fun z _=>∃ k,z = .int k/\Q (.bl (p' j k)) .fr else Q (.bl false) .fr
theorem Q9 {p p':Int->Int->Bool}{ta tb tc:aE} (h:LE X (lA p p' ta tb tc) σ H Q'):yF (gA fun i j=>.bl (p i j)) (gA fun i j=>.bl (p' i j)) (LE X ta) (LE X tb) (LE X tc) σ H Q':=by
 obtain ⟨W,ρ,Q,px,q,k⟩:=h
 refine⟨W,ρ,_,px,q,?_⟩
 rintro v H1 x g s r q
 refine⟨W,ρ,_,px.mono s,q,?_⟩
 rintro u H2 y g' s2 r2 ⟨i,j,rfl,rfl,q⟩
 cases r; cases r2
 refine⟨i,j,rfl,rfl,p i j,rfl,?_⟩
 cases hp:p i j with
 | false=>
  rw [hp] at q
  rw [if_neg (by decide)] at q
  rw [if_neg (by decide)]
  exact k _ _ _ .fr (s.trans s2) (.bl false) q
 | true=>
  rw [hp,if_pos rfl] at q
  rw [if_pos rfl]
  refine⟨W,ρ,_,(px.mono s).mono s2,q,?_⟩
  rintro w H3 z gz s3 r3 ⟨m,rfl,q⟩
  cases r3
  exact⟨j,m,rfl,rfl,k _ _ _ .fr ((s.trans s2).trans s3) (.bl _) q⟩
section
variable {a b c : Expr} {ta tb tc : aE}
theorem R3 (ha:QE X a ta) (hb:QE X b tb) (hc:QE X c tc) (hm:lastMarks [.LtE,.Lt] [b,c]=false:=by with_unfolding_all rfl):QT X (.Compare a [.LtE,.Lt] [b,c] pos) (aX (lA (fun i j=>decide (i<=j)) (fun i j=>decide (i < j)) ta tb tc)):=kS (yG p9 p6 ha hb hc hm) fun _ _ _ h=>Q9 (lP h)
theorem R4 (ha:QE X a ta) (hb:QE X b tb) (hc:QE X c tc) (hm:lastMarks [.LtE,.LtE] [b,c]=false:=by with_unfolding_all rfl):QT X (.Compare a [.LtE,.LtE] [b,c] pos) (aX (lA (fun i j=>decide (i<=j)) (fun i j=>decide (i<=j)) ta tb tc)):=kS (yG p9 p9 ha hb hc hm) fun _ _ _ h=>Q9 (lP h)
end
end
end PP
namespace Core
open PySem L2 PP
noncomputable def bG (K:List (Int × Int)):List (List aH × PV):=K.map fun l=>(bF l,PV.bl true)
theorem rW {a b:Int × Int} (h:bF a=bF b):a=b:=by
 unfold bF at h
 injection h with h1 h2
 injection h2 with h2
 exact bj7 (Sum.inl.inj h1) (Sum.inl.inj h2)
theorem oA (K:List (Int × Int)):(bG K).length=K.length:=by unfold bG; rw [aW5]
theorem rX (K:List (Int × Int)) (x:Int × Int):(cC (bG K) (bF x)).isSome=decide (x ∈ K):=by
 rw [<- rE,bc9,List.any_eq_true,aY7]
 unfold bG
 refine⟨fun ⟨p,hp,e⟩=>?_,fun h=>⟨_,ba3.mpr ⟨x,h,rfl⟩,aX2 rfl⟩⟩
 obtain ⟨y,hy,rfl⟩:=ba3.mp hp
 rw [<- rW (bd3 e:bF y=bF x)]; exact hy
theorem wG {K:List (Int × Int)}{x:Int × Int} (h:x ∉ K):gR (bG K) (bF x) (.bl true)=bG (K ++ [x]):=by
 have:((bG K).any fun kv=>decide (kv.1=bF x))=false:=by
  rw [rE,rX,aW6 h]
 unfold gR
 rw [this]
 unfold bG
 rw [aZ1]; rfl
inductive gW (r c:Int) (S:List (Int × Int)):Int × Int->Prop
 | seed {x:Int × Int}:x ∈ S->gW r c S x
 | kin {x a b:Int × Int}:bL r c x=true->a ∈ fW r c x->b ∈ fW r c x->a ≠ b->gW r c S a->gW r c S b->gW r c S x
theorem aW1 {r c:Int}{x y:Int × Int} (hx:bL r c x=true) (h:y ∈ fW r c x):x ∈ fW r c y:=by
 unfold fW at h ⊢
 obtain ⟨h1,_⟩:=ba1.mp h
 refine ba1.mpr ⟨?_,hx⟩
 unfold l9 at h1 ⊢
 simp only [aW9,aX9,bb3,Prod.ext_iff] at h1 ⊢
 omega
theorem aG1 (r c:Int) (x:Int × Int):(fW r c x).Nodup:=by
 unfold fW
 refine List.Pairwise.filter _ (?_:(l9 x).Nodup)
 unfold l9
 simp only [bb4,aW9,aX9,bb3,Prod.ext_iff,not_false_eq_true,bl3,and_true]
 omega
noncomputable def nbC (r c:Int) (P:List (Int × Int)) (x:Int × Int):Nat:=(P.filter fun p=>decide (x ∈ fW r c p)).length
structure Wk (r c:Int) (S K P:List (Int × Int)):Prop where
 nd:K.Nodup
 ndP:P.Nodup
 sub:∀ x ∈ P,x ∈ K
 brn:∀ x ∈ K,gW r c S x
 sd:∀ x ∈ S,x ∈ K
 bd:∀ x ∈ K,bL r c x=true
 low:∀ x,x ∉ K->nbC r c P x < 2
theorem oB {r c:Int} (ok:bZ r c) {K:List (Int × Int)} (nd:K.Nodup) (bd:∀ x ∈ K,bL r c x=true):K.length<=1600:=by
 have:=w5 1600 (K.map fun l=>(l.1 * 40+l.2).toNat) (by
  refine bg6.mpr (nd.imp_of_mem fun {a b} ha hb hab e=>hab ?_)
  have i1:=l8.mp (bd a ha)
  have i2:=l8.mp (bd b hb)
  have:=ok.2.2.2
  exact bj7 (by omega) (by omega)) fun x hx=>by
   obtain ⟨l,hl,rfl⟩:=ba3.mp hx
   have i1:=l8.mp (bd l hl)
   have:=ok.2.1
   have:=ok.2.2.2
   omega
 rwa [aW5] at this
theorem oC {α:Type}{l:List α}{i:Nat}{x:α} (nd:l.Nodup) (h:l[i]? = some x):x ∉ l.take i:=fun z=>by
 have:(l.take (i+1)).Nodup:=nd.sublist (List.take_sublist _ _)
 rw [aZ9,h] at this
 exact (bg7.mp this).2.2 x z x (by simp) rfl
noncomputable def rY:bW:=fun xs Q=>∃ (x:PV) (ls:List (Int × Int)),xs = [x]/\(x = .tup (aN ls) ∨ x = .lst (aN ls))/\ls.Nodup/\ls.length<=4096/\Q (.dT (bG ls))
noncomputable def R5:aO:=(aJ (hZ 1 (qC (.dT [])))
 (aJ (dU (dS (a5 0)) (cG 2)
  (jQ 1 (a5 2) (qC (.bl true))))
 (jM 1)))
theorem aG2:dJ R5 ["hearths","inside","hearth"] rY:=by
 rintro xs Q ⟨x,ls,rfl,hx,nd,hl,q⟩
 have sx:j5 x=some (aN ls):=by rcases hx with rfl | rfl <;> rfl
 have tg:(Slot.sh (flat x) x).tag = .rd->flat x=true:=by cases flat x <;> intro z <;> cases z
 refine⟨rfl,rfl,_,rfl,aN ls,sx,tg,fun i ρ=>∃ y,ρ = [some (.sh (flat x) x),some (.own (.dT (bG (ls.take i)))),y],⟨none,rfl⟩,?_,?_⟩
 ·rintro i y ρ hy ⟨y0,rfl⟩
  obtain ⟨l,rfl,h⟩:=rG hy
  have tk:gR (bG (ls.take i)) (bF l) (.bl true)=bG (ls.take (i+1)):=by rw [wG (oC nd h),aZ9,h]; rfl
  refine⟨_,rfl,_,rfl,bF l,rfl,trivial,by rw [oA,bi3]; omega,?_⟩
  rw [tk]
  exact⟨_,rfl⟩
 ·rintro ρ ⟨y,rfl⟩
  rw [dY,ba6]
  exact⟨_,rfl,trivial,q⟩
noncomputable def rZ:bW:=fun xs Q=>∃ c:Int,xs = [.int c]/\∀ a b:Int,bZ a b->Q (.tup [.int a,.int b])
noncomputable def R6:aO:=(aJ (b7 1 (cM (qC (.int 1)) (cY (a5 0) (qC (.int 9)))))
 (aJ (b7 2 (cM (qC (.int 1)) (cY (gG (a5 0) (qC (.int 9))) (qC (.int 9)))))
 (aJ (cF (aX (nN (cY (gG (a5 0) (qC (.int 81))) (qC (.int 8))) (qC (.int 1)))) (aJ (b7 1 (cM (qC (.int 1)) (cY (gG (a5 0) (qC (.int 648))) (qC (.int 40)))))
  (b7 2 (cM (qC (.int 1)) (cY (gG (a5 0) (qC (.int 25920))) (qC (.int 40)))))) cL)
 (bV (cS (a7 (a5 1) (a7 (a5 2) aC)))))))
theorem aG3:dJ R6 ["cell","rows","columns"] rZ:=by
 rintro xs Q ⟨c,rfl,q⟩
 refine⟨_,rfl,_,_,rfl,rfl,(by show (0:Int) < 9; decide),_,_,rfl,rfl,trivial,?_⟩
 refine⟨_,rfl,_,_,rfl,rfl,⟨by decide,by decide⟩,_,_,rfl,rfl,(by show (0:Int) < 9; decide),_,_,rfl,rfl,trivial,?_⟩
 refine⟨_,rfl,_,_,rfl,rfl,⟨by decide,by decide⟩,_,_,rfl,rfl,(by show (0:Int) < 8; decide),.inl ⟨_,_,rfl,rfl,_,rfl,?_⟩⟩
 show if decide (c / 81 % 8=1)=true then _ else _
 cases decide (c / 81 % 8=1) with
 | false=>exact aS ⟨_,rfl,_,rfl,by show 2<=1000; decide,rfl,trivial,q _ _ ⟨by omega,by omega,by omega,by omega⟩⟩
 | true=>
  refine aZ ⟨_,rfl,_,_,rfl,rfl,⟨by decide,by decide⟩,_,_,rfl,rfl,(by show (0:Int) < 40; decide),_,_,rfl,rfl,trivial,?_⟩
  refine⟨_,rfl,_,_,rfl,rfl,⟨by decide,by decide⟩,_,_,rfl,rfl,(by show (0:Int) < 40; decide),_,_,rfl,rfl,trivial,?_⟩
  exact⟨_,rfl,_,rfl,by show 2<=1000; decide,rfl,trivial,q _ _ ⟨by omega,by omega,by omega,by omega⟩⟩
noncomputable def mL:bW:=fun xs Q=>∃ (ns:List Int) (k:Int),xs = [.scr ns,.int k]/\ns.length<=63/\0<=k/\k<=1000/\∀ z:Int,Q (.int z)
noncomputable def R7:aO:=(aJ (cF (aX (iJ (a5 1) (aI gO (a7 (a5 0) aC)))) (bV (bC (a5 0) (a5 1))) cL)
 (aJ (b7 2 (cY (jR (cM (cM (cY (aI jV (a7 (a5 0) (a7 (cY (a5 1) (aI lS (a7 (qC (.int 1)) (a7 (aI gO (a7 (a5 0) aC)) aC)))) aC))) (qC (.int 1000000007))) (jR (qC (.int 977)) (a5 1))) (qC (.int 1))) (qC (.int 48271))) (qC (.int 2147483647))))
 (bV (gG (cY (jR (a5 2) (a5 2)) (qC (.int 2147483647))) (qC (.int 8))))))
theorem aG4:dJ R7 ["script","k","stir"] mL:=by
 rintro xs Q ⟨ns,k,rfl,hl,k0,k1,q⟩
 refine⟨_,rfl,_,rfl,_,_,rfl,rfl,_,_,rfl,rfl,_,rfl,?_⟩
 show if decide (k < (ns.length:Int))=true then _ else _
 by_cases h:k < (ns.length:Int)
 ·rw [aX2 h]
  have hk:L2.atI (intz ns) k=some (.int (ns.getD k.toNat 0)):=L8 k0 h
  exact aZ ⟨_,rfl,_,rfl,_,_,_,rfl,rfl,hk,trivial,q _⟩
 ·rw [aW6 h]
  refine aS ?_
  have mx:(0:Int) < (if (ns.length:Int) > 1 then (ns.length:Int) else 1):=by split <;> omega
  refine⟨_,rfl,_,rfl,_,rfl,_,_,rfl,rfl,_,_,rfl,_,_,rfl,rfl,mx,_,ns,_,rfl,.inl rfl,Int.emod_nonneg _ (Int.ne_of_gt mx),?_⟩
  refine⟨_,_,rfl,rfl,(by show (0:Int) < 1000000007; decide),_,rfl,_,_,rfl,rfl,.inl ⟨by decide,by decide⟩,_,_,rfl,rfl,_,_,rfl,rfl,_,_,rfl,rfl,.inr ⟨by decide,by decide⟩,_,_,rfl,rfl,(by show (0:Int) < 2147483647; decide),trivial,?_⟩
  dsimp only
  generalize hv:(ns.getD (k % (if (ns.length:Int) > 1 then (ns.length:Int) else 1)).toNat 0 % 1000000007+977 * k+1) * 48271 % 2147483647=v
  have v0:0<=v:=by rw [<- hv]; exact Int.emod_nonneg _ (by decide)
  have v1:v < 2147483647:=by rw [<- hv]; exact Int.emod_lt_of_pos _ (by decide)
  exact⟨_,rfl,_,rfl,_,_,rfl,rfl,.inl ⟨by omega,by omega⟩,_,_,rfl,rfl,(by show (0:Int) < 2147483647; decide),_,_,rfl,rfl,⟨by decide,by decide⟩,trivial,q _⟩
noncomputable def sA:bW:=fun xs Q=>∃ (ns:List Int) (a r c:Int),xs = [.scr ns,.int a,.int r,.int c]/\ns.length<=63/\0<=a/\a<=10/\bZ r c/\∀ ls,fD r c ls->ls.length<=200->Q (.tup (aN ls))
noncomputable def wH:aO:=(aJ (hZ 5 (iG aC))
 (aJ (b7 8 (qC (.int 0)))
 (aJ (b7 9 (qC (.int 0)))
 (aJ (dU (pX (a5 7)) (cG 10)
  (aJ (b7 4 (aI mL (a7 (a5 0) (a7 (cM (a5 1) (a5 10)) aC))))
  (aJ (cF (aX (nN (cY (a5 4) (qC (.int 4))) (qC (.int 0)))) (aJ (b7 8 (cY (gG (a5 4) (qC (.int 4))) (a5 2)))
   (b7 9 (cY (gG (a5 4) (qC (.int 169))) (a5 3)))) (aJ (b7 8 (cY (eC (cM (a5 8) (cY (gG (a5 4) (qC (.int 4))) (qC (.int 5)))) (qC (.int 2))) (a5 2)))
   (b7 9 (cY (eC (cM (a5 9) (cY (gG (a5 4) (qC (.int 23))) (qC (.int 5)))) (qC (.int 2))) (a5 3)))))
  (cF (jK (aX (q2 rM (cS (a7 (a5 8) (a7 (a5 9) aC))) (a5 5))) (aX (kR (cY (gG (a5 4) (qC (.int 127))) (qC (.int 3))) (qC (.int 0))))) (kO 5 (cS (a7 (a5 8) (a7 (a5 9) aC)))) cL))))
 (bV (aI qG (a7 (aI o8 (a7 (a5 5) aC)) aC)))))))
noncomputable def R8:aO:=(aJ (b7 4 (aI jV (a7 (a5 0) (a7 (a5 1) aC))))
 (aJ (cF (jK (aX (nN (cY (a5 4) (qC (.int 2))) (qC (.int 1)))) (aX (iJ (jR (a5 2) (a5 3)) (qC (.int 101))))) (aJ (hZ 5 (iG aC))
  (aJ (dU (pX (jR (a5 2) (a5 3))) (cG 6)
   (aJ (b7 4 (gG (a5 4) (qC (.int 2))))
   (cF (aX (nN (cY (a5 4) (qC (.int 2))) (qC (.int 1)))) (kO 5 (cS (a7 (gG (a5 6) (a5 3)) (a7 (cY (a5 6) (a5 3)) aC)))) cL)))
  (bV (aI qG (a7 (a5 5) aC))))) cL)
 (aJ (b7 7 (eC (aI gO (a7 (a5 0) aC)) (a5 1)))
 (aJ (cF (aX (iJ (a5 7) (qC (.int 1)))) (b7 7 (qC (.int 1))) cL)
 wH))))
theorem aG5 {c:Int}{a b:Int × Int} (h:a.1 * c+a.2 < b.1 * c+b.2) (a0:0<=a.2) (b1:b.2 < c) (c1:1<=c):eD a b:=by
 unfold eD
 rcases Int.lt_trichotomy a.1 b.1 with z | z | z
 ·exact .inl z
 ·rw [z] at h; exact .inr ⟨z,by omega⟩
 ·have:=Int.mul_le_mul_of_nonneg_right (show b.1+1<=a.1 by omega) (show 0<=c by omega)
  rw [Int.add_mul,Int.one_mul] at this
  omega
theorem aG6 {x:Int × Int}{ls:List (Int × Int)}:decide (two x ∈ ls.map two)=decide (x ∈ ls):=by
 rw [bc9,aY7,aY7]
 refine⟨fun h=>?_,fun h=>ba3.mpr ⟨x,h,rfl⟩⟩
 obtain ⟨y,hy,e⟩:=ba3.mp h
 unfold two at e
 injection e with e1 e2
 injection e2 with e2
 rw [<- bj7 e1 e2]; exact hy
section
variable {ns : List Int} {a r c m : Int} {y4 y5 y6 : Option Slot} {Q : PV → Prop}
theorem R9 (hl:ns.length<=63) (a0:0<=a) (a1:a<=10) (ok:bZ r c) (m1:1<=m) (m2:m<=63) (q:∀ ls,fD r c ls->ls.length<=200->Q (.tup (aN ls))) :
  wH { nx:=fun _=>Q .non,rt:=Q } [some (.sh true (.scr ns)),si a,si r,si c,y4,y5,y6,si m,none,none,none]:=by
 obtain ⟨r1,r2,c1,c2⟩:=id ok
 refine⟨by decide,rfl,rfl,rfl,trivial,trivial,?_⟩
 refine⟨_,rfl,m,rfl,by omega,by omega,fun i ρ=>∃ (y4 y10:Option Slot) (x y:Int) (ls:List (Int × Int)),ρ = [some (.sh true (.scr ns)),si a,si r,si c,y4,some (.own (.lst (aN ls))),y6,si m,si x,si y,y10]/\ls.Nodup/\(∀ l ∈ ls,bL r c l=true)/\ls.length<=i,
  ⟨y4,none,0,0,[],rfl,.nil,(fun _ h=>nomatch h),aX5 _⟩,?_,?_⟩
 ·rintro i y ρ hy ⟨y4,y10,x,y,ls,rfl,nd,bd,len⟩
  obtain ⟨rfl,hi⟩:=L7 hy
  rw [show (0:Int)+(i:Int)=(i:Int) by omega]
  refine⟨_,rfl,_,rfl,_,rfl,_,_,rfl,rfl,ns,a+(i:Int),rfl,hl,by omega,by omega,fun z=>⟨trivial,?_⟩⟩
  have tail:∀ x y:Int,0<=x->x < r->0<=y->y < c->(cF (jK (aX (q2 rM (cS (a7 (a5 8) (a7 (a5 9) aC))) (a5 5))) (aX (kR (cY (gG (a5 4) (qC (.int 127))) (qC (.int 3))) (qC (.int 0))))) (kO 5 (cS (a7 (a5 8) (a7 (a5 9) aC)))) cL) { nx:=fun ρ=>∃ (y4 y10:Option Slot) (x y:Int) (ls:List (Int × Int)),ρ = [some (.sh true (.scr ns)),si a,si r,si c,y4,some (.own (.lst (aN ls))),y6,si m,si x,si y,y10]/\ls.Nodup/\(∀ l ∈ ls,bL r c l=true)/\ls.length<=i+1,rt:=Q } [some (.sh true (.scr ns)),si a,si r,si c,si z,some (.own (.lst (aN ls))),y6,si m,si x,si y,si (i:Nat)]:=by
   intro x y x0 x1 y0 y1
   refine⟨_,rfl,_,rfl,by show 2<=1000; decide,rfl,_,rfl,[x,y],ls.map two,rfl,by rw [l4]; rfl,_,rfl,?_⟩
   rw [show decide ([x,y] ∈ ls.map two)=decide ((x,y) ∈ ls) from aG6 (x:=(x,y))]
   by_cases h1:(x,y) ∈ ls
   ·rw [aX2 h1]
    exact aS (aS ⟨si z,si (i:Nat),x,y,ls,rfl,nd,bd,by omega⟩)
   ·rw [aW6 h1]
    refine aZ ⟨_,rfl,_,_,rfl,rfl,⟨by decide,by decide⟩,_,_,rfl,rfl,(by show (0:Int) < 3; decide),_,_,rfl,rfl,_,rfl,?_⟩
    show if decide (z / 127 % 3 > 0)=true then _ else _
    cases decide (z / 127 % 3 > 0) with
    | false=>exact aS ⟨si z,si (i:Nat),x,y,ls,rfl,nd,bd,by omega⟩
    | true=>
     refine aZ ⟨_,rfl,_,rfl,_,rfl,by show 2<=1000; decide,rfl,trivial,by rw [dY]; omega,si z,si (i:Nat),x,y,ls ++ [(x,y)],?_,bg7.mpr ⟨nd,be2 _ _,fun u hu v hv e=>h1 (by rw [aX4.mp hv] at e; rw [<- e]; exact hu)⟩,fun l hl=>?_,by rw [aZ3,bc4]; omega⟩
     ·unfold aN
      rw [aZ1]; rfl
     ·rcases ba2.mp hl with h | h
      ·exact bd l h
      ·rw [aX4.mp h]; exact l8.mpr ⟨x0,x1,y0,y1⟩
  refine⟨_,rfl,_,_,rfl,rfl,(by show (0:Int) < 4; decide),.inl ⟨_,_,rfl,rfl,_,rfl,?_⟩⟩
  show if decide (z % 4=0)=true then _ else _
  have em:=fun u:Int=>Int.emod_nonneg u (show r ≠ 0 by omega)
  have el:=fun u:Int=>Int.emod_lt_of_pos u (show 0 < r by omega)
  have fm:=fun u:Int=>Int.emod_nonneg u (show c ≠ 0 by omega)
  have fl:=fun u:Int=>Int.emod_lt_of_pos u (show 0 < c by omega)
  cases decide (z % 4=0) with
  | true=>
   refine aZ ⟨_,rfl,_,_,rfl,rfl,⟨by decide,by decide⟩,_,rfl,_,_,rfl,rfl,by omega,trivial,_,rfl,_,_,rfl,rfl,⟨by decide,by decide⟩,_,rfl,_,_,rfl,rfl,by omega,trivial,?_⟩
   exact tail _ _ (em _) (el _) (fm _) (fl _)
  | false=>
   refine aS ⟨_,rfl,_,rfl,_,_,rfl,rfl,⟨by decide,by decide⟩,_,_,rfl,rfl,(by show (0:Int) < 5; decide),_,_,rfl,rfl,_,_,rfl,rfl,_,rfl,_,_,rfl,rfl,by omega,trivial,_,rfl,_,rfl,_,_,rfl,rfl,⟨by decide,by decide⟩,_,_,rfl,rfl,(by show (0:Int) < 5; decide),_,_,rfl,rfl,_,_,rfl,rfl,_,rfl,_,_,rfl,rfl,by omega,trivial,?_⟩
   exact tail _ _ (em _) (el _) (fm _) (fl _)
 ·rintro ρ ⟨y4,y10,x,y,ls,rfl,nd,bd,len⟩
  rw [lU] at len
  refine⟨_,rfl,ls.map two,by rw [l4]; rfl,by rw [aW5]; omega,fun r hr=>by obtain ⟨l,_,rfl⟩:=ba3.mp hr; rfl,fun Z pz so=>?_⟩
  obtain ⟨l2,rfl,pp⟩:=vJ pz
  rw [show ((l2.map two).map fun r=>PV.tup (intz r))=aN l2 from (l4 _).symm]
  exact⟨⟨_,_,rfl,rfl,o5 _,trivial,q l2 ⟨vK so (pp.nodup_iff.mpr nd),fun l hl=>bd l (pp.mem_iff.mp hl)⟩ (by rw [pp.length_eq]; omega)⟩,fun ns z=>by cases z⟩
end
theorem aG7:dJ R8 ["script","at","rows","columns","cell","seeds","place","many","row","column","k"] sA:=by
 rintro xs Q ⟨ns,a,r,c,rfl,hl,a0,a1,ok,q⟩
 obtain ⟨r1,r2,c1,c2⟩:=id ok
 refine⟨_,rfl,_,rfl,_,ns,a,rfl,.inl rfl,a0,trivial,?_⟩
 generalize ns.getD a.toNat 0=v
 have two:(aJ (b7 7 (eC (aI gO (a7 (a5 0) aC)) (a5 1)))
  (aJ (cF (aX (iJ (a5 7) (qC (.int 1)))) (b7 7 (qC (.int 1))) cL)
  wH)) { nx:=fun _=>Q .non,rt:=Q } [some (.sh true (.scr ns)),si a,si r,si c,si v,none,none,none,none,none,none]:=by
  refine⟨_,rfl,_,_,rfl,rfl,_,rfl,_,_,rfl,rfl,trivial,?_⟩
  refine⟨_,rfl,_,_,rfl,rfl,_,rfl,?_⟩
  show if decide ((ns.length:Int) - a < 1)=true then _ else _
  by_cases h:(ns.length:Int) - a < 1
  ·rw [aX2 h]
   exact aZ ⟨trivial,R9 hl a0 a1 ok (by decide) (by decide) q⟩
  ·rw [aW6 h]
   exact aS (R9 (m:=(ns.length:Int) - a) hl a0 a1 ok (by omega) (by omega) q)
 have hp:0<=r * c:=Int.mul_nonneg (by omega) (by omega)
 refine⟨_,rfl,_,_,rfl,rfl,(by show (0:Int) < 2; decide),.inl ⟨_,_,rfl,rfl,_,rfl,?_⟩⟩
 show if decide (v % 2=1)=true then _ else _
 cases decide (v % 2=1) with
 | false=>exact aS (aS two)
 | true=>
  refine aZ ⟨_,rfl,_,rfl,_,_,rfl,rfl,.inl ⟨by omega,by omega⟩,_,_,rfl,rfl,_,rfl,?_⟩
  show if decide (r * c < 101)=true then _ else _
  by_cases h:r * c < 101
  ·rw [aX2 h]
   refine aZ ⟨by decide,rfl,rfl,rfl,?_⟩
   refine⟨_,rfl,_,rfl,_,_,rfl,rfl,.inl ⟨by omega,by omega⟩,r * c,rfl,by omega,by omega,fun i ρ=>∃ (v:Int) (y6:Option Slot) (ls:List (Int × Int)),ρ = [some (.sh true (.scr ns)),si a,si r,si c,si v,some (.own (.lst (aN ls))),y6,none,none,none,none]/\ls.Pairwise eD/\(∀ l ∈ ls,bL r c l=true/\l.1 * c+l.2 < (i:Int))/\ls.length<=i,
    ⟨v,none,[],rfl,.nil,(fun _ h=>nomatch h),aX5 _⟩,?_,?_⟩
   ·rintro i y ρ hy ⟨v,y6,ls,rfl,ord,bd,len⟩
    obtain ⟨rfl,hi⟩:=L7 hy
    rw [show (0:Int)+(i:Int)=(i:Int) by omega]
    have im:(i:Int) < r * c:=by omega
    have d1:=Int.mul_ediv_add_emod (i:Int) c
    have d2:=Int.emod_nonneg (i:Int) (show c ≠ 0 by omega)
    have d3:=Int.emod_lt_of_pos (i:Int) (show 0 < c by omega)
    have d4:(i:Int) / c < r:=Int.ediv_lt_of_lt_mul (by omega) im
    have d5:0<=(i:Int) / c:=Int.ediv_nonneg (by omega) (by omega)
    rw [Int.mul_comm] at d1
    refine⟨_,rfl,_,_,rfl,rfl,⟨by decide,by decide⟩,trivial,?_⟩
    refine⟨_,rfl,_,_,rfl,rfl,(by show (0:Int) < 2; decide),.inl ⟨_,_,rfl,rfl,_,rfl,?_⟩⟩
    show if decide (v / 2 % 2=1)=true then _ else _
    cases decide (v / 2 % 2=1) with
    | false=>exact aS ⟨v / 2,si (i:Nat),ls,rfl,ord,fun l hl=>⟨(bd l hl).1,by have:=(bd l hl).2; omega⟩,by omega⟩
    | true=>
     refine aZ ⟨_,rfl,_,rfl,_,rfl,_,_,rfl,rfl,⟨by omega,by omega⟩,_,rfl,_,rfl,_,_,rfl,rfl,by omega,by show 2<=1000; decide,rfl,trivial,by rw [dY]; omega,v / 2,si (i:Nat),ls ++ [((i:Int) / c,(i:Int) % c)],?_,ba5.mpr ⟨ord,be2 _ _,fun u hu w hw=>?_⟩,fun l hl=>?_,by rw [aZ3,bc4]; omega⟩
     ·unfold aN
      rw [aZ1]; rfl
     ·rw [aX4.mp hw]
      have bu:=bd u hu
      have iu:=l8.mp bu.1
      exact aG5 (by show u.1 * c+u.2 < (i:Int) / c * c+(i:Int) % c; omega) (by omega) d3 c1
     ·rcases ba2.mp hl with h | h
      ·exact⟨(bd l h).1,by have:=(bd l h).2; omega⟩
      ·rw [aX4.mp h]
       exact⟨l8.mpr ⟨d5,d4,d2,d3⟩,by show (i:Int) / c * c+(i:Int) % c < _; omega⟩
   ·rintro ρ ⟨v,y6,ls,rfl,ord,bd,len⟩
    rw [lU] at len
    exact⟨_,rfl,⟨_,_,rfl,rfl,o5 _,trivial,q ls ⟨ord,fun l hl=>(bd l hl).1⟩ (by omega)⟩,fun ns z=>by cases z⟩
  ·rw [aW6 h]
   exact aS two
theorem aG8 {ls:List (Int × Int)}{w:Int} (h:0<=w):i6 (aN ls) none (some w)=aN (ls.take w.toNat):=by
 rw [N1 h]; unfold aN; rw [List.map_take]
end Core
namespace L2
open PySem PySem.Spec PyProof.Rows SO
noncomputable abbrev kn (ns:List Int):List aH:=ns.map Sum.inl
noncomputable def jC (h:Heap) (ys:List (List Int)) (v:Value):Prop:=∃ ns ∈ ys,ns ≠ []/\i8 h v ns
theorem i8.keep {h h':Heap}{v:Value}{ns:List Int} (z:i8 h v ns) (k:∀ b o,h.get? b=some o->h'.get? b=some o):i8 h' v ns:=by
 obtain ⟨b,ob,us,n,e1,e2,e3,e4,e5⟩:=z.at_
 exact⟨⟨b,ob,us,n,e1,k _ _ e2,e3,e4,e5⟩⟩
theorem jC.keep {h h':Heap}{ys:List (List Int)}{v:Value} (z:jC h ys v) (k:∀ b o,h.get? b=some o->h'.get? b=some o):jC h' ys v:=by
 obtain ⟨ns,m,ne,z⟩:=z
 exact⟨ns,m,ne,z.keep k⟩
theorem aG9 {prog:Program}{w:World}{A:Around}{E:Value->Shared->Prop}{s:Shared} (ys:List (List Int)):SO.c9 prog w A E s (tuples' true) (fun x=>jC s.heap ys x.1) (mJ s.heap ys):=by
 rintro x y ⟨ns,m1,_,z⟩ ⟨ms,m2,_,z'⟩ st Q hk hq
 unfold mJ at hq
 rw [z.ints,z'.ints,<- O2 m1 m2] at hq
 obtain ⟨b,ob,us,n,e1,e2,e3,e4,e5⟩:=z.at_
 obtain ⟨b',ob',us',n',e1',e2',e3',e4',e5'⟩:=z'.at_
 rw [lt'_eq]
 refine aX6 (wpS_get ?_)
 rw [hk,e1,e1']
 refine aX6 (wpS_lift (wpAny_attempt (PySem.W.kat_lt e2 e4 e2' e4' ?_)))
 have:=tU (prog:=prog) (w:=w) (A:=A) (s:=s) (Q:=fun a s'=>s'=s/\wpS (model prog w) A E s (pure (some a)) Q st) 0 e5 e5' ⟨rfl,aY3 hq⟩
 simpa using this
theorem aH0 {h:Heap}{ys:List (List Int)}:∀ {vs:List Value},(∀ v ∈ vs,jC h ys v)->∃ fs:List Value,PySem.W.KatTups h vs fs/\fs.length=vs.length/\∀ v ∈ fs,∃ i t,v=Value.int i t:=by
 intro vs
 induction vs with
 | nil=>intro _; exact⟨[],PySem.W.KatTups.nil,rfl,fun _ z=>nomatch z⟩
 | cons v vs ih=>
  intro hh
  obtain ⟨fs,t1,t2,t3⟩:=ih fun y hy=>hh y (aX0 _ hy)
  obtain ⟨ns,_,ne,z⟩:=hh v aX3
  obtain ⟨b,ob,us,n,rfl,e2,e3,e4,e5⟩:=z.at_
  cases e5 with
  | nil=>exact absurd rfl ne
  | cons p t e6=>exact⟨Value.int p t :: fs,PySem.W.KatTups.cons e2 e3 e4 (by simp) t1,by simp [t2],fun v hv=>(aW9.mp hv).elim (fun z=>⟨p,t,z⟩) (t3 v)⟩
theorem aH1 {M:Model}{A:Around}{E:Value->Shared->Prop}{s:Shared}{ys:List (List Int)}{vs:List Value}{Q:SortKind->Shared->Prop} (hh:∀ v ∈ vs,jC s.heap ys v) (h2:2<=vs.length) (hQ:Q (tuples' true) s):wpAny M A (keyKind' vs.toArray) Q E s:=by
 obtain ⟨fs,t1,t2,t3⟩:=aH0 hh
 refine PySem.W.kat_kind (T:=.type "int") t1 (by omega) (fun v hv=>?_) (by decide) ?_
 ·obtain ⟨i,t,rfl⟩:=t3 v hv
  exact PySem.W.Looks.now
 ·have eT:(Value.type "int" != Value.type "tuple")=true:=by decide
  rw [eT]; exact hQ
theorem aH2 {h:Heap}{ys:List (List Int)}{u v:Value}{p q:List Int} (z:i8 h u p) (z':i8 h v q) (hp:p ∈ ys) (hq:q ∈ ys) (le:mJ h ys (u,u)<=mJ h ys (v,v)):HT.aL q p=false:=by
 unfold mJ at le
 rw [z.ints,z'.ints] at le
 rw [O2 hq hp]
 exact aW6 (by omega)
theorem aH3 {prog:Program}{w:World}{A:Around}{E:Value->Shared->Prop}{s:Shared}{T:String}{r d:Addr}{n:Nat}{P:Nat->Value->Prop}{OK:Heap->Prop}{Q:Value->Shared->Prop}{ys:List (List Int)} (K:PySem.W.KdlSrc prog w T r d n P OK) (hh:A.handled=none) (hok:OK s.heap) (hn:n<=sizeLine)
  (hI:∀ acc,ItemsOf P acc n->∀ v ∈ acc.toList,jC s.heap ys v)
  (h:∀ h' tk a (acc:Array Value) (out:List Value) e,(∀ b o,s.heap.get? b=some o->h'.get? b=some o)->s.heap.objs.size<=a->h'.get? a=some (seqObj "list" out.toArray e)->ItemsOf P acc n->out.Perm acc.toList->out.Pairwise (fun u v=>∀ p q,p ∈ ys->q ∈ ys->i8 s.heap u p->i8 s.heap v q->HT.aL q p=false)->Q (.ref a) { s with heap:=h',toks:=tk }) :
  wpAny (model prog w) A (call (.builtin "sorted") [.ref r]) Q E s:=by
 refine Calls.call_function_entry kind_sorted plain_sorted entry_sorted (args_sorted1 _) ?_
 unfold Builtin.«sorted»
 refine aW2 (m:=checkCount "sorted" 1 1 _) (aW7 ?_)
 refine aW2 (Raw.aC2 (s:=s) K hh hok hn fun h' tk acc kp hs it=>?_)
 have hz:acc.toList.length<=sizeLine:=by rw [bh7,it.1]; exact hn
 refine aW2 (wpAny_newList ?_ hz)
 have hoL:(h'.push (seqObj "list" acc.toList.toArray 0)).get? h'.objs.size=some (seqObj "list" acc.toList.toArray 0):=aY0 _ rfl
 show wpAny _ _ _ _ _ { s with heap:=h'.push (seqObj "list" acc.toList.toArray 0),toks:=tk }
 refine aW2 (bf7 (bd0 slot_list_sort ⟨_,hoL,rfl⟩ entry_list_sort ?_ (args_list_sort _)))
 have keepS:∀ out:List Value,∀ b o,s.heap.get? b=some o->(sortedHeap (h'.push (seqObj "list" acc.toList.toArray 0)) h'.objs.size acc.toList out.toArray).get? b=some o:=fun out b o hb=>by
  have lt:=aX8 (kp b o hb)
  rw [sortedHeap_old (aZ6 lt) (by rw [size_push']; exact Nat.lt_succ_of_lt lt)]
  exact aW4 _ (kp b o hb)
 by_cases h2:acc.toList.length < 2
 ·refine A3 (s:={ s with heap:=h'.push (seqObj "list" acc.toList.toArray 0),toks:=tk }) hoL h2 ⟨_,rfl,aW7 ⟨_,rfl,?_⟩⟩
  obtain ⟨e,he⟩:=sortedHeap_at (vs:=acc.toList) (out:=acc.toList.toArray) hoL
  refine h _ tk h'.objs.size acc acc.toList e (keepS acc.toList) hs he it (bk0 _) ?_
  match hl:acc.toList,h2 with
  | [],_=>exact bi9
  | [_],_=>exact be2 _ _
  | _ :: _ :: _,h2=>simp at h2; omega
 ·have kM:∀ b o,s.heap.get? b=some o->(dD (h'.push (seqObj "list" acc.toList.toArray 0)) h'.objs.size acc.toList).get? b=some o:=fun b o hb=>by
   have lt:=aX8 (kp b o hb)
   exact K3 (aZ6 lt) (aW4 _ (kp b o hb))
  have allp:∀ v ∈ acc.toList,jC (dD (h'.push (seqObj "list" acc.toList.toArray 0)) h'.objs.size acc.toList) ys v:=fun v hv=>(hI acc it v hv).keep kM
  refine K4 (s:={ s with heap:=h'.push (seqObj "list" acc.toList.toArray 0),toks:=tk }) (κ:=tuples' true) (Ok:=fun x=>jC (dD (h'.push (seqObj "list" acc.toList.toArray 0)) h'.objs.size acc.toList) ys x.1) (rk:=mJ (dD (h'.push (seqObj "list" acc.toList.toArray 0)) h'.objs.size acc.toList) ys) hoL (by omega) hz (fun Q hQ=>?_)
   (aG9 (s:={ s with heap:=dD (h'.push (seqObj "list" acc.toList.toArray 0)) h'.objs.size acc.toList,toks:=tk }) ys) (fun v hv=>allp v hv) fun out pm so=>⟨_,rfl,aW7 ⟨_,rfl,?_⟩⟩
  ·exact aH1 (s:={ s with heap:=dD (h'.push (seqObj "list" acc.toList.toArray 0)) h'.objs.size acc.toList,toks:=tk }) allp (by omega) hQ
  ·obtain ⟨e,he⟩:=sortedHeap_at (vs:=acc.toList) (out:=out.toArray) hoL
   exact h _ tk h'.objs.size acc out e (keepS out) hs he it pm (so.imp fun {u v} le p q hp hq z z'=>aH2 (z.keep kM) (z'.keep kM) hp hq le)
noncomputable def S0:List V->Hp->VK->Prop:=fun xs H Q=>∃ (a:Addr) (kvs:List (List aH × V)) (ls:List (List Int)),xs = [.ref a]/\H a=some (.dT kvs)/\kvs.map (·.1)=ls.map kn/\(∀ k ∈ ls,k ≠ [])/\∀ (l:Addr) (zs:List V) (ms:List (List Int)),H l=none->ms.Perm ls->ms.Pairwise (fun u v=>HT.aL v u=false)->Paired (fP H) zs (ms.map kn)->Q (.ref l) (upd H l (.lst zs))
theorem S2 {H:Hp}:∀ {ys:List V}{vs:List Value}{ls:List (List Int)},aQ ys vs->Paired (fP H) ys (ls.map kn)->Paired (fun v l=>∃ y,aP y v/\fP H y (kn l)) vs ls
 | _,_,[],.nil,_=>.nil
 | _,_,[],.cons _ _,p=>nomatch p
 | _,_,l :: ls,.cons r t,.cons k p=>.cons ⟨_,r,k⟩ (S2 t p)
theorem S3 {H:Hp}:∀ {vs:List Value}{ls:List (List Int)},Paired (fun v l=>∃ y,aP y v/\fP H y (kn l)) vs ls->∃ ys:List V,aQ ys vs/\Paired (fP H) ys (ls.map kn)
 | _,_,.nil=>⟨[],.nil,.nil⟩
 | _,_,.cons ⟨y,r,k⟩ p=>by
  obtain ⟨ys,t,q⟩:=S3 p
  exact⟨y :: ys,.cons r t,.cons k q⟩
theorem S4 (l:List Int):(kn l).map kV=l.map V.int:=by unfold kn; rw [bb5]; rfl
theorem aH4 {X:Cx} (hc:X.calm=true):cJ X (.builtin "sorted") S0:=by
 intro pins s σ H xs us Q I r h
 obtain ⟨a,kvs,ls,rfl,ha,hk,hne,q⟩:=h
 obtain ⟨u,rfl,ru⟩:=hG r
 cases ru
 obtain ⟨es,ep,ys,rd,far,pk,vk,z⟩:=tV I ha
 rw [hk] at pk
 have hl:=vk.length
 have hl2:=pk.length
 have hl3:=congrArg List.length hk
 rw [aW5] at hl hl2 hl3
 rw [aW5] at hl3
 have hsz:es.toList.length=es.size:=bh7
 have pv:∀ {y:V}{v:Value}{l:List Int},aP y v->fP H y (kn l)->i8 s.heap v l:=fun {y v l} ry ka=>by
  obtain ⟨b,rfl,hb⟩:=ka
  cases ry
  rw [S4] at hb
  obtain ⟨us,ru,⟨ob,e1,c1,n1,d1⟩,_⟩:=I.tuple (show aR X.K H b (l.map V.int) from aR.of hb)
  exact⟨⟨b,ob,us,n1,rfl,e1,c1,d1,jH ru⟩⟩
 have jt:=S2 vk pk
 refine aH3 (ys:=ls) (Raw.A4 far) (I.ok.hd hc) rd (by omega) (fun acc it v hv=>?_) fun h' tk l acc out e kp hn he it pm so=>?_
 ·rw [tW it] at hv
  obtain ⟨m,hm,y,ry,ka⟩:=Q7 jt v hv
  exact⟨m,hm,hne m hm,pv ry ka⟩
 ·rw [tW it] at pm
  obtain ⟨ms,pms,jo⟩:=aF8 pm.symm jt
  obtain ⟨zs,vz,pz⟩:=S3 jo
  have lz:=vz.length
  have lo:=pm.length_eq
  rw [aW5] at lo
  refine⟨.ref l,upd H l (.lst zs),I.laid (t':=tk) kp hn ⟨by omega,out,e,vz,he⟩,rfl,q l zs ms (I.hok.fresh hn) pms ?_ pz⟩
  exact Q8 jo so fun u v a b ha hb ⟨y,ry,ka⟩ ⟨y',ry',kb⟩ le=>le _ _ (pms.mem_iff.mp ha) (pms.mem_iff.mp hb) (pv ry ka) (pv ry' kb)
end L2
namespace PP
open PySem L2
section
variable {X : Cx} {e : Expr} {tr : cK} {pos p2 : Pos}
noncomputable abbrev jD (rs:List (List Int)):List PV:=rs.map fun r=>PV.tup (intz r)
noncomputable def wI:List PV->(PV->Prop)->Prop:=fun xs Q=>∃ (ps:List (List aH × PV)) (ls:List (List Int)),xs = [.dT ps]/\ps.map (·.1)=ls.map kn/\(∀ k ∈ ls,k ≠ [])/\∀ ms:List (List Int),ms.Perm ls->ms.Pairwise (fun u v=>HT.aL v u=false)->Q (.lst (jD ms))
theorem S5 {K:PySem.W.Frag}{M:Addr->Prop}{H:Hp}:∀ {zs:List V}{ms:List (List Int)},Paired (fP H) zs (ms.map kn)->Reps K M H zs (jD ms)
 | _,[],.nil=>.nil
 | _,l :: ms,.cons ⟨q,e,h⟩ p=>by
  subst e
  rw [S4] at h
  exact .cons (.tup h (Reps.intz l)) (S5 p)
theorem aH5:eO X wI S0:=by
 rintro H vs xs Q Q' r ⟨ps,ls,rfl,e,hne,q⟩ k
 obtain ⟨v,rfl,r1⟩:=r.one
 cases r1 with
 | @dT a kvs _ m h e2 r2=>
  exact⟨a,kvs,ls,rfl,h,e2.trans e,hne,fun l zs ms hl' p o pz=>k _ _ _ (cE hl' _) (.lst hl' b9 ((S5 pz).same (cE hl' _) fun _ z=>z)) (q ms p o)⟩
theorem aH6 (B:Bt X.mg) (hc:X.calm=true) (ha:QA X [e] tr) (hg:Gl X "sorted":=by rfl) (he:starEach [e] X.env=(false,eval e X.env) :: starEach [] X.env:=by rfl) (hpl:(backTo pos (starEach [] X.env)).any (·.1)=false:=by rfl):QE X (.Call (.Name "sorted" p2) [e] [] pos) (aI wI tr):=
 iM (aH4 hc) aH5 hg B.sorted PyProof.Rows.boot_sorted ha (he:=he) (hpl:=hpl)
end
end PP
namespace HT
open PySem PyProof.Rows
section
open PySem.SeqAt
open PySem.MeetsSeq PySem.MeetsSeq2 PySem.MeetsSeq3
theorem aH7 (A:Around) (s:Shared) (a:Int) (t:Tok) (c:Int) (u:Tok) (prog:Program) (w:World) (E:Value->Shared->Prop) (Q:Value->Shared->Prop) (h:Q (.bool (decide (c < a))) s) :
  wpAny (model prog w) A (richCompare .Gt (.int a t) (.int c u)) Q E s:=
 (PyProof.Rows.gt_int h:wpAny (model prog w) A (compareOp .Gt (.int a t) (.int c u)) Q E s)
theorem aH8 (l b:Addr) (items items2:Array Value) (n n2:Nat) (dd dd2:Option Addr) (sl sl2:Array (Option Value)) (ns ms:List Int) (hi:IntsAre items.toList ns) (hj:IntsAre items2.toList ms) :
  Meets (Builtin.«tuple.__gt__» ⟨[.ref l,.ref b],[]⟩)
   (fun _ R s=>s.heap.get? l=some { cls:=.type "tuple",dict:=dd,data:=.seq items n,slots:=sl }/\s.heap.get? b=some { cls:=.type "tuple",dict:=dd2,data:=.seq items2 n2,slots:=sl2 }/\
    R (.ok (.ret (.bool (aL ms ns)))) s):=
 .of_wp fun prog w A R s h=>by
  obtain ⟨hp,g,d,tk,os⟩:=s; obtain ⟨hl,hb,h⟩:=h
  have f2:=AutoSeq1.sub_tuple_tuple
  have z1:items.size=ns.length:=by rw [<- hi.length]; simp
  have z2:items2.size=ms.length:=by rw [<- hj.length]; simp
  wp_walk using bf6 hl,bf6 hb,wpAny_forIn_list _ (fun cD b s'=>b.1=none/\s'=⟨hp,g,d,tk,os⟩/\∃ (vs ws:List Value) (ns' ms':List Int),cD=vs.zip ws/\
   IntsAre vs ns'/\IntsAre ws ms'/\ns'.length+items2.size=ms'.length+items.size/\R (.ok (.ret (.bool (aL ms' ns')))) ⟨hp,g,d,tk,os⟩) _
  case turn=>
   rintro ⟨y,x⟩ cD b s' ⟨hb',rfl,vs,ws,ns',ms',hz,hvi,hwi,hlen,hR⟩
   cases hvi with
   | nil=>rw [List.zip_nil_left] at hz; cases hz
   | cons a t hvi'=>
    cases hwi with
    | nil=>rw [List.zip_nil_right] at hz; cases hz
    | cons c u hwi'=>
     rw [bh0] at hz
     injection hz with hyx hrest
     injection hyx with hy hx
     subst hy hx
     rw [gM] at hR
     simp only [ba0] at hlen
     obtain ⟨e,he,hiff⟩:=yS A.in1 ⟨hp,g,d,tk,os⟩ a t c u
     refine aW2 (he prog w _ _ ?_)
     cases e with
     | true=>
      rw [if_pos (hiff.mp rfl).symm] at hR
      wp_walk
      exact⟨rfl,rfl,_,_,_,_,hrest,hvi',hwi',by omega,hR⟩
     | false=>
      rw [if_neg (fun q=>absurd (hiff.mpr (Eq.symm q)) aY9)] at hR
      have hri:=aH7 A.in1 ⟨hp,g,d,tk,os⟩ a t c u prog w
      wp_walk using hri
      exact⟨_,rfl,by simpa using hR⟩
  case fin=>
   rintro ⟨b1,b2⟩ s' ⟨hb',rfl,vs,ws,ns',ms',hz,hvi,hwi,hlen,hR⟩
   simp only at hb'
   subst hb'
   have hv:aL ms' ns'=decide (items.size > items2.size):=by
    cases hvi with
    | nil=>
     cases hwi with
     | nil=>
      simp only [bj0] at hlen
      rw [pD]
      exact (aW6 (by omega)).symm
     | cons c u hw=>
      simp only [bj0,ba0] at hlen
      rw [yR]
      exact (aW6 (by omega)).symm
    | cons a t hv=>
     cases hwi with
     | nil=>
      simp only [bj0,ba0] at hlen
      rw [yQ]
      exact (aX2 (by omega)).symm
     | cons c u hw=>
      rw [bh0] at hz
      cases hz
   rw [hv] at hR
   wp_walk
   exact⟨_,rfl,by simpa [Builtin.Tuple.tupleCompareSizes] using hR⟩
  case h=>
   exact⟨rfl,rfl,items.toList,items2.toList,ns,ms,rfl,hi,hj,by omega,h⟩
end
section
variable {prog : Program} {w : World} {A : Around} {E : Value → Shared → Prop} {s : Shared}
theorem aH9 {l b:Addr}{items items2:Array Value}{ns ms:List Int}{Q:Value->Shared->Prop} (hl:IsTup s.heap l items) (hb:IsTup s.heap b items2) (hi:IntsAre items.toList ns) (hj:IntsAre items2.toList ms)
  (hu:A.units < cLine) (h:Q (.bool (aL ms ns)) s):wpAny (model prog w) A (richCompare .Gt (.ref l) (.ref b)) Q E s:=by
 obtain ⟨⟨cls,dd,data,sl⟩,ho,hc,n,hd⟩:=id hl
 obtain ⟨⟨cls2,dd2,data2,sl2⟩,ho2,hc2,n2,hd2⟩:=id hb
 simp only at hc hd hc2 hd2
 subst hc hd hc2 hd2
 exact richCompare_meets_room (op:=.Gt) ⟨_,ho,rfl⟩ ⟨_,ho2,rfl⟩ PySem.F.slot_tuple_gt PySem.F.entry_tuple_gt (PySem.F.args_tuple_gt_2 _ _) (aH8 l b items items2 n n2 dd dd2 sl sl2 ns ms hi hj)
  ⟨ho,ho2,show Value.bool (aL ms ns) ≠ Value.notImplemented/\Q (.bool (aL ms ns)) s from ⟨(fun x=>nomatch x),h⟩⟩ hu
end
end HT
namespace L2
open PySem PySem.Spec PyProof.Rows PP
section
variable {prog : Program} {w : World} {A : Around} {R : Result → Shared → Prop} {I S : Addr} {n : Nat} {s0 : Shared} {a b : Value} {lt : Bool} {fp : List Addr} {P : Nat → Value → Prop} {St : Nat → Heap → Prop}
theorem aI0 (W:Walks prog w A.in1 I fp [I] 2 P St) (p0:∀ v,P 0 v->v=a) (p1:∀ v,P 1 v->v=b) (sI:S ≠ I) (sf:S ∉ fp) (fI:s0.heap.get? I=none) (fS:s0.heap.get? S=none)
  (ask:∀ (h:Heap) (k:Nat) (Q E:Value->Shared->Prop),dE s0.heap h->Q (.bool lt) (at_ s0 h k)->wpAny (model prog w) A.in1 (richCompare .Lt b a) Q E (at_ s0 h k))
  (fin:∀ h k,dE s0.heap h->R (.ok (.ret (if lt=true then b else a))) (at_ s0 h k)) {h:Heap}{k c:Nat} (old:dE s0.heap h) (st:St 0 h)
  (hS:h.get? S=some { cls:=.type "list",dict:=none,data:=.seq #[] c,slots:=#[] }):codeAny (model prog w) A (.builtin "min.loop" ⟨[.ref I,.none,.ref S],[]⟩) R (at_ s0 h k):=by
 have nm:(toString "min" ++ toString ".loop" : String)="min.loop":=by decide
 have nS:S ∉ [I]:=fun z=>sI (aX4.mp z)
 have put:∀ {h h':Heap},dE s0.heap h->(∀ b o,b ∉ [I]->h.get? b=some o->h'.get? b=some o)->dE s0.heap h':=fun {h h'} o1 o2 b o e=>o2 b o (fun z=>by rw [aX4.mp z,fI] at e; cases e) (o1 b o e)
 have put2:∀ {h:Heap}{f:Obj->Obj},dE s0.heap h->dE s0.heap (h.update S f):=fun {h f} o1 b o e=>(bj3 _ _ (fun z:S=b=>by rw [<- z,fS] at e; cases e)).trans (o1 b o e)
 have last:∀ (h:Heap) (k c:Nat),dE s0.heap h->St 2 h->h.get? S=some { cls:=.type "list",dict:=none,data:=.seq #[if lt=true then b else a,if lt=true then b else a] c,slots:=#[] }->codeAny (model prog w) A (.builtin "min.loop" ⟨[.ref I,.none,.ref S],[]⟩) R (at_ s0 h k):=fun h k c old st hS=>by
  refine bg9 PySem.F.entry_min_loop ?_
  rw [bd4 bg4]
  refine aW2 (be1 hS rfl ?_)
  refine aW2 (bk1 (W.done _ _ _ st fun h2 k2 o2=>?_))
  exact aW2 (bk6 (o2 S _ nS hS) rfl (aW2 (bh9 (aW7 (fin _ k2 (put2 (put old o2)))))))
 have fr:∀ {h:Heap}{f:Obj->Obj}{j:Nat},St j h->St j (h.update S f):=fun {h f j} st=>W.frame _ _ _ st fun b hb o e=>(bj3 _ _ (fun z:S=b=>sf (by rw [z]; exact hb))).trans e
 refine bg9 PySem.F.entry_min_loop ?_
 rw [bd4 bg4]
 refine aW2 (be1 hS rfl ?_)
 refine aW2 (bk1 (W.item 0 _ _ _ (by decide) st fun v h2 k2 hv st2 o2=>?_))
 obtain rfl:=p0 v hv
 have hS2:=o2 S _ nS hS
 refine aW2 (aW7 ?_)
 refine aW2 (m:=updateSeq _ (fun _=>#[v,v])) (bk6 hS2 rfl ?_)
 rw [nm]
 refine aW7 ⟨bh4 bg4 _,bg9 PySem.F.entry_min_loop ?_⟩
 rw [bd4 bg4]
 have hS3:(h2.update S (Obj.mapSeq fun _=>#[v,v])).get? S=some (Obj.mapSeq (fun _=>#[v,v]) { cls:=.type "list",dict:=none,data:=.seq #[] c,slots:=#[] }):=bg8 _ hS2 rfl
 refine aW2 (be1 hS3 rfl ?_)
 refine aW2 (bk1 (W.item 1 _ _ _ (by decide) (fr st2) fun u h4 k4 hu st4 o4=>?_))
 obtain rfl:=p1 u hu
 have hS4:=o4 S _ nS hS3
 have old4:=put (put2 (f:=Obj.mapSeq fun _=>#[v,v]) (put old o2)) o4
 refine aW2 (aW7 ?_)
 refine aW2 (m:=tryCatch (holding [u,u] (richCompare .Lt u v >>= _)) _) (bk1 (bf7 (aW2 (ask h4 k4 _ _ old4 ?_))))
 refine aW2 (bf7 (bf2 (aW2 (bh9 (aW7 ?_)))))
 cases lt with
 | false=>
  simp only [aZ2,be4]
  refine aW2 (bh9 ?_)
  rw [nm]
  exact aW7 ⟨bh4 bg4 _,last h4 k4 _ old4 st4 hS4⟩
 | true=>
  simp only [if_true]
  refine aW2 (bk6 hS4 rfl (aW2 (bh9 ?_)))
  rw [nm]
  exact aW7 ⟨bh4 bg4 _,last _ k4 _ (put2 old4) (fr st4) (bg8 _ hS4 rfl)⟩
theorem aI1 {Q E:Value->Shared->Prop} (hh:A.in1.handled=none)
  (ask:∀ (h:Heap) (k:Nat) (Q E:Value->Shared->Prop),dE s0.heap h->Q (.bool lt) (at_ s0 h k)->wpAny (model prog w) A.in1 (richCompare .Lt b a) Q E (at_ s0 h k))
  (fin:∀ h k,dE s0.heap h->Q (if lt=true then b else a) (at_ s0 h k)):wpAny (model prog w) A (call (.builtin "min") [a,b]) Q E s0:=by
 have nm:(toString "min" ++ toString ".loop" : String)="min.loop":=by decide
 refine call_function_tree PySem.F.kind_min PySem.F.plain_min PySem.F.entry_min (PySem.F.args_min2 _ _) ?_
 refine aW2 (wpAny_of_eq (show Builtin.Builtins.bindParams "min" ["key","default"] 0 ⟨[],[]⟩=pure [none,none] from rfl) ?_)
 show wpAny _ A.in1 (newTuple [a,b] >>= _) _ _ _
 refine aW2 (bb2 ?_)
 have hT:(s0.heap.push { cls:=.type "tuple",data:=.seq #[a,b] }).IsTuple s0.heap.objs.size #[a,b]:=⟨_,aY0 _ rfl,rfl,0,rfl⟩
 have z1:(s0.heap.push { cls:=.type "tuple",data:=.seq #[a,b] }).objs.size=s0.heap.objs.size+1:=be0 ..
 refine aW2 (bh1 hT ?_)
 refine aW2 (bb2 ?_)
 rw [nm]
 have z2:((s0.heap.push { cls:=.type "tuple",data:=.seq #[a,b] }).push { cls:=.type "tuple_iterator",data:=.fields #[.ref s0.heap.objs.size,.int 0 0] }).objs.size=s0.heap.objs.size+2:=by rw [be0,z1]
 have ne:s0.heap.objs.size ≠ (s0.heap.push { cls:=.type "tuple",data:=.seq #[a,b] }).objs.size:=by omega
 refine aW7 ⟨bh4 bg4 _,aI0 (lt:=lt) (Walks.tuple (A:=A.in1) hh _ s0.heap.objs.size ne #[a,b]) (fun v hv=>?_) (fun v hv=>?_) (fun z=>?_) (fun z=>?_) (rO (aZ8 (Nat.le_succ _) (Nat.le_of_eq z1.symm))) (rO (aZ8 (bg2 _ 2) (Nat.le_of_eq z2.symm))) ask fin (fun b o e=>aW4 _ (aW4 _ (aW4 _ e)))
  ⟨⟨_,aW4 _ (aY0 _ rfl),rfl,rfl⟩,(hT.push _).push _⟩ (aY0 _ rfl)⟩
 ·exact (aZ0 (show some a=some v from hv)).symm
 ·exact (aZ0 (show some b=some v from hv)).symm
 ·have z:=z2.symm.trans (z.trans z1)
  omega
 ·rcases aW9.mp z with z | z
  ·have z:=z2.symm.trans (z.trans z1)
   omega
  ·have z:=z2.symm.trans (aX4.mp z)
   omega
end
section
variable {prog : Program} {w : World} {A : Around} {R : Result → Shared → Prop} {I S : Addr} {n : Nat} {s0 : Shared} {a b : Value} {lt : Bool} {fp : List Addr} {P : Nat → Value → Prop} {St : Nat → Heap → Prop}
theorem aI2 (W:Walks prog w A.in1 I fp [I] 2 P St) (p0:∀ v,P 0 v->v=a) (p1:∀ v,P 1 v->v=b) (sI:S ≠ I) (sf:S ∉ fp) (fI:s0.heap.get? I=none) (fS:s0.heap.get? S=none)
  (ask:∀ (h:Heap) (k:Nat) (Q E:Value->Shared->Prop),dE s0.heap h->Q (.bool lt) (at_ s0 h k)->wpAny (model prog w) A.in1 (richCompare .Gt b a) Q E (at_ s0 h k))
  (fin:∀ h k,dE s0.heap h->R (.ok (.ret (if lt=true then b else a))) (at_ s0 h k)) {h:Heap}{k c:Nat} (old:dE s0.heap h) (st:St 0 h)
  (hS:h.get? S=some { cls:=.type "list",dict:=none,data:=.seq #[] c,slots:=#[] }):codeAny (model prog w) A (.builtin "max.loop" ⟨[.ref I,.none,.ref S],[]⟩) R (at_ s0 h k):=by
 have nm:(toString "max" ++ toString ".loop" : String)="max.loop":=by decide
 have nS:S ∉ [I]:=fun z=>sI (aX4.mp z)
 have put:∀ {h h':Heap},dE s0.heap h->(∀ b o,b ∉ [I]->h.get? b=some o->h'.get? b=some o)->dE s0.heap h':=fun {h h'} o1 o2 b o e=>o2 b o (fun z=>by rw [aX4.mp z,fI] at e; cases e) (o1 b o e)
 have put2:∀ {h:Heap}{f:Obj->Obj},dE s0.heap h->dE s0.heap (h.update S f):=fun {h f} o1 b o e=>(bj3 _ _ (fun z:S=b=>by rw [<- z,fS] at e; cases e)).trans (o1 b o e)
 have last:∀ (h:Heap) (k c:Nat),dE s0.heap h->St 2 h->h.get? S=some { cls:=.type "list",dict:=none,data:=.seq #[if lt=true then b else a,if lt=true then b else a] c,slots:=#[] }->codeAny (model prog w) A (.builtin "max.loop" ⟨[.ref I,.none,.ref S],[]⟩) R (at_ s0 h k):=fun h k c old st hS=>by
  refine bg9 PySem.F.entry_max_loop ?_
  rw [bd4 bg5]
  refine aW2 (be1 hS rfl ?_)
  refine aW2 (bk1 (W.done _ _ _ st fun h2 k2 o2=>?_))
  exact aW2 (bk6 (o2 S _ nS hS) rfl (aW2 (bh9 (aW7 (fin _ k2 (put2 (put old o2)))))))
 have fr:∀ {h:Heap}{f:Obj->Obj}{j:Nat},St j h->St j (h.update S f):=fun {h f j} st=>W.frame _ _ _ st fun b hb o e=>(bj3 _ _ (fun z:S=b=>sf (by rw [z]; exact hb))).trans e
 refine bg9 PySem.F.entry_max_loop ?_
 rw [bd4 bg5]
 refine aW2 (be1 hS rfl ?_)
 refine aW2 (bk1 (W.item 0 _ _ _ (by decide) st fun v h2 k2 hv st2 o2=>?_))
 obtain rfl:=p0 v hv
 have hS2:=o2 S _ nS hS
 refine aW2 (aW7 ?_)
 refine aW2 (m:=updateSeq _ (fun _=>#[v,v])) (bk6 hS2 rfl ?_)
 rw [nm]
 refine aW7 ⟨bh4 bg5 _,bg9 PySem.F.entry_max_loop ?_⟩
 rw [bd4 bg5]
 have hS3:(h2.update S (Obj.mapSeq fun _=>#[v,v])).get? S=some (Obj.mapSeq (fun _=>#[v,v]) { cls:=.type "list",dict:=none,data:=.seq #[] c,slots:=#[] }):=bg8 _ hS2 rfl
 refine aW2 (be1 hS3 rfl ?_)
 refine aW2 (bk1 (W.item 1 _ _ _ (by decide) (fr st2) fun u h4 k4 hu st4 o4=>?_))
 obtain rfl:=p1 u hu
 have hS4:=o4 S _ nS hS3
 have old4:=put (put2 (f:=Obj.mapSeq fun _=>#[v,v]) (put old o2)) o4
 refine aW2 (aW7 ?_)
 refine aW2 (m:=tryCatch (holding [u,u] (richCompare .Gt u v >>= _)) _) (bk1 (bf7 (aW2 (ask h4 k4 _ _ old4 ?_))))
 refine aW2 (bf7 (bf2 (aW2 (bh9 (aW7 ?_)))))
 cases lt with
 | false=>
  simp only [aZ2,be4]
  refine aW2 (bh9 ?_)
  rw [nm]
  exact aW7 ⟨bh4 bg5 _,last h4 k4 _ old4 st4 hS4⟩
 | true=>
  simp only [if_true]
  refine aW2 (bk6 hS4 rfl (aW2 (bh9 ?_)))
  rw [nm]
  exact aW7 ⟨bh4 bg5 _,last _ k4 _ (put2 old4) (fr st4) (bg8 _ hS4 rfl)⟩
theorem aI3 {Q E:Value->Shared->Prop} (hh:A.in1.handled=none)
  (ask:∀ (h:Heap) (k:Nat) (Q E:Value->Shared->Prop),dE s0.heap h->Q (.bool lt) (at_ s0 h k)->wpAny (model prog w) A.in1 (richCompare .Gt b a) Q E (at_ s0 h k))
  (fin:∀ h k,dE s0.heap h->Q (if lt=true then b else a) (at_ s0 h k)):wpAny (model prog w) A (call (.builtin "max") [a,b]) Q E s0:=by
 have nm:(toString "max" ++ toString ".loop" : String)="max.loop":=by decide
 refine call_function_tree PySem.F.kind_max PySem.F.plain_max PySem.F.entry_max (PySem.F.args_max2 _ _) ?_
 refine aW2 (wpAny_of_eq (show Builtin.Builtins.bindParams "max" ["key","default"] 0 ⟨[],[]⟩=pure [none,none] from rfl) ?_)
 show wpAny _ A.in1 (newTuple [a,b] >>= _) _ _ _
 refine aW2 (bb2 ?_)
 have hT:(s0.heap.push { cls:=.type "tuple",data:=.seq #[a,b] }).IsTuple s0.heap.objs.size #[a,b]:=⟨_,aY0 _ rfl,rfl,0,rfl⟩
 have z1:(s0.heap.push { cls:=.type "tuple",data:=.seq #[a,b] }).objs.size=s0.heap.objs.size+1:=be0 ..
 refine aW2 (bh1 hT ?_)
 refine aW2 (bb2 ?_)
 rw [nm]
 have z2:((s0.heap.push { cls:=.type "tuple",data:=.seq #[a,b] }).push { cls:=.type "tuple_iterator",data:=.fields #[.ref s0.heap.objs.size,.int 0 0] }).objs.size=s0.heap.objs.size+2:=by rw [be0,z1]
 have ne:s0.heap.objs.size ≠ (s0.heap.push { cls:=.type "tuple",data:=.seq #[a,b] }).objs.size:=by omega
 refine aW7 ⟨bh4 bg5 _,aI2 (lt:=lt) (Walks.tuple (A:=A.in1) hh _ s0.heap.objs.size ne #[a,b]) (fun v hv=>?_) (fun v hv=>?_) (fun z=>?_) (fun z=>?_) (rO (aZ8 (Nat.le_succ _) (Nat.le_of_eq z1.symm))) (rO (aZ8 (bg2 _ 2) (Nat.le_of_eq z2.symm))) ask fin (fun b o e=>aW4 _ (aW4 _ (aW4 _ e)))
  ⟨⟨_,aW4 _ (aY0 _ rfl),rfl,rfl⟩,(hT.push _).push _⟩ (aY0 _ rfl)⟩
 ·exact (aZ0 (show some a=some v from hv)).symm
 ·exact (aZ0 (show some b=some v from hv)).symm
 ·have z:=z2.symm.trans (z.trans z1)
  omega
 ·rcases aW9.mp z with z | z
  ·have z:=z2.symm.trans (z.trans z1)
   omega
  ·have z:=z2.symm.trans (aX4.mp z)
   omega
end
section
variable {X : Cx}
theorem aI4 (hc:X.calm=true) (hu:X.A.units+3 < cLine):cJ X (.builtin "min") (fun xs H Q=>∃ a b ns ms,xs = [.ref a,.ref b]/\H a=some (.tup (ns.map V.int))/\H b=some (.tup (ms.map V.int))/\Q (if HT.aL ms ns=true then .ref b else .ref a) H):=by
 intro pins s σ H xs us Q I r h
 obtain ⟨a,b,ns,ms,rfl,ha,hb,q⟩:=h
 obtain ⟨u,w',rfl,r1,r2⟩:=kA r
 cases r1
 cases r2
 refine aI1 (lt:=HT.aL ms ns) (I.ok.hd hc) (fun h k Q E old hq=>?_) fun h k old=>⟨_,H,I.kept (t':=k) old,?_,q⟩
 ·have I2:a6 X pins σ H (at_ s h k):=I.kept (t':=k) old
  obtain ⟨its,v1,t1,_⟩:=I2.tuple (aR.of (K:=X.K) ha)
  obtain ⟨its2,v2,t2,_⟩:=I2.tuple (aR.of (K:=X.K) hb)
  exact (HT.yT t2 t1 (jH v2) (jH v1) (by show X.A.units+1 < cLine; omega) hq:wpAny (model X.prog X.w) X.A.in1 (compareOp .Lt _ _) Q E (at_ s h k))
 ·split <;> rfl
theorem aI5 (hc:X.calm=true) (hu:X.A.units+3 < cLine):cJ X (.builtin "max") (fun xs H Q=>∃ a b ns ms,xs = [.ref a,.ref b]/\H a=some (.tup (ns.map V.int))/\H b=some (.tup (ms.map V.int))/\Q (if HT.aL ns ms=true then .ref b else .ref a) H):=by
 intro pins s σ H xs us Q I r h
 obtain ⟨a,b,ns,ms,rfl,ha,hb,q⟩:=h
 obtain ⟨u,w',rfl,r1,r2⟩:=kA r
 cases r1
 cases r2
 refine aI3 (lt:=HT.aL ns ms) (I.ok.hd hc) (fun h k Q E old hq=>?_) fun h k old=>⟨_,H,I.kept (t':=k) old,?_,q⟩
 ·have I2:a6 X pins σ H (at_ s h k):=I.kept (t':=k) old
  obtain ⟨its,v1,t1,_⟩:=I2.tuple (aR.of (K:=X.K) ha)
  obtain ⟨its2,v2,t2,_⟩:=I2.tuple (aR.of (K:=X.K) hb)
  exact HT.aH9 t2 t1 (jH v2) (jH v1) (by show X.A.units+1 < cLine; omega) hq
 ·split <;> rfl
theorem aI6 (hc:X.calm=true):cJ X (.builtin "max") (fun xs H Q=>∃ i j k,xs = [.int i,.int j,.int k]/\Q (.int (max i (max j k))) H):=by
 intro pins s σ H xs us Q I r h
 obtain ⟨i,j,k,rfl,q⟩:=h
 cases r with
 | cons r1 r2=>
  obtain ⟨u,w',rfl,⟨t',rfl⟩,⟨t'',rfl⟩⟩:=kA r2
  obtain ⟨t,rfl⟩:=r1
  refine max_three_ints (I.ok.hd hc) fun h' tk kp=>⟨_,H,I.kept kp,?_,q⟩
  by_cases h1:j > i
  ·rw [if_pos h1]
   by_cases h2:k > j
   ·rw [if_pos h2,show max i (max j k)=k by omega]; exact⟨_,rfl⟩
   ·rw [if_neg h2,show max i (max j k)=j by omega]; exact⟨_,rfl⟩
  ·rw [if_neg h1]
   by_cases h2:k > i
   ·rw [if_pos h2,show max i (max j k)=k by omega]; exact⟨_,rfl⟩
   ·rw [if_neg h2,show max i (max j k)=i by omega]; exact⟨_,rfl⟩
end
end L2
namespace PP
open PySem L2
section
variable {X : Cx} {a b c e : Expr} {ta tb te : aE} {tr : cK} {pos p2 : Pos} {σ : St} {H : Hp} {D : dM}
theorem Reps.three {K:PySem.W.Frag}{M:Addr->Prop}{H:Hp}{vs:List V}{x y z:PV} (r:Reps K M H vs [x,y,z]):∃ v w u,vs = [v,w,u]/\aA K M H v x/\aA K M H w y/\aA K M H u z:=by
 cases r with
 | cons r t=>
  obtain ⟨w,u,rfl,q1,q2⟩:=t.two
  exact⟨_,_,_,rfl,r,q1,q2⟩
noncomputable def wJ:List PV->(PV->Prop)->Prop:=fun xs Q=>∃ i j k:Int,xs = [.int i,.int j,.int k]/\Q (.int (max i (max j k)))
theorem aI7:eO X wJ (fun xs H Q=>∃ i j k,xs = [.int i,.int j,.int k]/\Q (.int (max i (max j k))) H):=by
 rintro H vs xs Q Q' r ⟨i,j,k,rfl,q⟩ kk
 obtain ⟨v,w,u,rfl,r1,r2,r3⟩:=r.three
 cases r1; cases r2; cases r3
 exact⟨i,j,k,rfl,kk _ _ _ (aD.refl _) (.int _) q⟩
theorem aI8 (B:Bt X.mg) (hc:X.calm=true) (ha:QA X [a,b,c] tr) (hg:Gl X "max":=by rfl) (he:starEach [a,b,c] X.env=(false,eval a X.env) :: starEach [b,c] X.env:=by rfl) (hpl:(backTo pos (starEach [b,c] X.env)).any (·.1)=false:=by rfl):QE X (.Call (.Name "max" p2) [a,b,c] [] pos) (aI wJ tr):=
 iM (aI6 hc) aI7 hg B.max PyProof.Rows.boot_max ha (he:=he) (hpl:=hpl)
noncomputable def wK:List PV->(PV->Prop)->Prop:=fun xs Q=>∃ ns ms:List Int,xs = [.tup (intz ns),.tup (intz ms)]/\Q (.tup (intz (if HT.aL ms ns=true then ms else ns)))
noncomputable def wL:List PV->(PV->Prop)->Prop:=fun xs Q=>∃ ns ms:List Int,xs = [.tup (intz ns),.tup (intz ms)]/\Q (.tup (intz (if HT.aL ns ms=true then ms else ns)))
theorem aI9:eO X wK (fun xs H Q=>∃ a b ns ms,xs = [.ref a,.ref b]/\H a=some (.tup (ns.map V.int))/\H b=some (.tup (ms.map V.int))/\Q (if HT.aL ms ns=true then .ref b else .ref a) H):=by
 rintro H vs xs Q Q' r ⟨ns,ms,rfl,q⟩ k
 obtain ⟨v,w,rfl,r1,r2⟩:=r.two
 obtain ⟨p,us,rfl,h1,q1⟩:=r1.sqT
 obtain ⟨p',us',rfl,h2,q2⟩:=r2.sqT
 obtain rfl:=q1.ofInts
 obtain rfl:=q2.ofInts
 refine⟨p,p',ns,ms,rfl,h1,h2,k _ _ _ (aD.refl _) ?_ q⟩
 split
 ·exact .tup h2 (Reps.intz _)
 ·exact .tup h1 (Reps.intz _)
theorem aJ0:eO X wL (fun xs H Q=>∃ a b ns ms,xs = [.ref a,.ref b]/\H a=some (.tup (ns.map V.int))/\H b=some (.tup (ms.map V.int))/\Q (if HT.aL ns ms=true then .ref b else .ref a) H):=by
 rintro H vs xs Q Q' r ⟨ns,ms,rfl,q⟩ k
 obtain ⟨v,w,rfl,r1,r2⟩:=r.two
 obtain ⟨p,us,rfl,h1,q1⟩:=r1.sqT
 obtain ⟨p',us',rfl,h2,q2⟩:=r2.sqT
 obtain rfl:=q1.ofInts
 obtain rfl:=q2.ofInts
 refine⟨p,p',ns,ms,rfl,h1,h2,k _ _ _ (aD.refl _) ?_ q⟩
 split
 ·exact .tup h2 (Reps.intz _)
 ·exact .tup h1 (Reps.intz _)
theorem aJ1 (B:Bt X.mg) (hc:X.calm=true) (hu:X.A.units+3 < cLine) (ha:QA X [a,b] tr) (hg:Gl X "min":=by rfl) (he:starEach [a,b] X.env=(false,eval a X.env) :: starEach [b] X.env:=by rfl) (hpl:(backTo pos (starEach [b] X.env)).any (·.1)=false:=by rfl):QE X (.Call (.Name "min" p2) [a,b] [] pos) (aI wK tr):=
 iM (aI4 hc hu) aI9 hg B.min PyProof.Rows.boot_min ha (he:=he) (hpl:=hpl)
theorem aJ2 (B:Bt X.mg) (hc:X.calm=true) (hu:X.A.units+3 < cLine) (ha:QA X [a,b] tr) (hg:Gl X "max":=by rfl) (he:starEach [a,b] X.env=(false,eval a X.env) :: starEach [b] X.env:=by rfl) (hpl:(backTo pos (starEach [b] X.env)).any (·.1)=false:=by rfl):QE X (.Call (.Name "max" p2) [a,b] [] pos) (aI wL tr):=
 iM (aI5 hc hu) aJ0 hg B.max PyProof.Rows.boot_max ha (he:=he) (hpl:=hpl)
end
end PP
namespace HT
open PySem PyProof.Rows
section
open PySem.SeqAt
open PySem.MeetsSeq PySem.MeetsSeq2 PySem.MeetsSeq3
theorem aJ3 (l:Addr) (items:Array Value) (n:Nat) (x:Value) (e:Value->Bool) (j:Nat) (hj:j < items.size) (hit:e items[j]=true) (hs1:items.size<=sizeLine) (k:Nat) :
  ∀ i:Nat,j - i=k->i<=j->(∀ m (hm:m < items.size),i<=m->m < j->e items[m]=false)->Meets (Builtin.«list.remove.loop» ⟨[.ref l,x,rawInt i],[]⟩)
   (fun A R s=>s.heap.get? l=some (seqObj "list" items n)/\(∀ y,y ∈ items->EqAt A.in1 s y x (e y))/\R (.ok (.ret .none)) { s with heap:=s.heap.update l (Obj.mapSeq fun xs=>xs.eraseIdxIfInBounds j) }):=by
 have fits:∀ i,(items.eraseIdxIfInBounds i).size<=sizeLine+1:=fun i=>aZ8 (size_erased items _) (Nat.le_succ_of_le hs1)
 induction k with
 | zero=>
  intro i hk hij hno prog w A R s h
  obtain ⟨hp,g,d,tk,os⟩:=s
  obtain ⟨hl,he,h⟩:=h
  obtain rfl:i=j:=by omega
  have hl':hp.get? l=some { cls:=.type "list",dict:=none,data:=.seq items n,slots:=#[] }:=hl
  wp_walk using bf6 hl'
  rw [show items[((i:Nat):Int).toNat]? = some items[i] by simp [hj]]
  refine aW2 (he _ (ba9 hj) prog w _ _ ?_)
  rw [hit]
  wp_walk using (bk6 hl' rfl (hz:=hs1) (_hz':=fits i)),bf6 hl'
  simpa using h
 | succ k ih=>
  intro i hk hij hno prog w A R s h
  obtain ⟨hp,g,d,tk,os⟩:=s
  obtain ⟨hl,he,h⟩:=h
  have hlt:i < items.size:=by omega
  have hl':hp.get? l=some { cls:=.type "list",dict:=none,data:=.seq items n,slots:=#[] }:=hl
  wp_walk using bf6 hl'
  rw [show items[((i:Nat):Int).toNat]? = some items[i] by simp [hlt]]
  refine aW2 (he _ (ba9 hlt) prog w _ _ ?_)
  rw [hno i hlt (aX5 _) (by omega)]
  wp_walk
  rw [show ((i:Int)+1)=((i+1:Nat):Int) by omega]
  refine⟨bh4 plain_remove_loop _,bg9 entry_remove_loop ?_⟩
  rw [bd4 plain_remove_loop _]
  exact ih (i+1) (by omega) (by omega) (fun m hm h1 h2=>hno m hm (by omega) h2) prog w A R _ ⟨hl,he,h⟩
theorem aJ4 (l:Addr) (items:Array Value) (n:Nat) (x:Value) (e:Value->Bool) (j:Nat) (hj:j < items.size) (hit:e items[j]=true) (hno:∀ m (hm:m < items.size),m < j->e items[m]=false) (hs1:items.size<=sizeLine) :
  Meets (Builtin.«list.remove» ⟨[.ref l,x],[]⟩)
   (fun A R s=>s.heap.get? l=some (seqObj "list" items n)/\(∀ y,y ∈ items->EqAt A.in1 s y x (e y))/\R (.ok (.ret .none)) { s with heap:=s.heap.update l (Obj.mapSeq fun xs=>xs.eraseIdxIfInBounds j) }):=by
 intro prog w A R s h
 obtain ⟨hp,g,d,tk,os⟩:=s
 obtain ⟨hl,he,h⟩:=h
 have hl':hp.get? l=some { cls:=.type "list",dict:=none,data:=.seq items n,slots:=#[] }:=hl
 wp_walk using bf6 hl'
 refine⟨bh4 plain_remove_loop _,bg9 entry_remove_loop ?_⟩
 rw [bd4 plain_remove_loop _]
 exact aJ3 l items n x e j hj hit hs1 _ 0 rfl (bf0 _) (fun m hm _ h2=>hno m hm h2) prog w A R _ ⟨hl,he,h⟩
end
end HT
namespace PP
open PySem L2
section
variable {X : Cx} {σ : St} {H : Hp} {D : dM} {te : aE} {e : Expr} {pos : Pos}
noncomputable def S6 (K:PySem.W.Frag):V->List V->Hp->VK->Prop:=fun x vs H Q=>∃ (p:Addr) (us:List V) (w:V) (ns:List Int) (rs:List (List Int)) (j:Nat),x = .ref p/\vs = [w]/\H p=some (.lst us)/\aA K (fun _=>True) H w (.tup (intz ns))/\Reps K (fun _=>True) H us (rs.map fun r=>PV.tup (intz r))/\rs[j]? = some ns/\(∀ k,k < j->rs[k]? ≠ some ns)/\us.length < 16000000/\Q .non (upd H p (.lst (us.eraseIdx j)))
theorem S7:∀ (j:Nat) {us:List V}{its:List Value},aQ us its->aQ (us.eraseIdx j) (its.eraseIdx j)
 | _,_,_,.nil=>.nil
 | 0,_,_,.cons _ t=>t
 | j+1,_,_,.cons r t=>.cons r (S7 j t)
theorem aJ5 (hu:X.A.units+3 < cLine):zF X "list.remove" (S6 X.K):=by
 intro pins s σ H x vs v us Q I rx rv h
 obtain ⟨p,ws,w,ns,rs,j,rfl,rfl,hp,rn,rr,hj,hno,hl,q⟩:=h
 cases rx
 obtain ⟨u,rfl,ru⟩:=hG rv
 obtain ⟨z,its,n,r,hl2,e⟩:=I.lstM hp
 have lr:=r.length
 have lp:=rr.length
 rw [aW5] at lp
 have jl:=(aX7.mp hj).1
 have hsz:sizeLine=16777216:=sizeLine_eq
 obtain ⟨f,key⟩:=O4 (A:=X.A.in1) (by show X.A.units+1+2 < cLine; omega) I ru r rn rr
 have jz:j < its.toArray.size:=by rw [aY2]; omega
 refine call_meets PySem.F.slot_list_remove ⟨_,e,rfl⟩ PySem.F.entry_list_remove (PySem.F.args_list_remove_2 _ _) (HT.aJ4 p its.toArray n u f j jz ?_ ?_ (by rw [aY2]; omega)) ⟨e,fun y hy=>?_,.non,_,I.lset (its':=its.eraseIdx j) hp e ?_ (S7 j r) ?_,rfl,q⟩
 ·obtain ⟨m,hm,_,h2⟩:=key j its[j] (aY1 (by omega))
  rw [hj] at hm
  cases hm
  show f its[j]=true
  rw [h2]; exact aX2 rfl
 ·intro k hk hlt
  rw [aY2] at hk
  obtain ⟨m,hm,_,h2⟩:=key k its[k] (aY1 hk)
  show f its[k]=false
  rw [h2]
  exact aW6 fun z=>hno k hlt (by rw [hm,z])
 ·have hy:y ∈ its:=by simpa using hy
  obtain ⟨k,hk⟩:=bi8 hy
  obtain ⟨m,_,h1,_⟩:=key k y hk
  exact h1
 ·simp [Array.eraseIdxIfInBounds,jz]
  omega
 ·have:=List.length_eraseIdx_le ws j
  omega
noncomputable def wM (i:Nat) (te:aE):aO:=fun D ρ=>∃ rs:List (List Int),ρ[i]? = some (some (.own (.lst (rs.map fun r=>PV.tup (intz r)))))/\te ρ fun y _=>∃ (ns:List Int) (j:Nat),y = .tup (intz ns)/\rs[j]? = some ns/\(∀ k,k < j->rs[k]? ≠ some ns)/\rs.length < 16000000/\D.nx (ρ.set i (some (.own (.lst ((rs.eraseIdx j).map fun r=>PV.tup (intz r))))))
theorem aJ6 {i:Nat} (h:LS X (wM i te) D σ H):mX (tE X.K "list" (S6 X.K) (fH i) (jG (LE X te) kB)) D σ H:=by
 obtain ⟨W,ρ,D',px,⟨rs,hi,q⟩,k⟩:=h
 obtain ⟨v,ev,a,rfl,wa,us,ea,r⟩:=px.sl i _ hi
 have lr:=r.length
 rw [aW5] at lr
 refine⟨_,ev,A6 (aU.of ea),W,ρ,_,px,q,?_⟩
 rintro w H1 y g s ry ⟨ns,j,rfl,hj,hno,hl,q⟩
 have ea2:=s _ _ ea
 refine⟨a,us,w,ns,rs,j,rfl,rfl,ea2,ry.same (aD.refl _) (fun _ _=>trivial),r.same s (fun _ _=>trivial),hj,hno,by omega,?_⟩
 refine k.nx W σ _ _ ((Ev.same s).trans (Ev.upd wa)) ((px.mono s).updL hi ev wa ?_) q
 have r2:=(r.same (M':=Ms X.H₀ W true) s fun _ z=>z).eraseIdx j
 rw [<- Raw.jA] at r2
 exact r2.keep (.upd ea2 rfl fun b m=>⟨nI wa m,m⟩)
theorem aJ7 (i:Nat) {x:Str}{apos cpos xpos:Pos} (hu:X.A.units+3 < cLine) (he:QE X e te) (hN:X.N[i]? = some x:=by rfl) (hv:iE X.env.scope x:=by first | exact Or.inl rfl | exact Or.inr (Or.inl rfl) | exact Or.inr (Or.inr rfl)) (hd:(x == ("__debug__" : Str))=false:=by decide) (hcd:(x == ("__classdict__" : Str))=false:=by decide)
  (hbase:attributeBase (.Name x xpos) "remove" X.env (eval (.Name x xpos) X.env)=eval (.Name x xpos) X.env:=by rfl)
  (hfew:((backTo cpos (starEach [e] X.env)).all (fun x=>!x.1) && (backToKw cpos (keywordEach [] X.env)).all (fun x=>x.1.isSome) && decide (([e]:List Expr).length+([]:List Keyword).length+(if ([]:List Keyword).isEmpty then 0 else 1) < 30))=true:=by rfl)
  (hline:(apos.endLine == cpos.line)=true:=by rfl) (hs:starEach [e] X.env=(false,eval e X.env) :: starEach [] X.env:=by rfl) (hplain:(backTo cpos (starEach [] X.env)).any (·.1)=false:=by rfl)
  (hsw:swapsWith (.Call (.Attribute (.Name x xpos) "remove" apos) [e] [] cpos) none pos.line X.env=pure false:=by rfl) :
  QS X (.Expr (.Call (.Attribute (.Name x xpos) "remove" apos) [e] [] cpos) pos) (wM i te):=
 eU (oU (zE PySem.F.plainAttrs_list PySem.F.slot_list_remove PySem.F.type_list_remove (aJ5 hu) (k8 hN hv hd hcd) (iU he kC hs) hbase hfew hline hs hplain) hsw) fun _ _ _=>aJ6
noncomputable def sB (i j k l:Nat):eR:=fun x g ρ Q=>∃ y z u w,x = .tup [y,z,u,w]/\Q ((((ρ.set i (some (.sh (g || flat y) y))).set j (some (.sh (g || flat z) z))).set k (some (.sh (g || flat u) u))).set l (some (.sh (g || flat w) w)))
noncomputable abbrev S8 (K:PySem.W.Frag) (i j k l:Nat):TG:=lK K 4 (fZ (cR i) (fZ (cR j) (fZ (cR k) (fZ (cR l) lJ))))
theorem Reps.four {K:PySem.W.Frag}{M:Addr->Prop}{H:Hp}{vs:List V}{x y z u:PV} (r:Reps K M H vs [x,y,z,u]):∃ v1 v2 v3 v4,vs = [v1,v2,v3,v4]/\aA K M H v1 x/\aA K M H v2 y/\aA K M H v3 z/\aA K M H v4 u:=by
 cases r with
 | cons r t=>
  obtain ⟨v,w,u,rfl,q1,q2,q3⟩:=t.three
  exact⟨_,_,_,_,rfl,r,q1,q2,q3⟩
theorem aJ8 (K:PySem.W.Frag) (i j k l:Nat):iH K (fun n=>n=i ∨ n=j ∨ n=k ∨ n=l) (sB i j k l) (S8 K i j k l):=by
 intro H0 W σ ρ H v x g Q Q' px r q kk
 obtain ⟨y,z,u,w,rfl,q⟩:=q
 obtain ⟨a,us,rfl,h,r⟩:=r.sqT
 obtain ⟨u1,u2,u3,u4,rfl,r1,r2,r3,r4⟩:=r.four
 refine⟨a,_,rfl,aR.of h,rfl,u1,_,rfl,u2,_,rfl,u3,_,rfl,u4,_,rfl,rfl,kk _ _ ((((px.setSh (jP r1)).setSh (jP r2)).setSh (jP r3)).setSh (jP r4)) (fun n hn=>?_) (by simp only [bf9]) q⟩
 rw [aZ4 (fun e=>hn (.inr (.inr (.inr e.symm)))),aZ4 (fun e=>hn (.inr (.inr (.inl e.symm)))),aZ4 (fun e=>hn (.inr (.inl e.symm))),aZ4 (fun e=>hn (.inl e.symm))]
structure Nm (X:Cx) (i:Nat) (x:Str):Prop where
 a:X.N[i]? = some x
 b:fG X.env.scope x
 c:X.fn x=true ∨ X.env.scope.names.lookup x=some .local
theorem aJ9 {x y z u:Str}{tp xp yp zp up:Pos}{kt i j k l:Nat} (hN:X.N.Nodup) (hc:X.calm=true) (n1:Nm X i x) (n2:Nm X j y) (n3:Nm X k z) (n4:Nm X l u):PG X (.Tuple [.Name x xp,.Name y yp,.Name z zp,.Name u up] kt tp) (S8 X.K i j k l):=
 mZ hc (gJ (fJ hN n1.a n1.b n1.c) (gJ (fJ hN n2.a n2.b n2.c) (gJ (fJ hN n3.a n3.b n3.c) (gJ (fJ hN n4.a n4.b n4.c) mY))))
theorem aK0 (i j k l:Nat) {x y z u:Str}{tp xp yp zp up:Pos}{kt:Nat}{body:List Stmt}{ti:eQ}{t:aO} (hN:X.N.Nodup) (hi:QI X (.Tuple [.Name x xp,.Name y yp,.Name z zp,.Name u up] kt tp) e ti) (hb:dW X body t)
  (n1:Nm X i x:=by exact⟨rfl,by first | exact Or.inl rfl | exact Or.inr rfl,by first | exact .inl rfl | exact .inr rfl⟩) (n2:Nm X j y:=by exact⟨rfl,by first | exact Or.inl rfl | exact Or.inr rfl,by first | exact .inl rfl | exact .inr rfl⟩)
  (n3:Nm X k z:=by exact⟨rfl,by first | exact Or.inl rfl | exact Or.inr rfl,by first | exact .inl rfl | exact .inr rfl⟩) (n4:Nm X l u:=by exact⟨rfl,by first | exact Or.inl rfl | exact Or.inr rfl,by first | exact .inl rfl | exact .inr rfl⟩)
  (hp:PassesOwn (model X.prog X.w) X.A X.env X.xe:=by exact PassesOwn.never) (hc:X.calm=true:=by rfl) (hs:∀ x,foldedSetIterable e X.env x=pure x:=by intro _; rfl) :
  QS X (.For (.Tuple [.Name x xp,.Name y yp,.Name z zp,.Name u up] kt tp) e body [] pos) (dU ti (sB i j k l) t):=
 uR hp hc hi (aJ9 hN hc n1 n2 n3 n4) (aJ8 _ i j k l) hb hs
end
end PP
namespace Core
open PySem L2 PP
structure Bx where
 t:Int
 l:Int
 b:Int
 r:Int
deriving DecidableEq
noncomputable def Bx.k (x:Bx):List Int:=[x.t,x.l,x.b,x.r]
theorem Bx.k_inj {x y:Bx} (h:x.k=y.k):x=y:=by
 obtain ⟨a,b,c,d⟩:=x
 obtain ⟨a',b',c',d'⟩:=y
 unfold Bx.k at h
 simp only [List.cons.injEq,and_true] at h
 obtain ⟨rfl,rfl,rfl,rfl⟩:=h
 rfl
noncomputable def jY (s e s' e':Int):Int:=max 0 (max (s' - e) (s - e'))
noncomputable def bI (x y:Bx):Bool:=decide (jY x.t x.b y.t y.b+jY x.l x.r y.l y.r<=2)
noncomputable def bP (x y:Bx):Bx:=⟨min x.t y.t,min x.l y.l,max x.b y.b,max x.r y.r⟩
noncomputable def okX (x:Bx):Prop:=x.t<=x.b/\x.l<=x.r
noncomputable def aY (x:Bx) (p:Int × Int):Prop:=x.t<=p.1/\p.1<=x.b/\x.l<=p.2/\p.2<=x.r
noncomputable def bA (x y:Bx):Prop:=y.t<=x.t/\y.l<=x.l/\x.b<=y.b/\x.r<=y.r
noncomputable def cX (p:Int × Int):Bx:=⟨p.1,p.2,p.1,p.2⟩
noncomputable def eF (x a:Int × Int):Prop:=(a.1=x.1/\(a.2=x.2 - 1 ∨ a.2=x.2+1)) ∨ (a.2=x.2/\(a.1=x.1 - 1 ∨ a.1=x.1+1))
theorem iP {a b:Int × Int} (h:a.1 ≠ b.1 ∨ a.2 ≠ b.2):a ≠ b:=fun e=>by subst e; exact h.elim (fun z=>z rfl) fun z=>z rfl
theorem S9 (s e s' e':Int):0<=jY s e s' e'/\s' - e<=jY s e s' e'/\s - e'<=jY s e s' e':=
 ⟨Int.le_max_left ..,bb6 (Int.le_max_left ..) (Int.le_max_right ..),bb6 (Int.le_max_right ..) (Int.le_max_right ..)⟩
theorem T0 {s e s' e' g:Int} (h0:0<=g) (h1:s' - e<=g) (h2:s - e'<=g):jY s e s' e'<=g:=Int.max_le.mpr ⟨h0,Int.max_le.mpr ⟨h1,h2⟩⟩
theorem T2 {x y:Bx} (h:bI x y=true):∃ g h:Int,0<=g/\0<=h/\g+h<=2/\y.t - x.b<=g/\x.t - y.b<=g/\y.l - x.r<=h/\x.l - y.r<=h:=
 have a:=S9 x.t x.b y.t y.b
 have b:=S9 x.l x.r y.l y.r
 ⟨_,_,a.1,b.1,bd3 h,a.2.1,a.2.2,b.2.1,b.2.2⟩
theorem oD {x y:Bx}{g h:Int} (g0:0<=g) (h0:0<=h) (gh:g+h<=2) (a1:y.t - x.b<=g) (a2:x.t - y.b<=g) (b1:y.l - x.r<=h) (b2:x.l - y.r<=h):bI x y=true:=
 aX2 (bb6 (Int.add_le_add (T0 g0 a1 a2) (T0 h0 b1 b2)) gh)
theorem wN (x y:Bx):bI x y=bI y x:=by
 have go:∀ x y:Bx,bI x y=true->bI y x=true:=fun x y h=>by
  obtain ⟨g,h,g0,h0,gh,a1,a2,b1,b2⟩:=T2 h
  exact oD g0 h0 gh a2 a1 b2 b1
 exact bc9.mpr ⟨go x y,go y x⟩
theorem T3 {x y:Bx}{p:Int × Int} (h1:aY x p) (h2:aY y p):bI x y=true:=
 oD (g:=0) (h:=0) (aW8 _) (aW8 _) (by decide) (Int.sub_nonpos_of_le (bb6 h2.1 h1.2.1)) (Int.sub_nonpos_of_le (bb6 h1.1 h2.2.1)) (Int.sub_nonpos_of_le (bb6 h2.2.2.1 h1.2.2.2)) (Int.sub_nonpos_of_le (bb6 h1.2.2.1 h2.2.2.2))
theorem sD (x y:Bx):bA x (bP x y):=⟨Int.min_le_left ..,Int.min_le_left ..,Int.le_max_left ..,Int.le_max_left ..⟩
theorem wO (x y:Bx):bA y (bP x y):=⟨Int.min_le_right ..,Int.min_le_right ..,Int.le_max_right ..,Int.le_max_right ..⟩
theorem aK1 {x y z:Bx} (h:bA x z) (h':bA y z):bA (bP x y) z:=⟨Int.le_min.mpr ⟨h.1,h'.1⟩,Int.le_min.mpr ⟨h.2.1,h'.2.1⟩,Int.max_le.mpr ⟨h.2.2.1,h'.2.2.1⟩,Int.max_le.mpr ⟨h.2.2.2,h'.2.2.2⟩⟩
theorem bA.in_ {x y:Bx} (s:bA x y) {p:Int × Int} (h:aY x p):aY y p:=⟨bb6 s.1 h.1,bb6 h.2.1 s.2.2.1,bb6 s.2.1 h.2.2.1,bb6 h.2.2.2 s.2.2.2⟩
theorem bA.refl (x:Bx):bA x x:=⟨aW8 _,aW8 _,aW8 _,aW8 _⟩
theorem bA.trans {x y z:Bx} (h:bA x y) (h':bA y z):bA x z:=⟨bb6 h'.1 h.1,bb6 h'.2.1 h.2.1,bb6 h.2.2.1 h'.2.2.1,bb6 h.2.2.2 h'.2.2.2⟩
theorem aK2 {x y:Bx} (h:okX x):okX (bP x y):=
 have s:=sD x y
 ⟨bb6 s.1 (bb6 h.1 s.2.2.1),bb6 s.2.1 (bb6 h.2 s.2.2.2)⟩
theorem aK3 (x y:Bx):bP x y=bP y x:=by unfold bP; rw [Int.min_comm x.t,Int.min_comm x.l,Int.max_comm x.b,Int.max_comm x.r]
theorem aK4 {x y:Bx}{p:Int × Int} (h:aY x p):aY (bP x y) p:=(sD x y).in_ h
theorem wP {x y:Bx}{p:Int × Int} (h:aY y p):aY (bP x y) p:=(wO x y).in_ h
noncomputable def fE (B:Bx) (U:Int × Int->Prop):Prop:=∀ x a b,aY B x->eF x a->eF x b->a ≠ b->U a->U b->U x
noncomputable def cV (U:Int × Int->Prop) (x:Bx):Prop:=∀ p,aY x p->U p
theorem aK5 {U:Int × Int->Prop}{x y:Bx} (f:cV U y) (s:bA x y):cV U x:=fun p h=>f p (s.in_ h)
section
variable {B : Bx} {U : Int × Int → Prop}
theorem aK6 (cl:fE B U) {y y' l r c0:Int} (hy:y'=y - 1 ∨ y'=y+1) (bd:∀ c,l<=c->c<=r->aY B (y,c)) (f:∀ c,l<=c->c<=r->U (y',c)) (h0:l<=c0/\c0<=r) (u0:U (y,c0)):∀ (n:Nat) (c:Int),l<=c->c<=r->(c - c0).natAbs=n->U (y,c):=by
 have ny:y ≠ y':=by omega
 intro n
 induction n with
 | zero=>intro c h1 h2 h3; rw [show c=c0 by omega]; exact u0
 | succ n ih=>
  intro c h1 h2 h3
  have go:∀ d:Int,(d=c - 1 ∨ d=c+1)->l<=d->d<=r->(d - c0).natAbs=n->U (y,c):=fun d hd g1 g2 g3=>
   cl (y,c) (y,d) (y',c) (bd c h1 h2) (.inl ⟨rfl,hd⟩) (.inr ⟨rfl,hy⟩) (iP (.inl ny)) (ih d g1 g2 g3) (f c h1 h2)
  by_cases g:c0 < c
  ·exact go (c - 1) (.inl rfl) (by omega) (by omega) (by omega)
  ·exact go (c+1) (.inr rfl) (by omega) (by omega) (by omega)
theorem aK7 (cl:fE B U) {y y' l r c0:Int} (hy:y'=y - 1 ∨ y'=y+1) (bd:∀ c,l<=c->c<=r->aY B (c,y)) (f:∀ c,l<=c->c<=r->U (c,y')) (h0:l<=c0/\c0<=r) (u0:U (c0,y)):∀ (n:Nat) (c:Int),l<=c->c<=r->(c - c0).natAbs=n->U (c,y):=by
 have ny:y ≠ y':=by omega
 intro n
 induction n with
 | zero=>intro c h1 h2 h3; rw [show c=c0 by omega]; exact u0
 | succ n ih=>
  intro c h1 h2 h3
  have go:∀ d:Int,(d=c - 1 ∨ d=c+1)->l<=d->d<=r->(d - c0).natAbs=n->U (c,y):=fun d hd g1 g2 g3=>
   cl (c,y) (d,y) (c,y') (bd c h1 h2) (.inr ⟨rfl,hd⟩) (.inl ⟨rfl,hy⟩) (iP (.inr ny)) (ih d g1 g2 g3) (f c h1 h2)
  by_cases g:c0 < c
  ·exact go (c - 1) (.inl rfl) (by omega) (by omega) (by omega)
  ·exact go (c+1) (.inr rfl) (by omega) (by omega) (by omega)
variable {t l b r : Int}
theorem T4 (cl:fE B U) (f:cV U ⟨t,l,b,r⟩) {y y' c0:Int} (hy:y'=y - 1 ∨ y'=y+1) (h1:t<=y'/\y'<=b) (u:U (y,c0)) (h2:l<=c0/\c0<=r) {R:Bx} (s:bA R B) (hl:R.l=l) (hr:R.r=r) (iy:R.t<=y/\y<=R.b) (old:∀ q:Int × Int,aY R q->q.1 ≠ y->t<=q.1/\q.1<=b):cV U R:=by
 intro q hq
 have a3:l<=q.2:=hl ▸ hq.2.2.1
 have a4:q.2<=r:=hr ▸ hq.2.2.2
 by_cases e:q.1=y
 ·have:=aK6 cl hy (fun c g1 g2=>s.in_ ⟨iy.1,iy.2,hl.symm ▸ g1,hr.symm ▸ g2⟩) (fun c g1 g2=>f (y',c) ⟨h1.1,h1.2,g1,g2⟩) h2 u _ q.2 a3 a4 rfl
  rw [show q=(y,q.2) from bj7 e rfl]; exact this
 ·have o:=old q hq e
  exact f q ⟨o.1,o.2,a3,a4⟩
theorem T5 (cl:fE B U) (f:cV U ⟨t,l,b,r⟩) {y y' c0:Int} (hy:y'=y - 1 ∨ y'=y+1) (h1:l<=y'/\y'<=r) (u:U (c0,y)) (h2:t<=c0/\c0<=b) {R:Bx} (s:bA R B) (ht:R.t=t) (hb:R.b=b) (iy:R.l<=y/\y<=R.r) (old:∀ q:Int × Int,aY R q->q.2 ≠ y->l<=q.2/\q.2<=r):cV U R:=by
 intro q hq
 have a3:t<=q.1:=ht ▸ hq.1
 have a4:q.1<=b:=hb ▸ hq.2.1
 by_cases e:q.2=y
 ·have:=aK7 cl hy (fun c g1 g2=>s.in_ ⟨ht.symm ▸ g1,hb.symm ▸ g2,iy.1,iy.2⟩) (fun c g1 g2=>f (c,y') ⟨g1,g2,h1.1,h1.2⟩) h2 u _ q.1 a3 a4 rfl
  rw [show q=(q.1,y) from bj7 rfl e]; exact this
 ·have o:=old q hq e
  exact f q ⟨a3,a4,o.1,o.2⟩
theorem sE (cl:fE B U) (f:cV U ⟨t,l,b,r⟩) (tb:t<=b) {c0:Int} (u:U (b+1,c0)) (h2:l<=c0/\c0<=r) (s:bA ⟨t,l,b+1,r⟩ B):cV U ⟨t,l,b+1,r⟩:=
 T4 cl f (y:=b+1) (y':=b) (.inl (by omega)) ⟨tb,aW8 _⟩ u h2 s rfl rfl ⟨by show t<=b+1; omega,aW8 _⟩ fun q hq ne=>⟨hq.1,by have:q.1<=b+1:=hq.2.1; omega⟩
theorem sF (cl:fE B U) (f:cV U ⟨t,l,b,r⟩) (tb:t<=b) {c0:Int} (u:U (t - 1,c0)) (h2:l<=c0/\c0<=r) (s:bA ⟨t - 1,l,b,r⟩ B):cV U ⟨t - 1,l,b,r⟩:=
 T4 cl f (y:=t - 1) (y':=t) (.inr (by omega)) ⟨aW8 _,tb⟩ u h2 s rfl rfl ⟨aW8 _,by show t - 1<=b; omega⟩ fun q hq ne=>⟨by have:t - 1<=q.1:=hq.1; omega,hq.2.1⟩
theorem wQ (cl:fE B U) (f:cV U ⟨t,l,b,r⟩) (lr:l<=r) {c0:Int} (u:U (c0,r+1)) (h2:t<=c0/\c0<=b) (s:bA ⟨t,l,b,r+1⟩ B):cV U ⟨t,l,b,r+1⟩:=
 T5 cl f (y:=r+1) (y':=r) (.inl (by omega)) ⟨lr,aW8 _⟩ u h2 s rfl rfl ⟨by show l<=r+1; omega,aW8 _⟩ fun q hq ne=>⟨hq.2.2.1,by have:q.2<=r+1:=hq.2.2.2; omega⟩
theorem wR (cl:fE B U) (f:cV U ⟨t,l,b,r⟩) (lr:l<=r) {c0:Int} (u:U (c0,l - 1)) (h2:t<=c0/\c0<=b) (s:bA ⟨t,l - 1,b,r⟩ B):cV U ⟨t,l - 1,b,r⟩:=
 T5 cl f (y:=l - 1) (y':=l) (.inr (by omega)) ⟨aW8 _,lr⟩ u h2 s rfl rfl ⟨aW8 _,by show l - 1<=r; omega⟩ fun q hq ne=>⟨by have:l - 1<=q.2:=hq.2.2.1; omega,hq.2.2.2⟩
noncomputable def jE (B:Bx) (U:Int × Int->Prop) (R:Bx) (p:Int × Int):Prop:=∃ R',okX R'/\bA R R'/\aY R' p/\bA R' B/\cV U R'
theorem jE.step {R R1:Bx}{p:Int × Int} (s:bA R R1) (h:jE B U R1 p):jE B U R p:=by
 obtain ⟨R',h1,h2,h3,h4,h5⟩:=h
 exact⟨R',h1,s.trans h2,h3,h4,h5⟩
section
variable (cl : fE B U) {p1 p2 : Int} (u : U (p1, p2)) (ip : aY B (p1, p2))
include cl u ip
theorem wS (f:cV U ⟨t,l,b,r⟩) (tb:t<=b) (lr:l<=r) (s:bA ⟨t,l,b,r⟩ B) (h:t<=p1/\p1<=b) (g1:p2 - r<=2) (g2:l - p2<=2):jE B U ⟨t,l,b,r⟩ (p1,p2):=by
 obtain ⟨s1,s2,s3,s4⟩:=s
 obtain ⟨i1,i2,i3,i4⟩:=ip
 dsimp only at *
 by_cases a:p2<=r
 ·by_cases a':l<=p2
  ·exact⟨_,⟨tb,lr⟩,bA.refl _,⟨h.1,h.2,a',a⟩,⟨s1,s2,s3,s4⟩,f⟩
  ·have u1:U (p1,l - 1):=by
    by_cases e:p2=l - 1
    ·rw [<- e]; exact u
    ·exact cl (p1,l - 1) (p1,p2) (p1,l) ⟨i1,i2,by show B.l<=l - 1; omega,by show l - 1<=B.r; omega⟩ (.inl ⟨rfl,.inl (by show p2=l - 1 - 1; omega)⟩) (.inl ⟨rfl,.inr (by show l=l - 1+1; omega)⟩) (iP (.inr (by show p2 ≠ l; omega))) u (f _ ⟨h.1,h.2,aW8 _,lr⟩)
   have f1:=wR cl f lr u1 h ⟨s1,by show B.l<=l - 1; omega,s3,s4⟩
   by_cases e:p2=l - 1
   ·exact⟨⟨t,l - 1,b,r⟩,⟨tb,by show l - 1<=r; omega⟩,⟨aW8 _,by show l - 1<=l; omega,aW8 _,aW8 _⟩,⟨h.1,h.2,by show l - 1<=p2; omega,a⟩,⟨s1,by show B.l<=l - 1; omega,s3,s4⟩,f1⟩
   ·have e2:p2=l - 1 - 1:=by omega
    have f2:=wR cl f1 (by omega) (c0:=p1) (by rw [<- e2]; exact u) h ⟨s1,by show B.l<=l - 1 - 1; omega,s3,s4⟩
    exact⟨⟨t,l - 1 - 1,b,r⟩,⟨tb,by show l - 1 - 1<=r; omega⟩,⟨aW8 _,by show l - 1 - 1<=l; omega,aW8 _,aW8 _⟩,⟨h.1,h.2,by show l - 1 - 1<=p2; omega,a⟩,⟨s1,by show B.l<=l - 1 - 1; omega,s3,s4⟩,f2⟩
 ·have u1:U (p1,r+1):=by
   by_cases e:p2=r+1
   ·rw [<- e]; exact u
   ·exact cl (p1,r+1) (p1,p2) (p1,r) ⟨i1,i2,by show B.l<=r+1; omega,by show r+1<=B.r; omega⟩ (.inl ⟨rfl,.inr (by show p2=r+1+1; omega)⟩) (.inl ⟨rfl,.inl (by show r=r+1 - 1; omega)⟩) (iP (.inr (by show p2 ≠ r; omega))) u (f _ ⟨h.1,h.2,lr,aW8 _⟩)
  have f1:=wQ cl f lr u1 h ⟨s1,s2,s3,by show r+1<=B.r; omega⟩
  by_cases e:p2=r+1
  ·exact⟨⟨t,l,b,r+1⟩,⟨tb,by show l<=r+1; omega⟩,⟨aW8 _,aW8 _,aW8 _,by show r<=r+1; omega⟩,⟨h.1,h.2,by show l<=p2; omega,by show p2<=r+1; omega⟩,⟨s1,s2,s3,by show r+1<=B.r; omega⟩,f1⟩
  ·have e2:p2=r+1+1:=by omega
   have f2:=wQ cl f1 (by omega) (c0:=p1) (by rw [<- e2]; exact u) h ⟨s1,s2,s3,by show r+1+1<=B.r; omega⟩
   exact⟨⟨t,l,b,r+1+1⟩,⟨tb,by show l<=r+1+1; omega⟩,⟨aW8 _,aW8 _,aW8 _,by show r<=r+1+1; omega⟩,⟨h.1,h.2,by show l<=p2; omega,by show p2<=r+1+1; omega⟩,⟨s1,s2,s3,by show r+1+1<=B.r; omega⟩,f2⟩
theorem aK8 (f:cV U ⟨t,l,b,r⟩) (tb:t<=b) (lr:l<=r) (s:bA ⟨t,l,b,r⟩ B) {g h:Int} (g0:0<=g) (h0:0<=h) (gh:g+h<=2) (a1:p1 - b<=g) (a2:t - p1<=g) (b1:p2 - r<=h) (b2:l - p2<=h):jE B U ⟨t,l,b,r⟩ (p1,p2):=by
 by_cases c1:p1<=b
 ·by_cases c2:t<=p1
  ·exact wS cl u ip f tb lr s ⟨c2,c1⟩ (by omega) (by omega)
  ·
   obtain ⟨s1,s2,s3,s4⟩:=s
   obtain ⟨i1,i2,i3,i4⟩:=ip
   dsimp only at *
   have go:∀ c0,U (t - 1,c0)->l<=c0/\c0<=r->p1=t - 1->jE B U ⟨t,l,b,r⟩ (p1,p2):=fun c0 u0 hc e=>
    jE.step (R1:=⟨t - 1,l,b,r⟩) ⟨by show t - 1<=t; omega,aW8 _,aW8 _,aW8 _⟩ (wS cl u ⟨i1,i2,i3,i4⟩ (sF cl f tb u0 hc ⟨by show B.t<=t - 1; omega,s2,s3,s4⟩) (by omega) lr ⟨by show B.t<=t - 1; omega,s2,s3,s4⟩ ⟨by omega,by omega⟩ (by omega) (by omega))
   by_cases e:p1=t - 1
   ·by_cases d1:p2<=r
    ·by_cases d2:l<=p2
     ·exact go p2 (by rw [<- e]; exact u) ⟨d2,d1⟩ e
     ·exact go l (cl (t - 1,l) (p1,p2) (t,l) ⟨by show B.t<=t - 1; omega,by show t - 1<=B.b; omega,s2,by show l<=B.r; omega⟩ (.inl ⟨e,.inl (by show p2=l - 1; omega)⟩) (.inr ⟨rfl,.inr (by show t=t - 1+1; omega)⟩) (iP (.inl (by show p1 ≠ t; omega))) u (f _ ⟨aW8 _,tb,aW8 _,lr⟩)) ⟨aW8 _,lr⟩ e
    ·exact go r (cl (t - 1,r) (p1,p2) (t,r) ⟨by show B.t<=t - 1; omega,by show t - 1<=B.b; omega,by show B.l<=r; omega,s4⟩ (.inl ⟨e,.inr (by show p2=r+1; omega)⟩) (.inr ⟨rfl,.inr (by show t=t - 1+1; omega)⟩) (iP (.inl (by show p1 ≠ t; omega))) u (f _ ⟨aW8 _,tb,lr,aW8 _⟩)) ⟨lr,aW8 _⟩ e
   ·have hc:l<=p2/\p2<=r:=⟨by omega,by omega⟩
    have e2:p1=t - 1 - 1:=by omega
    have u1:U (t - 1,p2):=cl (t - 1,p2) (p1,p2) (t,p2) ⟨by show B.t<=t - 1; omega,by show t - 1<=B.b; omega,i3,i4⟩ (.inr ⟨rfl,.inl e2⟩) (.inr ⟨rfl,.inr (by show t=t - 1+1; omega)⟩) (iP (.inl (by show p1 ≠ t; omega))) u (f _ ⟨aW8 _,tb,hc.1,hc.2⟩)
    have f1:=sF cl f tb u1 hc ⟨by show B.t<=t - 1; omega,s2,s3,s4⟩
    have f2:=sF cl f1 (by omega) (c0:=p2) (by rw [<- e2]; exact u) hc ⟨by show B.t<=t - 1 - 1; omega,s2,s3,s4⟩
    exact⟨⟨t - 1 - 1,l,b,r⟩,⟨by show t - 1 - 1<=b; omega,lr⟩,⟨by show t - 1 - 1<=t; omega,aW8 _,aW8 _,aW8 _⟩,⟨by show t - 1 - 1<=p1; omega,c1,hc.1,hc.2⟩,⟨by show B.t<=t - 1 - 1; omega,s2,s3,s4⟩,f2⟩
 ·
  obtain ⟨s1,s2,s3,s4⟩:=s
  obtain ⟨i1,i2,i3,i4⟩:=ip
  dsimp only at *
  have go:∀ c0,U (b+1,c0)->l<=c0/\c0<=r->p1=b+1->jE B U ⟨t,l,b,r⟩ (p1,p2):=fun c0 u0 hc e=>
   jE.step (R1:=⟨t,l,b+1,r⟩) ⟨aW8 _,aW8 _,by show b<=b+1; omega,aW8 _⟩ (wS cl u ⟨i1,i2,i3,i4⟩ (sE cl f tb u0 hc ⟨s1,s2,by show b+1<=B.b; omega,s4⟩) (by omega) lr ⟨s1,s2,by show b+1<=B.b; omega,s4⟩ ⟨by omega,by omega⟩ (by omega) (by omega))
  by_cases e:p1=b+1
  ·by_cases d1:p2<=r
   ·by_cases d2:l<=p2
    ·exact go p2 (by rw [<- e]; exact u) ⟨d2,d1⟩ e
    ·exact go l (cl (b+1,l) (p1,p2) (b,l) ⟨by show B.t<=b+1; omega,by show b+1<=B.b; omega,s2,by show l<=B.r; omega⟩ (.inl ⟨e,.inl (by show p2=l - 1; omega)⟩) (.inr ⟨rfl,.inl (by show b=b+1 - 1; omega)⟩) (iP (.inl (by show p1 ≠ b; omega))) u (f _ ⟨tb,aW8 _,aW8 _,lr⟩)) ⟨aW8 _,lr⟩ e
   ·exact go r (cl (b+1,r) (p1,p2) (b,r) ⟨by show B.t<=b+1; omega,by show b+1<=B.b; omega,by show B.l<=r; omega,s4⟩ (.inl ⟨e,.inr (by show p2=r+1; omega)⟩) (.inr ⟨rfl,.inl (by show b=b+1 - 1; omega)⟩) (iP (.inl (by show p1 ≠ b; omega))) u (f _ ⟨tb,aW8 _,lr,aW8 _⟩)) ⟨lr,aW8 _⟩ e
  ·have hc:l<=p2/\p2<=r:=⟨by omega,by omega⟩
   have e2:p1=b+1+1:=by omega
   have u1:U (b+1,p2):=cl (b+1,p2) (p1,p2) (b,p2) ⟨by show B.t<=b+1; omega,by show b+1<=B.b; omega,i3,i4⟩ (.inr ⟨rfl,.inr e2⟩) (.inr ⟨rfl,.inl (by show b=b+1 - 1; omega)⟩) (iP (.inl (by show p1 ≠ b; omega))) u (f _ ⟨tb,aW8 _,hc.1,hc.2⟩)
   have f1:=sE cl f tb u1 hc ⟨s1,s2,by show b+1<=B.b; omega,s4⟩
   have f2:=sE cl f1 (by omega) (c0:=p2) (by rw [<- e2]; exact u) hc ⟨s1,s2,by show b+1+1<=B.b; omega,s4⟩
   exact⟨⟨t,l,b+1+1,r⟩,⟨by show t<=b+1+1; omega,lr⟩,⟨aW8 _,aW8 _,by show b<=b+1+1; omega,aW8 _⟩,⟨by show t<=p1; omega,by show p1<=b+1+1; omega,hc.1,hc.2⟩,⟨s1,s2,by show b+1+1<=B.b; omega,s4⟩,f2⟩
end
theorem aK9 (cl:fE B U) {C:Bx} (fC:cV U C) (sC:bA C B) {p:Int × Int} (pC:aY C p):∀ (n:Nat) (t l b r:Int),aY ⟨t,l,b,r⟩ p->cV U ⟨t,l,b,r⟩->bA ⟨t,l,b,r⟩ B->(t - C.t).toNat+(l - C.l).toNat+(C.b - b).toNat+(C.r - r).toNat=n->∃ R,cV U R/\bA ⟨t,l,b,r⟩ R/\bA C R:=by
 obtain ⟨c1,c2,c3,c4⟩:=pC
 obtain ⟨d1,d2,d3,d4⟩:=sC
 intro n
 induction n with
 | zero=>
  intro t l b r pR f s h
  exact⟨_,f,bA.refl _,by show t<=C.t; omega,by show l<=C.l; omega,by show C.b<=b; omega,by show C.r<=r; omega⟩
 | succ n ih=>
  rintro t l b r ⟨a1,a2,a3,a4⟩ f ⟨s1,s2,s3,s4⟩ h
  dsimp only at a1 a2 a3 a4 s1 s2 s3 s4
  have tb:=bb6 a1 a2
  have lr:=bb6 a3 a4
  by_cases h1:C.t < t
  ·have s':bA ⟨t - 1,l,b,r⟩ B:=⟨by show B.t<=t - 1; omega,s2,s3,s4⟩
   have u:=fC (t - 1,p.2) ⟨by show C.t<=t - 1; omega,by show t - 1<=C.b; omega,c3,c4⟩
   obtain ⟨R,g1,g2,g3⟩:=ih (t - 1) l b r ⟨by show t - 1<=p.1; omega,a2,a3,a4⟩ (sF cl f tb u ⟨a3,a4⟩ s') s' (by omega)
   exact⟨R,g1,bA.trans (y:=⟨t - 1,l,b,r⟩) ⟨by show t - 1<=t; omega,aW8 _,aW8 _,aW8 _⟩ g2,g3⟩
  ·by_cases h2:C.l < l
   ·have s':bA ⟨t,l - 1,b,r⟩ B:=⟨s1,by show B.l<=l - 1; omega,s3,s4⟩
    have u:=fC (p.1,l - 1) ⟨c1,c2,by show C.l<=l - 1; omega,by show l - 1<=C.r; omega⟩
    obtain ⟨R,g1,g2,g3⟩:=ih t (l - 1) b r ⟨a1,a2,by show l - 1<=p.2; omega,a4⟩ (wR cl f lr u ⟨a1,a2⟩ s') s' (by omega)
    exact⟨R,g1,bA.trans (y:=⟨t,l - 1,b,r⟩) ⟨aW8 _,by show l - 1<=l; omega,aW8 _,aW8 _⟩ g2,g3⟩
   ·by_cases h3:b < C.b
    ·have s':bA ⟨t,l,b+1,r⟩ B:=⟨s1,s2,by show b+1<=B.b; omega,s4⟩
     have u:=fC (b+1,p.2) ⟨by show C.t<=b+1; omega,by show b+1<=C.b; omega,c3,c4⟩
     obtain ⟨R,g1,g2,g3⟩:=ih t l (b+1) r ⟨a1,by show p.1<=b+1; omega,a3,a4⟩ (sE cl f tb u ⟨a3,a4⟩ s') s' (by omega)
     exact⟨R,g1,bA.trans (y:=⟨t,l,b+1,r⟩) ⟨aW8 _,aW8 _,by show b<=b+1; omega,aW8 _⟩ g2,g3⟩
    ·have h4:r < C.r:=by omega
     have s':bA ⟨t,l,b,r+1⟩ B:=⟨s1,s2,s3,by show r+1<=B.r; omega⟩
     have u:=fC (p.1,r+1) ⟨c1,c2,by show C.l<=r+1; omega,by show r+1<=C.r; omega⟩
     obtain ⟨R,g1,g2,g3⟩:=ih t l b (r+1) ⟨a1,a2,a3,by show p.2<=r+1; omega⟩ (wQ cl f lr u ⟨a1,a2⟩ s') s' (by omega)
     exact⟨R,g1,bA.trans (y:=⟨t,l,b,r+1⟩) ⟨aW8 _,aW8 _,aW8 _,by show r<=r+1; omega⟩ g2,g3⟩
theorem T6 {a b c d g:Int} (ab:a<=b) (cd:c<=d) (g0:0<=g) (h1:c - b<=g) (h2:a - d<=g):∃ p,c<=p/\p<=d/\p - b<=g/\a - p<=g:=by
 by_cases e1:a<=c
 ·exact⟨c,aW8 _,cd,h1,by omega⟩
 ·by_cases e2:a<=d
  ·exact⟨a,by omega,e2,by omega,by omega⟩
  ·exact⟨d,cd,aW8 _,by omega,h2⟩
theorem aL0 {A C:Bx} (okA:okX A) (okC:okX C) (nr:bI A C=true) (cl:fE (bP A C) U) (fA:cV U A) (fC:cV U C):cV U (bP A C):=by
 obtain ⟨g,h,g0,h0,gh,a1,a2,b1,b2⟩:=T2 nr
 obtain ⟨p1,q1,q2,q3,q4⟩:=T6 okA.1 okC.1 g0 a1 a2
 obtain ⟨p2,r1,r2,r3,r4⟩:=T6 okA.2 okC.2 h0 b1 b2
 have pC:aY C (p1,p2):=⟨q1,q2,r1,r2⟩
 obtain ⟨⟨t,l,b,r⟩,k1,k2,k3,k4,k5⟩:=aK8 cl (fC _ pC) (wP pC) (t:=A.t) (l:=A.l) (b:=A.b) (r:=A.r) fA okA.1 okA.2 (sD A C) g0 h0 gh q3 q4 r3 r4
 obtain ⟨R,m1,m2,m3⟩:=aK9 cl fC (wO A C) pC _ t l b r k3 k5 k4 rfl
 exact aK5 m1 (aK1 (bA.trans k2 m2) m3)
end
theorem T7 {x a:Int × Int} (h:eF x a):∃ g k:Int,0<=g/\0<=k/\g+k<=1/\a.1 - x.1<=g/\x.1 - a.1<=g/\a.2 - x.2<=k/\x.2 - a.2<=k:=by
 rcases h with ⟨h1,h2⟩ | ⟨h1,h2⟩
 ·exact⟨0,1,by decide,by decide,by decide,by omega,by omega,by omega,by omega⟩
 ·exact⟨1,0,by decide,by decide,by decide,by omega,by omega,by omega,by omega⟩
theorem aL1 {T:List Bx} (pw:∀ x ∈ T,∀ y ∈ T,bI x y=true->x=y) (B:Bx):fE B (fun p=>∃ x ∈ T,aY x p):=by
 rintro x a b _ xa xb ne ⟨A,hA,ia⟩ ⟨C,hC,ib⟩
 obtain ⟨g,k,g0,k0,gk,d1,d2,d3,d4⟩:=T7 xa
 obtain ⟨g',k',g0',k0',gk',d1',d2',d3',d4'⟩:=T7 xb
 obtain ⟨i1,i2,i3,i4⟩:=ia
 obtain ⟨j1,j2,j3,j4⟩:=ib
 have nr:bI A C=true:=oD (g:=g+g') (h:=k+k') (by omega) (by omega) (by omega) (by omega) (by omega) (by omega) (by omega)
 have:=pw A hA C hC nr
 subst this
 refine⟨A,hA,?_⟩
 rcases xa with ⟨e1,e2⟩ | ⟨e1,e2⟩
 ·rcases xb with ⟨e3,e4⟩ | ⟨e3,e4⟩
  ·have:a.2 ≠ b.2:=fun z=>ne (bj7 (e1.trans e3.symm) z)
   exact⟨by omega,by omega,by omega,by omega⟩
  ·exact⟨by omega,by omega,by omega,by omega⟩
 ·rcases xb with ⟨e3,e4⟩ | ⟨e3,e4⟩
  ·exact⟨by omega,by omega,by omega,by omega⟩
  ·have:a.1 ≠ b.1:=fun z=>ne (bj7 z (e1.trans e3.symm))
   exact⟨by omega,by omega,by omega,by omega⟩
noncomputable abbrev a9:=Int × Int
inductive eG (B:Bx) (S:a9->Prop):a9->Prop
 | seed {x:a9}:S x->eG B S x
 | kin {x a b:a9}:aY B x->eF x a->eF x b->a ≠ b->eG B S a->eG B S b->eG B S x
theorem eG.clo {B B':Bx}{S:a9->Prop} (s:bA B' B):fE B' (eG B S):=fun x a b h1 h2 h3 h4 h5 h6=>.kin (s.in_ h1) h2 h3 h4 h5 h6
theorem eG.mono {B B':Bx}{S S':a9->Prop} (s:bA B B') (h:∀ x,S x->S' x) {x:a9} (b:eG B S x):eG B' S' x:=by
 induction b with
 | seed z=>exact .seed (h _ z)
 | kin h1 h2 h3 h4 _ _ i1 i2=>exact .kin (s.in_ h1) h2 h3 h4 i1 i2
theorem eG.least {B:Bx}{S U:a9->Prop} (cl:fE B U) (h:∀ x,S x->U x) {x:a9} (b:eG B S x):U x:=by
 induction b with
 | seed z=>exact h _ z
 | kin h1 h2 h3 h4 _ _ i1 i2=>exact cl _ _ _ h1 h2 h3 h4 i1 i2
noncomputable abbrev mM (r c:Int):Bx:=⟨0,0,r - 1,c - 1⟩
theorem sG {r c:Int}{p:a9}:aY (mM r c) p ↔ bL r c p=true:=by
 rw [l8]; unfold aY; dsimp only; omega
theorem iQ {r c:Int}{x a:a9}:a ∈ fW r c x ↔ eF x a/\bL r c a=true:=by
 unfold fW
 rw [ba1]
 refine and_congr_left fun _=>?_
 unfold l9 eF
 simp only [aW9,aX9,bb3,Prod.ext_iff]
 omega
theorem aL2 {r c:Int}{S:List a9} (bd:∀ x ∈ S,bL r c x=true) {p:a9}:gW r c S p ↔ eG (mM r c) (· ∈ S) p:=by
 have bd':∀ {q:a9},eG (mM r c) (· ∈ S) q->bL r c q=true:=fun {q} h=>by
  cases h with
  | seed h=>exact bd _ h
  | kin h1 _ _ _ _ _=>exact sG.mp h1
 constructor
 ·intro h
  induction h with
  | seed h=>exact .seed h
  | kin h1 h2 h3 h4 _ _ i1 i2=>exact .kin (sG.mpr h1) (iQ.mp h2).1 (iQ.mp h3).1 h4 i1 i2
 ·intro h
  induction h with
  | seed h=>exact .seed h
  | kin h1 h2 h3 h4 b1 b2 i1 i2=>exact .kin (sG.mp h1) (iQ.mpr ⟨h2,bd' b1⟩) (iQ.mpr ⟨h3,bd' b2⟩) h4 i1 i2
noncomputable def cO (x:Bx):Int:=(x.b - x.t+1)+(x.r - x.l+1)
structure gX (G:List a9) (x:Bx):Prop where
 ok:okX x
 ins:∀ s ∈ G,aY x s
 full:∀ p,aY x p->eG x (· ∈ G) p
 few:cO x<=2 * (G.length:Int)
theorem gX.cell (p:a9):gX [p] (cX p):=by
 refine⟨by unfold okX cX; exact⟨aW8 _,aW8 _⟩,fun s hs=>?_,fun q hq=>.seed ?_,?_⟩
 ·rw [aX4.mp hs]; unfold aY cX; dsimp only; omega
 ·unfold aY cX at hq
  dsimp only at hq
  exact aX4.mpr (bj7 (by omega) (by omega))
 ·unfold cO cX; dsimp only; simp only [bc4]; omega
theorem aL3 {x y:Bx} (h1:okX x) (h2:okX y) (nr:bI x y=true):cO (bP x y)<=cO x+cO y:=by
 have nr:=bd3 nr
 unfold jY at nr; unfold okX at h1 h2; unfold cO bP; dsimp only; omega
theorem gX.hull {G G':List a9}{x y:Bx} (h:gX G x) (h':gX G' y) (nr:bI x y=true):gX (G ++ G') (bP x y):=by
 refine⟨aK2 h.ok,fun s hs=>?_,?_,?_⟩
 ·rcases ba2.mp hs with z | z
  ·exact aK4 (h.ins s z)
  ·exact wP (h'.ins s z)
 ·exact aL0 h.ok h'.ok nr (eG.clo (bA.refl _)) (fun p hp=>(h.full p hp).mono (sD x y) fun s hs=>bb1 _ hs) (fun p hp=>(h'.full p hp).mono (wO x y) fun s hs=>aZ5 _ hs)
 ·have:=aL3 h.ok h'.ok nr
  have:=h.few
  have:=h'.few
  rw [aZ3]; omega
theorem gX.same {G G':List a9}{x:Bx} (h:gX G x) (h':∀ s ∈ G',aY x s):gX (G ++ G') x:=by
 refine⟨h.ok,fun s hs=>?_,fun p hp=>(h.full p hp).mono (bA.refl _) fun s hs=>bb1 _ hs,?_⟩
 ·rcases ba2.mp hs with z | z
  ·exact h.ins s z
  ·exact h' s z
 ·have:=h.few
  rw [aZ3]; omega
noncomputable def i9 (T:List Bx) (s:Bx × Bx):Bool:=decide (s.1 ∈ T) && (decide (s.2 ∈ T) && (HT.aL s.1.k s.2.k && bI s.1 s.2))
noncomputable def gH (T:List Bx) (s:Bx × Bx):List Bx:=(T.erase s.1).erase s.2
noncomputable def jF (T:List Bx) (s:Bx × Bx):List Bx:=if bP s.1 s.2 ∈ gH T s then gH T s else gH T s ++ [bP s.1 s.2]
noncomputable def iA (s:Bx × Bx) (T:List Bx):Option (List Bx):=if i9 T s=true then some (jF T s) else none
noncomputable def dZ (T:List Bx) (sts:List (Bx × Bx)):Option (List Bx):=sts.foldl (fun o s=>o.bind (iA s)) (some T)
theorem sH (T:List Bx) (sts:List (Bx × Bx)) (s:Bx × Bx):dZ T (sts ++ [s])=(dZ T sts).bind (iA s):=by unfold dZ; rw [List.foldl_append]; rfl
theorem aL4 {T:List Bx}:∀ {a b:List (Bx × Bx)},dZ T a=none->dZ T (a ++ b)=none:=by
 intro a b h
 unfold dZ at *
 rw [List.foldl_append,h]
 induction b with
 | nil=>rfl
 | cons x r ih=>exact ih
theorem sJ {T:List Bx}{s:Bx × Bx}:i9 T s=true ↔ s.1 ∈ T/\s.2 ∈ T/\HT.aL s.1.k s.2.k=true/\bI s.1 s.2=true:=by
 unfold i9
 simp only [bb0,aY7]
noncomputable def cQ (S:List a9) (T:List Bx):Prop:=∃ f:List (Bx × List a9),T=f.map (·.1)/\(∀ e ∈ f,gX e.2 e.1)/\(f.map (·.2)).flatten.Perm S
theorem cQ.init (S:List a9):cQ S (S.map cX):=by
 refine⟨S.map fun p=>(cX p,[p]),by rw [bb5]; rfl,fun e he=>?_,?_⟩
 ·obtain ⟨p,_,rfl⟩:=ba3.mp he
  exact gX.cell p
 ·rw [bb5]
  have:(S.map ((·.2) ∘ fun p:a9=>(cX p,[p]))).flatten=S:=by
   induction S with
   | nil=>rfl
   | cons a r ih=>show [a] ++ _=_; rw [ih]; rfl
  rw [this]
theorem cQ.perm {S:List a9}{T T':List Bx} (p:T'.Perm T) (h:cQ S T):cQ S T':=by
 obtain ⟨f,rfl,h1,h2⟩:=h
 obtain ⟨g,pg,rfl⟩:∃ g:List (Bx × List a9),g.Perm f/\T'=g.map (·.1):=by
  clear h1 h2
  generalize hm:f.map (·.1)=m at p
  induction p generalizing f with
  | nil=>exact⟨f,bk0 _,hm.symm⟩
  | cons x _ ih=>
   cases f with
   | nil=>cases hm
   | cons e f=>
    cases hm
    obtain ⟨g,pg,hg⟩:=ih f rfl
    exact⟨e :: g,pg.cons _,by rw [hg]; rfl⟩
  | swap x y l=>
   match f,hm with
   | e :: e' :: f,hm=>
    cases hm
    exact⟨e' :: e :: f,List.Perm.swap _ _ _,rfl⟩
  | trans _ _ ih1 ih2=>
   obtain ⟨g,pg,hg⟩:=ih2 f hm
   obtain ⟨g',pg',hg'⟩:=ih1 g hg.symm
   exact⟨g',pg'.trans pg,hg'⟩
 exact⟨g,rfl,fun e he=>h1 e (pg.mem_iff.mp he),((pg.map _).flatten).trans h2⟩
theorem cQ.join {S:List a9}{x y:Bx}{T:List Bx} (h:cQ S (x :: y :: T)) (nr:bI x y=true):cQ S (bP x y :: T):=by
 obtain ⟨f,e,h1,h2⟩:=h
 match f,e with
 | ex :: ey :: f,e=>
  cases e
  refine⟨(bP ex.1 ey.1,ex.2 ++ ey.2) :: f,rfl,fun e he=>?_,?_⟩
  ·rcases aW9.mp he with rfl | he
   ·exact (h1 ex aX3).hull (h1 ey (aX0 _ aX3)) nr
   ·exact h1 e (aX0 _ (aX0 _ he))
  ·have:(((bP ex.1 ey.1,ex.2 ++ ey.2) :: f).map (·.2)).flatten=((ex :: ey :: f).map (·.2)).flatten:=by
    simp only [aY8,List.flatten_cons,aY5]
   rw [this]; exact h2
theorem cQ.dup {S:List a9}{x:Bx}{T:List Bx} (h:cQ S (x :: T)) (hx:x ∈ T):cQ S T:=by
 obtain ⟨f,e,h1,h2⟩:=h
 match f,e with
 | ex :: f,e=>
  cases e
  obtain ⟨ey,hy,e2⟩:=ba3.mp hx
  obtain ⟨a,b,rfl⟩:=List.append_of_mem hy
  refine⟨a ++ (ey.1,ey.2 ++ ex.2) :: b,by simp,fun e he=>?_,?_⟩
  ·rcases ba2.mp he with z | z
   ·exact h1 e (aX0 _ (bb1 _ z))
   ·rcases aW9.mp z with rfl | z
    ·refine (h1 ey (by simp)).same fun s hs=>?_
     have e2:ey.1=ex.1:=e2
     rw [e2]
     exact (h1 ex aX3).ins s hs
    ·exact h1 e (aX0 _ (aZ5 _ (aX0 _ z)))
  ·refine List.Perm.trans ?_ h2
   simp only [aZ1,aY8,List.flatten_append,List.flatten_cons]
   have p1:(ey.2 ++ ex.2 ++ (b.map (·.2)).flatten).Perm (ex.2 ++ (ey.2 ++ (b.map (·.2)).flatten)):=by
    rw [aY5]
    refine bd7.trans ?_
    rw [aY5]
    exact bk3 _ bd7
   refine (bk3 _ p1).trans ?_
   rw [<- aY5,<- aY5 ex.2]
   exact List.Perm.append_right _ bd7
theorem T8 {x y:Bx} (h:HT.aL x.k y.k=true):x ≠ y:=fun e=>by
 subst e
 have:=kJ h
 rw [h] at this; cases this
theorem wT {T:List Bx}{s:Bx × Bx} (ok:i9 T s=true):T.Perm (s.1 :: s.2 :: gH T s):=by
 obtain ⟨h1,h2,h3,_⟩:=sJ.mp ok
 have:s.2 ∈ T.erase s.1:=(List.mem_erase_of_ne (T8 h3).symm).mpr h2
 exact (List.perm_cons_erase h1).trans ((List.perm_cons_erase this).cons _)
theorem cQ.step {S:List a9}{T:List Bx}{s:Bx × Bx} (h:cQ S T) (ok:i9 T s=true):cQ S (jF T s):=by
 have h2:=(h.perm (wT ok).symm).join (sJ.mp ok).2.2.2
 unfold jF
 by_cases e:bP s.1 s.2 ∈ gH T s
 ·rw [if_pos e]; exact h2.dup e
 ·rw [if_neg e]; exact h2.perm (bd7 (l₁:=gH T s) (l₂:=[bP s.1 s.2]))
theorem aL5 {T:List Bx}{s:Bx × Bx} (nd:T.Nodup):(jF T s).Nodup:=by
 have:(gH T s).Nodup:=(nd.erase _).erase _
 unfold jF
 split
 ·exact this
 ·rename_i h
  exact bg7.mpr ⟨this,be2 _ _,fun a ha b hb e=>h (by rw [<- aX4.mp hb,<- e]; exact ha)⟩
theorem oE {S:List a9} (nd:S.Nodup):∀ (sts:List (Bx × Bx)) {T:List Bx},dZ (S.map cX) sts=some T->cQ S T/\T.Nodup:=by
 intro sts
 rcases List.eq_nil_or_concat sts with rfl | ⟨a,s,rfl⟩
 ·intro T h
  cases h
  refine⟨cQ.init S,bg6.mpr (nd.imp fun {a b} ne e=>ne ?_)⟩
  unfold cX at e
  simp only [Bx.mk.injEq] at e
  exact bj7 e.1 e.2.1
 ·intro T h
  rw [List.concat_eq_append,sH] at h
  cases hw:dZ (S.map cX) a with
  | none=>rw [hw] at h; cases h
  | some T1=>
   rw [hw] at h
   obtain ⟨o1,n1⟩:=oE nd a hw
   have h:iA s T1=some T:=h
   unfold iA at h
   split at h
   ·rename_i ok
    cases h
    exact⟨o1.step ok,aL5 n1⟩
   ·cases h
 termination_by sts=>sts.length
 decreasing_by subst_vars; simp
noncomputable def fF (T:List Bx):Prop:=T.Pairwise fun x y=>bI x y=false
theorem fF.eq {T:List Bx} (h:fF T) {x y:Bx} (hx:x ∈ T) (hy:y ∈ T) (nr:bI x y=true):x=y:=by
 obtain ⟨i,hi,rfl⟩:=bh8 hx
 obtain ⟨j,hj,rfl⟩:=bh8 hy
 have pw:=be5.mp h
 rcases Nat.lt_trichotomy i j with z | z | z
 ·rw [pw i j hi hj z] at nr; cases nr
 ·subst z; rfl
 ·rw [wN,pw j i hj hi z] at nr; cases nr
theorem cQ.on_board {r c:Int}{S G:List a9}{x:Bx} (bd:∀ p ∈ S,bL r c p=true) (gs:∀ s ∈ G,s ∈ S) (sp:gX G x) {p:a9} (hp:aY x p):aY (mM r c) p:=by
 have okk:=sp.ok
 unfold okX at okk
 have gb:∀ s ∈ G,aY (mM r c) s:=fun s hs=>sG.mpr (bd s (gs s hs))
 have key:∀ q,aY x q->eG x (· ∈ G) q:=sp.full
 have cl:fE x (fun q=>aY (mM r c) q):=by
  intro y a b hy ya yb ne ua ub
  have ne':a.1 ≠ b.1 ∨ a.2 ≠ b.2:=Classical.byContradiction fun z=>ne (bj7 (by omega) (by omega))
  unfold aY eF at *
  dsimp only at *
  omega
 exact (key p hp).least cl gb
theorem cQ.burnt {r c:Int}{S:List a9}{T:List Bx} (o:cQ S T) (far:fF T) (bd:∀ x ∈ S,bL r c x=true) (p:a9):(∃ x ∈ T,aY x p) ↔ gW r c S p:=by
 obtain ⟨f,rfl,h1,h2⟩:=o
 rw [aL2 bd]
 have insd:∀ e ∈ f,∀ s ∈ e.2,s ∈ S:=fun e he s hs=>h2.mem_iff.mp (List.mem_flatten.mpr ⟨e.2,ba3.mpr ⟨e,he,rfl⟩,hs⟩)
 constructor
 ·rintro ⟨x,hx,hp⟩
  obtain ⟨e,he,rfl⟩:=ba3.mp hx
  have sp:=h1 e he
  refine (sp.full p hp).least (fun x a b hx2 xa xb ne ua ub=>?_) fun s hs=>.seed (insd e he s hs)
  refine eG.kin ?_ xa xb ne ua ub
  exact cQ.on_board bd (insd e he) sp hx2
 ·intro h
  refine h.least (aL1 (fun x hx y hy=>far.eq hx hy) _) fun s hs=>?_
  obtain ⟨g,hg,hs2⟩:=List.mem_flatten.mp (h2.mem_iff.mpr hs)
  obtain ⟨e,he,rfl⟩:=ba3.mp hg
  exact⟨e.1,ba3.mpr ⟨e,he,rfl⟩,(h1 e he).ins s hs2⟩
theorem cQ.ok {S:List a9}{T:List Bx} (o:cQ S T) {x:Bx} (hx:x ∈ T):okX x:=by
 obtain ⟨f,rfl,h1,_⟩:=o
 obtain ⟨e,he,rfl⟩:=ba3.mp hx
 exact (h1 e he).ok
theorem iR {i:Nat}{x:PV}{g:Bool}{ρ:b6}{Q:b6->Prop} (f:flat x=true) (q:Q (ρ.set i (some (.sh true x)))):cG i x g ρ Q:=by
 unfold cG
 rw [f,Bool.or_true]
 exact q
theorem mO {b:Bool}{x:PV}{P:Prop} (h:(Slot.sh b x).tag = .rd):P:=by cases b <;> cases h
noncomputable abbrev cW (x:Bx):PV:=.tup (intz x.k)
noncomputable abbrev bM (bs:List Bx):List PV:=jD (bs.map Bx.k)
theorem sK (x:Bx):flat (cW x)=true:=rD x.k
theorem oF {bs:List Bx}{i:Nat}{v:PV} (h:(bM bs)[i]? = some v):∃ x,v=cW x/\bs[i]? = some x:=by
 unfold bM jD at h
 rw [bb5,aX1] at h
 cases e:bs[i]? with
 | none=>rw [e] at h; cases h
 | some x=>rw [e] at h; cases h; exact⟨x,rfl,rfl⟩
theorem mP (bs:List Bx):(bM bs).length=bs.length:=by unfold bM jD; rw [aW5,aW5]
theorem aL6 (bs:List Bx):flats (bM bs)=true:=L9 _
noncomputable def oG:bW:=fun xs Q=>∃ a b c d:Int,xs = [.int a,.int b,.int c,.int d]/\Q (.int (jY a b c d))
noncomputable def T9:aO:=(bV (aI wJ (a7 (qC (.int 0)) (a7 (eC (a5 2) (a5 1)) (a7 (eC (a5 0) (a5 3)) aC)))))
theorem aL7:dJ T9 ["start","end","other_start","other_end"] oG:=by
 rintro xs Q ⟨a,b,c,d,rfl,q⟩
 exact⟨_,rfl,_,rfl,c,b,rfl,rfl,_,rfl,_,rfl,a,d,rfl,rfl,_,_,_,rfl,trivial,q⟩
noncomputable def mQ:bW:=fun xs Q=>∃ x y:Bx,xs = [cW x,cW y]/\Q (.bl (bI x y))
noncomputable def U0:aO:=(aJ (b7 2 (aI oG (a7 (bC (a5 0) (qC (.int 0))) (a7 (bC (a5 0) (qC (.int 2))) (a7 (bC (a5 1) (qC (.int 0))) (a7 (bC (a5 1) (qC (.int 2))) aC))))))
 (aJ (b7 3 (aI oG (a7 (bC (a5 0) (qC (.int 1))) (a7 (bC (a5 0) (qC (.int 3))) (a7 (bC (a5 1) (qC (.int 1))) (a7 (bC (a5 1) (qC (.int 3))) aC))))))
 (bV (qLe (cM (a5 2) (a5 3)) (qC (.int 2))))))
theorem aL8:dJ U0 ["one","other","between_rows","between_columns"] mQ:=by
 rintro xs Q ⟨x,y,rfl,q⟩
 refine⟨_,rfl,_,_,_,rfl,rfl,rfl,_,rfl,_,_,_,rfl,rfl,rfl,_,rfl,_,_,_,rfl,rfl,rfl,_,rfl,_,_,_,rfl,rfl,rfl,_,_,_,_,rfl,trivial,?_⟩
 refine⟨_,rfl,_,_,_,rfl,rfl,rfl,_,rfl,_,_,_,rfl,rfl,rfl,_,rfl,_,_,_,rfl,rfl,rfl,_,rfl,_,_,_,rfl,rfl,rfl,_,_,_,_,rfl,trivial,?_⟩
 exact⟨_,rfl,_,rfl,_,_,rfl,rfl,_,_,rfl,rfl,trivial,q⟩
noncomputable def mR:bW:=fun xs Q=>∃ x y:Bx,xs = [cW x,cW y]/\Q (cW (bP x y))
noncomputable def U1:aO:=(bV (cS (a7 (aI nJ (a7 (bC (a5 0) (qC (.int 0))) (a7 (bC (a5 1) (qC (.int 0))) aC))) (a7 (aI nJ (a7 (bC (a5 0) (qC (.int 1))) (a7 (bC (a5 1) (qC (.int 1))) aC))) (a7 (aI lS (a7 (bC (a5 0) (qC (.int 2))) (a7 (bC (a5 1) (qC (.int 2))) aC))) (a7 (aI lS (a7 (bC (a5 0) (qC (.int 3))) (a7 (bC (a5 1) (qC (.int 3))) aC))) aC))))))
theorem U2 (i j:Int):(if j < i then j else i)=min i j:=by split <;> omega
theorem U3 (i j:Int):(if j > i then j else i)=max i j:=by split <;> omega
theorem aL9:dJ U1 ["one","other"] mR:=by
 rintro xs Q ⟨x,y,rfl,q⟩
 refine⟨_,rfl,_,_,_,rfl,rfl,rfl,_,rfl,_,_,_,rfl,rfl,rfl,x.t,y.t,rfl,_,rfl,_,_,_,rfl,rfl,rfl,_,rfl,_,_,_,rfl,rfl,rfl,x.l,y.l,rfl,
  _,rfl,_,_,_,rfl,rfl,rfl,_,rfl,_,_,_,rfl,rfl,rfl,x.b,y.b,rfl,_,rfl,_,_,_,rfl,rfl,rfl,_,rfl,_,_,_,rfl,rfl,rfl,x.r,y.r,rfl,by show 4<=1000; decide,rfl,trivial,?_⟩
 show Q (.tup [.int (if y.t < x.t then y.t else x.t),.int (if y.l < x.l then y.l else x.l),.int (if y.b > x.b then y.b else x.b),.int (if y.r > x.r then y.r else x.r)])
 rw [U2,U2,U3,U3]
 exact q
noncomputable def mS:bW:=fun xs Q=>∃ (x:PV) (ls:List (Int × Int)),xs = [x]/\(x = .tup (aN ls) ∨ x = .lst (aN ls))/\ls.length<=4096/\Q (.lst (bM (ls.map cX)))
noncomputable def U4:aO:=(bV (gQ (dS (a5 0)) [none,none] (gP 0 1) i5 (cS (a7 (a5 0) (a7 (a5 1) (a7 (a5 0) (a7 (a5 1) aC)))))))
theorem aM0:dJ U4 ["cells"] mS:=by
 rintro xs Q ⟨x,ls,rfl,hx,hl,q⟩
 have sx:j5 x=some (aN ls):=by rcases hx with rfl | rfl <;> rfl
 refine⟨_,rfl,aN ls,sx,mO,by rw [dY]; omega,fun i acc=>acc=bM ((ls.take i).map cX),rfl,?_,?_⟩
 ·rintro i v acc hv rfl
  obtain ⟨l,rfl,h⟩:=rG hv
  refine⟨_,_,rfl,?_⟩
  unfold i5
  dsimp only
  rw [if_pos rfl]
  refine⟨_,rfl,_,rfl,_,rfl,_,rfl,by show 4<=1000; decide,rfl,trivial,?_⟩
  have tk:ls.take (i+1)=ls.take i ++ [l]:=by rw [aZ9,h]; rfl
  rw [tk,aZ1]
  unfold bM jD
  rw [aZ1,aZ1]
  rfl
 ·rintro acc rfl
  rw [dY,ba6]
  exact⟨trivial,q⟩
noncomputable def wU:Option Bx->PV
 | some y=>cW y
 | none=>.non
noncomputable def lB:bW:=fun xs Q=>∃ (bs:List Bx) (x:Bx),xs = [.lst (bM bs),cW x]/\Q (wU (bs.find? fun y=>bI y x))
noncomputable def U5:aO:=(aJ (dU (dS (a5 0)) (cG 2)
  (cF (aX (aI mQ (a7 (a5 2) (a7 (a5 1) aC)))) (jM 2) cL))
 (bV (qC .non)))
theorem U6 {bs:List Bx}{x:Bx} (h:∀ y ∈ bs,bI y x=false):bs.find? (fun y=>bI y x)=none:=by
 rw [List.find?_eq_none]
 intro y hy
 rw [h y hy]; exact aY9
theorem aM1 {bs:List Bx}{x y:Bx}{i:Nat} (h:∀ z ∈ bs.take i,bI z x=false) (hi:bs[i]? = some y) (hy:bI y x=true):bs.find? (fun y=>bI y x)=some y:=by
 have hl:=(aX7.mp hi).1
 have e:bs=bs.take i ++ y :: bs.drop (i+1):=by
  have:=(ba7 i bs).symm
  rw [bi2 hl] at this
  rw [(aX7.mp hi).2] at this
  exact this
 rw [e,List.find?_append,U6 h]
 simp [hy]
theorem aM2:dJ U5 ["boxes","box","other"] lB:=by
 rintro xs Q ⟨bs,x,rfl,q⟩
 refine⟨_,rfl,bM bs,rfl,mO,fun i ρ=>(∀ y ∈ bs.take i,bI y x=false)/\∃ z,ρ = [some (.sh (flat (.lst (bM bs))) (.lst (bM bs))),some (.sh (flat (cW x)) (cW x)),z],⟨fun y hy=>(by rw [List.take_zero] at hy; cases hy),none,rfl⟩,?_,?_⟩
 ·rintro i v ρ hv ⟨hno,z,rfl⟩
  obtain ⟨y,rfl,hy⟩:=oF hv
  refine iR (sK y) ?_
  refine⟨_,rfl,_,rfl,y,x,rfl,_,rfl,?_⟩
  cases hn:bI y x with
  | true=>
   refine aZ ⟨_,rfl,trivial,?_⟩
   rw [aM1 hno hy hn] at q
   exact q
  | false=>
   refine aS ⟨fun w hw=>?_,_,rfl⟩
   rw [aZ9,hy] at hw
   rcases ba2.mp hw with g | g
   ·exact hno w g
   ·rw [show w=y by simpa using g]; exact hn
 ·rintro ρ ⟨hno,z,rfl⟩
  rw [mP,ba6] at hno
  rw [U6 hno] at q
  exact⟨trivial,q⟩
noncomputable abbrev lC (s:Bx × Bx):PV:=.tup [cW s.1,cW s.2]
theorem aM3 (s:Bx × Bx):flat (lC s)=true:=by
 show (flat (cW s.1) && (flat (cW s.2) && true))=true
 rw [sK,sK]; rfl
noncomputable def bH (T:List Bx):List (List aH × PV):=T.map fun x=>(kn x.k,PV.bl true)
theorem U7 {a b:Bx} (h:kn a.k=kn b.k):a=b:=Bx.k_inj (by
 have:=congrArg (List.map fun k:aH=>match k with | .inl i=>i | .inr _=>0) h
 unfold kn at this
 rw [bb5,bb5] at this
 exact (List.map_id _).symm.trans (Eq.trans this (List.map_id _)))
theorem aM4 (T:List Bx):(bH T).map (·.1)=(T.map Bx.k).map kn:=by unfold bH; rw [bb5,bb5]; rfl
theorem U8 (T:List Bx) (x:Bx):((bH T).any fun p=>decide (p.1=kn x.k))=decide (x ∈ T):=by
 rw [bc9,List.any_eq_true,aY7]
 unfold bH
 refine⟨fun ⟨p,hp,e⟩=>?_,fun h=>⟨_,ba3.mpr ⟨x,h,rfl⟩,aX2 rfl⟩⟩
 obtain ⟨y,hy,rfl⟩:=ba3.mp hp
 rw [<- U7 (bd3 e:kn y.k=kn x.k)]; exact hy
theorem U9 (T:List Bx) (x:Bx):(cC (bH T) (kn x.k)).isSome=decide (x ∈ T):=by rw [<- rE,U8]
theorem V0 (T:List Bx) (x:Bx):gR (bH T) (kn x.k) (.bl true)=bH (if x ∈ T then T else T ++ [x]):=by
 unfold gR
 rw [U8]
 by_cases h:x ∈ T
 ·rw [aX2 h,if_pos rfl,if_pos h]
  unfold bH
  rw [bb5]
  refine List.map_congr_left fun y _=>?_
  show (if kn y.k=kn x.k then (kn y.k,PV.bl true) else (kn y.k,PV.bl true))=_
  split <;> rfl
 ·rw [aW6 h,if_neg (by decide),if_neg h]
  unfold bH
  rw [aZ1]; rfl
theorem V1 (T:List Bx):(bH T).length=T.length:=by unfold bH; rw [aW5]
theorem aM5 (T:List Bx):flats ((bH T).map (·.2))=true:=by
 unfold bH
 rw [bb5]
 induction T with
 | nil=>rfl
 | cons a r ih=>exact ih
theorem mT (l:List Int):(kn l).map kP=intz l:=by unfold kn; rw [bb5]; rfl
noncomputable def sL:bW:=fun xs Q=>∃ (T:List Bx) (s:Bx × Bx),xs = [.dT (bH T),lC s]/\Q (.bl (i9 T s))
noncomputable def V2 (K:PySem.W.Frag):aO:=(aJ (cF (jL (kL (aX (kQ K "tuple" (a5 1)))) (aX (uL (aI gO (a7 (a5 1) aC)) (qC (.int 2))))) (bV (qC (.bl false))) cL)
 (aJ (cF (jL (aX (iI true (bC (a5 1) (qC (.int 0))) (a5 0))) (aX (iI true (bC (a5 1) (qC (.int 1))) (a5 0)))) (bV (qC (.bl false))) cL)
 (bV (kN (q2 rN (bC (a5 1) (qC (.int 0))) (bC (a5 1) (qC (.int 1)))) (aI mQ (a7 (bC (a5 1) (qC (.int 0))) (a7 (bC (a5 1) (qC (.int 1))) aC)))))))
theorem aM6 {K:PySem.W.Frag} (kt:PySem.W.kitOne K (.type "tuple") (.type "tuple")=some true):dJ (V2 K) ["there","step"] sL:=by
 rintro xs Q ⟨T,s,rfl,q⟩
 refine⟨_,rfl,_,_,rfl,kt,_,rfl,aS ⟨_,rfl,_,_,rfl,rfl,.inl ⟨_,_,rfl,rfl,_,rfl,aS ?_⟩⟩⟩
 refine⟨_,rfl,_,_,_,rfl,rfl,rfl,_,rfl,_,.inr ⟨bH T,kn s.1.k,rfl,by rw [mT],rfl⟩,_,rfl,?_⟩
 show if (!(cC (bH T) (kn s.1.k)).isSome)=true then _ else _
 rw [U9]
 by_cases h1:s.1 ∈ T
 ·rw [aX2 h1]
  refine aS ⟨_,rfl,_,_,_,rfl,rfl,rfl,_,rfl,_,.inr ⟨bH T,kn s.2.k,rfl,by rw [mT],rfl⟩,_,rfl,?_⟩
  show if (!(cC (bH T) (kn s.2.k)).isSome)=true then _ else _
  rw [U9]
  by_cases h2:s.2 ∈ T
  ·rw [aX2 h2]
   refine aS ⟨_,rfl,_,_,_,rfl,rfl,rfl,_,rfl,_,_,_,rfl,rfl,rfl,s.1.k,s.2.k,rfl,rfl,_,rfl,?_⟩
   unfold i9 at q
   rw [aX2 h1,aX2 h2,Bool.true_and,Bool.true_and] at q
   cases hl:HT.aL s.1.k s.2.k with
   | true=>
    rw [hl,Bool.true_and] at q
    exact aZ ⟨_,rfl,_,_,_,rfl,rfl,rfl,_,rfl,_,_,_,rfl,rfl,rfl,s.1,s.2,rfl,trivial,q⟩
   | false=>
    rw [hl,Bool.false_and] at q
    exact aS ⟨trivial,q⟩
  ·rw [aW6 h2]
   unfold i9 at q
   rw [aW6 h2,Bool.false_and,Bool.and_false] at q
   exact aZ ⟨trivial,q⟩
 ·rw [aW6 h1]
  unfold i9 at q
  rw [aW6 h1,Bool.false_and] at q
  exact aZ (aZ ⟨trivial,q⟩)
noncomputable def sM:bW:=fun xs Q=>∃ ls:List Bx,xs = [.lst (bM ls)]/\ls.Nodup/\ls.length<=4096/\Q (.dT (bH ls))
noncomputable def V3:aO:=(aJ (hZ 1 (qC (.dT [])))
 (aJ (dU (dS (a5 0)) (cG 2)
  (jQ 1 (a5 2) (qC (.bl true))))
 (jM 1)))
theorem aM7:dJ V3 ["hearths","inside","hearth"] sM:=by
 rintro xs Q ⟨ls,rfl,nd,hl,q⟩
 refine⟨rfl,rfl,_,rfl,bM ls,rfl,mO,fun i ρ=>∃ y,ρ = [some (.sh (flat (.lst (bM ls))) (.lst (bM ls))),some (.own (.dT (bH (ls.take i)))),y],⟨none,rfl⟩,?_,?_⟩
 ·rintro i y ρ hy ⟨y0,rfl⟩
  obtain ⟨l,rfl,h⟩:=oF hy
  have tk:gR (bH (ls.take i)) (kn l.k) (.bl true)=bH (ls.take (i+1)):=by rw [V0,if_neg (oC nd h),aZ9,h]; rfl
  refine⟨_,rfl,_,rfl,kn l.k,by rw [mT]; rfl,trivial,by rw [V1,bi3]; omega,?_⟩
  rw [tk]
  exact⟨_,rfl⟩
 ·rintro ρ ⟨y,rfl⟩
  rw [mP,ba6]
  exact⟨_,rfl,trivial,q⟩
theorem V4 {α:Type}:∀ {l:List α}{j:Nat}{x:α},l[j]? = some x->l.Perm (x :: l.eraseIdx j)
 | [],_,_,h=>by simp at h
 | a :: l,0,x,h=>by simp at h; subst h; exact bk0 _
 | a :: l,j+1,x,h=>by
  rw [ba4] at h
  exact ((V4 h).cons a).trans (List.Perm.swap _ _ _)
theorem V5 {l:List Bx}{j:Nat}{x:Bx} (nd:l.Nodup) (h:l[j]? = some x):l.eraseIdx j=l.erase x:=by
 induction l generalizing j with
 | nil=>simp at h
 | cons a l ih=>
  obtain ⟨h1,h2⟩:=bb4.mp nd
  cases j with
  | zero=>simp at h; subst h; simp
  | succ j=>
   rw [ba4] at h
   have:a ≠ x:=fun e=>h1 (by rw [e]; exact bd2 h)
   rw [List.eraseIdx_cons_succ,ih h2 h,List.erase_cons_tail (by simpa using this)]
theorem aM8 {α β:Type}{f:α->β}{zs:List β}{l:List α} (p:zs.Perm (l.map f)):∃ l':List α,zs=l'.map f/\l'.Perm l:=by
 generalize hm:l.map f=m at p
 induction p generalizing l with
 | nil=>exact⟨l,hm.symm,bk0 _⟩
 | cons x _ ih=>
  cases l with
  | nil=>cases hm
  | cons e l=>
   cases hm
   obtain ⟨g,hg,pg⟩:=ih rfl
   exact⟨e :: g,by rw [hg]; rfl,pg.cons _⟩
 | swap x y z=>
  match l,hm with
  | e :: e' :: l,hm=>
   cases hm
   exact⟨e' :: e :: l,rfl,List.Perm.swap _ _ _⟩
 | trans _ _ ih1 ih2=>
  obtain ⟨g,hg,pg⟩:=ih2 hm
  obtain ⟨g',hg',pg'⟩:=ih1 hg.symm
  exact⟨g',hg',pg'.trans pg⟩
theorem fF.perm {T T':List Bx} (p:T.Perm T') (h:fF T):fF T':=(p.pairwise_iff fun {x y} z=>by rw [wN]; exact z).mp h
theorem aM9 {ls:List a9} (nd:ls.Nodup):(ls.map cX).Nodup:=bg6.mpr (nd.imp fun {a b} ne e=>ne (by
 unfold cX at e
 simp only [Bx.mk.injEq] at e
 exact bj7 e.1 e.2.1))
structure jZ (ls:List a9) (sts:List (Bx × Bx)) (se more:List Bx):Prop where
 ex:∃ T,dZ (ls.map cX) sts=some T/\T.Perm (se ++ more)
 far:fF se
noncomputable def dG (g c:Bx):Bx × Bx:=if HT.aL c.k g.k=true then (c,g) else (g,c)
theorem V6 {g c:Bx} (ne:g ≠ c) (h:HT.aL c.k g.k=false):HT.aL g.k c.k=true:=by
 cases e:HT.aL g.k c.k with
 | true=>rfl
 | false=>exact absurd (Bx.k_inj (tT e h)) ne
theorem aN0 {g c:Bx} (h1:okX g) (h2:okX c) (ne:g ≠ c):3<=cO (bP g c):=by
 refine Classical.byContradiction fun z=>ne ?_
 obtain ⟨a,b,d,e⟩:=g
 obtain ⟨a',b',d',e'⟩:=c
 unfold cO bP at z
 unfold okX at h1 h2
 dsimp only at *
 simp only [Bx.mk.injEq]
 omega
theorem jZ.step {ls:List a9}{sts:List (Bx × Bx)}{se:List Bx}{g c:Bx}{more:List a9}{j:Nat} (nd:ls.Nodup) (h:jZ ls sts se (g :: more.map cX)) (hj:se[j]? = some c) (nr:bI c g=true) :
  g ≠ c/\jZ ls (sts ++ [dG g c]) (se.eraseIdx j) (bP g c :: more.map cX):=by
 obtain ⟨T,hw,pm⟩:=h.ex
 obtain ⟨ow,tnd⟩:=oE nd sts hw
 have snd:(se ++ g :: more.map cX).Nodup:=pm.nodup_iff.mp tnd
 have hc:=bd2 hj
 obtain ⟨nd1,nd2,nd3⟩:=bg7.mp snd
 have ne:g ≠ c:=fun e=>nd3 c hc g aX3 e.symm
 have gT:g ∈ T:=pm.mem_iff.mpr (by simp)
 have cT:c ∈ T:=pm.mem_iff.mpr (bb1 _ hc)
 have okg:=ow.ok gT
 have okc:=ow.ok cT
 have p1:(dG g c).1=c/\(dG g c).2=g ∨ (dG g c).1=g/\(dG g c).2=c:=by unfold dG; split; exact .inl ⟨rfl,rfl⟩; exact .inr ⟨rfl,rfl⟩
 have hu:bP (dG g c).1 (dG g c).2=bP g c:=by
  rcases p1 with ⟨e1,e2⟩ | ⟨e1,e2⟩ <;> rw [e1,e2]
  exact aK3 _ _
 have ok:i9 T (dG g c)=true:=by
  refine sJ.mpr ⟨?_,?_,?_,?_⟩
  ·rcases p1 with ⟨e1,_⟩ | ⟨e1,_⟩ <;> rw [e1] <;> assumption
  ·rcases p1 with ⟨_,e1⟩ | ⟨_,e1⟩ <;> rw [e1] <;> assumption
  ·unfold dG
   cases hl:HT.aL c.k g.k with
   | true=>exact hl
   | false=>exact V6 ne hl
  ·rcases p1 with ⟨e1,e2⟩ | ⟨e1,e2⟩ <;> rw [e1,e2]
   ·exact nr
   ·rw [wN]; exact nr
 have pse:=V4 hj
 have cutP':(gH T (dG g c)).Perm (se.eraseIdx j ++ more.map cX):=by
  have a1:(c :: g :: gH T (dG g c)).Perm (c :: g :: (se.eraseIdx j ++ more.map cX)):=by
   have b1:(c :: g :: gH T (dG g c)).Perm T:=by
    refine List.Perm.trans ?_ (wT ok).symm
    rcases p1 with ⟨e1,e2⟩ | ⟨e1,e2⟩ <;> rw [e1,e2]
    exact List.Perm.swap _ _ _
   refine b1.trans (pm.trans ((pse.append_right _).trans ?_))
   show (c :: (se.eraseIdx j ++ g :: more.map cX)).Perm _
   exact List.perm_middle.cons c
  exact a1.cons_inv.cons_inv
 have hn:bP g c ∉ gH T (dG g c):=fun z=>by
  rcases ba2.mp (cutP'.mem_iff.mp z) with z | z
  ·have hs:=(List.eraseIdx_sublist se j).subset z
   have okk:=okc
   unfold okX at okk
   have:bI c (bP g c)=true:=T3 (p:=(c.t,c.l)) (by unfold aY; dsimp only; omega) (wP (by unfold aY; dsimp only; omega))
   have e:=h.far.eq hc hs this
   have nd5:(c :: se.eraseIdx j).Nodup:=pse.nodup_iff.mp nd1
   exact (bb4.mp nd5).1 (by rw [e]; rw [e] at z; rwa [e])
  ·obtain ⟨p,_,e⟩:=ba3.mp z
   have:=aN0 okg okc ne
   rw [<- e] at this
   unfold cO cX at this
   dsimp only at this
   omega
 refine⟨ne,⟨jF T (dG g c),?_,?_⟩,h.far.sublist (List.eraseIdx_sublist se j)⟩
 ·rw [sH,hw]
  show iA (dG g c) T=_
  unfold iA
  rw [if_pos ok]
 ·unfold jF
  rw [hu,if_neg hn]
  refine (cutP'.append_right _).trans ?_
  rw [aY5]
  refine bk3 _ ?_
  exact bd7
theorem aN1 {α:Type}{P:List α->Prop} (h0:P []) (hs:∀ a s,P a->P (a ++ [s])) (l:List α):P l:=by
 rw [<- List.reverse_reverse l]
 induction l.reverse with
 | nil=>exact h0
 | cons x r ih=>rw [List.reverse_cons]; exact hs _ _ ih
theorem jZ.len {ls:List a9}{sts:List (Bx × Bx)}:∀ {T:List Bx},dZ (ls.map cX) sts=some T->T.length<=ls.length:=by
 refine aN1 (P:=fun sts=>∀ {T:List Bx},dZ (ls.map cX) sts=some T->T.length<=ls.length) ?_ ?_ sts
 ·intro T h; cases h; rw [aW5]; exact aX5 _
 ·intro a s ih T h
  rw [sH] at h
  cases hw:dZ (ls.map cX) a with
  | none=>rw [hw] at h; cases h
  | some T1=>
   rw [hw] at h
   have h:iA s T1=some T:=h
   unfold iA at h
   split at h
   ·rename_i ok
    cases h
    have:=ih hw
    have:=(wT ok).length_eq
    rw [ba0,ba0] at this
    unfold jF
    split
    ·omega
    ·rw [aZ3,bc4]; omega
   ·cases h
noncomputable abbrev fX (sts:List (Bx × Bx)):List PV:=sts.map lC
theorem aN2 {sts:List (Bx × Bx)}{i:Nat}{v:PV} (h:(fX sts)[i]? = some v):∃ s,v=lC s/\sts[i]? = some s:=by
 rw [aX1] at h
 cases e:sts[i]? with
 | none=>rw [e] at h; cases h
 | some x=>rw [e] at h; cases h; exact⟨x,rfl,rfl⟩
noncomputable def sN:fB:=fun Ep xs Q=>∃ (r c:Int) (x:PV) (ls:List a9),xs = [.int r,.int c,x]/\(x = .tup (aN ls) ∨ x = .lst (aN ls))/\ls.length<=4096/\(¬ bZ r c->Ep "BadBoard")/\(bZ r c->¬ fD r c ls->Ep "BadSet")/\
 (bZ r c->fD r c ls->∀ sts T,dZ (ls.map cX) sts=some T->fF T->sts.length<=ls.length->Q (.lst (fX sts)))
noncomputable def V7 (Ep:Str->Prop):aO:=(aJ (hZ 3 (iG aC))
 (aJ (hZ 4 (iG aC))
 (aJ (dU (dS (aI mS (a7 (jW Ep jX (a7 (a5 0) (a7 (a5 1) (a7 (a5 2) aC)))) aC))) (cG 5)
  (aJ (b7 6 (a5 5))
  (aJ (b7 7 (aI lB (a7 (a5 3) (a7 (a5 6) aC))))
  (aJ (pU (aX (E5 (a5 7) (qC .non)))
   (aJ (kO 4 (cS (a7 (aI wK (a7 (a5 6) (a7 (a5 7) aC))) (a7 (aI wL (a7 (a5 6) (a7 (a5 7) aC))) aC))))
   (aJ (b7 6 (aI mR (a7 (a5 6) (a7 (a5 7) aC))))
   (aJ (wM 3 (a5 7))
   (b7 7 (aI lB (a7 (a5 3) (a7 (a5 6) aC))))))))
  (kO 3 (a5 6))))))
 (jM 4))))
theorem aN3:mI V7 ["rows","columns","seeds","settled","steps","box","growing","close"] sN:=by
 rintro Ep xs Q ⟨r,c,x,ls,rfl,hx,hl,e1,e2,q⟩
 refine⟨by show 0<=1000; decide,rfl,rfl,rfl,by show 0<=1000; decide,rfl,rfl,rfl,?_⟩
 refine⟨_,rfl,_,rfl,_,rfl,r,c,x,ls,rfl,hx,hl,e1,e2,fun ok st=>?_⟩
 have q:=q ok st
 have nd:ls.Nodup:=wD st.1
 refine⟨_,ls,rfl,.inl rfl,hl,bM (ls.map cX),rfl,(fun z=>by cases z),fun i ρ=>∃ (se:List Bx) (sts:List (Bx × Bx)) (y5 y6 y7:Option Slot),ρ = [si r,si c,some (.sh (flat x) x),some (.own (.lst (bM se))),some (.own (.lst (fX sts))),y5,y6,y7]/\jZ ls sts se ((ls.drop i).map cX)/\sts.length+se.length=i,
  ⟨[],[],none,none,none,rfl,⟨⟨_,rfl,bk0 _⟩,bi9⟩,rfl⟩,?_,?_⟩
 ·rintro i v ρ hv ⟨se,sts,y5,y6,y7,rfl,gr,cnt⟩
  obtain ⟨b,rfl,hb⟩:=oF hv
  rw [aX1] at hb
  obtain ⟨p,hp,rfl⟩:∃ p,ls[i]? = some p/\b=cX p:=by
   cases e:ls[i]? with
   | none=>rw [e] at hb; cases hb
   | some p=>rw [e] at hb; cases hb; exact⟨p,rfl,rfl⟩
  have il:=(aX7.mp hp).1
  have dr:ls.drop i=p :: ls.drop (i+1):=by rw [bi2 il,(aX7.mp hp).2]
  rw [dr,aY8] at gr
  refine iR (sK _) ?_
  refine⟨_,rfl,trivial,?_⟩
  refine⟨_,rfl,_,rfl,se,cX p,rfl,trivial,?_⟩
  refine⟨fun m ρ=>∃ (se:List Bx) (sts:List (Bx × Bx)) (g:Bx),ρ = [si r,si c,some (.sh (flat x) x),some (.own (.lst (bM se))),some (.own (.lst (fX sts))),some (.sh true (cW (cX p))),some (.sh true (cW g)),some (.sh true (wU (se.find? fun y=>bI y g)))]/\jZ ls sts se (g :: (ls.drop (i+1)).map cX)/\sts.length+se.length=i/\m=se.length,
   ⟨_,se,sts,cX p,rfl,gr,cnt,rfl⟩,?_⟩
  rintro m ρ ⟨se,sts,g,rfl,gr,cnt,rfl⟩
  refine⟨_,rfl,rfl,_,rfl,?_⟩
  cases hf:se.find? fun y=>bI y g with
  | none=>
   refine aS ⟨_,rfl,_,rfl,trivial,by rw [mP]; omega,?_⟩
   refine⟨se ++ [g],sts,some (.sh true (cW (cX p))),some (.sh true (cW g)),some (.sh true (wU none)),?_,⟨?_,?_⟩,by rw [aZ3,bc4]; omega⟩
   ·have:bM se ++ [cW g]=bM (se ++ [g]):=by unfold bM jD; rw [aZ1,aZ1]; rfl
    show [_,_,_,some (Slot.own (PV.lst (bM se ++ [cW g]))),_,_,_,_]=_
    rw [this]
   ·obtain ⟨T,hw,pm⟩:=gr.ex
    exact⟨T,hw,by rw [aY5]; exact pm⟩
   ·have hn:=List.find?_eq_none.mp hf
    refine ba5.mpr ⟨gr.far,be2 _ _,fun a ha b hb=>?_⟩
    rw [aX4.mp hb]
    simpa using hn a ha
  | some cl=>
   have nr:bI cl g=true:=by simpa using List.find?_some hf
   have hc:=List.mem_of_find?_eq_some hf
   obtain ⟨j,hj⟩:=bi8 hc
   obtain ⟨ne,gr2⟩:=gr.step nd hj nr
   obtain ⟨T,hw,pm⟩:=gr.ex
   have snd:(se ++ g :: (ls.drop (i+1)).map cX).Nodup:=pm.nodup_iff.mp (oE nd sts hw).2
   have nd1:=(bg7.mp snd).1
   have il':i < 4096:=by omega
   refine aZ ⟨_,rfl,_,rfl,_,rfl,g.k,cl.k,rfl,_,rfl,_,rfl,g.k,cl.k,rfl,by show 2<=1000; decide,?_,trivial,by rw [aW5]; omega,?_⟩
   ·show (flat (.tup (intz (if HT.aL cl.k g.k=true then cl.k else g.k))) && (flat (.tup (intz (if HT.aL g.k cl.k=true then cl.k else g.k))) && true))=true
    rw [rD,rD]; rfl
   have eS:PV.tup [.tup (intz (if HT.aL cl.k g.k=true then cl.k else g.k)),.tup (intz (if HT.aL g.k cl.k=true then cl.k else g.k))]=lC (dG g cl):=by
    unfold dG
    cases hl:HT.aL cl.k g.k with
    | true=>rw [kJ hl]; rfl
    | false=>rw [V6 ne hl]; rfl
   refine⟨_,rfl,_,rfl,g,cl,rfl,trivial,?_⟩
   refine⟨se.map Bx.k,rfl,_,rfl,cl.k,j,rfl,by rw [aX1,hj]; rfl,fun k hk e=>?_,by rw [aW5]; omega,?_⟩
   ·rw [aX1] at e
    cases e2:se[k]? with
    | none=>rw [e2] at e; cases e
    | some y=>
     rw [e2] at e
     have e3:=Bx.k_inj (aZ0 e)
     subst e3
     have kl:=(aX7.mp e2).1
     have jl:=(aX7.mp hj).1
     have:=be5.mp nd1 k j kl jl hk
     exact this ((aX7.mp e2).2.trans (aX7.mp hj).2.symm)
   have jl:=(aX7.mp hj).1
   have cutE:((se.map Bx.k).eraseIdx j).map (fun r=>PV.tup (intz r))=bM (se.eraseIdx j):=by
    unfold bM jD
    rw [<- Raw.jA]
   dsimp only
   rw [cutE]
   refine⟨_,rfl,_,rfl,se.eraseIdx j,bP g cl,rfl,trivial,?_⟩
   have le:(se.eraseIdx j).length+1=se.length:=by rw [List.length_eraseIdx,if_pos jl]; omega
   refine⟨(se.eraseIdx j).length,by omega,se.eraseIdx j,sts ++ [dG g cl],bP g cl,?_,gr2,by rw [aZ3,bc4]; omega,rfl⟩
   show [_,_,_,_,some (Slot.own (PV.lst (fX sts ++ [PV.tup [.tup (intz (if HT.aL cl.k g.k=true then cl.k else g.k)),.tup (intz (if HT.aL g.k cl.k=true then cl.k else g.k))]]))),_,_,_]=_
   rw [eS]
   have:fX sts ++ [lC (dG g cl)]=fX (sts ++ [dG g cl]):=by unfold fX; rw [aZ1]; rfl
   rw [this]; rfl
 ·rintro ρ ⟨se,sts,y5,y6,y7,rfl,gr,cnt⟩
  rw [mP,aW5] at gr cnt
  rw [List.drop_length] at gr
  obtain ⟨T,hw,pm⟩:=gr.ex
  rw [List.map_nil,bb7] at pm
  exact⟨_,rfl,trivial,q sts T hw (gr.far.perm pm.symm) (by omega)⟩
noncomputable def sO:fB:=fun Ep xs Q=>∃ (r c:Int) (x:PV) (ls:List a9) (sts:List (Bx × Bx)),xs = [.int r,.int c,x,.lst (fX sts)]/\(x = .tup (aN ls) ∨ x = .lst (aN ls))/\ls.length<=4096/\(¬ bZ r c->Ep "BadBoard")/\(bZ r c->¬ fD r c ls->Ep "BadSet")/\
 (bZ r c->fD r c ls->(dZ (ls.map cX) sts=none->Ep "NoPaper")/\∀ T,dZ (ls.map cX) sts=some T->(¬ fF T->Ep "NoPaper")/\(fF T->∀ bs:List Bx,bs.Perm T->bs.Pairwise (fun u v=>HT.aL v.k u.k=false)->Q (.lst (bM bs))))
noncomputable def V8 (Ep:Str->Prop):aO:=(aJ (hZ 4 (aI sM (a7 (aI mS (a7 (jW Ep jX (a7 (a5 0) (a7 (a5 1) (a7 (a5 2) aC)))) aC)) aC)))
 (aJ (dU (dS (a5 3)) (cG 5)
  (aJ (cF (kL (aX (aI sL (a7 (a5 4) (a7 (a5 5) aC))))) (mH Ep "NoPaper" (a7 (qC (.str "a step is of two near boxes that are there, the lesser first")) aC)) cL)
  (aJ (rL 4 (bC (a5 5) (qC (.int 0))))
  (aJ (rL 4 (bC (a5 5) (qC (.int 1))))
  (jQ 4 (aI mR (a7 (bC (a5 5) (qC (.int 0))) (a7 (bC (a5 5) (qC (.int 1))) aC))) (qC (.bl true)))))))
 (aJ (b7 6 (aI wI (a7 (a5 4) aC)))
 (aJ (dU (vP (a5 6)) (gP 7 8)
  (cF (aX (E5 (aI lB (a7 (qF (a5 6) qD (qE (a5 7))) (a7 (a5 8) aC))) (qC .non))) (mH Ep "NoPaper" (a7 (qC (.str "near boxes are left behind the last step")) aC)) cL))
 (jM 6)))))
theorem V9 (T:List Bx) (j:Nat):(bH T).eraseIdx j=bH (T.eraseIdx j):=by unfold bH; rw [Raw.jA]
theorem W0 {T:List Bx}{j:Nat}{x:Bx} (h:((bH T).map (·.1))[j]? = some (kn x.k)):T[j]? = some x:=by
 unfold bH at h
 rw [bb5,aX1] at h
 cases e:T[j]? with
 | none=>rw [e] at h; cases h
 | some y=>rw [e] at h; rw [U7 (aZ0 h)]
theorem W5 {T:List Bx}{x:Bx} (h:x ∈ T):∃ j:Nat,((bH T).map (·.1))[j]? = some (kn x.k):=by
 obtain ⟨j,hj⟩:=bi8 h
 refine⟨j,?_⟩
 unfold bH
 rw [bb5,aX1,hj]; rfl
theorem aN4:mI V8 ["rows","columns","seeds","steps","there","step","boxes","turn","box"] sO:=by
 rintro Ep xs Q ⟨r,c,x,ls,sts,rfl,hx,hl,e1,e2,q⟩
 refine⟨_,rfl,_,rfl,_,rfl,r,c,x,ls,rfl,hx,hl,e1,e2,fun ok st=>?_⟩
 obtain ⟨qn,q⟩:=q ok st
 have nd:ls.Nodup:=wD st.1
 refine⟨_,ls,rfl,.inl rfl,hl,ls.map cX,rfl,aM9 nd,by rw [aW5]; exact hl,rfl,aM5 _,?_⟩
 refine⟨_,rfl,fX sts,rfl,mO,fun i ρ=>∃ (T:List Bx) (z5:Option Slot),dZ (ls.map cX) (sts.take i)=some T/\ρ = [si r,si c,some (.sh (flat x) x),some (.sh (flat (.lst (fX sts))) (.lst (fX sts))),some (.own (.dT (bH T))),z5,none,none,none],⟨ls.map cX,none,rfl,rfl⟩,?_,?_⟩
 ·rintro i v ρ hv ⟨T,z5,hw,rfl⟩
  obtain ⟨s,rfl,hs⟩:=aN2 hv
  have tk:sts.take (i+1)=sts.take i ++ [s]:=by rw [aZ9,hs]; rfl
  have wn:dZ (ls.map cX) (sts.take (i+1))=iA s T:=by rw [tk,sH,hw]; rfl
  have tnd:=(oE nd _ hw).2
  have tl:=jZ.len hw
  refine iR (aM3 s) ?_
  refine⟨_,rfl,_,rfl,T,s,rfl,_,rfl,?_⟩
  cases hok:i9 T s with
  | false=>
   refine aZ ⟨by show 1<=1000; decide,qn ?_⟩
   have:dZ (ls.map cX) (sts.take (i+1))=none:=by rw [wn]; unfold iA; rw [hok]; rfl
   have:=aL4 (b:=sts.drop (i+1)) this
   rwa [ba7] at this
  | true=>
   obtain ⟨h1,h2,h3,h4⟩:=sJ.mp hok
   have ne:=T8 h3
   refine aS ⟨bH T,rfl,_,rfl,_,_,_,rfl,rfl,rfl,kn s.1.k,by rw [mT],W5 h1,fun j hj=>?_⟩
   rw [V9,V5 tnd (W0 hj)]
   have h2':s.2 ∈ T.erase s.1:=(List.mem_erase_of_ne ne.symm).mpr h2
   refine⟨bH (T.erase s.1),rfl,_,rfl,_,_,_,rfl,rfl,rfl,kn s.2.k,by rw [mT],W5 h2',fun j hj=>?_⟩
   rw [V9,V5 (tnd.erase _) (W0 hj)]
   have ll:(gH T s).length<=T.length:=aZ8 (List.length_erase_le ..) (List.length_erase_le ..)
   refine⟨bH (gH T s),rfl,_,rfl,_,_,_,rfl,rfl,rfl,_,rfl,_,_,_,rfl,rfl,rfl,s.1,s.2,rfl,kn (bP s.1 s.2).k,by rw [mT],trivial,by rw [V1]; omega,?_⟩
   rw [V0]
   refine⟨jF T s,some (.sh true (lC s)),?_,rfl⟩
   rw [wn]
   unfold iA
   rw [if_pos hok]
 ·rintro ρ ⟨T,z5,hw,rfl⟩
  rw [aW5,ba6] at hw
  obtain ⟨q1,q2⟩:=q T hw
  refine⟨_,rfl,bH T,T.map Bx.k,rfl,aM4 T,fun k hk=>?_,fun ms pm so=>⟨trivial,?_⟩⟩
  ·obtain ⟨b,_,rfl⟩:=ba3.mp hk
   unfold Bx.k
   exact List.cons_ne_nil _ _
  obtain ⟨bs,rfl,pb⟩:=aM8 pm
  rw [bg6] at so
  refine⟨_,rfl,bM bs,.inl rfl,(fun z=>by cases z),fun i ρ=>∃ z7 z8:Option Slot,fF (bs.take i)/\ρ = [si r,si c,some (.sh (flat x) x),some (.sh (flat (.lst (fX sts))) (.lst (fX sts))),some (.own (.dT (bH T))),z5,some (.sh true (.lst (bM bs))),z7,z8],⟨none,none,by rw [List.take_zero]; exact bi9,rfl⟩,?_,?_⟩
  ·rintro i v ρ hv ⟨z7,z8,far,rfl⟩
   obtain ⟨w,hw2,rfl⟩:=aB2 hv
   obtain ⟨b,rfl,hb⟩:=oF hw2
   have tk:bs.take (i+1)=bs.take i ++ [b]:=by rw [aZ9,hb]; rfl
   refine⟨_,_,rfl,?_⟩
   have cut:i6 (bM bs) none (some (i:Int))=bM (bs.take i):=by
    rw [N1 (by omega)]
    unfold bM jD
    rw [show ((i:Int)).toNat=i by omega,List.map_take,List.map_take]
   refine⟨_,rfl,_,rfl,(i:Int),rfl,bM bs,rfl,aL6 bs,_,rfl,bs.take i,b,by rw [cut]; rfl,rfl,_,rfl,?_⟩
   cases hf:(bs.take i).find? fun y=>bI y b with
   | some y=>
    refine aZ ⟨by show 1<=1000; decide,q1 fun fT=>?_⟩
    have nr:bI y b=true:=by simpa using List.find?_some hf
    have fb:fF (bs.take (i+1)):=(fT.perm pb.symm).sublist (List.take_sublist _ _)
    rw [tk] at fb
    have:=(ba5.mp fb).2.2 y (List.mem_of_find?_eq_some hf) b (by simp)
    rw [nr] at this; cases this
   | none=>
    refine aS ⟨_,_,?_,rfl⟩
    have hn:=List.find?_eq_none.mp hf
    rw [tk]
    refine ba5.mpr ⟨far,be2 _ _,fun a ha b' hb'=>?_⟩
    rw [aX4.mp hb']
    simpa using hn a ha
  ·rintro ρ ⟨z7,z8,far,rfl⟩
   rw [vO,mP,ba6] at far
   exact⟨_,rfl,trivial,q2 (far.perm pb) bs pb so⟩
structure Grn (ls:List a9) (bs:List Bx):Prop where
 own:cQ ls bs
 far:fF bs
 so:bs.Pairwise fun u v=>HT.aL v.k u.k=false
 len:bs.length<=ls.length
noncomputable def sP:fB:=fun Ep xs Q=>∃ (r c:Int) (x:PV) (ls:List a9),xs = [.int r,.int c,x]/\(x = .tup (aN ls) ∨ x = .lst (aN ls))/\ls.length<=4096/\(¬ bZ r c->Ep "BadBoard")/\(bZ r c->¬ fD r c ls->Ep "BadSet")/\
 (bZ r c->fD r c ls->∀ bs,Grn ls bs->Q (.lst (bM bs)))
noncomputable def W6 (Ep:Str->Prop):aO:=(bV (jW Ep sO (a7 (a5 0) (a7 (a5 1) (a7 (a5 2) (a7 (jW Ep sN (a7 (a5 0) (a7 (a5 1) (a7 (a5 2) aC)))) aC))))))
theorem aN5:mI W6 ["rows","columns","seeds"] sP:=by
 rintro Ep xs Q ⟨r,c,x,ls,rfl,hx,hl,e1,e2,q⟩
 refine⟨_,rfl,_,rfl,_,rfl,_,rfl,_,rfl,_,rfl,r,c,x,ls,rfl,hx,hl,e1,e2,fun ok st sts T hw far sl=>?_⟩
 have nd:ls.Nodup:=wD st.1
 refine⟨r,c,x,ls,sts,rfl,hx,hl,e1,e2,fun _ _=>⟨(fun z=>by rw [hw] at z; cases z),fun T' hw'=>?_⟩⟩
 rw [hw] at hw'
 cases hw'
 exact⟨fun z=>absurd far z,fun _ bs pb so=>⟨trivial,q ok st bs ⟨((oE nd sts hw).1).perm pb,far.perm pb.symm,so,by rw [pb.length_eq]; exact jZ.len hw⟩⟩⟩
theorem wV (a b:List a9):aN a ++ aN b=aN (a ++ b):=by unfold aN; rw [aZ1]
theorem W7 {i j:Nat}{a b:Int}{g:Bool}{ρ:b6}{Q:b6->Prop} (q:Q ((ρ.set i (si a)).set j (si b))):gP i j (.tup [.int a,.int b]) g ρ Q:=by
 refine⟨_,_,rfl,?_⟩
 rw [show flat (.int a)=true from rfl,show flat (.int b)=true from rfl,Bool.or_true]
 exact q
section
variable {ns : List Int} {a r c z t l : Int} {Q : PV → Prop} (q : ∀ x : Bx, Q (cW x))
include q
end
theorem aN6 {i j k l:Nat}{x:Bx}{g:Bool}{ρ:b6}{Q:b6->Prop} (q:Q ((((ρ.set i (si x.t)).set j (si x.l)).set k (si x.b)).set l (si x.r))):sB i j k l (cW x) g ρ Q:=by
 refine⟨_,_,_,_,rfl,?_⟩
 rw [show flat (.int x.t)=true from rfl,show flat (.int x.l)=true from rfl,show flat (.int x.b)=true from rfl,show flat (.int x.r)=true from rfl,Bool.or_true]
 exact q
end Core
namespace PP
open PySem L2
noncomputable abbrev Cau:=Option (Int × List Int)
end PP
namespace L2
open PySem PySem.Spec PyProof.Rows
noncomputable abbrev Cx.re (X:Cx) (H0:Hp):Cx:={ X with H₀:=H0 }
section
variable {X : Cx} {pins : List (Addr × Obj)} {σ : St} {H : Hp} {s : Shared} {a : Addr} {o : Obj} {u : HO}
theorem a6.re (I:a6 X pins σ H s) (hx:X.H₀ a=some u) (ha:H a=some (.frz o u)):a6 (X.re (upd X.H₀ a (.frz o u))) pins σ H s:=by
 have ne:∀ b,X.H₀ b=none->b ≠ a:=fun b e z=>by rw [z,hx] at e; cases e
 have un:∀ b,upd X.H₀ a (.frz o u) b=none->X.H₀ b=none:=fun b e=>by
  by_cases z:b=a
  ·rw [z,b9] at e; cases e
  ·rw [aF z] at e; exact e
 have ok:=I.ok
 exact⟨⟨ok.mod,ok.kind,ok.glob,ok.blt,ok.above,ok.inj,ok.has,ok.cab,ok.hd,ok.frames,ok.stk,ok.exf,fun b o' e=>⟨(ok.bs b o' e).1,by show upd X.H₀ a _ b=none; rw [aF (ne b (ok.bs b o' e).2)]; exact (ok.bs b o' e).2⟩,ok.bsz,ok.noex,ok.exfs,ok.funs,fun b hb=>by show upd X.H₀ a _ b=none; rw [aF (ne b (ok.frf b hb))]; exact ok.frf b hb⟩,I.os,I.bare,
  ⟨fun b o' e n=>I.base.keep b o' e (un b n),fun b o' e n=>I.base.slot b o' e (un b n),fun b o' e n=>I.base.free b o' e (un b n),I.base.there,fun b xs e=>by
   by_cases z:b=a
   ·have e:upd X.H₀ a (.frz o u) b=some (.tup xs):=e
    rw [z,b9] at e; cases e
   ·exact I.base.tups b xs (by have e:upd X.H₀ a (.frz o u) b=some (.tup xs):=e; rw [aF z] at e; exact e),fun b o' v e=>by
   by_cases z:b=a
   ·have e:upd X.H₀ a (.frz o u) b=some (.frz o' v):=e
    rw [z,b9] at e; cases e; rw [z]; exact ha
   ·exact I.base.frzs b o' v (by have e:upd X.H₀ a (.frz o u) b=some (.frz o' v):=e; rw [aF z] at e; exact e),fun b ps e=>by
   by_cases z:b=a
   ·have e:upd X.H₀ a (.frz o u) b=some (.tbl ps):=e
    rw [z,b9] at e; cases e
   ·exact I.base.tbls b ps (by have e:upd X.H₀ a (.frz o u) b=some (.tbl ps):=e; rw [aF z] at e; exact e)⟩,I.loc,I.cell,I.free,I.freeC,I.pin,I.hok,I.len⟩
theorem a6.unre (I:a6 (X.re (upd X.H₀ a (.frz o u))) pins σ H s) (hx:X.H₀ a=some u) (du:gV u=true):a6 X pins σ H s:=by
 have ne:∀ b,X.H₀ b=none->b ≠ a:=fun b e z=>by rw [z,hx] at e; cases e
 have to_:∀ b,X.H₀ b=none->upd X.H₀ a (.frz o u) b=none:=fun b e=>by rw [aF (ne b e)]; exact e
 have un:∀ b,upd X.H₀ a (.frz o u) b=none->X.H₀ b=none:=fun b e=>by
  by_cases z:b=a
  ·rw [z,b9] at e; cases e
  ·rw [aF z] at e; exact e
 have ok:=I.ok
 exact⟨⟨ok.mod,ok.kind,ok.glob,ok.blt,ok.above,ok.inj,ok.has,ok.cab,ok.hd,ok.frames,ok.stk,ok.exf,fun b o' e=>⟨(ok.bs b o' e).1,un b (ok.bs b o' e).2⟩,ok.bsz,ok.noex,ok.exfs,ok.funs,fun b hb=>un b (ok.frf b hb)⟩,I.os,I.bare,
  ⟨fun b o' e n=>I.base.keep b o' e (to_ b n),fun b o' e n=>I.base.slot b o' e (to_ b n),fun b o' e n=>I.base.free b o' e (to_ b n),I.base.there,fun b xs e=>I.base.tups b xs (by
   show upd X.H₀ a _ b=_
   rw [aF fun z=>by rw [z,hx] at e; cases e; cases du]; exact e),fun b o' v e=>I.base.frzs b o' v (by
   show upd X.H₀ a _ b=_
   rw [aF fun z=>by rw [z,hx] at e; cases e; cases du]; exact e),fun b ps e=>I.base.tbls b ps (by
   show upd X.H₀ a _ b=_
   rw [aF fun z=>by rw [z,hx] at e; cases e; cases du]; exact e)⟩,I.loc,I.cell,I.free,I.freeC,I.pin,I.hok,I.len⟩
structure ReH (H0 H1:Hp) (a:Addr) (o:Obj) (u:HO):Prop where
 how:(H0 a=none/\H1=H0) ∨ (H0 a=some u/\H1=upd H0 a (.frz o u))
 was:∀ w,H0 a=some w->w=u
noncomputable def W8 (X:Cx) (T:Hp->TS):TS:=fun D σ H=>∃ H1 a o u,ReH X.H₀ H1 a o u/\gV u=true/\H a=some (.frz o u)/\T H1 D σ H
theorem aN7 {body:List Stmt}{T:Hp->TS} (hb:∀ H0,dN (X.re H0) body (T H0)):dN X body (W8 X T):=by
 intro pins s σ H D I h
 obtain ⟨H1,a,o,u,⟨how,_⟩,du,ha,t⟩:=h
 rcases how with ⟨_,rfl⟩ | ⟨hx,rfl⟩
 ·exact hb X.H₀ pins s σ H D I t
 ·refine aK (hb (upd X.H₀ a (.frz o u)) pins s σ H D (I.re hx ha) t) fun f s1 h1=>?_
  cases f with
  | next=>obtain ⟨σ',H',I',q⟩:=h1; exact⟨σ',H',I'.unre hx du,q⟩
  | brk=>obtain ⟨σ',H',I',q⟩:=h1; exact⟨σ',H',I'.unre hx du,q⟩
  | cont=>obtain ⟨σ',H',I',q⟩:=h1; exact⟨σ',H',I'.unre hx du,q⟩
  | ret v=>obtain ⟨w,σ',H',I',q⟩:=h1; exact⟨w,σ',H',I'.unre hx du,q⟩
noncomputable def W9 (X:Cx) (i:Nat) (g:TG) (tb:TS):TS:=fun D σ H=>oY (rS (fH i)) g tb { nx:=fun σ' H'=>∃ a o u,H' a=some (.frz o u)/\(∀ o' v',X.H₀ a ≠ some (.frz o' v'))/\D.nx σ' (upd H' a u),rt:=fun _ _=>False } σ H
theorem aN8 {st:Stmt}{i:Nat}{g:TG}{tb:TS} (h:PS X st (oY (rS (fH i)) g tb)):PS X st (W9 X i g tb):=by
 intro pins s σ H D I hq
 refine aK (h pins s σ H _ I hq) fun f s1 h1=>?_
 cases f with
 | next=>
  obtain ⟨σ',H1,I1,a,o,u,e,n,q⟩:=h1
  exact⟨σ',_,I1.thaw e n,q⟩
 | brk=>obtain ⟨_,_,_,q⟩:=h1; exact q.elim
 | cont=>obtain ⟨_,_,_,q⟩:=h1; exact q.elim
 | ret v=>obtain ⟨_,_,_,_,_,q⟩:=h1; exact q.elim
end
end L2
namespace PP
open PySem L2
noncomputable def oH:Slot->Bool
 | .sh _ x=>dF x
 | .own (.lst xs)=>nods xs
 | .own (.dK ps)=>nods (ps.map (·.2))
 | .own (.dT ps)=>nods (ps.map (·.2))
 | .own _=>false
section
variable {K : PySem.W.Frag} {H0 H1 : Hp} {W : Addr → Prop} {σ : St} {ρ : b6} {H : Hp} {a : Addr} {o : Obj} {u : HO}
theorem _root_.L2.ReH.nn (R:ReH H0 H1 a o u) (b:Addr):H1 b=none ↔ H0 b=none:=by
 rcases R.how with ⟨_,rfl⟩ | ⟨e,rfl⟩
 ·exact Iff.rfl
 ·by_cases z:b=a
  ·rw [z,b9,e]; exact⟨(fun z=>by cases z),fun z=>by cases z⟩
  ·rw [aF z]
theorem _root_.L2.ReH.off (R:ReH H0 H1 a o u) {b:Addr} (z:b ≠ a):H1 b=H0 b:=by
 rcases R.how with ⟨_,rfl⟩ | ⟨e,rfl⟩
 ·rfl
 ·rw [aF z]
theorem X0 (R:ReH H0 H1 a o u) {g:Bool}{b:Addr}:Ms H0 W g b ↔ Ms H1 W g b:=by
 cases g with
 | true=>exact and_congr Iff.rfl (R.nn b).symm
 | false=>exact Iff.rfl
theorem aN9 (R:ReH H0 H1 a o u) {H':Hp}{m:Slot}{v:V} (sf:oH m=true) (kn:∀ g,iO (Ms H0 W g) (Ms H1 W g) H H') (km:∀ b w,W b->H b=some w->H' b=some w) (r:pO K H0 W H v m):pO K H1 W H' v m:=by
 cases m with
 | sh g x=>exact aA.keepN (kn g) sf r
 | own x=>
  obtain ⟨b,e1,wb,r⟩:=r
  refine⟨b,e1,wb,?_⟩
  cases x with
  | lst xs=>obtain ⟨us,e,r⟩:=r; exact⟨us,km b _ wb e,Reps.keepN (kn true) sf r⟩
  | dK ps=>obtain ⟨us,e,q,r⟩:=r; exact⟨us,km b _ wb e,q,Reps.keepN (kn true) sf r⟩
  | dT ps=>obtain ⟨us,e,q,r⟩:=r; exact⟨us,km b _ wb e,q,Reps.keepN (kn true) sf r⟩
  | _=>cases sf
theorem aO0 {i:Nat}{x:PV} (px:PX K H0 W σ ρ H) (R:ReH H0 H1 a o u) (ha:H a=some u) (du:gV u=true) (wa : ¬ W a) (ev:σ[i]? = some (some (.ref a))) (sf:∀ j m,j ≠ i->ρ[j]? = some (some m)->oH m=true)
  (rf:aA K (fun b=>¬ W b) (upd H a (.frz o u)) (.ref a) (fz x)):PX K H1 W σ (ρ.set i (some (.sh false (fz x)))) (upd H a (.frz o u)):=by
 have nw:∀ b,W b->b ≠ a:=fun b z e=>wa (e ▸ z)
 refine⟨by rw [bf9]; exact px.len,fun b w e=>?_,fun b z=>?_,fun j m h=>?_,fun j k y z b h1 h2 h3 h4=>?_⟩
 ·by_cases z:b=a
  ·subst z
   rcases R.how with ⟨n0,rfl⟩ | ⟨e0,rfl⟩
   ·rw [n0] at e; cases e
   ·rw [b9] at e ⊢; exact e
  ·rw [aF z]; rw [R.off z] at e; exact px.same _ _ e
 ·obtain ⟨h1,w,h2,h3⟩:=px.wm b z
  exact⟨(R.nn b).mpr h1,w,by rw [aF (nw b z)]; exact h2,h3⟩
 ·rcases gE h with ⟨rfl,hl,e⟩ | ⟨hne,h⟩
  ·cases e
   exact⟨_,ev,rf⟩
  ·obtain ⟨v,e,r⟩:=px.sl j m h
   exact⟨v,e,aN9 R (sf j m hne h) (fun g=>.froze ha du fun b us hb _=>(X0 R).mp hb) (fun b w wb e=>by rw [aF (nw b wb)]; exact e) r⟩
 ·rcases gE h1 with ⟨_,_,e⟩ | ⟨_,h1⟩
  ·cases e
  ·rcases gE h2 with ⟨_,_,e⟩ | ⟨_,h2⟩
   ·cases e
   ·exact px.dis j k y z b h1 h2 h3 h4
theorem aO1 {ρ3:b6}{H2:Hp} (px:PX K H1 W σ ρ H2) (R:ReH H0 H1 a o u) (ha:H2 a=some (.frz o u)) (du:gV u=true) (wa : ¬ W a) (hl:ρ3.length=ρ.length) (sf:∀ (j:Nat) m,ρ3[j]? = some (some m)->ρ[j]? = some (some m)/\oH m=true):PX K H0 W σ ρ3 (upd H2 a u):=by
 have nw:∀ b,W b->b ≠ a:=fun b z e=>wa (e ▸ z)
 have kn:∀ g,iO (Ms H1 W g) (Ms H0 W g) H2 (upd H2 a u):=fun g=>.thaw ha du fun b us hb _=>(X0 R).mpr hb
 refine⟨by rw [hl]; exact px.len,fun b w e=>?_,fun b z=>?_,fun j m h=>?_,fun j k y z b h1 h2 h3 h4=>px.dis j k y z b (sf _ _ h1).1 (sf _ _ h2).1 h3 h4⟩
 ·by_cases z:b=a
  ·subst z
   rw [R.was w e,b9]
  ·rw [aF z]; rw [<- R.off z] at e; exact px.same _ _ e
 ·obtain ⟨h1,w,h2,h3⟩:=px.wm b z
  exact⟨(R.nn b).mp h1,w,by rw [aF (nw b z)]; exact h2,h3⟩
 ·obtain ⟨h1,h2⟩:=sf j m h
  obtain ⟨v,e,r⟩:=px.sl j m h1
  refine⟨v,e,?_⟩
  cases m with
  | sh g x=>exact aA.keepN (kn g) h2 r
  | own x=>
   obtain ⟨b,e1,wb,r⟩:=r
   have km:∀ w,H2 b=some w->upd H2 a u b=some w:=fun w e=>by rw [aF (nw b wb)]; exact e
   refine⟨b,e1,wb,?_⟩
   cases x with
   | lst xs=>obtain ⟨us,e,r⟩:=r; exact⟨us,km _ e,Reps.keepN (kn true) h2 r⟩
   | dK ps=>obtain ⟨us,e,q,r⟩:=r; exact⟨us,km _ e,q,Reps.keepN (kn true) h2 r⟩
   | dT ps=>obtain ⟨us,e,q,r⟩:=r; exact⟨us,km _ e,q,Reps.keepN (kn true) h2 r⟩
   | _=>cases h2
end
section
variable {X : Cx} {σ : St} {H : Hp} {D : dM}
noncomputable def oI (i:Nat) (p:eR) (tb:aO):aO:=fun D ρ=>∃ x ks,ρ[i]? = some (some (.sh false x))/\P6 x=some ks/\nods (P7 x)=true/\(∀ j m,j ≠ i->ρ[j]? = some (some m)->oH m=true)/\∃ I:Nat->b6->Prop,I 0 (ρ.set i (some (.sh false (fz x))))/\
 (∀ k y ρ',ks[k]? = some y->I k ρ'->p y true ρ' fun ρ2=>tb { nx:=I (k+1),ct:=I (k+1),rt:=fun _=>False } ρ2)/\∀ ρ',I ks.length ρ'->∃ ρ3,ρ3.length=ρ'.length/\(∀ (j:Nat) m,ρ3[j]? = some (some m)->ρ'[j]? = some (some m)/\oH m=true)/\D.nx ρ3
theorem aO2 {i:Nat}{p:eR}{g:TG}{tb:aO}{own:Nat->Prop} (hg:iH X.K own p g) (h:LS X (oI i p tb) D σ H):W9 X i g (W8 X fun H1=>LS (X.re H1) tb) D σ H:=by
 obtain ⟨W,ρ,D',px,⟨x,ks,hi,hk,nv,sf,I,i0,turn,fin⟩,k⟩:=h
 obtain ⟨v,ev,r⟩:=px.sl i _ hi
 have r:aA X.K (fun b=>¬ W b) H v x:=r
 have tupW:∀ {b:Addr}{us:List V},H b=some (.tup us)->¬ W b:=fun {b us} e z=>by
  obtain ⟨_,w,e2,m⟩:=px.wm b z
  rw [e] at e2; cases e2; cases m
 obtain ⟨a,u,rfl,ha,du,wa,frz,keys⟩:∃ a u,v = .ref a/\H a=some u/\gV u=true/\¬ W a/\(∀ o:Obj,aA X.K (fun b=>¬ W b) (upd H a (.frz o u)) (.ref a) (fz x))/\
   ∀ ys,rR H u ys->ys.length=ks.length/\∀ (o:Obj) (W':Addr->Prop) (H':Hp) (M:Addr->Prop) (j:Nat) (y:V),Ev W (upd H a (.frz o u)) W' H'->ys[j]? = some y->∃ x,ks[j]? = some x/\aA X.K M H' y x:=by
  cases r with
  | @dK a kvs ps wa ha ek rv=>
   cases hk
   refine⟨a,_,rfl,ha,rfl,wa,fun o=>.fK b9 ek (Reps.keepN (.froze ha rfl fun b us hb _=>hb) nv rv),fun ys ky=>?_⟩
   obtain rfl:ys=kvs.map fun p=>kV p.1:=ky
   have lk:=nM ek
   refine⟨by rw [aW5,aW5]; exact lk,fun o W' H' M j y s hy=>?_⟩
   rw [aX1] at hy
   cases e:kvs[j]? with
   | none=>rw [e] at hy; cases hy
   | some kv=>
    rw [e] at hy; cases hy
    have:(kvs.map (·.1))[j]? = some kv.1:=by rw [aX1,e]; rfl
    rw [ek,aX1] at this
    cases e2:ps[j]? with
    | none=>rw [e2] at this; cases this
    | some pp=>
     rw [e2] at this
     have e3:pp.1=kv.1:=aZ0 this
     exact⟨kP pp.1,by rw [aX1,e2]; rfl,by rw [e3]; exact P9 kv.1⟩
  | @dT a kvs ps wa ha ek rv=>
   cases hk
   refine⟨a,_,rfl,ha,rfl,wa,fun o=>.fT b9 ek (Reps.keepN (.froze ha rfl fun b us hb _=>hb) nv rv),fun ys ky=>?_⟩
   have ky:Paired (fP H) ys (kvs.map (·.1)):=ky
   have lk:=nM ek
   have ll:=ky.length
   rw [aW5] at ll
   refine⟨by rw [aW5]; omega,fun o W' H' M j y s hy=>?_⟩
   obtain ⟨key,hkey,q2,rfl,hq2⟩:=vX ky hy
   rw [ek,aX1] at hkey
   cases e2:ps[j]? with
   | none=>rw [e2] at hkey; cases hkey
   | some pp=>
    rw [e2] at hkey
    have e3:pp.1=key:=aZ0 hkey
    refine⟨.tup (pp.1.map kP),by rw [aX1,e2]; rfl,?_⟩
    rw [e3]
    exact .tup (s _ _ (by rw [aF (fun z=>by rw [z,ha] at hq2; cases hq2)]; exact hq2) (tupW hq2)).1 (Reps.keys key)
  | _=>cases hk
 refine⟨_,ev,a,u,rfl,ha,du,fun o ys pk=>?_⟩
 obtain ⟨lk,kys⟩:=keys ys pk
 obtain ⟨H1,R⟩:∃ H1,ReH X.H₀ H1 a o u:=by
  cases e:X.H₀ a with
  | none=>exact⟨X.H₀,.inl ⟨e,rfl⟩,fun w z=>by rw [e] at z; cases z⟩
  | some w=>
   have:=px.same _ _ e
   rw [ha] at this; cases this
   exact⟨_,.inr ⟨e,rfl⟩,fun w z=>by rw [e] at z; cases z; rfl⟩
 have nofr:∀ o' v',X.H₀ a ≠ some (.frz o' v'):=fun o' v' e=>by have:=px.same _ _ e; rw [ha] at this; cases this; cases du
 refine⟨fun j m σ2 H2=>m=ks.length - j/\j<=ks.length/\∃ W2 ρ2,PX X.K H1 W2 σ2 ρ2 H2/\Ev W (upd H a (.frz o u)) W2 H2/\I j ρ2,⟨ks.length,by omega,bf0 _,W,_,aO0 px R ha du wa ev sf (frz o),Ev.refl _ _,i0⟩,?_⟩
 rintro j m σ2 H2 ⟨rfl,hj,W2,ρ2,px2,e2,i2⟩
 obtain ⟨fro,wa2⟩:=e2 _ _ b9 wa
 by_cases hlt:j < ks.length
 ·refine .inr ⟨⟨⟨_,fro⟩,by omega⟩,fun σ3 H3=>∃ W3 ρ3,PX X.K H1 W3 σ3 ρ3 H3/\Ev W (upd H a (.frz o u)) W3 H3/\I (j+1) ρ3,fun σ3 H3 ⟨W3,ρ3,a,b,c⟩=>⟨ks.length - (j+1),by omega,rfl,hlt,W3,ρ3,a,b,c⟩,fun v H3 y=>?_⟩
  obtain ⟨rfl,hy⟩:=y
  obtain ⟨x',hx,rx⟩:=kys o W2 H3 (Ms H1 W2 true) j v e2 hy
  refine hg H1 W2 σ2 ρ2 H3 v x' true _ _ px2 rx (turn j x' ρ2 hx i2) fun σ4 ρ4 px4 _ _ q4=>?_
  exact⟨H1,a,o,u,R,du,fro,W2,ρ4,_,px4,q4,fun W' σ' H' ρ' e p q=>⟨W',ρ',p,e2.trans e,q⟩,(fun _ _ _ _ _ z=>z.elim),(fun _ _ _ _ _ _ z=>z.elim),fun W' σ' H' ρ' e p q=>⟨W',ρ',p,e2.trans e,q⟩⟩
 ·obtain rfl:j=ks.length:=by omega
  obtain ⟨ρ3,hl,h3,q⟩:=fin ρ2 i2
  refine .inl ⟨⟨⟨_,fro⟩,lk.symm⟩,a,o,u,fro,nofr,k.nx W2 σ2 _ ρ3 (fun b w e n=>?_) (aO1 px2 R fro du wa2 hl h3) q⟩
  by_cases hb:b=a
  ·subst hb
   rw [ha] at e; cases e
   exact⟨b9,wa2⟩
  ·rw [aF hb]
   exact e2 b w (by rw [aF hb]; exact e) n
end
section
variable {X : Cx} {e : Expr} {t : aO} {pos : Pos}
theorem aO3 {tg:Expr}{p:eR}{g:TG}{own:Nat->Prop}{body:List Stmt}{d:Nat}{y:Str}{yp:Pos} (hp:PassesOwn (model X.prog X.w) X.A X.env X.xe) (hc:X.calm=true) (hi:PE X (.Name y yp) (fH d)) (hg:PG X tg g) (ho:iH X.K own p g) (hb:∀ H0,dW (X.re H0) body t) (hs:∀ x,foldedSetIterable (.Name y yp) X.env x=pure x:=by intro _; rfl) :
  QS X (.For tg (.Name y yp) body [] pos) (oI d p t):=eU (aN8 (xW hp hc (P5 hi) hg (aN7 hb) hs)) fun _ _ _ h=>aO2 ho h
theorem X1 (d i j:Nat) {x z y:Str}{tp xp zp yp:Pos}{kt:Nat}{body:List Stmt} (hN:X.N.Nodup) (hb:∀ H0,dW (X.re H0) body t) (hi:PE X (.Name y yp) (fH d):=by exact pv _) (hx:X.N[i]? = some x:=by rfl) (hz:X.N[j]? = some z:=by rfl) (hlx:fG X.env.scope x:=by first | exact Or.inl rfl | exact Or.inr rfl) (hlz:fG X.env.scope z:=by first | exact Or.inl rfl | exact Or.inr rfl)
  (hfx:X.fn x=true ∨ X.env.scope.names.lookup x=some .local:=by first | exact .inl rfl | exact .inr rfl) (hfz:X.fn z=true ∨ X.env.scope.names.lookup z=some .local:=by first | exact .inl rfl | exact .inr rfl)
  (hp:PassesOwn (model X.prog X.w) X.A X.env X.xe:=by exact PassesOwn.never) (hc:X.calm=true:=by rfl) (hs:∀ x,foldedSetIterable (.Name y yp) X.env x=pure x:=by intro _; rfl):QS X (.For (.Tuple [.Name x xp,.Name z zp] kt tp) (.Name y yp) body [] pos) (oI d (gP i j) t):=
 aO3 hp hc hi (mZ hc (gJ (fJ hN hx hlx hfx) (gJ (fJ hN hz hlz hfz) mY))) (pY _ i j) hb hs
end
section
variable {X : Cx} {scope : Scope} {N : List Str} {fr : List (Option Nat)} {x y : Str} {tp pos p2 yp : Pos} {elt c : Expr} {te : aE} {tcs : bY} {i : Nat}
theorem aO4 (d:Nat) (ht:∀ (s:Shared) (H:Hp) (C:Addr) (fp:List Addr),QT (bO X scope N s H C fp cH) c tcs) (he:∀ (s:Shared) (H:Hp) (C:Addr) (fp:List Addr),QE (bO X scope N s H C fp cH) elt te) (hi:PE X (.Name y yp) (fH d):=by exact pv _)
  (hc:X.calm=true:=by rfl) (S:dR X scope N fr:=by exact dR.of rfl rfl) (hN:N.Nodup:=by decide +kernel) (h0:N[0]? = some x:=by rfl) (hl:∀ (s:Shared) (H:Hp) (C:Addr) (fp:List Addr),(bO X scope N s H C fp cH).env.scope.names.lookup x=some .local:=by intro _ _ _ _; rfl) (hf:fr[0]? = some none:=by rfl)
  (hs:∀ x,foldedSetIterable (.Name y yp) X.env x=pure x:=by intro _; rfl):QE X (.ListComp elt [⟨.Name x tp,.Name y yp,[c],0⟩] scope pos) (wE d fr (cG 0) tcs te):=
 c7 (ay0 (pL (gh:=fun _=>cR 0) (tch:=fun H=>LT (X.frm H) tcs) (teh:=fun H=>LE (X.frm H) te) hc S (P5 hi) (qO he (fun s H C fp=>tO (ht s H C fp)) hN h0 hl) hs)) fun _ _ _=>aF2 (nL _ 0) (fun i e=>by subst e; exact hf)
end
end PP
namespace Core
open PySem L2 PP
noncomputable def bJ (p:a9):List a9:=[(p.1 - 1,p.2),(p.1+1,p.2),(p.1,p.2 - 1),(p.1,p.2+1)]
theorem iB {p q:a9}:q ∈ bJ p ↔ eF p q:=by
 obtain ⟨a,b⟩:=p
 obtain ⟨c,d⟩:=q
 unfold bJ eF
 simp only [aW9,aX9,bb3,Prod.mk.injEq]
 omega
theorem lD (p:a9):(bJ p).Nodup:=by
 obtain ⟨a,b⟩:=p
 unfold bJ
 simp only [bb4,aW9,aX9,bb3,Prod.mk.injEq,bl3,and_true,not_false_eq_true]
 refine⟨?_,?_,?_⟩ <;> omega
theorem X2 {p q:a9} (h:eF p q):eF q p:=by unfold eF at h ⊢; omega
theorem X3 {p q:a9}:q ∈ bJ p ↔ p ∈ bJ q:=by rw [iB,iB]; exact⟨X2,X2⟩
theorem aO5 {p:a9}:p ∉ bJ p:=by rw [iB]; unfold eF; omega
noncomputable def gY (K:List a9) (p:a9):Nat:=((bJ p).filter fun q=>decide (q ∈ K)).length
noncomputable def cI (K:List a9) (p:a9):Nat:=((bJ p).filter fun q=>!decide (q ∈ K)).length
theorem X4 {α:Type} (f:α->Bool):∀ l:List α,(l.filter fun x=>!f x).length+(l.filter f).length=l.length
 | []=>rfl
 | x :: l=>by
  have ih:=X4 f l
  rw [bg3,bg3]
  cases f x <;> simp <;> omega
theorem X5 (K:List a9) (p:a9):cI K p+gY K p=4:=X4 (fun q=>decide (q ∈ K)) (bJ p)
noncomputable def bT (K:List a9):Nat:=(K.map (cI K)).sum
theorem aO6 {K K':List a9} (h:∀ x,x ∈ K ↔ x ∈ K') (p:a9):cI K p=cI K' p:=by
 unfold cI
 rw [show (fun q=>!decide (q ∈ K))=fun q=>!decide (q ∈ K') from funext fun q=>by rw [decide_eq_decide.mpr (h q)]]
theorem aO7 {K K':List a9} (p:K.Perm K'):bT K=bT K':=by
 unfold bT
 rw [show cI K=cI K' from funext fun q=>aO6 (fun x=>p.mem_iff) q]
 exact (p.map _).sum_nat
theorem lE:∀ {A B:List a9},A.Nodup->(∀ x ∈ A,x ∈ B)->A.length<=B.length
 | [],_,_,_=>bf0 _
 | a :: A,B,nd,sub=>by
  have ha:=sub a aX3
  have n:=bb4.mp nd
  have ih:=lE (A:=A) (B:=B.erase a) n.2 fun x hx=>(List.mem_erase_of_ne fun (e:x=a)=>n.1 (e ▸ hx)).mpr (sub x (aX0 _ hx))
  have:=List.length_erase_of_mem ha
  have:=List.length_pos_of_mem ha
  rw [ba0]
  omega
theorem X6 {K:List a9} (nd:K.Nodup) (x:a9):(K.filter fun p=>decide (x ∈ bJ p)).length=gY K x:=by
 refine Nat.le_antisymm (lE (nd.filter _) fun p hp=>?_) (lE ((lD x).filter _) fun p hp=>?_)
 ·obtain ⟨h1,h2⟩:=ba1.mp hp
  exact ba1.mpr ⟨X3.mp (bd3 h2),aX2 h1⟩
 ·obtain ⟨h1,h2⟩:=ba1.mp hp
  exact ba1.mpr ⟨bd3 h2,aX2 (X3.mp h1)⟩
theorem wW {K:List a9}{x:a9} (hx:x ∉ K):∀ {L:List a9},L.Nodup->(L.filter fun q=>!decide (q ∈ K ++ [x])).length+(if x ∈ L then 1 else 0)=(L.filter fun q=>!decide (q ∈ K)).length
 | [],_=>rfl
 | a :: L,nd=>by
  have n:=bb4.mp nd
  have ih:=wW hx (L:=L) n.2
  by_cases e:a=x
  ·subst e
   rw [if_neg n.1] at ih
   rw [List.filter_cons_of_neg (by simp),if_pos aX3,List.filter_cons_of_pos (by simpa using hx),ba0]
   omega
  ·have m:(x ∈ a :: L) ↔ x ∈ L:=⟨fun z=>(aW9.mp z).resolve_left fun w=>e w.symm,aX0 _⟩
   have c:decide (a ∈ K ++ [x])=decide (a ∈ K):=decide_eq_decide.mpr ⟨fun z=>(ba2.mp z).resolve_right fun w=>e (aX4.mp w),bb1 _⟩
   rw [bg3,bg3,c]
   have i:(if x ∈ a :: L then 1 else 0)=(if x ∈ L then 1 else 0):=by simp only [m]
   rw [i]
   cases decide (a ∈ K) with
   | true=>exact ih
   | false=>show _+1+_=_+1; omega
theorem X7 {f g:a9->Nat}{q:a9->Bool}:∀ {L:List a9},(∀ p ∈ L,g p+(if q p=true then 1 else 0)=f p)->(L.map g).sum+(L.filter q).length=(L.map f).sum
 | [],_=>rfl
 | a :: L,h=>by
  have ih:=X7 (L:=L) fun p hp=>h p (aX0 _ hp)
  have ha:=h a aX3
  rw [aY8,aY8,bc3,bc3,bg3]
  cases e:q a with
  | true=>rw [e,if_pos rfl] at ha; rw [if_pos rfl,ba0]; omega
  | false=>rw [e,if_neg (by decide)] at ha; rw [if_neg (by decide)]; omega
theorem aO8 {K:List a9}{x:a9} (nd:K.Nodup) (hx:x ∉ K):bT (K ++ [x])+2 * gY K x=bT K+4:=by
 have h1:=X7 (f:=cI K) (g:=cI (K ++ [x])) (q:=fun p=>decide (x ∈ bJ p)) (L:=K) fun p _=>by
  have:=wW hx (lD p)
  unfold cI
  simp only [aY7]
  exact this
 rw [X6 nd] at h1
 have h2:=wW hx (lD x)
 rw [if_neg aO5] at h2
 have h2:cI (K ++ [x]) x+0=cI K x:=h2
 have h3:=X5 K x
 have e:bT (K ++ [x])=(K.map (cI (K ++ [x]))).sum+cI (K ++ [x]) x:=by
  unfold bT
  rw [aZ1,List.sum_append]; simp
 have e2:bT K=(K.map (cI K)).sum:=rfl
 omega
theorem aO9 {K K':List a9} (h:∀ x ∈ K,x ∈ K') (p:a9):gY K p<=gY K' p:=
 lE ((lD p).filter _) fun q hq=>ba1.mpr ⟨(ba1.mp hq).1,aX2 (h q (bd3 (ba1.mp hq).2))⟩
theorem X8:∀ {R K:List a9},(K ++ R).Nodup->(∀ x ∈ R,2<=gY K x)->bT (K ++ R)<=bT K
 | [],K,_,_=>by rw [bb7]; exact aX5 _
 | x :: R,K,nd,h=>by
  have e:K ++ x :: R=(K ++ [x]) ++ R:=by rw [aY5]; rfl
  rw [e] at nd ⊢
  have nk:=(bg7.mp nd).1
  have n1:=bg7.mp nk
  have hx:x ∉ K:=fun z=>n1.2.2 x z x (aX4.mpr rfl) rfl
  have h1:=X8 (R:=R) (K:=K ++ [x]) nd fun y hy=>aZ8 (h y (aX0 _ hy)) (aO9 (fun z hz=>bb1 _ hz) y)
  have h2:=aO8 n1.1 hx
  have h3:=h x aX3
  omega
noncomputable def oJ (r c:Int) (K:List a9) (x:a9):Prop:=bL r c x=true/\x ∉ K/\2<=gY K x
theorem aP0 {L:List a9}{q:a9->Bool} (nd:L.Nodup) (h:2<=(L.filter q).length):∃ a b,a ≠ b/\a ∈ L/\b ∈ L/\q a=true/\q b=true:=by
 have nf:=nd.filter q
 have mem:∀ z ∈ L.filter q,z ∈ L/\q z=true:=fun z hz=>ba1.mp hz
 generalize L.filter q=F at h nf mem
 match F,h,nf with
 | a :: b :: _,_,nf=>exact⟨a,b,fun e=>(bb4.mp nf).1 (e ▸ aX3),(mem a aX3).1,(mem b (aX0 _ aX3)).1,(mem a aX3).2,(mem b (aX0 _ aX3)).2⟩
theorem aP1 {r c:Int}{S K:List a9} (bd:∀ x ∈ K,bL r c x=true) (sub:∀ x ∈ K,gW r c S x) {x:a9} (h:oJ r c K x):gW r c S x:=by
 obtain ⟨a,b,ne,ha,hb,qa,qb⟩:=aP0 (lD x) h.2.2
 have ka:=bd3 qa
 have kb:=bd3 qb
 exact .kin h.1 (iQ.mpr ⟨iB.mp ha,bd a ka⟩) (iQ.mpr ⟨iB.mp hb,bd b kb⟩) ne (sub a ka) (sub b kb)
theorem aP2 {r c:Int}{S K:List a9} (sub:∀ x ∈ S,x ∈ K) (sh:∀ x,¬ oJ r c K x) {x:a9} (h:gW r c S x):x ∈ K:=by
 induction h with
 | seed h=>exact sub _ h
 | @kin x a b bx sa sb ne _ _ ha hb=>
  refine Decidable.byContradiction fun z=>sh x ⟨bx,z,?_⟩
  have:=lE (A:=[a,b]) (B:=(bJ x).filter fun q=>decide (q ∈ K)) (bb4.mpr ⟨fun w=>ne (aX4.mp w),bb4.mpr ⟨(fun z=>by cases z),bl3⟩⟩) fun q hq=>by
   rcases aW9.mp hq with rfl | hq
   ·exact ba1.mpr ⟨iB.mpr (iQ.mp sa).1,aX2 ha⟩
   ·rw [aX4.mp hq]
    exact ba1.mpr ⟨iB.mpr (iQ.mp sb).1,aX2 hb⟩
  exact this
noncomputable def gI (a b:Int):List Int:=(List.range (b - a+1).toNat).map fun (k:Nat)=>a+(k:Int)
theorem oK {a b x:Int}:x ∈ gI a b ↔ a<=x/\x<=b:=by
 unfold gI
 rw [ba3]
 constructor
 ·rintro ⟨k,hk,rfl⟩
  have:=List.mem_range.mp hk
  omega
 ·intro h
  exact⟨(x - a).toNat,List.mem_range.mpr (by omega),by omega⟩
theorem mU (a b:Int):(gI a b).Nodup:=by
 unfold gI
 exact bg6.mpr (List.nodup_range.imp fun h e=>h (by omega))
noncomputable def k6 (x:Bx):List a9:=(gI x.t x.b).flatMap fun i=>(gI x.l x.r).map fun j=>(i,j)
theorem oM {x:Bx}{p:a9}:p ∈ k6 x ↔ aY x p:=by
 unfold k6
 simp only [List.mem_flatMap,ba3,oK]
 constructor
 ·rintro ⟨i,hi,j,hj,rfl⟩
  exact⟨hi.1,hi.2,hj.1,hj.2⟩
 ·rintro ⟨h1,h2,h3,h4⟩
  exact⟨p.1,⟨h1,h2⟩,p.2,⟨h3,h4⟩,rfl⟩
noncomputable def dL (a b:Int):Nat:=if a=b then 1 else 0
theorem oN {a:Int}:∀ {L:List Int},L.Nodup->a ∈ L->(L.map fun i=>dL i a).sum=1
 | [],_,h=>by cases h
 | x :: L,nd,h=>by
  have n:=bb4.mp nd
  rw [aY8,bc3]
  by_cases e:x=a
  ·subst e
   have:(L.map fun i=>dL i x).sum=0:=by
    have:∀ {M:List Int},x ∉ M->(M.map fun i=>dL i x).sum=0:=fun {M}=>by
     induction M with
     | nil=>intro _; rfl
     | cons y M ih=>
      intro z
      rw [aY8,bc3,ih fun w=>z (aX0 _ w)]
      unfold dL
      rw [if_neg fun (w:y=x)=>z (w ▸ aX3)]
    exact this n.1
   rw [this]; unfold dL; rw [if_pos rfl]
  ·rw [oN n.2 ((aW9.mp h).resolve_left fun w=>e w.symm)]
   unfold dL; rw [if_neg e]
theorem oO {α:Type} (f g:α->Nat):∀ L:List α,(L.map fun i=>f i+g i).sum=(L.map f).sum+(L.map g).sum
 | []=>rfl
 | x :: L=>by rw [aY8,aY8,aY8,bc3,bc3,bc3,oO f g L]; omega
theorem wX {α:Type} (k:Nat):∀ L:List α,(L.map fun _=>k).sum=L.length * k
 | []=>by rw [bj0,Nat.zero_mul]; rfl
 | x :: L=>by rw [aY8,bc3,wX k L,ba0,Nat.succ_mul]; omega
theorem X9 {α:Type} (k:Nat) (f:α->Nat):∀ L:List α,(L.map fun i=>k * f i).sum=k * (L.map f).sum
 | []=>rfl
 | x :: L=>by rw [aY8,aY8,bc3,bc3,X9 k f L,Nat.mul_add]
theorem wY {α:Type} (f:a9->Nat) (g:α->List a9):∀ L:List α,((L.flatMap g).map f).sum=(L.map fun i=>((g i).map f).sum).sum
 | []=>rfl
 | x :: L=>by rw [List.flatMap_cons,aZ1,List.sum_append,aY8,bc3,wY f g L]
theorem wZ {α:Type}{f g:α->Nat}:∀ {L:List α},(∀ x ∈ L,f x=g x)->(L.map f).sum=(L.map g).sum
 | [],_=>rfl
 | x :: L,h=>by rw [aY8,aY8,bc3,bc3,h x aX3,wZ fun y hy=>h y (aX0 _ hy)]
noncomputable def oP (x:Bx) (p:a9):Nat:=dL p.1 x.t+dL p.1 x.b+(dL p.2 x.l+dL p.2 x.r)
theorem aP3 {x:Bx} (ok:okX x):((k6 x).map (oP x)).sum=2 * (cO x).toNat:=by
 obtain ⟨h1,h2⟩:=ok
 unfold k6
 rw [wY]
 have lw:(gI x.l x.r).length=(x.r - x.l+1).toNat:=by unfold gI; rw [aW5,List.length_range]
 have lh:(gI x.t x.b).length=(x.b - x.t+1).toNat:=by unfold gI; rw [aW5,List.length_range]
 have row:∀ i:Int,(((gI x.l x.r).map fun j=>(i,j)).map (oP x)).sum=(x.r - x.l+1).toNat * (dL i x.t+dL i x.b)+2:=fun i=>by
  rw [bb5]
  show ((gI x.l x.r).map fun j=>dL i x.t+dL i x.b+(dL j x.l+dL j x.r)).sum=_
  rw [oO,wX,oO,oN (mU _ _) (oK.mpr ⟨aW8 _,h2⟩),oN (mU _ _) (oK.mpr ⟨h2,aW8 _⟩),lw]
 rw [show (fun i:Int=>(((gI x.l x.r).map fun j=>(i,j)).map (oP x)).sum)=fun i=>(x.r - x.l+1).toNat * (dL i x.t+dL i x.b)+2 from funext row]
 rw [oO,wX,X9,oO,oN (mU _ _) (oK.mpr ⟨aW8 _,h1⟩),oN (mU _ _) (oK.mpr ⟨h1,aW8 _⟩),lh]
 unfold cO
 omega
theorem aP4 (f:a9->Bool) (a b c d:a9):([a,b,c,d].filter f).length=(if f a=true then 1 else 0)+(if f b=true then 1 else 0)+((if f c=true then 1 else 0)+(if f d=true then 1 else 0)):=by
 simp only [bg3,List.filter_nil]
 cases f a <;> cases f b <;> cases f c <;> cases f d <;> rfl
theorem aP5 {x y:Bx}{p q:a9} (hp:aY x p) (hq:aY y q) (a:eF p q):bI x y=true:=by
 unfold aY at hp hq
 unfold eF at a
 rcases a with ⟨e,_⟩ | ⟨e,_⟩
 ·exact oD (g:=0) (h:=1) (by omega) (by omega) (by omega) (by omega) (by omega) (by omega) (by omega)
 ·exact oD (g:=1) (h:=0) (by omega) (by omega) (by omega) (by omega) (by omega) (by omega) (by omega)
theorem aP6 {T:List Bx} (far:fF T) {x:Bx} (hx:x ∈ T) {K:List a9} (hK:∀ p,p ∈ K ↔ ∃ y ∈ T,aY y p) {p:a9} (hp:aY x p):cI K p=oP x p:=by
 have key:∀ q,eF p q->(decide (q ∈ K)=true ↔ aY x q):=fun q a=>by
  rw [aY7,hK]
  constructor
  ·rintro ⟨y,hy,hq⟩
   rw [far.eq hx hy (aP5 hp hq a)]; exact hq
  ·exact fun h=>⟨x,hx,h⟩
 have one:∀ q,q ∈ bJ p->∀ a b:Int,(aY x q ↔ ¬ a=b)->(if (!decide (q ∈ K))=true then 1 else 0)=dL a b:=fun q hq a b h=>by
  unfold dL
  by_cases e:a=b
  ·rw [if_pos e,if_pos]
   rw [Bool.not_eq_true',Bool.eq_false_iff]
   exact fun z=>h.mp ((key q (iB.mp hq)).mp z) e
  ·rw [if_neg e,if_neg]
   rw [(key q (iB.mp hq)).mpr (h.mpr e)]; decide
 unfold cI
 have e:bJ p = [(p.1 - 1,p.2),(p.1+1,p.2),(p.1,p.2 - 1),(p.1,p.2+1)]:=rfl
 have m:∀ q,q ∈ [(p.1 - 1,p.2),(p.1+1,p.2),(p.1,p.2 - 1),(p.1,p.2+1)]->q ∈ bJ p:=fun q h=>h
 rw [e,aP4]
 unfold aY at hp
 unfold oP
 rw [one _ (m _ (by simp)) p.1 x.t (by unfold aY; omega),one _ (m _ (by simp)) p.1 x.b (by unfold aY; omega),one _ (m _ (by simp)) p.2 x.l (by unfold aY; omega),one _ (m _ (by simp)) p.2 x.r (by unfold aY; omega)]
theorem aP7 (x:Bx):(k6 x).Nodup:=by
 unfold k6
 refine List.pairwise_flatMap.mpr ⟨fun i _=>bg6.mpr ((mU _ _).imp fun h e=>h (Prod.mk.inj e).2),(mU _ _).imp fun h p hp q hq e=>?_⟩
 obtain ⟨_,_,rfl⟩:=ba3.mp hp
 obtain ⟨_,_,rfl⟩:=ba3.mp hq
 exact h (Prod.mk.inj e).1
theorem aP8 {T:List Bx} (far:fF T) (ok:∀ x ∈ T,okX x) {K:List a9} (nd:K.Nodup) (hK:∀ p,p ∈ K ↔ ∃ y ∈ T,aY y p):bT K=(T.map fun x=>2 * (cO x).toNat).sum:=by
 have nt:(T.flatMap k6).Nodup:=by
  refine List.pairwise_flatMap.mpr ⟨fun x _=>aP7 x,far.imp fun {x y} h p hp q hq e=>?_⟩
  subst e
  rw [T3 (oM.mp hp) (oM.mp hq)] at h
  cases h
 have pm:K.Perm (T.flatMap k6):=(List.perm_ext_iff_of_nodup nd nt).mpr fun p=>by
  rw [hK,List.mem_flatMap]
  exact⟨fun ⟨y,hy,h⟩=>⟨y,hy,oM.mpr h⟩,fun ⟨y,hy,h⟩=>⟨y,hy,oM.mp h⟩⟩
 unfold bT
 rw [(pm.map (cI K)).sum_nat,wY]
 refine wZ fun x hx=>?_
 rw [<- aP3 (ok x hx)]
 exact wZ fun p hp=>aP6 far hx hK (oM.mp hp)
theorem aP9 {S:List a9}{T:List Bx} (o:cQ S T) {x:Bx} (hx:x ∈ T) {q:a9->Bool} (hq:∀ p,aY x p->q p=true):cO x<=2 * ((S.filter q).length:Int):=by
 obtain ⟨f,rfl,sp,pm⟩:=o
 obtain ⟨e,he,rfl⟩:=ba3.mp hx
 have s:=sp e he
 have l1:(S.filter q).length=(((f.map (·.2)).flatten).filter q).length:=((pm.filter q).length_eq).symm
 have l2:e.2.length<=(((f.map (·.2)).flatten).filter q).length:=by
  obtain ⟨A,B,rfl⟩:=List.append_of_mem he
  rw [aZ1,aY8,List.flatten_append,List.flatten_cons,List.filter_append,List.filter_append,aZ3,aZ3]
  have:(e.2.filter q).length=e.2.length:=by
   rw [List.filter_eq_self.mpr fun p hp=>hq p (s.ins p hp)]
  omega
 have:=s.few
 omega
noncomputable abbrev cP (l:a9):PV:=.tup [.int l.1,.int l.2]
theorem Y0 {K:List a9}{i:Nat}{y:PV} (h:((bG K).map fun p=>PV.tup (p.1.map kP))[i]? = some y):∃ l,y=cP l/\K[i]? = some l:=by
 unfold bG at h
 rw [aX1,aX1] at h
 cases e:K[i]? with
 | none=>rw [e] at h; cases h
 | some l=>rw [e] at h; cases h; exact⟨l,rfl,rfl⟩
theorem x3:∀ K:List a9,nods ((bG K).map (·.2))=true
 | []=>rfl
 | _ :: K=>by show (true && nods ((bG K).map (·.2)))=true; rw [x3 K]; rfl
noncomputable def sQ:bW:=fun xs Q=>∃ L K:List a9,xs = [.lst (aN L),.dT (bG K)]/\L.length<=1000/\Q (.int ((L.filter fun x=>decide (x ∈ K)).length:Nat))
noncomputable abbrev Y1:aO:=az1
theorem aQ0:dJ Y1 ["hearths","inside"] sQ:=by
 rintro xs Q ⟨L,K,rfl,hl,q⟩
 refine⟨_,rfl,_,rfl,mO,by rw [dY]; omega,fun j acc=>acc=aN ((L.take j).filter fun x=>decide (x ∈ K)),rfl,?_,?_⟩
 ·rintro j y acc hy rfl
  obtain ⟨l,rfl,ho⟩:=l7 hy
  have tk:=o3 (p:=fun x=>decide (x ∈ K)) ho
  refine⟨_,rfl,_,rfl,_,.inr ⟨bG K,bF l,rfl,rfl,rfl⟩,_,rfl,?_⟩
  show if (cC (bG K) (bF l)).isSome=true then _ else _
  rw [rX]
  cases hc:decide (l ∈ K) with
  | true=>
   rw [hc] at tk
   refine aZ ⟨_,rfl,by first | trivial | rfl,?_⟩
   show _=_
   rw [tk,if_pos rfl,<- wV]; rfl
  | false=>
   rw [hc] at tk
   refine aS ?_
   show _=_
   rw [tk,if_neg (by decide),bb7]
 ·rintro acc rfl
  rw [dY,ba6]
  refine⟨_,_,rfl,rfl,trivial,?_⟩
  rw [dY]
  exact q
theorem aQ1 {r c:Int}{K:List a9} (bd:∀ x ∈ K,bL r c x=true) (p:a9):((fW r c p).filter fun x=>decide (x ∈ K)).length=gY K p:=by
 refine Nat.le_antisymm (lE ((aG1 r c p).filter _) fun q hq=>?_) (lE ((lD p).filter _) fun q hq=>?_)
 ·obtain ⟨h1,h2⟩:=ba1.mp hq
  exact ba1.mpr ⟨iB.mpr (iQ.mp h1).1,h2⟩
 ·obtain ⟨h1,h2⟩:=ba1.mp hq
  exact ba1.mpr ⟨iQ.mpr ⟨iB.mp h1,bd q (bd3 h2)⟩,h2⟩
theorem Y2 (f:a9->Nat):∀ L:List a9,(L.map fun l=>(f l:Int)).sum=(((L.map f).sum:Nat):Int)
 | []=>rfl
 | x :: L=>by rw [aY8,aY8,bc3,bc3,Y2 f L]; omega
noncomputable def oQ:fB:=fun Ep xs Q=>∃ (r c:Int) (x:PV) (ls:List a9),xs = [.int r,.int c,x]/\(x = .tup (aN ls) ∨ x = .lst (aN ls))/\ls.length<=4096/\bZ r c/\fD r c ls/\Q (.int (bT ls:Nat))
noncomputable def Y3 (Ep:Str->Prop):aO:=(aJ (b7 3 (jW Ep jX (a7 (a5 0) (a7 (a5 1) (a7 (a5 2) aC)))))
 (aJ (b7 4 (aI rY (a7 (a5 3) aC)))
 (bV (aI vS (a7 (gQ (dS (a5 3)) [none,some 4,some 0,some 1] (cG 0) i5 (eC (qC (.int 4)) (aI sQ (a7 (aI rV (a7 (a5 2) (a7 (a5 3) (a7 (a5 0) aC)))) (a7 (a5 1) aC))))) aC)))))
theorem x4 {ls:List a9} (h:ls.Pairwise eD):ls.Nodup:=h.imp fun {a b} h e=>by subst e; unfold eD at h; omega
theorem aQ2:mI Y3 ["rows","columns","cells","chosen","inside"] oQ:=by
 rintro Ep xs Q ⟨r,c,x,ls,rfl,hx,hl,ok,st,q⟩
 refine⟨_,rfl,_,rfl,_,rfl,r,c,x,ls,rfl,hx,hl,fun z=>absurd ok z,fun _ z=>absurd st z,fun _ _=>⟨trivial,?_⟩⟩
 refine⟨_,rfl,_,ls,rfl,.inl rfl,x4 st.1,hl,trivial,?_⟩
 refine⟨_,rfl,_,rfl,mO,by rw [dY]; omega,fun j acc=>acc=intz ((ls.take j).map fun l=>(cI ls l:Int)),rfl,?_,?_⟩
 ·rintro j y acc hy rfl
  obtain ⟨l,rfl,ho⟩:=l7 hy
  refine iR rfl ?_
  have sl:(fW r c l).length<=1000:=aZ8 (List.length_filter_le _ _) (by show 4<=1000; decide)
  refine⟨_,rfl,_,rfl,_,rfl,r,c,l,rfl,_,rfl,fW r c l,ls,rfl,sl,_,_,rfl,rfl,trivial,?_⟩
  show _=_
  rw [aQ1 st.2,L6 ho,ay7]
  show _ ++ [PV.int (4 - (gY ls l:Int))]=_ ++ [PV.int (cI ls l:Int)]
  have:=X5 ls l
  rw [show (4 - (gY ls l:Int))=(cI ls l:Int) by omega]
 ·rintro acc rfl
  rw [dY,ba6]
  refine⟨_,_,rfl,rfl,trivial,?_⟩
  rw [Y2]
  exact q
noncomputable def oR:bW:=fun xs Q=>∃ K:List a9,xs = [.dT (bG K)]/\Q (.int (bT K:Nat))
noncomputable def Y4:aO:=(aJ (b7 1 (qC (.int 0)))
 (aJ (oI 0 (gP 2 3)
  (dU (dS (iG (a7 (cS (a7 (eC (a5 2) (qC (.int 1))) (a7 (a5 3) aC))) (a7 (cS (a7 (cM (a5 2) (qC (.int 1))) (a7 (a5 3) aC))) (a7 (cS (a7 (a5 2) (a7 (eC (a5 3) (qC (.int 1))) aC))) (a7 (cS (a7 (a5 2) (a7 (cM (a5 3) (qC (.int 1))) aC))) aC)))))) (cG 4)
   (b7 1 (cM (a5 1) (aI wB (a7 (iI true (a5 4) (a5 0)) aC))))))
 (jM 1)))
theorem aQ3:dJ Y4 ["burning","sides","row","column","one"] oR:=by
 rintro xs Q ⟨K,rfl,q⟩
 have t2:2<=1000:=by decide
 refine⟨trivial,?_⟩
 refine⟨.dT (bG K),_,rfl,rfl,x3 K,fun j m hj hm=>?_,fun k ρ=>∃ y2 y3 y4,ρ = [some (.sh false (.fT (bG K))),si (((K.take k).map (cI K)).sum:Nat),y2,y3,y4],⟨none,none,none,rfl⟩,?_,?_⟩
 ·match j,hj,hm with
  | 1,_,hm=>cases hm; rfl
  | 2,_,hm=>cases hm
  | 3,_,hm=>cases hm
  | 4,_,hm=>cases hm
 ·rintro k y ρ hy ⟨y2,y3,y4,rfl⟩
  obtain ⟨p,rfl,hp⟩:=Y0 hy
  refine W7 ?_
  refine⟨_,rfl,_,_,rfl,rfl,_,rfl,t2,rfl,_,rfl,_,_,rfl,rfl,_,rfl,t2,rfl,_,rfl,_,rfl,_,_,rfl,rfl,t2,rfl,_,rfl,_,rfl,_,_,rfl,rfl,t2,rfl,by show 4<=1000; decide,rfl,aN (bJ p),rfl,(fun z=>by cases z),fun j ρ=>∃ y4,ρ = [some (.sh false (.fT (bG K))),si ((((K.take k).map (cI K)).sum+(((bJ p).take j).filter fun q=>!decide (q ∈ K)).length:Nat):Int),si p.1,si p.2,y4],⟨y4,rfl⟩,?_,?_⟩
  ·rintro j y ρ hy ⟨y4,rfl⟩
   obtain ⟨s,rfl,hs⟩:=l7 hy
   have tk:=o3 (p:=fun q=>!decide (q ∈ K)) hs
   refine iR rfl ?_
   refine⟨_,rfl,_,rfl,_,rfl,_,.inr ⟨bG K,bF s,rfl,rfl,rfl⟩,.inr ⟨_,rfl,_,_,rfl,rfl,trivial,some (.sh true (cP s)),?_⟩⟩
   show [_,some (Slot.sh true (.int ((((K.take k).map (cI K)).sum+(((bJ p).take j).filter fun q=>!decide (q ∈ K)).length:Nat)+(if (!(cC (bG K) (bF s)).isSome)=true then 1 else 0)))),_,_,_]=_
   rw [rX,tk]
   cases decide (s ∈ K) with
   | true=>rw [if_neg (by decide),if_neg (by decide),bb7,Int.add_zero]
   | false=>
    rw [if_pos (show (!false)=true from rfl),if_pos (show (!false)=true from rfl),aZ3,bc4]
    show [_,some (Slot.sh true (.int _)),_,_,_] = [_,some (Slot.sh true (.int _)),_,_,_]
    congr 5
  ·rintro ρ ⟨y4,rfl⟩
   refine⟨si p.1,si p.2,y4,?_⟩
   rw [show (bJ p).take (aN (bJ p)).length=bJ p from rfl,L6 hp,List.sum_append,List.sum_singleton]; rfl
 ·rintro ρ ⟨y2,y3,y4,rfl⟩
  refine⟨[none,si (((K.take ((bG K).map fun p=>PV.tup (p.1.map kP)).length).map (cI K)).sum:Nat),none,none,none],rfl,fun j m hm=>?_,?_⟩
  ·match j,hm with
   | 0,hm=>cases hm
   | 1,hm=>cases hm; exact⟨rfl,rfl⟩
   | 2,hm=>cases hm
   | 3,hm=>cases hm
   | 4,hm=>cases hm
  ·rw [aW5,oA,ba6]
   exact⟨_,rfl,trivial,q⟩
noncomputable def dP (Ks:List a9) (f:a9->Nat):List (List aH × PV):=Ks.map fun x=>(bF x,PV.int (f x))
theorem aQ4 (Ks:List a9) (f:a9->Nat) (x:a9):((dP Ks f).any fun p=>decide (p.1=bF x))=decide (x ∈ Ks):=by
 unfold dP
 rw [List.any_map,bc9,List.any_eq_true,aY7]
 constructor
 ·rintro ⟨y,hy,e⟩
  rw [<- rW (bd3 e)]; exact hy
 ·exact fun h=>⟨x,h,aX2 rfl⟩
theorem x5 (f:a9->Nat) (x:a9):∀ Ks:List a9,cC (dP Ks f) (bF x)=if x ∈ Ks then some (.int (f x)) else none
 | []=>rfl
 | y :: Ks=>by
  have ih:=x5 f x Ks
  show cC ((bF y,PV.int (f y)) :: dP Ks f) (bF x)=_
  unfold cC at ih ⊢
  rw [bf8]
  by_cases e:y=x
  ·subst e
   rw [aX2 rfl,if_pos aX3]; rfl
  ·rw [aW6 fun z=>e (rW z)]
   dsimp only
   rw [ih]
   by_cases hm:x ∈ Ks
   ·rw [if_pos hm,if_pos (aX0 _ hm)]
   ·rw [if_neg hm,if_neg fun z=>(aW9.mp z).elim (fun q=>e q.symm) hm]
theorem aQ5 {Ks:List a9}{f f':a9->Nat}{s:a9} (h:∀ x,x ≠ s->f' x=f x):gR (dP Ks f) (bF s) (.int (f' s))=dP (if s ∈ Ks then Ks else Ks ++ [s]) f':=by
 unfold gR
 rw [aQ4]
 have same:∀ x,x ≠ s->(bF x,PV.int (f x))=(bF x,PV.int (f' x)):=fun x z=>by rw [h x z]
 by_cases hm:s ∈ Ks
 ·rw [if_pos (aX2 hm),if_pos hm]
  unfold dP
  rw [bb5]
  refine List.map_congr_left fun x _=>?_
  show (if bF x=bF s then (bF x,PV.int (f' s)) else (bF x,PV.int (f x)))=_
  by_cases e:x=s
  ·rw [if_pos (congrArg bF e),e]
  ·rw [if_neg fun z=>e (rW z)]; exact same x e
 ·rw [if_neg (by simpa using hm),if_neg hm]
  unfold dP
  rw [aZ1]
  refine congrArg (· ++ _) (List.map_congr_left fun x hx=>same x fun e=>hm (e ▸ hx))
theorem x6 (f:a9->Nat):∀ Ks:List a9,nods ((dP Ks f).map (·.2))=true
 | []=>rfl
 | _ :: K=>by show (true && nods ((dP K f).map (·.2)))=true; rw [x6 f K]; rfl
theorem aQ6 {Ks:List a9}{f:a9->Nat}{i:Nat}{y:PV} (h:((dP Ks f).map fun p=>PV.tup (p.1.map kP))[i]? = some y):∃ l,y=cP l/\Ks[i]? = some l:=by
 unfold dP at h
 rw [aX1,aX1] at h
 cases e:Ks[i]? with
 | none=>rw [e] at h; cases h
 | some l=>rw [e] at h; cases h; exact⟨l,rfl,rfl⟩
noncomputable def okC (r c:Int) (K:List a9) (x:a9):Bool:=bL r c x && !decide (x ∈ K)
noncomputable def dH (r c:Int) (K P ss:List a9) (x:a9):Nat:=if okC r c K x=true then (P.filter fun p=>decide (x ∈ bJ p)).length+(if x ∈ ss then 1 else 0) else 0
structure k7 (r c:Int) (K:List a9) (Ks:List a9) (f:a9->Nat):Prop where
 nd:Ks.Nodup
 ok:∀ x ∈ Ks,okC r c K x=true
 out:∀ x,x ∉ Ks->f x=0
theorem Y5 {r c:Int}{K P ss:List a9}{j:Nat}{s:a9} (h:ss[j]? = some s) (x:a9) (ne:x ≠ s):dH r c K P (ss.take (j+1)) x=dH r c K P (ss.take j) x:=by
 unfold dH
 have m:x ∈ ss.take (j+1) ↔ x ∈ ss.take j:=by
  rw [aZ9,h,ba2]
  exact⟨fun z=>z.resolve_right fun w=>ne (by simpa using w),.inl⟩
 simp only [m]
theorem aQ7 {r c:Int}{K P ss:List a9}{j:Nat}{s:a9} (h:ss[j]? = some s) (no:okC r c K s=false):dH r c K P (ss.take (j+1))=dH r c K P (ss.take j):=funext fun x=>by
 by_cases e:x=s
 ·subst e; unfold dH; rw [if_neg (by rw [no]; decide),if_neg (by rw [no]; decide)]
 ·exact Y5 h x e
theorem aQ8 {r c:Int}{K P ss:List a9}{j:Nat}{s:a9} (nd:ss.Nodup) (h:ss[j]? = some s) (ok:okC r c K s=true):dH r c K P (ss.take (j+1)) s=dH r c K P (ss.take j) s+1:=by
 unfold dH
 rw [if_pos ok,if_pos ok,if_neg (oC nd h),if_pos (by rw [aZ9,h]; simp)]
theorem aQ9 {r c:Int}{K P:List a9}{p:a9}:dH r c K P (bJ p)=dH r c K (P ++ [p]) []:=funext fun x=>by
 unfold dH
 rw [List.filter_append,aZ3]
 have:([p].filter fun p=>decide (x ∈ bJ p)).length=if x ∈ bJ p then 1 else 0:=by
  by_cases e:x ∈ bJ p
  ·simp [e]
  ·simp [e]
 rw [this,if_neg (show x ∉ ([]:List a9) from aX9),Nat.add_zero]
theorem k7.put {r c:Int}{K Ks:List a9}{f f':a9->Nat}{s:a9} (M:k7 r c K Ks f) (h:∀ x,x ≠ s->f' x=f x) (ok:okC r c K s=true):k7 r c K (if s ∈ Ks then Ks else Ks ++ [s]) f':=by
 by_cases hm:s ∈ Ks
 ·rw [if_pos hm]
  exact⟨M.nd,M.ok,fun x hx=>by rw [h x fun e=>hx (e ▸ hm)]; exact M.out x hx⟩
 ·rw [if_neg hm]
  refine⟨bg7.mpr ⟨M.nd,bb4.mpr ⟨(fun z=>by cases z),bl3⟩,fun a ha b hb e=>hm (by rw [<- aX4.mp hb,<- e]; exact ha)⟩,fun x hx=>?_,fun x hx=>?_⟩
  ·rcases ba2.mp hx with z | z
   ·exact M.ok x z
   ·rw [aX4.mp z]; exact ok
  ·rw [h x fun e=>hx (aZ5 _ (aX4.mpr e))]
   exact M.out x fun z=>hx (bb1 _ z)
noncomputable def oS:bW:=fun xs Q=>∃ (r c:Int) (K:List a9),xs = [.int r,.int c,.dT (bG K)]/\bZ r c/\K.Nodup/\∀ R:List a9,R.Pairwise eD->(∀ x,x ∈ R ↔ oJ r c K x)->R.length<=1600->Q (.lst (aN R))
noncomputable def x8:aO:=(cF (jK (aX (lA (fun i j=>decide (i<=j)) (fun i j=>decide (i < j)) (qC (.int 0)) (bC (a5 6) (qC (.int 0))) (a5 0))) (jK (aX (lA (fun i j=>decide (i<=j)) (fun i j=>decide (i < j)) (qC (.int 0)) (bC (a5 6) (qC (.int 1))) (a5 1))) (aX (iI true (a5 6) (a5 2))))) (jQ 3 (a5 6) (cM (wF (a5 3) (a5 6) (qC (.int 0))) (qC (.int 1)))) cL)
noncomputable def Y6:aO:=(aJ (hZ 3 (qC (.dT [])))
 (aJ (oI 2 (gP 4 5)
  (dU (dS (iG (a7 (cS (a7 (eC (a5 4) (qC (.int 1))) (a7 (a5 5) aC))) (a7 (cS (a7 (cM (a5 4) (qC (.int 1))) (a7 (a5 5) aC))) (a7 (cS (a7 (a5 4) (a7 (eC (a5 5) (qC (.int 1))) aC))) (a7 (cS (a7 (a5 4) (a7 (cM (a5 5) (qC (.int 1))) aC))) aC)))))) (cG 6)
   x8))
 (bV (aI o8 (a7 (wE 3 [none,some 3] (cG 0) (aX (kR (uK (a5 1) (a5 0)) (qC (.int 1)))) (a5 0)) aC)))))
theorem aR0 {r c:Int}{K:List a9}{x:a9}:okC r c K x=(decide (0<=x.1) && decide (x.1 < r) && (decide (0<=x.2) && decide (x.2 < c) && !decide (x ∈ K))):=by
 unfold okC bL
 rw [bc9]
 simp only [bb0]
 constructor
 ·rintro ⟨⟨a,b,c,d⟩,e⟩; exact⟨⟨a,b⟩,⟨c,d⟩,e⟩
 ·rintro ⟨⟨a,b⟩,⟨c,d⟩,e⟩; exact⟨⟨a,b,c,d⟩,e⟩
noncomputable def lG (r c:Int) (K Ks:List a9) (f:a9->Nat) (y4 y5 y6:Option Slot):b6:=[si r,si c,some (.sh false (.fT (bG K))),some (.own (.dT (dP Ks f))),y4,y5,y6]
theorem aR1 {r c:Int}{K Ks:List a9}{f f':a9->Nat}{s:a9}{y4 y5:Option Slot}{D:lQ} (M:k7 r c K Ks f) (ml:Ks.length<=10000) (ne:∀ x,x ≠ s->f' x=f x) (at_:okC r c K s=true->f' s=f s+1) (no:okC r c K s=false->f'=f)
  (q:∀ Ks',k7 r c K Ks' f'->Ks'.length<=Ks.length+1->D.nx (lG r c K Ks' f' y4 y5 (some (.sh true (cP s))))):x8 D (lG r c K Ks f y4 y5 (some (.sh true (cP s)))):=by
 have off:okC r c K s=false->D.nx (lG r c K Ks f y4 y5 (some (.sh true (cP s)))):=fun e=>by
  have:=q Ks (by rw [no e]; exact M) (by omega)
  rw [no e] at this; exact this
 have ei:=aR0 (r:=r) (c:=c) (K:=K) (x:=s)
 refine⟨_,rfl,_,_,_,rfl,rfl,rfl,0,s.1,rfl,rfl,?_⟩
 show if decide ((0:Int)<=s.1)=true then _ else _
 by_cases h1:(0:Int)<=s.1
 ·rw [aX2 h1] at ei ⊢
  refine aZ ⟨_,rfl,r,rfl,_,rfl,?_⟩
  show if decide (s.1 < r)=true then _ else _
  by_cases h2:s.1 < r
  ·rw [aX2 h2] at ei ⊢
   refine aZ ⟨_,rfl,_,_,_,rfl,rfl,rfl,0,s.2,rfl,rfl,?_⟩
   show if decide ((0:Int)<=s.2)=true then _ else _
   by_cases h3:(0:Int)<=s.2
   ·rw [aX2 h3] at ei ⊢
    refine aZ ⟨_,rfl,c,rfl,_,rfl,?_⟩
    show if decide (s.2 < c)=true then _ else _
    by_cases h4:s.2 < c
    ·rw [aX2 h4] at ei ⊢
     refine aZ ⟨_,rfl,_,rfl,_,.inr ⟨bG K,bF s,rfl,rfl,rfl⟩,_,rfl,?_⟩
     show if (!(cC (bG K) (bF s)).isSome)=true then _ else _
     rw [rX]
     by_cases hm:s ∈ K
     ·rw [aX2 hm] at ei ⊢
      exact aS (off ei)
     ·rw [aW6 hm] at ei ⊢
      have ok:okC r c K s=true:=ei
      have vg:(cC (dP Ks f) (bF s)).getD (.int 0) = .int (f s):=by
       rw [x5]
       by_cases hk:s ∈ Ks
       ·rw [if_pos hk]; rfl
       ·rw [if_neg hk,M.out s hk]; rfl
      refine aZ ⟨_,rfl,_,rfl,_,rfl,bF s,rfl,?_,(f s:Int),1,vg,rfl,_,rfl,_,rfl,bF s,rfl,trivial,?_,?_⟩
      ·rw [vg]; rfl
      ·unfold dP; rw [aW5]; omega
      ·have e:(PV.int ((f s:Int)+1)) = .int (f' s):=by rw [at_ ok]; rfl
       have:=q _ (M.put ne ok) (by split <;> simp)
       unfold lG at this
       rw [<- aQ5 ne,<- e] at this
       exact this
    ·rw [aW6 h4] at ei ⊢
     exact aS (aS (off (by rw [ei]; rfl)))
   ·rw [aW6 h3] at ei ⊢
    exact aS ⟨_,rfl,aS (aS (off (by rw [ei]; rfl)))⟩
  ·rw [aW6 h2] at ei ⊢
   exact aS (aS (off (by rw [ei]; rfl)))
 ·rw [aW6 h1] at ei ⊢
  exact aS ⟨_,rfl,aS (aS (off (by rw [ei]; rfl)))⟩
theorem Y7 {K Ks:List a9}{r c:Int}{f:a9->Nat} (ok:bZ r c) (M:k7 r c K Ks f):Ks.length<=1600:=oB ok M.nd fun x hx=>by
 have:=M.ok x hx
 unfold okC at this
 rw [bb0] at this
 exact this.1
theorem aR2:dJ Y6 ["rows","columns","burning","met","row","column","one"] oS:=by
 rintro xs Q ⟨r,c,K,rfl,okb,nd,q⟩
 have t2:2<=1000:=by decide
 refine⟨rfl,rfl,?_⟩
 refine⟨.dT (bG K),_,rfl,rfl,x3 K,fun j m hj hm=>?_,fun k ρ=>∃ Ks y4 y5 y6,k7 r c K Ks (dH r c K (K.take k) [])/\ρ=lG r c K Ks (dH r c K (K.take k) []) y4 y5 y6,⟨[],none,none,none,⟨bl3,(fun _ z=>by cases z),fun x _=>?_⟩,rfl⟩,?_,?_⟩
 ·match j,hj,hm with
  | 0,_,hm=>cases hm; rfl
  | 1,_,hm=>cases hm; rfl
  | 3,_,hm=>cases hm; rfl
  | 4,_,hm=>cases hm
  | 5,_,hm=>cases hm
  | 6,_,hm=>cases hm
 ·unfold dH; rw [List.take_zero]; split <;> rfl
 ·rintro k y ρ hy ⟨Ks,y4,y5,y6,M,rfl⟩
  obtain ⟨p,rfl,hp⟩:=Y0 hy
  refine W7 ?_
  refine⟨_,rfl,_,_,rfl,rfl,_,rfl,t2,rfl,_,rfl,_,_,rfl,rfl,_,rfl,t2,rfl,_,rfl,_,rfl,_,_,rfl,rfl,t2,rfl,_,rfl,_,rfl,_,_,rfl,rfl,t2,rfl,by show 4<=1000; decide,rfl,aN (bJ p),rfl,(fun z=>by cases z),fun j ρ=>∃ Ks y6,k7 r c K Ks (dH r c K (K.take k) ((bJ p).take j))/\ρ=lG r c K Ks (dH r c K (K.take k) ((bJ p).take j)) (si p.1) (si p.2) y6,⟨Ks,y6,M,rfl⟩,?_,?_⟩
  ·rintro j y ρ hy ⟨Ks,y6,M,rfl⟩
   obtain ⟨s,rfl,hs⟩:=l7 hy
   refine iR rfl ?_
   show x8 _ (lG r c K Ks (dH r c K (K.take k) ((bJ p).take j)) (si p.1) (si p.2) (some (.sh true (cP s))))
   exact aR1 M (aZ8 (Y7 okb M) (by decide)) (fun x ne=>Y5 hs x ne) (fun e=>aQ8 (lD p) hs e) (fun e=>aQ7 hs e) fun Ks' M' _=>⟨Ks',_,M',rfl⟩
  ·rintro ρ ⟨Ks,y6,M,rfl⟩
   rw [show (bJ p).take (aN (bJ p)).length=bJ p from rfl,aQ9] at M ⊢
   rw [show K.take k ++ [p]=K.take (k+1) by rw [aZ9,hp]; rfl] at M ⊢
   exact⟨Ks,_,_,y6,M,rfl⟩
 ·rintro ρ ⟨Ks,y4,y5,y6,M,rfl⟩
  rw [aW5,oA,ba6] at M ⊢
  refine⟨[si r,si c,none,some (.own (.dT (dP Ks (dH r c K K [])))),none,none,none],rfl,fun j m hm=>?_,?_⟩
  ·match j,hm with
   | 0,hm=>cases hm; exact⟨rfl,rfl⟩
   | 1,hm=>cases hm; exact⟨rfl,rfl⟩
   | 2,hm=>cases hm
   | 3,hm=>cases hm; exact⟨rfl,x6 _ _⟩
   | 4,hm=>cases hm
   | 5,hm=>cases hm
   | 6,hm=>cases hm
  have few:=Y7 okb M
  generalize hf:dH r c K K []=f at M
  have fx:∀ x,f x=if okC r c K x=true then gY K x else 0:=fun x=>by
   rw [<- hf]
   unfold dH
   rw [X6 nd,if_neg (show x ∉ ([]:List a9) from aX9),Nat.add_zero]
  refine⟨_,_,rfl,rfl,by rw [aW5]; unfold dP; rw [aW5]; omega,x6 f Ks,(fun j m' hj ne hm=>?_),fun j acc=>acc=aN ((Ks.take j).filter fun x=>decide (1 < f x)),rfl,?_,?_⟩
  ·rcases aW9.mp hj with z | z
   ·cases z
   ·rw [aX4] at z
    cases z
    exact absurd rfl ne
  ·rintro j y acc hy rfl
   obtain ⟨x,rfl,hx⟩:=aQ6 hy
   have tk:=o3 (p:=fun x=>decide (1 < f x)) hx
   have hm:x ∈ Ks:=bd2 hx
   refine iR rfl ?_
   refine⟨_,rfl,_,rfl,.int (f x),.inr ⟨dP Ks f,bF x,rfl,rfl,by rw [x5,if_pos hm]⟩,_,_,rfl,rfl,_,rfl,?_⟩
   show if decide ((f x:Int) > 1)=true then _ else _
   have e:decide ((f x:Int) > 1)=decide (1 < f x):=decide_eq_decide.mpr (by omega)
   rw [e]
   cases hc:decide (1 < f x) with
   | true=>
    rw [hc] at tk
    refine aZ ⟨_,rfl,⟨by first | trivial | rfl,rfl⟩,?_⟩
    show _=_
    rw [tk,if_pos rfl,<- wV]; rfl
   | false=>
    rw [hc] at tk
    refine aS ?_
    show _=_
    rw [tk,if_neg (by decide),bb7]
  ·rintro acc rfl
   rw [aW5,show (dP Ks f).length=Ks.length from aW5 _,ba6]
   generalize hF:(Ks.filter fun x=>decide (1 < f x))=F
   have ndF:F.Nodup:=by rw [<- hF]; exact M.nd.filter _
   have lF:F.length<=1600:=by rw [<- hF]; exact aZ8 (List.length_filter_le _ _) few
   have mF:∀ x,x ∈ F ↔ oJ r c K x:=fun x=>by
    rw [<- hF,ba1,aY7]
    constructor
    ·rintro ⟨h1,h2⟩
     rw [fx] at h2
     by_cases ok:okC r c K x=true
     ·rw [if_pos ok] at h2
      unfold okC at ok
      rw [bb0] at ok
      exact⟨ok.1,by simpa using ok.2,h2⟩
     ·rw [if_neg ok] at h2; omega
    ·rintro ⟨h1,h2,h3⟩
     have ok:okC r c K x=true:=by unfold okC; rw [h1,aW6 h2]; rfl
     have v:f x=gY K x:=by rw [fx,if_pos ok]
     refine⟨Decidable.byContradiction fun z=>?_,by omega⟩
     have:=M.out x z
     omega
   refine⟨F.map two,by rw [<- l4]; rfl,by rw [aW5]; omega,fun y hy=>by obtain ⟨l,_,rfl⟩:=ba3.mp hy; rfl,fun Z pz so=>⟨trivial,?_⟩⟩
   obtain ⟨R,rfl,pm⟩:=vJ pz
   rw [<- l4]
   refine q R ?_ (fun x=>by rw [pm.mem_iff]; exact mF x) (by rw [pm.length_eq]; exact lF)
   exact vK so (pm.nodup_iff.mpr ndF)
noncomputable def x9:aO:=(aJ (b7 11 (qC (.int 0)))
 (aJ (dU (dS (aI (sP fun _=>False) (a7 (a5 1) (a7 (a5 2) (a7 (a5 3) aC))))) (sB 12 13 14 15)
  (aJ (b7 11 (cM (a5 11) (jR (qC (.int 2)) (cM (eC (cM (eC (a5 14) (a5 12)) (a5 15)) (a5 13)) (qC (.int 2))))))
  (aJ (b7 16 (gQ (dS (a5 3)) [none,some 12,some 14,some 13,some 15] (cG 0) (jK (aX (lA (fun i j=>decide (i<=j)) (fun i j=>decide (i<=j)) (a5 1) (bC (a5 0) (qC (.int 0))) (a5 2))) (aX (lA (fun i j=>decide (i<=j)) (fun i j=>decide (i<=j)) (a5 3) (bC (a5 0) (qC (.int 1))) (a5 4)))) (a5 0)))
  (cF (aX (iJ (jR (qC (.int 2)) (aI gO (a7 (a5 16) aC))) (cM (eC (cM (eC (a5 14) (a5 12)) (a5 15)) (a5 13)) (qC (.int 2))))) (bV (qC (.bl false))) cL))))
 (bV (nN (a5 11) (a5 7)))))
noncomputable def xA:aO:=(aJ (dU (dS (a5 9)) (cG 10)
   (jQ 4 (a5 10) (qC (.bl true))))
  (aJ (b7 8 (cM (a5 8) (qC (.int 1))))
  (aJ (b7 6 (aI (oQ fun _=>False) (a7 (a5 1) (a7 (a5 2) (a7 (aI o8 (a7 (aI vH (a7 (a5 4) aC)) aC)) aC)))))
  (aJ (cF (jL (aX (kR (a5 6) (a5 7))) (aX (uL (a5 6) (aI oR (a7 (a5 4) aC))))) (bV (qC (.bl false))) cL)
  (aJ (b7 7 (a5 6))
  (b7 9 (aI oS (a7 (a5 1) (a7 (a5 2) (a7 (a5 4) aC))))))))))
noncomputable def Y8:aO:=(aJ (pU (aX (kR (aI gO (a7 (a5 9) aC)) (qC (.int 0))))
  (aJ (cF (aX (iJ (a5 8) (qC (.int 20)))) (b7 9 (iG (a7 (bC (a5 9) (cY (aI mL (a7 (a5 0) (a7 (a5 8) aC))) (aI gO (a7 (a5 9) aC)))) aC))) cL)
  xA))
 x9)
noncomputable def xB:aO:=(aJ (hZ 4 (qC (.dT [])))
 (aJ (dU (dS (a5 3)) (cG 5)
  (jQ 4 (a5 5) (qC (.bl true))))
 (aJ (b7 6 (aI (oQ fun _=>False) (a7 (a5 1) (a7 (a5 2) (a7 (a5 3) aC)))))
 (aJ (cF (jL (kL (aX (aI rF (a7 (a5 6) aC)))) (aX (uL (a5 6) (aI oR (a7 (a5 4) aC))))) (bV (qC (.bl false))) cL)
 (aJ (b7 7 (a5 6))
 (aJ (b7 8 (qC (.int 0)))
 (aJ (b7 9 (aI oS (a7 (a5 1) (a7 (a5 2) (a7 (a5 4) aC)))))
 Y8)))))))
noncomputable def xC:bW:=M6
noncomputable def Y9:aO:=(aJ (vU (gP 1 2) (aI rZ (a7 (aI jV (a7 (a5 0) (a7 (qC (.int 0)) aC))) aC)))
 (aJ (b7 3 (aI sA (a7 (a5 0) (a7 (qC (.int 1)) (a7 (a5 1) (a7 (a5 2) aC))))))
 (aJ (cF (aX (kR (jR (a5 1) (a5 2)) (qC (.int 81)))) (b7 3 (qF (a5 3) qD (qE (qC (.int 14))))) cL)
 xB)))
noncomputable def iC (ns:List Int) (r c:Int) (ls K:List a9) (s5:Option Slot) (a b n:Int) (R:List a9) (s10 s11 s12 s13 s14 s15 s16:Option Slot):b6:=[some (.sh true (.scr ns)),si r,si c,some (.sh true (.tup (aN ls))),some (.own (.dT (bG K))),s5,si a,si b,si n,some (.sh true (.lst (aN R))),s10,s11,s12,s13,s14,s15,s16]
theorem Z0:∀ {bs:List Bx},(∀ x ∈ bs,okX x)->(bs.map fun x=>2 * cO x).sum=(((bs.map fun x=>2 * (cO x).toNat).sum:Nat):Int)
 | [],_=>rfl
 | x :: bs,h=>by
  have ih:=Z0 (bs:=bs) fun y hy=>h y (aX0 _ hy)
  have:=h x aX3
  unfold okX at this
  rw [aY8,aY8,bc3,bc3,ih]
  unfold cO
  omega
theorem aR3 {x:Bx}{p:a9}:(decide (x.t<=p.1) && decide (p.1<=x.b) && (decide (x.l<=p.2) && decide (p.2<=x.r)))=true ↔ aY x p:=by
 simp only [bb0,aY7]
 unfold aY
 exact⟨fun ⟨⟨a,b⟩,c,d⟩=>⟨a,b,c,d⟩,fun ⟨a,b,c,d⟩=>⟨⟨a,b⟩,c,d⟩⟩
section
variable {ns : List Int} {r c : Int} {ls K R : List a9} {Q : PV → Prop} {s5 s10 s11 s12 s13 s14 s15 s16 : Option Slot} {a b n : Int}
theorem aR4 (ok:bZ r c) (st:fD r c ls) (sl:ls.length<=200) (nd:K.Nodup) (hK:∀ p,p ∈ K ↔ gW r c ls p) (eb:b=(bT K:Nat)) (q:Q (.bl true)) :
  x9 { nx:=fun _=>Q .non,rt:=Q } (iC ns r c ls K s5 a b n R s10 none none none none none none):=by
 refine⟨trivial,?_⟩
 refine⟨_,rfl,_,rfl,_,rfl,r,c,_,ls,rfl,.inl rfl,by omega,fun z=>z ok,(fun _ z=>z st),fun _ _ bs g=>⟨_,rfl,(fun z=>by cases z),?_⟩⟩
 have okT:∀ x ∈ bs,okX x:=fun x hx=>g.own.ok hx
 refine⟨fun i ρ=>∃ s12 s13 s14 s15 s16,ρ=iC ns r c ls K s5 a b n R s10 (si ((bs.take i).map fun x=>2 * cO x).sum) s12 s13 s14 s15 s16,⟨none,none,none,none,none,rfl⟩,?_,?_⟩
 ·rintro i v ρ hv ⟨s12,s13,s14,s15,s16,rfl⟩
  obtain ⟨x,rfl,hx⟩:=oF hv
  have hm:=bd2 hx
  have tk:((bs.take (i+1)).map fun x=>2 * cO x).sum=((bs.take i).map fun x=>2 * cO x).sum+2 * (x.b - x.t+x.r - x.l+2):=by
   rw [aZ9,hx,aZ1,List.sum_append]
   show _+(2 * cO x+0)=_
   unfold cO; omega
  refine aN6 ?_
  refine⟨_,rfl,_,rfl,_,rfl,_,_,rfl,rfl,_,rfl,_,_,rfl,rfl,_,rfl,_,_,rfl,rfl,_,_,rfl,rfl,_,_,rfl,rfl,.inl ⟨by decide,by decide⟩,_,_,rfl,rfl,trivial,?_⟩
  let f:a9->Bool:=fun p=>decide (x.t<=p.1) && decide (p.1<=x.b) && (decide (x.l<=p.2) && decide (p.2<=x.r))
  refine⟨_,rfl,_,rfl,(fun z=>by cases z),by rw [dY]; omega,fun j acc=>acc=aN ((ls.take j).filter f),rfl,?_,?_⟩
  ·rintro j y acc hy rfl
   obtain ⟨l,rfl,hl⟩:=l7 hy
   have tl:=o3 (p:=f) hl
   refine iR rfl ?_
   have yes:f l=true->aN ((ls.take j).filter f) ++ [cP l]=aN ((ls.take (j+1)).filter f):=fun e=>by
    rw [tl,e,if_pos rfl,<- wV]; rfl
   have no:f l=false->aN ((ls.take j).filter f)=aN ((ls.take (j+1)).filter f):=fun e=>by
    rw [tl,e,if_neg (by decide),bb7]
   have ef:f l=(decide (x.t<=l.1) && decide (l.1<=x.b) && (decide (x.l<=l.2) && decide (l.2<=x.r))):=rfl
   refine⟨_,rfl,_,rfl,_,_,_,rfl,rfl,rfl,x.t,l.1,rfl,rfl,?_⟩
   show if decide (x.t<=l.1)=true then _ else _
   cases h1:decide (x.t<=l.1) with
   | false=>
    rw [h1] at ef
    exact aS ⟨_,rfl,aS (aS (no ef))⟩
   | true=>
   rw [h1] at ef
   refine aZ ⟨_,rfl,x.b,rfl,_,rfl,?_⟩
   show if decide (l.1<=x.b)=true then _ else _
   cases h2:decide (l.1<=x.b) with
   | false=>
    rw [h2] at ef
    exact aS (aS (no ef))
   | true=>
   rw [h2] at ef
   refine aZ ⟨_,rfl,_,rfl,_,_,_,rfl,rfl,rfl,x.l,l.2,rfl,rfl,?_⟩
   show if decide (x.l<=l.2)=true then _ else _
   cases h3:decide (x.l<=l.2) with
   | false=>
    rw [h3] at ef
    exact aS ⟨_,rfl,aS (no ef)⟩
   | true=>
   rw [h3] at ef
   refine aZ ⟨_,rfl,x.r,rfl,_,rfl,?_⟩
   show if decide (l.2<=x.r)=true then _ else _
   cases h4:decide (l.2<=x.r) with
   | false=>
    rw [h4] at ef
    exact aS (no ef)
   | true=>
    rw [h4] at ef
    exact aZ ⟨_,rfl,by first | trivial | rfl,yes ef⟩
  ·rintro acc rfl
   rw [dY,ba6]
   refine⟨trivial,?_⟩
   have mine:=aP9 g.own hm (q:=f) fun p hp=>aR3.mpr hp
   refine⟨_,rfl,_,_,rfl,rfl,_,_,rfl,rfl,.inl ⟨by decide,by decide⟩,_,rfl,_,rfl,_,_,rfl,rfl,_,rfl,_,_,rfl,rfl,_,rfl,_,_,rfl,rfl,_,_,rfl,rfl,_,_,rfl,rfl,_,rfl,?_⟩
   rw [dY]
   rw [aW6 (by unfold cO at mine; omega)]
   exact aS ⟨si x.t,si x.l,si x.b,si x.r,some (.sh true (.lst (aN (ls.filter f)))),by unfold iC; rw [tk]; rfl⟩
 ·rintro ρ ⟨s12,s13,s14,s15,s16,rfl⟩
  rw [mP,ba6]
  refine⟨_,rfl,_,rfl,.inl ⟨_,_,rfl,rfl,trivial,?_⟩⟩
  have e:(bs.map fun x=>2 * cO x).sum=b:=by
   rw [Z0 okT,eb,aP8 g.far okT nd fun p=>by rw [hK,g.own.burnt g.far st.2]]
  show Q (.bl (decide ((bs.map fun x=>2 * cO x).sum=b)))
  rw [aX2 e]
  exact q
structure mV (r c:Int) (ls K R:List a9):Prop where
 nd:K.Nodup
 bd:∀ x ∈ K,bL r c x=true
 seeds:∀ x ∈ ls,x ∈ K
 brn:∀ x ∈ K,gW r c ls x
 ord:R.Pairwise eD
 rdy:∀ x,x ∈ R ↔ oJ r c K x
 few:R.length<=1600
theorem aR5 {D:lQ}{R1:List a9} (ok:bZ r c) (H:mV r c ls K R) (nd1:R1.Nodup) (sub:∀ x ∈ R1,x ∈ R) (l1:R1.length<=1600) (eb:b=(bT K:Nat)) (n0:0<=n)
  (nx:∀ R2 s10,mV r c ls (K ++ R1) R2->D.nx (iC ns r c ls (K ++ R1) s5 (bT (K ++ R1):Nat) (bT (K ++ R1):Nat) (n+1) R2 s10 none none none none none none)) :
  xA D (iC ns r c ls K s5 a b n R1 s10 none none none none none none):=by
 have kl:K.length<=1600:=oB ok H.nd H.bd
 have new:∀ x ∈ R1,x ∉ K:=fun x hx=>((H.rdy x).mp (sub x hx)).2.1
 have nd':(K ++ R1).Nodup:=bg7.mpr ⟨H.nd,nd1,fun x hx y hy e=>new y hy (e ▸ hx)⟩
 have bd':∀ x ∈ K ++ R1,bL r c x=true:=fun x hx=>by
  rcases ba2.mp hx with z | z
  ·exact H.bd x z
  ·exact ((H.rdy x).mp (sub x z)).1
 refine⟨_,rfl,_,rfl,(fun z=>by cases z),fun j ρ=>∃ s10,ρ=iC ns r c ls (K ++ R1.take j) s5 a b n R1 s10 none none none none none none,⟨s10,by rw [List.take_zero,bb7]⟩,?_,?_⟩
 ·rintro j y ρ hy ⟨s10,rfl⟩
  obtain ⟨x,rfl,hx⟩:=l7 hy
  refine iR rfl ?_
  have hn:x ∉ K ++ R1.take j:=fun z=>by
   rcases ba2.mp z with z | z
   ·exact new x (bd2 hx) z
   ·exact oC nd1 hx z
  refine⟨_,rfl,_,rfl,bF x,rfl,trivial,?_,some (.sh true (cP x)),?_⟩
  ·rw [oA,aZ3,bi3]; omega
  ·rw [wG hn,aY5,show R1.take j ++ [x]=R1.take (j+1) by rw [aZ9,hx]; rfl]; rfl
 rintro ρ ⟨s10,rfl⟩
 rw [dY,ba6]
 have kl':(K ++ R1).length<=1600:=oB ok nd' bd'
 refine⟨_,rfl,_,_,rfl,rfl,trivial,?_⟩
 have ek:((bG (K ++ R1)).map fun p=>PV.tup (p.1.map kP))=aN (K ++ R1):=by
  unfold bG aN
  rw [bb5]; rfl
 refine⟨_,rfl,_,rfl,_,rfl,bG (K ++ R1),rfl,(K ++ R1).map two,by rw [ek,<- l4]; rfl,by rw [aW5]; omega,fun y hy=>by obtain ⟨l,_,rfl⟩:=ba3.mp hy; rfl,fun Z pz so=>?_⟩
 obtain ⟨O,rfl,pm⟩:=vJ pz
 rw [<- l4]
 refine⟨r,c,_,O,rfl,.inr rfl,by rw [pm.length_eq]; omega,ok,⟨vK so (pm.nodup_iff.mpr nd'),fun x hx=>bd' x (pm.mem_iff.mp hx)⟩,trivial,?_⟩
 rw [aO7 pm]
 have le:bT (K ++ R1)<=bT K:=X8 nd' fun x hx=>((H.rdy x).mp (sub x hx)).2.2
 refine⟨_,rfl,_,rfl,_,_,rfl,rfl,_,rfl,?_⟩
 show if decide (((bT (K ++ R1):Nat):Int) > b)=true then _ else _
 rw [aW6 (by omega)]
 refine aS ⟨_,rfl,_,rfl,K ++ R1,rfl,.inl ⟨_,_,rfl,rfl,_,rfl,?_⟩⟩
 show if (!decide (((bT (K ++ R1):Nat):Int)=((bT (K ++ R1):Nat):Int)))=true then _ else _
 rw [aX2 rfl]
 refine aS ⟨_,rfl,trivial,?_⟩
 refine⟨_,rfl,_,rfl,_,rfl,r,c,K ++ R1,rfl,ok,nd',fun R2 o2 m2 f2=>⟨trivial,?_⟩⟩
 exact nx R2 s10 ⟨nd',bd',fun x hx=>bb1 _ (H.seeds x hx),fun x hx=>by
  rcases ba2.mp hx with z | z
  ·exact H.brn x z
  ·exact aP1 H.bd H.brn ((H.rdy x).mp (sub x z)),o2,m2,f2⟩
theorem aR6 (hn:ns.length<=63) (ok:bZ r c) (st:fD r c ls) (sl:ls.length<=200) (H:mV r c ls K R) (eb:b=(bT K:Nat)) (n0:0<=n) (q:Q (.bl true)) :
  Y8 { nx:=fun _=>Q .non,rt:=Q } (iC ns r c ls K s5 a b n R s10 none none none none none none):=by
 refine⟨fun M ρ=>∃ K R a b n s10,M+K.length=1600/\mV r c ls K R/\b=((bT K:Nat):Int)/\0<=n/\ρ=iC ns r c ls K s5 a b n R s10 none none none none none none,⟨1600 - K.length,K,R,a,b,n,s10,by have:=oB ok H.nd H.bd; omega,H,eb,n0,rfl⟩,?_⟩
 rintro M ρ ⟨K,R,a,b,n,s10,eM,H,eb,n0,rfl⟩
 have few:=H.few
 refine⟨_,rfl,_,_,rfl,rfl,_,_,rfl,rfl,_,rfl,?_⟩
 rw [dY]
 cases R with
 | nil=>
  refine aS ?_
  refine aR4 ok st sl H.nd (fun p=>⟨H.brn p,fun h=>aP2 H.seeds (fun x hx=>by have:=(H.rdy x).mpr hx; cases this) h⟩) eb q
 | cons x0 R0=>
  rw [aX2 (by rw [ba0]; omega)]
  refine aZ ⟨_,rfl,_,_,rfl,rfl,_,rfl,?_⟩
  have go:∀ R1:List a9,R1.Nodup->(∀ x ∈ R1,x ∈ x0 :: R0)->R1.length<=1600->R1 ≠ []->xA { nx:=fun ρ2=>∃ m',m' < M/\∃ K R a b n s10,m'+K.length=1600/\mV r c ls K R/\b=((bT K:Nat):Int)/\0<=n/\ρ2=iC ns r c ls K s5 a b n R s10 none none none none none none,rt:=Q,ct:=fun ρ2=>∃ m',m' < M/\∃ K R a b n s10,m'+K.length=1600/\mV r c ls K R/\b=((bT K:Nat):Int)/\0<=n/\ρ2=iC ns r c ls K s5 a b n R s10 none none none none none none,bk:=x9 { nx:=fun _=>Q .non,rt:=Q } } (iC ns r c ls K s5 a b n R1 s10 none none none none none none):=fun R1 nd1 sub l1 ne=>by
   refine aR5 ok H nd1 sub l1 eb n0 fun R2 s10 H2=>?_
   have l2:=oB ok H2.nd H2.bd
   have:=List.length_pos_iff.mpr ne
   rw [aZ3] at l2
   refine⟨1600 - (K ++ R1).length,by rw [aZ3]; omega,K ++ R1,R2,_,_,n+1,s10,by rw [aZ3]; omega,H2,rfl,by omega,rfl⟩
  by_cases lt:n < 20
  ·rw [aX2 lt]
   refine aZ ?_
   have pos:(0:Int) < ((aN (x0 :: R0)).length:Int):=by rw [dY,ba0]; omega
   refine⟨_,rfl,_,rfl,_,rfl,ns,n,rfl,hn,n0,by omega,fun z=>⟨_,rfl,_,_,rfl,rfl,_,_,rfl,rfl,pos,?_⟩⟩
   dsimp only
   have z0:=Int.emod_nonneg z (show ((aN (x0 :: R0)).length:Int) ≠ 0 by omega)
   have z1:=Int.emod_lt_of_pos z pos
   generalize z % ((aN (x0 :: R0)).length:Int)=w at z0 z1
   obtain ⟨w,rfl⟩:=Int.eq_ofNat_of_zero_le z0
   rw [dY] at z1
   obtain ⟨x,hx⟩:∃ x,(x0 :: R0)[w]? = some x:=⟨_,aY1 (by omega)⟩
   have ax:L2.atI (aN (x0 :: R0)) (w:Int)=some (cP x):=yZ (by unfold aN; rw [aX1,hx]; rfl)
   refine⟨_,_,_,rfl,rfl,ax,by show 1<=1000; decide,rfl,trivial,?_⟩
   exact go [x] (bb4.mpr ⟨(fun z=>by cases z),bl3⟩) (fun y hy=>by rw [aX4.mp hy]; exact bd2 hx) (by show 1<=1600; decide) (List.cons_ne_nil _ _)
  ·rw [aW6 lt]
   exact aS (go _ (x4 H.ord) (fun x h=>h) few (List.cons_ne_nil _ _))
theorem Z1 (hn:ns.length<=63) (ok:bZ r c) (st:fD r c ls) (sl:ls.length<=200) (q:Q (.bl true)) :
  xB { nx:=fun _=>Q .non,rt:=Q } [some (.sh true (.scr ns)),si r,si c,some (.sh true (.tup (aN ls))),none,none,none,none,none,none,none,none,none,none,none,none,none]:=by
 have nd:=x4 st.1
 refine⟨rfl,rfl,?_⟩
 refine⟨_,rfl,_,rfl,(fun z=>by cases z),fun j ρ=>∃ s5,ρ = [some (.sh true (.scr ns)),si r,si c,some (.sh true (.tup (aN ls))),some (.own (.dT (bG (ls.take j)))),s5,none,none,none,none,none,none,none,none,none,none,none],⟨none,rfl⟩,?_,?_⟩
 ·rintro j y ρ hy ⟨s5,rfl⟩
  obtain ⟨x,rfl,hx⟩:=l7 hy
  refine iR rfl ?_
  refine⟨_,rfl,_,rfl,bF x,rfl,trivial,?_,some (.sh true (cP x)),?_⟩
  ·rw [oA,bi3]; omega
  ·rw [wG (oC nd hx),show ls.take j ++ [x]=ls.take (j+1) by rw [aZ9,hx]; rfl]; rfl
 rintro ρ ⟨s5,rfl⟩
 rw [dY,ba6]
 refine⟨_,rfl,_,rfl,_,rfl,r,c,_,ls,rfl,.inl rfl,by omega,ok,st,trivial,?_⟩
 refine⟨_,rfl,_,rfl,_,rfl,aS ⟨_,rfl,_,rfl,ls,rfl,.inl ⟨_,_,rfl,rfl,_,rfl,?_⟩⟩⟩
 show if (!decide (((bT ls:Nat):Int)=((bT ls:Nat):Int)))=true then _ else _
 rw [aX2 rfl]
 refine aS ⟨_,rfl,trivial,?_⟩
 refine⟨trivial,?_⟩
 refine⟨_,rfl,_,rfl,_,rfl,r,c,ls,rfl,ok,nd,fun R o m f=>⟨trivial,?_⟩⟩
 exact aR6 (a:=(bT ls:Nat)) (b:=(bT ls:Nat)) (n:=0) (s10:=none) hn ok st sl ⟨nd,st.2,fun x h=>h,fun x h=>.seed h,o,m,f⟩ rfl (by decide) q
end
theorem aR7:dJ Y9 ["script","rows","columns","seeds","burning","seed","told","last","at","ready","cell","together","top","left","bottom","right","mine"] xC:=by
 rintro xs Q ⟨ns,rfl,hn,q⟩
 refine⟨_,rfl,_,ns,0,rfl,.inl rfl,by decide,_,rfl,fun r c ok=>⟨trivial,_,_,rfl,?_⟩⟩
 refine⟨_,rfl,_,rfl,_,rfl,ns,1,r,c,rfl,hn,by decide,by decide,ok,fun ls st sl=>⟨trivial,?_⟩⟩
 have okb:=ok
 unfold bZ at okb
 refine⟨_,rfl,_,rfl,_,_,rfl,rfl,.inl ⟨by omega,by omega⟩,_,_,rfl,rfl,_,rfl,?_⟩
 generalize decide (r * c > 81)=d
 cases d with
 | false=>exact aS (Z1 hn ok st sl q)
 | true=>
  have e:=aG8 (ls:=ls) (w:=14) (by decide)
  refine aZ ⟨_,rfl,_,rfl,_,rfl,o5 _,trivial,?_⟩
  show xB _ [_,_,_,some (Slot.sh true (.tup (i6 (aN ls) none (some 14)))),_,_,_,_,_,_,_,_,_,_,_,_,_]
  rw [e]
  exact Z1 hn ok ⟨st.1.sublist (List.take_sublist _ _),fun x hx=>st.2 x (bk9 hx)⟩ (by rw [bi3]; omega) q
end Core
namespace K_k60
open PySem PySem.W L2 PP Core
theorem _root_.L2.FnScope.au {N P:List Str}{s:Scope} (a:s.kind=.function:=by rfl) (b:s.isCoroutine=false:=by rfl) (c:s.isGenerator=false:=by rfl) (d:N.Nodup:=by decide +kernel) (e:N.take P.length=P:=by rfl) (f:∀ x∈P,s.names.lookup x=some .local∨s.names.lookup x=some .cell:=by decide +kernel) (g:∀ y∈s.names,y.2≠.free:=by decide +kernel):FnScope N P s:=⟨a,b,c,d,e,f,g⟩
noncomputable def b8 (i:Nat):Stmt:=PySem.Challenge.pw_kindleweb_k60_whole_outlines.main.body.getD i (.Pass ⟨0,0,0,0⟩)
structure FK (K:Frag) (n:Str) (i:Nat) (f:Addr) (d:FuncData):Prop where
 a:nsIn K mainGlobals n=some (some (.ref f))
 F:gB K n n (b8 i) f d
structure FM (K:Frag) (mg:Str->Option Value) (n:Str) (i:Nat) (f:Addr) (d:FuncData):Prop where
 F:gB K n n (b8 i) f d
 m:mg n=some (.ref f)
theorem FK.M {K:Frag}{mg:Str->Option Value}{n:Str}{i:Nat}{f:Addr}{d:FuncData}{h:Heap} (z:FK K n i f d) (X:K.In h) (G:h.Ns mainGlobals mg):FM K mg n i f d:=⟨z.F,mg_of X G z.a⟩
noncomputable abbrev Hb (x:Str) (ps:List Str) (i:Nat):Prop:=∀ (kV doc pm:Value) (an:Option Addr) (cdv ct:Value) (us:List Value),us.length=ps.length->bindArgs (fnOf x x (iW (b8 i)) (eL (b8 i)) (aW (b8 i)) .none kV doc pm an cdv ct) ⟨us,[]⟩=pure (ps.zip us)
theorem xD {A:Around}{k:Nat} (hr:c6 k A):A.units+3 < cLine:=by have:=hr.units; omega
section
variable {P : Program} {w : World} {K : Frag} {mg : Str → Option Value} {base : Heap} {f : Addr} {fd : FuncData} {k i : Nat} {x : Str} {ps N : List Str}
theorem Df.au {p:bW} (F:FM K mg x i f fd) (S:FnScope N ps (aW (b8 i))) (body:∀ (cdv:Value) (A:Around) (outer:List Env) (s:Shared) (H:Hp) (E:XK),c6 k (A.deeper (PyProof.Rows.envOfC x (aW (b8 i)) s.heap.objs.size f cdv))->∃ t,dW (dA fN P w K mg base N x (aW (b8 i)) f cdv A outer s H E).nox (eL (b8 i)) t/\∀ xs Q,p xs Q->t { nx:=fun _=>Q .non,rt:=Q } (fU N xs)) (hb:Hb x ps i:=by intro _ _ _ _ _ _ us hl; first | (obtain ⟨_,rfl⟩:=vY hl; rfl) | (obtain ⟨_,_,rfl⟩:=vZ hl; rfl) | (obtain ⟨_,_,_,rfl⟩:=w4 hl; rfl) | (obtain ⟨_,_,_,_,rfl⟩:=N7 hl; rfl) | (obtain ⟨_,_,_,_,_,rfl⟩:=us5 hl; rfl)) (len:∀ xs Q,p xs Q->xs.length=ps.length:=by intro xs Q h; repeat (first | (obtain ⟨rfl,_⟩:=h; rfl) | (obtain ⟨_,h⟩:=h))):Df P w K mg base (k+1) x ps p:=
 Df.of F.F F.m S hb len body
theorem cA.au {p:fB} (F:FM K mg x i f fd) (S:FnScope N ps (aW (b8 i))) (t:(Str->Prop)->aO) (rd:∀ Ep xs Q,p Ep xs Q->t Ep { nx:=fun _=>Q .non,rt:=Q } (fU N xs)) (body:∀ (cdv:Value) (A:Around) (outer:List Env) (s:Shared) (H:Hp) (E:XK) (Ep:Str->Prop),c6 k (A.deeper (PyProof.Rows.envOfC x (aW (b8 i)) s.heap.objs.size f cdv))->mE (dA (eY P w) P w K mg base N x (aW (b8 i)) f cdv A outer s H E) (EX K H Ep)->dW (dA (eY P w) P w K mg base N x (aW (b8 i)) f cdv A outer s H E) (eL (b8 i)) (t Ep)) (hb:Hb x ps i:=by intro _ _ _ _ _ _ us hl; first | (obtain ⟨_,rfl⟩:=vY hl; rfl) | (obtain ⟨_,_,rfl⟩:=vZ hl; rfl) | (obtain ⟨_,_,_,rfl⟩:=w4 hl; rfl) | (obtain ⟨_,_,_,_,rfl⟩:=N7 hl; rfl) | (obtain ⟨_,_,_,_,_,rfl⟩:=us5 hl; rfl)) (len:∀ Ep xs Q,p Ep xs Q->xs.length=ps.length:=by intro Ep xs Q h; repeat (first | (obtain ⟨rfl,_⟩:=h; rfl) | (obtain ⟨_,h⟩:=h))):cA P w K mg base (k+1) x ps p:=
 cA.of F.F F.m S hb t len rd body
end
section
variable {P : Program} {w : World} {K : Frag} {mg : Str → Option Value} {base : Heap} {f : Addr} {fd : FuncData}
theorem aR8:FnScope ["things"] ["things"] (aW (b8 6)):=.au
theorem aR9 (B:Bt mg) (F:FM K mg "rises" 6 f fd)  : Df P w K mg base 1 "rises" ["things"] rT:=
 Df.au F aR8 (fun cdv A outer s H E hr=>by
  have hu:=iX hr
  exact⟨(Q0),(aT (c8 (F4 B rfl (a8 (M9 (N:=["ahead","behind"]) (fr:=[none,none]) (aE7 B (qv 0) (uY (qv 0) (uX aB) uW)) (fun _ _ _ _=>(aE3 hu (qv 0) (qv 1)))) aG)))),aF3⟩)
theorem sR:FnScope ["hearths","inside","hearth"] ["hearths"] (aW (b8 7)):=.au
theorem aS0 (B:Bt mg) (F:FM K mg "marked" 7 f fd)  : Df P w K mg base 1 "marked" ["hearths"] sM:=
 Df.au F sR (fun cdv A outer s H E hr=>by
  have nd:=sR.nd
  have hu:=iX hr
  exact⟨(V3),(aM (j7 (i:=1) nd qL)
   (aM (i7 2 nd (eW (qv 0))
    (aT (m8 hu (i:=1) (qv 2) iK)))
   (aT (m7 1)))),aM7⟩)
theorem aS1 (B:Bt mg) (F:FM K mg "marked" 7 f fd)  : Df P w K mg base 1 "marked" ["hearths"] rY:=
 Df.au F sR (fun cdv A outer s H E hr=>by
  have nd:=sR.nd
  have hu:=iX hr
  exact⟨R5,(aM (j7 (i:=1) nd qL)
   (aM (i7 2 nd (eW (qv 0))
    (aT (m8 hu (i:=1) (qv 2) iK)))
   (aT (m7 1)))),aG2⟩)
theorem aS2:FnScope ["hearths","inside"] ["hearths","inside"] (aW (b8 8)):=.au
theorem aS3 (B:Bt mg) (F:FM K mg "count_inside" 8 f fd)  : Df P w K mg base 1 "count_inside" ["hearths","inside"] sQ:=
 Df.au F aS2 (fun cdv A outer s H E hr=>by
  have hu:=iX hr
  exact⟨(Y1),(aT (c8 (j8 B (a8 (F8 (N:=["hearth","inside"]) (fr:=[none,some 1]) (eW (qv 0)) (fun _ _ _ _=>(at6 hu (qv 0) (qv 1))) (fun _ _ _ _=>(qv 0))) aG)))),aQ0⟩)
theorem aS4:FnScope ["rows","columns"] ["rows","columns"] (aW (b8 11)):=.au
theorem aS5 (B:Bt mg) (F:FM K mg "looked_through" 11 f fd) (x_BadBoard:Xc K mg base "BadBoard") {u_MOST_ROWS:Nat} (m_MOST_ROWS:mg "MOST_ROWS" = some (.int 40 u_MOST_ROWS)):cA P w K mg base 1 "looked_through" ["rows","columns"] rU:=
 cA.au F aS4 Q2 aF4 (fun cdv A outer s H E Ep hr hX=>by
  exact (aT (dC (iL (m6 (kT (uU B rfl (a8 (qv 0) (a8 (qv 1) aG))) aB) (m5 (lZ (qN B rfl (a8 (qv 0) (a8 (qv 1) aG))) (N0 rfl m_MOST_ROWS))))) (aT (rJ hX x_BadBoard (a8 qI aG))) dI)))
theorem aS6:FnScope ["rows","columns","cell"] ["rows","columns","cell"] (aW (b8 12)):=.au
theorem aS7 (B:Bt mg) (F:FM K mg "is_cell" 12 f fd)  : Df P w K mg base 1 "is_cell" ["rows","columns","cell"] mK:=
 Df.au F aS6 (fun cdv A outer s H E hr=>by
  exact⟨(Q3),(aT (c8 (nR (F0 (bD (qv 2) aB) aB) (nR (E9 (bD (qv 2) aB) (qv 0)) (nR (F0 (bD (qv 2) aB) aB) (uP (E9 (bD (qv 2) aB) (qv 1)))))))),aF5⟩)
theorem aS8:FnScope ["start","end","other_start","other_end"] ["start","end","other_start","other_end"] (aW (b8 19)):=.au
theorem aS9 (B:Bt mg) (F:FM K mg "gap" 19 f fd)  : Df P w K mg base 1 "gap" ["start","end","other_start","other_end"] oG:=
 Df.au F aS8 (fun cdv A outer s H E hr=>by
  exact⟨(T9),(aT (c8 (aI8 B rfl (a8 aB (a8 (eV (qv 2) (qv 1)) (a8 (eV (qv 0) (qv 3)) aG)))))),aL7⟩)
theorem aT0:FnScope ["one","other"] ["one","other"] (aW (b8 20)):=.au
theorem aT1 (B:Bt mg) (F:FM K mg "hull_of" 20 f fd)  : Df P w K mg base 1 "hull_of" ["one","other"] mR:=
 Df.au F aT0 (fun cdv A outer s H E hr=>by
  exact⟨(U1),(aT (c8 (dO (a8 (uU B rfl (a8 (bD (qv 0) aB) (a8 (bD (qv 1) aB) aG))) (a8 (uU B rfl (a8 (bD (qv 0) aB) (a8 (bD (qv 1) aB) aG))) (a8 (qN B rfl (a8 (bD (qv 0) aB) (a8 (bD (qv 1) aB) aG))) (a8 (qN B rfl (a8 (bD (qv 0) aB) (a8 (bD (qv 1) aB) aG))) aG))))))),aL9⟩)
theorem aT2:FnScope ["cells"] ["cells"] (aW (b8 21)):=.au
theorem aT3 (B:Bt mg) (F:FM K mg "cell_boxes" 21 f fd)  : Df P w K mg base 1 "cell_boxes" ["cells"] mS:=
 Df.au F aT2 (fun cdv A outer s H E hr=>by
  exact⟨(U4),(aT (c8 (M9 (N:=["row","column"]) (fr:=[none,none]) (eW (qv 0)) (fun _ _ _ _=>(dO (a8 (qv 0) (a8 (qv 1) (a8 (qv 0) (a8 (qv 1) aG))))))))),aM0⟩)
theorem aT4:FnScope ["script","k"] ["script","k"] (aW (b8 28)):=.au
theorem aT5 (B:Bt mg) (F:FM K mg "_law_cell" 28 f fd)  : Df P w K mg base 1 "_law_cell" ["script","k"] jV:=
 Df.au F aT4 (fun cdv A outer s H E hr=>by
  exact⟨(M0),(aM (dC (kT (qv 1) (j8 B (a8 (qv 0) aG))) (aT (c8 (bD (qv 0) (qv 1)))) dI)
   (aT (c8 aB))),az3⟩)
theorem aT6:FnScope ["found"] ["found"] (aW (b8 30)):=.au
theorem aT7 (B:Bt mg) (F:FM K mg "_law_whole" 30 f fd)  : Df P w K mg base 1 "_law_whole" ["found"] rF:=
 Df.au F aT6 (fun cdv A outer s H E hr=>by
  exact⟨(M3 K),(aT (c8 (nR (au5 B (qv 0)) (uP (at8 (au6 B (qv 0))))))),az4 (vL K).ii (vL K).ib⟩)
theorem Z2:FnScope ["cell","rows","columns"] ["cell"] (aW (b8 31)):=.au
theorem aT8 (B:Bt mg) (F:FM K mg "_law_lines" 31 f fd)  : Df P w K mg base 1 "_law_lines" ["cell"] rZ:=
 Df.au F Z2 (fun cdv A outer s H E hr=>by
  have nd:=Z2.nd
  exact⟨(R6),(aM (bB (i:=1) nd (cN aB (dB (qv 0) aB)))
   (aM (bB (i:=2) nd (cN aB (dB (gU (qv 0) aB) aB)))
   (aM (dC (qJ (dB (gU (qv 0) aB) aB) aB) (aM (bB (i:=1) nd (cN aB (dB (gU (qv 0) aB) aB)))
    (aT (bB (i:=2) nd (cN aB (dB (gU (qv 0) aB) aB))))) dI)
   (aT (c8 (dO (a8 (qv 1) (a8 (qv 2) aG)))))))),aG3⟩)
theorem Z3:FnScope ["burning","sides","row","column","one"] ["burning"] (aW (b8 33)):=.au
theorem aT9 (B:Bt mg) (F:FM K mg "_law_sides" 33 f fd)  : Df P w K mg base 1 "_law_sides" ["burning"] oR:=
 Df.au F Z3 (fun cdv A outer s H E hr=>by
  have nd:=Z3.nd
  have hu:=iX hr
  exact⟨(Y4),(aM (bB (i:=1) nd aB)
   (aM (X1 0 2 3 nd (fun _=>
    (aT (i7 4 nd (eW (jT (a8 (dO (a8 (eV (qv 2) aB) (a8 (qv 3) aG))) (a8 (dO (a8 (cN (qv 2) aB) (a8 (qv 3) aG))) (a8 (dO (a8 (qv 2) (a8 (eV (qv 3) aB) aG))) (a8 (dO (a8 (qv 2) (a8 (cN (qv 3) aB) aG))) aG))))))
     (aT (bB (i:=1) nd (cN (qv 1) (aD6 B (a8 (at7 hu (qv 4) (qv 0)) aG)))))))))
   (aT (m7 1)))),aQ3⟩)
theorem Z4:FnScope ["rows","columns","burning","met","row","column","one"] ["rows","columns","burning"] (aW (b8 34)):=.au
theorem aU0 (B:Bt mg) (F:FM K mg "_law_ready" 34 f fd)  : Df P w K mg base 1 "_law_ready" ["rows","columns","burning"] oS:=
 Df.au F Z4 (fun cdv A outer s H E hr=>by
  have nd:=Z4.nd
  have hu:=iX hr
  exact⟨(Y6),(aM (j7 (i:=3) nd qL)
   (aM (X1 2 4 5 nd (fun _=>
    (aT (i7 6 nd (eW (jT (a8 (dO (a8 (eV (qv 4) aB) (a8 (qv 5) aG))) (a8 (dO (a8 (cN (qv 4) aB) (a8 (qv 5) aG))) (a8 (dO (a8 (qv 4) (a8 (eV (qv 5) aB) aG))) (a8 (dO (a8 (qv 4) (a8 (cN (qv 5) aB) aG))) aG))))))
     (aT (dC (iL (nP (R3 aB (bD (qv 6) aB) (qv 0)) (nP (R3 aB (bD (qv 6) aB) (qv 1)) (qK (uO hu (qv 6) (qv 2)))))) (aT (m8 hu (i:=3) (qv 6) (cN (aG0 hu (qv 3) (qv 6) aB) aB))) dI))))))
   (aT (c8 (w6 B (a8 (aO4 (N:=["cell","met"]) (fr:=[none,some 3]) 3 (fun _ _ _ _=>(lZ (at9 hu (qv 1) (qv 0)) aB)) (fun _ _ _ _=>(qv 0))) aG)))))),aR2⟩)
theorem aU1:FnScope ["rows","columns","cells"] ["rows","columns","cells"] (aW (b8 13)):=.au
theorem aU2 (B:Bt mg) (F:FM K mg "made_cells" 13 f fd) (d_looked_through:cA P w K mg base 1 "looked_through" ["rows","columns"] rU) (d_rises:Df P w K mg base 1 "rises" ["things"] rT) (d_is_cell:Df P w K mg base 1 "is_cell" ["rows","columns","cell"] mK) (x_BadSet:Xc K mg base "BadSet"):cA P w K mg base 2 "made_cells" ["rows","columns","cells"] jX:=
 cA.au F aU1 Q4 aF6 (fun cdv A outer s H E Ep hr hX=>by
  exact (aM (au0 (mG hX d_looked_through hr (a8 (qv 0) (a8 (qv 1) aG))))
   (aM (dC (iL (m6 (nQ (kU (bR d_rises hr (a8 (qv 2) aG)))) (m5 (nQ (kU (F4 B rfl (a8 (F7 (N:=["cell","rows","columns"]) (fr:=[none,some 0,some 1]) (eW (qv 2)) (fun _ _ _ _=>(bR d_is_cell hr (a8 (qv 1) (a8 (qv 2) (a8 (qv 0) aG)))))) aG))))))) (aT (rJ hX x_BadSet (a8 qI aG))) dI)
   (aT (c8 (uT B (a8 (qv 2) aG)))))))
theorem Z5:FnScope ["rows","columns","cell","row","column","sides"] ["rows","columns","cell"] (aW (b8 14)):=.au
theorem aU3 (B:Bt mg) (F:FM K mg "sides_of" 14 f fd) (d_is_cell:Df P w K mg base 1 "is_cell" ["rows","columns","cell"] mK):Df P w K mg base 2 "sides_of" ["rows","columns","cell"] rV:=
 Df.au F Z5 (fun cdv A outer s H E hr=>by
  have nd:=Z5.nd
  exact⟨(Q5),(aM (bB (i:=3) nd (bD (qv 2) aB))
   (aM (bB (i:=4) nd (bD (qv 2) aB))
   (aM (bB (i:=5) nd (jT (a8 (dO (a8 (eV (qv 3) aB) (a8 (qv 4) aG))) (a8 (dO (a8 (qv 3) (a8 (eV (qv 4) aB) aG))) (a8 (dO (a8 (qv 3) (a8 (cN (qv 4) aB) aG))) (a8 (dO (a8 (cN (qv 3) aB) (a8 (qv 4) aG))) aG))))))
   (aT (c8 (F8 (N:=["side","rows","columns"]) (fr:=[none,some 0,some 1]) (eW (qv 5)) (fun _ _ _ _=>(kU (bR d_is_cell hr (a8 (qv 1) (a8 (qv 2) (a8 (qv 0) aG)))))) (fun _ _ _ _=>(qv 0)))))))),aF7⟩)
theorem Z6:FnScope ["one","other","between_rows","between_columns"] ["one","other"] (aW (b8 18)):=.au
theorem aU4 (B:Bt mg) (F:FM K mg "near_boxes" 18 f fd) (d_gap:Df P w K mg base 1 "gap" ["start","end","other_start","other_end"] oG) {u_MOST_STEPS_APART:Nat} (m_MOST_STEPS_APART:mg "MOST_STEPS_APART" = some (.int 2 u_MOST_STEPS_APART)):Df P w K mg base 2 "near_boxes" ["one","other"] mQ:=
 Df.au F Z6 (fun cdv A outer s H E hr=>by
  have nd:=Z6.nd
  exact⟨(U0),(aM (bB (i:=2) nd (bR d_gap hr (a8 (bD (qv 0) aB) (a8 (bD (qv 0) aB) (a8 (bD (qv 1) aB) (a8 (bD (qv 1) aB) aG))))))
   (aM (bB (i:=3) nd (bR d_gap hr (a8 (bD (qv 0) aB) (a8 (bD (qv 0) aB) (a8 (bD (qv 1) aB) (a8 (bD (qv 1) aB) aG))))))
   (aT (c8 (at4 (cN (qv 2) (qv 3)) (N0 rfl m_MOST_STEPS_APART)))))),aL8⟩)
theorem Z7:FnScope ["script","k","stir"] ["script","k"] (aW (b8 29)):=.au
theorem aU5 (B:Bt mg) (F:FM K mg "_law_number" 29 f fd) (d__law_cell:Df P w K mg base 1 "_law_cell" ["script","k"] jV):Df P w K mg base 2 "_law_number" ["script","k"] mL:=
 Df.au F Z7 (fun cdv A outer s H E hr=>by
  have nd:=Z7.nd
  exact⟨(R7),(aM (dC (kT (qv 1) (j8 B (a8 (qv 0) aG))) (aT (c8 (bD (qv 0) (qv 1)))) dI)
   (aM (bB (i:=2) nd (dB (jS (cN (cN (dB (bR d__law_cell hr (a8 (qv 0) (a8 (dB (qv 1) (qN B rfl (a8 aB (a8 (j8 B (a8 (qv 0) aG)) aG)))) aG))) aB) (jS aB (qv 1))) aB) aB) aB))
   (aT (c8 (gU (dB (jS (qv 2) (qv 2)) aB) aB))))),aG4⟩)
theorem Z8:FnScope ["rows","columns","cells","chosen","inside"] ["rows","columns","cells"] (aW (b8 15)):=.au
theorem aU6 (B:Bt mg) (F:FM K mg "outline" 15 f fd) (d_made_cells:cA P w K mg base 2 "made_cells" ["rows","columns","cells"] jX) (d_marked:Df P w K mg base 1 "marked" ["hearths"] rY) (d_count_inside:Df P w K mg base 1 "count_inside" ["hearths","inside"] sQ) (d_sides_of:Df P w K mg base 2 "sides_of" ["rows","columns","cell"] rV):cA P w K mg base 3 "outline" ["rows","columns","cells"] oQ:=
 cA.au F Z8 Y3 aQ2 (fun cdv A outer s H E Ep hr hX=>by
  have nd:=Z8.nd
  exact (aM (bB (i:=3) nd (mG hX d_made_cells hr (a8 (qv 0) (a8 (qv 1) (a8 (qv 2) aG)))))
   (aM (bB (i:=4) nd (bR d_marked hr (a8 (qv 3) aG)))
   (aT (c8 (aC5 B rfl (a8 (F7 (N:=["cell","inside","rows","columns"]) (fr:=[none,some 4,some 0,some 1]) (eW (qv 3)) (fun _ _ _ _=>(eV aB (bR d_count_inside hr (a8 (bR d_sides_of hr (a8 (qv 2) (a8 (qv 3) (a8 (qv 0) aG)))) (a8 (qv 1) aG)))))) aG)))))))
theorem Z9:FnScope ["boxes","box","other"] ["boxes","box"] (aW (b8 24)):=.au
theorem aU7 (B:Bt mg) (F:FM K mg "first_near" 24 f fd) (d_near_boxes:Df P w K mg base 2 "near_boxes" ["one","other"] mQ):Df P w K mg base 3 "first_near" ["boxes","box"] lB:=
 Df.au F Z9 (fun cdv A outer s H E hr=>by
  have nd:=Z9.nd
  exact⟨(U5),(aM (i7 2 nd (eW (qv 0))
    (aT (dC (kU (bR d_near_boxes hr (a8 (qv 2) (a8 (qv 1) aG)))) (aT (m7 2)) dI)))
   (aT (c8 uM))),aM2⟩)
theorem aU8:FnScope ["there","step"] ["there","step"] (aW (b8 26)):=.au
theorem aU9 (B:Bt mg) (F:FM K mg "may_be_done" 26 f fd) (d_near_boxes:Df P w K mg base 2 "near_boxes" ["one","other"] mQ):Df P w K mg base 3 "may_be_done" ["there","step"] sL:=
 Df.au F aU8 (fun cdv A outer s H E hr=>by
  have hu:=iX hr
  have hu3:=xD hr
  exact⟨(V2 K),(aM (dC (iL (m6 (nQ (kU (au7 B (qv 1)))) (m5 (uN (j8 B (a8 (qv 1) aG)) aB)))) (aT (c8 iK)) dI)
   (aM (dC (iL (m6 (uO hu (bD (qv 1) aB) (qv 0)) (m5 (uO hu (bD (qv 1) aB) (qv 0))))) (aT (c8 iK)) dI)
   (aT (c8 (nR (aE0 hu3 (bD (qv 1) aB) (bD (qv 1) aB)) (uP (bR d_near_boxes hr (a8 (bD (qv 1) aB) (a8 (bD (qv 1) aB) aG))))))))),aM6 (vL K).tt⟩)
theorem aa0:FnScope ["script","at","rows","columns","cell","seeds","place","many","row","column","k"] ["script","at","rows","columns"] (aW (b8 32)):=.au
theorem aV0 (B:Bt mg) (F:FM K mg "_law_seeds" 32 f fd) (d__law_cell:Df P w K mg base 1 "_law_cell" ["script","k"] jV) (d__law_number:Df P w K mg base 2 "_law_number" ["script","k"] mL):Df P w K mg base 3 "_law_seeds" ["script","at","rows","columns"] sA:=
 Df.au F aa0 (fun cdv A outer s H E hr=>by
  have nd:=aa0.nd
  have hu3:=xD hr
  exact⟨(R8),(aM (bB (i:=4) nd (bR d__law_cell hr (a8 (qv 0) (a8 (qv 1) aG))))
   (aM (dC (iL (nP (qJ (dB (qv 4) aB) aB) (qK (kT (jS (qv 2) (qv 3)) aB)))) (aM (j7 (i:=5) nd (jT aG))
    (aM (i7 6 nd (F3 rfl B.range (jS (qv 2) (qv 3)))
     (aM (bB (i:=4) nd (gU (qv 4) aB))
     (aT (dC (qJ (dB (qv 4) aB) aB) (aT (qM 5 (dO (a8 (gU (qv 6) (qv 3)) (a8 (dB (qv 6) (qv 3)) aG))))) dI))))
    (aT (c8 (uT B (a8 (qv 5) aG)))))) dI)
   (aM (bB (i:=7) nd (eV (j8 B (a8 (qv 0) aG)) (qv 1)))
   (aM (dC (kT (qv 7) aB) (aT (bB (i:=7) nd aB)) dI)
   (aM (j7 (i:=5) nd (jT aG))
   (aM (bB (i:=8) nd aB)
   (aM (bB (i:=9) nd aB)
   (aM (i7 10 nd (F3 rfl B.range (qv 7))
    (aM (bB (i:=4) nd (bR d__law_number hr (a8 (qv 0) (a8 (cN (qv 1) (qv 10)) aG))))
    (aM (dC (qJ (dB (qv 4) aB) aB) (aM (bB (i:=8) nd (dB (gU (qv 4) aB) (qv 2)))
     (aT (bB (i:=9) nd (dB (gU (qv 4) aB) (qv 3))))) (aM (bB (i:=8) nd (dB (eV (cN (qv 8) (dB (gU (qv 4) aB) aB)) aB) (qv 2)))
     (aT (bB (i:=9) nd (dB (eV (cN (qv 9) (dB (gU (qv 4) aB) aB)) aB) (qv 3))))))
    (aT (dC (iL (nP (aD9 hu3 (dO (a8 (qv 8) (a8 (qv 9) aG))) (qv 5)) (qK (lZ (dB (gU (qv 4) aB) aB) aB)))) (aT (qM 5 (dO (a8 (qv 8) (a8 (qv 9) aG))))) dI)))))
   (aT (c8 (uT B (a8 (w6 B (a8 (qv 5) aG)) aG)))))))))))),aG7⟩)
theorem aa1:FnScope ["rows","columns","seeds","settled","steps","box","growing","close"] ["rows","columns","seeds"] (aW (b8 23)):=.au
theorem aV1 (B:Bt mg) (F:FM K mg "growth" 23 f fd) (d_cell_boxes:Df P w K mg base 1 "cell_boxes" ["cells"] mS) (d_made_cells:cA P w K mg base 2 "made_cells" ["rows","columns","cells"] jX) (d_first_near:Df P w K mg base 3 "first_near" ["boxes","box"] lB) (d_hull_of:Df P w K mg base 1 "hull_of" ["one","other"] mR):cA P w K mg base 4 "growth" ["rows","columns","seeds"] sN:=
 cA.au F aa1 V7 aN3 (fun cdv A outer s H E Ep hr hX=>by
  have nd:=aa1.nd
  have hu3:=xD hr
  exact (aM (j7 (i:=3) nd (jT aG))
   (aM (j7 (i:=4) nd (jT aG))
   (aM (i7 5 (hp:=hX.own) nd (eW (bR d_cell_boxes hr (a8 (mG hX d_made_cells hr (a8 (qv 0) (a8 (qv 1) (a8 (qv 2) aG)))) aG)))
    (aM (bB (i:=6) nd (qv 5))
    (aM (bB (i:=7) nd (bR d_first_near hr (a8 (qv 3) (a8 (qv 6) aG))))
    (aM (F2 hX.own (F1 (qv 7) uM)
     (aM (qM 4 (dO (a8 (aJ1 B rfl hu3 (a8 (qv 6) (a8 (qv 7) aG))) (a8 (aJ2 B rfl hu3 (a8 (qv 6) (a8 (qv 7) aG))) aG))))
     (aM (bB (i:=6) nd (bR d_hull_of hr (a8 (qv 6) (a8 (qv 7) aG))))
     (aM (aJ7 3 hu3 (qv 7))
     (aT (bB (i:=7) nd (bR d_first_near hr (a8 (qv 3) (a8 (qv 6) aG)))))))))
    (aT (qM 3 (qv 6)))))))
   (aT (m7 4))))))
theorem aa2:FnScope ["rows","columns","seeds","steps","there","step","boxes","turn","box"] ["rows","columns","seeds","steps"] (aW (b8 25)):=.au
theorem aV2 (B:Bt mg) (F:FM K mg "judged_growth" 25 f fd) (d_marked:Df P w K mg base 1 "marked" ["hearths"] sM) (d_cell_boxes:Df P w K mg base 1 "cell_boxes" ["cells"] mS) (d_made_cells:cA P w K mg base 2 "made_cells" ["rows","columns","cells"] jX) (d_may_be_done:Df P w K mg base 3 "may_be_done" ["there","step"] sL) (d_hull_of:Df P w K mg base 1 "hull_of" ["one","other"] mR) (d_first_near:Df P w K mg base 3 "first_near" ["boxes","box"] lB) (x_NoPaper:Xc K mg base "NoPaper"):cA P w K mg base 4 "judged_growth" ["rows","columns","seeds","steps"] sO:=
 cA.au F aa2 V8 aN4 (fun cdv A outer s H E Ep hr hX=>by
  have nd:=aa2.nd
  have hu:=iX hr
  exact (aM (j7 (i:=4) nd (bR d_marked hr (a8 (bR d_cell_boxes hr (a8 (mG hX d_made_cells hr (a8 (qv 0) (a8 (qv 1) (a8 (qv 2) aG)))) aG)) aG)))
   (aM (i7 5 (hp:=hX.own) nd (eW (qv 3))
    (aM (dC (nQ (kU (bR d_may_be_done hr (a8 (qv 4) (a8 (qv 5) aG))))) (aT (rJ hX x_NoPaper (a8 qI aG))) dI)
    (aM (N8 4 hu (bD (qv 5) aB))
    (aM (N8 4 hu (bD (qv 5) aB))
    (aT (m8 hu (i:=4) (bR d_hull_of hr (a8 (bD (qv 5) aB) (a8 (bD (qv 5) aB) aG))) iK))))))
   (aM (bB (i:=6) nd (aH6 B rfl (a8 (qv 4) aG)))
   (aM (au8 7 8 (hp:=hX.own) nd (aB6 rfl B.enum (qv 6))
    (aT (dC (F1 (bR d_first_near hr (a8 (uY (qv 6) uW (uX (qv 7))) (a8 (qv 8) aG))) uM) (aT (rJ hX x_NoPaper (a8 qI aG))) dI)))
   (aT (m7 6)))))))
theorem aV3:FnScope ["rows","columns","seeds"] ["rows","columns","seeds"] (aW (b8 22)):=.au
theorem aV4 (B:Bt mg) (F:FM K mg "grown_boxes" 22 f fd) (d_judged_growth:cA P w K mg base 4 "judged_growth" ["rows","columns","seeds","steps"] sO) (d_growth:cA P w K mg base 4 "growth" ["rows","columns","seeds"] sN):cA P w K mg base 5 "grown_boxes" ["rows","columns","seeds"] sP:=
 cA.au F aV3 W6 aN5 (fun cdv A outer s H E Ep hr hX=>by
  exact (aT (c8 (mG hX d_judged_growth hr (a8 (qv 0) (a8 (qv 1) (a8 (qv 2) (a8 (mG hX d_growth hr (a8 (qv 0) (a8 (qv 1) (a8 (qv 2) aG)))) aG))))))))
theorem aa3:FnScope ["script","rows","columns","seeds","burning","seed","told","last","at","ready","cell","together","top","left","bottom","right","mine"] ["script"] (aW (b8 35)):=.au
theorem aV5 (B:Bt mg) (F:gB K "law" "law" (b8 35) f fd) (d__law_lines:Df P w K mg base 1 "_law_lines" ["cell"] rZ) (d__law_cell:Df P w K mg base 1 "_law_cell" ["script","k"] jV) (d__law_seeds:Df P w K mg base 3 "_law_seeds" ["script","at","rows","columns"] sA) (d_outline:cA P w K mg base 3 "outline" ["rows","columns","cells"] oQ) (d__law_whole:Df P w K mg base 1 "_law_whole" ["found"] rF) (d__law_sides:Df P w K mg base 1 "_law_sides" ["burning"] oR) (d__law_ready:Df P w K mg base 1 "_law_ready" ["rows","columns","burning"] oS) (d__law_number:Df P w K mg base 2 "_law_number" ["script","k"] mL) (d_grown_boxes:cA P w K mg base 5 "grown_boxes" ["rows","columns","seeds"] sP):dQ P w K mg base fN 6 f fd ["script"] (nK K xC):=
 az9 F aa3 (fun xs Q h=>by unfold xC at h; repeat (first | (obtain ⟨rfl,_⟩:=h; rfl) | (obtain ⟨_,h⟩:=h))) (fun cdv A outer s H E hr=>by
  have nd:=aa3.nd
  have hu:=iX hr
  exact⟨(Y9),(aM (aC9 1 2 nd (bR d__law_lines hr (a8 (bR d__law_cell hr (a8 (qv 0) (a8 aB aG))) aG)))
   (aM (bB (i:=3) nd (bR d__law_seeds hr (a8 (qv 0) (a8 aB (a8 (qv 1) (a8 (qv 2) aG))))))
   (aM (dC (lZ (jS (qv 1) (qv 2)) aB) (aT (bB (i:=3) nd (uY (qv 3) uW (uX aB)))) dI)
   (aM (j7 (i:=4) nd qL)
   (aM (i7 5 nd (eW (qv 3))
    (aT (m8 hu (i:=4) (qv 5) iK)))
   (aM (bB (i:=6) nd (vV d_outline hr (a8 (qv 1) (a8 (qv 2) (a8 (qv 3) aG)))))
   (aM (dC (iL (m6 (nQ (kU (bR d__law_whole hr (a8 (qv 6) aG)))) (m5 (uN (qv 6) (bR d__law_sides hr (a8 (qv 4) aG)))))) (aT (c8 iK)) dI)
   (aM (bB (i:=7) nd (qv 6))
   (aM (bB (i:=8) nd aB)
   (aM (bB (i:=9) nd (bR d__law_ready hr (a8 (qv 1) (a8 (qv 2) (a8 (qv 4) aG)))))
   (aM (F2 PassesOwn.never (lZ (j8 B (a8 (qv 9) aG)) aB)
    (aM (dC (kT (qv 8) aB) (aT (bB (i:=9) nd (jT (a8 (bD (qv 9) (dB (bR d__law_number hr (a8 (qv 0) (a8 (qv 8) aG))) (j8 B (a8 (qv 9) aG)))) aG)))) dI)
    (aM (i7 10 nd (eW (qv 9))
     (aT (m8 hu (i:=4) (qv 10) iK)))
    (aM (bB (i:=8) nd (cN (qv 8) aB))
    (aM (bB (i:=6) nd (vV d_outline hr (a8 (qv 1) (a8 (qv 2) (a8 (w6 B (a8 (az6 B rfl (a8 (qv 4) aG)) aG)) aG)))))
    (aM (dC (iL (m6 (lZ (qv 6) (qv 7)) (m5 (uN (qv 6) (bR d__law_sides hr (a8 (qv 4) aG)))))) (aT (c8 iK)) dI)
    (aM (bB (i:=7) nd (qv 6))
    (aT (bB (i:=9) nd (bR d__law_ready hr (a8 (qv 1) (a8 (qv 2) (a8 (qv 4) aG)))))))))))))
   (aM (bB (i:=11) nd aB)
   (aM (aK0 12 13 14 15 nd (eW (vV d_grown_boxes hr (a8 (qv 1) (a8 (qv 2) (a8 (qv 3) aG)))))
    (aM (bB (i:=11) nd (cN (qv 11) (jS aB (cN (eV (cN (eV (qv 14) (qv 12)) (qv 15)) (qv 13)) aB))))
    (aM (au9 (i:=16) nd (N:=["seed","top","bottom","left","right"]) (fr:=[none,some 12,some 14,some 13,some 15]) (eW (qv 3)) (fun _ _ _ _=>(iL (nP (R4 (qv 1) (bD (qv 0) aB) (qv 2)) (qK (R4 (qv 3) (bD (qv 0) aB) (qv 4)))))) (fun _ _ _ _=>(qv 0)))
    (aT (dC (kT (jS aB (j8 B (a8 (qv 16) aG))) (cN (eV (cN (eV (qv 14) (qv 12)) (qv 15)) (qv 13)) aB)) (aT (c8 iK)) dI)))))
   (aT (c8 (at5 (qv 11) (qv 7))))))))))))))))),aR7⟩)
end
set_option autoImplicit true in
theorem aV6 {l:OpenLaw}{w:World}{K:Frag}{h:Heap}{mg:Str->Option Value} (X:K.In h) (G:h.Ns mainGlobals mg) (hfa:mg "law" = some (.ref fa))
  (h0:FK K "rises" 6 f0 d0)
  (h1:FK K "marked" 7 f1 d1)
  (h2:FK K "count_inside" 8 f2 d2)
  (h3:FK K "looked_through" 11 f3 d3)
  (h4:FK K "is_cell" 12 f4 d4)
  (h5:FK K "gap" 19 f5 d5)
  (h6:FK K "hull_of" 20 f6 d6)
  (h7:FK K "cell_boxes" 21 f7 d7)
  (h8:FK K "_law_cell" 28 f8 d8)
  (h9:FK K "_law_whole" 30 f9 d9)
  (h10:FK K "_law_lines" 31 f10 d10)
  (h11:FK K "_law_sides" 33 f11 d11)
  (h12:FK K "_law_ready" 34 f12 d12)
  (h13:FK K "made_cells" 13 f13 d13)
  (h14:FK K "sides_of" 14 f14 d14)
  (h15:FK K "near_boxes" 18 f15 d15)
  (h16:FK K "_law_number" 29 f16 d16)
  (h17:FK K "outline" 15 f17 d17)
  (h18:FK K "first_near" 24 f18 d18)
  (h19:FK K "may_be_done" 26 f19 d19)
  (h20:FK K "_law_seeds" 32 f20 d20)
  (h21:FK K "growth" 23 f21 d21)
  (h22:FK K "judged_growth" 25 f22 d22)
  (h23:FK K "grown_boxes" 22 f23 d23)
  (a24:nsIn K mainGlobals "law" = some (some (.ref f24))) (l24:K.lookup f24=some ⟨oc24,od24,.func (fnOf "law" "law" (iW (b8 35)) (eL (b8 35)) (aW (b8 35)) .none kV24 dc24 pm24 an24 cd24 ct24),sl24⟩) (c24:codeIn K cd24 "law" = true) (k24:keepIn K (.ref f24)=true)
  (z_len:nsIn K mainGlobals "len" = some none)
  (z_range:nsIn K mainGlobals "range" = some none)
  (z_tuple:nsIn K mainGlobals "tuple" = some none)
  (z_list:nsIn K mainGlobals "list" = some none)
  (z_sorted:nsIn K mainGlobals "sorted" = some none)
  (z_all:nsIn K mainGlobals "all" = some none)
  (z_any:nsIn K mainGlobals "any" = some none)
  (z_zip:nsIn K mainGlobals "zip" = some none)
  (z_min:nsIn K mainGlobals "min" = some none)
  (z_max:nsIn K mainGlobals "max" = some none)
  (z_sum:nsIn K mainGlobals "sum" = some none)
  (z_isinstance:nsIn K mainGlobals "isinstance" = some none)
  (z_int:nsIn K mainGlobals "int" = some none)
  (z_bool:nsIn K mainGlobals "bool" = some none)
  (z_enumerate:nsIn K mainGlobals "enumerate" = some none)
  {u_MOST_ROWS:Nat} (z_MOST_ROWSx:nsIn K mainGlobals "MOST_ROWS" = some (some (.int 40 u_MOST_ROWS)))
  {u_MOST_STEPS_APART:Nat} (z_MOST_STEPS_APARTx:nsIn K mainGlobals "MOST_STEPS_APART" = some (some (.int 2 u_MOST_STEPS_APART)))
  {C_HearthError C_BadSet C_BadBoard C_NoPaper:Addr}
  (aX_HE:nsIn K mainGlobals "HearthError" = some (some (.ref C_HearthError)))
  (aX_BS:nsIn K mainGlobals "BadSet" = some (some (.ref C_BadSet)))
  (aX_BB:nsIn K mainGlobals "BadBoard" = some (some (.ref C_BadBoard)))
  (aX_NP:nsIn K mainGlobals "NoPaper" = some (some (.ref C_NoPaper)))
  (zX_BW:nsIn K mainGlobals "BadWeb" = some none)
  (zX_BO:nsIn K mainGlobals "BadOrder" = some none)
  (zX_BP:nsIn K mainGlobals "BadPrices" = some none)
  (zX_BD:nsIn K mainGlobals "BadDeed" = some none)
  (zX_NW:nsIn K mainGlobals "NotWood" = some none)
  (zX_NS:nsIn K mainGlobals "NoSuch" = some none)
  (zX_TM:nsIn K mainGlobals "TooMany" = some none)
  (zX_NT:nsIn K mainGlobals "NoText" = some none)
  (zX_OR:nsIn K mainGlobals "OddRound" = some none)
  (y_fg:specialIn K (.builtin "object.__class__") "__get__" = some (some (.builtin "getset_descriptor.__get__")))
  (y_ft:takesIn K (.builtin "object.__class__")=some true)
  (z_VE:nsIn K mainGlobals "ValueError" = some none)
  (y1_HE:isClsIn K C_HearthError=true)
  (y2_HE:typeIn K (.ref C_HearthError)=some (.type "type"))
  (y3_HE:findIn K (.ref C_HearthError) "__getattribute__" = some (some (.builtin "BaseException.__getattribute__")))
  (y4_HE:findIn K (.ref C_HearthError) "__getattr__" = some none)
  (y5_HE:findIn K (.ref C_HearthError) "__class__" = some (some (.builtin "object.__class__")))
  (y6_HE:mroIn K C_HearthError (.type "object")=some true)
  (y7_HE:mroIn K C_HearthError (.type "BaseException")=some true)
  (y1_BS:isClsIn K C_BadSet=true)
  (y2_BS:typeIn K (.ref C_BadSet)=some (.type "type"))
  (y3_BS:findIn K (.ref C_BadSet) "__getattribute__" = some (some (.builtin "BaseException.__getattribute__")))
  (y4_BS:findIn K (.ref C_BadSet) "__getattr__" = some none)
  (y5_BS:findIn K (.ref C_BadSet) "__class__" = some (some (.builtin "object.__class__")))
  (y6_BS:mroIn K C_BadSet (.type "object")=some true)
  (y7_BS:mroIn K C_BadSet (.type "BaseException")=some true)
  (y1_BB:isClsIn K C_BadBoard=true)
  (y2_BB:typeIn K (.ref C_BadBoard)=some (.type "type"))
  (y3_BB:findIn K (.ref C_BadBoard) "__getattribute__" = some (some (.builtin "BaseException.__getattribute__")))
  (y4_BB:findIn K (.ref C_BadBoard) "__getattr__" = some none)
  (y5_BB:findIn K (.ref C_BadBoard) "__class__" = some (some (.builtin "object.__class__")))
  (y6_BB:mroIn K C_BadBoard (.type "object")=some true)
  (y7_BB:mroIn K C_BadBoard (.type "BaseException")=some true)
  (y1_NP:isClsIn K C_NoPaper=true)
  (y2_NP:typeIn K (.ref C_NoPaper)=some (.type "type"))
  (y3_NP:findIn K (.ref C_NoPaper) "__getattribute__" = some (some (.builtin "BaseException.__getattribute__")))
  (y4_NP:findIn K (.ref C_NoPaper) "__getattr__" = some none)
  (y5_NP:findIn K (.ref C_NoPaper) "__class__" = some (some (.builtin "object.__class__")))
  (y6_NP:mroIn K C_NoPaper (.type "object")=some true)
  (y7_NP:mroIn K C_NoPaper (.type "BaseException")=some true)
  (q_BB:excIn K C_BadBoard [.type "ValueError",.type "Exception",.type "BaseException",.type "object"] "ValueError.__new__" = true)
  (q_BS:excIn K C_BadSet [.type "ValueError",.type "Exception",.type "BaseException",.type "object"] "ValueError.__new__" = true)
  (q_NP:excIn K C_NoPaper [.type "ValueError",.type "Exception",.type "BaseException",.type "object"] "ValueError.__new__" = true)
  : ∃ fd:FuncData,(∀ (s:Shared) (v:Value),BindsTo s fd ⟨[v],[]⟩ [("script",v)])/\∀ base:Heap,K.In base->base.Ns mainGlobals mg->dQ l.prog w K mg base fN 6 fa fd ["script"] (rH K):=by
 have e:=hfa.symm.trans (mg_of X G a24)
 cases e
 have F24:=al9 (st:=b8 35) l24 c24 k24
 have m24:=mg_of X G a24
 have B:Bt mg:=⟨mg_none_of X G z_len,mg_none_of X G z_range,mg_none_of X G z_tuple,mg_none_of X G z_list,mg_none_of X G z_sorted,mg_none_of X G z_all,mg_none_of X G z_any,mg_none_of X G z_zip,mg_none_of X G z_min,mg_none_of X G z_max,mg_none_of X G z_sum,mg_none_of X G z_isinstance,mg_none_of X G z_int,mg_none_of X G z_bool,mg_none_of X G z_enumerate⟩
 have m_MOST_ROWS:=mg_of X G z_MOST_ROWSx
 have m_MOST_STEPS_APART:=mg_of X G z_MOST_STEPS_APARTx
 refine⟨fnOf "law" "law" (iW (b8 35)) (eL (b8 35)) (aW (b8 35)) .none kV24 dc24 pm24 an24 cd24 ct24,fun s v=>.of_eq rfl,fun base KB _=>?_⟩
 have XK_HearthError:rK K C_HearthError:=⟨y1_HE,y2_HE,y3_HE,y4_HE,y5_HE,y_fg,y_ft,y6_HE,y7_HE⟩
 have XK_BadSet:rK K C_BadSet:=⟨y1_BS,y2_BS,y3_BS,y4_BS,y5_BS,y_fg,y_ft,y6_BS,y7_BS⟩
 have XK_BadBoard:rK K C_BadBoard:=⟨y1_BB,y2_BB,y3_BB,y4_BB,y5_BB,y_fg,y_ft,y6_BB,y7_BB⟩
 have XK_NoPaper:rK K C_NoPaper:=⟨y1_NP,y2_NP,y3_NP,y4_NP,y5_NP,y_fg,y_ft,y6_NP,y7_NP⟩
 have x_BadBoard:Xc K mg base "BadBoard":=⟨C_BadBoard,_,_,_,_,vW KB (mg_of X G aX_BB) q_BB,PySem.F.excBase_ValueError,aX_BB⟩
 have x_BadSet:Xc K mg base "BadSet":=⟨C_BadSet,_,_,_,_,vW KB (mg_of X G aX_BS) q_BS,PySem.F.excBase_ValueError,aX_BS⟩
 have x_NoPaper:Xc K mg base "NoPaper":=⟨C_NoPaper,_,_,_,_,vW KB (mg_of X G aX_NP) q_NP,PySem.F.excBase_ValueError,aX_NP⟩
 have D0:=aR9 (P:=l.prog) (w:=w) (base:=base) B (h0.M X G)
 have D1:=aS0 (P:=l.prog) (w:=w) (base:=base) B (h1.M X G)
 have DD1:=aS1 (P:=l.prog) (w:=w) (base:=base) B (h1.M X G)
 have D2:=aS3 (P:=l.prog) (w:=w) (base:=base) B (h2.M X G)
 have D3:=aS5 (P:=l.prog) (w:=w) (base:=base) B (h3.M X G)  x_BadBoard m_MOST_ROWS
 have D4:=aS7 (P:=l.prog) (w:=w) (base:=base) B (h4.M X G)
 have D5:=aS9 (P:=l.prog) (w:=w) (base:=base) B (h5.M X G)
 have D6:=aT1 (P:=l.prog) (w:=w) (base:=base) B (h6.M X G)
 have D7:=aT3 (P:=l.prog) (w:=w) (base:=base) B (h7.M X G)
 have D8:=aT5 (P:=l.prog) (w:=w) (base:=base) B (h8.M X G)
 have D9:=aT7 (P:=l.prog) (w:=w) (base:=base) B (h9.M X G)
 have D10:=aT8 (P:=l.prog) (w:=w) (base:=base) B (h10.M X G)
 have D11:=aT9 (P:=l.prog) (w:=w) (base:=base) B (h11.M X G)
 have D12:=aU0 (P:=l.prog) (w:=w) (base:=base) B (h12.M X G)
 have D13:=aU2 (P:=l.prog) (w:=w) (base:=base) B (h13.M X G) D3 D0 D4 x_BadSet
 have D14:=aU3 (P:=l.prog) (w:=w) (base:=base) B (h14.M X G) D4
 have D15:=aU4 (P:=l.prog) (w:=w) (base:=base) B (h15.M X G) D5 m_MOST_STEPS_APART
 have D16:=aU5 (P:=l.prog) (w:=w) (base:=base) B (h16.M X G) D8
 have D17:=aU6 (P:=l.prog) (w:=w) (base:=base) B (h17.M X G) D13 DD1 D2 D14
 have D18:=aU7 (P:=l.prog) (w:=w) (base:=base) B (h18.M X G) D15
 have D19:=aU9 (P:=l.prog) (w:=w) (base:=base) B (h19.M X G) D15
 have D20:=aV0 (P:=l.prog) (w:=w) (base:=base) B (h20.M X G) D8 D16
 have D21:=aV1 (P:=l.prog) (w:=w) (base:=base) B (h21.M X G) D7 D13 D18 D6
 have D22:=aV2 (P:=l.prog) (w:=w) (base:=base) B (h22.M X G) D1 D7 D13 D19 D6 D18 x_NoPaper
 have D23:=aV4 (P:=l.prog) (w:=w) (base:=base) B (h23.M X G) D22 D21
 exact aA0 (aV5 B F24 D10 D8 D20 D17 D9 D11 D12 D16 D23)
theorem aV7 {l:OpenLaw}{q:Program}{loose:List Str}{XP:(Str->Option Value)->Heap->Prop}{YP:World->Heap->Prop}{d:DefRec}{K:Params->Frag} (hn:l.most=some 63) (hdf:d.params.defaults = [])
  (hY:∀ (w:World) (h:Heap),YP w h->(K w.params).In h)
  (F:∀ (w:World) (mg:Str->Option Value) (fa:Addr) (h:Heap),(K w.params).In h->h.Ns mainGlobals mg->mg d.name=some (.ref fa)->
   ∃ fd:FuncData,(∀ (s:Shared) (u:Value),BindsTo s fd ⟨[u],[]⟩ [("script",u)])/\∀ base:Heap,(K w.params).In base->base.Ns mainGlobals mg->dQ l.prog w (K w.params) mg base fN 6 fa fd ["script"] (rH (K w.params))) :
  WalkO q loose XP YP l.row.toRowW d [] (fun f vs=>PySem.call f vs):=
 L2.al7 (n:=63) (k:=6) (x:="script") (CX:=fun _=>fN) (sp:=fun w=>rH (K w.params)) hn (by decide) hdf ⟨rfl,by decide,by decide⟩ hY F (fun _ _ a ns hl hO hS=>⟨a,ns,rfl,aA1 hO hS,hl,fun _=>rfl⟩) fun _ _ _ _ _ z=>z
end K_k60
open PySem PySem.W PyProof.Rows
theorem PySem.W.Fast.te13052408679150730464 : True := trivial
theorem PySem.W.Fast.te16555476440528808052 : True := trivial
theorem PySem.W.Fast.te5369427470323729400 : True := trivial
set_option maxRecDepth 100000 in
set_option maxHeartbeats 0 in
theorem PySem.Challenge.cw_kindleweb_k60_whole_outlines_holds : PySem.Challenge.rw_kindleweb_k60_whole_outlines.Holds := by
 w_on; o_law; k_head; (case hw => w_witness2)
 k_fill
 refine K_k60.aV7 (l := PySem.Challenge.rw_kindleweb_k60_whole_outlines) rfl rfl (fun w h Y => PySem.W.kIn_of Y) ?F
 case F =>
  intro w mg fa h KX G hmg
  refine' K_k60.aV6 KX G hmg ?h0 ?h1 ?h2 ?h3 ?h4 ?h5 ?h6 ?h7 ?h8 ?h9 ?h10 ?h11 ?h12 ?h13 ?h14 ?h15 ?h16 ?h17 ?h18 ?h19 ?h20 ?h21 ?h22 ?h23 ?a24 ?l24 ?c24 ?k24 ?z_len ?z_range ?z_tuple ?z_list ?z_sorted ?z_all ?z_any ?z_zip ?z_min ?z_max ?z_sum ?z_isinstance ?z_int ?z_bool ?z_enumerate ?z_MOST_ROWSx ?z_MOST_STEPS_APARTx ?aX_HE ?aX_BS ?aX_BB ?aX_NP ?zX_BW ?zX_BO ?zX_BP ?zX_BD ?zX_NW ?zX_NS ?zX_TM ?zX_NT ?zX_OR ?y_fg ?y_ft ?z_VE ?y1_HE ?y2_HE ?y3_HE ?y4_HE ?y5_HE ?y6_HE ?y7_HE ?y1_BS ?y2_BS ?y3_BS ?y4_BS ?y5_BS ?y6_BS ?y7_BS ?y1_BB ?y2_BB ?y3_BB ?y4_BB ?y5_BB ?y6_BB ?y7_BB ?y1_NP ?y2_NP ?y3_NP ?y4_NP ?y5_NP ?y6_NP ?y7_NP ?q_BB ?q_BS ?q_NP
  (case h0 | h1 | h2 | h3 | h4 | h5 | h6 | h7 | h8 | h9 | h10 | h11 | h12 | h13 | h14 | h15 | h16 | h17 | h18 | h19 | h20 | h21 | h22 | h23 => exact ⟨by k_is, ⟨⟨_, _, _, _, _, _, _, _, _, rfl, by k_is, by k_is⟩, by k_is⟩⟩)
  (case a24|l24|c24|k24|z_len|z_range|z_tuple|z_list|z_sorted|z_all|z_any|z_zip|z_min|z_max|z_sum|z_isinstance|z_int|z_bool|z_enumerate|z_MOST_ROWSx|z_MOST_STEPS_APARTx|aX_HE|aX_BS|aX_BB|aX_NP|zX_BW|zX_BO|zX_BP|zX_BD|zX_NW|zX_NS|zX_TM|zX_NT|zX_OR|y_fg|y_ft|z_VE|y1_HE|y2_HE|y3_HE|y4_HE|y5_HE|y6_HE|y7_HE|y1_BS|y2_BS|y3_BS|y4_BS|y5_BS|y6_BS|y7_BS|y1_BB|y2_BB|y3_BB|y4_BB|y5_BB|y6_BB|y7_BB|y1_NP|y2_NP|y3_NP|y4_NP|y5_NP|y6_NP|y7_NP => k_is)
  (case q_BB|q_BS|q_NP => k_exc)


