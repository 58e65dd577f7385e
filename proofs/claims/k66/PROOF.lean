import PyProof.Rows.All
import Wide.All
import OpenK.AllK
import Wide.FinOn
import Lean
import PyProof.EqAt
import PyProof.EqKinds
import PyProof.TupleCall
import PyProof.NeKinds
import PyProof.Draws
import PyProof.ZipIter
import PyProof.DictUpdate
import PyProof.AutoSeq1
import PyProof.ListRange
import PyProof.ListMulRoad
import PyProof.FactsAll.tuple_2
import PyProof.Rows.SortShell
import PyProof.EnumFor
import PyProof.EnumMake
import PyProof.EnumStmt
import PyProof.Rows.SortWalk
import KE.KDictList
import PyProof.SumAny
import PyProof.ConsumeWalk
import PyProof.WalksMore
import PyProof.Rows.TupAssign
import PyProof.ExcArgsOwn
import PySem.Challenge.RW_kindleweb_k66_whole_own_seeds
set_option Elab.async false
set_option linter.all false
set_option maxRecDepth 100000
set_option maxHeartbeats 4000000
section
open PySem PySem.Spec PyProof.Rows
def aQ9:=@wpAny_bind
def aR1:=@Heap.get?_push_of_some
def aR2:=@decide_eq_false
def aR3:=@decide_eq_true
def aR4:=@wpAny_pure
def aR5:=@List.getElem?_eq_getElem
def aR6:=@Int.le_refl
def aR7:=@List.mem_cons
def aR8:=@List.size_toArray
def aR9:=@List.mem_singleton
def aS0:=@List.getElem?_eq_some_iff
def aS1:=@List.length_map
def aS2:=@List.mem_cons_of_mem
def aS3:=@wpS_bind
def aS4:=@Nat.le_refl
def aS5:=@Heap.lt_size
def aS6:=@List.mem_cons_self
def aS7:=@Heap.get?_push_size
def aS8:=@List.not_mem_nil
def aS9:=@wpS_pure
def aT0:=@Nat.lt_of_lt_of_le
def aT1:=@List.append_assoc
def aT3:=@List.getD_eq_getElem?_getD
def aT4:=@List.getElem?_map
def aT5:=@Bool.false_ne_true
def aT6:=@decide_eq_true_eq
def aT7:=@Bool.false_eq_true
def aT8:=@Option.some.inj
def aT9:=@List.map_append
def aU0:=@List.mem_map
def aU1:=@List.getElem?_set_ne
def aU2:=@List.mem_append_right
def aU4:=@List.length_append
def aU5:=@Nat.ne_of_lt
def aU6:=@List.mem_append_left
def aU7:=@List.pairwise_append
def aU8:=@Bool.and_false
def aU9:=@Nat.le_trans
def aV0:=@List.mem_append
def aV1:=@List.take_append_drop
def aV2:=@Array.getElem_mem
def aV3:=@List.mem_filter
def aV4:=@wpAny_newObj_type
def aV5:=@List.length_cons
def aV7:=@or_false
def aV8:=@List.getElem?_cons_succ
def aV9:=@Nat.lt_or_ge
def aW0:=@List.pairwise_singleton
def aW1:=@Int.le_trans
def aW2:=@List.append_nil
def aW4:=@Array.length_toList
def aW5:=@Bool.false_and
def aW6:=@PySem.mem_of_lookup
def aW8:=@List.map_cons
def aX0:=@wpAny_field
def aX1:=@wpAny_callSpecial?_slot
def aX3:=@List.pairwise_iff_getElem
def aX4:=@Bool.eq_iff_iff
def aX5:=@wpAny_call_entry
def aX6:=@List.lookup_cons
def aX7:=@List.take_length
def aX8:=@List.take_add_one
def aX9:=@Around.under_plainId
def aY0:=@wpAny_setField_rec
def aY1:=@List.perm_append_comm
def aY2:=@List.getElem_of_mem
def aY3:=@Array.toList_append
def aY4:=@List.map_map
def aY6:=@Bool.and_eq_true
def aY7:=@Heap.size_push
def aY8:=@wpAny_seqItems
def aY9:=@Nat.lt_irrefl
def aZ0:=@if_false
def aZ1:=@wpAny_mono
def aZ2:=@List.zip_cons_cons
def aZ4:=@wpS_forRange
def aZ5:=@List.take_of_length_le
def aZ6:=@PySem.W.kia_one
def aZ7:=@wpAny_holding
def aZ8:=@beq_self_eq_true
def ba1:=@List.length_singleton
def ba2:=@Heap.get?_update_self
def ba3:=@Nat.ne_of_gt
def ba4:=@List.pairwise_map
def ba5:=@decide_eq_false_iff_not
def ba7:=@Nat.zero_le
def ba9:=@wpAny_loadPart'
def bb0:=@List.getElem?_set_self
def bb1:=@Int.mul_le_mul_of_nonneg_right
def bb2:=@Nat.le_add_right
def bb3:=@PySem.F.plain_min_loop
def bb4:=@PySem.F.plain_max_loop
def bb5:=@Prod.ext
def bb7:=@wpAny_truthy_bool
def bb8:=@List.nodup_append
def bb9:=@Array.getElem?_toList
def bc0:=@List.nodup_cons
def bc1:=@List.find?_cons
def bc2:=@List.length_set
def bc3:=@codeAny_builtin
def bc4:=@List.mem_of_getElem?
def bc5:=@List.all_eq_true
def bc6:=@List.getElem_mem
def bc7:=@plainId_quiet
def bc8:=@List.Perm.refl
def bd0:=@Heap.SameBut.update
def bd1:=@wpAny_letGo
def bd2:=@PyProof.Rows.slot_tuple_getitem
def bd3:=@List.getElem?_append_left
def bd4:=@List.drop_eq_getElem_cons
def bd5:=@List.length_take
def bd7:=@wpAny_pyIter_tuple
def bd8:=@Nat.le_of_lt
def be0:=@Bool.true_and
def be2:=@List.getElem?_of_mem
def be3:=@List.Pairwise.nil
def be4:=@List.length_nil
def be5:=@wpAny_rule
def be6:=@PyProof.Rows.callWith_type1
def be7:=@Heap.get?_update_other
def be8:=@List.length_drop
def bf0:=@List.getElem?_append_right
def bf1:=@of_decide_eq_false
def bf2:=@Nat.eq_or_lt_of_le
def bf3:=@wpAny_tryCatch
def bf5:=@List.Perm.append_left
def bf6:=@List.length_filter_le
def bf7:=@wpAny_passesOwn
def bf8:=@wpAny_updateSeq
def bg1:=@of_decide_eq_true
def bg2:=@wpS_mono
def bg3:=@List.mem_of_mem_take
def bg6:=@List.all_cons
def bg9:=@List.drop_take
def bh0:=@List.Perm.swap
def bh3:=@True.intro
end
namespace L2
open PySem PySem.Spec PyProof.Rows
abbrev aJ:=Sum Int Str
def lE:aJ->Value->Bool
 | .inl k,v=>Value.isInt k v
 | .inr x,v=>Value.isStrOf x v
def Y8 (w:World):aJ->Int
 | .inl k=>hashInt k
 | .inr x=>hashStr w x
theorem iG:∀ {k:aJ}{v:Value},lE k v=true->(∃ i t,k=Sum.inl i/\v=Value.int i t) ∨ (∃ x t,k=Sum.inr x/\v=Value.str x t)
 | .inl i,v,h=>by
  obtain ⟨t,e⟩:=Value.isInt_shape (k:=i) (v:=v) h
  exact .inl ⟨i,t,rfl,e⟩
 | .inr x,v,h=>by
  obtain ⟨t,e⟩:=Value.isStrOf_shape (x:=x) (v:=v) h
  exact .inr ⟨x,t,rfl,e⟩
theorem Y9 (i:Int) (t:Tok):lE (.inl i) (.int i t)=true:=by simp [lE,Value.isInt]
theorem Z0 (x:Str) (t:Tok):lE (.inr x) (.str x t)=true:=by simp [lE,Value.isStrOf]
theorem Z1 (a b:Int):decide ((Sum.inl a:aJ)=Sum.inl b)=(a == b):=by
 by_cases e:a=b
 ·subst e; simp
 ·have h : ¬ (Sum.inl a:aJ)=Sum.inl b:=fun q=>e (Sum.inl.inj q)
  rw [aR2 h]
  exact (beq_eq_false_iff_ne.mpr e).symm
theorem Z2 (a b:Str):decide ((Sum.inr a:aJ)=Sum.inr b)=decide (a=b):=by
 by_cases e:a=b
 ·subst e; simp
 ·have h : ¬ (Sum.inr a:aJ)=Sum.inr b:=fun q=>e (Sum.inr.inj q)
  rw [aR2 h,aR2 e]
theorem Z3 (a:Int) (b:Str):decide ((Sum.inl a:aJ)=Sum.inr b)=false:=aR2 (fun q=>nomatch q)
theorem Z4 (a:Str) (b:Int):decide ((Sum.inr a:aJ)=Sum.inl b)=false:=aR2 (fun q=>nomatch q)
def eD (prog:Program) (w:World):PySem.KeyKind prog w aJ where
 is:=lE
 hash:=Y8 w
 inj:=fun v a b ha hb=>by
  rcases iG ha with ⟨i,t,rfl,rfl⟩ | ⟨x,t,rfl,rfl⟩
  ·rcases iG hb with ⟨j,u,rfl,e⟩ | ⟨y,u,rfl,e⟩
   ·injection e with e1 _; rw [e1]
   ·exact nomatch e
  ·rcases iG hb with ⟨j,u,rfl,e⟩ | ⟨y,u,rfl,e⟩
   ·exact nomatch e
   ·injection e with e1 _; rw [e1]
 byValue:=fun k v h=>by
  rcases iG h with ⟨i,t,rfl,rfl⟩ | ⟨x,t,rfl,rfl⟩ <;> rfl
 pyHash:=fun hv h=>by
  rcases iG hv with ⟨i,t,rfl,rfl⟩ | ⟨x,t,rfl,rfl⟩
  ·exact wpAny_pyHash_int h
  ·exact wpAny_pyHash_str h
 eqBool:=fun hu hv h=>by
  rcases iG hu with ⟨i,t,rfl,rfl⟩ | ⟨x,t,rfl,rfl⟩
  ·rcases iG hv with ⟨j,u,rfl,rfl⟩ | ⟨y,u,rfl,rfl⟩
   ·rw [Z1] at h; exact wpAny_eqBool_int h
   ·rw [Z3] at h; exact SeqAt.EqAt.int_str i t y u _ _ _ _ h
  ·rcases iG hv with ⟨j,u,rfl,rfl⟩ | ⟨y,u,rfl,rfl⟩
   ·rw [Z4] at h; exact SeqAt.EqAt.str_int x t j u _ _ _ _ h
   ·rw [Z2] at h; exact wpAny_eqBool_str h
 «strs»:=fun k x t v h=>by
  rcases iG h with ⟨i,u,rfl,e⟩ | ⟨y,u,rfl,e⟩
  ·exact nomatch e
  ·injection e with e1 _
   subst e1
   cases v <;> rfl
theorem Z5 (prog:Program) (w:World) (i:Int) (t:Tok):(eD prog w).is (.inl i) (.int i t)=true:=Y9 i t
theorem Z6 (prog:Program) (w:World) (x:Str) (t:Tok):(eD prog w).is (.inr x) (.str x t)=true:=Z0 x t
inductive V where
 | non | bl (b:Bool) | int (i:Int) | str (x:Str) | byt (b:Array UInt8) | flt (b:UInt64) | ref (a:Addr) | ty (n:String)
 deriving DecidableEq
def aU:V->Value->Prop
 | .non,u=>u=Value.none
 | .bl b,u=>u=Value.bool b
 | .int i,u=>∃ t,u=Value.int i t
 | .str x,u=>∃ t,u=Value.str x t
 | .byt b,u=>∃ t,u=Value.bytes b t
 | .flt b,u=>∃ t,u=Value.float b t
 | .ref a,u=>u=Value.ref a
 | .ty n,u=>u=Value.type n
abbrev aR:List V->List Value->Prop:=Paired aU
theorem aR.length {xs:List V}{us:List Value} (r:aR xs us):xs.length=us.length:=Paired.length r
theorem aR.get:∀ {xs:List V}{us:List Value}{i:Nat}{x:V},aR xs us->xs[i]? = some x->∃ u,us[i]? = some u/\aU x u
 | _,_,_,_,.nil,e=>by simp at e
 | _,_,0,_,.cons r _,e=>by simp at e; subst e; exact⟨_,rfl,r⟩
 | _,_,i+1,x,.cons _ t,e=>by
  obtain ⟨u,h1,h2⟩:=aR.get (i:=i) (x:=x) t (by simpa using e)
  exact⟨u,by simpa using h1,h2⟩
theorem aR.append:∀ {xs ys:List V}{us ws:List Value},aR xs us->aR ys ws->aR (xs ++ ys) (us ++ ws)
 | _,_,_,_,.nil,s=>s
 | _,_,_,_,.cons r t,s=>.cons r (aR.append t s)
theorem aR.take:∀ {xs:List V}{us:List Value} (n:Nat),aR xs us->aR (xs.take n) (us.take n)
 | _,_,0,_=>.nil
 | _,_,_+1,.nil=>.nil
 | _,_,n+1,.cons r t=>.cons r (aR.take n t)
theorem aR.drop:∀ {xs:List V}{us:List Value} (n:Nat),aR xs us->aR (xs.drop n) (us.drop n)
 | _,_,0,r=>r
 | _,_,_+1,.nil=>.nil
 | _,_,n+1,.cons _ t=>aR.drop n t
def fU:Option V->Option Value->Prop
 | some v,some u=>aU v u
 | none,none=>True
 | _,_=>False
def KV {κ:Type}:List (κ × V)->List (κ × Value)->Prop:=Paired fun (p:κ × V) (q:κ × Value)=>p.1=q.1/\aU p.2 q.2
def kV:aJ->V
 | .inl i=>.int i
 | .inr x=>.str x
inductive HO where
 | lst (xs:List V)
 | tup (xs:List V)
 | dK (kvs:List (aJ × V)) | dT (kvs:List (List aJ × V))
 | set (S:Int->Bool) (n:Nat)
 | ins (C dx:Addr) (fs:List (Str × V))
 | own (x:Addr)
 | xd (fs:List (Str × V))
 | met (f x:Addr)
 | rng (lo hi:Int)
 | frz (o:Obj) (u:HO)
 | tbl (ps:Array Value)
 | ext (φ:Heap->Prop)
abbrev Hp:=Addr->Option HO
def upd (H:Hp) (a:Addr) (o:HO):Hp:=fun b=>if b=a then some o else H b
theorem cS {H:Hp}{a:Addr}{o:HO}:upd H a o a=some o:=by unfold upd; rw [if_pos rfl]
theorem b8 {H:Hp}{a b:Addr}{o:HO} (h:b ≠ a):upd H a o b=H b:=by unfold upd; rw [if_neg h]
theorem wC {H:Hp}{a b:Addr}{o u:HO} (h:H a=some o) (h':H b=some u) (d:o ≠ u):a ≠ b:=by
 intro e; subst e; rw [h] at h'; exact d (aT8 h')
theorem dE {H:Hp}{a b:Addr}{o:HO} (h:H a=some o) (h':H b=none):a ≠ b:=by
 intro e; subst e; rw [h] at h'; cases h'
def iH (h:Heap) (a:Addr):Prop:=∀ o,h.get? a=some o->o.dict=none
theorem iH.new (h:Heap) (o:Obj) (d:o.dict=none) (s:o.isFreed=false:=by rfl):iH (h.push o) h.objs.size:=fun u e=>by
 rw [aS7 h (o:=o) s] at e
 cases e; exact d
theorem iH.stay {h h':Heap}{a:Addr}{o:Obj} (n:iH h a) (e:h.get? a=some o) (e':h'.get? a=some o):iH h' a:=fun u hu=>by
 rw [e'] at hu; cases hu; exact n _ e
section
variable (P : Program) (w : World)
def bW (H:Hp) (h:Heap) (a:Addr):HO->Prop
 | .lst xs=>xs.length<=sizeLine/\∃ (its:List Value) (n:Nat),aR xs its/\h.get? a=some { cls:=.type "list",data:=.seq its.toArray n }
 | .tup xs=>xs.length<=sizeLine/\∃ its:List Value,aR xs its/\IsTup h a its.toArray/\iH h a
 | .dK kvs=>kvs.length<=sizeLine/\(a == sysModules)=false/\∃ vs,KV kvs vs/\h.DictOf (eD P w) a vs
 | .dT kvs=>kvs.length<=sizeLine/\(a == sysModules)=false/\∃ xs:List (List aJ × Addr × Value),
   Paired (fun (p:List aJ × V) (q:List aJ × Addr × Value)=>p.1=q.1/\H q.2.1=some (.tup (p.1.map kV))/\aU p.2 q.2.2) kvs xs/\
   ∃ o es ep,h.get? a=some o/\o.ExactDict/\o.data = .dict es ep/\es.toList=xs.map (entryOfKey (tupleKind (eD P w)))/\(xs.map (·.1)).Nodup
 | .set S n=>h.SetOf (intKind P w) a S n
 | .ins C dx fs=>H dx=some (.own a)/\fs.length<=1000/\dx ≠ a/\h.get? a=some (PySem.W.instObj C dx)/\
   ∃ mA,h.Ns1 dx mA/\(∀ f,fU (fs.lookup f) (mA f))/\PySem.Within mA (fs.map (·.1))
 | .own _=>∃ o,h.get? a=some o
 | .xd fs=>∃ mA,h.Ns1 a mA/\∀ f,fU (fs.lookup f) (mA f)
 | .rng lo hi=>∃ t u v,h.get? a=some { cls:=.type "range",data:=.fields #[.int lo t,.int hi u,.int 1 v] }
 | .frz o u=>h.get? a=some o/\bW H h a u
 | .tbl ps=>h.get? a=some { cls:=.none,data:=.fields ps }
 | .met f x=>h.get? a=some (PySem.W.methodObj (.ref f) (.ref x))
 | .ext φ=>φ h/\(∃ o,h.get? a=some o)/\∀ h1 h2:Heap,φ h1->(∀ o,h1.get? a=some o->h2.get? a=some o)->φ h2
def bO (H:Hp) (h:Heap):Prop:=∀ a o,H a=some o->bW P w H h a o
end
section
variable {P : Program} {w : World} {H H' : Hp} {h h' : Heap} {a : Addr} {o : HO}
theorem bW.lt (x:bW P w H h a o):a < h.objs.size:=by
 cases o with
 | lst xs=>obtain ⟨_,_,_,_,e⟩:=x; exact aS5 e
 | tup xs=>obtain ⟨_,_,_,p,_⟩:=x; exact p.lt
 | dK kvs=>obtain ⟨_,_,_,_,o,_,_,e,_⟩:=x; exact aS5 e
 | dT kvs=>obtain ⟨_,_,_,_,o,_,_,e,_⟩:=x; exact aS5 e
 | set S n=>obtain ⟨o,_,_,_,e,_⟩:=x; exact aS5 e
 | ins C dx fs=>obtain ⟨_,_,_,e,_⟩:=x; exact aS5 e
 | own y=>obtain ⟨_,e⟩:=x; exact aS5 e
 | xd fs=>obtain ⟨_,⟨_,_,_,e,_⟩,_⟩:=x; exact aS5 e
 | rng lo hi=>obtain ⟨_,_,_,e⟩:=x; exact aS5 e
 | frz ob u=>obtain ⟨e,_⟩:=x; exact aS5 e
 | tbl ps=>exact aS5 (show h.get? a=some _ from x)
 | met f y=>exact aS5 (show h.get? a=some _ from x)
 | ext φ=>obtain ⟨_,⟨_,e⟩,_⟩:=x; exact aS5 e
theorem Paired.mapP {α β:Type}{F G:α->β->Prop}:∀ {l₁:List α}{l₂:List β},Paired F l₁ l₂->(∀ a b,F a b->G a b)->Paired G l₁ l₂
 | _,_,.nil,_=>.nil
 | _,_,.cons r t,f=>.cons (f _ _ r) (Paired.mapP t f)
theorem bW.stay (x:bW P w H h a o) (k:∀ b u,(b=a ∨ H b=some (.own a))->h.get? b=some u->h'.get? b=some u)
  (ho:∀ b,H b=some (.own a)->H' b=some (.own a)) (ht:∀ b xs,H b=some (.tup xs)->H' b=some (.tup xs)):bW P w H' h' a o:=by
 induction o with
 | lst xs=>obtain ⟨z,its,n,r,e⟩:=x; exact⟨z,its,n,r,k _ _ (.inl rfl) e⟩
 | tup xs=>obtain ⟨z,its,r,⟨ob,e,c⟩,nd⟩:=x; exact⟨z,its,r,⟨ob,k _ _ (.inl rfl) e,c⟩,nd.stay e (k _ _ (.inl rfl) e)⟩
 | dK kvs=>obtain ⟨z,y,vs,r,ob,es,ep,e,c⟩:=x; exact⟨z,y,vs,r,ob,es,ep,k _ _ (.inl rfl) e,c⟩
 | dT kvs=>
  obtain ⟨z,y,xs,r,ob,es,ep,e,c⟩:=x
  exact⟨z,y,xs,Paired.mapP r fun p q z=>⟨z.1,ht _ _ z.2.1,z.2.2⟩,ob,es,ep,k _ _ (.inl rfl) e,c⟩
 | set S n=>obtain ⟨ob,es,ep,t,e,c⟩:=x; exact⟨ob,es,ep,t,k _ _ (.inl rfl) e,c⟩
 | ins C dx fs=>
  obtain ⟨d,z,ne,e,mA,⟨od,es,ep,e2,c⟩,r⟩:=x
  exact⟨ho _ d,z,ne,k _ _ (.inl rfl) e,mA,⟨od,es,ep,k _ _ (.inr d) e2,c⟩,r⟩
 | own y=>obtain ⟨ob,e⟩:=x; exact⟨ob,k _ _ (.inl rfl) e⟩
 | xd fs=>obtain ⟨mA,⟨od,es,ep,e,c⟩,r⟩:=x; exact⟨mA,⟨od,es,ep,k _ _ (.inl rfl) e,c⟩,r⟩
 | rng lo hi=>obtain ⟨t,u,v,e⟩:=x; exact⟨t,u,v,k _ _ (.inl rfl) e⟩
 | frz ob u ih=>obtain ⟨e,q⟩:=x; exact⟨k _ _ (.inl rfl) e,ih q⟩
 | tbl ps=>
  have e:h.get? a=some { cls:=.none,data:=.fields ps }:=x
  show h'.get? a=some { cls:=.none,data:=.fields ps }
  exact k a _ (.inl rfl) e
 | met f y=>
  have e:h.get? a=some (PySem.W.methodObj (.ref f) (.ref y)):=x
  show h'.get? a=some (PySem.W.methodObj (.ref f) (.ref y))
  exact k a _ (.inl rfl) e
 | ext φ=>obtain ⟨p,⟨o,e⟩,st⟩:=x; exact⟨st _ _ p fun o q=>k _ _ (.inl rfl) q,⟨o,k _ _ (.inl rfl) e⟩,st⟩
theorem bO.lt (x:bO P w H h) (e:H a=some o):a < h.objs.size:=(x a o e).lt
theorem bO.fresh (x:bO P w H h) (e:h.objs.size<=a):H a=none:=by
 cases q:H a with
 | none=>rfl
 | some u=>exact absurd (aT0 (x.lt q) e) (aY9 _)
theorem bO.kept (x:bO P w H h) (k:∀ b u,h.get? b=some u->h'.get? b=some u):bO P w H h':=fun a o e=>
 (x a o e).stay (fun b u _ q=>k b u q) (fun _ q=>q) fun _ _ q=>q
theorem bO.laid (x:bO P w H h) (k:∀ b u,h.get? b=some u->h'.get? b=some u) (hp:h.objs.size<=a) (new:bW P w (upd H a o) h' a o):bO P w (upd H a o) h':=fun b u e=>by
 have hn:=x.fresh hp
 by_cases hb:b=a
 ·subst hb; rw [cS] at e; cases e; exact new
 ·rw [b8 hb] at e
  exact (x b u e).stay (fun c v _ q=>k c v q) (fun c q=>by rw [b8 (dE q hn)]; exact q) fun c xs q=>by rw [b8 (dE q hn)]; exact q
end
def Rd (H:Hp) (a:Addr) (u:HO):Prop:=H a=some u ∨ ∃ o,H a=some (.frz o u)
theorem Rd.ok {P:Program}{w:World}{H:Hp}{h:Heap}{a:Addr}{u:HO} (r:Rd H a u) (x:bO P w H h):bW P w H h a u:=by
 rcases r with r | ⟨o,r⟩
 ·exact x a u r
 ·obtain ⟨_,q⟩:=x a _ r
  exact q
def mT:Option HO->Prop
 | some (.lst _)=>True
 | some (.dK _)=>True
 | some (.dT _)=>True
 | some (.set _ _)=>True
 | some (.ins _ _ _)=>True
 | some (.ext _)=>True
 | _=>False
section
variable {P : Program} {w : World} {H : Hp} {h h' : Heap} {x e : Addr} {o' : HO}
theorem bO.write (ok:bO P w H h) (mu:mT (H x)) (he:e=x ∨ H e=some (.own x)) (k:∀ b u,b ≠ e->h.get? b=some u->h'.get? b=some u) (heo:∃ u,h'.get? e=some u)
  (new:bW P w (upd H x o') h' x o'):bO P w (upd H x o') h':=fun b u q=>by
 have nown:∀ c y,H c=some (.own y)->c ≠ x:=fun c y r z=>by subst z; rw [r] at mu; exact mu
 have ntup:∀ c xs,H c=some (.tup xs)->c ≠ x:=fun c xs r z=>by subst z; rw [r] at mu; exact mu
 by_cases hb:b=x
 ·subst hb; rw [cS] at q; cases q; exact new
 ·rw [b8 hb] at q
  by_cases hbe:b=e
  ·have q':H b=some (.own x):=by
    rcases he with z | z
    ·exact absurd (hbe.trans z) hb
    ·rw [hbe]; exact z
   rw [q] at q'; cases q'
   obtain ⟨v,hv⟩:=heo
   exact⟨v,by rw [hbe]; exact hv⟩
  ·refine (ok b u q).stay (fun c v hc r=>k c v ?_ r) (fun c r=>by rw [b8 (nown c b r)]; exact r) fun c xs r=>by rw [b8 (ntup c xs r)]; exact r
   rcases hc with rfl | hc
   ·exact hbe
   ·rintro rfl
    rcases he with z | z
    ·exact nown c b hc z
    ·rw [hc] at z; cases z; exact hb rfl
end
structure Un (fs ex:List Addr) (H H':Hp) (h h':Heap):Prop where
 keep:∀ b o,h.get? b=some o->H b=none->b ∉ fs->b ∉ ex->h'.get? b=some o
 slot:∀ b o,h.get? b=some o->H b=none->b ∈ fs->b ∉ ex->∃ sl,h'.get? b=some { o with slots:=sl }
 free:∀ b o,h.get? b=some o->H b=none->b ∉ ex->H' b=none
 there:∀ b o,h.get? b=some o->b ∉ ex->∃ o',h'.get? b=some o'
 tups:∀ b xs,H b=some (.tup xs)->H' b=some (.tup xs)
 frzs:∀ b o u,H b=some (.frz o u)->H' b=some (.frz o u)
 tbls:∀ b ps,H b=some (.tbl ps)->∃ more,H' b=some (.tbl (ps ++ more))
section
variable {fs fs' ex ex' : List Addr} {H H1 H2 : Hp} {h h1 h2 h' : Heap} {a x e : Addr} {o : HO}
theorem Un.any (u:Un fs ex H H1 h h1) {b:Addr}{ob:Obj} (q:h.get? b=some ob) (n:H b=none) (hx:b ∉ ex):∃ sl,h1.get? b=some { ob with slots:=sl }:=by
 by_cases hb:b ∈ fs
 ·exact u.slot b ob q n hb hx
 ·exact⟨ob.slots,u.keep b ob q n hb hx⟩
theorem Un.kept (k:∀ b u,h.get? b=some u->h'.get? b=some u):Un fs ex H H h h':=
 ⟨fun b ob q _ _ _=>k b ob q,fun b ob q _ _ _=>⟨ob.slots,k b ob q⟩,fun _ _ _ n _=>n,fun b ob q _=>⟨ob,k b ob q⟩,fun _ _ q=>q,fun _ _ _ q=>q,fun _ ps q=>⟨#[],by rw [q]; simp⟩⟩
theorem Un.refl:Un fs ex H H h h:=Un.kept fun _ _ q=>q
theorem Un.laid (k:∀ b u,h.get? b=some u->h'.get? b=some u) (hp:h.objs.size<=a) (hn:H a=none):Un fs ex H (upd H a o) h h' where
 keep:=fun b u q _ _ _=>k b u q
 slot:=fun b u q _ _ _=>⟨u.slots,k b u q⟩
 free:=fun b u q n _=>by rw [b8 (aU5 (aT0 (aS5 q) hp))]; exact n
 there:=fun b u q _=>⟨u,k b u q⟩
 tups:=fun b xs q=>by rw [b8 (dE q hn)]; exact q
 frzs:=fun b u xs q=>by rw [b8 (dE q hn)]; exact q
 tbls:=fun b ps q=>⟨#[],by rw [b8 (dE q hn),q]; simp⟩
theorem Un.write (mu:mT (H x)) (he:e=x ∨ H e=some (.own x)) (k:∀ b u,b ≠ e->h.get? b=some u->h'.get? b=some u) (heo:∃ u,h'.get? e=some u):Un fs ex H (upd H x o) h h':=by
 have hx:∀ b,H b=none->b ≠ x:=fun b n z=>by subst z; rw [n] at mu; exact mu
 have hb:∀ b,H b=none->b ≠ e:=fun b n z=>by
  subst z
  rcases he with r | r
  ·exact hx b n r
  ·rw [n] at r; cases r
 have hm:∀ b u,H b=some u->¬ mT (some u)->b ≠ x:=fun b u q nm z=>by subst z; rw [q] at mu; exact nm mu
 refine⟨fun b u q n _ _=>k b u (hb b n) q,fun b u q n _ _=>⟨u.slots,k b u (hb b n) q⟩,fun b u q n _=>by rw [b8 (hx b n)]; exact n,fun b u q _=>?_,
  fun b xs q=>by rw [b8 (hm b _ q fun z=>z)]; exact q,fun b u xs q=>by rw [b8 (hm b _ q fun z=>z)]; exact q,fun b ps q=>⟨#[],by rw [b8 (hm b _ q fun z=>z),q]; simp⟩⟩
 by_cases hbe:b=e
 ·subst hbe; exact heo
 ·exact⟨u,k b u hbe q⟩
end
def oD (h:Heap) (H:Hp):List Addr:=(List.range h.objs.size).filter fun a=>(H a).isSome
def iI (h:Heap) (H:Hp):Heap:=PySem.W.hideAll h (oD h H)
theorem Z7 (h:Heap) (H:Hp):(iI h H).objs.size=h.objs.size:=PySem.W.hideAll_size _ _
theorem Z8 {h:Heap}{H:Hp}{b:Addr}{o:Obj} (e:h.get? b=some o) (n:H b=none):(iI h H).get? b=some o:=
 PySem.W.hideAll_get _ e fun hm=>by
  have q:(H b).isSome=true:=(aV3.mp hm).2
  rw [n] at q; simp at q
theorem Z9 {h:Heap}{H:Hp}{b:Addr}{o:Obj} (e:(iI h H).get? b=some o):h.get? b=some o/\H b=none:=by
 have e':h.get? b=some o:=PySem.W.of_hideAll (oD h H) e
 refine⟨e',?_⟩
 cases q:H b with
 | none=>rfl
 | some x=>
  have hm:b ∈ oD h H:=aV3.mpr ⟨List.mem_range.mpr (aS5 e'),by simp [q]⟩
  have z:(iI h H).get? b=none:=PySem.W.hideAll_none (oD h H) hm
  rw [z] at e; cases e
def aa0 (g h:Heap) (L:Addr):List (Addr × Obj):=(List.range h.objs.size).filterMap fun a=>if a=L ∨ (g.get? a).isSome=true then none else (h.get? a).map fun o=>(a,o)
def cO (g h:Heap) (L d:Addr):List (Addr × Obj):=(aa0 g h L).filter fun p=>decide (p.1 ≠ d)
structure Mod (K:PySem.W.Frag) (mg:Str->Option Value) (base:Heap):Prop where
 kin:K.In base
 glob:base.Ns mainGlobals mg
 blt:∃ mb,base.Ns builtinsNs mb/\∀ x:Str,x ≠ "__name__"->mb x=bootBuiltins x
 nolimit:base.NoLimit
structure Cx where
 prog:Program
 w:World
 K:PySem.W.Frag
 mg:Str->Option Value
 base:Heap
 A:Around
 N:List Str
 s₀:Shared
 H₀:Hp
 env:Env
 outer:List Env
 stack:List Env
 ex:List Addr
 fn:Str->Bool
 calm:Bool
 pn:List (Addr × Obj)
 xe:Value->Shared->Prop
def bX (l:List Env):List Addr:=l.filterMap (·.frame)
abbrev Cx.fs (X:Cx):List Addr:=bX X.outer
def iJ (sc:Scope) (x:Str):Prop:=sc.names.lookup x=some .local ∨ sc.names.lookup x=some .cell ∨ sc.names.lookup x=some .free
def gE (sc:Scope) (x:Str):Prop:=sc.names.lookup x=some .local ∨ sc.names.lookup x=some .cell
def aa1 (env:Env) (h:Heap) (m:Str->Option Value) (x:Str) (u:Value):Prop:=
 (env.kindOf x=some .local/\m x=some u) ∨ ((env.kindOf x=some .cell ∨ env.kindOf x=some .free)/\∃ c,env.cells.lookup x=some c/\h.IsCell c (some u))
structure Cx.Ok (X:Cx):Prop where
 mod:Mod X.K X.mg X.base
 kind:X.env.scope.kind = .function
 glob:X.env.globals=mainGlobals
 blt:X.env.builtins=builtinsNs
 above:X.s₀.heap.objs.size<=X.env.locals
 inj:∀ x y c,X.env.cells.lookup x=some c->X.env.cells.lookup y=some c->x=y
 has:∀ x,(X.env.kindOf x=some .cell ∨ X.env.kindOf x=some .free)->∃ c,X.env.cells.lookup x=some c
 cab:∀ x c,X.fn x=true->X.env.cells.lookup x=some c->X.s₀.heap.objs.size<=c
 hd:X.calm=true->X.A.handled=none
 frames:X.A.frames=some X.stack
 stk:X.stack=X.outer ∨ (X.stack=X.env :: X.outer/\X.env.frame=some X.env.locals)
 exf:∀ b ∈ X.ex,b ≠ X.env.locals/\∀ x c,X.env.cells.lookup x=some c->c ≠ b
 bs:∀ b o,X.base.get? b=some o->X.s₀.heap.get? b=some o/\X.H₀ b=none
 bsz:X.base.objs.size<=X.s₀.heap.objs.size
 noex:∀ b o,X.base.get? b=some o->b ∉ X.ex
 exfs:∀ b ∈ X.ex,b ∉ X.fs
 funs:X.s₀.heap.FunFrames X.base X.outer
 frf:∀ b ∈ X.fs,X.H₀ b=none
structure aA (X:Cx) (pins:List (Addr × Obj)) (σ:List (Option V)) (H:Hp) (s:Shared):Prop where
 ok:X.Ok
 os:s.os=X.s₀.os
 bare:AllBare s.gens
 base:Un X.fs X.ex X.H₀ H X.s₀.heap s.heap
 loc:∃ m,s.heap.Ns X.env.locals m/\∀ (i:Nat) (x:Str) (v:V),X.N[i]? = some x->σ[i]? = some (some v)->iJ X.env.scope x->∃ u,aU v u/\aa1 X.env s.heap m x u
 cell:∀ x c,X.env.cells.lookup x=some c->∃ v,s.heap.IsCell c v
 free:H X.env.locals=none
 freeC:∀ x c,X.env.cells.lookup x=some c->H c=none
 pin:∀ p ∈ X.pn ++ pins,s.heap.get? p.1=some p.2/\H p.1=none/\p.1 ≠ X.env.locals/\p.1 ∉ X.fs/\∀ v,p.2.data ≠ .cell v
 hok:bO X.prog X.w H s.heap
 len:σ.length=X.N.length
section
variable {X : Cx} {pins : List (Addr × Obj)} {σ : List (Option V)} {H H' : Hp} {s : Shared} {h' : Heap}
theorem Cx.Ok.nofr (ok:X.Ok) {b:Addr}{o:Obj} (e:X.base.get? b=some o):b ∉ X.fs:=fun hb=>by
 have:=(ok.funs.mem hb).1
 rw [e] at this; cases this
theorem aA.bs (I:aA X pins σ H s):∀ b o,X.base.get? b=some o->s.heap.get? b=some o/\H b=none:=fun b o e=>
 ⟨I.base.keep b o (I.ok.bs b o e).1 (I.ok.bs b o e).2 (I.ok.nofr e) (I.ok.noex b o e),I.base.free b o (I.ok.bs b o e).1 (I.ok.bs b o e).2 (I.ok.noex b o e)⟩
theorem aA.bk (I:aA X pins σ H s):∀ b o,X.base.get? b=some o->s.heap.get? b=some o:=fun b o e=>(I.bs b o e).1
theorem aA.mod (I:aA X pins σ H s):Mod X.K X.mg X.base:=I.ok.mod
theorem aA.kIn (I:aA X pins σ H s):X.K.In s.heap:=I.ok.mod.kin.keeps I.bk
theorem aA.fr (I:aA X pins σ H s):∃ m,Fr X.base X.env.locals s.heap m:=
 let ⟨m,hn,_⟩:=I.loc
 ⟨m,hn,I.bk,aU9 I.ok.bsz I.ok.above⟩
theorem aA.lt (I:aA X pins σ H s):X.env.locals < s.heap.objs.size:=let ⟨_,hn,_⟩:=I.loc; hn.lt
theorem aA.sz (I:aA X pins σ H s):X.s₀.heap.objs.size<=s.heap.objs.size:=aU9 I.ok.above (bd8 I.lt)
theorem aA.nofs (I:aA X pins σ H s) {a:Addr} (h:s.heap.objs.size<=a):a ∉ X.fs:=fun hb=>by
 obtain ⟨_,o,ho,_⟩:=I.ok.funs.mem hb
 exact absurd (aT0 (aS5 ho) (aU9 I.sz h)) (aY9 _)
theorem aA.cne (I:aA X pins σ H s):∀ x c,X.env.cells.lookup x=some c->c ≠ X.env.locals:=fun x c e z=>by
 obtain ⟨v,o,ho,hd⟩:=I.cell x c e
 obtain ⟨m,⟨o',es,ep,ho',hd',_⟩,_⟩:=I.loc
 rw [z,ho'] at ho; cases ho; rw [hd'] at hd; cases hd
theorem aA.funs (I:aA X pins σ H s):s.heap.FunFrames X.base X.outer:=by
 have all:∀ (l:List Env),(∀ b ∈ bX l,b ∈ X.fs)->X.s₀.heap.FunFrames X.base l->s.heap.FunFrames X.base l:=by
  intro l
  induction l with
  | nil=>intro _ _; trivial
  | cons env r ih=>
   intro hs hl
   obtain ⟨hk,⟨L,o,hf,hn,ho,hd⟩,hr⟩:=hl
   have hL:L ∈ X.fs:=hs L (by unfold bX; rw [List.filterMap_cons,hf]; exact aS6)
   obtain ⟨sl,e⟩:=I.base.slot L o ho (I.ok.frf L hL) hL fun z=>I.ok.exfs L z hL
   exact⟨hk,⟨L,_,hf,hn,e,hd⟩,ih (fun b hb=>hs b (by unfold bX; rw [List.filterMap_cons,hf]; exact aS2 _ hb)) hr⟩
 exact all X.outer (fun _ hb=>hb) I.ok.funs
theorem aA.stack (I:aA X pins σ H s):s.heap.FunFrames X.base X.stack:=by
 rcases I.ok.stk with e | ⟨e,hf⟩
 ·rw [e]; exact I.funs
 ·rw [e]
  obtain ⟨m,hn,_⟩:=I.loc
  refine .cons (by rw [I.ok.kind]; decide) hf hn ?_ I.funs
  exact Heap.get?_none_of_le (aU9 I.ok.bsz I.ok.above)
theorem aA.stkSub (I:aA X pins σ H s):∀ b ∈ bX X.stack,b ∈ X.env.locals :: X.fs:=fun b hb=>by
 rcases I.ok.stk with e | ⟨e,hf⟩
 ·rw [e] at hb; exact aS2 _ hb
 ·rw [e] at hb
  unfold bX at hb
  rw [List.filterMap_cons,hf] at hb
  exact hb
theorem aA.stkFree (I:aA X pins σ H s):∀ b ∈ bX X.stack,H b=none:=fun b hb=>by
 rcases aR7.mp (I.stkSub b hb) with e | hb
 ·rw [e]; exact I.free
 ·obtain ⟨_,o,ho,_⟩:=I.ok.funs.mem hb
  exact I.base.free b o ho (I.ok.frf b hb) fun z=>I.ok.exfs b z hb
theorem aA.step {g':Array GenState}{t':Nat}{d':Drawn}{ch:List Addr} (I:aA X pins σ H s)
  (hch:∀ b ∈ ch,(b ∈ X.ex ∨ X.s₀.heap.objs.size<=b)/\b ≠ X.env.locals/\(∀ x c,X.env.cells.lookup x=some c->c ≠ b)/\∀ p ∈ X.pn ++ pins,p.1 ≠ b)
  (keep:∀ b o,b ≠ X.env.locals->b ∉ X.fs->b ∉ ch->s.heap.get? b=some o->H b=none->h'.get? b=some o)
  (slot:∀ b o,b ≠ X.env.locals->b ∈ X.fs->b ∉ ch->s.heap.get? b=some o->H b=none->∃ sl,h'.get? b=some { o with slots:=sl }) (free:∀ b o,b ∉ ch->s.heap.get? b=some o->H b=none->H' b=none)
  (there:∀ b o,b ∉ ch->s.heap.get? b=some o->∃ o',h'.get? b=some o')
  (tups:∀ b xs,H b=some (.tup xs)->H' b=some (.tup xs)) (frzs:∀ b o u,H b=some (.frz o u)->H' b=some (.frz o u)) (tbls:∀ b ps,H b=some (.tbl ps)->∃ more,H' b=some (.tbl (ps ++ more)))
  (ns:∀ m,s.heap.Ns X.env.locals m->h'.Ns X.env.locals m) (hok:bO X.prog X.w H' h') (hg:AllBare g') :
  aA X pins σ H' { s with heap:=h',gens:=g',drawn:=d',toks:=t' }:=by
 have neL:∀ b o,X.s₀.heap.get? b=some o->b ≠ X.env.locals:=fun b o e=>aU5 (aT0 (aS5 e) I.ok.above)
 have neC:∀ b o,X.s₀.heap.get? b=some o->b ∉ X.ex->b ∉ ch:=fun b o e hx hb=>by
  rcases (hch b hb).1 with z | z
  ·exact hx z
  ·exact absurd (aT0 (aS5 e) z) (aY9 _)
 have cellK:∀ x c,X.env.cells.lookup x=some c->∀ v,s.heap.IsCell c v->h'.IsCell c v:=fun x c e v ⟨o,ho,hd⟩=>by
  have nch:c ∉ ch:=fun z=>(hch c z).2.2.1 x c e rfl
  by_cases hc:c ∈ X.fs
  ·obtain ⟨sl,q⟩:=slot c o (I.cne x c e) hc nch ho (I.freeC x c e)
   exact⟨_,q,hd⟩
  ·exact⟨o,keep c o (I.cne x c e) hc nch ho (I.freeC x c e),hd⟩
 refine⟨I.ok,I.os,hg,⟨fun b o e n hb hx=>?_,fun b o e n hb hx=>?_,fun b o e n hx=>?_,fun b o e hx=>?_,fun b xs e=>tups b xs (I.base.tups b xs e),fun b o xs e=>frzs b o xs (I.base.frzs b o xs e),fun b ps e=>?_⟩,?_,fun x c e=>?_,?_,fun x c e=>?_,fun p hp=>?_,hok,I.len⟩
 ·exact keep b o (neL b o e) hb (neC b o e hx) (I.base.keep b o e n hb hx) (I.base.free b o e n hx)
 ·obtain ⟨sl,e1⟩:=I.base.slot b o e n hb hx
  obtain ⟨sl',e2⟩:=slot b _ (neL b o e) hb (neC b o e hx) e1 (I.base.free b o e n hx)
  exact⟨sl',e2⟩
 ·obtain ⟨o',e1⟩:=I.base.there b o e hx
  exact free b o' (neC b o e hx) e1 (I.base.free b o e n hx)
 ·obtain ⟨o',e1⟩:=I.base.there b o e hx
  exact there b o' (neC b o e hx) e1
 ·obtain ⟨m1,e1⟩:=I.base.tbls b ps e
  obtain ⟨m2,e2⟩:=tbls b _ e1
  exact⟨m1 ++ m2,by rw [e2,Array.append_assoc]⟩
 ·obtain ⟨m,hn,hl⟩:=I.loc
  refine⟨m,ns m hn,fun i x v e1 e2 e3=>?_⟩
  obtain ⟨u,r,l⟩:=hl i x v e1 e2 e3
  refine⟨u,r,?_⟩
  rcases l with l | ⟨k,c,e,z⟩
  ·exact .inl l
  ·exact .inr ⟨k,c,e,cellK x c e _ z⟩
 ·obtain ⟨v,z⟩:=I.cell x c e
  exact⟨v,cellK x c e v z⟩
 ·obtain ⟨m,⟨o,_,_,ho,_⟩,_⟩:=I.loc
  exact free _ o (fun z=>(hch _ z).2.1 rfl) ho I.free
 ·obtain ⟨v,o,ho,hd⟩:=I.cell x c e
  exact free c o (fun z=>(hch c z).2.2.1 x c e rfl) ho (I.freeC x c e)
 ·obtain ⟨e,n,ne,nf,d⟩:=I.pin p hp
  have nch:p.1 ∉ ch:=fun z=>(hch p.1 z).2.2.2 p hp rfl
  exact⟨keep p.1 p.2 ne nf nch e n,free p.1 p.2 nch e n,ne,nf,d⟩
theorem aA.un {t':Nat} (I:aA X pins σ H s) (u:Un X.fs [] H H' s.heap h') (hok:bO X.prog X.w H' h'):aA X pins σ H' { s with heap:=h',toks:=t' }:=by
 obtain ⟨m,⟨o,es,ep,ho,r⟩,_⟩:=id I.loc
 obtain ⟨sl,hL⟩:=u.any ho I.free (by simp)
 exact I.step (g':=s.gens) (d':=s.drawn) (ch:=[]) (fun _ z=>nomatch z) (fun b o _ hb _ e n=>u.keep b o e n hb (by simp)) (fun b o _ hb _ e n=>u.slot b o e n hb (by simp)) (fun b o _ e n=>u.free b o e n (by simp)) (fun b o _ e=>u.there b o e (by simp)) u.tups u.frzs u.tbls (fun m' hm=>by
  obtain ⟨o',es',ep',ho',r'⟩:=hm
  rw [ho] at ho'; cases ho'
  exact⟨_,es',ep',hL,r'⟩) hok I.bare
theorem aA.call {g':Array GenState}{t':Nat}{d':Drawn}{ch:List Addr} (I:aA X pins σ H s) (u:Un (bX X.stack) ch H H' s.heap h') (hok:bO X.prog X.w H' h') (hg:AllBare g')
  (hch:∀ b ∈ ch,(b ∈ X.ex ∨ X.s₀.heap.objs.size<=b)/\b ≠ X.env.locals/\(∀ x c,X.env.cells.lookup x=some c->c ≠ b)/\∀ p ∈ X.pn ++ pins,p.1 ≠ b) :
  aA X pins σ H' { s with heap:=h',gens:=g',drawn:=d',toks:=t' }:=by
 obtain ⟨m,⟨o,es,ep,ho,r⟩,_⟩:=id I.loc
 obtain ⟨sl,hL⟩:=u.any ho I.free fun z=>(hch _ z).2.1 rfl
 exact I.step (ch:=ch) hch (fun b o hL hb hc e n=>u.keep b o e n (fun z=>(aR7.mp (I.stkSub b z)).elim hL hb) hc) (fun b o _ _ hc e n=>u.any e n hc) (fun b o hc e n=>u.free b o e n hc) (fun b o hc e=>u.there b o e hc) u.tups u.frzs u.tbls (fun m' hm=>by
  obtain ⟨o',es',ep',ho',r'⟩:=hm
  rw [ho] at ho'; cases ho'
  exact⟨_,es',ep',hL,r'⟩) hok hg
theorem aA.turned {t':Nat}{it:Addr} (I:aA X pins σ H s) (k:∀ b o,b ≠ it->s.heap.get? b=some o->h'.get? b=some o) (hn:H it=none) (hL:it ≠ X.env.locals)
  (h1:it ∈ X.ex ∨ X.s₀.heap.objs.size<=it) (h2:∀ x c,X.env.cells.lookup x=some c->c ≠ it) (h3:∀ p ∈ X.pn ++ pins,p.1 ≠ it):aA X pins σ H { s with heap:=h',toks:=t' }:=by
 have nit:∀ b u,H b=some u->b ≠ it:=fun b u e z=>by rw [z,hn] at e; cases e
 refine I.step (g':=s.gens) (d':=s.drawn) (ch:=[it]) (fun b hb=>?_) (fun b o _ _ hc e _=>k b o (fun z=>hc (by simp [z])) e) (fun b o _ _ hc e _=>⟨o.slots,k b o (fun z=>hc (by simp [z])) e⟩) (fun _ _ _ _ n=>n)
  (fun b o hc e=>⟨o,k b o (fun z=>hc (by simp [z])) e⟩) (fun _ _ e=>e) (fun _ _ _ e=>e) (fun b ps e=>⟨#[],by rw [e]; simp⟩) (fun m hm=>?_) (fun b u e=>?_) I.bare
 ·have e:b=it:=by simpa using hb
  subst e
  exact⟨h1,hL,h2,h3⟩
 ·obtain ⟨o,es,ep,ho,r⟩:=hm
  exact⟨o,es,ep,k _ o (Ne.symm hL) ho,r⟩
 ·refine (I.hok b u e).stay (fun c v hc q=>k c v ?_ q) (fun _ q=>q) fun _ _ q=>q
  rcases hc with z | z
  ·rw [z]; exact nit b u e
  ·exact nit c _ z
theorem aA.tok (I:aA X pins σ H s) (t:Nat):aA X pins σ H { s with toks:=t }:=I.un (h':=s.heap) (t':=t) Un.refl I.hok
theorem aA.kept {t':Nat} (I:aA X pins σ H s) (k:∀ b u,s.heap.get? b=some u->h'.get? b=some u):aA X pins σ H { s with heap:=h',toks:=t' }:=I.un (Un.kept k) (I.hok.kept k)
theorem aA.laid {a:Addr}{o:HO}{t':Nat} (I:aA X pins σ H s) (k:∀ b u,s.heap.get? b=some u->h'.get? b=some u) (hp:s.heap.objs.size<=a) (new:bW X.prog X.w (upd H a o) h' a o) :
  aA X pins σ (upd H a o) { s with heap:=h',toks:=t' }:=I.un (Un.laid k hp (I.hok.fresh hp)) (I.hok.laid k hp new)
theorem aA.write {x e:Addr}{o:HO}{t':Nat} (I:aA X pins σ H s) (mu:mT (H x)) (he:e=x ∨ H e=some (.own x)) (k:∀ b u,b ≠ e->s.heap.get? b=some u->h'.get? b=some u) (heo:∃ u,h'.get? e=some u)
  (new:bW X.prog X.w (upd H x o) h' x o):aA X pins σ (upd H x o) { s with heap:=h',toks:=t' }:=I.un (Un.write mu he k heo) (I.hok.write mu he k heo new)
theorem aA.weak {σ':List (Option V)} (I:aA X pins σ H s) (hl:σ'.length=σ.length) (w:∀ (i:Nat) v,σ'[i]? = some (some v)->σ[i]? = some (some v)):aA X pins σ' H s:=
 ⟨I.ok,I.os,I.bare,I.base,let ⟨m,hn,hl'⟩:=I.loc; ⟨m,hn,fun i x v e1 e2 e3=>hl' i x v e1 (w i v e2) e3⟩,I.cell,I.free,I.freeC,I.pin,I.hok,hl.trans I.len⟩
theorem aA.pins_of {pins':List (Addr × Obj)} (I:aA X pins σ H s) (h:∀ p ∈ pins',s.heap.get? p.1=some p.2/\H p.1=none/\p.1 ≠ X.env.locals/\p.1 ∉ X.fs/\∀ v,p.2.data ≠ .cell v):aA X pins' σ H s:=
 ⟨I.ok,I.os,I.bare,I.base,I.loc,I.cell,I.free,I.freeC,fun p hp=>(aV0.mp hp).elim (fun z=>I.pin p (aU6 _ z)) (h p),I.hok,I.len⟩
theorem wD {N:List Str} (hN:N.Nodup) {i j:Nat}{x:Str} (a:N[i]? = some x) (b:N[j]? = some x):i=j:=by
 obtain ⟨h1,e1⟩:=aS0.mp a
 obtain ⟨h2,e2⟩:=aS0.mp b
 exact (List.getElem_inj hN).mp (e1.trans e2.symm)
theorem wE {M:Model}{A:Around}{E:Value->Shared->Prop}{i:Nat}{x:Str}{v:V}{u:Value}{Q:Unit->Shared->Prop} (I:aA X pins σ H s) (hN:X.N.Nodup) (hi:X.N[i]? = some x) (hx:gE X.env.scope x) (r:aU v u)
  (h:∀ s',aA X pins (σ.set i (some v)) H s'->(∃ a,Heap.SameBut a s.heap s'.heap/\(a=X.env.locals ∨ X.env.cells.lookup x=some a))->Q () s') (hf:X.fn x=true ∨ X.env.scope.names.lookup x=some .local:=by first | exact .inl rfl | exact .inr rfl | assumption):wpAny M A (storeName X.env x u) Q E s:=by
 obtain ⟨m,hn,hl⟩:=id I.loc
 have hcls:(X.env.scope.kind == .class || (X.env.scope.kind == .module && X.env.locals != X.env.globals))=false:=by rw [I.ok.kind]; rfl
 have hiσ:i < σ.length:=by rw [I.len]; exact (aS0.mp hi).1
 have cne:=I.cne
 have tracked:∀ {a:Addr}{h':Heap},(∃ o,s.heap.get? a=some o/\H a=none)->Heap.SameBut a s.heap h'->bO X.prog X.w H h':=fun {a h'} ha hs b ob e=>by
  obtain ⟨_,_,hfree⟩:=ha
  refine (I.hok b ob e).stay (fun c w' hc q=>(hs.2 c ?_).trans q) (fun _ q=>q) fun _ _ q=>q
  rintro rfl
  rcases hc with rfl | hc
  ·rw [hfree] at e; cases e
  ·rw [hfree] at hc; cases hc
 rcases hx with hk | hk
 ·refine wpAny_storeName_local hk hn (fun h' hn' hs=>?_) hcls
  obtain ⟨oL,_,_,hoL,_⟩:=id hn
  refine h _ ⟨I.ok,I.os,I.bare,⟨fun b o e n hb hx=>?_,fun b o e n hb hx=>?_,I.base.free,fun b o e hx=>?_,I.base.tups,I.base.frzs,I.base.tbls⟩,⟨_,hn',fun j y v' e1 e2 e3=>?_⟩,fun y c e=>?_,I.free,I.freeC,fun p hp=>?_,tracked ⟨oL,hoL,I.free⟩ hs,by simpa using I.len⟩ ⟨_,hs,.inl rfl⟩
  ·exact (hs.2 b (aU5 (aT0 (aS5 e) I.ok.above))).trans (I.base.keep b o e n hb hx)
  ·obtain ⟨sl,e1⟩:=I.base.slot b o e n hb hx
   exact⟨sl,(hs.2 b (aU5 (aT0 (aS5 e) I.ok.above))).trans e1⟩
  ·obtain ⟨o',e1⟩:=I.base.there b o e hx
   exact⟨o',(hs.2 b (aU5 (aT0 (aS5 e) I.ok.above))).trans e1⟩
  ·by_cases hj:j=i
   ·subst hj
    rw [hi] at e1; cases e1
    rw [bb0 hiσ] at e2
    cases e2
    exact⟨u,r,.inl ⟨hk,by simp⟩⟩
   ·rw [aU1 (Ne.symm hj)] at e2
    obtain ⟨u',r',q⟩:=hl j y v' e1 e2 e3
    refine⟨u',r',?_⟩
    rcases q with ⟨k,e⟩ | ⟨k,c,e,z⟩
    ·refine .inl ⟨k,?_⟩
     have:y ≠ x:=fun e=>hj (wD hN e1 (e ▸ hi))
     simp [this,e]
    ·exact .inr ⟨k,c,e,z.sameBut hs (cne y c e)⟩
  ·obtain ⟨w',z⟩:=I.cell y c e
   exact⟨w',z.sameBut hs (cne y c e)⟩
  ·obtain ⟨e,n,ne,nf,d⟩:=I.pin p hp
   exact⟨(hs.2 p.1 ne).trans e,n,ne,nf,d⟩
 ·have hfn:X.fn x=true:=by
   rcases hf with z | z
   ·exact z
   ·rw [z] at hk; cases hk
  obtain ⟨c,hc⟩:=I.ok.has x (.inl hk)
  obtain ⟨w',z⟩:=I.cell x c hc
  refine wpAny_storeName_cell I.ok.kind hk hc z (fun h' hc' hs=>?_)
  obtain ⟨oc,hoc,hocd⟩:=id z
  refine h { s with heap:=h' } ⟨I.ok,I.os,I.bare,⟨fun b o e n hb hx=>?_,fun b o e n hb hx=>?_,I.base.free,fun b o e hx=>?_,I.base.tups,I.base.frzs,I.base.tbls⟩,⟨m,hn.sameBut hs (Ne.symm (cne x c hc)),fun j y v' e1 e2 e3=>?_⟩,fun y c' e=>?_,I.free,I.freeC,fun p hp=>?_,tracked ⟨oc,hoc,I.freeC x c hc⟩ hs,by simpa using I.len⟩ ⟨c,hs,.inr hc⟩
  ·exact (hs.2 b (aU5 (aT0 (aS5 e) (I.ok.cab x c hfn hc)))).trans (I.base.keep b o e n hb hx)
  ·obtain ⟨sl,e1⟩:=I.base.slot b o e n hb hx
   exact⟨sl,(hs.2 b (aU5 (aT0 (aS5 e) (I.ok.cab x c hfn hc)))).trans e1⟩
  ·obtain ⟨o',e1⟩:=I.base.there b o e hx
   exact⟨o',(hs.2 b (aU5 (aT0 (aS5 e) (I.ok.cab x c hfn hc)))).trans e1⟩
  ·by_cases hj:j=i
   ·subst hj
    rw [hi] at e1; cases e1
    rw [bb0 hiσ] at e2
    cases e2
    exact⟨u,r,.inr ⟨.inl hk,c,hc,hc'⟩⟩
   ·rw [aU1 (Ne.symm hj)] at e2
    obtain ⟨u',r',q⟩:=hl j y v' e1 e2 e3
    refine⟨u',r',?_⟩
    rcases q with q | ⟨k,c',e,z'⟩
    ·exact .inl q
    ·refine .inr ⟨k,c',e,z'.sameBut hs ?_⟩
     rintro rfl
     exact hj (wD hN e1 (I.ok.inj _ _ _ e hc ▸ hi))
  ·by_cases hcc:c'=c
   ·subst hcc; exact⟨_,hc'⟩
   ·obtain ⟨w2,z2⟩:=I.cell y c' e
    exact⟨w2,z2.sameBut hs hcc⟩
  ·obtain ⟨e,n,ne,nf,d⟩:=I.pin p hp
   refine⟨(hs.2 p.1 ?_).trans e,n,ne,nf,d⟩
   intro q
   rw [q,hoc] at e
   have q':oc=p.2:=aT8 e
   exact d w' (by rw [<- q']; exact hocd)
theorem wF {M:Model}{A:Around}{E:Value->Shared->Prop}{i:Nat}{x:Str}{v:V}{u:Value}{Q:Unit->Shared->Prop} (I:aA X pins σ H s) (hN:X.N.Nodup) (hi:X.N[i]? = some x) (hx:gE X.env.scope x) (r:aU v u)
  (h:∀ s',aA X pins (σ.set i (some v)) H s'->Q () s') (hf:X.fn x=true ∨ X.env.scope.names.lookup x=some .local:=by first | exact .inl rfl | exact .inr rfl | assumption):wpAny M A (storeName X.env x u) Q E s:=
 wE I hN hi hx r (fun s' I' _=>h s' I') hf
theorem aA.call' {s':Shared}{ch:List Addr} (I:aA X pins σ H s) (ho:s'.os=s.os) (u:Un (bX X.stack) ch H H' s.heap s'.heap) (hok:bO X.prog X.w H' s'.heap) (hg:AllBare s'.gens)
  (hch:∀ b ∈ ch,(b ∈ X.ex ∨ X.s₀.heap.objs.size<=b)/\b ≠ X.env.locals/\(∀ x c,X.env.cells.lookup x=some c->c ≠ b)/\∀ p ∈ X.pn ++ pins,p.1 ≠ b):aA X pins σ H' s':=by
 obtain ⟨h',g',d',t',o'⟩:=s'
 have e:o'=s.os:=ho
 subst e
 exact I.call (g':=g') (t':=t') (d':=d') u hok hg hch
end
abbrev XK:=Value->Option Addr->Hp->Prop
abbrev St:=List (Option V)
abbrev VK:=V->Hp->Prop
abbrev TE:=St->Hp->VK->Prop
abbrev TT:=St->Hp->(Bool->Hp->Prop)->Prop
abbrev TA:=St->Hp->(List V->Hp->Prop)->Prop
structure dW where
 nx:St->Hp->Prop
 rt:VK
 bk:St->Hp->Prop:=fun _ _=>False
 ct:St->Hp->Prop:=fun _ _=>False
abbrev TS:=dW->St->Hp->Prop
def EP (X:Cx) (pins:List (Addr × Obj)) (σ:St) (Q:VK) (u:Value) (s':Shared):Prop:=∃ v H',aA X pins σ H' s'/\aU v u/\Q v H'
def TP (X:Cx) (pins:List (Addr × Obj)) (σ:St) (Q:Bool->Hp->Prop) (b:Bool) (s':Shared):Prop:=∃ H',aA X pins σ H' s'/\Q b H'
def AP (X:Cx) (pins:List (Addr × Obj)) (σ:St) (Q:List V->Hp->Prop) (us:List Value) (s':Shared):Prop:=∃ vs H',aA X pins σ H' s'/\aR vs us/\Q vs H'
def SP (X:Cx) (pins:List (Addr × Obj)) (D:dW) (f:Flow) (s':Shared):Prop:=
 match f with
 | .next=>∃ σ' H',aA X pins σ' H' s'/\D.nx σ' H'
 | .brk=>∃ σ' H',aA X pins σ' H' s'/\D.bk σ' H'
 | .cont=>∃ σ' H',aA X pins σ' H' s'/\D.ct σ' H'
 | .ret u=>∃ v σ' H',aA X pins σ' H' s'/\aU v u/\D.rt v H'
def PE (X:Cx) (e:Expr) (t:TE):Prop:=
 ∀ (pins:List (Addr × Obj)) (s:Shared) (σ:St) (H:Hp) (Q:VK),aA X pins σ H s->t σ H Q->wpAny (model X.prog X.w) X.A (eval e X.env) (EP X pins σ Q) X.xe s
def PT (X:Cx) (e:Expr) (t:TT):Prop:=
 ∀ (pins:List (Addr × Obj)) (s:Shared) (σ:St) (H:Hp) (Q:Bool->Hp->Prop),aA X pins σ H s->t σ H Q->wpAny (model X.prog X.w) X.A (isTrue e X.env (eval e X.env)) (TP X pins σ Q) X.xe s
def PW (X:Cx) (e:Expr) (t:TT):Prop:=
 ∀ (whole:Sem Value) (pins:List (Addr × Obj)) (s:Shared) (σ:St) (H:Hp) (Q:Bool->Hp->Prop),aA X pins σ H s->t σ H Q->wpAny (model X.prog X.w) X.A (isTrue e X.env whole) (TP X pins σ Q) X.xe s
theorem PW.pt {X:Cx}{e:Expr}{t:TT} (h:PW X e t):PT X e t:=h _
def PA (X:Cx) (es:List Expr) (t:TA):Prop:=
 ∀ (pos:Pos) (pins:List (Addr × Obj)) (s:Shared) (σ:St) (H:Hp) (Q:List V->Hp->Prop),aA X pins σ H s->t σ H Q->wpAny (model X.prog X.w) X.A (spliced (backTo pos (starEach es X.env))) (AP X pins σ Q) X.xe s
def PS (X:Cx) (st:Stmt) (t:TS):Prop:=
 ∀ (pins:List (Addr × Obj)) (s:Shared) (σ:St) (H:Hp) (D:dW),aA X pins σ H s->t D σ H->wpAny (model X.prog X.w) X.A (exec st X.env) (SP X pins D) X.xe s
def e8 (X:Cx) (st:List Stmt) (t:TS):Prop:=
 ∀ (pins:List (Addr × Obj)) (s:Shared) (σ:St) (H:Hp) (D:dW),aA X pins σ H s->t D σ H->wpAny (model X.prog X.w) X.A (execs st X.env) (SP X pins D) X.xe s
theorem aQ {α:Type}{t:Sem α}{Q Q':α->Shared->Prop}{M:Model}{A:Around}{E:Value->Shared->Prop}{s:Shared} (h:wpAny M A t Q E s) (hQ:∀ a s,Q a s->Q' a s):wpAny M A t Q' E s:=aZ1 h hQ fun _ _ x=>x
section
variable {X : Cx}
theorem bin {a b:Expr}{ta tb:TE} (ha:PE X a ta) (hb:PE X b tb) {pins:List (Addr × Obj)}{s:Shared}{σ:St}{H:Hp}{R:V->V->Hp->Prop} (I:aA X pins σ H s) (h:ta σ H fun x H1=>tb σ H1 fun y H2=>R x y H2)
  {α:Type}{Q:α->Shared->Prop}{f:Value->Value->Sem α}
  (hf:∀ v u s2 x y H2,aA X pins σ H2 s2->aU x v->aU y u->R x y H2->wpAny (model X.prog X.w) X.A (f v u) Q X.xe s2) :
  wpAny (model X.prog X.w) X.A (eval a X.env) (fun v s₁=>wpAny (model X.prog X.w) X.A (eval b X.env) (fun u s₂=>wpAny (model X.prog X.w) X.A (f v u) Q X.xe s₂) X.xe s₁) X.xe s:=by
 refine aQ (ha pins s σ H _ I h) fun v s1 ⟨x,H1,I1,r1,q1⟩=>?_
 refine aQ (hb pins s1 σ H1 _ I1 q1) fun u s2 ⟨y,H2,I2,r2,q2⟩=>?_
 exact hf v u s2 x y H2 I2 r1 r2 q2
def kB (i:Nat):TE:=fun σ H Q=>∃ v,σ[i]? = some (some v)/\Q v H
def tC (v:V):TE:=fun _ H Q=>Q v H
theorem lF {i:Nat}{x:Str}{pos:Pos} (hN:X.N[i]? = some x) (hv:iJ X.env.scope x) (hd:(x == ("__debug__" : Str))=false:=by decide) (hcd:(x == ("__classdict__" : Str))=false:=by decide):PE X (.Name x pos) (kB i):=by
 intro pins s σ H Q I h
 obtain ⟨v,e,h⟩:=h
 obtain ⟨m,hn,hl⟩:=I.loc
 obtain ⟨u,r,l⟩:=hl i x v hN e hv
 have fin:EP X pins σ Q u s:=⟨v,H,I,r,h⟩
 rcases l with ⟨hk,hm⟩ | ⟨hk,c,hc,hcell⟩
 ·exact wpAny_Name (wpAny_loadName_local I.ok.kind hk hn hm fin) hd
 ·rcases hk with hk | hk
  ·exact wpAny_Name (wpAny_loadName_cell I.ok.kind hk hc hcell fin) hd
  ·exact wpAny_Name (wpAny_loadName_free I.ok.kind hk hc hcell fin hcd) hd
theorem aa2 {i j pos}:PE X (.Constant (.int i) j pos) (tC (.int i)):=fun _ _ _ H _ I h=>wpAny_Constant_int ⟨.int i,H,I.tok _,⟨_,rfl⟩,h⟩
theorem aa3 {b j pos}:PE X (.Constant (.bool b) j pos) (tC (.bl b)):=fun _ _ _ H _ I h=>Constant_bool ⟨.bl b,H,I,rfl,h⟩
theorem aa4 {j pos}:PE X (.Constant .none j pos) (tC .non):=fun _ _ _ H _ I h=>Constant_none ⟨.non,H,I,rfl,h⟩
theorem aa5 {x j pos}:PE X (.Constant (.str x) j pos) (tC (.str x)):=fun _ _ _ H _ I h=>Calls.Constant_str ⟨.str x,H,I.tok _,⟨_,rfl⟩,h⟩
def Gl (X:Cx) (x:Str):Prop:=X.env.kindOf x=some .globalImplicit
theorem sA {E:Value->Shared->Prop}{pins:List (Addr × Obj)}{s:Shared}{σ:St}{H:Hp}{x:Str}{u:Value}{pos:Pos}{Q:Value->Shared->Prop} (I:aA X pins σ H s) (hg:Gl X x) (hm:X.mg x=some u) (h:Q u s)
  (hd:(x == ("__debug__" : Str))=false:=by decide):wpAny (model X.prog X.w) X.A (eval (.Name x pos) X.env) Q E s:=
 Calls.Name_function_global I.ok.kind hg (Calls.loadGlobal_global (by rw [I.ok.glob]; exact I.mod.glob.keeps I.bk) hm h) hd
theorem lG {E:Value->Shared->Prop}{pins:List (Addr × Obj)}{s:Shared}{σ:St}{H:Hp}{x:Str}{u:Value}{pos:Pos}{Q:Value->Shared->Prop} (I:aA X pins σ H s) (hg:Gl X x) (hm:X.mg x=none) (hv:bootBuiltins x=some u) (h:Q u s)
  (hn:x ≠ "__name__":=by decide) (hd:(x == ("__debug__" : Str))=false:=by decide):wpAny (model X.prog X.w) X.A (eval (.Name x pos) X.env) Q E s:=by
 obtain ⟨mb,h1,h2⟩:=I.mod.blt
 exact Calls.Name_function_global I.ok.kind hg (Calls.loadGlobal_builtin (by rw [I.ok.glob]; exact I.mod.glob.keeps I.bk) hm (by rw [I.ok.blt]; exact h1.keeps I.bk) ((h2 x hn).trans hv) h) hd
theorem aa6 {x:Str}{v:V}{u:Value}{pos:Pos} (hg:Gl X x) (hm:X.mg x=some u) (r:aU v u) (hd:(x == ("__debug__" : Str))=false:=by decide):PE X (.Name x pos) (tC v):=
 fun _ _ _ H _ I h=>sA I hg hm ⟨v,H,I,r,h⟩ hd
theorem aa7 {x:Str}{v:V}{u:Value}{pos:Pos} (hg:Gl X x) (hm:X.mg x=none) (hv:bootBuiltins x=some u) (r:aU v u) (hn:x ≠ "__name__":=by decide) (hd:(x == ("__debug__" : Str))=false:=by decide):PE X (.Name x pos) (tC v):=
 fun _ _ _ H _ I h=>lG I hg hm hv ⟨v,H,I,r,h⟩ hn hd
variable {a b : Expr} {ta tb : TE} {pos : Pos}
def PC (X:Cx) (op:CmpOp) (a b:Expr) (t:TE):Prop:=
 ∀ (pins:List (Addr × Obj)) (s:Shared) (σ:St) (H:Hp) (Q:VK),aA X pins σ H s->t σ H Q->
  wpAny (model X.prog X.w) X.A (eval a X.env) (fun v s₁=>wpAny (model X.prog X.w) X.A (eval b X.env) (fun u s₂=>wpAny (model X.prog X.w) X.A (compareOp op v u) (EP X pins σ Q) X.xe s₂) X.xe s₁) X.xe s
def tB (t:TE):TT:=fun σ H Q=>t σ H fun x H1=>∃ c,x = .bl c/\Q c H1
theorem aa8 {op:CmpOp}{t:TE} (h:PC X op a b t) (h1:behindInMarks op b=false:=by first | exact nobehind _ (by decide) (by decide) | rfl):PT X (.Compare a [op] [b] pos) (tB t):=by
 intro pins s σ H Q I hw
 refine wpAny_isTrue_Compare1 (aQ (h pins s σ H _ I hw) fun v s1 h1=>aQ h1 fun u s2 h2=>aQ h2 fun c s3 ⟨x,H1,I1,r1,q1⟩=>?_) h1
 obtain ⟨d,rfl,q⟩:=q1
 cases r1
 exact bb7 ⟨H1,I1,q⟩
theorem aa9 {e:Expr}{t:TE} (h:PE X e t) (he:∀ whole,isTrue e X.env whole=(do let v <- whole; standAt e.pos; holding [v] (truthy v)):=by intro _; rfl):PT X e (tB t):=by
 intro pins s σ H Q I hw
 refine isTrue_plain (aQ (h pins s σ H _ I hw) fun v s1 ⟨x,H1,I1,r1,q1⟩=>?_) (he _)
 obtain ⟨d,rfl,q⟩:=q1
 cases r1
 exact bb7 ⟨H1,I1,q⟩
variable {tA tB' : TT} {cO : List Expr}
def wG (t u:TT):TT:=fun σ H Q=>t σ H fun c H1=>if c=true then u σ H1 Q else Q false H1
def wH (t u:TT):TT:=fun σ H Q=>t σ H fun c H1=>if c=true then Q true H1 else u σ H1 Q
def wI (t:TT):TT:=fun σ H Q=>t σ H fun c H1=>Q (!c) H1
theorem ab0 (ha:PT X a tA):PW X (.BoolOp .And [a] pos) tA:=by
 intro wh pins s σ H Q I h
 refine isTrue_and (aQ (ha pins s σ H Q I h) fun c s1 e=>?_)
 cases c with
 | true=>exact isTrue_and_nil e
 | false=>exact e
theorem ab1 (ha:PT X a tA):PW X (.BoolOp .Or [a] pos) tA:=by
 intro wh pins s σ H Q I h
 refine isTrue_or (aQ (ha pins s σ H Q I h) fun c s1 e=>?_)
 cases c with
 | false=>exact isTrue_or_nil e
 | true=>exact e
theorem ab2 (ha:PT X a tA) (hb:PW X (.BoolOp .And (b :: cO) pos) tB'):PW X (.BoolOp .And (a :: b :: cO) pos) (wG tA tB'):=by
 intro wh pins s σ H Q I h
 refine isTrue_and (aQ (ha pins s σ H _ I h) fun c s1 ⟨H1,I1,q1⟩=>?_)
 cases c with
 | true=>exact hb wh pins s1 σ H1 Q I1 q1
 | false=>exact⟨H1,I1,q1⟩
theorem ab3 (ha:PT X a tA) (hb:PW X (.BoolOp .Or (b :: cO) pos) tB'):PW X (.BoolOp .Or (a :: b :: cO) pos) (wH tA tB'):=by
 intro wh pins s σ H Q I h
 refine isTrue_or (aQ (ha pins s σ H _ I h) fun c s1 ⟨H1,I1,q1⟩=>?_)
 cases c with
 | true=>exact⟨H1,I1,q1⟩
 | false=>exact hb wh pins s1 σ H1 Q I1 q1
theorem ab4 (ha:PT X a tA):PT X (.UnaryOp .Not a pos) (wI tA):=by
 intro pins s σ H Q I h
 exact isTrue_not (ha pins s σ H (fun c H1=>Q (!c) H1) I h)
def wJ (ta tb:TE):TE:=fun σ H Q=>ta σ H fun x H1=>∃ c,x = .bl c/\if c=true then tb σ H1 Q else Q (.bl false) H1
theorem ab5 {op}{t:TE} (h:PE X a t):PE X (.BoolOp op [a] pos) t:=fun pins s σ H Q I hw=>BoolOp_one (h pins s σ H Q I hw)
theorem ab6 (ha:PE X a ta) (hb:PE X (.BoolOp .And (b :: cO) pos) tb):PE X (.BoolOp .And (a :: b :: cO) pos) (wJ ta tb):=by
 intro pins s σ H Q I h
 refine BoolOp_and (aQ (ha pins s σ H _ I h) fun v s1 ⟨x,H1,I1,r1,q1⟩=>?_)
 obtain ⟨c,rfl,q1⟩:=q1
 cases r1
 refine bb7 ?_
 cases c with
 | true=>exact hb pins s1 σ H1 Q I1 q1
 | false=>exact⟨.bl false,H1,I1,rfl,q1⟩
end
def aW (K:PySem.W.Frag) (H:Hp) (a:Addr) (xs:List V):Prop:=
 Rd H a (.lst xs) ∨
  ∃ (o:Obj) (its:Array Value) (n:Nat),K.lookup a=some o/\o.cls = .type "list"/\o.dict=none/\o.data = .seq its n/\its.size<=sizeLine/\aR xs its.toList
def aS (K:PySem.W.Frag) (H:Hp) (a:Addr) (xs:List V):Prop:=
 Rd H a (.tup xs) ∨
  ∃ (o:Obj) (its:Array Value) (n:Nat),K.lookup a=some o/\o.cls = .type "tuple"/\o.data = .seq its n/\its.size<=sizeLine/\aR xs its.toList
def ab7:Value->Option V
 | .none=>some .non
 | .bool b=>some (.bl b)
 | .int i _=>some (.int i)
 | .str x _=>some (.str x)
 | .bytes b _=>some (.byt b)
 | .float b _=>some (.flt b)
 | .ref a=>some (.ref a)
 | .type n=>some (.ty n)
 | _=>none
theorem aU.abs {x:V}{u:Value} (r:aU x u):ab7 u=some x:=by
 cases x with
 | non=>cases r; rfl
 | bl _=>cases r; rfl
 | int _=>obtain ⟨t,rfl⟩:=r; rfl
 | str _=>obtain ⟨t,rfl⟩:=r; rfl
 | byt _=>obtain ⟨t,rfl⟩:=r; rfl
 | flt _=>obtain ⟨t,rfl⟩:=r; rfl
 | ref _=>cases r; rfl
 | ty _=>cases r; rfl
theorem aU.inj {x y:V}{u:Value} (r:aU x u) (q:aU y u):x=y:=aT8 (r.abs.symm.trans q.abs)
theorem aR.inj:∀ {xs ys:List V}{us:List Value},aR xs us->aR ys us->xs=ys
 | _,_,_,.nil,.nil=>rfl
 | _,_,_,.cons r t,.cons r' t'=>by rw [r.inj r',aR.inj t t']
section
variable {X : Cx} {pins : List (Addr × Obj)} {σ : St} {H : Hp} {s : Shared} {a : Addr} {xs ys : List V}
theorem aW.of {K:PySem.W.Frag} (h:H a=some (.lst xs)):aW K H a xs:=.inl (.inl h)
theorem aS.of {K:PySem.W.Frag} (h:H a=some (.tup xs)):aS K H a xs:=.inl (.inl h)
theorem aA.list (I:aA X pins σ H s) (h:aW X.K H a xs):∃ its:List Value,aR xs its/\PlainL s.heap a its.toArray/\xs.length<=sizeLine:=by
 rcases h with h | ⟨o,its,n,hk,hc,hd,hs,hz,r⟩
 ·obtain ⟨z,its,n,r,e⟩:=h.ok I.hok
  exact⟨its,r,⟨_,n,e,rfl,rfl,rfl⟩,z⟩
 ·refine⟨its.toList,r,⟨o,n,I.kIn a o hk,hc,hd,by simpa using hs⟩,?_⟩
  have e:=r.length
  simp only [aW4] at e
  omega
theorem aA.tuple (I:aA X pins σ H s) (h:aS X.K H a xs):∃ its:List Value,aR xs its/\IsTup s.heap a its.toArray/\xs.length<=sizeLine:=by
 rcases h with h | ⟨o,its,n,hk,hc,hs,hz,r⟩
 ·obtain ⟨z,its,r,p,_⟩:=h.ok I.hok
  exact⟨its,r,p,z⟩
 ·refine⟨its.toList,r,⟨o,I.kIn a o hk,hc,n,by simpa using hs⟩,?_⟩
  have e:=r.length
  simp only [aW4] at e
  omega
theorem aA.list_inj (I:aA X pins σ H s) (h:aW X.K H a xs) (h':aW X.K H a ys):xs=ys:=by
 obtain ⟨its,r,⟨o,n,e,_,_,d⟩,_⟩:=I.list h
 obtain ⟨its',r',⟨o',n',e',_,_,d'⟩,_⟩:=I.list h'
 rw [e] at e'; cases e'
 rw [d] at d'
 injection d' with d1 _
 have:its=its':=by simpa using congrArg Array.toList d1
 subst this
 exact r.inj r'
theorem aA.tuple_inj (I:aA X pins σ H s) (h:aS X.K H a xs) (h':aS X.K H a ys):xs=ys:=by
 obtain ⟨its,r,⟨o,e,_,n,d⟩,_⟩:=I.tuple h
 obtain ⟨its',r',⟨o',e',_,n',d'⟩,_⟩:=I.tuple h'
 rw [e] at e'; cases e'
 rw [d] at d'
 injection d' with d1 _
 have:its=its':=by simpa using congrArg Array.toList d1
 subst this
 exact r.inj r'
end
abbrev Cx.wish (X:Cx) (E:Value->Shared->Prop):Cx:={ X with xe:=E }
abbrev Cx.nox (X:Cx):Cx:=X.wish fun _ _=>False
theorem Cx.Ok.wish {X:Cx} (ok:X.Ok) (E:Value->Shared->Prop):(X.wish E).Ok:=
 ⟨ok.mod,ok.kind,ok.glob,ok.blt,ok.above,ok.inj,ok.has,ok.cab,ok.hd,ok.frames,ok.stk,ok.exf,ok.bs,ok.bsz,ok.noex,ok.exfs,ok.funs,ok.frf⟩
theorem Cx.Ok.unwish {X:Cx}{E:Value->Shared->Prop} (ok:(X.wish E).Ok):X.Ok:=
 ⟨ok.mod,ok.kind,ok.glob,ok.blt,ok.above,ok.inj,ok.has,ok.cab,ok.hd,ok.frames,ok.stk,ok.exf,ok.bs,ok.bsz,ok.noex,ok.exfs,ok.funs,ok.frf⟩
section
variable {X : Cx} {pins : List (Addr × Obj)} {σ : St} {H : Hp} {s : Shared} {E : Value → Shared → Prop}
theorem aA.wish (I:aA X pins σ H s) (E:Value->Shared->Prop):aA (X.wish E) pins σ H s:=⟨I.ok.wish E,I.os,I.bare,I.base,I.loc,I.cell,I.free,I.freeC,I.pin,I.hok,I.len⟩
theorem aA.unwish (I:aA (X.wish E) pins σ H s):aA X pins σ H s:=⟨I.ok.unwish,I.os,I.bare,I.base,I.loc,I.cell,I.free,I.freeC,I.pin,I.hok,I.len⟩
theorem SP.unwish {D:dW}{f:Flow}{s':Shared} (h:SP (X.wish E) pins D f s'):SP X pins D f s':=by
 cases f with
 | next=>obtain ⟨σ',H',I,q⟩:=h; exact⟨σ',H',I.unwish,q⟩
 | brk=>obtain ⟨σ',H',I,q⟩:=h; exact⟨σ',H',I.unwish,q⟩
 | cont=>obtain ⟨σ',H',I,q⟩:=h; exact⟨σ',H',I.unwish,q⟩
 | ret u=>obtain ⟨v,σ',H',I,r,q⟩:=h; exact⟨v,σ',H',I.unwish,r,q⟩
theorem e8.nox {st:List Stmt}{t:TS} (h:e8 X.nox st t):e8 X st t:=fun pins s σ H D I hw=>
 aZ1 (h pins s σ H D (I.wish _) hw) (fun _ _ q=>q.unwish) fun _ _ z=>False.elim z
end
section
variable {X : Cx} {st : Stmt} {cO : List Stmt} {t u : TS} {e : Expr} {te : TE} {pos : Pos}
def wK:TS:=fun D σ H=>D.nx σ H
def wL (t u:TS):TS:=fun D σ H=>t { D with nx:=u D } σ H
theorem ab8:e8 X [] wK:=fun _ _ σ H _ I h=>wpAny_execs_nil ⟨σ,H,I,h⟩
theorem ab9 (h1:PS X st t) (h2:e8 X cO u):e8 X (st :: cO) (wL t u):=by
 intro pins s σ H D I h
 refine wpAny_execs_cons (aQ (h1 pins s σ H { D with nx:=u D } I h) fun f s1 q=>?_)
 cases f with
 | next=>
  obtain ⟨σ',H',I',q⟩:=q
  exact h2 pins s1 σ' H' D I' q
 | ret v=>exact q
 | brk=>exact q
 | cont=>exact q
theorem ac0 (h1:PS X st t):e8 X [st] t:=by
 intro pins s σ H D I h
 refine wpAny_execs_cons (aQ (h1 pins s σ H D I h) fun f s1 q=>?_)
 cases f with
 | next=>exact wpAny_execs_nil q
 | ret v=>exact q
 | brk=>exact q
 | cont=>exact q
theorem aA.quiet {pins:List (Addr × Obj)}{σ:St}{H:Hp}{s:Shared} (I:aA X pins σ H s):interactive X.env=false:=by simp [interactive,I.ok.kind]
def mU (te:TE):TS:=fun D σ H=>te σ H fun _ H1=>D.nx σ H1
theorem oE (he:PE X e te) (hs:swapsWith e none pos.line X.env=pure false:=by rfl):PS X (.Expr e pos) (mU te):=by
 intro pins s σ H D I h
 exact wpAny_Expr_any (aQ (he pins s σ H _ I h) fun v s1 ⟨x,H1,I1,r1,q1⟩=>⟨σ,H1,I1,q1⟩) I.quiet hs
def sB (te:TE):TS:=fun D σ H=>te σ H D.rt
theorem wM (he:PE X e te):PS X (.Return (some e) pos) (sB te):=by
 intro pins s σ H D I h
 exact wpAny_Return_some (aQ (he pins s σ H _ I h) fun v s1 ⟨x,H1,I1,r1,q1⟩=>⟨x,σ,H1,I1,r1,q1⟩)
def wN (c:TT) (t u:TS):TS:=fun D σ H=>c σ H fun b H1=>if b=true then t D σ H1 else u D σ H1
theorem ac1 {c:Expr}{a b:List Stmt}{tc:TT} (hc:PT X c tc) (ha:e8 X a t) (hb:e8 X b u):PS X (.If c a b pos) (wN tc t u):=by
 intro pins s σ H D I h
 refine wpAny_If (aQ (hc pins s σ H _ I h) fun d s1 ⟨H1,I1,q1⟩=>?_)
 cases d with
 | true=>exact ha pins s1 σ H1 D I1 q1
 | false=>exact hb pins s1 σ H1 D I1 q1
end
abbrev TG:=V->St->Hp->(St->Hp->Prop)->Prop
abbrev kC:=List V->St->Hp->(St->Hp->Prop)->Prop
def PG (X:Cx) (target:Expr) (t:TG):Prop:=
 ∀ (pins:List (Addr × Obj)) (s:Shared) (σ:St) (H:Hp) (v:V) (u:Value) (Q:St->Hp->Prop),aA X pins σ H s->aU v u->t v σ H Q->
  wpAny (model X.prog X.w) X.A (assign target X.env u) (fun _ s'=>∃ σ' H',aA X pins σ' H' s'/\Q σ' H') X.xe s
def oF (X:Cx) (ts:List Expr) (t:kC):Prop:=
 ∀ (pins:List (Addr × Obj)) (s:Shared) (σ:St) (H:Hp) (vs:List V) (us:List Value) (Q:St->Hp->Prop),aA X pins σ H s->aR vs us->t vs σ H Q->
  wpAny (model X.prog X.w) X.A (assignInOrder ((assignEach ts X.env).map (·.2)) us) (fun _ s'=>∃ σ' H',aA X pins σ' H' s'/\Q σ' H') X.xe s
section
variable {X : Cx} {pos : Pos}
def dB (i:Nat):TG:=fun v σ H Q=>Q (σ.set i (some v)) H
theorem gF {i:Nat}{x:Str} (hN:X.N.Nodup) (hi:X.N[i]? = some x) (hx:gE X.env.scope x) (hf:X.fn x=true ∨ X.env.scope.names.lookup x=some .local:=by first | exact .inl rfl | exact .inr rfl | assumption):PG X (.Name x pos) (dB i):=by
 intro pins s σ H v u Q I r h
 exact wpAny_assign_Name (wF I hN hi hx r (fun s' I'=>⟨_,H,I',h⟩) hf)
def lH:kC:=fun vs σ H Q=>vs = []/\Q σ H
def fV (t:TG) (u:kC):kC:=fun vs σ H Q=>∃ v r,vs=v :: r/\t v σ H fun σ' H'=>u r σ' H' Q
theorem oG:oF X [] lH:=by
 intro pins s σ H vs us Q I r h
 obtain ⟨e,h⟩:=h
 subst e
 cases r
 exact assignInOrder_nil ⟨σ,H,I,h⟩
theorem i6 {e:Expr}{es:List Expr}{t:TG}{u:kC} (h1:PG X e t) (h2:oF X es u)
  (hs:(assignEach (e :: es) X.env).map (·.2)=assign e X.env :: (assignEach es X.env).map (·.2):=by rfl):oF X (e :: es) (fV t u):=by
 intro pins s σ H vs us Q I r h
 obtain ⟨v,vr,e1,h⟩:=h
 subst e1
 cases r with
 | cons r rr=>
  rw [hs]
  refine assignInOrder_cons (aQ (h1 pins s σ H _ _ _ I r h) fun _ s1 ⟨σ1,H1,I1,q1⟩=>?_)
  exact h2 pins s1 σ1 H1 _ _ Q I1 rr q1
def lI (K:PySem.W.Frag) (n:Nat) (t:kC):TG:=fun v σ H Q=>∃ a xs,v = .ref a/\aS K H a xs/\xs.length=n/\t xs σ H Q
theorem oH {es:List Expr}{k:Nat}{t:kC}{n:Nat} (hc:X.calm=true) (h:oF X es t)
  (hn:(assignEach es X.env).length=n:=by rfl) (hst:(assignEach es X.env).findIdx? (·.1)=none:=by rfl):PG X (.Tuple es k pos) (lI X.K n t):=by
 intro pins s σ H v u Q I r hw
 obtain ⟨a,xs,e1,hq,hl,hw⟩:=hw
 subst e1
 cases r
 obtain ⟨its,rv,ht,hz⟩:=I.tuple hq
 refine assign_Tuple_tuple (I.ok.hd hc) ht (by simp [hn,<- hl,rv.length]) hst fun h' hx=>?_
 have I1:aA X pins σ H { s with heap:=h' }:=I.kept (t':=s.toks) fun b o e=>hx b o (aU5 (aS5 e)) e
 exact h pins _ σ H xs _ Q I1 (by simpa using rv) hw
def lJ (te:TE) (g:TG):TS:=fun D σ H=>te σ H fun x H1=>g x σ H1 D.nx
theorem wO {tg e:Expr}{te:TE}{g:TG} (he:PE X e te) (hg:PG X tg g) (hs:swapsWithSole [tg] e pos.line X.env=pure false:=by rfl) (hw:swappedStores [tg] e X.env=pure none:=by rfl)
  (h1:(assignEach [tg] X.env).map (·.2) = [assign tg X.env]:=by rfl):PS X (.Assign [tg] e pos) (lJ te g):=by
 intro pins s σ H D I h
 refine wpAny_Assign_stores (aQ (he pins s σ H _ I h) fun v s1 ⟨x,H1,I1,r1,q1⟩=>?_) hs hw
 rw [h1]
 exact aQ (hg pins s1 σ H1 x v _ I1 r1 q1) fun _ s2 q=>q
theorem wP {i:Nat}{x:Str}{e:Expr}{te:TE}{pos':Pos} (hN:X.N.Nodup) (hi:X.N[i]? = some x) (hx:gE X.env.scope x) (he:PE X e te) (hs:swapsWith e (some (.Name x pos')) pos.line X.env=pure false:=by rfl) (hf:X.fn x=true ∨ X.env.scope.names.lookup x=some .local:=by first | exact .inl rfl | exact .inr rfl | assumption) :
  PS X (.Assign [.Name x pos'] e pos) (lJ te (dB i)):=by
 intro pins s σ H D I h
 refine wpAny_Assign_Name (aQ (he pins s σ H _ I h) fun v s1 ⟨y,H1,I1,r1,q1⟩=>?_) hs
 exact wF I1 hN hi hx r1 (fun s2 I2=>⟨_,H1,I2,q1⟩) hf
end
section
variable {X : Cx} {pos : Pos}
def wQ (c:TT) (tb:TS):TS:=fun D σ H=>∃ W:Nat->St->Hp->Prop,(∃ m,W m σ H)/\∀ m σ H,W m σ H->
 c σ H fun b H1=>if b=true then ∃ N:St->Hp->Prop,(∀ σ' H',N σ' H'->∃ m',m' < m/\W m' σ' H')/\tb { D with nx:=N,ct:=N,bk:=D.nx } σ H1 else D.nx σ H1
theorem ac2 {c:Expr}{body:List Stmt}{tc:TT}{tb:TS} (hp:PassesOwn (model X.prog X.w) X.A X.env X.xe) (hc:PT X c tc) (hb:e8 X body tb):PS X (.While c body [] pos) (wQ tc tb):=by
 intro pins s σ H D I h
 obtain ⟨W,⟨m0,w0⟩,turn⟩:=h
 refine wpAny_While (codeAny_whileLoop (fun n s'=>∃ σ' H',aA X pins σ' H' s'/\W n σ' H') ?_ m0 ⟨σ,H,I,w0⟩)
 rintro n s1 ⟨σ1,H1,I1,w1⟩
 refine bf7 hp (aQ (hc pins s1 σ1 H1 _ I1 (turn n σ1 H1 w1)) fun b s2 ⟨H2,I2,q2⟩=>?_)
 cases b with
 | true=>
  obtain ⟨N,hN,q2⟩:=q2
  rw [if_pos rfl]
  refine bf7 hp (aQ (hb pins s2 σ1 H2 _ I2 q2) fun f s3 q3=>?_)
  cases f with
  | next=>
   obtain ⟨σ3,H3,I3,n3⟩:=q3
   obtain ⟨m',hm,w3⟩:=hN σ3 H3 n3
   exact⟨m',hm,σ3,H3,I3,w3⟩
  | cont=>
   obtain ⟨σ3,H3,I3,n3⟩:=q3
   obtain ⟨m',hm,w3⟩:=hN σ3 H3 n3
   exact⟨m',hm,σ3,H3,I3,w3⟩
  | brk=>exact q3
  | ret v=>exact q3
 | false=>
  rw [if_neg aT5]
  exact wpAny_execs_nil ⟨σ1,H2,I2,q2⟩
end
structure It where
 go:Nat->Hp->Prop
 yld:Nat->Hp->V->Hp->Prop
 stop:Nat->Hp->Prop
def fW (X:Cx) (pins:List (Addr × Obj)) (H:Hp) (b:Addr):Prop:=
 H b=none/\b ≠ X.env.locals/\b ∉ X.fs/\(b ∈ X.ex ∨ X.s₀.heap.objs.size<=b)/\(∀ x c,X.env.cells.lookup x=some c->c ≠ b)/\∀ p ∈ X.pn ++ pins,p.1 ≠ b
theorem aA.fpOk {X:Cx}{pins:List (Addr × Obj)}{σ:St}{H H':Hp}{s:Shared}{b:Addr} (I:aA X pins σ H s) (hb:s.heap.objs.size<=b) (hn:H' b=none):fW X pins H' b:=by
 refine⟨hn,ba3 (aT0 I.lt hb),I.nofs hb,.inr (aU9 I.sz hb),fun x c e z=>?_,fun p hp z=>?_⟩
 ·obtain ⟨v,q⟩:=I.cell x c e
  exact absurd (aT0 q.lt (by rw [z]; exact hb)) (aY9 _)
 ·exact absurd (aT0 (aS5 (I.pin p hp).1) (by rw [z]; exact hb)) (aY9 _)
structure i7 (P:Program) (w:World) (K:PySem.W.Frag) (tg:Expr) (J:It) (fp:List Addr) (it:Addr) (tn:Nat->Heap->Prop):Prop where
 mem:it ∈ fp
 obj:∀ i h,tn i h->∀ b ∈ fp,∃ o,h.get? b=some o/\∀ v,o.data ≠ .cell v
 keep:∀ i h h',tn i h->(∀ b ∈ fp,∀ o,h.get? b=some o->h'.get? b=some o)->tn i h'
 item:∀ (X:Cx),X.prog=P->X.w=w->X.K=K->X.calm=true->∀ (i:Nat) (pins:List (Addr × Obj)) (s:Shared) (σ:St) (H:Hp) (E:Value->Shared->Prop),aA X pins σ H s->(∀ b ∈ fp,fW X pins H b)->tn i s.heap->J.go i H->
  wpAny (model P w) X.A (pyNext (.ref it)) (fun r s1=>∃ u,r=some u/\
   wpAny (model P w) X.A (letOwnedTupleGo tg (.ref it) u) (fun _ s2=>∃ x H',aA X pins σ H' s2/\aU x u/\J.yld i H x H'/\tn (i+1) s2.heap/\∀ b ∈ fp,H' b=none) E s1) E s
 done:∀ (X:Cx),X.prog=P->X.w=w->X.K=K->X.calm=true->∀ (i:Nat) (pins:List (Addr × Obj)) (s:Shared) (σ:St) (H:Hp) (E:Value->Shared->Prop),aA X pins σ H s->(∀ b ∈ fp,fW X pins H b)->tn i s.heap->J.stop i H->
  wpAny (model P w) X.A (pyNext (.ref it)) (fun r s1=>r=none/\aA X pins σ H s1) E s
 self:∀ (A:Around) (i:Nat) (s:Shared) (Q:Value->Shared->Prop) (E:Value->Shared->Prop),tn i s.heap->Q (.ref it) s->wpAny (model P w) A (pyIter (.ref it)) Q E s
abbrev TI:=St->Hp->(It->Hp->Prop)->Prop
def wR (X:Cx) (pins:List (Addr × Obj)) (σ:St) (tg:Expr) (R:It->Hp->Prop) (itv:Value) (s2:Shared):Prop:=
 ∃ (it:Addr) (fp:List Addr) (tn:Nat->Heap->Prop) (J:It) (H':Hp),itv = .ref it/\aA X pins σ H' s2/\i7 X.prog X.w X.K tg J fp it tn/\tn 0 s2.heap/\(∀ b ∈ fp,fW X pins H' b)/\R J H'
def PI (X:Cx) (tg iter:Expr) (wi:TI):Prop:=
 ∀ (pins:List (Addr × Obj)) (s:Shared) (σ:St) (H:Hp) (R:It->Hp->Prop),aA X pins σ H s->wi σ H R->
  wpAny (model X.prog X.w) X.A (eval iter X.env) (fun v s1=>wpAny (model X.prog X.w) X.A (pyIter v) (wR X pins σ tg R) X.xe s1) X.xe s
theorem sD {M:Model}{A:Around}{E:Value->Shared->Prop}{s:Shared}{tg:Expr}{it:Addr}{u:Value}{o:Obj}{n:String}{vs:Array Value}{Q:Unit->Shared->Prop} (ho:s.heap.get? it=some o) (hc:o.cls = .type n) (hd:o.data = .fields vs)
    (hn : ["enumerate","zip","dict_itemiterator","dict_reverseitemiterator","odict_iterator","itertools.zip_longest","itertools.pairwise"].contains n=false) (hQ:Q () s):wpAny M A (letOwnedTupleGo tg (.ref it) u) Q E s:=by
  unfold letOwnedTupleGo
  cases tg <;> first
    | exact aR4 hQ
    | (cases u <;> first
        | exact aR4 hQ
        | (refine aQ9 (wpAny_load ho ?_)
           rw [hc,hd]
           show wpAny M A (if (["enumerate","zip","dict_itemiterator","dict_reverseitemiterator","odict_iterator","itertools.zip_longest","itertools.pairwise"].contains n && vs[0]? == some (rawInt _))=true then _ else _) Q E s
           rw [if_neg (by intro h; rw [hn,aW5] at h; cases h)]
           exact aR4 hQ))
def sE (K:PySem.W.Frag) (a:Addr):It:=
 ⟨fun i H=>∃ xs x,aW K H a xs/\xs[i]? = some x,fun i H x H'=>H'=H/\∀ xs,aW K H a xs->xs[i]? = some x,fun i H=>∃ xs,aW K H a xs/\xs.length<=i⟩
def sF (K:PySem.W.Frag) (a:Addr):It:=
 ⟨fun i H=>∃ xs x,aS K H a xs/\xs[i]? = some x,fun i H x H'=>H'=H/\∀ xs,aS K H a xs->xs[i]? = some x,fun i H=>∃ xs,aS K H a xs/\xs.length<=i⟩
def oI (lo:Int) (n:Nat):It:=⟨fun i _=>i < n,fun i H x H'=>H'=H/\x = .int (lo+i),fun i _=>n<=i⟩
theorem ac3 {P:Program}{w:World}{K:PySem.W.Frag}{tg:Expr} (a it:Addr):i7 P w K tg (sE K a) [it] it (fun i h=>h.IsListIter it a i) where
 mem:=by simp
 obj:=fun i h st b hb=>by
  have e:b=it:=by simpa using hb
  subst e
  obtain ⟨o,e,c,d⟩:=st
  exact⟨o,e,fun v z=>by rw [d] at z; cases z⟩
 keep:=fun i h h' st k=>st.at fun o e=>k it (by simp) o e
 item:=by
  intro X hP hw hK hc i pins s σ H E I hf st hg
  subst hP hw hK
  obtain ⟨xs,x,hq,hx⟩:=hg
  obtain ⟨its,rv,p,hz⟩:=I.list hq
  obtain ⟨u,hu,ru⟩:=rv.get hx
  obtain ⟨f0,f1,f2,f3,f4,f5⟩:=hf it (by simp)
  refine wpAny_pyNext_list_item st p.isList (x:=u) (by simpa using hu) fun h' st' sb=>?_
  have I1:aA X pins σ H { s with heap:=h' }:=I.turned (t':=s.toks) (fun b o hb e=>(sb.2 b hb).trans e) f0 f1 f3 f4 f5
  obtain ⟨o,e,c,d⟩:=id st'
  exact⟨u,rfl,sD (s:={ s with heap:=h' }) e c d (by decide) ⟨x,H,I1,ru,⟨rfl,fun ys hy=>by rw [I.list_inj hy hq]; exact hx⟩,st',fun b hb=>(hf b hb).1⟩⟩
 done:=by
  intro X hP hw hK hc i pins s σ H E I hf st hg
  subst hP hw hK
  obtain ⟨xs,hq,hx⟩:=hg
  obtain ⟨its,rv,p,hz⟩:=I.list hq
  obtain ⟨f0,f1,f2,f3,f4,f5⟩:=hf it (by simp)
  have hl:=rv.length
  exact wpAny_pyNext_list_end (I.ok.hd hc) st p.isList (by simp; omega) fun h' eb=>⟨rfl,I.turned (t':=s.toks) (fun b o hb e=>eb b o hb e) f0 f1 f3 f4 f5⟩
 self:=fun _ _ _ _ _ st h=>wpAny_pyIter_listiter st h
theorem ac4 {P:Program}{w:World}{K:PySem.W.Frag}{tg:Expr} (a it:Addr):i7 P w K tg (sF K a) [it] it (fun i h=>h.IsTupleIter it a i) where
 mem:=by simp
 obj:=fun i h st b hb=>by
  have e:b=it:=by simpa using hb
  subst e
  obtain ⟨o,e,c,d⟩:=st
  exact⟨o,e,fun v z=>by rw [d] at z; cases z⟩
 keep:=fun i h h' st k=>st.at fun o e=>k it (by simp) o e
 item:=by
  intro X hP hw hK hc i pins s σ H E I hf st hg
  subst hP hw hK
  obtain ⟨xs,x,hq,hx⟩:=hg
  obtain ⟨its,rv,p,hz⟩:=I.tuple hq
  obtain ⟨u,hu,ru⟩:=rv.get hx
  obtain ⟨f0,f1,f2,f3,f4,f5⟩:=hf it (by simp)
  refine wpAny_pyNext_tuple_item st (show s.heap.IsTuple a its.toArray from p) (x:=u) (by simpa using hu) fun h' st' sb=>?_
  have I1:aA X pins σ H { s with heap:=h' }:=I.turned (t':=s.toks) (fun b o hb e=>(sb.2 b hb).trans e) f0 f1 f3 f4 f5
  obtain ⟨o,e,c,d⟩:=id st'
  exact⟨u,rfl,sD (s:={ s with heap:=h' }) e c d (by decide) ⟨x,H,I1,ru,⟨rfl,fun ys hy=>by rw [I.tuple_inj hy hq]; exact hx⟩,st',fun b hb=>(hf b hb).1⟩⟩
 done:=by
  intro X hP hw hK hc i pins s σ H E I hf st hg
  subst hP hw hK
  obtain ⟨xs,hq,hx⟩:=hg
  obtain ⟨its,rv,p,hz⟩:=I.tuple hq
  obtain ⟨f0,f1,f2,f3,f4,f5⟩:=hf it (by simp)
  have hl:=rv.length
  exact wpAny_pyNext_tuple_end (I.ok.hd hc) st (show s.heap.IsTuple a its.toArray from p) (by simp; omega) fun h' eb=>⟨rfl,I.turned (t':=s.toks) (fun b o hb e=>eb b o hb e) f0 f1 f3 f4 f5⟩
 self:=fun _ _ _ _ _ st h=>wpAny_pyIter_tupleiter st h
theorem ac5 {P:Program}{w:World}{K:PySem.W.Frag}{tg:Expr} (it:Addr) (lo:Int) (n:Nat):i7 P w K tg (oI lo n) [it] it (fun i h=>IsRangeIter h it (lo+(i:Nat) * 1) ((n:Int) - (i:Nat)) 1) where
 mem:=by simp
 obj:=fun i h st b hb=>by
  have e:b=it:=by simpa using hb
  subst e
  exact⟨_,st,fun v z=>by
   have z':Data.fields _=Data.cell v:=z
   cases z'⟩
 keep:=fun i h h' st k=>k it (by simp) _ st
 item:=by
  intro X hP hw hK hc i pins s σ H E I hf st hg
  subst hP hw hK
  obtain ⟨f0,f1,f2,f3,f4,f5⟩:=hf it (by simp)
  have W:=Walks.range (prog:=X.prog) (w:=X.w) (I.ok.hd hc) it lo 1 n
  refine W.item i s _ _ hg st fun v h' tk hv st' kk=>?_
  obtain ⟨t,rfl⟩:=hv
  have I1:aA X pins σ H { s with heap:=h',toks:=tk }:=I.turned (fun b o hb e=>kk b o (by simpa using hb) e) f0 f1 f3 f4 f5
  refine⟨_,rfl,sD (s:={ s with heap:=h',toks:=tk }) (n:="range_iterator") st' rfl rfl (by decide) ⟨.int (lo+i),H,I1,⟨t,?_⟩,⟨rfl,rfl⟩,st',fun b hb=>(hf b hb).1⟩⟩
  rw [Int.mul_one]
 done:=by
  intro X hP hw hK hc i pins s σ H E I hf st hg
  subst hP hw hK
  obtain ⟨f0,f1,f2,f3,f4,f5⟩:=hf it (by simp)
  exact wpAny_pyNext_range_end (I.ok.hd hc) st (by have:n<=i:=hg; omega) fun h' eb=>⟨rfl,I.turned (t':=s.toks) (fun b o hb e=>eb b o hb e) f0 f1 f3 f4 f5⟩
 self:=fun _ _ _ _ _ st h=>wpAny_pyIter_rangeiter st h
section
variable {X : Cx} {tg : Expr}
theorem ac6 {pins:List (Addr × Obj)}{σ:St}{H:Hp}{s:Shared}{R:It->Hp->Prop}{E:Value->Shared->Prop}{lo hi:Int}{t u v:Tok}{tk:Nat} (I:aA X pins σ H s) (h1 : -(2 ^ 62)<=lo) (h2:lo < 2 ^ 62) (h3 : -(2 ^ 62)<=hi) (h4:hi < 2 ^ 62)
  (q:R (oI lo (hi - lo).toNat) H):wpAny (model X.prog X.w) X.A (pyIter (.ref s.heap.objs.size)) (wR X pins σ tg R) E { s with heap:=s.heap.push { cls:=.type "range",data:=.fields #[.int lo t,.int hi u,.int 1 v] },toks:=tk }:=by
 refine wpAny_pyIter_range (IsRange.new ..) (small_one h1 h2 h3 h4) ?_
 have I1:aA X pins σ H { s with heap:=s.heap.push { cls:=.type "range",data:=.fields #[.int lo t,.int hi u,.int 1 v] },toks:=tk }:=I.kept fun b o e=>aR1 _ e
 refine⟨(s.heap.push { cls:=.type "range",data:=.fields #[.int lo t,.int hi u,.int 1 v] }).objs.size,[(s.heap.push { cls:=.type "range",data:=.fields #[.int lo t,.int hi u,.int 1 v] }).objs.size],_,_,H,rfl,
  I1.kept (t':=tk) fun b o e=>aR1 _ e,ac5 _ lo (hi - lo).toNat,?_,fun b hb=>?_,q⟩
 ·have e1:lo+((0:Nat):Int) * 1=lo:=by simp
  have e2:(((hi - lo).toNat:Nat):Int) - ((0:Nat):Int)=Builtin.Range.rangeSize lo hi 1:=by rw [rangeSize_one]; split <;> omega
  show IsRangeIter _ _ (lo+((0:Nat):Int) * 1) ((((hi - lo).toNat:Nat):Int) - ((0:Nat):Int)) 1
  rw [e1,e2]
  exact aS7 _ rfl
 ·have e:b=(s.heap.push { cls:=.type "range",data:=.fields #[.int lo t,.int hi u,.int 1 v] }).objs.size:=by simpa using hb
  subst e
  exact I1.fpOk (aS4 _) (I1.hok.fresh (aS4 _))
def wS (ta:TA):TI:=fun σ H R=>ta σ H fun vs H1=>∃ j:Int,vs = [.int j]/\-(2 ^ 62)<=j/\j < 2 ^ 62/\R (oI 0 j.toNat) H1
theorem ac7 {a:Expr}{ta:TA}{p pos:Pos} (hg:Gl X "range") (hm:X.mg "range" = none) (ha:PA X [a] ta) (hs:starEach [a] X.env = [(false,eval a X.env)]:=by rfl):PI X tg (.Call (.Name "range" p) [a] [] pos) (wS ta):=by
 intro pins s σ H R I h
 refine Call_ (lG I hg hm boot_range (be6 (aQ (ha pos pins s σ H _ I h) fun us s1 ⟨vs,H1,I1,r1,q1⟩=>?_) hs rfl))
 obtain ⟨j,e,q1,q2,q⟩:=q1
 subst e
 cases r1 with
 | cons r rr=>
  cases rr
  obtain ⟨t,rfl⟩:=r
  exact call_range_1 (ac6 I1 (by omega) (by omega) q1 q2 (by simpa using q))
def wT (wi:TI) (g:TG) (tb:TS):TS:=fun D σ H=>wi σ H fun J H1=>∃ W:Nat->Nat->St->Hp->Prop,(∃ m,W 0 m σ H1)/\∀ i m σ H,W i m σ H->
 (J.stop i H/\D.nx σ H) ∨ (J.go i H/\∃ N:St->Hp->Prop,(∀ σ' H',N σ' H'->∃ m',m' < m/\W (i+1) m' σ' H')/\∀ x H',J.yld i H x H'->g x σ H' fun σ2 H2=>tb { D with nx:=N,ct:=N,bk:=D.nx } σ2 H2)
def mV (fp:List Addr) (h:Heap):List (Addr × Obj):=fp.filterMap fun b=>(h.get? b).map fun o=>(b,o)
theorem oJ {fp:List Addr}{h:Heap}{b:Addr}{o:Obj} (hb:b ∈ fp) (e:h.get? b=some o):(b,o) ∈ mV fp h:=List.mem_filterMap.mpr ⟨b,hb,by rw [e]; rfl⟩
theorem ac8 {fp:List Addr}{h:Heap}{p:Addr × Obj} (hp:p ∈ mV fp h):p.1 ∈ fp/\h.get? p.1=some p.2:=by
 obtain ⟨b,hb,e⟩:=List.mem_filterMap.mp hp
 cases q:h.get? b with
 | none=>rw [q] at e; cases e
 | some o=>
  rw [q] at e
  have e':(b,o)=p:=aT8 e
  subst e'
  exact⟨hb,q⟩
theorem aA.pinned {pins:List (Addr × Obj)}{σ:St}{H:Hp}{s:Shared}{fp:List Addr} (I:aA X pins σ H s) (hf:∀ b ∈ fp,fW X pins H b) (ho:∀ b ∈ fp,∃ o,s.heap.get? b=some o/\∀ v,o.data ≠ .cell v):aA X (pins ++ mV fp s.heap) σ H s:=
 I.pins_of fun p hp=>(aV0.mp hp).elim (fun z=>I.pin p (aU2 _ z)) fun z=>by
  obtain ⟨hb,e⟩:=ac8 z
  obtain ⟨f0,f1,f2,_⟩:=hf p.1 hb
  obtain ⟨o,e',d⟩:=ho p.1 hb
  rw [e] at e'; cases e'
  exact⟨e,f0,f1,f2,d⟩
theorem aA.unpinned {pins pl:List (Addr × Obj)}{σ:St}{H:Hp}{s:Shared} (I:aA X (pins ++ pl) σ H s):aA X pins σ H s:=I.pins_of fun p hp=>I.pin p (aU2 _ (aU6 _ hp))
theorem ac9 {iter:Expr}{body:List Stmt}{wi:TI}{g:TG}{tb:TS}{pos:Pos} (hp:PassesOwn (model X.prog X.w) X.A X.env X.xe) (hc:X.calm=true) (hi:PI X tg iter wi) (hg:PG X tg g) (hb:e8 X body tb)
  (hs:∀ x,foldedSetIterable iter X.env x=pure x:=by intro _; rfl):PS X (.For tg iter body [] pos) (wT wi g tb):=by
 intro pins s σ H D I h
 refine wpAny_For (aQ (hi pins s σ H _ I h) fun v s1 h1=>aQ h1 fun itv s2 h2=>?_) hs
 obtain ⟨it,fp,tn,J,H2,e,I2,T,st2,f2,W,⟨m0,w0⟩,turn⟩:=h2
 subst e
 have stat:∀ {H':Hp},(∀ b ∈ fp,H' b=none)->∀ b ∈ fp,fW X pins H' b:=fun hn b hb=>⟨hn b hb,(f2 b hb).2⟩
 refine codeAny_forLoop_any (fun n s'=>∃ i σ' H',aA X pins σ' H' s'/\tn i s'.heap/\(∀ b ∈ fp,H' b=none)/\W i n σ' H') ?_ m0 ⟨0,σ,H2,I2,st2,fun b hb=>(f2 b hb).1,w0⟩
 rintro n s3 ⟨i,σ3,H3,I3,st3,fr3,w3⟩
 rcases turn i n σ3 H3 w3 with ⟨stop,qn⟩ | ⟨go,N,hN,step⟩
 ·refine bf7 hp (aQ (T.done X rfl rfl rfl hc i pins s3 σ3 H3 X.xe I3 (stat fr3) st3 stop) fun r s4 ⟨hr,I4⟩=>?_)
  subst hr
  exact wpAny_execs_nil ⟨σ3,H3,I4,qn⟩
 ·refine bf7 hp (aQ (T.item X rfl rfl rfl hc i pins s3 σ3 H3 X.xe I3 (stat fr3) st3 go) fun r s4 ⟨u,hr,h4⟩=>?_)
  subst hr
  refine bf7 hp (aQ h4 fun _ s5 ⟨x,H5,I5,r5,y5,st5,fr5⟩=>?_)
  have I5':=I5.pinned (stat fr5) (T.obj _ _ st5)
  refine bf7 hp (aQ (hg _ s5 σ3 H5 x u _ I5' r5 (step x H5 y5)) fun _ s6 ⟨σ6,H6,I6,q6⟩=>?_)
  refine bf7 hp (aQ (hb _ s6 σ6 H6 _ I6 q6) fun f s7 q7=>?_)
  have again:∀ {σ7:St}{H7:Hp},aA X (pins ++ mV fp s5.heap) σ7 H7 s7->N σ7 H7->∃ m,m < n/\∃ i σ' H',aA X pins σ' H' s7/\tn i s7.heap/\(∀ b ∈ fp,H' b=none)/\W i m σ' H':=fun {σ7 H7} I7 n7=>by
   obtain ⟨m',hm,w7⟩:=hN σ7 H7 n7
   refine⟨m',hm,i+1,σ7,H7,I7.unpinned,T.keep _ _ _ st5 fun b hb o e=>(I7.pin (b,o) (aU2 _ (aU2 _ (oJ hb e)))).1,fun b hb=>?_,w7⟩
   obtain ⟨o,e,d⟩:=T.obj _ _ st5 b hb
   exact (I7.pin (b,o) (aU2 _ (aU2 _ (oJ hb e)))).2.1
  cases f with
  | next=>obtain ⟨σ7,H7,I7,n7⟩:=q7; exact again I7 n7
  | cont=>obtain ⟨σ7,H7,I7,n7⟩:=q7; exact again I7 n7
  | brk=>obtain ⟨σ7,H7,I7,q7⟩:=q7; exact⟨σ7,H7,I7.unpinned,q7⟩
  | ret v=>obtain ⟨x7,σ7,H7,I7,r7,q7⟩:=q7; exact⟨x7,σ7,H7,I7.unpinned,r7,q7⟩
end
abbrev R2:=V->V->Hp->VK->Prop
def c9 (X:Cx) (f:Value->Value->Sem Value) (r:R2):Prop:=
 ∀ (pins:List (Addr × Obj)) (s:Shared) (σ:St) (H:Hp) (x y:V) (v u:Value) (Q:VK),aA X pins σ H s->aU x v->aU y u->r x y H Q->
  wpAny (model X.prog X.w) X.A (f v u) (EP X pins σ Q) X.xe s
def sG (X:Cx) (f:Value->Sem Value) (r:V->Hp->VK->Prop):Prop:=
 ∀ (pins:List (Addr × Obj)) (s:Shared) (σ:St) (H:Hp) (x:V) (v:Value) (Q:VK),aA X pins σ H s->aU x v->r x H Q->
  wpAny (model X.prog X.w) X.A (f v) (EP X pins σ Q) X.xe s
def dC (X:Cx) (f:Value) (r:List V->Hp->VK->Prop):Prop:=
 ∀ (pins:List (Addr × Obj)) (s:Shared) (σ:St) (H:Hp) (xs:List V) (us:List Value) (Q:VK),aA X pins σ H s->aR xs us->r xs H Q->
  wpAny (model X.prog X.w) X.A (call f us) (EP X pins σ Q) X.xe s
def mW (r:R2) (ta tb:TE):TE:=fun σ H Q=>ta σ H fun x H1=>tb σ H1 fun y H2=>r x y H2 Q
def tUn (r:V->Hp->VK->Prop) (ta:TE):TE:=fun σ H Q=>ta σ H fun x H1=>r x H1 Q
def rI (C:Int->Int->Prop) (g:Int->Int->V):R2:=fun x y H Q=>∃ i j,x = .int i/\y = .int j/\C i j/\Q (g i j) H
def fX (g:Int->Int->V):R2:=fun x y H Q=>∃ i j,x = .int i/\y = .int j/\Q (g i j) H
def rU (g:Int->V):V->Hp->VK->Prop:=fun x H Q=>∃ i,x = .int i/\Q (g i) H
section
variable {X : Cx} {a b c : Expr} {ta tb tc : TE} {pos : Pos}
theorem sH (ha:PE X a ta) (hb:PE X b tb) {pins:List (Addr × Obj)}{s:Shared}{σ:St}{H:Hp}{R:V->V->Hp->Prop} (I:aA X pins σ H s)
  (h:ta σ H fun x H1=>tb σ H1 fun y H2=>R x y H2) {Q:Value->Shared->Prop}{f:Value->Value->Sem Value}
  (hf:∀ v u s2 x y H2,aA X pins σ H2 s2->aU x v->aU y u->R x y H2->wpAny (model X.prog X.w) X.A (f v u) Q X.xe s2) :
  wpAny (model X.prog X.w) X.A (eval a X.env) (fun v s₁=>wpAny (model X.prog X.w) X.A (eval b X.env) (fun u s₂=>wpAny (model X.prog X.w) X.A (f v u) Q X.xe s₂) X.xe s₁) X.xe s:=by
 refine aQ (ha pins s σ H _ I h) fun v s1 ⟨x,H1,I1,r1,q1⟩=>?_
 refine aQ (hb pins s1 σ H1 _ I1 q1) fun u s2 ⟨y,H2,I2,r2,q2⟩=>?_
 exact hf v u s2 x y H2 I2 r1 r2 q2
theorem ad0 {op:Operator}{r:R2} (ho:c9 X (binaryOp op) r) (ha:PE X a ta) (hb:PE X b tb):PE X (.BinOp a op b pos) (mW r ta tb):=by
 intro pins s σ H Q I h
 exact wpAny_BinOp (sH ha hb I h fun v u s2 x y H2 I2 rx ry q=>ho pins s2 σ H2 x y v u Q I2 rx ry q)
theorem ad1 {op:UnaryOp}{r:V->Hp->VK->Prop} (ho:sG X (unaryOp op) r) (ha:PE X a ta):PE X (.UnaryOp op a pos) (tUn r ta):=by
 intro pins s σ H Q I h
 exact UnaryOp_ (aQ (ha pins s σ H _ I h) fun v s1 ⟨x,H1,I1,r1,q1⟩=>ho pins s1 σ H1 x v Q I1 r1 q1)
theorem oK {f:Value->Value->Sem Value}{C:Int->Int->Prop}{g:Int->Int->Int}
  (rule:∀ (i j:Int) (t u:Tok) (s:Shared) (Q:Value->Shared->Prop) (E:Value->Shared->Prop),C i j->Q (.int (g i j) s.toks) { s with toks:=s.toks+1 }->wpAny (model X.prog X.w) X.A (f (.int i t) (.int j u)) Q E s) :
  c9 X f (rI C fun i j=>.int (g i j)):=by
 intro pins s σ H x y v u Q I rx ry h
 obtain ⟨i,j,rfl,rfl,hc,q⟩:=h
 obtain ⟨t,rfl⟩:=rx
 obtain ⟨t',rfl⟩:=ry
 exact rule i j t t' s _ _ hc ⟨.int (g i j),H,I.tok _,⟨_,rfl⟩,q⟩
theorem wU {f:Value->Value->Sem Value}{g:Int->Int->Int}
  (rule:∀ (i j:Int) (t u:Tok) (s:Shared) (Q:Value->Shared->Prop) (E:Value->Shared->Prop),Q (.int (g i j) s.toks) { s with toks:=s.toks+1 }->wpAny (model X.prog X.w) X.A (f (.int i t) (.int j u)) Q E s) :
  c9 X f (fX fun i j=>.int (g i j)):=by
 intro pins s σ H x y v u Q I rx ry h
 obtain ⟨i,j,rfl,rfl,q⟩:=h
 obtain ⟨t,rfl⟩:=rx
 obtain ⟨t',rfl⟩:=ry
 exact rule i j t t' s _ _ ⟨.int (g i j),H,I.tok _,⟨_,rfl⟩,q⟩
theorem oM {f:Value->Value->Sem Value}{g:Int->Int->Bool}
  (rule:∀ (i j:Int) (t u:Tok) (s:Shared) (Q:Value->Shared->Prop) (E:Value->Shared->Prop),Q (.bool (g i j)) s->wpAny (model X.prog X.w) X.A (f (.int i t) (.int j u)) Q E s) :
  c9 X f (fX fun i j=>.bl (g i j)):=by
 intro pins s σ H x y v u Q I rx ry h
 obtain ⟨i,j,rfl,rfl,q⟩:=h
 obtain ⟨t,rfl⟩:=rx
 obtain ⟨t',rfl⟩:=ry
 exact rule i j t t' s _ _ ⟨.bl (g i j),H,I,rfl,q⟩
def sJ (i j:Int):Prop:=0 < j/\j < 1073741824
def sL (i j:Int):Prop:=0<=j/\j<=1000000/\i.natAbs < 2 ^ 64
def mX (i j:Int):Prop:=(-(2 ^ 64) < i/\i < 2 ^ 64) ∨ (-(2 ^ 64) < j/\j < 2 ^ 64)
theorem mX.ok {i j:Int} (h:mX i j):IntMulOk i j:=by
 rcases h with ⟨h1,h2⟩ | ⟨h1,h2⟩
 ·exact .of_left (intBits_le_64 h1 h2)
 ·exact .of_right (intBits_le_64 h1 h2)
theorem ad2:c9 X (binaryOp .Add) (fX fun i j=>.int (i+j)):=wU fun _ _ _ _ _ _ _ q=>add_int q
theorem ad3:c9 X (binaryOp .Sub) (fX fun i j=>.int (i - j)):=wU fun _ _ _ _ _ _ _ q=>sub_int q
theorem ad4:c9 X (binaryOp .Mult) (rI mX fun i j=>.int (i * j)):=oK fun _ _ _ _ _ _ _ hc q=>mul_int q hc.ok
theorem ad5:c9 X (binaryOp .FloorDiv) (rI sJ fun i j=>.int (i / j)):=oK fun i j _ _ _ _ _ hc q=>by
 have h1:(0:Int) < j:=hc.1
 have h2:j < 1073741824:=hc.2
 exact floordiv_int (by omega) (by rw [Int.fdiv_eq_ediv_of_nonneg i (by omega)]; exact q) (.inl (PyProof.noPylong_small (by omega)))
theorem ad6:c9 X (binaryOp .Mod) (rI (fun _ j=>0 < j) fun i j=>.int (i % j)):=oK fun i j _ _ _ _ _ hc q=>by
 have h1:(0:Int) < j:=hc
 exact mod_int' (by omega) (by rw [Int.fmod_eq_emod_of_nonneg i (by omega)]; exact q)
theorem ad7:c9 X (binaryOp .Pow) (rI sL fun i j=>.int (i ^ j.toNat)):=oK fun _ _ _ _ _ _ _ hc q=>pow_int_small hc.1 hc.2.1 hc.2.2 q
theorem unI {f:Value->Sem Value}{g:Int->Int}
  (rule:∀ (i:Int) (t:Tok) (s:Shared) (Q:Value->Shared->Prop) (E:Value->Shared->Prop),Q (.int (g i) s.toks) { s with toks:=s.toks+1 }->wpAny (model X.prog X.w) X.A (f (.int i t)) Q E s) :
  sG X f (rU fun i=>.int (g i)):=by
 intro pins s σ H x v Q I rx h
 obtain ⟨i,rfl,q⟩:=h
 obtain ⟨t,rfl⟩:=rx
 exact rule i t s _ _ ⟨.int (g i),H,I.tok _,⟨_,rfl⟩,q⟩
theorem ad8:sG X (unaryOp .USub) (rU fun i=>.int (-i)):=unI fun _ _ _ _ _ q=>neg_int q
end
def wV:V->V->Bool
 | .non,.non=>true | .non,.int _=>true | .int _,.non=>true | .non,.bl _=>true | .bl _,.non=>true | .non,.str _=>true | .str _,.non=>true
 | .int _,.int _=>true | .bl _,.bl _=>true | .str _,.str _=>true | .byt _,.byt _=>true
 | .int _,.str _=>true | .str _,.int _=>true | .bl _,.str _=>true | .str _,.bl _=>true
 | _,_=>false
def wW:R2:=fun x y H Q=>wV x y=true/\Q (.bl (decide (x=y))) H
def wX:R2:=fun x y H Q=>wV x y=true/\Q (.bl (!decide (x=y))) H
theorem wY {i j:Int}:decide (V.int i=V.int j)=(i == j):=by
 rw [aX4]
 simp
theorem wZ {i j:Bool}:decide (V.bl i=V.bl j)=(i == j):=by
 rw [aX4]
 simp
theorem x3 {i j:Str}:decide (V.str i=V.str j)=(i == j):=by
 rw [aX4]
 simp
theorem x4 {i j:Array UInt8}:decide (V.byt i=V.byt j)=(i.toList == j.toList):=by
 rw [aX4]
 cases i
 cases j
 simp
section
variable {X : Cx} {a b c : Expr} {ta tb tc : TE} {pos : Pos}
theorem bP {pins:List (Addr × Obj)}{σ:St}{H:Hp}{s:Shared}{Q:VK}{k k':Bool} (I:aA X pins σ H s) (q:Q (.bl k) H) (e:k=k'):EP X pins σ Q (.bool k') s:=by
 subst e
 exact⟨.bl k,H,I,rfl,q⟩
theorem x5:c9 X (compareOp .Eq) wW:=by
 intro pins s σ H x y v u Q I rx ry h
 obtain ⟨hs,q⟩:=h
 cases x with
 | non=>
  cases rx
  cases y with
  | non=>cases ry; exact PySem.EqNone.eq_none_none (bP I q (by simp))
  | bl j=>cases ry; exact PySem.EqNone.eq_none_bool (bP I q (by simp))
  | int j=>obtain ⟨t',rfl⟩:=ry; exact PySem.EqNone.eq_none_int (bP I q (by simp))
  | str j=>obtain ⟨t',rfl⟩:=ry; exact PySem.EqNone.eq_none_str (bP I q (by simp))
  | _=>exact absurd (show false=true from hs) aT5
 | bl i=>
  cases rx
  cases y with
  | non=>cases ry; exact PySem.EqNone.eq_bool_none (bP I q (by simp))
  | bl j=>cases ry; exact eq_bool (bP I q wZ)
  | str j=>obtain ⟨t',rfl⟩:=ry; exact PySem.EqMixed.eq_bool_str (bP I q (by simp))
  | _=>exact absurd (show false=true from hs) aT5
 | int i=>
  obtain ⟨t,rfl⟩:=rx
  cases y with
  | non=>cases ry; exact PySem.EqNone.eq_int_none (bP I q (by simp))
  | int j=>obtain ⟨t',rfl⟩:=ry; exact eq_int (bP I q wY)
  | str j=>obtain ⟨t',rfl⟩:=ry; exact PySem.EqMixed.eq_int_str (bP I q (by simp))
  | _=>exact absurd (show false=true from hs) aT5
 | str i=>
  obtain ⟨t,rfl⟩:=rx
  cases y with
  | non=>cases ry; exact PySem.EqNone.eq_str_none (bP I q (by simp))
  | bl j=>cases ry; exact PySem.EqMixed.eq_str_bool (bP I q (by simp))
  | int j=>obtain ⟨t',rfl⟩:=ry; exact PySem.EqMixed.eq_str_int (bP I q (by simp))
  | str j=>obtain ⟨t',rfl⟩:=ry; exact eq_str (bP I q x3)
  | _=>exact absurd (show false=true from hs) aT5
 | byt i=>
  obtain ⟨t,rfl⟩:=rx
  cases y with
  | byt j=>obtain ⟨t',rfl⟩:=ry; exact PySem.W.eq_bytes (bP I q x4)
  | _=>exact absurd (show false=true from hs) aT5
 | _=>cases y <;> exact absurd (show false=true from hs) aT5
theorem ad9:c9 X (compareOp .NotEq) wX:=by
 intro pins s σ H x y v u Q I rx ry h
 obtain ⟨hs,q⟩:=h
 cases x with
 | non=>
  cases rx
  cases y with
  | non=>cases ry; exact PySem.EqNone.ne_none_none (bP I q (by simp))
  | bl j=>cases ry; exact PySem.EqNone.ne_none_bool (bP I q (by simp))
  | int j=>obtain ⟨t',rfl⟩:=ry; exact PySem.EqNone.ne_none_int (bP I q (by simp))
  | str j=>obtain ⟨t',rfl⟩:=ry; exact PySem.EqNone.ne_none_str (bP I q (by simp))
  | _=>exact absurd (show false=true from hs) aT5
 | bl i=>
  cases rx
  cases y with
  | non=>cases ry; exact PySem.EqNone.ne_bool_none (bP I q (by simp))
  | bl j=>cases ry; exact ne_bool (bP I q (congrArg not wZ))
  | str j=>obtain ⟨t',rfl⟩:=ry; exact PySem.EqMixed.ne_bool_str (bP I q (by simp))
  | _=>exact absurd (show false=true from hs) aT5
 | int i=>
  obtain ⟨t,rfl⟩:=rx
  cases y with
  | non=>cases ry; exact PySem.EqNone.ne_int_none (bP I q (by simp))
  | int j=>obtain ⟨t',rfl⟩:=ry; exact ne_int (bP I q (congrArg not wY))
  | str j=>obtain ⟨t',rfl⟩:=ry; exact PySem.EqMixed.ne_int_str (bP I q (by simp))
  | _=>exact absurd (show false=true from hs) aT5
 | str i=>
  obtain ⟨t,rfl⟩:=rx
  cases y with
  | non=>cases ry; exact PySem.EqNone.ne_str_none (bP I q (by simp))
  | bl j=>cases ry; exact PySem.EqMixed.ne_str_bool (bP I q (by simp))
  | int j=>obtain ⟨t',rfl⟩:=ry; exact PySem.EqMixed.ne_str_int (bP I q (by simp))
  | str j=>obtain ⟨t',rfl⟩:=ry; exact ne_str (bP I q (congrArg not x3))
  | _=>exact absurd (show false=true from hs) aT5
 | byt i=>
  obtain ⟨t,rfl⟩:=rx
  cases y with
  | byt j=>obtain ⟨t',rfl⟩:=ry; exact PySem.W.ne_bytes (bP I q (congrArg not x4))
  | _=>exact absurd (show false=true from hs) aT5
 | _=>cases y <;> exact absurd (show false=true from hs) aT5
theorem oN:c9 X (compareOp .Lt) (fX fun i j=>.bl (decide (i < j))):=oM fun _ _ _ _ _ _ _ q=>lt_int q
theorem oO:c9 X (compareOp .LtE) (fX fun i j=>.bl (decide (i<=j))):=oM fun _ _ _ _ _ _ _ q=>le_int q
theorem ae0:c9 X (compareOp .Gt) (fX fun i j=>.bl (decide (j < i))):=oM fun _ _ _ _ _ _ _ q=>gt_int q
theorem x6:c9 X (compareOp .GtE) (fX fun i j=>.bl (decide (j<=i))):=oM fun _ _ _ _ _ _ _ q=>ge_int q
theorem ae1:c9 X (compareOp .IsNot) (fun x y H Q=>y = .non/\Q (.bl (!decide (x = .non))) H):=by
 intro pins s σ H x y v u Q I rx ry h
 obtain ⟨rfl,q⟩:=h
 cases ry
 refine isnot_none_gen (bP I q ?_)
 cases x <;> first
  | (cases rx; rfl)
  | (obtain ⟨t,rfl⟩:=rx; rfl)
theorem fD (b:Expr) {op:CmpOp} (h:op ≠ .In:=by decide) (h2:op ≠ .NotIn:=by decide):behindInMarks op b=false:=by
 have e1:(op == CmpOp.In)=false:=by cases op <;> first | rfl | exact absurd rfl h
 have e2:(op == CmpOp.NotIn)=false:=by cases op <;> first | rfl | exact absurd rfl h2
 cases b <;> simp [behindInMarks,e1,e2]
theorem ae2 {op:CmpOp}{r:R2} (ho:c9 X (compareOp op) r) (ha:PE X a ta) (hb:PE X b tb) (hm:behindInMarks op b=false):PE X (.Compare a [op] [b] pos) (mW r ta tb):=by
 intro pins s σ H Q I h
 exact wpAny_Compare1 (sH ha hb I h fun v u s2 x y H2 I2 rx ry q=>ho pins s2 σ H2 x y v u Q I2 rx ry q) hm
def x8 (t:TE):TT:=fun σ H Q=>t σ H fun x H'=>∃ k,x = .bl k/\Q k H'
theorem ae3 {op:CmpOp}{r:R2} (ho:c9 X (compareOp op) r) (ha:PE X a ta) (hb:PE X b tb) (hm:behindInMarks op b=false):PT X (.Compare a [op] [b] pos) (x8 (mW r ta tb)):=by
 intro pins s σ H Q I h
 refine wpAny_isTrue_Compare1 (aQ (ha pins s σ H _ I h) fun v s1 ⟨x,H1,I1,r1,q1⟩=>aQ (hb pins s1 σ H1 _ I1 q1) fun u s2 ⟨y,H2,I2,r2,q2⟩=>
  aQ (ho pins s2 σ H2 x y v u _ I2 r1 r2 q2) fun c s3 ⟨z,H3,I3,r3,k,e,q3⟩=>?_) hm
 subst e
 cases r3
 exact bb7 ⟨H3,I3,q3⟩
def x9 (r r':R2) (ta tb tc:TE):TE:=fun σ H Q=>ta σ H fun x H1=>tb σ H1 fun y H2=>r x y H2 fun z H3=>∃ k,z = .bl k/\
 (if k=true then tc σ H3 fun w' H4=>r' y w' H4 Q else Q (.bl false) H3)
theorem xA {op op':CmpOp}{r r':R2} (ho:c9 X (compareOp op) r) (ho':c9 X (compareOp op') r') (ha:PE X a ta) (hb:PE X b tb) (hc:PE X c tc)
  (hm:lastMarks [op,op'] [b,c]=false:=by with_unfolding_all rfl):PT X (.Compare a [op,op'] [b,c] pos) (x8 (x9 r r' ta tb tc)):=by
 intro pins s σ H Q I h
 refine isTrue_chain (aQ (ha pins s σ H _ I h) fun v s1 ⟨x,H1,I1,r1,q1⟩=>test_link (aQ (hb pins s1 σ H1 _ I1 q1) fun u s2 ⟨y,H2,I2,r2,q2⟩=>
  aQ (ho pins s2 σ H2 x y v u _ I2 r1 r2 q2) fun d s3 ⟨z,H3,I3,r3,k,e,q3⟩=>?_)) hm
 subst e
 cases r3
 refine bb7 ?_
 cases k with
 | false=>
  obtain ⟨k',e',q'⟩:=q3
  cases e'
  exact ite_ff ⟨H3,I3,q'⟩
 | true=>
  refine ite_tt (test_last (aQ (hc pins s3 σ H3 _ I3 q3) fun w' s4 ⟨z',H4,I4,r4,q4⟩=>aQ (ho' pins s4 σ H4 y z' u w' _ I4 r2 r4 q4) fun d' s5 ⟨z2,H5,I5,r5,k2,e2,q5⟩=>?_))
  subst e2
  cases r5
  exact bb7 ⟨H5,I5,q5⟩
theorem oP:(sizeLine:Nat) < 2 ^ 63:=by rw [sizeLine_eq]; decide
theorem jH {x:V}{us:List Value} (r:aR [x] us):∃ u,us = [u]/\aU x u:=by
 cases r with
 | cons r1 r2=>cases r2; exact⟨_,rfl,r1⟩
theorem kD {x y:V}{us:List Value} (r:aR [x,y] us):∃ u w',us = [u,w']/\aU x u/\aU y w':=by
 cases r with
 | cons r1 r2=>
  cases r2 with
  | cons r3 r4=>cases r4; exact⟨_,_,rfl,r1,r3⟩
theorem ae4 (hc:X.calm=true):dC X (.builtin "max") (fun xs H Q=>∃ i j,xs = [.int i,.int j]/\Q (.int (if j > i then j else i)) H):=by
 intro pins s σ H xs us Q I r h
 obtain ⟨i,j,rfl,q⟩:=h
 obtain ⟨u,w',rfl,⟨t,rfl⟩,⟨t',rfl⟩⟩:=kD r
 refine max_two_ints (I.ok.hd hc) fun h' tk k=>⟨_,H,I.kept k,?_,q⟩
 by_cases hj:j > i
 ·rw [if_pos hj,if_pos hj]; exact⟨_,rfl⟩
 ·rw [if_neg hj,if_neg hj]; exact⟨_,rfl⟩
theorem ae5 (hc:X.calm=true):dC X (.builtin "min") (fun xs H Q=>∃ i j,xs = [.int i,.int j]/\Q (.int (if j < i then j else i)) H):=by
 intro pins s σ H xs us Q I r h
 obtain ⟨i,j,rfl,q⟩:=h
 obtain ⟨u,w',rfl,⟨t,rfl⟩,⟨t',rfl⟩⟩:=kD r
 refine min_two_ints (I.ok.hd hc) fun h' tk k=>⟨_,H,I.kept k,?_,q⟩
 by_cases hj:j < i
 ·rw [if_pos hj,if_pos hj]; exact⟨_,rfl⟩
 ·rw [if_neg hj,if_neg hj]; exact⟨_,rfl⟩
end
structure sM (h:Heap) (x dx C:Addr) (mA:Str->Option Value):Prop where
 obj:h.get? x=some (PySem.W.instObj C dx)
 ns:h.Ns1 dx mA
 ne:dx ≠ x
theorem ae6 {h:Heap}{dx:Addr}{mA:Str->Option Value} (n:h.Ns1 dx mA):∃ od,h.get? dx=some od/\∀ name,PySem.W.lookIn name od=some (mA name):=by
 obtain ⟨o,es,ep,ho,hd,hk,_,hm⟩:=n
 refine⟨o,ho,fun name=>?_⟩
 have e:=hm name
 unfold nsFind findBy at e
 rw [<- Array.find?_toList] at e
 unfold PySem.W.lookIn
 rw [hd]
 dsimp only
 split
 ·rename_i y q
  rw [q] at e
  exact congrArg some e
 ·rename_i q
  rw [q] at e
  have a:es.toList.any (·.refKey)=false:=by
   rw [List.any_eq_false]
   intro y hy
   obtain ⟨z,t,hkey⟩:=hk y (Array.mem_toList_iff.mp hy)
   simp [DictEntry.refKey,hkey]
  have a' : ¬ es.toList.any (·.refKey)=true:=by rw [a]; exact aT5
  rw [if_neg a']
  exact congrArg some e
theorem sM.look {h:Heap}{x dx C:Addr}{mA:Str->Option Value} (I:sM h x dx C mA):∃ od,PySem.W.InstAt h x (PySem.W.instObj C dx) C (some od)/\∀ name,PySem.W.lookIn name od=some (mA name):=
 let ⟨od,ho,hl⟩:=ae6 I.ns
 ⟨od,⟨I.obj,rfl,rfl,ho⟩,hl⟩
theorem fU.some_of {v:V}{o:Option Value} (r:fU (some v) o):∃ u,o=some u/\aU v u:=by
 cases o with
 | none=>exact (show False from r).elim
 | some u=>exact⟨u,rfl,r⟩
section
variable {P : Program} {w : World} {H H' : Hp} {h h' : Heap} {a C dx : Addr} {fs fs' : List (Str × V)}
theorem ae7 (hok:bO P w H h) (e:H a=some (.ins C dx fs)):∃ mA,sM h a dx C mA/\(∀ f,fU (fs.lookup f) (mA f))/\PySem.Within mA (fs.map (·.1))/\fs.length<=1000/\H dx=some (.own a):=by
 obtain ⟨d,z,ne,ob,mA,n,r,q⟩:=(show bW P w H h a (.ins C dx fs) from hok a _ e)
 exact⟨mA,⟨ob,n,ne⟩,r,q,z,d⟩
end
structure sN (K:PySem.W.Frag) (C:Addr):Prop where
 pg:PySem.W.plainGet K C Str.empty=true
 hd:PySem.W.hasDictIn K C=true
 po:PySem.W.plainOver K C=true
 sa:PySem.W.findIn K (.ref C) "__setattr__" = some (some (.builtin "object.__setattr__"))
theorem sN.get {K:PySem.W.Frag}{C:Addr} (c:sN K C) (f:Str):PySem.W.plainGet K C f=true:=c.pg
section
variable {X : Cx} {pins : List (Addr × Obj)} {σ : St} {H : Hp} {s : Shared} {A : Around} {E : Value → Shared → Prop} {Q : Value → Shared → Prop} {c : Value} {b : Bool}
inductive fE (K:PySem.W.Frag) (H:Hp):V->Value->Prop where
 | non:fE K H .non (.type "NoneType")
 | bl (x:Bool):fE K H (.bl x) (.type "bool")
 | int (i:Int):fE K H (.int i) (.type "int")
 | str (x:Str):fE K H (.str x) (.type "str")
 | flt (x:UInt64):fE K H (.flt x) (.type "float")
 | lst {a:Addr}{xs:List V} (e:H a=some (.lst xs)):fE K H (.ref a) (.type "list")
 | frz {a:Addr}{o:Obj}{xs:List V} (e:H a=some (.frz o (.lst xs))):fE K H (.ref a) (.type "list")
 | tup {a:Addr}{xs:List V} (e:H a=some (.tup xs)):fE K H (.ref a) (.type "tuple")
 | dK {a:Addr}{kvs:List (aJ × V)} (e:H a=some (.dK kvs)):fE K H (.ref a) (.type "dict")
 | dT {a:Addr}{kvs:List (List aJ × V)} (e:H a=some (.dT kvs)):fE K H (.ref a) (.type "dict")
 | ins {a C dx:Addr}{fs:List (Str × V)} (e:H a=some (.ins C dx fs)) (cl:sN K C) (ha:PySem.W.findIn K (.ref C) "__class__" = some (some (.builtin "object.__class__")))
   (hn:PySem.W.specialIn K (.builtin "object.__class__") "__get__" = some (some (.builtin "getset_descriptor.__get__"))) (htk:PySem.W.takesIn K (.builtin "object.__class__")=some true)
   (hm:PySem.W.mroIn K C (.type "object")=some true):fE K H (.ref a) (.ref C)
theorem ae8 {x:V}{u t:Value} (I:aA X pins σ H s) (rx:aU x u) (ty:fE X.K H x t) (e:PySem.W.kitOne X.K t c=some b) (h:∀ tk,Q (.bool b) { s with toks:=tk }) :
  wpAny (model X.prog X.w) A (call (.builtin "isinstance") [u,c]) Q E s:=by
 cases ty with
 | non=>cases (show u=Value.none from rx); exact aZ6 PySem.W.kitx_none I.kIn bh3 e (fun z=>nomatch z) h
 | bl y=>cases (show u=Value.bool y from rx); exact aZ6 PySem.W.kitx_bool I.kIn bh3 e (fun z=>nomatch z) h
 | int i=>obtain ⟨t,q⟩:=(show ∃ t,u=Value.int i t from rx); cases q; exact aZ6 PySem.W.kitx_int I.kIn bh3 e (fun z=>nomatch z) h
 | str y=>obtain ⟨t,q⟩:=(show ∃ t,u=Value.str y t from rx); cases q; exact aZ6 PySem.W.kitx_str I.kIn bh3 e (fun z=>nomatch z) h
 | flt y=>obtain ⟨t,q⟩:=(show ∃ t,u=Value.float y t from rx); cases q; exact aZ6 PySem.W.kitx_float I.kIn bh3 e (fun z=>nomatch z) h
 | @lst a xs ea=>
  cases (show u=Value.ref a from rx)
  obtain ⟨_,_,n,_,h1⟩:=(show bW X.prog X.w H s.heap a (.lst xs) from I.hok a _ ea)
  exact aZ6 PySem.W.kitx_list I.kIn ⟨_,h1,rfl⟩ e (fun z=>nomatch z) h
 | @frz a ob xs ea=>
  cases (show u=Value.ref a from rx)
  obtain ⟨_,_,_,n,_,h1⟩:=(show bW X.prog X.w H s.heap a (.frz ob (.lst xs)) from I.hok a _ ea)
  exact aZ6 PySem.W.kitx_list I.kIn ⟨_,h1,rfl⟩ e (fun z=>nomatch z) h
 | @tup a xs ea=>
  cases (show u=Value.ref a from rx)
  obtain ⟨_,_,_,p,_⟩:=(show bW X.prog X.w H s.heap a (.tup xs) from I.hok a _ ea)
  obtain ⟨o,h1,h2,_⟩:=p
  exact aZ6 PySem.W.kitx_tuple I.kIn ⟨o,h1,h2⟩ e (fun z=>nomatch z) h
 | @dK a kvs ea=>
  cases (show u=Value.ref a from rx)
  obtain ⟨_,_,vs,_,p⟩:=(show bW X.prog X.w H s.heap a (.dK kvs) from I.hok a _ ea)
  obtain ⟨o,es,ep,h1,h2,_⟩:=p
  exact aZ6 PySem.W.kitx_dict I.kIn ⟨o,h1,h2.1⟩ e (fun z=>nomatch z) h
 | @dT a kvs ea=>
  cases (show u=Value.ref a from rx)
  obtain ⟨_,_,xs,_,o,es,ep,h1,h2,_⟩:=(show bW X.prog X.w H s.heap a (.dT kvs) from I.hok a _ ea)
  exact aZ6 PySem.W.kitx_dict I.kIn ⟨o,h1,h2.1⟩ e (fun z=>nomatch z) h
 | @ins a C dx fs ea cl ha hn htk hm=>
  cases (show u=Value.ref a from rx)
  obtain ⟨mA,O,_⟩:=ae7 I.hok ea
  obtain ⟨od,J,_⟩:=O.look
  exact aZ6 (PySem.W.kitx_own (cl.get _) cl.hd ha hn htk hm) I.kIn J e (fun z=>nomatch z) h
end
structure cD (k:Nat) (A:Around):Prop where
 hd:A.handled=none
 dp:A.depth+3 * k+5 < recursionLimit
 un:A.units+16 * k+200 < cLine
theorem cD.mono {j k:Nat}{A:Around} (r:cD k A) (h:j<=k):cD j A:=⟨r.hd,by have:=r.dp; omega,by have:=r.un; omega⟩
theorem cD.deeper {k:Nat}{A:Around} (r:cD (k+1) A) (env:Env):cD k (A.deeper env):=
 ⟨r.hd,by have:=r.dp; show A.depth+1+3 * k+5 < _; omega,by have:=r.un; show A.units+3+16 * k+200 < _; omega⟩
theorem cD.depth {k:Nat}{A:Around} (r:cD k A):A.depth < recursionLimit:=by have:=r.dp; omega
theorem cD.units {k:Nat}{A:Around} (r:cD k A):A.units+64 < cLine:=by have:=r.un; omega
def kE:TA:=fun _ H Q=>Q [] H
def jI (ta:TE) (tr:TA):TA:=fun σ H Q=>ta σ H fun x H1=>tr σ H1 fun xs H2=>Q (x :: xs) H2
section
variable {X : Cx} {e : Expr} {es : List Expr} {te : TE} {t : TA} {pos : Pos}
theorem kF:PA X [] kE:=fun _ _ _ _ H Q I h=>Calls.spliced_nil ⟨[],H,I,.nil,h⟩
theorem iK (ha:PE X e te) (hr:PA X es t) (hs:starEach (e :: es) X.env=(false,eval e X.env) :: starEach es X.env:=by rfl):PA X (e :: es) (jI te t):=by
 intro pos pins s σ H Q I h
 rw [hs]
 show wpAny _ _ (spliced ((false,eval e X.env) :: backTo pos (starEach es X.env))) _ _ s
 refine Calls.spliced_cons (aQ (ha pins s σ H _ I h) fun u s1 ⟨x,H1,I1,r1,q1⟩=>?_)
 exact aQ (hr pos pins s1 σ H1 _ I1 q1) fun us s2 ⟨xs,H2,I2,r2,q2⟩=>⟨x :: xs,H2,I2,.cons r1 r2,q2⟩
def xB (t:TA):TE:=fun σ H Q=>t σ H fun xs H1=>xs.length<=sizeLine/\∀ p,H1 p=none->Q (.ref p) (upd H1 p (.tup xs))
def xC (t:TA):TE:=fun σ H Q=>t σ H fun xs H1=>xs.length<=sizeLine/\∀ p,H1 p=none->Q (.ref p) (upd H1 p (.lst xs))
theorem ae9 {x1} (h:PA X es t):PE X (.Tuple es x1 pos) (xB t):=by
 intro pins s σ H Q I hq
 refine wpAny_Tuple_spliced (aQ (h pos pins s σ H _ I hq) fun us s1 ⟨xs,H1,I1,r,z,q⟩=>⟨by rw [<- r.length]; exact z,?_⟩)
 have hf:H1 s1.heap.objs.size=none:=I1.hok.fresh (aS4 _)
 refine⟨.ref s1.heap.objs.size,upd H1 s1.heap.objs.size (.tup xs),I1.laid (t':=s1.toks) (fun b u e=>aR1 _ e) (aS4 _) ?_,rfl,q _ hf⟩
 exact⟨z,us,r,⟨_,aS7 _ rfl,rfl,_,rfl⟩,iH.new _ _ rfl⟩
theorem af0 (h:PA X es t):PE X (.List es pos) (xC t):=by
 intro pins s σ H Q I hq
 refine wpAny_List_spliced (aQ (h pos pins s σ H _ I hq) fun us s1 ⟨xs,H1,I1,r,z,q⟩=>⟨by rw [<- r.length]; exact z,?_⟩)
 have hf:H1 s1.heap.objs.size=none:=I1.hok.fresh (aS4 _)
 refine⟨.ref s1.heap.objs.size,upd H1 s1.heap.objs.size (.lst xs),I1.laid (t':=s1.toks) (fun b u e=>aR1 _ e) (aS4 _) ?_,rfl,q _ hf⟩
 exact⟨z,us,0,r,aS7 _ rfl⟩
end
abbrev Sp:=List V->Hp->VK->XK->Prop
abbrev gG:=List Env->Hp->Shared->XK->Value->Shared->Prop
structure oQ (P:Program) (w:World) (K:PySem.W.Frag) (mg:Str->Option Value) (base:Heap) (A:Around) (outer:List Env) (s:Shared) (H:Hp):Prop where
 frames:A.frames=some outer
 mod:Mod K mg base
 bs:∀ b o,base.get? b=some o->s.heap.get? b=some o/\H b=none
 bsz:base.objs.size<=s.heap.objs.size
 funs:s.heap.FunFrames base outer
 frf:∀ b ∈ bX outer,H b=none
 hok:bO P w H s.heap
 bare:AllBare s.gens
def CE (outer:List Env) (P:Program) (w:World) (H:Hp) (s:Shared) (Q:VK) (u:Value) (s':Shared):Prop:=
 ∃ v H',s'.os=s.os/\AllBare s'.gens/\Un (bX outer) [] H H' s.heap s'.heap/\bO P w H' s'.heap/\aU v u/\Q v H'
def CR (CX:gG) (outer:List Env) (P:Program) (w:World) (H:Hp) (s:Shared) (Q:VK) (E:XK) (r:Result) (s':Shared):Prop:=
 match r with
 | .ok (.ret u)=>CE outer P w H s Q u s'
 | .ok _=>False
 | .error e=>CX outer H s E e s'
structure dO (P:Program) (w:World) (K:PySem.W.Frag) (mg:Str->Option Value) (base:Heap) (CX:gG) (k:Nat) (f:Addr) (fd:FuncData) (ps:List Str) (sp:Sp):Prop where
 len:∀ vs H Q E,sp vs H Q E->vs.length=ps.length
 run:∀ (A:Around) (outer:List Env) (s:Shared) (H:Hp) (args:Args) (us:List Value) (vs:List V) (Q:VK) (E:XK),cD k A->oQ P w K mg base A outer s H->BindsTo s fd args (ps.zip us)->aR vs us->sp vs H Q E->
  codeAny (model P w) A (.call (.ref f) args) (CR CX outer P w H s Q E) s
theorem dO.imp {P:Program}{w:World}{K:PySem.W.Frag}{mg:Str->Option Value}{base:Heap}{CX:gG}{k:Nat}{f:Addr}{fd:FuncData}{ps:List Str}{sp sp':Sp} (F:dO P w K mg base CX k f fd ps sp)
  (h:∀ vs H Q E,sp' vs H Q E->sp vs H Q E):dO P w K mg base CX k f fd ps sp':=
 ⟨fun vs H Q E q=>F.len vs H Q E (h _ _ _ _ q),fun A outer s H args us vs Q E hr he hb hv hs=>F.run A outer s H args us vs Q E hr he hb hv (h _ _ _ _ hs)⟩
section
variable {X : Cx} {pins : List (Addr × Obj)} {σ : St} {H : Hp} {s s' : Shared}
theorem aA.env0 (I:aA X pins σ H s):oQ X.prog X.w X.K X.mg X.base X.A X.stack s H:=
 ⟨I.ok.frames,I.ok.mod,I.bs,aU9 I.ok.bsz I.sz,I.stack,I.stkFree,I.hok,I.bare⟩
theorem aA.after {Q:VK}{u:Value} (I:aA X pins σ H s) (h:CE X.stack X.prog X.w H s Q u s'):EP X pins σ Q u s':=by
 obtain ⟨v,H',os,bare,un,hok,r,q⟩:=h
 obtain ⟨hh,g,d,t,os'⟩:=s'
 obtain rfl:os'=s.os:=os
 exact⟨v,H',I.call (h':=hh) (g':=g) (d':=d) (t':=t) (ch:=[]) un hok bare (fun b z=>absurd z (by simp)),r,q⟩
end
def sO (sp:Sp) (dvs:List V) (E:XK) (t:TA):TE:=fun σ H Q=>t σ H fun vs H1=>sp (vs ++ dvs) H1 Q E
def jJ (K:PySem.W.Frag) (fd:FuncData) (ps:List Str) (ds:List Value):Prop:=
 ∀ (s:Shared) (us:List Value),K.In s.heap->(us ++ ds).length=ps.length->BindsTo s fd ⟨us,[]⟩ (ps.zip (us ++ ds))
theorem jJ.all {K:PySem.W.Frag}{fd:FuncData}{ps:List Str} (h:∀ us:List Value,us.length=ps.length->bindArgs fd ⟨us,[]⟩=pure (ps.zip us)):jJ K fd ps []:=fun s us _ hl=>by
 rw [aW2] at hl ⊢
 exact .of_eq (h us hl)
def mY (CX:gG) (X:Cx) (E:XK):Prop:=∀ (pins:List (Addr × Obj)) (σ:St) (H:Hp) (s:Shared) (e:Value) (s':Shared),aA X pins σ H s->CX X.stack H s E e s'->X.xe e s'
section
variable {X : Cx} {CX : gG} {k : Nat} {f C : Addr} {fd : FuncData} {ps : List Str} {sp : Sp} {dvs : List V} {ds : List Value} {E : XK} {x m : Str} {p pos apos : Pos} {e o : Expr} {es : List Expr} {ta : TE} {t : TA}
theorem af1 {pins:List (Addr × Obj)}{σ:St}{H:Hp}{s:Shared}{Q:VK}{us:List Value}{vs:List V} (F:dO X.prog X.w X.K X.mg X.base CX k f fd ps sp) (hr:cD k X.A) (hb:jJ X.K fd ps ds) (hd:aR dvs ds) (hx:mY CX X E)
  (I:aA X pins σ H s) (r:aR vs us) (h:sp (vs ++ dvs) H Q E):wpAny (model X.prog X.w) X.A (call (.ref f) us) (EP X pins σ Q) X.xe s:=by
 have r2:aR (vs ++ dvs) (us ++ ds):=r.append hd
 have hl:(us ++ ds).length=ps.length:=by rw [<- r2.length]; exact F.len _ _ _ _ h
 refine wpAny_call (codeAny_mono (F.run X.A X.stack s H ⟨us,[]⟩ (us ++ ds) (vs ++ dvs) Q E hr I.env0 (hb s us I.kIn hl) r2 h) fun r s' hq=>?_)
 cases r with
 | error e=>exact hx pins σ H s e s' I hq
 | ok fl=>
  cases fl with
  | ret u=>exact I.after hq
  | next=>exact False.elim hq
  | brk=>exact False.elim hq
  | cont=>exact False.elim hq
theorem sP (F:dO X.prog X.w X.K X.mg X.base CX k f fd ps sp) (hr:cD k X.A) (hg:Gl X x) (hm:X.mg x=some (.ref f)) (hk:PySem.W.keepIn X.K (.ref f)=true) (hb:jJ X.K fd ps ds) (hd:aR dvs ds) (hx:mY CX X E)
  (ha:PA X (e :: es) t) (hdb:(x == ("__debug__" : Str))=false:=by decide) (he:starEach (e :: es) X.env=(false,eval e X.env) :: starEach es X.env:=by rfl) (hpl:(backTo pos (starEach es X.env)).any (·.1)=false:=by rfl) :
  PE X (.Call (.Name x p) (e :: es) [] pos) (sO sp dvs E t):=by
 intro pins s σ H Q I h
 refine wpAny_Call_Name_kw (sA I hg hm ?_ hdb)
 refine PySem.W.callWith_K (h₀:=X.base) I.ok.mod.kin hk (aQ (ha pos pins s σ H _ I h) fun us s1 ⟨vs,H1,I1,r,q⟩=>⟨I1.kIn,?_⟩) he hpl
 exact af1 F hr hb hd hx I1 r q
end
def PK (X:Cx) (kws:List Keyword) (t:TA):Prop:=
 ∀ (pos:Pos) (pins:List (Addr × Obj)) (s:Shared) (σ:St) (H:Hp) (Q:List V->Hp->Prop),aA X pins σ H s->t σ H Q->wpAny (model X.prog X.w) X.A (evalAll ((backToKw pos (keywordEach kws X.env)).map (·.2))) (AP X pins σ Q) X.xe s
structure FnScope (N P:List Str) (sc:Scope):Prop where
 kind:sc.kind = .function
 co:sc.isCoroutine=false
 gen:sc.isGenerator=false
 nd:N.Nodup
 pre:N.take P.length=P
 par:∀ x ∈ P,sc.names.lookup x=some .local ∨ sc.names.lookup x=some .cell
 nofree:∀ y ∈ sc.names,y.2 ≠ .free
theorem xD {kindOf:Str->Option NameKind}{x:Str}:∀ {binds:List (Str × Value)}{m:Str->Option Value},(∀ v,(x,v) ∉ binds)->bindL kindOf binds m x=m x
 | [],_,_=>rfl
 | (n,v) :: r,m,h=>by
  unfold bindL
  rw [xD fun w hw=>h w (aS2 _ hw)]
  split
  ·have:x ≠ n:=by rintro rfl; exact h v aS6
   simp [this]
  ·rfl
theorem xE {kindOf:Str->Option NameKind}{x:Str}:∀ {binds:List (Str × Value)}{m:Str->Option Value},(∀ v,(x,v) ∉ binds)->bindC kindOf binds m x=m x
 | [],_,_=>rfl
 | (n,v) :: r,m,h=>by
  unfold bindC
  rw [xE fun w hw=>h w (aS2 _ hw)]
  split
  ·rfl
  ·have:x ≠ n:=by rintro rfl; exact h v aS6
   simp [this]
theorem xF {kindOf:Str->Option NameKind}{x:Str}{v:Value}:∀ {P:List Str}{vs:List Value}{i:Nat}{m:Str->Option Value},P.Nodup->P[i]? = some x->vs[i]? = some v->kindOf x=some .local->
  bindL kindOf (P.zip vs) m x=some v
 | [],_,_,_,_,h,_,_=>by simp at h
 | _ :: _,[],_,_,_,_,h,_=>by simp at h
 | p :: P,w :: vs,0,m,nd,h1,h2,hk=>by
  simp at h1 h2; subst h1; subst h2
  show bindL kindOf ((p,w) :: P.zip vs) m p=_
  unfold bindL
  rw [xD fun v hv=>(bc0.mp nd).1 (List.of_mem_zip hv).1,if_pos hk]
  simp
 | p :: P,w :: vs,i+1,m,nd,h1,h2,hk=>by
  show bindL kindOf ((p,w) :: P.zip vs) m x=_
  unfold bindL
  exact xF (i:=i) (bc0.mp nd).2 (by simpa using h1) (by simpa using h2) hk
theorem xG {kindOf:Str->Option NameKind}{x:Str}{v:Value}:∀ {P:List Str}{vs:List Value}{i:Nat}{m:Str->Option Value},P.Nodup->P[i]? = some x->vs[i]? = some v->kindOf x ≠ some .local->
  bindC kindOf (P.zip vs) m x=some v
 | [],_,_,_,_,h,_,_=>by simp at h
 | _ :: _,[],_,_,_,_,h,_=>by simp at h
 | p :: P,w :: vs,0,m,nd,h1,h2,hk=>by
  simp at h1 h2; subst h1; subst h2
  show bindC kindOf ((p,w) :: P.zip vs) m p=_
  unfold bindC
  rw [xE fun v hv=>(bc0.mp nd).1 (List.of_mem_zip hv).1,if_neg hk]
  simp
 | p :: P,w :: vs,i+1,m,nd,h1,h2,hk=>by
  show bindC kindOf ((p,w) :: P.zip vs) m x=_
  unfold bindC
  exact xG (i:=i) (bc0.mp nd).2 (by simpa using h1) (by simpa using h2) hk
def gH (N:List Str) (vs:List V):St:=vs.map some ++ List.replicate (N.length - vs.length) none
def dF (CX:gG) (P:Program) (w:World) (K:PySem.W.Frag) (mg:Str->Option Value) (base:Heap) (N:List Str) (qual:Str) (scope:Scope) (f:Addr) (cd:Value) (A:Around) (outer:List Env) (s:Shared) (H:Hp) (E:XK):Cx where
 prog:=P
 w:=w
 K:=K
 mg:=mg
 base:=base
 A:=A.deeper (envOfC qual scope s.heap.objs.size f cd)
 N:=N
 s₀:=s
 H₀:=H
 env:=envOfC qual scope s.heap.objs.size f cd
 outer:=outer
 stack:=envOfC qual scope s.heap.objs.size f cd :: outer
 ex:=[]
 calm:=true
 fn:=fun _=>true
 pn:=[]
 xe:=fun e s'=>wpAny (model P w) (A.deeper (envOfC qual scope s.heap.objs.size f cd)) (leaving (envOfC qual scope s.heap.objs.size f cd) e) (fun _ s''=>CX outer H s E e s'') (fun e' s''=>CX outer H s E e' s'') s'
theorem xH {sc:Scope}{n:Nat}{x:Str} (h:sc.names.lookup x=some .cell):∃ c,(cellsFrom n sc.names []).lookup x=some c:=by
 have q:=PySem.W.cellsFrom_some sc.names n [] (.inl h)
 exact Option.isSome_iff_exists.mp q
theorem af2 {CX:gG}{P:Program}{w:World}{K:PySem.W.Frag}{mg:Str->Option Value}{base:Heap}{N ps:List Str}{qual:Str}{scope:Scope}{f:Addr}{cd:Value}{A:Around}{outer:List Env}{s s1:Shared}{H:Hp}{E:XK}{us:List Value}{vs:List V}
  (S:FnScope N ps scope) (hd:A.handled=none) (e0:oQ P w K mg base A outer s H) (hl:vs.length=ps.length) (r:aR vs us)
  (x:InCallC s s.heap.objs.size (bindL (envOfC qual scope s.heap.objs.size f cd).kindOf (ps.zip us) fun _=>none) (cellsFrom (s.heap.objs.size+1) scope.names []) (bindC (envOfC qual scope s.heap.objs.size f cd).kindOf (ps.zip us) fun _=>none) s1) :
  aA (dF CX P w K mg base N qual scope f cd A outer s H E) [] (gH N vs) H s1:=by
 have hpl:ps.length<=N.length:=by have:=congrArg List.length S.pre; rw [bd5] at this; omega
 obtain ⟨h1,tk,rfl,hk⟩:=x.done
 have noA:∀ b:Addr,b ∉ (dF CX P w K mg base N qual scope f cd A outer s H E).ex:=fun b z=>absurd (show b ∈ ([]:List Addr) from z) (by simp)
 refine⟨⟨e0.mod,S.kind,rfl,rfl,aS4 _,fun y z c h1 h2=>?_,fun y hy=>?_,fun y c _ h=>?_,fun _=>hd,Around.frames_deeper e0.frames,.inr ⟨rfl,rfl⟩,fun b z=>absurd z (noA b),e0.bs,e0.bsz,fun b _ _=>noA b,fun b z=>absurd z (noA b),e0.funs,e0.frf⟩,
  rfl,e0.bare,Un.kept hk,⟨_,x.toInCall.ns,fun i y v h1 h2 h3=>?_⟩,fun y c h=>⟨_,x.cell y c h⟩,e0.hok.fresh (aS4 _),fun y c h=>?_,fun p hp=>absurd (show p ∈ ([]:List (Addr × Obj)) from hp) (by simp),e0.hok.kept hk,?_⟩
 ·exact name_of_addr x.apart (aW6 h1) (aW6 h2)
 ·have hy:scope.names.lookup y=some .cell ∨ scope.names.lookup y=some .free:=hy
  rcases hy with hy | hy
  ·exact xH hy
  ·exact absurd rfl (S.nofree _ (aW6 hy))
 ·exact bd8 (x.above y c (aW6 h))
 ·have hi:i < vs.length:=by
   unfold gH at h2
   by_cases hi:i < vs.length
   ·exact hi
   ·rw [bf0 (by simpa using hi)] at h2
    rw [List.getElem?_replicate] at h2
    split at h2 <;> cases h2
  have ha:vs[i]? = some v:=by
   unfold gH at h2
   rw [bd3 (by simpa using hi),aT4] at h2
   cases e:vs[i]? with
   | none=>rw [e] at h2; cases h2
   | some a=>rw [e] at h2; cases h2; rfl
  obtain ⟨u,hu,rv⟩:=r.get ha
  have hp:ps[i]? = some y:=by
   rw [<- S.pre,List.getElem?_take_of_lt (by omega)]; exact h1
  have ndP:ps.Nodup:=by rw [<- S.pre]; exact S.nd.sublist (List.take_sublist _ _)
  refine⟨u,rv,?_⟩
  rcases S.par y (bc4 hp) with k | k
  ·exact .inl ⟨k,xF ndP hp hu k⟩
  ·obtain ⟨c,e⟩:=xH (n:=s.heap.objs.size+1) k
   refine .inr ⟨.inl k,c,e,?_⟩
   have q:=x.cell y c e
   rw [xG ndP hp hu (by show scope.names.lookup y ≠ _; rw [k]; decide)] at q
   exact q
 ·exact e0.hok.fresh (bd8 (x.above y c (aW6 h)))
 ·unfold gH
  show _=N.length
  rw [aU4,aS1,List.length_replicate]
  omega
theorem xI {CX:gG}{P:Program}{w:World}{K:PySem.W.Frag}{mg:Str->Option Value}{base:Heap}{k:Nat}{f:Addr}{name qual:Str}{params:Arguments}{body:List Stmt}{scope:Scope}{dV kV doc pm cdv ct oc:Value}{an od:Option Addr}
  {osl:Array (Option Value)}{N ps:List Str}{sp:Sp} (lk:K.lookup f=some ⟨oc,od,.func (PySem.W.fnOf name qual params body scope dV kV doc pm an cdv ct),osl⟩) (hcd:PySem.W.codeIn K cdv qual=true) (S:FnScope N ps scope)
  (len:∀ vs H Q E,sp vs H Q E->vs.length=ps.length)
  (hbody:∀ (A:Around) (outer:List Env) (s:Shared) (H:Hp) (vs:List V) (Q:VK) (E:XK),cD k (A.deeper (envOfC qual scope s.heap.objs.size f cdv))->sp vs H Q E->
   ∃ t,e8 (dF CX P w K mg base N qual scope f cdv A outer s H E) body t/\t { nx:=fun _ H'=>Q .non H',rt:=Q } (gH N vs) H) :
  dO P w K mg base CX (k+1) f (PySem.W.fnOf name qual params body scope dV kV doc pm an cdv ct) ps sp:=by
 refine⟨len,fun A outer s H args us vs Q E hr e0 hb r hsp=>?_⟩
 have hl:=len _ _ _ _ hsp
 have KX:K.In s.heap:=e0.mod.kin.keeps fun b o e=>(e0.bs b o e).1
 have lim:s.heap.NoLimit:=e0.mod.nolimit.keeps fun b o e=>(e0.bs b o e).1
 have hkind:∀ y ∈ ps.zip us,scope.names.lookup y.1=some .local ∨ (scope.names.lookup y.1=some .cell/\((cellsFrom (s.heap.objs.size+1) scope.names []).lookup y.1).isSome=true):=fun ⟨n,v⟩ hy=>by
  rcases S.par n (List.of_mem_zip hy).1 with q | q
  ·exact .inl q
  ·exact .inr ⟨q,PySem.W.cellsFrom_some _ _ _ (.inl q)⟩
 refine codeAny_call_function hr.depth (KX _ _ lk) rfl S.co S.gen rfl (PySem.W.codeRec_of KX hcd) (hb _ _ _ _ ?_)
 refine wpAny_newFunctionEnv_cells S.kind hkind fun env he s1 x=>?_
 subst he
 refine⟨lim.keeps x.toInCall.keep,codeAny_func ?_⟩
 obtain ⟨t,ht,hq⟩:=hbody A outer s H vs Q E (hr.deeper _) hsp
 have I:aA (dF CX P w K mg base N qual scope f cdv A outer s H E) [] (gH N vs) H s1:=af2 S hr.hd e0 hl r x
 refine aZ1 (ht [] s1 (gH N vs) H _ I hq) (fun fl s' hs=>?_) fun e s' hs=>hs
 have fin:∀ {σ':St}{H':Hp}{v:V}{u:Value},aA (dF CX P w K mg base N qual scope f cdv A outer s H E) [] σ' H' s'->aU v u->Q v H'->CE outer P w H s Q u s':=
  fun {σ' H' v u} J rv q=>⟨v,H',J.os,J.bare,J.base,J.hok,rv,q⟩
 cases fl with
 | ret u=>
  obtain ⟨v,σ',H',J,rv,q⟩:=hs
  exact fin J rv q
 | next=>
  obtain ⟨σ',H',J,q⟩:=hs
  exact fin (v:=V.non) (u:=Value.none) J rfl q
 | brk=>
  obtain ⟨_,_,_,q⟩:=hs
  exact False.elim q
 | cont=>
  obtain ⟨_,_,_,q⟩:=hs
  exact False.elim q
section
variable {X : Cx} {x : Str} {p pos : Pos} {e : Expr} {es : List Expr} {t : TA} {id T : String} {r : List V → Hp → VK → Prop}
def sQ (r:List V->Hp->VK->Prop) (t:TA):TE:=fun σ H Q=>t σ H fun vs H1=>r vs H1 Q
theorem xJ (hc:dC X (.builtin id) r) (hg:Gl X x) (hm:X.mg x=none) (hv:bootBuiltins x=some (.builtin id)) (ha:PA X (e :: es) t) (hn:x ≠ "__name__":=by decide) (hdb:(x == ("__debug__" : Str))=false:=by decide)
  (he:starEach (e :: es) X.env=(false,eval e X.env) :: starEach es X.env:=by rfl) (hpl:(backTo pos (starEach es X.env)).any (·.1)=false:=by rfl):PE X (.Call (.Name x p) (e :: es) [] pos) (sQ r t):=by
 intro pins s σ H Q I h
 refine wpAny_Call_Name_kw (lG I hg hm hv ?_ hn hdb)
 exact PyProof.Rows.callWith_builtin1 (aQ (ha pos pins s σ H _ I h) fun us s1 ⟨vs,H1,I1,r1,q1⟩=>hc pins s1 σ H1 vs us Q I1 r1 q1) he hpl
theorem af3 (hc:dC X (.type T) r) (hg:Gl X x) (hm:X.mg x=none) (hv:bootBuiltins x=some (.type T)) (ha:PA X (e :: es) t) (hn:x ≠ "__name__":=by decide) (hdb:(x == ("__debug__" : Str))=false:=by decide)
  (he:starEach (e :: es) X.env=(false,eval e X.env) :: starEach es X.env:=by rfl) (hpl:(backTo pos (starEach es X.env)).any (·.1)=false:=by rfl):PE X (.Call (.Name x p) (e :: es) [] pos) (sQ r t):=by
 intro pins s σ H Q I h
 refine wpAny_Call_Name_kw (lG I hg hm hv ?_ hn hdb)
 exact be6 (aQ (ha pos pins s σ H _ I h) fun us s1 ⟨vs,H1,I1,r1,q1⟩=>hc pins s1 σ H1 vs us Q I1 r1 q1) he hpl
end
end L2
namespace HT
open PySem PyProof.Rows
def aO:List Int->List Int->Bool
 | [],[]=>false
 | [],_ :: _=>true
 | _ :: _,[]=>false
 | x :: xs,y :: ys=>if x=y then aO xs ys else decide (x < y)
theorem gI (x y:Int) (xs ys:List Int):aO (x :: xs) (y :: ys)=if x=y then aO xs ys else decide (x < y):=rfl
theorem oR:aO [] []=false:=rfl
theorem xK (y:Int) (ys:List Int):aO [] (y :: ys)=true:=rfl
theorem xL (x:Int) (xs:List Int):aO (x :: xs) []=false:=rfl
theorem xM (A:Around) (s:Shared) (a:Int) (t:Tok) (c:Int) (u:Tok):∃ e,SeqAt.EqAt A s (.int a t) (.int c u) e/\(e=true ↔ a=c):=
 ⟨(a == c),SeqAt.EqAt.int_int a t c u,by simp⟩
theorem af4 (A:Around) (s:Shared) (a:Int) (t:Tok) (c:Int) (u:Tok) (prog:Program) (w:World) (E:Value->Shared->Prop) (Q:Value->Shared->Prop) (h:Q (.bool (decide (a < c))) s) :
  wpAny (model prog w) A (richCompare .Lt (.int a t) (.int c u)) Q E s:=
 (PyProof.Rows.lt_int h:wpAny (model prog w) A (compareOp .Lt (.int a t) (.int c u)) Q E s)
section
open PySem.SeqAt
open PySem.MeetsSeq PySem.MeetsSeq2 PySem.MeetsSeq3
theorem af5 (l b:Addr) (items items2:Array Value) (n n2:Nat) (dd dd2:Option Addr) (sl sl2:Array (Option Value)) (ns ms:List Int) (hi:IntsAre items.toList ns) (hj:IntsAre items2.toList ms) :
  Meets (Builtin.«tuple.__lt__» ⟨[.ref l,.ref b],[]⟩)
   (fun _ R s=>s.heap.get? l=some { cls:=.type "tuple",dict:=dd,data:=.seq items n,slots:=sl }/\s.heap.get? b=some { cls:=.type "tuple",dict:=dd2,data:=.seq items2 n2,slots:=sl2 }/\
    R (.ok (.ret (.bool (aO ns ms)))) s):=
 .of_wp fun prog w A R s h=>by
  obtain ⟨hp,g,d,tk,os⟩:=s; obtain ⟨hl,hb,h⟩:=h
  have f2:=AutoSeq1.sub_tuple_tuple
  have z1:items.size=ns.length:=by rw [<- hi.length]; simp
  have z2:items2.size=ms.length:=by rw [<- hj.length]; simp
  wp_walk using ba9 hl,ba9 hb,wpAny_forIn_list _ (fun cO b s'=>b.1=none/\s'=⟨hp,g,d,tk,os⟩/\∃ (vs ws:List Value) (ns' ms':List Int),cO=vs.zip ws/\
   IntsAre vs ns'/\IntsAre ws ms'/\ns'.length+items2.size=ms'.length+items.size/\R (.ok (.ret (.bool (aO ns' ms')))) ⟨hp,g,d,tk,os⟩) _
  case turn=>
   rintro ⟨y,x⟩ cO b s' ⟨hb',rfl,vs,ws,ns',ms',hz,hvi,hwi,hlen,hR⟩
   cases hvi with
   | nil=>rw [List.zip_nil_left] at hz; cases hz
   | cons a t hvi'=>
    cases hwi with
    | nil=>rw [List.zip_nil_right] at hz; cases hz
    | cons c u hwi'=>
     rw [aZ2] at hz
     injection hz with hyx hrest
     injection hyx with hy hx
     subst hy hx
     rw [gI] at hR
     simp only [aV5] at hlen
     obtain ⟨e,he,hiff⟩:=xM A.in1 ⟨hp,g,d,tk,os⟩ a t c u
     refine aQ9 (he prog w _ _ ?_)
     cases e with
     | true=>
      rw [if_pos (hiff.mp rfl)] at hR
      wp_walk
      exact⟨rfl,rfl,_,_,_,_,hrest,hvi',hwi',by omega,hR⟩
     | false=>
      rw [if_neg (fun q=>absurd (hiff.mpr q) aT5)] at hR
      have hri:=af4 A.in1 ⟨hp,g,d,tk,os⟩ a t c u prog w
      wp_walk using hri
      exact⟨_,rfl,by simpa using hR⟩
  case fin=>
   rintro ⟨b1,b2⟩ s' ⟨hb',rfl,vs,ws,ns',ms',hz,hvi,hwi,hlen,hR⟩
   simp only at hb'
   subst hb'
   have hv:aO ns' ms'=decide (items.size < items2.size):=by
    cases hvi with
    | nil=>
     cases hwi with
     | nil=>
      simp only [be4] at hlen
      rw [oR]
      exact (aR2 (by omega)).symm
     | cons c u hw=>
      simp only [be4,aV5] at hlen
      rw [xK]
      exact (aR3 (by omega)).symm
    | cons a t hv=>
     cases hwi with
     | nil=>
      simp only [be4,aV5] at hlen
      rw [xL]
      exact (aR2 (by omega)).symm
     | cons c u hw=>
      rw [aZ2] at hz
      cases hz
   rw [hv] at hR
   wp_walk
   exact⟨_,rfl,by simpa [Builtin.Tuple.tupleCompareSizes] using hR⟩
  case h=>
   exact⟨rfl,rfl,items.toList,items2.toList,ns,ms,rfl,hi,hj,by omega,h⟩
end
section
variable {prog : Program} {w : World} {A : Around} {E : Value → Shared → Prop} {s : Shared}
theorem xN {l b:Addr}{items items2:Array Value}{ns ms:List Int}{Q:Value->Shared->Prop} (hl:IsTup s.heap l items) (hb:IsTup s.heap b items2) (hi:IntsAre items.toList ns) (hj:IntsAre items2.toList ms)
  (hu:A.units < cLine) (h:Q (.bool (aO ns ms)) s):wpAny (model prog w) A (compareOp .Lt (.ref l) (.ref b)) Q E s:=by
 obtain ⟨⟨cls,dd,data,sl⟩,ho,hc,n,hd⟩:=id hl
 obtain ⟨⟨cls2,dd2,data2,sl2⟩,ho2,hc2,n2,hd2⟩:=id hb
 simp only at hc hd hc2 hd2
 subst hc hd hc2 hd2
 exact richCompare_meets_room (op:=.Lt) ⟨_,ho,rfl⟩ ⟨_,ho2,rfl⟩ PySem.F.slot_tuple_lt PySem.F.entry_tuple_lt (PySem.F.args_tuple_lt_2 _ _) (af5 l b items items2 n n2 dd dd2 sl sl2 ns ms hi hj)
  ⟨ho,ho2,show Value.bool (aO ns ms) ≠ Value.notImplemented/\Q (.bool (aO ns ms)) s from ⟨(fun x=>nomatch x),h⟩⟩ hu
def b6 (n d:Nat):Option Int->Nat
 | none=>d
 | some v=>if v < 0 then (v+(n:Int)).toNat else min v.toNat n
theorem af6 (n d:Nat):b6 n d none=d:=rfl
theorem af7 (n d:Nat) (hd:d<=n) (o:Option Int):b6 n d o<=n:=by
 cases o with
 | none=>exact hd
 | some v=>
  show (if v < 0 then (v+(n:Int)).toNat else min v.toNat n)<=n
  by_cases hv:v < 0
  ·rw [if_pos hv]; omega
  ·rw [if_neg hv]; exact Nat.min_le_right _ _
theorem xO (v:Int) (n d:Nat):(if v < 0 then max (v+(n:Int)) 0 else min v (n:Int))=((b6 n d (some v):Nat):Int):=by
 show (if v < 0 then max (v+(n:Int)) 0 else min v (n:Int))=(((if v < 0 then (v+(n:Int)).toNat else min v.toNat n):Nat):Int)
 by_cases hv:v < 0
 ·simp only [if_pos hv]; omega
 ·simp only [if_neg hv]; omega
theorem af8 (lo hi:Option Int) (n:Nat):Builtin.Slice.sliceAdjust lo hi 1 (n:Int)=(((b6 n 0 lo:Nat):Int),((b6 n n hi:Nat):Int)):=by
 have h1 : ¬ ((1:Int) < 0):=by omega
 unfold Builtin.Slice.sliceAdjust
 simp only [h1,aZ0]
 refine bb5 ?_ ?_
 ·cases lo with
  | none=>rfl
  | some v=>exact xO v n 0
 ·cases hi with
  | none=>rfl
  | some v=>exact xO v n n
theorem af9 (i j:Nat):Builtin.Slice.slicePlaces (i:Int) (j:Int) 1=j - i:=by
 unfold Builtin.Slice.slicePlaces
 have h1:(1:Int) > 0:=by omega
 simp only [h1,if_true,Int.ediv_one]
 split <;> omega
theorem xP {v:Value}{o:Option Int}{Q:Option Int->Shared->Prop} (p:IsPart v o) (h:Q o s):wpAny (model prog w) A (Builtin.Slice.slicePartIndex v) Q E s:=by
 cases p with
 | none=>exact slicePart_none h
 | int i t=>exact slicePart_int h
theorem xQ {sl:Addr}{vl vu:Value}{lo hi:Option Int}{n:Nat}{Q:Int × Int × Nat->Shared->Prop} (hs:s.heap.IsSliceOf sl vl vu .none) (pl:IsPart vl lo) (pu:IsPart vu hi)
  (h:Q (((b6 n 0 lo:Nat):Int),1,b6 n n hi - b6 n 0 lo) s):wpAny (model prog w) A (Builtin.Slice.sliceApplied (.ref sl) (pure (n:Int))) Q E s:=by
 obtain ⟨os,hos,hcs,hds⟩:=id hs
 unfold Builtin.Slice.sliceApplied Builtin.Slice.sliceFields
 refine aQ9 (aQ9 (aX0 hos hds (x:=vl) rfl (aQ9 (aX0 hos hds (x:=vu) rfl (aQ9 (aX0 hos hds (x:=.none) rfl (aR4 ?_)))))))
 refine aQ9 (slicePart_none ?_)
 show wpAny _ _ (if ((1:Int) == 0)=true then _ else _) _ _ s
 rw [if_neg (by decide)]
 refine aQ9 (xP pl (aQ9 (xP pu (aQ9 (aR4 ?_)))))
 show wpAny _ _ (match Builtin.Slice.sliceAdjust lo hi 1 (n:Int) with | (lo,hi)=>pure (lo,(1:Int),Builtin.Slice.slicePlaces lo hi 1)) _ _ s
 rw [af8 lo hi n]
 show wpAny _ _ (pure (((b6 n 0 lo:Nat):Int),(1:Int),Builtin.Slice.slicePlaces ((b6 n 0 lo:Nat):Int) ((b6 n n hi:Nat):Int) 1)) _ _ s
 rw [af9]
 exact aR4 h
theorem ag0 (xs:Array Value) (i k:Nat):((List.range k).filterMap fun (m:Nat)=>xs[((i:Int)+(m:Int) * 1).toNat]?).toArray=((xs.toList.drop i).take k).toArray:=by
 have e:(fun (m:Nat)=>xs[((i:Int)+(m:Int) * 1).toNat]?)=fun m=>xs[i+m]?:=by
  funext m
  have:((i:Int)+(m:Int) * 1).toNat=i+m:=by omega
  rw [this]
 rw [e]
 have:=pick_run xs i k
 rw [List.filterMap_map] at this
 have e2:((fun x=>xs[x]?) ∘ fun x=>i+x)=fun m=>xs[i+m]?:=rfl
 rw [e2] at this
 rw [this]
theorem ag1 {t sl:Addr}{items:Array Value}{vl vu:Value}{lo hi:Option Int}{Q:Value->Shared->Prop} (ht:IsTup s.heap t items) (hs:s.heap.IsSliceOf sl vl vu .none) (pl:IsPart vl lo) (pu:IsPart vu hi)
  (hw : ¬ (b6 items.size 0 lo=0/\b6 items.size items.size hi=items.size))
  (h:Q (.ref s.heap.objs.size) { s with heap:=s.heap.push { cls:=.type "tuple",data:=.seq ((items.toList.drop (b6 items.size 0 lo)).take (b6 items.size items.size hi - b6 items.size 0 lo)).toArray } })
  (hsz:items.size<=sizeLine):wpAny (model prog w) A (getItem (.ref t) (.ref sl)) Q E s:=by
 have htake:sizeOk (.seq ((items.toList.drop (b6 items.size 0 lo)).take (b6 items.size items.size hi - b6 items.size 0 lo)).toArray):=by
  show ((items.toList.drop (b6 items.size 0 lo)).take (b6 items.size items.size hi - b6 items.size 0 lo)).toArray.size<=sizeLine
  rw [aR8,bd5,be8,aW4]
  omega
 have hj:b6 items.size items.size hi<=items.size:=af7 _ _ (aS4 _) hi
 obtain ⟨os,hos,hcs,hds⟩:=id hs
 have hTs:s.TypeIs (.ref sl) "slice":=⟨os,hos,hcs⟩
 unfold getItem
 try with_reducible refine aZ7 ?_
 first | refine aQ9 (aR4 ?_) | skip
 refine aQ9 (wpAny_sequenceKey ht.typeIs (by decide) ?_)
 refine aQ9 (aX1 (name:=Str.ofString "__getitem__") ht.typeIs bd2
  (aX5 bd2 ht.typeIs entry_tuple_getitem ?_ (args_tuple_getitem _ _)))
 show wpAny _ _ (Builtin.Tuple.tupleItemsOf (.ref t) >>= _) _ _ s
 refine aQ9 (tupleItemsOf_ ht ?_)
 refine aQ9 (wpAny_typeOf hTs ?_)
 rw [if_pos (by decide)]
 refine aQ9 (xQ hs pl pu ?_)
 have hno : ¬ ((((b6 items.size 0 lo:Nat):Int) == 0 && (1:Int) == 1 && (b6 items.size items.size hi - b6 items.size 0 lo) == items.size)=true):=by
  intro q
  rw [aY6,aY6] at q
  have q1:((b6 items.size 0 lo:Nat):Int)=0:=eq_of_beq q.1.1
  have q2:b6 items.size items.size hi - b6 items.size 0 lo=items.size:=eq_of_beq q.2
  exact hw ⟨by omega,by omega⟩
 show wpAny _ _ (if (((b6 items.size 0 lo:Nat):Int) == 0 && (1:Int) == 1 && (b6 items.size items.size hi - b6 items.size 0 lo) == items.size)=true then _ else _) _ _ s
 rw [if_neg hno,ag0]
 first
  | exact aQ9 (m:=Builtin.Tuple.tupleExact _) (aV4 (aR4 ⟨_,rfl,aR4 h⟩) htake)
  | exact aQ9 (m:=Builtin.Tuple.tupleExact _) (aV4 (aQ9 (aR4 (aR4 ⟨_,rfl,aR4 h⟩))) htake)
  | exact aQ9 (aQ9 (m:=Builtin.Tuple.tupleExact _) (aV4 (aR4 (aR4 ⟨_,rfl,aR4 h⟩)) htake))
  | exact aQ9 (aQ9 (m:=Builtin.Tuple.tupleExact _) (aV4 (aR4 ⟨_,rfl,aR4 h⟩) htake))
end
end HT
namespace L2
open PySem PySem.Spec PyProof.Rows
abbrev TO:=St->Hp->(Option Int->Hp->Prop)->Prop
def PO (X:Cx) (e:Option Expr) (t:TO):Prop:=
 ∀ (pins:List (Addr × Obj)) (s:Shared) (σ:St) (H:Hp) (Q:Option Int->Hp->Prop),aA X pins σ H s->t σ H Q->
  wpAny (model X.prog X.w) X.A (evalPart e X.env) (fun u s'=>∃ o H',aA X pins σ H' s'/\IsPart u o/\Q o H') X.xe s
def ag2:TO:=fun _ H Q=>Q none H
def ag3 (t:TE):TO:=fun σ H Q=>t σ H fun x H1=>∃ i,x = .int i/\Q (some i) H1
theorem jK {ns:List Int}:∀ {us:List Value},aR (ns.map V.int) us->IntsAre us ns:=by
 induction ns with
 | nil=>intro us r; rw [List.map_nil] at r; cases r; exact .nil
 | cons n ns ih=>
  intro us r
  rw [aW8] at r
  cases r with
  | cons r1 r2=>
   obtain ⟨t,e⟩:=r1
   subst e
   exact .cons n t (ih r2)
section
variable {X : Cx} {e : Expr} {te : TE} {lo hi : Option Expr} {tl th : TO} {pos p2 : Pos}
theorem ag4:PO X none ag2:=by
 intro pins s σ H Q I h
 rw [evalPart_none]
 exact aR4 ⟨none,H,I,.none,h⟩
theorem ag5 (h:PE X e te):PO X (some e) (ag3 te):=by
 intro pins s σ H Q I hw
 rw [evalPart_some]
 refine aQ (h pins s σ H _ I hw) fun u s1 ⟨x,H1,I1,r1,q1⟩=>?_
 obtain ⟨i,rfl,q⟩:=q1
 obtain ⟨t,rfl⟩:=r1
 exact⟨some i,H1,I1,.int i t,q⟩
def jL (X:Cx) (r:V->Option Int->Option Int->Hp->VK->Prop):Prop:=
 ∀ (pins:List (Addr × Obj)) (s:Shared) (σ:St) (H:Hp) (x:V) (v vl vu:Value) (lo hi:Option Int) (sl:Addr) (Q:VK),aA X pins σ H s->aU x v->s.heap.IsSliceOf sl vl vu .none->IsPart vl lo->IsPart vu hi->r x lo hi H Q->
  ∃ T id,typeLookup (.type T) "__getitem__" = pure (some (.builtin id))/\s.TypeIs v T/\wpAny (model X.prog X.w) X.A (getItem v (.ref sl)) (EP X pins σ Q) X.xe s
theorem jL.or {r r':V->Option Int->Option Int->Hp->VK->Prop} (h:jL X r) (h':jL X r'):jL X (fun x lo hi H Q=>r x lo hi H Q ∨ r' x lo hi H Q):=by
 intro pins s σ H x v vl vu lo hi sl Q I rx hs pl pu q
 rcases q with q | q
 ·exact h pins s σ H x v vl vu lo hi sl Q I rx hs pl pu q
 ·exact h' pins s σ H x v vl vu lo hi sl Q I rx hs pl pu q
def tSl (r:V->Option Int->Option Int->Hp->VK->Prop) (te:TE) (tl th:TO):TE:=fun σ H Q=>te σ H fun x H1=>tl σ H1 fun l H2=>th σ H2 fun u H3=>r x l u H3 Q
theorem ag6 {r:V->Option Int->Option Int->Hp->VK->Prop} (hr:jL X r) (he:PE X e te) (hl:PO X lo tl) (hu:PO X hi th):PE X (.Subscript e (.Slice lo hi none p2) pos) (tSl r te tl th):=by
 intro pins s σ H Q I h
 refine Subscript_ (aQ (he pins s σ H _ I h) fun v s1 ⟨x,H1,I1,r1,q1⟩=>?_)
 refine wpAny_Slice (aQ (hl pins s1 σ H1 _ I1 q1) fun vl s2 ⟨l,H2,I2,pl,q2⟩=>aQ (hu pins s2 σ H2 _ I2 q2) fun vu s3 ⟨u,H3,I3,pu,q3⟩=>?_)
 rw [evalPart_none]
 refine aR4 ?_
 have I4:aA X pins σ H3 { s3 with heap:=s3.heap.push { cls:=.type "slice",data:=.fields #[vl,vu,.none] } }:=I3.kept (t':=s3.toks) fun b ob q=>aR1 _ q
 obtain ⟨T,id,hT,ht,hg⟩:=hr pins { s3 with heap:=s3.heap.push { cls:=.type "slice",data:=.fields #[vl,vu,.none] } } σ H3 x v vl vu l u s3.heap.objs.size Q I4 r1 (Heap.IsSliceOf.new ..) pl pu q3
 show wpAny (model X.prog X.w) X.A (subscriptTail e (.Slice lo hi none p2) v (.ref s3.heap.objs.size)) (EP X pins σ Q) X.xe { s3 with heap:=s3.heap.push { cls:=.type "slice",data:=.fields #[vl,vu,.none] } }
 exact tail_any (ops:=[.ref s3.heap.objs.size,v]) ht hT hg (by with_unfolding_all rfl)
def gQ (xs:List V) (lo hi:Option Int):List V:=(xs.drop (HT.b6 xs.length 0 lo)).take (HT.b6 xs.length xs.length hi - HT.b6 xs.length 0 lo)
theorem xR (xs:List V) (lo hi:Option Int):(gQ xs lo hi).length<=xs.length:=by
 unfold gQ
 rw [bd5,be8]
 omega
def ag7 (K:PySem.W.Frag):V->Option Int->Option Int->Hp->VK->Prop:=fun x lo hi H Q=>∃ a xs,x = .ref a/\aS K H a xs/\
 ¬ (HT.b6 xs.length 0 lo=0/\HT.b6 xs.length xs.length hi=xs.length)/\∀ p,H p=none->Q (.ref p) (upd H p (.tup (gQ xs lo hi)))
theorem ag8:jL X (ag7 X.K):=by
 intro pins s σ H x v vl vu lo hi sl Q I rx hs pl pu h
 obtain ⟨a,xs,rfl,hx,hw,q⟩:=h
 cases rx
 obtain ⟨its,r,ht,hz⟩:=I.tuple hx
 have hlen:its.toArray.size=xs.length:=by rw [aR8]; exact r.length.symm
 refine⟨"tuple",_,PyProof.Rows.slot_tuple_getitem.lookup,ht.typeIs,?_⟩
 refine HT.ag1 ht hs pl pu (by rw [hlen]; exact hw) ?_ (by rw [hlen]; exact hz)
 rw [hlen]
 refine⟨.ref s.heap.objs.size,_,I.laid (t':=s.toks) (o:=.tup (gQ xs lo hi)) (fun b ob q=>aR1 _ q) (aS4 _) ?_,rfl,q _ (I.hok.fresh (aS4 _))⟩
 exact⟨aU9 (xR xs lo hi) hz,_,(r.drop (HT.b6 xs.length 0 lo)).take (HT.b6 xs.length xs.length hi - HT.b6 xs.length 0 lo),IsTup.new _ _,iH.new _ _ rfl⟩
def sR (K:PySem.W.Frag):R2:=fun x y H Q=>∃ a b ns ms,x = .ref a/\y = .ref b/\aS K H a (ns.map V.int)/\aS K H b (ms.map V.int)/\Q (.bl (HT.aO ns ms)) H
theorem xS (hu:X.A.units < cLine):c9 X (compareOp .Lt) (sR X.K):=by
 intro pins s σ H x y v u Q I rx ry h
 obtain ⟨a,b,ns,ms,rfl,rfl,ha,hb,q⟩:=h
 cases rx
 cases ry
 obtain ⟨its,r1,p1,_⟩:=I.tuple ha
 obtain ⟨its2,r2,p2,_⟩:=I.tuple hb
 have i1:IntsAre its.toArray.toList ns:=jK r1
 have i2:IntsAre its2.toArray.toList ms:=jK r2
 exact HT.xN p1 p2 i1 i2 hu ⟨.bl (HT.aO ns ms),H,I,rfl,q⟩
end
def kG (n:Nat) (i:Int):Option Nat:=if 0<=i then (if i < n then some i.toNat else none) else if -(n:Int)<=i then some (i+n).toNat else none
def atI {α:Type} (xs:List α) (i:Int):Option α:=(kG xs.length i).bind fun j=>xs[j]?
theorem ag9 {n:Nat}{i:Int}{j:Nat} (h:kG n i=some j):seqIndex? i n=some j/\j < n/\-(n:Int)<=i/\i < n:=by
 unfold kG at h
 by_cases h0:0<=i
 ·rw [if_pos h0] at h
  by_cases h1:i < n
  ·rw [if_pos h1] at h
   have e:i.toNat=j:=aT8 h
   exact⟨by rw [seqIndex_of h0 h1,e],by omega,by omega,h1⟩
  ·rw [if_neg h1] at h; cases h
 ·rw [if_neg h0] at h
  by_cases h1 : -(n:Int)<=i
  ·rw [if_pos h1] at h
   have e:(i+n).toNat=j:=aT8 h
   exact⟨by rw [seqIndex_neg (by omega) h1,e],by omega,h1,by omega⟩
  ·rw [if_neg h1] at h; cases h
theorem sS {α:Type}{xs:List α}{i:Int}{v:α} (h:atI xs i=some v):∃ j,seqIndex? i xs.length=some j/\xs[j]? = some v/\j < xs.length/\-(xs.length:Int)<=i/\i < xs.length:=by
 unfold atI at h
 cases e:kG xs.length i with
 | none=>rw [e] at h; cases h
 | some j=>
  rw [e] at h
  obtain ⟨h1,h2,h3,h4⟩:=ag9 e
  exact⟨j,h1,h,h2,h3,h4⟩
theorem xT {α:Type}{xs:List α}{j:Nat}{v:α} (h:xs[j]? = some v):atI xs (j:Int)=some v:=by
 have hj:j < xs.length:=(aS0.mp h).1
 have e:kG xs.length (j:Int)=some j:=by
  unfold kG
  rw [if_pos (by omega),if_pos (by omega)]; simp
 unfold atI; rw [e]; exact h
def xU (b:Expr):Prop:=∀ o i,subscripted b false o i=operate [o,i] (getItem o i)
def iL (X:Cx) (r:R2):Prop:=
 ∀ (value slice:Expr) (pins:List (Addr × Obj)) (s:Shared) (σ:St) (H:Hp) (x y:V) (v u:Value) (Q:VK),aA X pins σ H s->aU x v->aU y u->r x y H Q->
  subscripted slice false v u=operate [v,u] (getItem v u)->wpAny (model X.prog X.w) X.A (subscriptTail value slice v u) (EP X pins σ Q) X.xe s
def MtR (X:Cx) (id:String) (r:V->List V->Hp->VK->Prop):Prop:=
 ∀ (pins:List (Addr × Obj)) (s:Shared) (σ:St) (H:Hp) (x:V) (xs:List V) (v:Value) (us:List Value) (Q:VK),aA X pins σ H s->aU x v->aR xs us->r x xs H Q->
  wpAny (model X.prog X.w) X.A (call (.builtin id) (v :: us)) (EP X pins σ Q) X.xe s
section
variable {X : Cx} {a b : Expr} {ta tb : TE} {pos : Pos}
theorem iL.or {r r':R2} (h:iL X r) (h':iL X r'):iL X (fun x y H Q=>r x y H Q ∨ r' x y H Q):=by
 intro value slice pins s σ H x y v u Q I rx ry q hs
 rcases q with q | q
 ·exact h value slice pins s σ H x y v u Q I rx ry q hs
 ·exact h' value slice pins s σ H x y v u Q I rx ry q hs
theorem ah0 {r:R2} (hr:iL X r) (ha:PE X a ta) (hb:PE X b tb) (hs:xU b):PE X (.Subscript a b pos) (mW r ta tb):=by
 intro pins s σ H Q I h
 exact Subscript_ (sH ha hb I h fun v u s2 x y H2 I2 rx ry q=>hr a b pins s2 σ H2 x y v u Q I2 rx ry q (hs _ _))
def xV (K:PySem.W.Frag):R2:=fun x y H Q=>∃ p xs i v,x = .ref p/\y = .int i/\aW K H p xs/\atI xs i=some v/\Q v H
def xW (K:PySem.W.Frag):R2:=fun x y H Q=>∃ p xs i v,x = .ref p/\y = .int i/\aS K H p xs/\atI xs i=some v/\Q v H
def xX:R2:=fun x y H Q=>∃ z i c,x = .str z/\y = .int i/\z.length<=sizeLine/\atI z.cps.toList i=some c/\Q (.str ⟨#[c]⟩) H
theorem ah1:iL X (xV X.K):=by
 intro value slice pins s σ H x y v u Q I rx ry h hs
 obtain ⟨p,xs,i,z,rfl,rfl,hq,he,q⟩:=h
 cases rx
 obtain ⟨t,rfl⟩:=ry
 obtain ⟨its,r,pl,hz⟩:=I.list hq
 obtain ⟨j,h1,h2,h3,h4,h5⟩:=sS he
 obtain ⟨w,ew,rw'⟩:=r.get h2
 have hl:=r.length
 have hn:=oP
 have fin:EP X pins σ Q w s:=⟨z,H,I,rw',q⟩
 by_cases h0:0<=i
 ·have hj:i.toNat=j:=by
   rw [seqIndex_of h0 h5] at h1
   exact aT8 h1
  exact item_listR pl.isList h0 (by omega) (by rw [hj]; simpa using ew) fin hs
 ·have hj:(i+(its.toArray.size:Int)).toNat=j:=by
   rw [seqIndex_neg (by omega) h4] at h1
   rw [aR8,<- hl]
   exact aT8 h1
  exact subscriptTail_builtinR (x:=w) pl.isList.typeIs slot_list_getitem.lookup
   (wpAny_getItem_list_neg (Q:=fun r s'=>r=w/\EP X pins σ Q r s') pl.isList (by omega) (by rw [aR8] <;> omega) (by omega) (by rw [hj]; simpa using ew) ⟨rfl,fin⟩) hs
theorem ah2:iL X (xW X.K):=by
 intro value slice pins s σ H x y v u Q I rx ry h hs
 obtain ⟨p,xs,i,z,rfl,rfl,hq,he,q⟩:=h
 cases rx
 obtain ⟨t,rfl⟩:=ry
 obtain ⟨its,r,pl,hz⟩:=I.tuple hq
 obtain ⟨j,h1,h2,h3,h4,h5⟩:=sS he
 obtain ⟨w,ew,rw'⟩:=r.get h2
 have hl:=r.length
 have hn:=oP
 have fin:EP X pins σ Q w s:=⟨z,H,I,rw',q⟩
 exact subscriptTail_builtinR (x:=w) pl.typeIs slot_tuple_getitem.lookup
  (getItem_tuple (j:=j) (Q:=fun r s'=>r=w/\EP X pins σ Q r s') pl (by omega) (by omega) (by rw [aR8,<- hl]; exact h1) (by simpa using ew) ⟨rfl,fin⟩) hs
theorem ah3:iL X xX:=by
 intro value slice pins s σ H x y v u Q I rx ry h hs
 obtain ⟨z,i,c,rfl,rfl,hz,he,q⟩:=h
 obtain ⟨t,rfl⟩:=rx
 obtain ⟨t',rfl⟩:=ry
 obtain ⟨j,h1,h2,h3,h4,h5⟩:=sS he
 have hl:z.cps.toList.length=z.length:=by simp [Str.length]
 rw [hl] at h1 h4 h5
 have hn:=oP
 exact tail_any (typeIs_str s z t) slot_str_getitem.lookup (getItem_str (c:=c) (by
  have e1:decide (i < -(2 ^ 63:Int))=false:=aR2 (by omega)
  have e2:decide (i >= 2 ^ 63)=false:=aR2 (by omega)
  rw [e1,e2,Bool.or_false]) (by rw [h1]; simpa using h2) ⟨.str ⟨#[c]⟩,H,I.tok _,⟨_,rfl⟩,q⟩) hs
def xY (K:PySem.W.Frag):R2:=fun x y H Q=>xV K x y H Q ∨ xW K x y H Q ∨ xX x y H Q
theorem ah4:iL X (xY X.K):=ah1.or (ah2.or ah3)
theorem ah5 (lo hi:Option Int) (n:Nat):(sliceBounds lo hi none n).1=((HT.b6 n 0 lo:Nat):Int)/\(sliceBounds lo hi none n).2.1=((HT.b6 n n hi:Nat):Int)/\(sliceBounds lo hi none n).2.2=1:=by
 refine⟨?_,?_,rfl⟩
 ·cases lo with
  | none=>simp [sliceBounds,HT.b6]
  | some i=>
   simp only [sliceBounds,HT.b6,Option.getD_none,show (1:Int) > 0 by decide,if_true]
   by_cases h:i < 0
   ·simp only [h,if_true] <;> omega
   ·simp only [h,aZ0] <;> omega
 ·cases hi with
  | none=>simp [sliceBounds,HT.b6]
  | some i=>
   simp only [sliceBounds,HT.b6,Option.getD_none,show (1:Int) > 0 by decide,if_true]
   by_cases h:i < 0
   ·simp only [h,if_true] <;> omega
   ·simp only [h,aZ0] <;> omega
theorem ah6 (its:List Value) (lo hi:Option Int):slicePick its.toArray lo hi none=((its.drop (HT.b6 its.length 0 lo)).take (HT.b6 its.length its.length hi - HT.b6 its.length 0 lo)).toArray:=by
 obtain ⟨h1,h2,h3⟩:=ah5 lo hi its.toArray.size
 unfold slicePick
 rw [h1,h2,h3]
 simp only [sliceRange_one,pick_run,aR8] <;> rfl
def ah7 (K:PySem.W.Frag):V->Option Int->Option Int->Hp->VK->Prop:=fun x lo hi H Q=>∃ a xs,x = .ref a/\aW K H a xs/\∀ p,H p=none->Q (.ref p) (upd H p (.lst (gQ xs lo hi)))
theorem ah8:jL X (ah7 X.K):=by
 intro pins s σ H x v vl vu lo hi sl Q I rx hs pl pu h
 obtain ⟨a,xs,rfl,hx,q⟩:=h
 cases rx
 obtain ⟨its,r,ht,hz⟩:=I.list hx
 have hlen:=r.length
 refine⟨"list",_,slot_list_getitem.lookup,ht.isList.typeIs,?_⟩
 refine wpAny_getItem_list_slice ht.isList hs pl pu .none (by simp) ?_ (by rw [aR8] <;> omega)
 rw [ah6,<- hlen]
 refine⟨.ref s.heap.objs.size,_,I.laid (t':=s.toks) (o:=.lst (gQ xs lo hi)) (fun b ob q=>aR1 _ q) (aS4 _) ?_,rfl,q _ (I.hok.fresh (aS4 _))⟩
 exact⟨aU9 (xR xs lo hi) hz,_,0,(r.drop (HT.b6 xs.length 0 lo)).take (HT.b6 xs.length xs.length hi - HT.b6 xs.length 0 lo),aS7 _ rfl⟩
theorem ah9:dC X (.builtin "len") (fun xs H Q=>∃ p ys,xs = [.ref p]/\(aW X.K H p ys ∨ aS X.K H p ys)/\Q (.int ys.length) H):=by
 intro pins s σ H xs us Q I r h
 obtain ⟨p,ys,rfl,hq,q⟩:=h
 obtain ⟨u,rfl,rx⟩:=jH r
 cases rx
 have hn:=oP
 rcases hq with hq | hq
 ·obtain ⟨its,r',pl,hz⟩:=I.list hq
  have hlen:=r'.length
  exact Calls.call_len_list pl.isList (by simp only [aR8] <;> omega) ⟨.int ys.length,H,I.tok _,⟨s.toks+1,by rw [aR8,hlen]⟩,q⟩
 ·obtain ⟨its,r',pl,hz⟩:=I.tuple hq
  have hlen:=r'.length
  exact len_tuple pl (by simp only [aR8] <;> omega) ⟨.int ys.length,H,I.tok _,⟨s.toks+1,by rw [aR8,hlen]⟩,q⟩
theorem dC.or {f:Value}{r r':List V->Hp->VK->Prop} (h:dC X f r) (h':dC X f r'):dC X f (fun xs H Q=>r xs H Q ∨ r' xs H Q):=by
 intro pins s σ H xs us Q I rs q
 rcases q with q | q
 ·exact h pins s σ H xs us Q I rs q
 ·exact h' pins s σ H xs us Q I rs q
theorem ai0:dC X (.type "list") (fun xs H Q=>∃ p ys,xs = [.ref p]/\(aW X.K H p ys ∨ aS X.K H p ys)/\∀ l,H l=none->Q (.ref l) (upd H l (.lst ys))):=by
 intro pins s σ H xs us Q I r h
 obtain ⟨p,ys,rfl,hq,q⟩:=h
 obtain ⟨u,rfl,rx⟩:=jH r
 cases rx
 have fin:∀ (its:List Value),aR ys its->ys.length<=sizeLine->∀ (h':Heap) (c':Nat),(∀ b o',s.heap.get? b=some o'->h'.get? b=some o')->
   h'.get? s.heap.objs.size=some { cls:=.type "list",dict:=none,data:=.seq its.toArray c',slots:=#[] }->EP X pins σ Q (.ref s.heap.objs.size) { s with heap:=h' }:=fun its r' hz h' c' kp e=>
  ⟨.ref s.heap.objs.size,_,I.laid (t':=s.toks) kp (aS4 _) (show bW X.prog X.w _ h' _ (.lst ys) from ⟨hz,its,c',r',e⟩),rfl,q _ (I.hok.fresh (aS4 _))⟩
 rcases hq with hq | hq
 ·obtain ⟨its,r',pl,hz⟩:=I.list hq
  have hlen:=r'.length
  obtain ⟨o,ho,hc,n,hd⟩:=pl.isList
  exact call_list_seq p (.inl rfl) ho hc hd (fun h' c' kp e=>fin its r' hz h' c' kp e) (by simp only [aR8] <;> omega)
 ·obtain ⟨its,r',pl,hz⟩:=I.tuple hq
  have hlen:=r'.length
  obtain ⟨o,ho,hc,n,hd⟩:=pl
  exact call_list_seq p (.inr rfl) ho hc hd (fun h' c' kp e=>fin its r' hz h' c' kp e) (by simp only [aR8] <;> omega)
theorem ai1:dC X (.type "tuple") (fun xs H Q=>∃ p ys,xs = [.ref p]/\((aW X.K H p ys/\∀ l,H l=none->Q (.ref l) (upd H l (.tup ys))) ∨ (aS X.K H p ys/\Q (.ref p) H))):=by
 intro pins s σ H xs us Q I r h
 obtain ⟨p,ys,rfl,h⟩:=h
 obtain ⟨u,rfl,rx⟩:=jH r
 cases rx
 rcases h with ⟨hq,q⟩ | ⟨hq,q⟩
 ·obtain ⟨its,r',pl,hz⟩:=I.list hq
  have hlen:=r'.length
  refine call_tuple_list pl.isList (fun h' kp=>?_) (by simp only [aR8] <;> omega)
  have I1:aA X pins σ H { s with heap:=h' }:=I.kept (t':=s.toks) kp
  have I2:aA X pins σ (upd H h'.objs.size (.tup ys)) { s with heap:=h'.push { cls:=.type "tuple",data:=.seq its.toArray } }:=
   I1.laid (t':=s.toks) (fun b o e=>aR1 _ e) (aS4 _) (show bW X.prog X.w _ _ _ (.tup ys) from ⟨hz,its,r',IsTup.new _ _,iH.new _ _ rfl⟩)
  exact⟨.ref h'.objs.size,_,I2,rfl,q _ (I1.hok.fresh (aS4 _))⟩
 ·obtain ⟨its,r',pl,hz⟩:=I.tuple hq
  exact call_tuple_same pl ⟨.ref p,H,I,rfl,q⟩
def oS (K:PySem.W.Frag) (T:String) (x:V) (H:Hp):Prop:=match x with
 | .str _=>T="str"
 | .int _=>T="int"
 | .ref p=>(T="list"/\∃ xs,aW K H p xs) ∨ (T="tuple"/\∃ o,K.lookup p=some o/\o.cls = .type "tuple"/\o.dict=none) ∨
   (T="dict"/\((∃ kvs,H p=some (.dK kvs)) ∨ ∃ kvs,H p=some (.dT kvs))) ∨ (T="set"/\∃ S n,H p=some (.set S n))
 | _=>False
theorem ai2 {pins:List (Addr × Obj)}{σ:St}{H:Hp}{s:Shared}{T:String}{x:V}{v:Value} (I:aA X pins σ H s) (r:aU x v) (ty:oS X.K T x H) :
  s.TypeIs v T/\∀ a,v = .ref a->∃ ob,s.heap.get? a=some ob/\ob.dict=none:=by
 cases x with
 | str z=>
  obtain ⟨t,rfl⟩:=r
  cases (show T="str" from ty)
  exact⟨typeIs_str s z t,fun _ e=>nomatch e⟩
 | int i=>
  obtain ⟨t,rfl⟩:=r
  cases (show T="int" from ty)
  exact⟨typeIs_int s i t,fun _ e=>nomatch e⟩
 | ref p=>
  cases r
  rcases ty with ⟨rfl,xs,hq⟩ | ⟨rfl,o,hk,hc,hd⟩ | ⟨rfl,hk⟩ | ⟨rfl,S,n,hk⟩
  ·obtain ⟨its,_,pl,_⟩:=I.list hq
   refine⟨pl.isList.typeIs,fun a e=>?_⟩
   cases e
   obtain ⟨o,n,e,c,hd,_⟩:=pl
   exact⟨o,e,hd⟩
  ·refine⟨⟨o,I.kIn p o hk,hc⟩,fun a e=>?_⟩
   cases e
   exact⟨o,I.kIn _ o hk,hd⟩
  ·have z:∃ o,s.heap.get? p=some o/\o.ExactDict:=by
    rcases hk with ⟨kvs,hk⟩ | ⟨kvs,hk⟩
    ·obtain ⟨_,_,_,_,o,_,_,e,ex,_⟩:=I.hok p _ hk
     exact⟨o,e,ex⟩
    ·obtain ⟨_,_,_,_,o,_,_,e,ex,_⟩:=I.hok p _ hk
     exact⟨o,e,ex⟩
   obtain ⟨o,e,ex⟩:=z
   refine⟨⟨o,e,ex.1⟩,fun a e2=>?_⟩
   cases e2
   exact⟨o,e,ex.2.1⟩
  ·obtain ⟨o,_,_,_,e,ex,_⟩:=I.hok p _ hk
   refine⟨⟨o,e,ex.1⟩,fun a e2=>?_⟩
   cases e2
   exact⟨o,e,ex.2.1⟩
 | _=>exact False.elim ty
def sU (K:PySem.W.Frag) (T:String) (r:V->List V->Hp->VK->Prop) (to:TE) (t:TA):TE:=fun σ H Q=>to σ H fun x H1=>oS K T x H1/\t σ H1 fun xs H2=>r x xs H2 Q
variable {o e : Expr} {es : List Expr} {to : TE} {t : TA} {name : Str} {apos cpos : Pos} {T id : String} {r : V → List V → Hp → VK → Prop}
theorem xZ (pa:PlainAttrs T) (slot:Slot T name id) (hty:typeOf (.builtin id)=pure (.type "method_descriptor")) (hm:MtR X id r) (ho:PE X o to) (ha:PA X (e :: es) t)
  (hbase:attributeBase o name X.env (eval o X.env)=eval o X.env:=by rfl)
  (hfew:((backTo cpos (starEach (e :: es) X.env)).all (fun x=>!x.1) && (backToKw cpos (keywordEach [] X.env)).all (fun x=>x.1.isSome)
   && decide ((e :: es).length+([]:List Keyword).length+(if ([]:List Keyword).isEmpty then 0 else 1) < 30))=true:=by rfl)
  (hline:(apos.endLine == cpos.line)=true:=by rfl) (hs:starEach (e :: es) X.env=(false,eval e X.env) :: starEach es X.env:=by rfl) (hplain:(backTo cpos (starEach es X.env)).any (·.1)=false:=by rfl) :
  PE X (.Call (.Attribute o name apos) (e :: es) [] cpos) (sU X.K T r to t):=by
 intro pins s σ H Q I h
 refine wpAny_Call_method_late hbase hfew hline rfl (aQ (ho pins s σ H _ I h) fun v s1 ⟨x,H1,I1,r1,ty,q1⟩=>?_)
 obtain ⟨h1,h2⟩:=ai2 I1 r1 ty
 refine⟨T,id,pa,slot,hty,h1,h2,?_⟩
 have hA:=ha cpos pins s1 σ H1 _ I1 q1
 rw [hs] at hA ⊢
 refine Calls.callWith_builtin (by show (false || (backTo cpos (starEach es X.env)).any (·.1))=false; rw [hplain] <;> rfl) (Calls.evalArgs_plain ?_)
 exact aQ hA fun us s2 ⟨vs,H2,I2,r2,q2⟩=>hm pins s2 σ H2 x vs v us Q I2 r1 r2 q2
end
def yA (X:Cx) (id:String) (r:V->List V->Hp->VK->Prop):Prop:=
 ∀ (pins:List (Addr × Obj)) (s:Shared) (σ:St) (H:Hp) (x:V) (xs:List V) (v:Value) (us:List Value) (Q:VK),aA X pins σ H s->aU x v->aR xs us->r x xs H Q->
  wpAny (model X.prog X.w) X.A (call (.builtin id) (v :: us)) (EP X pins σ Q) X.xe s
theorem aR.one {x:V}{us:List Value} (h:aR [x] us):∃ u,us = [u]/\aU x u:=by
 cases h with
 | cons r t=>
  cases t
  exact⟨_,rfl,r⟩
theorem aR.two {x y:V}{us:List Value} (h:aR [x,y] us):∃ u v,us = [u,v]/\aU x u/\aU y v:=by
 cases h with
 | cons r t=>
  cases t with
  | cons q t=>
   cases t
   exact⟨_,_,rfl,r,q⟩
theorem aR.eraseIdx:∀ {xs:List V}{us:List Value} (i:Nat),aR xs us->aR (xs.eraseIdx i) (us.eraseIdx i)
 | _,_,_,.nil=>.nil
 | _,_,0,.cons _ t=>t
 | _,_,i+1,.cons r t=>.cons r (aR.eraseIdx i t)
section
variable {X : Cx} {pins : List (Addr × Obj)} {σ : St} {H : Hp} {s : Shared} {l b : Addr} {xs ys zs : List V}
theorem aA.lset {its its':List Value}{n:Nat}{f:Array Value->Array Value}{t':Nat} (I:aA X pins σ H s) (hH:H l=some (.lst xs))
  (e:s.heap.get? l=some { cls:=.type "list",data:=.seq its.toArray n }) (hf:f its.toArray=its'.toArray) (hv:aR ys its') (hz:ys.length<=sizeLine) :
  aA X pins σ (upd H l (.lst ys)) { s with heap:=s.heap.update l (Obj.mapSeq f),toks:=t' }:=by
 have q:=PySem.IsL.update e f
 rw [hf] at q
 refine I.write (x:=l) (e:=l) (by rw [hH]; exact trivial) (.inl rfl) (fun b' u hb hu=>(be7 s.heap (Obj.mapSeq f) (Ne.symm hb)).trans hu) ⟨_,q⟩ ?_
 exact⟨hz,its',_,hv,q⟩
theorem aA.lstM (I:aA X pins σ H s) (hH:H l=some (.lst xs)):xs.length<=sizeLine/\∃ (its:List Value) (n:Nat),aR xs its/\xs.length=its.length/\s.heap.get? l=some { cls:=.type "list",data:=.seq its.toArray n }:=by
 obtain ⟨z,its,n,r,e⟩:=I.hok l _ hH
 exact⟨z,its,n,r,r.length,e⟩
end
section
variable {X : Cx}
def yB:V->List V->Hp->VK->Prop:=fun x vs H Q=>∃ l xs y,x = .ref l/\vs = [y]/\H l=some (.lst xs)/\xs.length < sizeLine/\Q .non (upd H l (.lst (xs ++ [y])))
theorem yC:yA X "list.append" yB:=by
 intro pins s σ H x vs v us Q I rx rv h
 obtain ⟨l,xs,y,rfl,rfl,hH,hz,q⟩:=h
 cases rx
 obtain ⟨u,rfl,ru⟩:=rv.one
 obtain ⟨z,its,n,r,hl,e⟩:=I.lstM hH
 refine call_meets F.slot_list_append ⟨_,e,rfl⟩ F.entry_list_append (F.args_list_append_2 _ _) (PySem.list_append l its.toArray n u (by rw [aR8]; omega)) ⟨e,?_⟩
 refine⟨.non,_,I.lset (its':=its ++ [u]) hH e (by simp) (r.append (.cons ru .nil)) ?_,rfl,q⟩
 rw [aU4,ba1]
 omega
end
section
variable {κ : Type} [DecidableEq κ]
def eQ (kvs:List (κ × V)) (k:κ):Option V:=(kvs.find? fun kv=>decide (kv.1=k)).map (·.2)
def fF (kvs:List (κ × V)) (k:κ) (v:V):List (κ × V):=
 if (kvs.any fun kv=>decide (kv.1=k))=true then kvs.map (fun kv=>if kv.1=k then (kv.1,v) else kv) else kvs ++ [(k,v)]
theorem sV {p:κ × V}{r:List (κ × V)}{k:κ} (e:p.1=k):eQ (p :: r) k=some p.2:=by simp [eQ,bc1,e]
theorem sW {p:κ × V}{r:List (κ × V)}{k:κ} (e : ¬ p.1=k):eQ (p :: r) k=eQ r k:=by simp [eQ,bc1,e]
theorem yD (k:κ):∀ kvs:List (κ × V),(kvs.any fun kv=>decide (kv.1=k))=(eQ kvs k).isSome
 | []=>rfl
 | p :: r=>by
  rw [List.any_cons]
  by_cases e:p.1=k
  ·simp only [sV e,aR3 e,Bool.true_or,Option.isSome_some]
  ·rw [sW e,aR2 e,Bool.false_or]; exact yD k r
theorem yE (kvs:List (κ × V)) (k:κ) (v:V):(fF kvs k v).length<=kvs.length+1:=by
 unfold fF
 split
 ·rw [aS1]; omega
 ·rw [aU4,aV5,be4]; omega
theorem fU.isSome_eq {o:Option V}{u:Option Value} (r:fU o u):o.isSome=u.isSome:=by
 cases o with
 | none=>cases u with
  | none=>rfl
  | some _=>exact (show False from r).elim
 | some _=>cases u with
  | none=>exact (show False from r).elim
  | some _=>rfl
theorem fU.getD {o:Option V}{u:Option Value}{d:V}{d':Value} (r:fU o u) (rd:aU d d'):aU (o.getD d) (u.getD d'):=by
 cases o with
 | none=>cases u with
  | none=>exact rd
  | some _=>exact (show False from r).elim
 | some _=>cases u with
  | none=>exact (show False from r).elim
  | some _=>exact r
theorem KV.val {kvs:List (κ × V)}{vs:List (κ × Value)} (r:KV kvs vs) (k:κ):fU (eQ kvs k) (valueAt vs k):=by
 unfold KV at r
 induction r with
 | nil=>exact bh3
 | @cons p q ps qs h t ih=>
  obtain ⟨h1,h2⟩:=h
  by_cases e:p.1=k
  ·have e':q.1=k:=h1.symm.trans e
   have b:valueAt (q :: qs) k=some q.2:=by simp [valueAt,bc1,e']
   rw [sV e,b]; exact h2
  ·have e' : ¬ q.1=k:=fun z=>e (h1.trans z)
   have b:valueAt (q :: qs) k=valueAt qs k:=by simp [valueAt,bc1,e']
   rw [sW e,b]; exact ih
theorem KV.any {kvs:List (κ × V)}{vs:List (κ × Value)} (r:KV kvs vs) (k:κ):(kvs.any fun kv=>decide (kv.1=k))=vs.any fun kv=>decide (kv.1=k):=by
 unfold KV at r
 induction r with
 | nil=>rfl
 | cons h t ih=>rw [List.any_cons,List.any_cons,ih,h.1]
theorem KV.repl {kvs:List (κ × V)}{vs:List (κ × Value)} (r:KV kvs vs) (k:κ) {y:V}{u:Value} (ry:aU y u) :
  KV (kvs.map fun kv=>if kv.1=k then (kv.1,y) else kv) (vs.map fun kv=>if kv.1=k then (kv.1,u) else kv):=by
 unfold KV at r ⊢
 induction r with
 | nil=>exact .nil
 | @cons p q ps qs h t ih=>
  rw [aW8,aW8]
  refine .cons ?_ ih
  obtain ⟨h1,h2⟩:=h
  by_cases e:p.1=k
  ·rw [if_pos e,if_pos (h1.symm.trans e)]; exact⟨h1,ry⟩
  ·rw [if_neg e,if_neg (fun z=>e (h1.trans z))]; exact⟨h1,h2⟩
theorem KV.put {kvs:List (κ × V)}{vs:List (κ × Value)} (r:KV kvs vs) (k:κ) {y:V}{u:Value} (ry:aU y u):KV (fF kvs k y) (stored vs k u):=by
 unfold fF stored
 rw [r.any k]
 by_cases e:(vs.any fun kv=>decide (kv.1=k))=true
 ·rw [if_pos e,if_pos e]; exact r.repl k ry
 ·rw [if_neg e,if_neg e]; exact Paired.snoc r ⟨rfl,ry⟩
theorem KV.length {kvs:List (κ × V)}{vs:List (κ × Value)} (r:KV kvs vs):kvs.length=vs.length:=Paired.length r
end
theorem mZ {P:Program}{w:World}{k:aJ}{u:Value} (r:aU (kV k) u):(eD P w).is k u=true:=by
 cases k with
 | inl i=>obtain ⟨t,e⟩:=(show ∃ t,u=Value.int i t from r); subst e; exact Z5 P w i t
 | inr x=>obtain ⟨t,e⟩:=(show ∃ t,u=Value.str x t from r); subst e; exact Z6 P w x t
theorem yF {P:Program}{w:World}:∀ {ks:List aJ}{us:List Value},aR (ks.map kV) us->ItemsAre (eD P w) ks us
 | [],_,r=>by rw [List.map_nil] at r; cases r; exact .nil
 | k :: ks,_,r=>by
  rw [aW8] at r
  cases r with
  | cons h t=>exact .cons (mZ h) (yF t)
abbrev KT (H:Hp):List (List aJ × V)->List (List aJ × Addr × Value)->Prop:=Paired fun p q=>p.1=q.1/\H q.2.1=some (.tup (p.1.map kV))/\aU p.2 q.2.2
theorem KT.val {H:Hp}{kvs:List (List aJ × V)}{xs:List (List aJ × Addr × Value)} (r:KT H kvs xs) (k:List aJ):fU (eQ kvs k) ((atKey xs k).map (·.2)):=by
 induction r with
 | nil=>exact bh3
 | @cons p q ps qs h t ih=>
  obtain ⟨h1,_,h2⟩:=h
  by_cases e:p.1=k
  ·have e':q.1=k:=h1.symm.trans e
   have b:atKey (q :: qs) k=some q.2:=by simp [atKey,bc1,e']
   rw [sV e,b]; exact h2
  ·have e' : ¬ q.1=k:=fun z=>e (h1.trans z)
   have b:atKey (q :: qs) k=atKey qs k:=by simp [atKey,bc1,e']
   rw [sW e,b]; exact ih
theorem KT.repl {H:Hp}{kvs:List (List aJ × V)}{xs:List (List aJ × Addr × Value)} (r:KT H kvs xs) (k:List aJ) {y:V}{u:Value} (ry:aU y u) :
  KT H (kvs.map fun kv=>if kv.1=k then (kv.1,y) else kv) (xs.map (putAt k u)):=by
 induction r with
 | nil=>exact .nil
 | @cons p q ps qs h t ih=>
  rw [aW8,aW8]
  refine .cons ?_ ih
  obtain ⟨h1,h2,h3⟩:=h
  unfold putAt
  by_cases e:p.1=k
  ·rw [if_pos e,if_pos (h1.symm.trans e)]; exact⟨h1,h2,ry⟩
  ·rw [if_neg e,if_neg (fun z=>e (h1.trans z))]; exact⟨h1,h2,h3⟩
theorem KT.put {H:Hp}{kvs:List (List aJ × V)}{xs:List (List aJ × Addr × Value)} (r:KT H kvs xs) (k:List aJ) {b:Addr}{y:V}{u:Value} (hb:H b=some (.tup (k.map kV))) (ry:aU y u) :
  KT H (fF kvs k y) (storedH xs k b u):=by
 have e:(kvs.any fun kv=>decide (kv.1=k))=(atKey xs k).isSome:=by
  rw [yD,(r.val k).isSome_eq,Option.isSome_map]
 unfold fF storedH
 rw [e]
 by_cases q:(atKey xs k).isSome=true
 ·rw [if_pos q,if_pos q]; exact r.repl k ry
 ·rw [if_neg q,if_neg q]; exact Paired.snoc r ⟨rfl,hb,ry⟩
theorem KT.keeps {H H':Hp}{kvs:List (List aJ × V)}{xs:List (List aJ × Addr × Value)} (r:KT H kvs xs) (ht:∀ b ys,H b=some (.tup ys)->H' b=some (.tup ys)):KT H' kvs xs:=
 Paired.mapP r fun _ _ z=>⟨z.1,ht _ _ z.2.1,z.2.2⟩
section
variable {P : Program} {w : World} {H : Hp} {h : Heap} {a : Addr}
theorem yG {u:HO} (ok:bO P w H h) (e:Rd H a u):bW P w H h a u:=e.ok ok
theorem kH {kvs:List (aJ × V)} (ok:bO P w H h) (e:Rd H a (.dK kvs)):kvs.length<=sizeLine/\(a == sysModules)=false/\∃ vs,KV kvs vs/\h.DictOf (eD P w) a vs:=
 show bW P w H h a (.dK kvs) from yG ok e
theorem ai3 {kvs:List (aJ × V)} (ok:bO P w H h) (e:H a=some (.dK kvs)):kvs.length<=sizeLine/\(a == sysModules)=false/\∃ vs,KV kvs vs/\h.DictOf (eD P w) a vs:=kH ok (.inl e)
theorem lK {ks:List aJ} (ok:bO P w H h) (e:H a=some (.tup (ks.map kV))):(tupleKind (eD P w)).is h ks a:=by
 obtain ⟨_,its,r,⟨o,h1,h2,n,h3⟩,_⟩:=(show bW P w H h a (.tup (ks.map kV)) from ok a _ e)
 exact⟨o,its.toArray,n,h1,h2,h3,by simpa using yF r⟩
theorem lL {kvs:List (List aJ × V)} (ok:bO P w H h) (e:Rd H a (.dT kvs)):kvs.length<=sizeLine/\(a == sysModules)=false/\
  ∃ xs,KT H kvs xs/\h.DictOfH (tupleKind (eD P w)) a xs:=by
 obtain ⟨z,y,xs,r,o,es,ep,h1,h2,h3,h4,h5⟩:=(show bW P w H h a (.dT kvs) from yG ok e)
 refine⟨z,y,xs,r,o,es,ep,h1,h2,h3,h4,fun x hx=>?_,h5⟩
 have all:∀ {l:List (List aJ × V)}{m:List (List aJ × Addr × Value)},KT H l m->∀ x ∈ m,(tupleKind (eD P w)).is h x.1 x.2.1:=by
  intro l m q
  induction q with
  | nil=>intro x hx; exact nomatch hx
  | @cons p q ps qs hq t ih=>
   intro x hx
   rcases aR7.mp hx with e | hx
   ·subst e
    exact lK ok (by rw [<- hq.1]; exact hq.2.1)
   ·exact ih x hx
 exact all r x hx
theorem yH {kvs:List (List aJ × V)} (ok:bO P w H h) (e:H a=some (.dT kvs)):kvs.length<=sizeLine/\(a == sysModules)=false/\
  ∃ xs,KT H kvs xs/\h.DictOfH (tupleKind (eD P w)) a xs:=lL ok (.inl e)
end
def fG (H:Hp) (a:Addr) (y:V) (r:Option V):Prop:=
 (∃ kvs k,Rd H a (.dK kvs)/\y=kV k/\r=eQ kvs k) ∨ ∃ kvs k b,Rd H a (.dT kvs)/\y = .ref b/\H b=some (.tup (k.map kV))/\r=eQ kvs k
def nA (H:Hp) (a:Addr) (y v:V) (H':Hp):Prop:=
 (∃ kvs k,H a=some (.dK kvs)/\y=kV k/\kvs.length < sizeLine/\H'=upd H a (.dK (fF kvs k v))) ∨
 ∃ kvs k b,H a=some (.dT kvs)/\y = .ref b/\H b=some (.tup (k.map kV))/\kvs.length < sizeLine/\H'=upd H a (.dT (fF kvs k v))
theorem fG.k {H:Hp}{a:Addr}{kvs:List (aJ × V)}{k:aJ} (e:H a=some (.dK kvs)):fG H a (kV k) (eQ kvs k):=.inl ⟨kvs,k,.inl e,rfl,rfl⟩
theorem fG.t {H:Hp}{a b:Addr}{kvs:List (List aJ × V)}{k:List aJ} (e:H a=some (.dT kvs)) (eb:H b=some (.tup (k.map kV))):fG H a (.ref b) (eQ kvs k):=.inr ⟨kvs,k,b,.inl e,rfl,eb,rfl⟩
theorem nA.t {H:Hp}{a b:Addr}{kvs:List (List aJ × V)}{k:List aJ}{v:V} (e:H a=some (.dT kvs)) (eb:H b=some (.tup (k.map kV))) (hl:kvs.length < sizeLine) :
  nA H a (.ref b) v (upd H a (.dT (fF kvs k v))):=.inr ⟨kvs,k,b,e,rfl,eb,hl,rfl⟩
section
variable {X : Cx} {pins : List (Addr × Obj)} {σ : St} {H : Hp} {s : Shared} {a : Addr} {y v : V} {u r : Value} {o : Option V} {A : Around} {E : Value → Shared → Prop}
theorem aA.big (I:aA X pins σ H s):sysModules < s.heap.objs.size:=by
 have h:mainGlobals < s.heap.objs.size:=(I.mod.glob.keeps I.bk).lt
 exact Nat.lt_trans (by decide) h
theorem ai4 {Q:Value->Shared->Prop} (hu:A.units+1 < cLine) (I:aA X pins σ H s) (g:fG H a y (some v)) (ry:aU y u) (h:∀ w' s',aA X pins σ H s'->aU v w'->Q w' s') :
  wpAny (model X.prog X.w) A (getItem (.ref a) u) Q E s:=by
 rcases g with ⟨kvs,k,e,ey,l⟩ | ⟨kvs,k,b,e,ey,eb,l⟩
 ·subst ey
  obtain ⟨z,hd,vs,rel,dd⟩:=kH I.hok e
  obtain ⟨w',hw,rw'⟩:=fU.some_of (v:=v) (o:=valueAt vs k) (by rw [l]; exact rel.val k)
  exact wpAny_getItem_of (mZ ry) dd.mapOf hw (h w' _ (I.tok _) rw')
 ·subst ey
  cases (show u=Value.ref b from ry)
  obtain ⟨z,hd,xs,rel,dd⟩:=lL I.hok e
  obtain ⟨w',hw,rw'⟩:=fU.some_of (v:=v) (o:=(atKey xs k).map (·.2)) (by rw [l]; exact rel.val k)
  obtain ⟨p,hp,hp2⟩:=Option.map_eq_some_iff.mp hw
  refine wpAny_getItem_heap (tupleKind_room_in1 hu) (lK I.hok eb) dd hp ?_
  rw [hp2]
  exact h w' _ (I.tok _) rw'
theorem ai5 {Q:Value->Shared->Prop} (hu:A.units+1 < cLine) (I:aA X pins σ H s) (g:fG H a y o) (ry:aU y u) (h:∀ s',aA X pins σ H s'->Q (.bool (!o.isSome)) s') :
  wpAny (model X.prog X.w) A (compareOp .NotIn u (.ref a)) Q E s:=by
 rcases g with ⟨kvs,k,e,ey,l⟩ | ⟨kvs,k,b,e,ey,eb,l⟩
 ·subst ey
  obtain ⟨z,hd,vs,rel,dd⟩:=kH I.hok e
  refine wpAny_notIn_of (mZ ry) hd dd.mapOf ?_
  rw [<- (rel.val k).isSome_eq,<- l]
  exact h _ (I.tok _)
 ·subst ey
  cases (show u=Value.ref b from ry)
  obtain ⟨z,hd,xs,rel,dd⟩:=lL I.hok e
  refine wpAny_notIn_heap (tupleKind_room_in1 hu) (lK I.hok eb) hd dd ?_
  have q:=(rel.val k).isSome_eq
  rw [Option.isSome_map] at q
  rw [<- q,<- l]
  exact h _ (I.tok _)
theorem sX {h':Heap}{t':Nat}{ob:HO} (I:aA X pins σ H s) (mu:mT (H a)) (hs:Heap.SameBut a s.heap h') (he:∃ q,h'.get? a=some q) (new:bW X.prog X.w (upd H a ob) h' a ob) :
  aA X pins σ (upd H a ob) { s with heap:=h',toks:=t' }:=
 I.write (x:=a) (e:=a) mu (.inl rfl) (fun b q hb z=>(hs.2 b hb).trans z) he new
theorem ai6 {P:Program}{w:World}{H':Hp}{h':Heap}{kvs:List (aJ × V)}{vs:List (aJ × Value)} (z:kvs.length<=sizeLine) (hd:(a == sysModules)=false) (rel:KV kvs vs) (dd:h'.DictOf (eD P w) a vs) :
  bW P w H' h' a (.dK kvs):=⟨z,hd,vs,rel,dd⟩
theorem ai7 {H':Hp}{Q:Unit->Shared->Prop} (hu:A.units+1 < cLine) (I:aA X pins σ H s) (g:nA H a y v H') (ry:aU y u) (rv:aU v r) (h:∀ s',aA X pins σ H' s'->Q () s') :
  wpAny (model X.prog X.w) A (setItem (.ref a) u r) Q E s:=by
 rcases g with ⟨kvs,k,e,ey,l,eH⟩ | ⟨kvs,k,b,e,ey,eb,l,eH⟩
 ·subst ey eH
  obtain ⟨z,hd,vs,rel,dd⟩:=ai3 I.hok e
  have hz:vs.length<=sizeLine:=by rw [<- rel.length]; exact z
  have hl:(fF kvs k v).length<=sizeLine:=by have:=yE kvs k v; omega
  refine wpAny_setItem_pairs (hsz:=hz) (mZ ry) dd fun h' dd' hs=>h _ ?_
  have he:∃ q,h'.get? a=some q:=let ⟨q,_,_,hq,_⟩:=dd'; ⟨q,hq⟩
  exact sX I (by rw [e]; exact bh3) hs he (ai6 hl hd (rel.put k rv) dd')
 ·subst ey eH
  cases (show u=Value.ref b from ry)
  obtain ⟨z,hd,xs,rel,dd⟩:=yH I.hok e
  have hz:xs.length<=sizeLine:=by rw [<- Paired.length rel]; exact z
  have hl:(fF kvs k v).length<=sizeLine:=by have:=yE kvs k v; omega
  refine wpAny_setItem_heap (hsz:=hz) (tupleKind_room_in1 hu) (lK I.hok eb) dd fun h' dd' hs=>h _ ?_
  obtain ⟨q,es,ep,hq,h2,h3,h4,_,h5⟩:=dd'
  refine sX I (by rw [e]; exact bh3) hs ⟨q,hq⟩ ⟨hl,hd,_,(rel.put k eb rv).keeps fun c ys ec=>?_,q,es,ep,hq,h2,h3,h4,h5⟩
  rw [b8 (wC ec e (fun z=>nomatch z))]
  exact ec
end
section
variable {X : Cx} {pins : List (Addr × Obj)} {σ : St} {H : Hp} {s : Shared} {a : Addr} {kvs : List (aJ × V)} {k : aJ} {u : Value} {A : Around} {E : Value → Shared → Prop}
theorem ai8 {Q:Value->Shared->Prop} (I:aA X pins σ H s) (e:Rd H a (.dK kvs)) (h:∀ t s',aA X pins σ H s'->Q (.int kvs.length t) s'):wpAny (model X.prog X.w) A (call (.builtin "len") [.ref a]) Q E s:=by
 obtain ⟨z,hd,vs,rel,dd⟩:=kH I.hok e
 refine call_len_dict hd dd (by rw [<- rel.length]; rw [sizeLine_eq] at z; omega) ?_
 rw [<- rel.length]
 exact h _ _ (I.tok _)
end
def sY (i:Expr):Prop:=∀ ov iv,subscripted i false ov iv=operate [ov,iv] (getItem ov iv)
theorem ai9 {prog:Program}{w:World}{A:Around}{E:Value->Shared->Prop}{s:Shared}{env:Env}{value slice:Expr}{pos:Pos}{T id:String}{Q:Value->Shared->Prop}
  (hl:typeLookup (.type T) "__getitem__" = pure (some (.builtin id))) (hs:sY slice)
  (h:wpAny (model prog w) A (eval value env) (fun o s₁=>wpAny (model prog w) A (eval slice env) (fun i s₂=>s₂.TypeIs o T/\wpAny (model prog w) A (getItem o i) Q E s₂) E s₁) E s) :
  wpAny (model prog w) A (eval (.Subscript value slice pos) env) Q E s:=by
 refine Subscript_ (aZ1 h (fun o s₁ h₁=>aZ1 h₁ (fun i s₂ h₂=>?_) fun _ _ x=>x) fun _ _ x=>x)
 obtain ⟨hT,h₂⟩:=h₂
 unfold subscriptTail
 refine aQ9 ?_
 rw [getitemInPython_of_ne hT.not_modules]
 refine aQ9 (wpAny_specialOf hT hl ?_)
 have fin:wpAny (model prog w) A (subscripted slice false o i) (fun r s₃=>wpAny (model prog w) A (letTemporaryGo value o r >>= fun _=>pure r) Q E s₃) E s₂:=by
  rw [hs o i]
  exact wpAny_operating (aZ1 h₂ (fun r s₃ h₃=>aQ9 (wpAny_letTemporaryGo (aR4 h₃))) fun _ _ x=>x)
 first
  | exact aR4 (aQ9 fin)
  | exact aQ9 (aR4 (aQ9 fin))
  | exact aQ9 fin
theorem aj0 {X:Cx}{pins:List (Addr × Obj)}{σ:St}{H:Hp}{s:Shared}{a:Addr}{y:V}{o:Option V} (I:aA X pins σ H s) (g:fG H a y o):s.TypeIs (.ref a) "dict":=by
 rcases g with ⟨kvs,k,e,_,_⟩ | ⟨kvs,k,b,e,_,_,_⟩
 ·obtain ⟨_,_,vs,_,dd⟩:=kH I.hok e
  exact dd.typeIs
 ·obtain ⟨_,_,xs,_,dd⟩:=lL I.hok e
  exact dd.typeIs
def yI (td ty:TE):TE:=fun σ H Q=>td σ H fun x H1=>ty σ H1 fun y H2=>∃ a v,x = .ref a/\fG H2 a y (some v)/\Q v H2
def yJ (ty td:TE):TE:=fun σ H Q=>ty σ H fun y H1=>td σ H1 fun x H2=>∃ a o,x = .ref a/\fG H2 a y o/\Q (.bl (!o.isSome)) H2
def yK (td ty tv:TE):TS:=fun D σ H=>tv σ H fun v H1=>td σ H1 fun x H2=>ty σ H2 fun y H3=>∃ a H4,x = .ref a/\nA H3 a y v H4/\D.nx σ H4
section
variable {X : Cx} {o i e value : Expr} {pos pos' tpos : Pos} {td ty tv : TE}
theorem aj1 (hu:X.A.units+1 < cLine) (ho:PE X o td) (hi:PE X i ty) (hs:sY i):PE X (.Subscript o i pos) (yI td ty):=by
 intro pins s σ H Q I h
 refine ai9 PySem.F.slot_dict_getitem.lookup hs (aQ (ho pins s σ H _ I h) fun u s1 ⟨x,H1,I1,rx,q1⟩=>aQ (hi pins s1 σ H1 _ I1 q1) fun iv s2 ⟨y,H2,I2,ry,a,v,ex,g,q2⟩=>?_)
 subst ex
 obtain rfl:u=Value.ref a:=rx
 exact⟨aj0 I2 g,ai4 hu I2 g ry fun w' s3 I3 rw'=>⟨v,H2,I3,rw',q2⟩⟩
theorem aj2 (hu:X.A.units+1 < cLine) (hi:PE X i ty) (ho:PE X o td):PC X .NotIn i o (yJ ty td):=by
 intro pins s σ H Q I h
 refine aQ (hi pins s σ H _ I h) fun iv s1 ⟨y,H1,I1,ry,q1⟩=>aQ (ho pins s1 σ H1 _ I1 q1) fun u s2 ⟨x,H2,I2,rx,a,ov,ex,g,q2⟩=>?_
 subst ex
 obtain rfl:u=Value.ref a:=rx
 exact ai5 hu I2 g ry fun s3 I3=>⟨.bl (!ov.isSome),H2,I3,rfl,q2⟩
theorem aj3 (hu:X.A.units+1 < cLine) (ho:PE X o td) (hi:PE X i ty) (hv:PE X value tv) (hs:swapsWith value (some (.Subscript o i pos')) pos.line X.env=pure false) :
  PS X (.Assign [.Subscript o i pos'] value pos) (yK td ty tv):=by
 intro pins s σ H D I h
 refine wpAny_Assign_Subscript (aQ (hv pins s σ H _ I h) fun r s1 ⟨v,H1,I1,rv,q1⟩=>aQ (ho pins s1 σ H1 _ I1 q1) fun u s2 ⟨x,H2,I2,rx,q2⟩=>aQ (hi pins s2 σ H2 _ I2 q2) fun iv s3 ⟨y,H3,I3,ry,a,H4,ex,g,q3⟩=>?_) hs
 subst ex
 obtain rfl:u=Value.ref a:=rx
 exact ai7 hu I3 g ry rv fun s4 I4=>⟨σ,H4,I4,q3⟩
end
theorem aj4 {P:Program}{w:World}{H:Hp} (h:Heap) (hb:sysModules < h.objs.size):bW P w H (h.push { cls:=.type "dict",data:=.dict #[] }) h.objs.size (.dT []):=
 ⟨ba7 _,beq_eq_false_iff_ne.mpr (Ne.symm (aU5 hb)),[],.nil,_,#[],0,aS7 _ rfl,⟨rfl,rfl,rfl⟩,rfl,rfl,List.nodup_nil⟩
def yL:TE:=fun _ H Q=>∀ p,H p=none->Q (.ref p) (upd H p (.dT []))
section
variable {X : Cx} {pos : Pos}
theorem aj5:PE X (.Dict [] [] pos) yL:=fun pins s σ H Q I h=>
 wpAny_Dict_empty ⟨.ref s.heap.objs.size,_,I.laid (a:=s.heap.objs.size) (o:=.dT []) (t':=s.toks) (fun _ _ q=>aR1 _ q) (aS4 _) (aj4 s.heap I.big),rfl,h _ (I.hok.fresh (aS4 _))⟩
end
structure M1 (X:Cx) (o:Expr) (m:Str) (apos:Pos) (e:Expr) (cpos:Pos):Prop where
 base:attributeBase o m X.env (eval o X.env)=eval o X.env
 few:((backTo cpos (starEach [e] X.env)).all (fun x=>!x.1) && (backToKw cpos (keywordEach [] X.env)).all (fun x=>x.1.isSome)
  && decide (([e]:List Expr).length+([]:List Keyword).length+(if ([]:List Keyword).isEmpty then 0 else 1) < 30))=true
 line:(apos.endLine == cpos.line)=true
 trees:backTo cpos (starEach [e] X.env) = [(false,eval e X.env)]
structure M2 (X:Cx) (o:Expr) (m:Str) (apos:Pos) (e f:Expr) (cpos:Pos):Prop where
 base:attributeBase o m X.env (eval o X.env)=eval o X.env
 few:((backTo cpos (starEach [e,f] X.env)).all (fun x=>!x.1) && (backToKw cpos (keywordEach [] X.env)).all (fun x=>x.1.isSome)
  && decide (([e,f]:List Expr).length+([]:List Keyword).length+(if ([]:List Keyword).isEmpty then 0 else 1) < 30))=true
 line:(apos.endLine == cpos.line)=true
 trees:backTo cpos (starEach [e,f] X.env) = [(false,eval e X.env),(false,eval f X.env)]
def sZ (H:Hp) (a:Addr):Prop:=(∃ kvs,Rd H a (.dK kvs)) ∨ ∃ kvs,Rd H a (.dT kvs)
theorem yM {X:Cx}{pins:List (Addr × Obj)}{σ:St}{H:Hp}{s:Shared}{a:Addr} (I:aA X pins σ H s) (d:sZ H a) :
  s.TypeIs (.ref a) "dict"/\(∀ b,Value.ref a = .ref b->∃ ob,s.heap.get? b=some ob/\ob.dict=none)/\(a == sysModules)=false:=by
 rcases d with ⟨kvs,e⟩ | ⟨kvs,e⟩
 ·obtain ⟨_,hd,vs,_,dd⟩:=kH I.hok e
  refine⟨dd.typeIs,fun b q=>?_,hd⟩
  cases q
  obtain ⟨ob,_,_,h1,h2,_⟩:=dd
  exact⟨ob,h1,h2.2.1⟩
 ·obtain ⟨_,hd,xs,_,dd⟩:=lL I.hok e
  refine⟨dd.typeIs,fun b q=>?_,hd⟩
  cases q
  obtain ⟨ob,_,_,h1,h2,_⟩:=dd
  exact⟨ob,h1,h2.2.1⟩
section
variable {X : Cx} {pins : List (Addr × Obj)} {σ : St} {H : Hp} {s : Shared} {a : Addr} {y d : V} {u r : Value} {o : Option V} {A : Around} {E : Value → Shared → Prop}
theorem aj6 {Q:Value->Shared->Prop} (hu:A.units+1 < cLine) (I:aA X pins σ H s) (g:fG H a y o) (ry:aU y u) (rd:aU d r) (h:∀ w' s',aA X pins σ H s'->aU (o.getD d) w'->Q w' s') :
  wpAny (model X.prog X.w) A (call (.builtin "dict.get") [.ref a,u,r]) Q E s:=by
 rcases g with ⟨kvs,k,e,ey,l⟩ | ⟨kvs,k,b,e,ey,eb,l⟩
 ·subst ey
  obtain ⟨z,hd,vs,rel,dd⟩:=kH I.hok e
  refine call_meetsIn PySem.F.slot_dict_get dd.typeIs PySem.F.entry_dict_get (PySem.F.args_dict_get_3 _ _ _) (meets_dict_get_default (eD X.prog X.w) a (mZ ry) hd r) ⟨_,dd.mapOf,h _ _ (I.tok _) ?_⟩
  rw [l]
  exact (rel.val k).getD rd
 ·subst ey
  cases (show u=Value.ref b from ry)
  obtain ⟨z,hd,xs,rel,dd⟩:=lL I.hok e
  refine call_meetsIn PySem.F.slot_dict_get dd.typeIs PySem.F.entry_dict_get (PySem.F.args_dict_get_3 _ _ _) (meetsH_dict_get_default (tupleKind (eD X.prog X.w)) a b hd r) ⟨tupleKind_room_in1 hu,k,xs,lK I.hok eb,dd,h _ _ (I.tok _) ?_⟩
  rw [l]
  exact (rel.val k).getD rd
end
def yN (td ty tx:TE):TE:=fun σ H Q=>td σ H fun x H1=>∃ a,x = .ref a/\sZ H1 a/\ty σ H1 fun y H2=>tx σ H2 fun z H3=>∃ o,fG H3 a y o/\Q (o.getD z) H3
section
variable {X : Cx} {o e f : Expr} {apos cpos : Pos} {td ty tx : TE}
theorem aj7 (hu:X.A.units+1 < cLine) (ho:PE X o td) (he:PE X e ty) (hf:PE X f tx) (m:M2 X o "get" apos e f cpos):PE X (.Call (.Attribute o "get" apos) [e,f] [] cpos) (yN td ty tx):=by
 intro pins s σ H Q I h
 refine wpAny_Call_method m.base m.few m.line PySem.F.plainAttrs_dict PySem.F.slot_dict_get PySem.F.type_dict_get (aQ (ho pins s σ H _ I h) fun u s1 ⟨x,H1,I1,rx,a,ex,d,q1⟩=>?_)
 subst ex
 obtain rfl:u=Value.ref a:=rx
 obtain ⟨t1,t2,_⟩:=yM I1 d
 refine⟨t1,t2,?_⟩
 rw [m.trees]
 refine Calls.callWith_builtin rfl (Calls.evalArgs_plain (Calls.spliced_cons (aQ (he pins s1 σ H1 _ I1 q1) fun iv s2 ⟨y,H2,I2,ry,q2⟩=>
  Calls.spliced_cons (aQ (hf pins s2 σ H2 _ I2 q2) fun fv s3 ⟨z,H3,I3,rz,ov,g,q3⟩=>Calls.spliced_nil ?_))))
 exact aj6 hu I3 g ry rz fun w' s4 I4 rw'=>⟨_,H3,I4,rw',q3⟩
end
end L2
namespace Att
open PySem PySem.W PySem.Calls PyProof.Rows
theorem aj8 {P:Params}{h:Heap}:∀ (ns:List Int) (vs:List Value),WellAll P h vs (ns.map WData.int)->IntsAre vs ns:=by
 intro ns
 induction ns with
 | nil=>
  intro vs w
  rw [List.map_nil] at w
  cases w
  exact .nil
 | cons n ns ih=>
  intro vs w
  rw [aW8] at w
  cases w with
  | cons a b=>
   cases a
   exact .cons _ _ (ih _ b)
theorem yO {l:OpenLaw}{n:Nat} (hn:l.most=some n) {P:Params}{h:Heap}{args:List WData}{vals:List Value}
  (hpre:l.row.toRowW.claim.pre args=true) (hwl:WellAll P h vals args) :
  ∃ a vs ns,vals = [Value.ref a]/\args = [WData.list (ns.map WData.int)]/\h.get? a=some { cls:=.type "list",data:=.seq vs.toArray }/\IntsAre vs ns/\ns.length<=n:=by
 have hsh:WShape.hasAll [] args [.list .int]=true:=(pre_splitW hpre).1
 have hc:l.pre.holds [] { args:=args }=true:=(pre_splitW hpre).2
 obtain ⟨d,r,rfl,h1,h2⟩:=hasAllW_cons hsh
 obtain rfl:=hasAllW_nil h2
 obtain ⟨xs,rfl,h3⟩:=hasW_list h1
 obtain ⟨ns,rfl⟩:=items_int h3
 have hlen:ns.length<=n:=by
  unfold OpenLaw.pre at hc
  have h4:(WTm.not (.lt (.lit (.int (n:Int))) (.len (.arg 0)))).holds [] { args:=[.list (ns.map .int)] }=true:=by
   have h4:=(holds_andW hc).1
   rw [hn] at h4
   exact h4
  have h5:=condW_of h4 (w_not (w_lt w_lit (w_len_list (w_arg rfl))))
  rw [aS1] at h5
  refine Nat.le_of_not_lt fun q=>?_
  have q':(n:Int) < ((ns.length:Nat):Int):=by omega
  first
   | (rw [aR3 q'] at h5; exact absurd h5 (by decide))
   | (simp at h5; omega)
 cases hwl with
 | cons w1 w2=>
  cases w2
  cases w1 with
  | list ho hall=>exact⟨_,_,ns,rfl,rfl,ho,aj8 ns _ hall,hlen⟩
theorem yP (l:OpenLaw) (args:List WData):l.row.toRowW.claim.post args (.bool true) args=true:=
 postW_of (r:=l.row.toRowW) (X:=(true == true))
  (show WShape.has [] (.bool true) .bool=true by first | rfl | decide | simp [WShape.has,WShape.arms,WShape.armsAll])
  (show (WTm.eq .res (.lit (.bool true))).value [] { args:=args,res:=some (.bool true),after:=args }=some (.bool (true == true)) from w_eq_bool (w_res rfl) w_lit) rfl
theorem aQ8 {l:OpenLaw}{n:Nat}{q:Program}{loose:List Str}{XP:(Str->Option Value)->Heap->Prop}{YP:World->Heap->Prop}{d:DefRec}{x:Str}
  (hn:l.most=some n) (hdf:d.params.defaults = [])
  (hbind:∀ pm cd doc v:Value,bindArgs (docDef d.name d.params d.body d.scope pm cd doc) ⟨[v],[]⟩=pure [(x,v)])
  (hx:d.scope.names.lookup x=some .local ∨ d.scope.names.lookup x=some .cell)
  (hk:d.scope.kind = .function) (hco:d.scope.isCoroutine=false) (hgen:d.scope.isGenerator=false)
  (body:∀ (w:World) (s₀ s₁ s:Shared) (mg mb:Str->Option Value) (fa:Addr) (o:Obj) (pm cd doc:Value) (a:Addr) (vs:List Value) (ns:List Int),
   Ground q loose [] XP w s₀ mg mb s₁.heap->YP w s₁.heap->
   s₁.heap.get? fa=some o->o.data = .func (docDef d.name d.params d.body d.scope pm cd doc)->s₁.heap.CodeRec cd d.name->mg d.name=some (.ref fa)->
   s₁.heap.get? a=some { cls:=.type "list",data:=.seq vs.toArray }->IntsAre vs ns->ns.length<=n->
   s.gens = #[]->s.os=s₁.os->
   Fr s₁.heap s₁.heap.objs.size s.heap (bindL (envOfC d.name d.scope s₁.heap.objs.size fa cd).kindOf [(x,.ref a)] fun _=>none)->
   Cl s₁.heap.objs.size (cellsFrom (s₁.heap.objs.size+1) d.scope.names []) s.heap (bindC (envOfC d.name d.scope s₁.heap.objs.size fa cd).kindOf [(x,.ref a)] fun _=>none)->
   wpAny (model l.prog w) (callerA.deeper (envOfC d.name d.scope s₁.heap.objs.size fa cd)) (execs d.body (envOfC d.name d.scope s₁.heap.objs.size fa cd))
    (fun f s'=>f = .ret (.bool true)/\OldK s₁.heap s'.heap/\s'.os=s₁.os/\AllBare s'.gens) (fun _ _=>False) s) :
  WalkO q loose XP YP l.row.toRowW d [] (fun f vs=>PySem.call f vs):=by
 intro w s₀ s₁ mg mb G Y fa o pm cd doc dV kV ho hd hcd hD hmg hg args vals as hpre hlay hrd hwl hlo
 obtain rfl:dV = .none:=Dflts.none hD hdf
 obtain rfl:kV = .none:=Dflts.noKw hD
 obtain ⟨a,vs,ns,rfl,rfl,hobj,hints,hlen⟩:=yO hn hpre hwl
 refine enter_call ?_
 refine call_cells_ret (o:=o) (by rw [depth_caller]; decide) ho (fd_plain hd) G.T.nolimit hcd (hbind pm cd doc (.ref a)) (fun y hy=>?_) (fun h₁ tk F X=>?_) hco hgen hk
 ·obtain rfl:y=(x,Value.ref a):=aR9.mp hy
  rcases hx with e | e
  ·exact .inl e
  ·exact .inr ⟨e,cellsFrom_some _ _ _ (.inl e)⟩
 ·refine aZ1 (body w s₀ s₁ { s₁ with heap:=h₁,toks:=tk } mg mb fa o pm cd doc a vs ns G Y ho (fd_plain hd) hcd hmg hobj hints hlen hg rfl F X) (fun f s' hq=>?_) (fun _ _ hq=>hq)
  obtain ⟨rfl,h2,h3,h4⟩:=hq
  exact⟨.inl ⟨.bool true,.bool true,[],rfl,fun _=>rfl,.bool true,yP l _,fun _=>⟨be3,fun _ hm=>(nomatch hm)⟩⟩,h2,h3,h4⟩
theorem aj9 {l:OpenLaw}{n:Nat}{q:Program}{loose:List Str}{XP:(Str->Option Value)->Heap->Prop}{YP:World->Heap->Prop}{d:DefRec}
  (hn:l.most=some n) (hdf:d.params.defaults = [])
  (call:∀ (w:World) (s₀ s₁:Shared) (mg mb:Str->Option Value) (fa:Addr) (o:Obj) (pm cd doc:Value) (a:Addr) (vs:List Value) (ns:List Int),
   Ground q loose [] XP w s₀ mg mb s₁.heap->YP w s₁.heap->
   s₁.heap.get? fa=some o->o.data = .func (docDef d.name d.params d.body d.scope pm cd doc)->s₁.heap.CodeRec cd d.name->mg d.name=some (.ref fa)->
   s₁.heap.get? a=some { cls:=.type "list",data:=.seq vs.toArray }->IntsAre vs ns->ns.length<=n->s₁.gens = #[]->
   codeAny (model l.prog w) callerA (.call (.ref fa) ⟨[.ref a],[]⟩) (fun r s'=>r = .ok (.ret (.bool true))/\OldK s₁.heap s'.heap/\s'.os=s₁.os/\AllBare s'.gens) s₁) :
  WalkO q loose XP YP l.row.toRowW d [] (fun f vs=>PySem.call f vs):=by
 intro w s₀ s₁ mg mb G Y fa o pm cd doc dV kV ho hd hcd hD hmg hg args vals as hpre hlay hrd hwl hlo
 obtain rfl:dV = .none:=Dflts.none hD hdf
 obtain rfl:kV = .none:=Dflts.noKw hD
 obtain ⟨a,vs,ns,rfl,rfl,hobj,hints,hlen⟩:=yO hn hpre hwl
 refine enter_call (codeAny_mono (call w s₀ s₁ mg mb fa o pm cd doc a vs ns G Y ho (fd_plain hd) hcd hmg hobj hints hlen hg) fun r s' hq=>?_)
 obtain ⟨rfl,h2,h3,h4⟩:=hq
 exact⟨.inl ⟨.bool true,.bool true,[],rfl,fun _=>rfl,.bool true,yP l _,fun _=>⟨be3,fun _ hm=>(nomatch hm)⟩⟩,h2,h3,h4⟩
end Att
namespace L2
open PySem PySem.Spec PyProof.Rows
theorem yQ:∀ {vs:List Value}{ns:List Int},IntsAre vs ns->aR (ns.map V.int) vs
 | _,_,.nil=>.nil
 | _,_,.cons n t h=>.cons ⟨t,rfl⟩ (yQ h)
def oT (H:Hp):Prop:=∀ b,H b=none ∨ ∃ o xs,H b=some (.frz o (.lst xs))
theorem ak0 {P:Program}{w:World}{K:PySem.W.Frag}{mg mb:Str->Option Value}{CX:gG}{k:Nat}{fa a:Addr}{fd:FuncData}{x:Str}{sp:Sp}{s₁:Shared}{vs:List Value}{ns:List Int}
  (KX:K.In s₁.heap) (hns:s₁.heap.Ns mainGlobals mg) (hb:s₁.heap.Ns builtinsNs mb) (hbb:∀ x:Str,x ≠ "__name__"->mb x=bootBuiltins x) (hlim:s₁.heap.NoLimit) (hg:s₁.gens = #[])
  (ha:s₁.heap.get? a=some { cls:=.type "list",data:=.seq vs.toArray }) (hi:IntsAre vs ns) (hl:ns.length<=sizeLine) (hr:cD k callerA)
  (F:∀ base:Heap,K.In base->base.Ns mainGlobals mg->dO P w K mg base CX k fa fd [x] sp) (hbind:∀ (s:Shared) (u:Value),BindsTo s fd ⟨[u],[]⟩ [(x,u)])
  (hsp:∀ H:Hp,oT H->aW K H a (ns.map V.int)->sp [.ref a] H (fun v _=>v = .bl true) fun _ _ _=>False)
  (hCX:∀ H e s',CX [] H s₁ (fun _ _ _=>False) e s'->False) :
  codeAny (model P w) callerA (.call (.ref fa) ⟨[.ref a],[]⟩) (fun r s'=>r = .ok (.ret (.bool true))/\OldK s₁.heap s'.heap/\s'.os=s₁.os/\AllBare s'.gens) s₁:=by
 have rv:=yQ hi
 have lenV:=hi.length
 have core:∀ H:Hp,oT H->aW K H a (ns.map V.int)->bO P w H s₁.heap->(∀ b,H b ≠ none->b=a)->(H a ≠ none->K.lookup a=none)->
   codeAny (model P w) callerA (.call (.ref fa) ⟨[.ref a],[]⟩) (fun r s'=>r = .ok (.ret (.bool true))/\OldK s₁.heap s'.heap/\s'.os=s₁.os/\AllBare s'.gens) s₁:=by
  intro H hO hS hok hA hK
  have base_of:∀ {b:Addr}{o:Obj},s₁.heap.get? b=some o->H b=none->(iI s₁.heap H).get? b=some o:=fun e n=>Z8 e n
  have noA:∀ {b:Addr}{o:Obj}{es:Array DictEntry}{ep:Nat},s₁.heap.get? b=some o->o.data = .dict es ep->H b=none:=fun {b o es ep} e d=>by
   cases q:H b with
   | none=>rfl
   | some u=>
    have e':b=a:=hA b (by rw [q]; simp)
    subst e'
    rw [ha] at e; cases e
    have d':Data.seq vs.toArray _=Data.dict es ep:=d
    cases d'
  have nsK:∀ {b:Addr}{m:Str->Option Value},s₁.heap.Ns b m->(iI s₁.heap H).Ns b m:=fun {b m} ⟨o,es,ep,e,d,r⟩=>⟨o,es,ep,base_of e (noA e d),d,r⟩
  have hKb:K.In (iI s₁.heap H):=fun b o e=>base_of (KX b o e) (by
   cases q:H b with
   | none=>rfl
   | some u=>
    have e':b=a:=hA b (by rw [q]; simp)
    subst e'
    rw [hK (by rw [q]; simp)] at e; cases e)
  have hM:Mod K mg (iI s₁.heap H):=⟨hKb,nsK hns,⟨mb,nsK hb,hbb⟩,let ⟨mc,h1,h2⟩:=hlim; ⟨mc,nsK h1,h2⟩⟩
  have e0:oQ P w K mg (iI s₁.heap H) callerA [] s₁ H:=⟨rfl,hM,fun b o e=>Z9 e,Nat.le_of_eq (Z7 _ _),trivial,fun b hb=>absurd (show b ∈ ([]:List Addr) from hb) (by simp),hok,.of_eq hg⟩
  refine codeAny_mono ((F _ hKb (nsK hns)).run callerA [] s₁ H ⟨[.ref a],[]⟩ [.ref a] [.ref a] _ _ hr e0 (hbind s₁ (.ref a)) (.cons rfl .nil) (hsp H hO hS)) fun r s' h=>?_
  cases r with
  | error e=>exact (hCX H e s' h).elim
  | ok fl=>
   cases fl with
   | next=>exact False.elim h
   | brk=>exact False.elim h
   | cont=>exact False.elim h
   | ret u=>
    obtain ⟨v,H',os,bare,un,hok',r',q⟩:=h
    have q':v = .bl true:=q
    subst q'
    obtain rfl:u=Value.bool true:=r'
    refine⟨rfl,OldK.of_keep fun b o e=>?_,os,bare⟩
    cases q:H b with
    | none=>exact un.keep b o e q (by intro z; exact absurd (show b ∈ ([]:List Addr) from z) (by simp)) (by simp)
    | some u=>
     rcases hO b with z | ⟨ob,xs,z⟩
     ·rw [q] at z; cases z
     ·have z2:=un.frzs b ob _ z
      obtain ⟨e1,_⟩:=hok b _ z
      obtain ⟨e2,_⟩:=hok' b _ z2
      rw [e] at e1; cases e1
      exact e2
 cases hk:K.lookup a with
 | some o=>
  have e:=KX a o hk
  rw [ha] at e
  cases e
  refine core (fun _=>none) (fun _=>.inl rfl) (.inr ⟨_,vs.toArray,_,hk,rfl,rfl,rfl,by rw [aR8,lenV]; exact hl,by simpa using rv⟩) (fun b u z=>by have z':(none:Option HO)=some u:=z; cases z') (fun b z=>absurd rfl z) fun z=>absurd rfl z
 | none=>
  refine core (fun b=>if b=a then some (.frz { cls:=.type "list",data:=.seq vs.toArray } (.lst (ns.map V.int))) else none) (fun b=>?_) (.inl (.inr ⟨{ cls:=.type "list",data:=.seq vs.toArray },if_pos rfl⟩)) (fun b u z=>?_) (fun b z=>?_) fun _=>hk
  ·by_cases hb:b=a
   ·exact .inr ⟨_,_,if_pos hb⟩
   ·exact .inl (if_neg hb)
  ·by_cases hb:b=a
   ·have z':=(if_pos hb).symm.trans z
    cases z'
    subst hb
    exact⟨ha,by rw [aS1]; exact hl,vs,_,rv,ha⟩
   ·have z':=(if_neg hb).symm.trans z
    cases z'
  ·by_cases hb:b=a
   ·exact hb
   ·exact absurd (if_neg hb) z
theorem ak1 {l:PySem.W.OpenLaw}{n k:Nat}{q:Program}{loose:List Str}{XP:(Str->Option Value)->Heap->Prop}{YP:World->Heap->Prop}{d:DefRec}{K:Params->PySem.W.Frag}{CX:World->gG}{sp:World->Sp}{x:Str}
  (hn:l.most=some n) (hn2:n<=sizeLine) (hdf:d.params.defaults = []) (hr:cD k callerA)
  (hY:∀ (w:World) (h:Heap),YP w h->(K w.params).In h)
  (F:∀ (w:World) (mg:Str->Option Value) (fa:Addr) (h:Heap),(K w.params).In h->h.Ns mainGlobals mg->mg d.name=some (.ref fa)->
   ∃ fd:FuncData,(∀ (s:Shared) (u:Value),BindsTo s fd ⟨[u],[]⟩ [(x,u)])/\
    ∀ base:Heap,(K w.params).In base->base.Ns mainGlobals mg->dO l.prog w (K w.params) mg base (CX w) k fa fd [x] (sp w))
  (hsp:∀ (w:World) (H:Hp) (a:Addr) (ns:List Int),ns.length<=n->oT H->aW (K w.params) H a (ns.map V.int)->sp w [.ref a] H (fun v _=>v = .bl true) fun _ _ _=>False)
  (hCX:∀ (w:World) (H:Hp) (s:Shared) (e:Value) (s':Shared),CX w [] H s (fun _ _ _=>False) e s'->False) :
  PySem.W.WalkO q loose XP YP l.row.toRowW d [] (fun f vs=>PySem.call f vs):=by
 refine Att.aj9 hn hdf fun w s₀ s₁ mg mb fa o pm cd doc a vs ns G Y ho hd hcd hmg hobj hints hlen hg=>?_
 have KX:=hY w _ Y
 obtain ⟨fd,hb,hF⟩:=F w mg fa _ KX G.T.g hmg
 exact ak0 KX G.T.g G.T.b G.T.builtins G.T.nolimit hg hobj hints (aU9 hlen hn2) hr hF hb (fun H hO hS=>hsp w H a ns hlen hO hS) fun H e s'=>hCX w H s₁ e s'
def iM (s:Stmt):Arguments:=match s with
 | .FunctionDef _ a _ _ _ _ _ _ _ _=>a
 | _=>{ posonlyargs:=[],args:=[],vararg:=none,kwonlyargs:=[],kw_defaults:=[],kwarg:=none,defaults:=[] }
def eF (s:Stmt):List Stmt:=match s with
 | .FunctionDef _ _ b _ _ _ _ _ _ _=>b
 | _=>[]
def b7 (s:Stmt):Scope:=match s with
 | .FunctionDef _ _ _ _ _ _ sc _ _ _=>sc
 | _=>{ kind:=.function,names:=[],isGenerator:=false,isCoroutine:=false }
abbrev eR:gG:=fun _ _ _ _ _ _=>False
abbrev E0:XK:=fun _ _ _=>False
theorem ak2 {X:Cx}:mY eR X E0:=fun _ _ _ _ _ _ _ h=>h.elim
structure fY (K:PySem.W.Frag) (x qual:Str) (st:Stmt) (f:Addr) (fd:FuncData):Prop where
 ex:∃ (oc:Value) (od:Option Addr) (kV doc pm:Value) (an:Option Addr) (cdv ct:Value) (osl:Array (Option Value)),
  fd=PySem.W.fnOf x qual (iM st) (eF st) (b7 st) .none kV doc pm an cdv ct/\K.lookup f=some ⟨oc,od,.func fd,osl⟩/\PySem.W.codeIn K cdv qual=true
 kp:PySem.W.keepIn K (.ref f)=true
section
variable {P : Program} {w : World} {K : PySem.W.Frag} {mg : Str → Option Value} {base : Heap}
theorem fY.ok {x qual:Str}{st:Stmt}{f:Addr}{fd:FuncData}{N ps:List Str}{k:Nat}{sp:Sp} (F:fY K x qual st f fd) (S:FnScope N ps (b7 st)) (len:∀ vs H Q E,sp vs H Q E->vs.length=ps.length)
  (hbody:∀ (cdv:Value) (A:Around) (outer:List Env) (s:Shared) (H:Hp) (vs:List V) (Q:VK) (E:XK),cD k (A.deeper (envOfC qual (b7 st) s.heap.objs.size f cdv))->sp vs H Q E->
   ∃ t,e8 (dF eR P w K mg base N qual (b7 st) f cdv A outer s H E).nox (eF st) t/\t { nx:=fun _ H'=>Q .non H',rt:=Q } (gH N vs) H):dO P w K mg base eR (k+1) f fd ps sp:=by
 obtain ⟨oc,od,kV,doc,pm,an,cdv,ct,osl,rfl,lk,hcd⟩:=F.ex
 refine xI lk hcd S len fun A outer s H vs Q E hr hsp=>?_
 obtain ⟨t,h,q⟩:=hbody cdv A outer s H vs Q E hr hsp
 exact⟨t,h.nox,q⟩
theorem fY.binds {x qual:Str}{st:Stmt}{f:Addr}{fd:FuncData}{ps:List Str} (F:fY K x qual st f fd)
  (h:∀ (kV doc pm:Value) (an:Option Addr) (cdv ct:Value) (us:List Value),us.length=ps.length->bindArgs (PySem.W.fnOf x qual (iM st) (eF st) (b7 st) .none kV doc pm an cdv ct) ⟨us,[]⟩=pure (ps.zip us)):jJ K fd ps []:=by
 obtain ⟨oc,od,kV,doc,pm,an,cdv,ct,osl,rfl,lk,hcd⟩:=F.ex
 exact .all (h kV doc pm an cdv ct)
theorem ak3 {x qual:Str}{st:Stmt}{f:Addr}{oc:Value}{od an:Option Addr}{osl:Array (Option Value)}{kV doc pm cdv ct:Value} (l:K.lookup f=some ⟨oc,od,.func (PySem.W.fnOf x qual (iM st) (eF st) (b7 st) .none kV doc pm an cdv ct),osl⟩)
  (c:PySem.W.codeIn K cdv qual=true) (k:PySem.W.keepIn K (.ref f)=true):fY K x qual st f (PySem.W.fnOf x qual (iM st) (eF st) (b7 st) .none kV doc pm an cdv ct):=⟨⟨oc,od,kV,doc,pm,an,cdv,ct,osl,rfl,l,c⟩,k⟩
end
theorem nB {A:Around}{k:Nat} (hr:cD k A):A.units+1 < cLine:=Nat.lt_of_le_of_lt (Nat.add_le_add_left (by decide:1<=64) _) hr.units
theorem ak4 {n:Nat} (h:n<=1000):n < sizeLine:=Nat.lt_of_le_of_lt h (by decide)
section
variable {X : Cx}
theorem ak5:dC X (.builtin "len") (fun xs H Q=>∃ a kvs,xs = [V.ref a]/\H a=some (.dK kvs)/\Q (.int kvs.length) H):=by
 intro pins s σ H xs us Q I r h
 obtain ⟨a,kvs,rfl,ha,q⟩:=h
 obtain ⟨u,rfl,ru⟩:=jH r
 cases ru
 exact ai8 I (.inl ha) fun t s' I'=>⟨.int kvs.length,H,I',⟨t,rfl⟩,q⟩
end
theorem aL {A B:Prop} (h:B):if false=true then A else B:=by
 rw [if_neg aT5]
 exact h
theorem aX {A B:Prop} (h:A):if true=true then A else B:=by
 rw [if_pos rfl]
 exact h
def aH (H H':Hp):Prop:=∀ b o,H b=some o->H' b=some o
theorem aH.refl (H:Hp):aH H H:=fun _ _ h=>h
theorem aH.trans {H H1 H2:Hp} (a:aH H H1) (b:aH H1 H2):aH H H2:=fun c o h=>b c o (a c o h)
theorem aH.free {H H':Hp} (e:aH H H') {l:Addr} (h:H' l=Option.none):H l=Option.none:=by
 cases q:H l with
 | none=>rfl
 | some o=>
  rw [e l o q] at h
  cases h
def e9 (cells:List (Str × Addr)):List (Str × NameKind)->List (Str × Addr)->List (Str × Addr)
 | [],cs=>cs
 | (n,k) :: r,cs=>e9 cells r (if k == .free then (n,(cells.lookup n).getD 0) :: cs else cs)
theorem t0 {env:Env}:∀ (ns:List (Str × NameKind)) (cs:List (Str × Addr)),(∀ x ∈ ns,x.2 = .free->∃ c,env.cells.lookup x.1=some c)->
  (forIn ns cs (fun (x:Str × NameKind) r=>(match x with
   | (name,kind)=>if (kind == .free)=true then (do let y <- cellOf env name; pure (ForInStep.yield ((name,y) :: r))) else pure (ForInStep.yield r)):_->_->Sem _))=(pure (e9 env.cells ns cs):Sem (List (Str × Addr)))
 | [],cs,_=>by rw [List.forIn_nil]; rfl
 | (n,k) :: r,cs,h=>by
  rw [List.forIn_cons]
  have hr:∀ x ∈ r,x.2 = .free->∃ c,env.cells.lookup x.1=some c:=fun x hx=>h x (aS2 _ hx)
  cases hk:(k == NameKind.free) with
  | true=>
   have e:k = .free:=by simpa using hk
   obtain ⟨c,hc⟩:=h (n,k) aS6 e
   simp only [hk,if_true]
   have e1:cellOf env n=pure c:=by unfold cellOf; rw [hc]
   rw [e1]
   show ((pure c >>= fun y=>pure (ForInStep.yield ((n,y) :: cs))) >>= _:Sem _)=_
   rw [pure_bind,pure_bind]
   have:=t0 (env:=env) r ((n,c) :: cs) hr
   refine this.trans ?_
   unfold e9
   simp only [hk,if_true,hc,Option.getD_some]
   cases r <;> rfl
  | false=>
   simp only [hk,aT7,aZ0]
   rw [pure_bind]
   have:=t0 (env:=env) r cs hr
   refine this.trans ?_
   conv=>rhs; unfold e9
   simp only [hk,aT7,aZ0]
theorem yR {scope:Scope}{env:Env} (h:∀ x ∈ scope.names,x.2 = .free->∃ c,env.cells.lookup x.1=some c):closureFor scope env=pure (e9 env.cells scope.names []):=by
 have e:=t0 (env:=env) scope.names [] h
 unfold closureFor
 rw [show (pure (e9 env.cells scope.names []):Sem (List (Str × Addr)))=(pure (e9 env.cells scope.names []) >>= pure) by rw [pure_bind]]
 rw [<- e]
theorem oU {cells:List (Str × Addr)}:∀ (ns:List (Str × NameKind)) (cs:List (Str × Addr)) {x:Str}{c:Addr},(∀ y ∈ ns,y.2 = .free->∃ c,cells.lookup y.1=some c)->
  (∀ x c,cs.lookup x=some c->cells.lookup x=some c)->(e9 cells ns cs).lookup x=some c->cells.lookup x=some c
 | [],cs,x,c,_,hc,h=>hc x c h
 | (n,k) :: r,cs,x,c,hn,hc,h=>by
  unfold e9 at h
  have hr:∀ y ∈ r,y.2 = .free->∃ c,cells.lookup y.1=some c:=fun y hy=>hn y (aS2 _ hy)
  cases hk:(k == NameKind.free) with
  | false=>
   simp only [hk,aT7,aZ0] at h
   exact oU r cs hr hc h
  | true=>
   simp only [hk,if_true] at h
   refine oU r _ hr (fun y d e=>?_) h
   obtain ⟨c0,h0⟩:=hn (n,k) aS6 (by simpa using hk)
   have h0:cells.lookup n=some c0:=h0
   rw [h0] at e
   rw [aX6] at e
   by_cases hyn:y=n
   ·subst hyn
    simp only [aZ8,Option.getD_some] at e
    rw [h0]; exact e
   ·have:(y == n)=false:=beq_eq_false_iff_ne.mpr hyn
    simp only [this] at e
    exact hc y d e
theorem t5 {cells:List (Str × Addr)}:∀ (ns:List (Str × NameKind)) (cs:List (Str × Addr)) {x:Str},((x,NameKind.free) ∈ ns ∨ ∃ c,cs.lookup x=some c)->∃ c,(e9 cells ns cs).lookup x=some c
 | [],cs,x,h=>by
  rcases h with h | h
  ·simp at h
  ·exact h
 | (n,k) :: r,cs,x,h=>by
  unfold e9
  refine t5 r _ ?_
  rcases h with h | ⟨c,h⟩
  ·rcases aR7.mp h with e | e
   ·cases e
    exact .inr ⟨_,by simp [aX6]; rfl⟩
   ·exact .inl e
  ·right
   cases hk:(k == NameKind.free) with
   | false=>exact⟨c,by simpa [hk] using h⟩
   | true=>
    simp only [if_true]
    rw [aX6]
    by_cases hxn:(x == n)=true
    ·simp only [hxn]; exact⟨_,rfl⟩
    ·simp only [Bool.eq_false_iff.mpr hxn]; exact⟨c,h⟩
theorem oV {env:Env}:∀ {names:List (Str × NameKind)}{x:Str}{k:NameKind},(names.map fun (n,k)=>if (k == NameKind.free && env.scope.kind == .function && env.kindOf n == some .cell) then (n,NameKind.cell) else (n,k)).lookup x=some k->
  names.lookup x=some k ∨ (names.lookup x=some .free/\k = .cell)
 | [],_,_,h=>by simp at h
 | (n,q) :: r,x,k,h=>by
  have ih:=@oV env r x k
  rw [aW8] at h
  by_cases hx:(x == n)=true
  ·have e:x=n:=by simpa using hx
   subst e
   by_cases hc:(q == NameKind.free && env.scope.kind == .function && env.kindOf x == some .cell)=true
   ·simp only [hc,if_true,aX6,aZ8] at h
    have hq:q = .free:=by simp at hc; exact hc.1.1
    exact .inr ⟨by simp [aX6,hq],(aT8 h).symm⟩
   ·simp only [hc,aT7,aZ0,aX6,aZ8] at h
    exact .inl (by simp [aX6]; exact aT8 h)
  ·have hx':(x == n)=false:=Bool.eq_false_iff.mpr hx
   have h':(r.map fun (n,k)=>if (k == NameKind.free && env.scope.kind == .function && env.kindOf n == some .cell) then (n,NameKind.cell) else (n,k)).lookup x=some k:=by
    by_cases hc:(q == NameKind.free && env.scope.kind == .function && env.kindOf n == some .cell)=true
    ·simp only [hc,if_true,aX6,hx'] at h; exact h
    ·simp only [hc,aT7,aZ0,aX6,hx'] at h; exact h
   simp only [aX6,hx']
   exact ih h'
def fZ (fr:List (Option Nat)) (σ:St):St:=fr.map fun o=>o.bind fun j=>(σ[j]?).join
def Wk (σ₁ σ₂:St):Prop:=σ₁.length=σ₂.length/\∀ (i:Nat) v,σ₁[i]? = some (some v)->σ₂[i]? = some (some v)
theorem iN:∀ (ns:List (Str × NameKind)) (n:Nat) (cs:List (Str × Addr)),cellsFrom n ns cs=cellsFrom n ns [] ++ cs
 | [],_,_=>rfl
 | (x,k) :: r,n,cs=>by
  unfold cellsFrom
  split
  ·rw [iN r (n+1) ((x,n) :: cs),iN r (n+1) [(x,n)]]; simp
  ·exact iN r n cs
theorem t6:∀ (ns:List (Str × NameKind)) (n:Nat) {x:Str}{c:Addr},(x,c) ∈ cellsFrom n ns []->(x,NameKind.cell) ∈ ns
 | [],_,_,_,h=>by simp [cellsFrom] at h
 | (y,k) :: r,n,x,c,h=>by
  unfold cellsFrom at h
  split at h
  ·rename_i hk
   rw [iN] at h
   rcases aV0.mp h with z | z
   ·exact aS2 _ (t6 r _ z)
   ·rw [aR9] at z
    cases z
    have:k = .cell:=by simpa using hk
    rw [this]; exact aS6
  ·exact aS2 _ (t6 r _ h)
theorem oW:∀ (ns:List (Str × NameKind)) (n:Nat) {x:Str},(x,NameKind.cell) ∈ ns->∃ c,(x,c) ∈ cellsFrom n ns []
 | (y,k) :: r,n,x,h=>by
  unfold cellsFrom
  rcases aR7.mp h with z | z
  ·cases z
   rw [if_pos (by rfl),iN]
   exact⟨n,aU2 _ (by simp)⟩
  ·split
   ·obtain ⟨c,hc⟩:=oW r (n+1) z
    rw [iN]
    exact⟨c,aU6 _ hc⟩
   ·exact oW r n z
theorem t7 {α:Type}:∀ {l:List (Str × α)}{x:Str}{c:α},(x,c) ∈ l->∃ d,l.lookup x=some d
 | (y,v) :: r,x,c,h=>by
  rw [aX6]
  cases hb:x == y with
  | true=>exact⟨v,rfl⟩
  | false=>
   rcases aR7.mp h with z | z
   ·cases z; simp at hb
   ·exact t7 z
theorem oX {α:Type}{x:Str}:∀ (l r:List (Str × α)),(l ++ r).lookup x=(match l.lookup x with | some v=>some v | none=>r.lookup x)
 | [],_=>rfl
 | (y,v) :: l,r=>by
  rw [List.cons_append,aX6,aX6]
  cases hb:x == y with
  | true=>rfl
  | false=>exact oX l r
def gJ (X:Cx) (scope:Scope) (C:Addr):List (Str × Addr):=cellsFrom (C+1) scope.names (e9 X.env.cells scope.names [])
theorem kI {X:Cx}{scope:Scope}{C:Addr}{x:Str}{c:Addr} (h:(gJ X scope C).lookup x=some c) :
  (x,c) ∈ cellsFrom (C+1) scope.names [] ∨ ((∀ d,(x,d) ∉ cellsFrom (C+1) scope.names [])/\(e9 X.env.cells scope.names []).lookup x=some c):=by
 unfold gJ at h
 rw [iN,oX] at h
 cases e:(cellsFrom (C+1) scope.names []).lookup x with
 | some v=>rw [e] at h; cases h; exact .inl (aW6 e)
 | none=>
  rw [e] at h
  refine .inr ⟨fun d hd=>?_,h⟩
  obtain ⟨d',z⟩:=t7 hd
  rw [e] at z; cases z
theorem ak6 {X:Cx}{scope:Scope}{C:Addr}{x:Str}{c:Addr} (hn:(x,NameKind.cell) ∉ scope.names) (h:(e9 X.env.cells scope.names []).lookup x=some c):(gJ X scope C).lookup x=some c:=by
 unfold gJ
 rw [iN,oX]
 cases e:(cellsFrom (C+1) scope.names []).lookup x with
 | some v=>exact absurd (t6 _ _ (aW6 e)) hn
 | none=>exact h
theorem yS {X:Cx}{scope:Scope}{C:Addr}{x:Str} (h:(x,NameKind.cell) ∈ scope.names ∨ ∃ c,(e9 X.env.cells scope.names []).lookup x=some c):∃ c,(gJ X scope C).lookup x=some c:=by
 unfold gJ
 rw [iN,oX]
 cases e:(cellsFrom (C+1) scope.names []).lookup x with
 | some v=>exact⟨v,rfl⟩
 | none=>
  rcases h with h | h
  ·obtain ⟨c,hc⟩:=oW scope.names (C+1) h
   obtain ⟨d,hd⟩:=t7 hc
   rw [e] at hd; cases hd
  ·exact h
def cA (X:Cx) (scope:Scope) (N:List Str) (s:Shared) (H:Hp) (C:Addr) (fp:List Addr) (E:Value->Shared->Prop):Cx:=
 { X with N:=N,s₀:=s,H₀:=H,env:=compEnvC scope (gJ X scope C) C X.env,outer:=X.stack,ex:=fp,fn:=fun x=>scope.names.lookup x == some .cell,pn:=[],xe:=E }
structure eG (X:Cx) (scope:Scope) (N:List Str) (fr:List (Option Nat)):Prop where
 kind:scope.kind = .function
 own:∀ y ∈ scope.names,y.2 = .cell->scope.names.lookup y.1=some .cell
 names:∀ y ∈ scope.names,y.2 = .local->scope.names.lookup y.1=some .local
 free:∀ y ∈ scope.names,y.2 = .free->X.env.scope.names.lookup y.1=some .cell ∨ X.env.scope.names.lookup y.1=some .free
 len:fr.length=N.length
 from_:∀ (i j:Nat),fr[i]? = some (some j)->∃ x,N[i]? = some x/\X.N[j]? = some x/\scope.names.lookup x=some .free
section
variable {X : Cx} {pins : List (Addr × Obj)} {σ : St} {H : Hp} {s : Shared} {scope : Scope} {N : List Str} {fr : List (Option Nat)}
theorem eG.cells (S:eG X scope N fr) (I:aA X pins σ H s):∀ y ∈ scope.names,y.2 = .free->∃ c,X.env.cells.lookup y.1=some c:=fun y hy hk=>I.ok.has y.1 (S.free y hy hk)
theorem ak7 {C D:Addr}{fp:List Addr}{E:Value->Shared->Prop}{h1:Heap}{tk:Nat}{m:Str->Option Value} (S:eG X scope N fr) (I:aA X pins σ H s)
  (hf:∀ b ∈ fp,fW X pins H b) (hfl:∀ b ∈ fp,b < s.heap.objs.size) (hD:s.heap.objs.size<=D) (hC:s.heap.objs.size<=C) (hDC:D < C)
  (old:∀ b o,s.heap.get? b=some o->h1.get? b=some o) (hns:h1.Ns C m) (hacc:h1.get? D=some { cls:=.type "list",data:=.seq #[] 0 }) (hco:CellsOk h1 (C+1) (cellsFrom (C+1) scope.names [])) :
  aA (cA X scope N s H C fp E) [] (fZ fr σ) (upd H D (.lst [])) { s with heap:=h1,toks:=tk }:=by
 have hHD:H D=none:=I.hok.fresh hD
 have cl:=S.cells I
 have cs:∀ {x:Str}{c:Addr},(e9 X.env.cells scope.names []).lookup x=some c->X.env.cells.lookup x=some c:=fun {x c} h=>oU scope.names [] cl (fun _ _ z=>by simp at z) h
 have clt:∀ {x:Str}{c:Addr},X.env.cells.lookup x=some c->c < s.heap.objs.size:=fun {x c} h=>by obtain ⟨v,z⟩:=I.cell x c h; exact z.lt
 have nge:∀ {x:Str}{c:Addr},(x,c) ∈ cellsFrom (C+1) scope.names []->C < c:=fun {x c} h=>(hco.empty x c h).2
 refine⟨⟨I.ok.mod,?_,I.ok.glob,I.ok.blt,hC,?_,?_,?_,I.ok.hd,I.ok.frames,.inl rfl,?_,I.bs,aU9 I.ok.bsz I.sz,?_,?_,I.stack,I.stkFree⟩,rfl,I.bare,Un.laid old hD hHD,⟨m,hns,?_⟩,?_,?_,?_,fun p hp=>absurd (show p ∈ ([]:List (Addr × Obj)) from hp) (by simp),?_,?_⟩
 ·exact S.kind
 ·intro x y c h1 h2
  rcases kI h1 with a | ⟨_,a⟩ <;> rcases kI h2 with b | ⟨_,b⟩
  ·exact name_of_addr hco.apart a b
  ·exact absurd (aT0 (Nat.lt_trans (nge a) (clt (cs b))) hC) (aY9 _)
  ·exact absurd (aT0 (Nat.lt_trans (nge b) (clt (cs a))) hC) (aY9 _)
  ·exact I.ok.inj x y c (cs a) (cs b)
 ·intro x hx
  have hx:(relabel scope X.env).names.lookup x=some .cell ∨ (relabel scope X.env).names.lookup x=some .free:=hx
  have fin:(x,NameKind.free) ∈ scope.names->∃ c,(gJ X scope C).lookup x=some c:=fun z=>yS (.inr (t5 scope.names [] (.inl z)))
  rcases hx with hx | hx
  ·rcases oV hx with z | z
   ·exact yS (.inl (aW6 z))
   ·exact fin (aW6 z.1)
  ·rcases oV hx with z | z
   ·exact fin (aW6 z)
   ·exact absurd z.2 (by decide)
 ·intro x c hx h
  have hx:(scope.names.lookup x == some NameKind.cell)=true:=hx
  have hx:scope.names.lookup x=some .cell:=by simpa using hx
  rcases kI h with a | ⟨a,_⟩
  ·exact aU9 hC (bd8 (nge a))
  ·obtain ⟨d,hd⟩:=oW scope.names (C+1) (aW6 hx)
   exact absurd hd (a d)
 ·intro b hb
  refine⟨aU5 (aT0 (hfl b hb) hC),fun x c e=>?_⟩
  rcases kI e with a | ⟨_,a⟩
  ·exact ba3 (Nat.lt_trans (aT0 (hfl b hb) hC) (nge a))
  ·exact (hf b hb).2.2.2.2.1 x c (cs a)
 ·intro b o e hb
  rcases (hf b hb).2.2.2.1 with z | z
  ·exact I.ok.noex b o e z
  ·exact absurd (aT0 (aS5 e) (aU9 I.ok.bsz z)) (aY9 _)
 ·intro b hb z
  rcases aR7.mp (I.stkSub b z) with e | e
  ·exact (hf b hb).2.1 e
  ·exact (hf b hb).2.2.1 e
 ·intro i x v e1 e2 e3
  have e2:(fr.map fun o=>o.bind fun j=>(σ[j]?).join)[i]? = some (some v):=e2
  rw [aT4] at e2
  cases ef:fr[i]? with
  | none=>rw [ef] at e2; cases e2
  | some o=>
   rw [ef] at e2
   cases o with
   | none=>cases e2
   | some j=>
    have e2:some ((σ[j]?).join)=some (some v):=e2
    have ej:σ[j]? = some (some v):=by
     cases q:σ[j]? with
     | none=>rw [q] at e2; cases e2
     | some w=>rw [q] at e2; cases w with
      | none=>cases e2
      | some w=>cases e2; rfl
    obtain ⟨y,a1,a2,a4⟩:=S.from_ i j ef
    have e1:N[i]? = some x:=e1
    rw [e1] at a1
    cases a1
    have a3:(x,NameKind.free) ∈ scope.names:=aW6 a4
    have vis:iJ X.env.scope x:=(S.free _ a3 rfl).elim (fun z=>.inr (.inl z)) fun z=>.inr (.inr z)
    obtain ⟨m0,hn0,hl0⟩:=I.loc
    obtain ⟨u,r,l⟩:=hl0 j x v a2 ej vis
    refine⟨u,r,.inr ⟨?_,?_⟩⟩
    ·have e3:(relabel scope X.env).names.lookup x=some .local ∨ (relabel scope X.env).names.lookup x=some .cell ∨ (relabel scope X.env).names.lookup x=some .free:=e3
     rcases e3 with z | z | z
     ·rcases oV z with y | y
      ·rw [a4] at y; cases y
      ·exact absurd y.2 (by decide)
     ·exact .inl z
     ·exact .inr z
    ·obtain ⟨c,hc⟩:=t5 (cells:=X.env.cells) scope.names [] (x:=x) (.inl a3)
     refine⟨c,ak6 (fun z=>by have:=S.own _ z rfl; rw [a4] at this; cases this) hc,?_⟩
     have hc':=cs hc
     have S1:=S.free (x,.free) a3 rfl
     rcases l with ⟨k,_⟩ | ⟨_,c2,hc2,z⟩
     ·have k:X.env.scope.names.lookup x=some .local:=k
      rcases S1 with q | q <;> (have q:X.env.scope.names.lookup x=_:=q; rw [k] at q; cases q)
     ·rw [hc'] at hc2; cases hc2
      obtain ⟨oc,ho,hd⟩:=z
      exact⟨oc,old c oc ho,hd⟩
 ·intro x c e
  rcases kI e with a | ⟨_,a⟩
  ·exact⟨_,(hco.empty x c a).1⟩
  ·obtain ⟨v,oc,ho,hd⟩:=I.cell x c (cs a)
   exact⟨v,oc,old c oc ho,hd⟩
 ·show upd H D (.lst []) C=none
  rw [b8 (ba3 hDC)]; exact I.hok.fresh hC
 ·intro x c e
  show upd H D (.lst []) c=none
  rcases kI e with a | ⟨_,a⟩
  ·rw [b8 (ba3 (Nat.lt_trans hDC (nge a)))]; exact I.hok.fresh (aU9 hC (bd8 (nge a)))
  ·have q:=cs a
   rw [b8 (aU5 (aT0 (clt q) hD))]
   exact I.freeC x c q
 ·exact I.hok.laid old hD ⟨ba7 _,[],0,.nil,hacc⟩
 ·show (fZ fr σ).length=N.length
  unfold fZ; rw [aS1]; exact S.len
end
def kJ (X:Cx) (ifs:List Expr) (t:TT):Prop:=
 ∀ (pins:List (Addr × Obj)) (s:Shared) (σ:St) (H:Hp) (Q:Bool->Hp->Prop),aA X pins σ H s->t σ H Q->
  wpAny (model X.prog X.w) X.A (forIn ifs true fun c r=>if r=true then do let ok <- isTrue c X.env (eval c X.env); pure (ForInStep.yield ok) else pure (ForInStep.yield r)) (TP X pins σ Q) X.xe s
def yT:TT:=fun _ H Q=>Q true H
theorem ak8 {X:Cx}:kJ X [] yT:=fun _ _ _ H _ I h=>wpAny_tests_nil ⟨H,I,h⟩
theorem yU {X:Cx}{c:Expr}{t:TT} (h:PT X c t):kJ X [c] t:=fun pins s σ H Q I hq=>wpAny_tests_one (h pins s σ H Q I hq)
section
variable {prog : Program} {w : World} {A : Around}
def t8 (prog:Program) (w:World) (A:Around) (elt tg:Expr) (ifs:List Expr) (it acc:Value) (env:Env) (lost:Value->Shared->Prop) (stop next:Shared->Prop) (s:Shared):Prop:=
 let M:=model prog w
 let tests:Sem Bool:=forIn ifs true fun c r=>if r=true then do let ok <- isTrue c env (eval c env); pure (ForInStep.yield ok) else pure (ForInStep.yield r)
 let put:Shared->Prop:=wpAny M A (eval elt env) (fun x=>wpAny M A (call (.builtin "list.append") [acc,x]) (fun _=>next) lost) lost
 let taken:Value->Shared->Prop:=fun v=>wpAny M A (letOwnedTupleGo tg it v) (fun _=>wpAny M A (assign tg env v) (fun _=>wpAny M A tests (fun ok s'=>if ok=true then put s' else next s') lost) lost) lost
 wpAny M A (pyNext it) (fun r s'=>match r with
  | none=>stop s'
  | some v=>taken v s') lost s
theorem ak9 {R:Result->Shared->Prop}{s:Shared}{elt tg iter:Expr}{ifs:List Expr}{scope:Scope}{pos:Pos}{it acc:Value}{env:Env} (I:Nat->Shared->Prop)
  (turn:∀ n s,I n s->t8 prog w A elt tg ifs it acc env (notedBy (model prog w) A env fun e=>R (.error e)) (R (.ok .next)) (fun s'=>∃ m,m < n/\I m s') s) (n:Nat) (h:I n s) :
  codeAny (model prog w) A (.compLoop (.ListComp elt [⟨tg,iter,ifs,0⟩] scope pos) 0 it acc env) R s:=by
 apply codeAny_loop rfl I _ n h
 intro k s1 h1
 change wpAny _ A ((compTurn _ 0 it acc env).onRaise (fun x=>do noteFrame x env; theTreesLotGoes x)) _ _ s1
 apply wpAny_noted
 rw [compTurn_list]
 have t:=turn k s1 h1
 unfold t8 at t
 apply aQ9
 apply wpAny_standAt
 apply aQ9
 refine aZ1 t (fun r s2 h2=>?_) fun _ _ z=>z
 cases r with
 | none=>exact aR4 h2
 | some v=>
  apply aQ9
  refine aZ1 h2 (fun _ s3 h3=>?_) fun _ _ z=>z
  apply aQ9
  refine aZ1 h3 (fun _ s4 h4=>?_) fun _ _ z=>z
  apply aQ9
  refine aZ1 h4 (fun ok s5 h5=>?_) fun _ _ z=>z
  cases ok with
  | false=>exact aR4 ⟨rfl,h5⟩
  | true=>
   apply aQ9
   apply aQ9
   refine aZ1 h5 (fun x s6 h6=>?_) fun _ _ z=>z
   apply aQ9
   exact aZ1 h6 (fun _ s7 h7=>aR4 (aR4 ⟨rfl,h7⟩)) fun _ _ z=>z
end
def yV (g:TG) (tc:TT) (te:TE) (σ0:St) (J:It) (D:Addr) (Q:VK) (W:Nat->Nat->List V->Hp->Prop):Prop:=
 ∀ i m acc H',W i m acc H'->H' D=some (.lst acc)/\((J.stop i H'/\Q (.ref D) H') ∨ (J.go i H'/\∀ x H2,J.yld i H' x H2->g x σ0 H2 fun σ2 H3=>Wk σ0 σ2/\tc σ2 H3 fun b H4=>
  if b=true then te σ2 H4 fun v H5=>H5 D=some (.lst acc)/\acc.length < sizeLine/\∃ m',m' < m/\W (i+1) m' (acc ++ [v]) (upd H5 D (.lst (acc ++ [v]))) else ∃ m',m' < m/\W (i+1) m' acc H4))
section
variable {M : Model} {A : Around} {E : Value → Shared → Prop} {s : Shared}
theorem al0 {scope:Scope}{globals:Addr}{cl:List (Str × Addr)}{qual:Str}{func:Option Addr}{code:Value}{builtins:Addr}{outer:Env}{Q:Env->Shared->Prop}
  (hQ:∀ h',h'.Ns s.heap.objs.size (fun _=>none)->(∀ b o,s.heap.get? b=some o->h'.get? b=some o)->CellsOk h' (s.heap.objs.size+1) (cellsFrom (s.heap.objs.size+1) scope.names [])->
   Q (newEnv scope s.heap.objs.size globals (cellsFrom (s.heap.objs.size+1) scope.names cl) qual func code (some outer) builtins) { s with heap:=h' }) :
  wpAny M A (newFunctionEnv scope globals cl [] qual func code (some outer) builtins) Q E s:=by
 simp only [newFunctionEnv,Option.isSome_some,if_true]
 refine aQ9 (wpAny_alloc ?_)
 refine aQ9 (wpAny_layCells _ (fun name kind cells=>by cases hkc:kind == NameKind.cell <;> simp [hkc]) _ _ _ _ ?_)
 have ok:=cellsFrom_ok scope.names (s.heap.push { cls:=.type "dict",data:=.dict #[] }) (s.heap.objs.size+1) [] ⟨fun _ _ hm=>(nomatch hm),be3⟩ (by rw [aY7]; exact aS4 _)
 rw [aY7] at ok
 rw [show ({ s with heap:=s.heap.push { cls:=.type "dict",data:=.dict #[] } }:Shared).heap.objs.size=s.heap.objs.size+1 from aY7 ..]
 rw [List.forIn_nil]
 refine aQ9 (aR4 (aR4 (hQ _ ((Heap.Ns.new s.heap (.type "dict")).keeps (pushCells_keeps _ _)) (fun b o e=>pushCells_keeps _ _ b o (aR1 _ e)) ok)))
end
section
variable {X : Cx} {pins : List (Addr × Obj)} {σ : St} {H : Hp} {s : Shared} {scope : Scope} {N : List Str} {fr : List (Option Nat)} {tg iter elt : Expr} {ifs : List Expr} {pos : Pos} {wi : TI} {g : TG} {tc : TT} {te : TE}
structure nC (X:Cx) (scope:Scope) (N:List Str) (tg:Expr) (ifs:List Expr) (elt:Expr) (s:Shared) (H:Hp) (g:TG) (tc:TT) (te:TE):Prop where
 tg:∀ (C:Addr) (fp:List Addr),PG (cA X scope N s H C fp fun _ _=>False) tg g
 ifs:∀ (C:Addr) (fp:List Addr),kJ (cA X scope N s H C fp fun _ _=>False) ifs tc
 elt:∀ (C:Addr) (fp:List Addr),PE (cA X scope N s H C fp fun _ _=>False) elt te
theorem al1 {C:Addr}{fp:List Addr}{E:Value->Shared->Prop}{pins':List (Addr × Obj)}{σ':St}{H':Hp}{s':Shared} (I:aA X pins σ H s) (hf:∀ b ∈ fp,fW X pins H b) (I':aA (cA X scope N s H C fp E) pins' σ' H' s'):aA X pins σ H' s':=
 I.call' (ch:=fp) I'.os I'.base I'.hok I'.bare fun b hb=>⟨(hf b hb).2.2.2.1,(hf b hb).2.1,(hf b hb).2.2.2.2.1,(hf b hb).2.2.2.2.2⟩
theorem yW {Rr:Value->Addr->Result->Shared->Prop}{J:It}{fp:List Addr}{it:Addr}{tn:Nat->Heap->Prop}{Q:VK}
  (hc:X.calm=true) (S:eG X scope N fr) (B:nC X scope N tg ifs elt s H g tc te) (I:aA X pins σ H s) (T:i7 X.prog X.w X.K tg J fp it tn) (hst:tn 0 s.heap) (hf:∀ b ∈ fp,fW X pins H b)
  (h:∀ D,H D=none->∃ W:Nat->Nat->List V->Hp->Prop,(∃ m,W 0 m [] (upd H D (.lst [])))/\yV g tc te (fZ fr σ) J D Q W)
  (hend:∀ (D C:Addr) (s':Shared) (H':Hp) (m:Str->Option Value),s.heap.objs.size<=C->s.heap.objs.size<=D->aA X pins σ H' s'->s'.heap.Ns C m->H' C=none->Q (.ref D) H'->Rr (.ref D) C (.ok .next) s') :
  wpAny (model X.prog X.w) X.A (newList []) (fun acc s₃=>wpAny (model X.prog X.w) X.A (newFunctionEnv scope X.env.globals (e9 X.env.cells scope.names []) [] X.env.qual none .none (some X.env)) (fun cenv s₄=>
   codeAny (model X.prog X.w) X.A (.compStart (.ListComp elt [⟨tg,iter,ifs,0⟩] scope pos) 0 (.ref it) acc { cenv with scope:=relabel scope X.env }) (Rr acc cenv.locals) s₄) X.xe s₃) X.xe s:=by
 refine aV4 (al0 (fun h₁ hns₁ keep₁ hco₁=>?_))
 dsimp only at hns₁ keep₁ hco₁ ⊢
 generalize hH2:s.heap.push { cls:=.type "list",dict:=none,data:=.seq ([]:List Value).toArray }=H2 at hns₁ keep₁ hco₁ ⊢
 have hC:H2.objs.size=s.heap.objs.size+1:=by rw [<- hH2,aY7]
 have hDC:s.heap.objs.size < H2.objs.size:=by rw [hC]; exact Nat.lt_succ_self _
 have hCle:s.heap.objs.size<=H2.objs.size:=by rw [hC]; exact Nat.le_succ _
 have old:∀ b o,s.heap.get? b=some o->h₁.get? b=some o:=fun b o e=>keep₁ b o (hH2 ▸ aR1 _ e)
 have hacc:h₁.get? s.heap.objs.size=some { cls:=.type "list",data:=.seq #[] 0 }:=keep₁ _ _ (hH2 ▸ aS7 _ rfl)
 have hfl:∀ b ∈ fp,b < s.heap.objs.size:=fun b hb=>by obtain ⟨o,e,_⟩:=T.obj _ _ hst b hb; exact aS5 e
 obtain ⟨W,⟨m0,w0⟩,turn⟩:=h s.heap.objs.size (I.hok.fresh (aS4 _))
 have st1:tn 0 h₁:=T.keep _ _ _ hst fun b _ o e=>old b o e
 have fr0:∀ b ∈ fp,upd H s.heap.objs.size (.lst []) b=none:=fun b hb=>by rw [b8 (aU5 (hfl b hb))]; exact (hf b hb).1
 have stat:∀ {H':Hp},(∀ b ∈ fp,H' b=none)->∀ b ∈ fp,fW (cA X scope N s H H2.objs.size fp fun _ _=>False) [] H' b:=fun {H'} hn b hb=>by
  have f:=hf b hb
  refine⟨hn b hb,aU5 (aT0 (hfl b hb) hCle),fun z=>?_,.inl hb,fun x c e=>(kI e).elim (fun z=>ba3 (Nat.lt_trans (aT0 (hfl b hb) hCle) (hco₁.empty x c z).2)) fun z=>f.2.2.2.2.1 x c (oU scope.names [] (S.cells I) (fun _ _ z=>by simp at z) z.2),fun p hp=>absurd (show p ∈ ([]:List (Addr × Obj)) from hp) (by simp)⟩
  rcases aR7.mp (I.stkSub b z) with e | e
  ·exact f.2.1 e
  ·exact f.2.2.1 e
 generalize hX:cA X scope N s H H2.objs.size fp (fun _ _=>False)=Y at stat
 have I0:aA Y [] (fZ fr σ) (upd H s.heap.objs.size (.lst [])) { s with heap:=h₁ }:=hX ▸ ak7 S I hf hfl (aS4 _) hCle hDC old hns₁ hacc hco₁
 have bt:PG Y tg g:=hX ▸ B.tg H2.objs.size fp
 have bi:kJ Y ifs tc:=hX ▸ B.ifs H2.objs.size fp
 have be:PE Y elt te:=hX ▸ B.elt H2.objs.size fp
 have eP:Y.prog=X.prog:=by rw [<- hX]; rfl
 have ew:Y.w=X.w:=by rw [<- hX]; rfl
 have eK:Y.K=X.K:=by rw [<- hX]; rfl
 have eA:Y.A=X.A:=by rw [<- hX]; rfl
 have eE:Y.env=compEnvC scope (gJ X scope H2.objs.size) H2.objs.size X.env:=by rw [<- hX]; rfl
 have eX:Y.xe=fun _ _=>False:=by rw [<- hX]; rfl
 have ec:Y.calm=true:=by rw [<- hX]; exact hc
 have never:∀ {E:Value->Shared->Prop} (e:Value) (s':Shared),Y.xe e s'->E e s':=fun {E} e s' z=>by rw [eX] at z; exact z.elim
 have out:∀ {pins' σ' H' s'},aA Y pins' σ' H' s'->aA X pins σ H' s':=fun {_ _ _ _} I'=>al1 (C:=H2.objs.size) (E:=fun _ _=>False) (scope:=scope) (N:=N) I hf (hX ▸ I')
 have loop:codeAny (model X.prog X.w) X.A (.compLoop (.ListComp elt [⟨tg,iter,ifs,0⟩] scope pos) 0 (.ref it) (.ref s.heap.objs.size) (compEnvC scope (gJ X scope H2.objs.size) H2.objs.size X.env))
   (Rr (.ref s.heap.objs.size) H2.objs.size) { s with heap:=h₁ }:=by
  refine ak9 (fun n s'=>∃ i acc H',aA Y [] (fZ fr σ) H' s'/\tn i s'.heap/\(∀ b ∈ fp,H' b=none)/\W i n acc H') ?_ m0 ⟨0,[],_,I0,st1,fr0,w0⟩
  rintro n s3 ⟨i,acc,H3,I3,st3,fr3,w3⟩
  unfold t8
  dsimp only
  obtain ⟨hD3,step⟩:=turn i n acc H3 w3
  rcases step with ⟨stop,qn⟩ | ⟨go,step⟩
  ·have z:=T.done Y eP ew eK ec i [] s3 _ H3 (notedBy (model X.prog X.w) X.A (compEnvC scope (gJ X scope H2.objs.size) H2.objs.size X.env) fun e s'=>Rr (.ref s.heap.objs.size) H2.objs.size (.error e) s') I3 (stat fr3) st3 stop
   rw [eA] at z
   refine aQ z fun r s4 ⟨hr,I4⟩=>?_
   subst hr
   obtain ⟨m4,hn4,_⟩:=I4.loc
   rw [eE] at hn4
   have f4:=I4.free
   rw [eE] at f4
   exact hend _ _ s4 H3 m4 hCle (aS4 _) (out I4) hn4 f4 qn
  ·have z:=T.item Y eP ew eK ec i [] s3 _ H3 (notedBy (model X.prog X.w) X.A (compEnvC scope (gJ X scope H2.objs.size) H2.objs.size X.env) fun e s'=>Rr (.ref s.heap.objs.size) H2.objs.size (.error e) s') I3 (stat fr3) st3 go
   rw [eA] at z
   refine aQ z fun r s4 ⟨u,hr,h4⟩=>?_
   subst hr
   refine aQ h4 fun _ s5 ⟨x,H5,I5,r5,y5,st5,fr5⟩=>?_
   have I5':=I5.pinned (stat fr5) (T.obj _ _ st5)
   have q1:=bt _ s5 _ H5 x u _ I5' r5 (step x H5 y5)
   rw [eP,ew,eA,eE] at q1
   refine aZ1 q1 (fun _ s6 ⟨σ6,H6,I6,wk,q6⟩=>?_) never
   have q2:=bi _ s6 σ6 H6 _ I6 q6
   rw [eP,ew,eA,eE] at q2
   refine aZ1 q2 (fun b s7 ⟨H7,I7,q7⟩=>?_) never
   have again:∀ {H8:Hp}{s8:Shared}{acc':List V},aA Y ([] ++ mV fp s5.heap) σ6 H8 s8->(∃ m',m' < n/\W (i+1) m' acc' H8)->∃ m,m < n/\∃ i acc H',aA Y [] (fZ fr σ) H' s8/\tn i s8.heap/\(∀ b ∈ fp,H' b=none)/\W i m acc H':=fun {H8 s8 acc'} I8 n8=>by
    obtain ⟨m',hm,w8⟩:=n8
    refine⟨m',hm,i+1,acc',H8,(I8.unpinned).weak wk.1 wk.2,T.keep _ _ _ st5 fun b hb o e=>(I8.pin (b,o) (aU2 _ (aU2 _ (oJ hb e)))).1,fun b hb=>?_,w8⟩
    obtain ⟨o,e,d⟩:=T.obj _ _ st5 b hb
    exact (I8.pin (b,o) (aU2 _ (aU2 _ (oJ hb e)))).2.1
   cases b with
   | false=>
    rw [if_neg aT5] at q7 ⊢
    exact again I7 q7
   | true=>
    rw [if_pos rfl] at q7 ⊢
    have q3:=be _ s7 σ6 H7 _ I7 q7
    rw [eP,ew,eA,eE] at q3
    refine aZ1 q3 (fun v s8 ⟨y,H8,I8,r8,hD8,hz8,q8⟩=>?_) never
    have q4:=yC _ s8 σ6 H8 (.ref s.heap.objs.size) [y] (.ref s.heap.objs.size) [v] (fun _ H9=>∃ m',m' < n/\W (i+1) m' (acc ++ [y]) H9) I8 rfl (.cons r8 .nil) ⟨_,_,_,rfl,rfl,hD8,hz8,q8⟩
    rw [eP,ew,eA] at q4
    exact aZ1 q4 (fun _ s9 ⟨_,H9,I9,_,q9⟩=>again I9 q9) never
 exact codeAny_compStart_list loop (T.self _ 0 _ _ _ st1 loop)
end
section
variable {X : Cx} {scope : Scope} {N : List Str} {fr : List (Option Nat)} {tg iter elt : Expr} {ifs : List Expr} {pos : Pos} {wi : TI} {g : TG} {tc : TT} {te : TE}
theorem aA.drop {pins:List (Addr × Obj)}{σ:St}{H H':Hp}{s s':Shared}{C:Addr}{h':Heap} (I0:aA X pins σ H s) (hC:s.heap.objs.size<=C) {σ':St} (I:aA X pins σ' H' s') (hn:H' C=none) (sb:Heap.SameBut C s'.heap h'):aA X pins σ' H' { s' with heap:=h' }:=by
 refine I.turned (t':=s'.toks) (it:=C) (fun b o hb e=>(sb.2 b hb).trans e) hn (ba3 (aT0 I0.lt hC)) (.inr (aU9 I0.sz hC)) (fun x c e z=>?_) fun p hp z=>?_
 ·obtain ⟨v,q⟩:=I0.cell x c e
  exact absurd (aT0 q.lt (by rw [z]; exact hC)) (aY9 _)
 ·exact absurd (aT0 (aS5 (I0.pin p hp).1) (by rw [z]; exact hC)) (aY9 _)
variable {gh : Hp → TG} {tch : Hp → TT} {teh : Hp → TE}
def t9 (wi:TI) (fr:List (Option Nat)) (gh:Hp->TG) (tch:Hp->TT) (teh:Hp->TE):TE:=fun σ H Q=>wi σ H fun J H1=>∀ D,H1 D=none->
 ∃ W:Nat->Nat->List V->Hp->Prop,(∃ m,W 0 m [] (upd H1 D (.lst [])))/\yV (gh H1) (tch H1) (teh H1) (fZ fr σ) J D Q W
theorem tD (hc:X.calm=true) (S:eG X scope N fr) (hi:PI X tg iter wi) (B:∀ (s:Shared) (H:Hp),nC X scope N tg ifs elt s H (gh H) (tch H) (teh H))
  (hs:∀ x,foldedSetIterable iter X.env x=pure x:=by intro _; rfl):PE X (.ListComp elt [⟨tg,iter,ifs,0⟩] scope pos) (t9 wi fr gh tch teh):=by
 intro pins s σ H Q I h
 rw [eval_ListComp]
 refine wpAny_comprehension_free (use:=none) rfl hs (yR (S.cells I)) S.kind S.names (aQ (hi pins s σ H _ I h) fun v s1 h1=>aQ h1 fun itv s2 h2=>?_)
 obtain ⟨it,fp,tn,J,H2,e,I2,T,st2,f2,hW⟩:=h2
 subst e
 refine yW (Rr:=fun acc C=>compPost (model X.prog X.w) X.A X.xe none (EP X pins σ Q) acc C) hc S (B _ _) I2 T st2 f2 hW ?_
 intro D C s' H' m hC hD I' hns hHC q
 exact⟨m,hns,fun h' sb=>⟨.ref D,H',I2.drop hC I' hHC sb,rfl,q⟩⟩
theorem al2 {i:Nat}{x:Str}{px spos:Pos} (hc:X.calm=true) (S:eG X scope N fr) (hi:PI X tg iter wi) (B:∀ (s:Shared) (H:Hp),nC X scope N tg ifs elt s H (gh H) (tch H) (teh H)) (hN:X.N.Nodup) (hix:X.N[i]? = some x) (hx:X.env.scope.names.lookup x=some .local)
  (hsw:swapsWith (.ListComp elt [⟨tg,iter,ifs,0⟩] scope pos) (some (.Name x px)) spos.line X.env=pure true) (hs:∀ x,foldedSetIterable iter X.env x=pure x:=by intro _; rfl) :
  PS X (.Assign [.Name x px] (.ListComp elt [⟨tg,iter,ifs,0⟩] scope pos) spos) (lJ (t9 wi fr gh tch teh) (dB i)):=by
 intro pins s σ H D I h
 rw [exec_Assign_Name_used _ _ _ _ hsw]
 refine aQ9 (wpAny_standAt (aQ9 ?_))
 show wpAny _ _ (do let _ <- comprehension (.ListComp elt [⟨tg,iter,ifs,0⟩] scope pos) scope X.env _ (newList []) false (eval iter X.env) (some (assign (.Name x px) X.env))) _ _ s
 refine aQ9 (aZ1 (wpAny_comprehension_free (Q:=fun _ s'=>SP X pins D .next s') (use:=some (assign (.Name x px) X.env)) rfl hs (yR (S.cells I)) S.kind S.names (aQ (hi pins s σ H _ I h) fun v s1 h1=>aQ h1 fun itv s2 h2=>?_))
  (fun _ s' hq=>aR4 (aR4 hq)) fun _ _ e=>e)
 obtain ⟨it,fp,tn,J,H2,e,I2,T,st2,f2,hW⟩:=h2
 subst e
 refine yW (Rr:=fun acc C=>compPost (model X.prog X.w) X.A X.xe (some (assign (.Name x px) X.env)) (fun _ s'=>SP X pins D .next s') acc C) hc S (B _ _) I2 T st2 f2 hW ?_
 intro D' C s' H' m hC hD I' hns hHC q
 refine wpAny_assign_Name (wE I' hN hix (.inl hx) (v:=.ref D') rfl (fun s'' I'' sb=>?_) (.inr hx))
 obtain ⟨a,sb,ha⟩:=sb
 have hCa:C ≠ a:=by
  rcases ha with z | z
  ·rw [z]; exact ba3 (aT0 I2.lt hC)
  ·intro e; subst e
   obtain ⟨v,q⟩:=I2.cell x _ z
   exact absurd (aT0 q.lt hC) (aY9 _)
 exact⟨m,hns.sameBut sb hCa,fun h' sb'=>⟨_,H',I2.drop hC I'' hHC sb',q⟩⟩
end
theorem cU {H:Hp}{p:Addr} (h:H p=none) (o:HO):aH H (upd H p o):=fun b u q=>by rw [b8 (dE q h)]; exact q
end L2
namespace Srt
open PySem PySem.W PyProof.Rows
abbrev G (p:Array Nat) (i:Nat):Nat:=p.getD i 0
def PP (n:Nat) (p:Array Nat):Prop:=p.toList.Perm (List.range n)
structure yX (c:Nat->Nat->Bool):Prop where
 asym:∀ {i j},c i j=true->c j i=false
 ntr:∀ {i j k},c i j=false->c j k=false->c i k=false
section
variable {c : Nat → Nat → Bool} (O : yX c)
def Le (c:Nat->Nat->Bool) (i j:Nat):Prop:=c j i=false
include O
theorem le_refl (i:Nat):Le c i i:=by
 unfold Le
 cases h:c i i with
 | false=>rfl
 | true=>have:=O.asym h; rw [h] at this; exact this
theorem le_trans {i j k:Nat} (h1:Le c i j) (h2:Le c j k):Le c i k:=O.ntr h2 h1
end
end Srt
namespace L2
open PySem PySem.Spec PyProof.Rows
theorem tE:∀ {xs:List V}{us:List Value} (i:Nat),i < xs.length->aR xs us->aU (xs.getD i .non) (us.getD i Value.none)
 | _,_,_,h,.nil=>by simp at h
 | _,_,0,_,.cons r _=>by simpa using r
 | _,_,i+1,h,.cons _ t=>by
  have:=tE i (by simpa using h) t
  simpa using this
theorem oY {α:Type}:∀ l:List α,(l.zip l).map (·.2)=l
 | []=>rfl
 | a :: l=>by
  show a :: ((l.zip l).map (·.2))=a :: l
  rw [oY l]
theorem yY {prog:Program}{w:World}{A:Around}{E:Value->Shared->Prop}{s:Shared}{a:Addr}{vs:List Value}{n:Nat}{P:PySem.Fin->Shared->Prop} (e:s.heap.get? a=some (seqObj "list" vs.toArray n)) (few:vs.length < 2)
  (q:P (.done (.ret .none)) { s with heap:=sortedHeap s.heap a vs vs.toArray }):wpAny (model prog w) A (Builtin.«list.sort» ⟨[.ref a],[]⟩) P E s:=by
 have big:vs.length<=sizeLine:=aU9 (bd8 few) (by decide)
 have la:=aS5 e
 have c:vs.toArray.size < 2:=by simpa using few
 have same:(arrOf (SortSt.mk' general' (vs.toArray.zip vs.toArray) #[] 7 none)).map (·.2)=vs.toArray:=by
  change (vs.toArray.zip vs.toArray).map (·.2)=vs.toArray
  apply Array.ext'
  simpa using oY vs
 obtain ⟨k,ek⟩:∃ k,(s.heap.update a (Obj.mapSeq fun _=>#[])).get? a=some (seqObj "list" #[] k):=⟨_,get?_update_seq e fun _=>#[]⟩
 have there:(((s.heap.update a (Obj.mapSeq fun _=>#[])).push (seqObj "tuple" vs.toArray 0)).push (seqObj "list" #[] 0)).get? a=some (seqObj "list" #[] k):=
  aR1 _ (aR1 _ ek)
 rw [list_sort_plain]
 apply aQ9
 apply listItems_at e rfl
 apply aQ9
 refine listUpdate_at e rfl ?_ (by simpa using big) (ba7 _)
 apply aQ9
 apply seqEpoch_at ek rfl
 apply aQ9
 refine wpAny_newTuple ?_ big
 apply aQ9
 refine wpAny_newList ?_ (ba7 _)
 apply aZ7
 simp only [c,if_true,StateT.run_pure]
 apply aQ9
 apply aR4
 apply aQ9
 apply aR4
 apply aQ9
 apply seqEpoch_at there rfl
 apply aQ9
 refine listUpdate_at there rfl ?_ (ba7 _) (by rw [same,aR8]; exact Nat.le_succ_of_le big)
 rw [same]
 simp only [bne_self_eq_false,aT7,aZ0]
 exact aR4 q
theorem al3 {prog:Program}{w:World}{A:Around}{E:Value->Shared->Prop}{s:Shared}{l:Addr}{vs:List Value}{Q:Value->Shared->Prop} (hl:s.heap.IsList l vs.toArray) (few:vs.length < 2)
  (q:Q (.ref (s.heap.objs.size+1)) { s with heap:=sortedAll s.heap vs vs.toArray }):wpAny (model prog w) A (call (.builtin "sorted") [.ref l]) Q E s:=by
 have big:vs.length<=sizeLine:=aU9 (bd8 few) (by decide)
 apply Calls.call_function_entry kind_sorted plain_sorted entry_sorted (args_sorted1 _)
 simp only [Builtin.«sorted»]
 apply aQ9 (m:=checkCount "sorted" 1 1 _)
 apply aR4
 apply aQ9
 refine collect_list hl ?_ big
 apply aQ9
 refine wpAny_newList ?_ big
 have one:((s.heap.push (seqObj "list" #[] 0)).update s.heap.objs.size (Obj.mapSeq (· ++ vs.toArray))).objs.size=s.heap.objs.size+1:=(Heap.size_update _ _ _).trans (size_push' _ _)
 have at1:(((s.heap.push (seqObj "list" #[] 0)).update s.heap.objs.size (Obj.mapSeq (· ++ vs.toArray))).push (seqObj "list" vs.toArray 0)).get? (s.heap.objs.size+1)=some (seqObj "list" vs.toArray 0):=one ▸ aS7 _ rfl
 change wpAny _ _ _ _ _ { s with heap:=((s.heap.push (seqObj "list" #[] 0)).update s.heap.objs.size (Obj.mapSeq (· ++ vs.toArray))).push (seqObj "list" vs.toArray 0) }
 rw [one]
 apply aQ9
 apply aZ7
 refine aX5 slot_list_sort ⟨_,at1,rfl⟩ entry_list_sort ?_ (args_list_sort _)
 refine yY at1 few ⟨_,rfl,?_⟩
 exact aR4 ⟨_,rfl,q⟩
theorem kK:∀ {a b:List Int},HT.aO a b=true->HT.aO b a=false
 | [],[],h=>by cases h
 | [],_ :: _,_=>rfl
 | _ :: _,[],h=>by cases h
 | x :: xs,y :: ys,h=>by
  rw [HT.gI] at h ⊢
  by_cases e:x=y
  ·rw [if_pos e] at h; rw [if_pos e.symm]; exact kK h
  ·rw [if_neg e] at h; rw [if_neg (Ne.symm e)]
   have:=bg1 h
   exact aR2 (by omega)
theorem tF:∀ {a b c:List Int},HT.aO a b=false->HT.aO b c=false->HT.aO a c=false
 | [],[],c,_,h=>h
 | [],_ :: _,_,h,_=>by cases h
 | _ :: _,[],[],_,_=>rfl
 | _ :: _,[],_ :: _,_,h=>by cases h
 | _ :: _,_ :: _,[],_,_=>rfl
 | x :: xs,y :: ys,z :: zs,h1,h2=>by
  rw [HT.gI] at h1 h2 ⊢
  by_cases e1:x=y
  ·rw [if_pos e1] at h1
   by_cases e2:y=z
   ·rw [if_pos e2] at h2; rw [if_pos (e1.trans e2)]; exact tF h1 h2
   ·rw [if_neg e2] at h2; rw [if_neg (by rw [e1]; exact e2)]; rw [e1]; exact h2
  ·rw [if_neg e1] at h1
   have k1:=bf1 h1
   by_cases e2:y=z
   ·rw [<- e2,if_neg e1]; exact h1
   ·rw [if_neg e2] at h2
    have k2:=bf1 h2
    rw [if_neg (by omega)]
    exact aR2 (by omega)
theorem tG:∀ {a b:List Int},HT.aO a b=false->HT.aO b a=false->a=b
 | [],[],_,_=>rfl
 | [],_ :: _,h,_=>by cases h
 | _ :: _,[],_,h=>by cases h
 | x :: xs,y :: ys,h1,h2=>by
  rw [HT.gI] at h1 h2
  by_cases e:x=y
  ·rw [if_pos e] at h1; rw [if_pos e.symm] at h2; rw [e,tG h1 h2]
  ·rw [if_neg e] at h1; rw [if_neg (Ne.symm e)] at h2
   have:=bf1 h1
   have:=bf1 h2
   omega
section
variable {prog : Program} {w : World} {A : Around} {s : Shared} {Q : Bool → Shared → Prop}
theorem tH:∀ {us ws:List Value}{xs ys:List Int} (i:Nat),IntsAre us xs->IntsAre ws ys->Q (HT.aO xs ys) s->PySem.W.KatLex prog w A true (decide (us.length < ws.length)) Q (us.zip ws) i s
 | _,_,_,_,_,.nil,.nil,h=>h
 | _,_,_,_,_,.nil,.cons _ _ _,h=>h
 | _,_,_,_,_,.cons _ _ _,.nil,h=>h
 | _,_,_,_,i,.cons (vs:=us) x t hx,.cons (vs:=ws) y u hy,h=>by
  refine PySem.W.kat_cons (wpAny_eqBool_int ?_)
  rw [HT.gI] at h
  by_cases e:x=y
  ·rw [if_pos e] at h
   have eb:(x == y)=true:=by simpa using e
   rw [eb]
   refine PySem.W.kat_yes ?_
   have e2:decide ((Value.int x t :: us).length < (Value.int y u :: ws).length)=decide (us.length < ws.length):=by simp
   rw [e2]
   exact tH (i+1) hx hy h
  ·rw [if_neg e] at h
   have eb:(x == y)=false:=by simpa using e
   rw [eb]
   refine PySem.W.kat_no ?_
   cases hi:(true && i == 0) with
   | true=>exact PySem.W.kat_lt_int h
   | false=>exact PySem.W.kat_one _ _ (lt_int h)
end
end L2
namespace Raw
open PySem PySem.W PySem.Calls PyProof.Rows
def gK (h:Heap) (d:Addr) (es:Array DictEntry) (ep:Nat):Prop:=∃ o,h.get? d=some o/\o.ExactDict/\o.data = .dict es ep
theorem gK.ty {s:Shared}{d:Addr}{es:Array DictEntry}{ep:Nat} (x:gK s.heap d es ep):s.TypeIs (.ref d) "dict":=x.elim fun o y=>⟨o,y.1,y.2.1.1⟩
theorem gK.lt {h:Heap}{d:Addr}{es:Array DictEntry}{ep:Nat} (x:gK h d es ep):d < h.objs.size:=x.elim fun _ y=>aS5 y.1
theorem gK.keep {h h':Heap}{d:Addr}{es:Array DictEntry}{ep:Nat} (x:gK h d es ep) (k:∀ o,h.get? d=some o->h'.get? d=some o):gK h' d es ep:=x.elim fun o y=>⟨o,k o y.1,y.2⟩
section
variable {prog : Program} {w : World} {A : Around} {E : Value → Shared → Prop} {s : Shared} {d it : Addr} {es : Array DictEntry} {ep i : Nat}
theorem made (far:(d == sysModules)=false) (x:gK s.heap d es ep) {Q:Value->Shared->Prop}
  (q:Q (.ref s.heap.objs.size) { s with heap:=s.heap.push { cls:=.type "dict_keyiterator",data:=.fields #[.ref d,.int 0 0,.int es.size 0,.int ep 0] } }):wpAny (model prog w) A (pyIter (.ref d)) Q E s:=by
 have T:=x.ty
 obtain ⟨o,e1,e2,e3⟩:=x
 apply wpAny_pyIter_slot T PySem.F.slot_dict_iter
 apply aX5 PySem.F.slot_dict_iter T PySem.F.entry_dict_iter _ (PySem.F.args_dict_iter_1 _)
 simp only [Builtin.«dict.__iter__»,Builtin.Dict.dictSlotNone]
 apply aQ9
 apply aQ9
 apply wpAny_notOrdered_dict T
 apply aR4
 change wpAny _ _ (Builtin.Dict.showsAll d >>= _) _ _ s
 have far':Builtin.Dict.showsAll d=pure ():=by
  unfold Builtin.Dict.showsAll
  simp only [far,aT7,aZ0]
 rw [far',pure_bind]
 apply aQ9
 apply wpAny_dictEntries e1 e3
 apply aQ9
 apply wpAny_dictEpoch e1 e3
 apply aQ9
 refine aV4 (aR4 ?_)
 refine⟨.ref s.heap.objs.size,rfl,"dict_keyiterator",_,⟨_,aS7 _ rfl,rfl⟩,PySem.F.slot_dict_keyiterator_next.lookup,?_⟩
 simpa only [rawInt] using q
theorem turn (hh:A.handled=none) (hi:s.heap.IsKeyIter it d i es.size ep) (x:gK s.heap d es ep) {Q:Option Value->Shared->Prop}
  (yes:∀ (lt:i < es.size) h',h'.IsKeyIter it d (i+1) es.size ep->Heap.SameBut it s.heap h'->Q (some es[i].key) { s with heap:=h' })
  (no:es.size<=i->∀ h',Heap.ExtBut it s.heap h'->Q none { s with heap:=h' }):wpAny (model prog w) A (pyNext (.ref it)) Q E s:=by
 have T:=hi.typeIs
 obtain ⟨oi,f1,f2,f3⟩:=hi
 obtain ⟨o,e1,e2,e3⟩:=x
 have slot:=PySem.F.slot_dict_keyiterator_next
 have plain:Builtin.Dict_items.ownsTuple "dict_keyiterator" = false:=by decide
 have isref:(Value.ref d == Value.none)=false:=rfl
 have nn : ¬ (i:Int) < 0:=by omega
 unfold pyNext
 apply aQ9
 apply wpAny_attempt
 apply aX1 (name:=Str.ofString "__next__") T slot
 apply aX5 slot T PySem.F.entry_dict_keyiterator_next _ (PySem.F.args_dict_keyiterator_next_1 _)
 apply aQ9
 apply aR4
 apply aQ9
 apply aQ9
 apply aQ9
 first
  | apply wpAny_typeNameOfWhole_keyiter T
  | apply wpAny_typeNameOf_keyiter T
 apply aR4
 apply aQ9
 apply wpAny_fieldsOf f1 f3
 simp only [plain,aT7,aZ0]
 change wpAny _ _ (if (Value.ref d == Value.none)=true then _ else _) _ _ s
 have adr:Builtin.Dict_items.addrOf (Value.ref d)=pure d:=rfl
 simp only [isref,aT7,aZ0,adr,pure_bind]
 apply aQ9
 apply wpAny_dictEntries e1 e3
 simp only [bne_self_eq_false,aT7,aZ0]
 apply aQ9
 apply wpAny_dictEpoch e1 e3
 simp only [bne_self_eq_false,aT7,aZ0]
 apply aR4
 simp only [nn,aZ0,Int.toNat_natCast]
 by_cases lt:i < es.size
 ·simp only [Array.getElem?_eq_getElem lt]
  apply aQ9
  apply aQ9
  first
   | apply wpAny_typeNameOfWhole_keyiter T
   | apply wpAny_typeNameOf_keyiter T
  apply aR4
  apply aQ9
  apply wpAny_isOneOf_keyiter T
  change wpAny _ _ (setField (.ref it) 1 (rawInt ((i:Int)+1)) >>= _) _ _ s
  apply aQ9
  refine wpAny_setField f1 f3 (by simp) ?_
  have again:(s.heap.update it (Obj.mapFields (·.setIfInBounds 1 (rawInt ((i:Int)+1))))).IsKeyIter it d (i+1) es.size ep:=by
   refine⟨_,ba2 _ f1 (Obj.isFreed_of_fields (Obj.data_mapFields f3 _)),?_,?_⟩
   ·rw [Obj.cls_mapFields]; exact f2
   ·rw [Obj.data_mapFields f3]; simp [rawInt]
  apply aQ9
  apply aZ7
  apply aQ9
  refine wpAny_isOneOf_keyiter (s:={ s with heap:=s.heap.update it (Obj.mapFields (·.setIfInBounds 1 (rawInt ((i:Int)+1)))) }) again.typeIs ?_
  change wpAny _ _ (pure es[i].key) _ _ _
  apply aR4
  apply aR4
  exact⟨es[i].key,rfl,aR4 (yes lt _ again (bd0 ..))⟩
 ·have ge:es.size<=i:=Nat.le_of_not_lt lt
  simp only [Array.getElem?_eq_none ge]
  apply aQ9
  apply aQ9
  first
   | apply wpAny_typeNameOfWhole_keyiter T
   | apply wpAny_typeNameOf_keyiter T
  apply aR4
  change wpAny _ _ (setField (.ref it) 0 .none >>= _) _ _ s
  apply aQ9
  refine wpAny_setField f1 f3 (by simp) ?_
  apply aQ9
  simp only [newExc,newTuple]
  apply aQ9
  refine aV4 ?_ (by size_fits)
  apply aQ9
  refine wpAny_of_eq (a:=Value.none) (by first | rfl | (simp only [firstArgMember]; rfl)) ?_
  refine aV4 ?_ (by size_fits)
  unfold raiseNew
  apply aQ9
  apply wpAny_handled
  have quiet:A.in1.handled=none:=hh
  rw [quiet]
  refine wpAny_throw ?_
  apply aQ9
  refine wpAny_isInstance (T:="StopIteration") (b:=true) ⟨_,aS7 _ rfl,rfl⟩ isSubtype_stop ?_
  exact aR4 (no ge _ (((bd0 ..).extBut.push _).push _))
theorem al4 (hh:A.handled=none) (ne:d ≠ it):Walks prog w A it [it,d] [it] es.size (fun i v=>∃ lt:i < es.size,es[i].key=v) (fun i h=>h.IsKeyIter it d i es.size ep/\gK h d es ep) where
 sub:=by intro b hb; rw [aR9.mp hb]; exact aS6
 frame:=by
  intro i h h' st hk
  exact⟨st.1.at (hk it aS6),st.2.keep (hk d (aS2 _ aS6))⟩
 item:=by
  intro i s Q E lt st hQ
  refine turn hh st.1 st.2 (fun lt' h' again sb=>?_) fun ge=>absurd lt (Nat.not_lt.mpr ge)
  exact hQ _ h' s.toks ⟨lt',rfl⟩ ⟨again,st.2.keep fun o e=>sb.extBut d o ne e⟩ fun b o hb e=>sb.extBut b o (fun z=>hb (aR9.mpr z)) e
 done:=by
  intro s Q E st hQ
  refine turn hh st.1 st.2 (fun lt=>absurd lt (aY9 _)) fun _ h' eb=>?_
  exact hQ h' s.toks fun b o hb e=>eb b o (fun z=>hb (aR9.mpr z)) e
 self:=by intro i s Q E st hQ; exact wpAny_pyIter_keyiter st.1 hQ
theorem al5 (far:(d == sysModules)=false):KdlSrc prog w "dict" d d es.size (fun i v=>∃ lt:i < es.size,es[i].key=v) (fun h=>gK h d es ep) where
 type:=fun _ x=>x.ty
 there:=fun _ x=>⟨x.lt,x.lt⟩
 keep:=fun _ _ x k=>x.keep (k d (.inl rfl))
 notList:=by decide
 notTuple:=by decide
 hint:=fun _ _ _ _ x q=>kdl_hint_dict x.ty q
 iter:=fun _ _ hh x=>⟨_,_,fun _ _ q=>made far x q,al4 hh (aU5 x.lt),⟨_,aS7 _ rfl,rfl,rfl⟩,x.keep fun o e=>aR1 _ e⟩
end
end Raw
namespace L2
open PySem PySem.Spec PyProof.Rows
section
variable {X : Cx} {pins : List (Addr × Obj)} {σ : St} {H : Hp} {s : Shared} {a : Addr}
def jM (H:Hp) (y:V) (k:List aJ):Prop:=∃ q,y = .ref q/\H q=some (.tup (k.map kV))
theorem al6 {kvs:List (List aJ × V)} (I:aA X pins σ H s) (h:H a=some (.dT kvs)):∃ es ep ys,Raw.gK s.heap a es ep/\(a == sysModules)=false/\Paired (jM H) ys (kvs.map (·.1))/\aR ys (es.toList.map (·.key))/\kvs.length<=sizeLine:=by
 obtain ⟨z,far,xs,rel,o,es,ep,e1,e2,e3,e4,nd⟩:=(show bW X.prog X.w H s.heap a (.dT kvs) from I.hok a _ h)
 refine⟨es,ep,xs.map fun q=>V.ref q.2.1,⟨o,e1,e2,e3⟩,far,?_,?_,z⟩
 ·clear e4 nd h z
  induction rel with
  | nil=>exact .nil
  | cons r rs ih=>exact .cons ⟨_,rfl,r.2.1⟩ ih
 ·rw [e4]
  clear rel e4 nd
  induction xs with
  | nil=>exact .nil
  | cons q qs ih=>exact .cons rfl ih
theorem yZ {es:Array DictEntry}{acc:Array Value} (h:ItemsOf (fun i v=>∃ lt:i < es.size,es[i].key=v) acc es.size):acc.toList=es.toList.map (·.key):=by
 apply List.ext_getElem?
 intro j
 have h1:=h.1
 by_cases hj:j < es.size
 ·have hj':j < acc.size:=by rw [h1]; exact hj
  obtain ⟨_,e⟩:=h.2 j acc[j] (by simp [hj'])
  rw [aT4]
  simp [hj,hj',e]
 ·have hj' : ¬ j < acc.size:=by rw [h1]; exact hj
  rw [aT4]
  simp [Nat.le_of_not_lt hj,Nat.le_of_not_lt hj']
end
section
variable {X : Cx}
theorem al7:dC X (.builtin "isinstance") (fun xs H Q=>∃ x t n b,xs = [x,.ty n]/\fE X.K H x t/\PySem.W.kitOne X.K t (.type n)=some b/\Q (.bl b) H):=by
 intro pins s σ H xs us Q I r h
 obtain ⟨x,t,n,b,rfl,ty,e,q⟩:=h
 obtain ⟨u,u',rfl,ru,ru'⟩:=kD r
 cases ru'
 exact ae8 I ru ty e fun tk=>⟨.bl b,H,I.tok tk,rfl,q⟩
end
def z0 (outer:List (Str × NameKind)) (XN:List Str) (names:List (Str × NameKind)) (N:List Str) (fr:List (Option Nat)):Bool:=
 names.all (fun y=>!(y.2 == .cell) || names.lookup y.1 == some .cell) && names.all (fun y=>!(y.2 == .local) || names.lookup y.1 == some .local) &&
 names.all (fun y=>!(y.2 == .free) || (outer.lookup y.1 == some .cell || outer.lookup y.1 == some .free)) && fr.length == N.length &&
 (fr.zip N).all (fun p=>match p.1 with
  | none=>true
  | some j=>XN[j]? == some p.2 && names.lookup p.2 == some .free)
theorem eG.of {X:Cx}{scope:Scope}{N:List Str}{fr:List (Option Nat)} (hk:scope.kind = .function) (h:z0 X.env.scope.names X.N scope.names N fr=true):eG X scope N fr:=by
 unfold z0 at h
 simp only [aY6] at h
 obtain ⟨⟨⟨⟨h1,h2⟩,h3⟩,h4⟩,h5⟩:=h
 refine⟨hk,fun y hy e=>?_,fun y hy e=>?_,fun y hy e=>?_,by simpa using h4,fun i j e=>?_⟩
 ·have:=bc5.mp h1 y hy
  rw [e] at this; simpa using this
 ·have:=bc5.mp h2 y hy
  rw [e] at this; simpa using this
 ·have:=bc5.mp h3 y hy
  rw [e] at this; simpa using this
 ·have hl:fr.length=N.length:=by simpa using h4
  have hi:i < fr.length:=(aS0.mp e).1
  have m:(some j,N[i]'(by omega)) ∈ fr.zip N:=by
   have:(fr.zip N)[i]? = some (some j,N[i]'(by omega)):=by
    rw [List.getElem?_zip_eq_some]
    exact⟨e,by simp⟩
   exact bc4 this
  have:=bc5.mp h5 _ m
  simp only [aY6,beq_iff_eq] at this
  exact⟨N[i]'(by omega),by simp,this.1,this.2⟩
def tI (ls:List (Int × Int)) (k:Int):List Int:=ls.flatMap fun l=>(if l.1=k then [l.2] else []) ++ (if l.2=k then [l.1] else [])
theorem al8 {α:Type}{xs:List α}{i:Int}{v:α} (h0:0<=i) (h:xs[i.toNat]? = some v):atI xs i=some v:=by
 have:=xT h
 rwa [show ((i.toNat:Nat):Int)=i by omega] at this
theorem tJ {n:Nat} (h:n<=16000000):n < sizeLine:=by rw [sizeLine_eq]; omega
theorem z9 {K:PySem.W.Frag}{H:Hp}{p:Addr}{xs:List V} (h:aW K H p xs):oS K "list" (.ref p) H:=.inl ⟨rfl,xs,h⟩
end L2
namespace Zp
open PySem PyProof.Rows
section
variable {prog : Program} {w : World} {A : Around} {E : Value → Shared → Prop} {s : Shared}
theorem zA {it t:Addr}{i:Nat}{items:Array Value}{x:Value}{Q:Value->Shared->Prop} (hi:s.heap.IsTupleIter it t i) (ht:s.heap.IsTuple t items) (hx:items[i]? = some x)
  (q:∀ h',h'.IsTupleIter it t (i+1)->Heap.SameBut it s.heap h'->Q x { s with heap:=h' }):wpAny (model prog w) A (Builtin.SmallTypes.nextOf (.ref it)) Q E s:=by
 have T:=hi.typeIs
 obtain ⟨o,e1,e2,e3⟩:=hi
 obtain ⟨u,f1,_,k,f3⟩:=ht
 have slot:=PySem.F.slot_tuple_iterator_next
 have isref:(Value.ref t == Value.none)=false:=rfl
 unfold Builtin.SmallTypes.nextOf
 apply aQ9
 apply aX1 (name:=Str.ofString "__next__") T slot
 apply aX5 slot T PySem.F.entry_tuple_iterator_next _ (PySem.F.args_tuple_iterator_next_1 _)
 change wpAny _ _ (field (.ref it) 0 >>= _) _ _ s
 apply aQ9
 refine aX0 e1 e3 (x:=.ref t) rfl ?_
 change wpAny _ _ (if (Value.ref t == Value.none)=true then _ else _) _ _ s
 simp only [isref,aT7,aZ0]
 change wpAny _ _ (field (.ref it) 1 >>= _) _ _ s
 apply aQ9
 refine aX0 e1 e3 (x:=.int i 0) rfl ?_
 change wpAny _ _ (seqItems? (.ref t) >>= _) _ _ s
 apply aQ9
 apply aY8 f1 f3
 simp only [Int.toNat_natCast,hx]
 apply aQ9
 refine wpAny_setField e1 e3 (by simp) ?_
 apply aR4
 refine⟨x,rfl,aR4 (q _ ⟨_,ba2 _ e1 (Obj.isFreed_of_fields (Obj.data_mapFields e3 _)),?_,?_⟩ (bd0 ..))⟩
 ·rw [Obj.cls_mapFields]; exact e2
 ·rw [Obj.data_mapFields e3]; simp [rawInt]
theorem zB {it t:Addr}{i:Nat}{items:Array Value}{Q:Value->Shared->Prop} (hh:A.handled=none) (hi:s.heap.IsTupleIter it t i) (ht:s.heap.IsTuple t items) (hx:items[i]? = none)
  (q:∀ h' e,Heap.ExtBut it s.heap h'->(∃ o,h'.get? e=some o/\o.cls = .type "StopIteration")->E (.ref e) { s with heap:=h' }):wpAny (model prog w) A (Builtin.SmallTypes.nextOf (.ref it)) Q E s:=by
 have T:=hi.typeIs
 obtain ⟨o,e1,e2,e3⟩:=hi
 obtain ⟨u,f1,_,k,f3⟩:=ht
 have slot:=PySem.F.slot_tuple_iterator_next
 have isref:(Value.ref t == Value.none)=false:=rfl
 unfold Builtin.SmallTypes.nextOf
 apply aQ9
 apply aX1 (name:=Str.ofString "__next__") T slot
 apply aX5 slot T PySem.F.entry_tuple_iterator_next _ (PySem.F.args_tuple_iterator_next_1 _)
 change wpAny _ _ (field (.ref it) 0 >>= _) _ _ s
 apply aQ9
 refine aX0 e1 e3 (x:=.ref t) rfl ?_
 change wpAny _ _ (if (Value.ref t == Value.none)=true then _ else _) _ _ s
 simp only [isref,aT7,aZ0]
 change wpAny _ _ (field (.ref it) 1 >>= _) _ _ s
 apply aQ9
 refine aX0 e1 e3 (x:=.int i 0) rfl ?_
 change wpAny _ _ (seqItems? (.ref t) >>= _) _ _ s
 apply aQ9
 apply aY8 f1 f3
 simp only [Int.toNat_natCast,hx]
 apply aQ9
 apply be5
 apply aQ9
 refine wpAny_setField e1 e3 (by simp) ?_
 apply aQ9
 simp only [newExc,newTuple]
 apply aQ9
 refine aV4 ?_ (by size_fits)
 apply aQ9
 refine wpAny_of_eq (a:=Value.none) (by first | rfl | (simp only [firstArgMember]; rfl)) ?_
 refine aV4 ?_ (by size_fits)
 unfold raiseNew
 apply aQ9
 apply wpAny_handled
 have quiet:A.in1.handled=none:=hh
 rw [quiet]
 refine wpAny_throw ?_
 exact q _ _ (((bd0 ..).extBut.push _).push _) ⟨_,aS7 _ rfl,rfl⟩
theorem al9 (hh:A.handled=none) (it t:Addr) (ne:t ≠ it) (items:Array Value):Draws prog w A it [it,t] items.size (fun i v=>items[i]? = some v) (fun i h=>h.IsTupleIter it t i/\h.IsTuple t items) where
 live:=fun _ _ st=>st.1.elim fun o y=>⟨o,y.1⟩
 frame:=fun _ _ _ st k=>⟨st.1.at fun o e=>k it aS6 o e,st.2.elim fun o y=>⟨o,k t (aS2 _ aS6) o y.1,y.2⟩⟩
 item:=fun i s Q E lt st q=>zA st.1 st.2 (Array.getElem?_eq_getElem lt) fun h' again sb=>q _ h' s.toks (Array.getElem?_eq_getElem lt) ⟨again,st.2.elim fun o y=>⟨o,sb.extBut t o ne y.1,y.2⟩⟩ sb
 done:=fun s Q E st q=>zB hh st.1 st.2 (Array.getElem?_eq_none (aS4 _)) q
end
structure Ap (z TI TO i1 i2:Addr) (fp1 fp2:List Addr):Prop where
 TIz:TI ≠ z
 TOz:TO ≠ z
 TITO:TI ≠ TO
 z1:z ∉ fp1
 z2:z ∉ fp2
 o1:TO ∉ fp1
 o2:TO ∉ fp2
 t1:TI ∉ fp1
 t2:TI ∉ fp2
 m1:i1 ∈ fp1
 m2:i2 ∈ fp2
 n1:i1 ∉ fp2
 n2:i2 ∉ fp1
structure tK (z TI TO i1 i2:Addr) (St1 St2:Nat->Heap->Prop) (f0:Value) (i j:Nat) (h:Heap):Prop where
 zz:IsZip h z TI TO f0
 ti:IsPair h TI (.ref i1) (.ref i2)
 to_:∃ a b,IsPair h TO a b
 s1:St1 i h
 s2:St2 j h
section
variable {prog : Program} {w : World} {A : Around} {E : Value → Shared → Prop} {s : Shared} {z TI TO i1 i2 : Addr} {fp1 fp2 : List Addr} {n1 n2 : Nat} {P1 P2 : Nat → Value → Prop} {St1 St2 : Nat → Heap → Prop}
theorem lM (ap:Ap z TI TO i1 i2 fp1 fp2) {b:Addr} (h:b ∉ fp1):b ≠ i1:=fun e=>h (e ▸ ap.m1)
theorem oZ (ap:Ap z TI TO i1 i2 fp1 fp2) {b:Addr} (h:b ∉ fp2):b ≠ i2:=fun e=>h (e ▸ ap.m2)
theorem item (D1:Draws prog w A.in1 i1 fp1 n1 P1 St1) (D2:Draws prog w A.in1 i2 fp2 n2 P2 St2) (ap:Ap z TI TO i1 i2 fp1 fp2) {i:Nat} (l1:i < n1) (l2:i < n2) (st:tK z TI TO i1 i2 St1 St2 .none i i s.heap) {Q:Option Value->Shared->Prop}
  (q:∀ x y h' tk,P1 i x->P2 i y->tK z TI TO i1 i2 St1 St2 (rawInt s.heap.objs.size) (i+1) (i+1) h'->IsPair h' s.heap.objs.size x y->(∀ c o,c ≠ z->c ≠ TO->c ≠ i1->c ≠ i2->s.heap.get? c=some o->h'.get? c=some o)->
   h'.objs.size=s.heap.objs.size+1->Q (some (.ref s.heap.objs.size)) { s with heap:=h',toks:=tk }):wpAny (model prog w) A (pyNext (.ref z)) Q E s:=by
 obtain ⟨hz,hti,⟨a,b,hto⟩,h1,h2⟩:=st
 have T:s.TypeIs (.ref z) "zip":=⟨_,hz,rfl⟩
 have slot:=PySem.F.slot_zip_next
 unfold pyNext
 apply aQ9
 apply wpAny_attempt
 apply aX1 (name:=Str.ofString "__next__") T slot
 apply aX5 slot T PySem.F.entry_zip_next _ (PySem.F.args_zip_next_1 _)
 change wpAny _ _ (field (.ref z) 2 >>= _) _ _ _
 apply aQ9
 refine aX0 hz rfl (x:=.bool false) rfl ?_
 change wpAny _ _ (field (.ref z) 3 >>= _) _ _ _
 apply aQ9
 refine aX0 hz rfl (x:=.ref TI) rfl ?_
 apply aQ9
 apply aY8 hti rfl
 change wpAny _ _ (Builtin.SmallTypes.ownedTupleIsFree (.ref z) >>= _) _ _ _
 apply aQ9
 unfold Builtin.SmallTypes.ownedTupleIsFree
 apply aQ9
 refine aX0 hz rfl (x:=.none) rfl (aR4 ?_)
 simp only [if_true]
 apply aQ9
 apply be5
 apply aQ9
 refine aX0 hz rfl (x:=.ref TO) rfl ?_
 apply aQ9
 refine aY0 hz (by simp) fun g1 hz1 sb1=>?_
 have k1:∀ c o,c ≠ z->s.heap.get? c=some o->g1.get? c=some o:=fun c o c1 e=>sb1.extBut c o c1 e
 apply aQ9
 simp only [List.zipIdx_cons,List.zipIdx_nil,List.forIn_cons,List.forIn_nil]
 apply aQ9
 apply aQ9
 apply wpAny_onRaise
 change wpAny _ _ (Builtin.SmallTypes.nextOf (.ref i1) >>= _) _ _ _
 apply aQ9
 refine D1.item i { s with heap:=g1 } _ _ l1 (D1.frame _ _ _ h1 fun c hc o e=>k1 c o (fun y=>ap.z1 (y ▸ hc)) e) fun x g2 tk2 px st1 sb2=>aR4 ?_
 have k2:∀ c o,c ≠ z->c ≠ i1->s.heap.get? c=some o->g2.get? c=some o:=fun c o c1 c2 e=>sb2.extBut c o c2 (k1 c o c1 e)
 have to2:IsPair g2 TO a b:=k2 _ _ ap.TOz (lM ap ap.o1) hto
 apply aQ9
 apply aY8 to2 rfl
 apply aQ9
 refine wpAny_updateSeq_pair to2 fun g3 to3 sb3=>?_
 have to3:IsPair g3 TO x b:=to3
 apply aQ9
 apply bd1
 apply aR4
 apply aQ9
 apply aQ9
 apply wpAny_onRaise
 change wpAny _ _ (Builtin.SmallTypes.nextOf (.ref i2) >>= _) _ _ _
 apply aQ9
 have k3:∀ c o,c ≠ z->c ≠ i1->c ≠ TO->s.heap.get? c=some o->g3.get? c=some o:=fun c o c1 c2 c3 e=>sb3.extBut c o c3 (k2 c o c1 c2 e)
 refine D2.item i { s with heap:=g3,toks:=tk2 } _ _ l2 (D2.frame _ _ _ h2 fun c hc o e=>k3 c o (fun y=>ap.z2 (y ▸ hc)) (fun y=>ap.n1 (y ▸ hc)) (fun y=>ap.o2 (y ▸ hc)) e) fun y g4 tk4 py st2 sb4=>aR4 ?_
 have to4:IsPair g4 TO x b:=sb4.extBut _ _ (oZ ap ap.o2) to3
 apply aQ9
 apply aY8 to4 rfl
 apply aQ9
 refine wpAny_updateSeq_pair to4 fun g5 to5 sb5=>?_
 have to5:IsPair g5 TO x y:=to5
 apply aQ9
 apply bd1
 apply aR4
 apply aR4
 apply aQ9
 apply aY8 to5 rfl
 apply aQ9
 refine wpAny_newTuple ?_ (by show 2<=sizeLine; decide)
 have size:g5.objs.size=s.heap.objs.size:=by rw [sb5.1,sb4.1,sb3.1,sb2.1,sb1.1]
 have k5:∀ c o,c ≠ z->c ≠ TO->c ≠ i1->c ≠ i2->s.heap.get? c=some o->g5.get? c=some o:=fun c o c1 c2 c3 c4 e=>sb5.extBut c o c2 (sb4.extBut c o c4 (k3 c o c1 c3 c2 e))
 have z5:IsZip g5 z TI TO .ellipsis:=sb5.extBut _ _ (Ne.symm ap.TOz) (sb4.extBut _ _ (oZ ap ap.z2) (sb3.extBut _ _ (Ne.symm ap.TOz) (sb2.extBut _ _ (lM ap ap.z1) hz1)))
 change wpAny _ _ (Builtin.SmallTypes.ownedTupleHandOut (.ref z) (.ref g5.objs.size) >>= _) _ _ _
 apply aQ9
 unfold Builtin.SmallTypes.ownedTupleHandOut
 apply aQ9
 have z6:IsZip (g5.push { cls:=.type "tuple",data:=.seq #[x,y] }) z TI TO .ellipsis:=aR1 _ z5
 refine aY0 z6 (by simp) fun g7 z7 sb7=>?_
 have z7:IsZip g7 z TI TO (rawInt g5.objs.size):=z7
 refine aY0 z7 (by simp) fun g8 z8 sb8=>?_
 have z8:IsZip g8 z TI TO (rawInt g5.objs.size):=z8
 have zlt:z < g5.objs.size:=aS5 z5
 have up:∀ c o,c ≠ z->g5.get? c=some o->g8.get? c=some o:=fun c o c1 e=>sb8.extBut c o c1 (sb7.extBut c o c1 (aR1 _ e))
 have p8:IsPair g8 g5.objs.size x y:=sb8.extBut _ _ (ba3 zlt) (sb7.extBut _ _ (ba3 zlt) (aS7 _ rfl))
 have s8:g8.objs.size=g5.objs.size+1:=by rw [sb8.1,sb7.1,aY7]
 have f1:St1 (i+1) g8:=D1.frame _ _ _ st1 fun c hc o e=>up c o (fun y=>ap.z1 (y ▸ hc)) (sb5.extBut c o (fun y=>ap.o1 (y ▸ hc)) (sb4.extBut c o (fun y=>ap.n2 (y ▸ hc)) (sb3.extBut c o (fun y=>ap.o1 (y ▸ hc)) e)))
 have f2:St2 (i+1) g8:=D2.frame _ _ _ st2 fun c hc o e=>up c o (fun y=>ap.z2 (y ▸ hc)) (sb5.extBut c o (fun y=>ap.o2 (y ▸ hc)) e)
 have ti8:IsPair g8 TI (.ref i1) (.ref i2):=up _ _ ap.TIz (k5 _ _ ap.TIz ap.TITO (lM ap ap.t1) (oZ ap ap.t2) hti)
 rw [size] at z8 p8 s8
 apply aR4
 refine⟨_,rfl,aR4 ?_⟩
 change Q (some (.ref g5.objs.size)) _
 rw [size]
 exact q x y g8 tk4 px py ⟨z8,ti8,⟨x,y,up _ _ ap.TOz to5⟩,f1,f2⟩ p8 (fun c o c1 c2 c3 c4 e=>up c o c1 (k5 c o c1 c2 c3 c4 e)) s8
theorem fin (D1:Draws prog w A.in1 i1 fp1 n1 P1 St1) (D2:Draws prog w A.in1 i2 fp2 n2 P2 St2) (ap:Ap z TI TO i1 i2 fp1 fp2) {i:Nat} (le:i=n1 ∨ (i < n1/\i=n2)) (st:tK z TI TO i1 i2 St1 St2 .none i i s.heap) {Q:Option Value->Shared->Prop}
  (q:∀ h' tk,(∀ c o,c ≠ z->c ≠ TO->c ≠ i1->c ≠ i2->s.heap.get? c=some o->h'.get? c=some o)->Q none { s with heap:=h',toks:=tk }):wpAny (model prog w) A (pyNext (.ref z)) Q E s:=by
 obtain ⟨hz,hti,⟨a,b,hto⟩,h1,h2⟩:=st
 have T:s.TypeIs (.ref z) "zip":=⟨_,hz,rfl⟩
 have slot:=PySem.F.slot_zip_next
 unfold pyNext
 apply aQ9
 apply wpAny_attempt
 apply aX1 (name:=Str.ofString "__next__") T slot
 apply aX5 slot T PySem.F.entry_zip_next _ (PySem.F.args_zip_next_1 _)
 change wpAny _ _ (field (.ref z) 2 >>= _) _ _ _
 apply aQ9
 refine aX0 hz rfl (x:=.bool false) rfl ?_
 change wpAny _ _ (field (.ref z) 3 >>= _) _ _ _
 apply aQ9
 refine aX0 hz rfl (x:=.ref TI) rfl ?_
 apply aQ9
 apply aY8 hti rfl
 change wpAny _ _ (Builtin.SmallTypes.ownedTupleIsFree (.ref z) >>= _) _ _ _
 apply aQ9
 unfold Builtin.SmallTypes.ownedTupleIsFree
 apply aQ9
 refine aX0 hz rfl (x:=.none) rfl (aR4 ?_)
 simp only [if_true]
 apply aQ9
 apply be5
 apply aQ9
 refine aX0 hz rfl (x:=.ref TO) rfl ?_
 apply aQ9
 refine aY0 hz (by simp) fun g1 hz1 sb1=>?_
 have k1:∀ c o,c ≠ z->s.heap.get? c=some o->g1.get? c=some o:=fun c o c1 e=>sb1.extBut c o c1 e
 apply aQ9
 simp only [List.zipIdx_cons,List.zipIdx_nil,List.forIn_cons,List.forIn_nil]
 apply aQ9
 apply aQ9
 apply wpAny_onRaise
 change wpAny _ _ (Builtin.SmallTypes.nextOf (.ref i1) >>= _) _ _ _
 apply aQ9
 have z1:IsZip g1 z TI TO .ellipsis:=hz1
 rcases le with rfl | ⟨lt,rfl⟩
 ·refine D1.done { s with heap:=g1 } _ _ (D1.frame _ _ _ h1 fun c hc o e=>k1 c o (fun y=>ap.z1 (y ▸ hc)) e) fun g2 e eb ex=>?_
  have z2:IsZip g2 z TI TO .ellipsis:=eb _ _ (lM ap ap.z1) z1
  refine aY0 z2 (by simp) fun g3 z3 sb3=>?_
  obtain ⟨oe,eo,co⟩:=ex
  have ne:e ≠ z:=fun y=>by
   rw [y,z2] at eo
   have:=aT8 eo
   rw [<- this] at co; exact absurd (show Value.type "zip" = Value.type "StopIteration" from co) (by decide)
  apply aQ9
  refine wpAny_isInstance (T:="StopIteration") (b:=true) ⟨oe,sb3.extBut _ _ ne eo,co⟩ isSubtype_stop ?_
  exact aR4 (q g3 s.toks fun c o c1 _ c3 _ e=>sb3.extBut c o c1 (eb c o c3 (k1 c o c1 e)))
 ·refine D1.item i { s with heap:=g1 } _ _ lt (D1.frame _ _ _ h1 fun c hc o e=>k1 c o (fun y=>ap.z1 (y ▸ hc)) e) fun x g2 tk2 px st1 sb2=>aR4 ?_
  have k2:∀ c o,c ≠ z->c ≠ i1->s.heap.get? c=some o->g2.get? c=some o:=fun c o c1 c2 e=>sb2.extBut c o c2 (k1 c o c1 e)
  have to2:IsPair g2 TO a b:=k2 _ _ ap.TOz (lM ap ap.o1) hto
  apply aQ9
  apply aY8 to2 rfl
  apply aQ9
  refine wpAny_updateSeq_pair to2 fun g3 to3 sb3=>?_
  apply aQ9
  apply bd1
  apply aR4
  apply aQ9
  apply aQ9
  apply wpAny_onRaise
  change wpAny _ _ (Builtin.SmallTypes.nextOf (.ref i2) >>= _) _ _ _
  apply aQ9
  have k3:∀ c o,c ≠ z->c ≠ i1->c ≠ TO->s.heap.get? c=some o->g3.get? c=some o:=fun c o c1 c2 c3 e=>sb3.extBut c o c3 (k2 c o c1 c2 e)
  refine D2.done { s with heap:=g3,toks:=tk2 } _ _ (D2.frame _ _ _ h2 fun c hc o e=>k3 c o (fun y=>ap.z2 (y ▸ hc)) (fun y=>ap.n1 (y ▸ hc)) (fun y=>ap.o2 (y ▸ hc)) e) fun g4 e eb ex=>?_
  have z4:IsZip g4 z TI TO .ellipsis:=eb _ _ (oZ ap ap.z2) (sb3.extBut _ _ (Ne.symm ap.TOz) (sb2.extBut _ _ (lM ap ap.z1) z1))
  refine aY0 z4 (by simp) fun g5 z5 sb5=>?_
  obtain ⟨oe,eo,co⟩:=ex
  have ne:e ≠ z:=fun y=>by
   rw [y,z4] at eo
   have:=aT8 eo
   rw [<- this] at co; exact absurd (show Value.type "zip" = Value.type "StopIteration" from co) (by decide)
  apply aQ9
  refine wpAny_isInstance (T:="StopIteration") (b:=true) ⟨oe,sb5.extBut _ _ ne eo,co⟩ isSubtype_stop ?_
  exact aR4 (q g5 tk2 fun c o c1 c2 c3 c4 e=>sb5.extBut c o c1 (eb c o c4 (k3 c o c1 c3 c2 e)))
end
def g9 (h:Heap) (t u:Addr):Heap:=
 ((((h.push { cls:=.type "tuple_iterator",data:=.fields #[.ref t,.int 0 0] }).push { cls:=.type "tuple_iterator",data:=.fields #[.ref u,.int 0 0] }).push { cls:=.type "tuple",data:=.seq #[.ref h.objs.size,.ref (h.objs.size+1)] }).push
  { cls:=.type "tuple",data:=.seq #[.none,.none] }).push { cls:=.type "zip",data:=.fields #[.none,.bool false,.bool false,.ref (h.objs.size+2),.ref (h.objs.size+3)] }
theorem am0 (t u:Addr) (xs ys:Array Value):Meets (Builtin.«zip.__new__» ⟨[.type "zip",.ref t,.ref u],[]⟩) (fun _ R s=>s.heap.IsTuple t xs/\s.heap.IsTuple u ys/\R (.ok (.ret (.ref (s.heap.objs.size+4)))) { s with heap:=g9 s.heap t u }):=
 .of_wp fun prog w A R s h=>by
  obtain ⟨hp,g,d,tk,os⟩:=s
  obtain ⟨ht,hu,h⟩:=h
  have sub:=sub_zip
  have a1:Heap.IsTuple (Shared.heap ⟨hp,g,d,tk,os⟩) t xs:=ht
  have a2:Heap.IsTuple (Shared.heap ⟨hp.push { cls:=.type "tuple_iterator",data:=.fields #[.ref t,.int 0 0] },g,d,tk,os⟩) u ys:=hu.elim fun o y=>⟨o,aR1 _ y.1,y.2⟩
  wp_walk using bd7 a1,bd7 a2
  have e:∀ (o:Obj) (k:Heap),(k.push o).objs.size=k.objs.size+1:=fun o k=>aY7 ..
  refine⟨_,rfl,?_⟩
  simp only [g9,e] at h ⊢
  exact h
section
variable {prog : Program} {w : World} {A : Around} {E : Value → Shared → Prop} {s : Shared}
theorem am1 {t u:Addr}{xs ys:Array Value}{Q:Value->Shared->Prop} (ht:s.heap.IsTuple t xs) (hu:s.heap.IsTuple u ys)
  (q:∀ h',IsZip h' (s.heap.objs.size+4) (s.heap.objs.size+2) (s.heap.objs.size+3) .none->IsPair h' (s.heap.objs.size+2) (.ref s.heap.objs.size) (.ref (s.heap.objs.size+1))->
   IsPair h' (s.heap.objs.size+3) .none .none->h'.IsTupleIter s.heap.objs.size t 0->h'.IsTupleIter (s.heap.objs.size+1) u 0->(∀ c o,s.heap.get? c=some o->h'.get? c=some o)->Q (.ref (s.heap.objs.size+4)) { s with heap:=h' }) :
  wpAny (model prog w) A (call (.type "zip") [.ref t,.ref u]) Q E s:=by
 refine callType_new PySem.F.called_zip (by decide) (PySem.F.typeCall_zip_2 _ _) (PySem.F.newCall_zip_2 _ _) (fun obj=>PySem.F.args_object_init_3 obj _ _) PySem.F.entry_zip_new (am0 t u xs ys) ⟨ht,hu,?_⟩
 have e:∀ (o:Obj) (k:Heap),(k.push o).objs.size=k.objs.size+1:=fun o k=>aY7 ..
 have p0:∀ (k:Heap) (o:Obj) (m:Nat),o.isFreed=false->m=k.objs.size->(k.push o).get? m=some o:=fun k o m f z=>by rw [z]; exact aS7 _ f
 have g0:(g9 s.heap t u).get? s.heap.objs.size=some { cls:=.type "tuple_iterator",data:=.fields #[.ref t,.int 0 0] }:=by
  unfold g9
  exact aR1 _ (aR1 _ (aR1 _ (aR1 _ (p0 _ _ _ rfl rfl))))
 have g1:(g9 s.heap t u).get? (s.heap.objs.size+1)=some { cls:=.type "tuple_iterator",data:=.fields #[.ref u,.int 0 0] }:=by
  unfold g9
  exact aR1 _ (aR1 _ (aR1 _ (p0 _ _ _ rfl (by simp only [e]))))
 have g2:(g9 s.heap t u).get? (s.heap.objs.size+2)=some { cls:=.type "tuple",data:=.seq #[.ref s.heap.objs.size,.ref (s.heap.objs.size+1)] }:=by
  unfold g9
  exact aR1 _ (aR1 _ (p0 _ _ _ rfl (by simp only [e])))
 have g3:(g9 s.heap t u).get? (s.heap.objs.size+3)=some { cls:=.type "tuple",data:=.seq #[.none,.none] }:=by
  unfold g9
  exact aR1 _ (p0 _ _ _ rfl (by simp only [e]))
 have g4:(g9 s.heap t u).get? (s.heap.objs.size+4)=some { cls:=.type "zip",data:=.fields #[.none,.bool false,.bool false,.ref (s.heap.objs.size+2),.ref (s.heap.objs.size+3)] }:=by
  unfold g9
  exact p0 _ _ _ rfl (by simp only [e])
 refine⟨⟨_,g4,rfl⟩,q _ g4 g2 g3 ⟨_,g0,rfl,rfl⟩ ⟨_,g1,rfl,rfl⟩ fun c o z=>?_⟩
 unfold g9
 exact aR1 _ (aR1 _ (aR1 _ (aR1 _ (aR1 _ z))))
end
end Zp
namespace L2
open PySem PySem.Spec PyProof.Rows
def tL (K:PySem.W.Frag) (a b:Addr):It:=
  ⟨fun i H=>∃ xs ys x y,aS K H a xs/\aS K H b ys/\xs[i]? = some x/\ys[i]? = some y,
   fun i H v H'=>∃ T x y,H T=none/\v = .ref T/\H'=upd H T (.tup [x,y])/\∀ xs ys,aS K H a xs->aS K H b ys->xs[i]? = some x/\ys[i]? = some y,
   fun i H=>∃ xs ys,aS K H a xs/\aS K H b ys/\(i=xs.length ∨ (i < xs.length/\i=ys.length))⟩
def Sq (t:Bool) (K:PySem.W.Frag) (H:Hp) (a:Addr) (xs:List V):Prop:=match t with
 | true=>aS K H a xs
 | false=>aW K H a xs
def gA (t:Bool) (h:Heap) (i a:Addr) (n:Nat):Prop:=match t with
 | true=>h.IsTupleIter i a n
 | false=>h.IsListIter i a n
def zC (t:Bool) (h:Heap) (a:Addr) (xs:Array Value):Prop:=match t with
 | true=>h.IsTuple a xs
 | false=>h.IsList a xs
theorem gA.at {h h':Heap}{i a:Addr}{n:Nat}:∀ {t:Bool},gA t h i a n->(∀ o,h.get? i=some o->h'.get? i=some o)->gA t h' i a n
 | true,x,k=>Heap.IsTupleIter.at x k
 | false,x,k=>Heap.IsListIter.at x k
theorem gA.ob {h:Heap}{i a:Addr}{n:Nat}:∀ {t:Bool},gA t h i a n->∃ o,h.get? i=some o/\∀ v,o.data ≠ .cell v
 | true,⟨o,f,_,d⟩=>⟨o,f,fun v q=>by rw [d] at q; cases q⟩
 | false,⟨o,f,_,d⟩=>⟨o,f,fun v q=>by rw [d] at q; cases q⟩
theorem gA.draws {prog:Program}{w:World}{A:Around}:∀ (t:Bool) (hh:A.handled=none) (it a:Addr) (ne:a ≠ it) (items:Array Value),Draws prog w A it [it,a] items.size (fun i v=>items[i]? = some v) (fun i h=>gA t h it a i/\zC t h a items)
 | true,hh,it,a,ne,items=>Zp.al9 hh it a ne items
 | false,hh,it,a,ne,items=>Draws.list hh it a ne items
section
variable {X : Cx} {pins : List (Addr × Obj)} {σ : St} {H : Hp} {s : Shared} {a : Addr} {xs ys : List V}
theorem Sq.get (I:aA X pins σ H s):∀ {t:Bool},Sq t X.K H a xs->∃ us,aR xs us/\zC t s.heap a us.toArray
 | true,h=>by obtain ⟨us,r,p,_⟩:=I.tuple h; exact⟨us,r,p⟩
 | false,h=>by obtain ⟨us,r,p,_⟩:=I.list h; exact⟨us,r,p.isList⟩
theorem Sq.inj (I:aA X pins σ H s):∀ {t:Bool},Sq t X.K H a xs->Sq t X.K H a ys->xs=ys
 | true,h,g=>I.tuple_inj h g
 | false,h,g=>I.list_inj h g
theorem Sq.off (I:aA X pins σ H s) (he:H a=none) (hb:X.base.get? a=none):∀ {t:Bool},Sq t X.K H a xs->False
 | true,h=>by
  rcases h with (h | ⟨_,h⟩) | ⟨o,_,_,h,_⟩
  ·rw [he] at h; cases h
  ·rw [he] at h; cases h
  ·have:=I.ok.mod.kin a o h
   rw [hb] at this; cases this
 | false,h=>by
  rcases h with (h | ⟨_,h⟩) | ⟨o,_,_,h,_⟩
  ·rw [he] at h; cases h
  ·rw [he] at h; cases h
  ·have:=I.ok.mod.kin a o h
   rw [hb] at this; cases this
end
def am2 (t1 t2:Bool) (K:PySem.W.Frag) (a b:Addr):It:=
  ⟨fun i H=>∃ xs ys x y,Sq t1 K H a xs/\Sq t2 K H b ys/\xs[i]? = some x/\ys[i]? = some y,
   fun i H v H'=>∃ T x y,H T=none/\v = .ref T/\H'=upd H T (.tup [x,y])/\∀ xs ys,Sq t1 K H a xs->Sq t2 K H b ys->xs[i]? = some x/\ys[i]? = some y,
   fun i H=>∃ xs ys,Sq t1 K H a xs/\Sq t2 K H b ys/\(i=xs.length ∨ (i < xs.length/\i=ys.length))⟩
structure tM (t1 t2:Bool) (z TI TO i1 i2 a b:Addr) (i:Nat) (h:Heap):Prop where
 zz:IsZip h z TI TO .none
 ti:IsPair h TI (.ref i1) (.ref i2)
 to_:∃ x y,IsPair h TO x y
 s1:gA t1 h i1 a i
 s2:gA t2 h i2 b i
theorem zD (t1 t2:Bool) {P:Program}{w:World}{K:PySem.W.Frag}{elts:List Expr}{k:Nat}{pos:Pos} (a b z TI TO i1 i2:Addr) (d : [z,TI,TO,i1,i2].Nodup) :
  i7 P w K (.Tuple elts k pos) (am2 t1 t2 K a b) [z,TI,TO,i1,i2] z (tM t1 t2 z TI TO i1 i2 a b):=by
 have nd:z ≠ TI/\z ≠ TO/\z ≠ i1/\z ≠ i2/\TI ≠ TO/\TI ≠ i1/\TI ≠ i2/\TO ≠ i1/\TO ≠ i2/\i1 ≠ i2:=by
  simp only [bc0,aR7,aS8,aV7,not_or] at d
  obtain ⟨⟨a1,a2,a3,a4⟩,⟨b1,b2,b3⟩,⟨c1,c2⟩,e1,_⟩:=d
  exact⟨a1,a2,a3,a4,b1,b2,b3,c1,c2,e1⟩
 obtain ⟨n1,n2,n3,n4,n5,n6,n7,n8,n9,n10⟩:=nd
 have offBase:∀ {X:Cx}{pins:List (Addr × Obj)}{σ:St}{H:Hp}{s:Shared},aA X pins σ H s->(∀ c ∈ [z,TI,TO,i1,i2],fW X pins H c)->∀ c ∈ [z,TI,TO,i1,i2],X.base.get? c=none:=by
  intro X pins σ H s I hf c hc
  cases q:X.base.get? c with
  | none=>rfl
  | some o=>
   rcases (hf c hc).2.2.2.1 with h | h
   ·exact absurd h (I.ok.noex c o q)
   ·exact absurd (aT0 (aS5 q) (aU9 I.ok.bsz h)) (aY9 _)
 have off:∀ {t:Bool}{X:Cx}{pins:List (Addr × Obj)}{σ:St}{H:Hp}{s:Shared}{c:Addr}{zs:List V},aA X pins σ H s->(∀ c ∈ [z,TI,TO,i1,i2],fW X pins H c)->Sq t X.K H c zs->c ∉ [z,TI,TO,i1,i2]:=by
  intro t X pins σ H s c zs I hf hc hm
  exact Sq.off I (hf c hm).1 (offBase I hf c hm) hc
 have ap:∀ {c e:Addr},c ∉ [z,TI,TO,i1,i2]->e ∉ [z,TI,TO,i1,i2]->Zp.Ap z TI TO i1 i2 [i1,c] [i2,e]:=fun {c e} hc he=>by
  simp only [aR7,aS8,aV7,not_or] at hc he
  obtain ⟨c1,c2,c3,c4,c5⟩:=hc
  obtain ⟨e1,e2,e3,e4,e5⟩:=he
  have two:∀ {q u v:Addr},q ≠ u->q ≠ v->q ∉ [u,v]:=fun {q u v} h1 h2 hm=>by
   simp only [aR7,aS8,aV7] at hm
   exact hm.elim h1 h2
  exact⟨n1.symm,n2.symm,n5,two n3 (Ne.symm c1),two n4 (Ne.symm e1),two n8 (Ne.symm c3),two n9 (Ne.symm e3),two n6 (Ne.symm c2),two n7 (Ne.symm e2),aS6,aS6,two n10 (Ne.symm e4),two n10.symm (Ne.symm c5)⟩
 refine⟨by simp,fun i h st c hc=>?_,fun i h h' st kp=>?_,?_,?_,fun A i s Q E st q=>wpAny_pyIter_zip st.zz q⟩
 ·simp only [aR7,aS8,aV7] at hc
  obtain ⟨x,y,to⟩:=st.to_
  rcases hc with rfl | rfl | rfl | rfl | rfl
  ·exact⟨_,st.zz,fun v q=>by cases q⟩
  ·exact⟨_,st.ti,fun v q=>by cases q⟩
  ·exact⟨_,to,fun v q=>by cases q⟩
  ·exact st.s1.ob
  ·exact st.s2.ob
 ·obtain ⟨x,y,to⟩:=st.to_
  exact⟨kp z (by simp) _ st.zz,kp TI (by simp) _ st.ti,⟨x,y,kp TO (by simp) _ to⟩,st.s1.at fun o e=>kp i1 (by simp) o e,st.s2.at fun o e=>kp i2 (by simp) o e⟩
 ·
  intro X hP hw hK hc i pins s σ H E I hf st hg
  subst hP hw hK
  obtain ⟨xs,ys,x,y,ha,hb,hx,hy⟩:=hg
  obtain ⟨us,ru,pu⟩:=Sq.get I ha
  obtain ⟨vs,rv,pv'⟩:=Sq.get I hb
  obtain ⟨ux,eux,rux⟩:=ru.get hx
  obtain ⟨vy,evy,rvy⟩:=rv.get hy
  have fa:=off I hf ha
  have fb:=off I hf hb
  have hh:X.A.in1.handled=none:=I.ok.hd hc
  have l1:i < us.toArray.size:=by simpa using (aS0.mp eux).1
  have l2:i < vs.toArray.size:=by simpa using (aS0.mp evy).1
  have fa':a ≠ i1:=fun q=>fa (by rw [q]; simp)
  have fb':b ≠ i2:=fun q=>fb (by rw [q]; simp)
  have D1:=gA.draws t1 (prog:=X.prog) (w:=X.w) hh i1 a fa' us.toArray
  have D2:=gA.draws t2 (prog:=X.prog) (w:=X.w) hh i2 b fb' vs.toArray
  refine Zp.item D1 D2 (ap fa fb) l1 l2 ⟨st.zz,st.ti,st.to_,⟨st.s1,pu⟩,⟨st.s2,pv'⟩⟩ fun p q h' tk hp hq st' pr kp sz=>⟨_,rfl,?_⟩
  obtain rfl:p=ux:=by
   have:us.toArray[i]? = some ux:=by simpa using eux
   rw [this] at hp; exact (aT8 hp).symm
  obtain rfl:q=vy:=by
   have:vs.toArray[i]? = some vy:=by simpa using evy
   rw [this] at hq; exact (aT8 hq).symm
  refine wpAny_letOwnedTupleGo_zip (s:={ s with heap:=h',toks:=tk }) st'.zz fun g zz sb=>?_
  have hzl:z < s.heap.objs.size:=aS5 st.zz
  have up:∀ c o,c ≠ z->c ≠ TO->c ≠ i1->c ≠ i2->s.heap.get? c=some o->g.get? c=some o:=fun c o c1 c2 c3 c4 e=>sb.extBut c o c1 (kp c o c1 c2 c3 c4 e)
  have hT:H s.heap.objs.size=none:=I.hok.fresh (aS4 _)
  have prG:IsPair g s.heap.objs.size p q:=sb.extBut _ _ (ba3 hzl) pr
  have fpn:∀ c u,H c=some u->c ∉ [z,TI,TO,i1,i2]:=fun c u e hm=>by rw [(hf c hm).1] at e; cases e
  have upH:∀ c o u,H c=some u->s.heap.get? c=some o->g.get? c=some o:=fun c o u e z=>by
   have:=fpn c u e
   simp only [aR7,aS8,aV7,not_or] at this
   exact up c o this.1 this.2.2.1 this.2.2.2.1 this.2.2.2.2 z
  have ns:∀ m,s.heap.Ns X.env.locals m->g.Ns X.env.locals m:=fun m hm=>by
   obtain ⟨o,es,ep,e1,e2⟩:=hm
   exact⟨o,es,ep,up _ o (Ne.symm (hf z (by simp)).2.1) (Ne.symm (hf TO (by simp)).2.1) (Ne.symm (hf i1 (by simp)).2.1) (Ne.symm (hf i2 (by simp)).2.1) e1,e2⟩
  have I2:aA X pins σ (upd H s.heap.objs.size (.tup [x,y])) { s with heap:=g,toks:=tk }:=by
   refine I.step (g':=s.gens) (d':=s.drawn) (ch:=[z,TO,i1,i2]) (fun c hc'=>?_) (fun c o _ _ hc' e _=>?_) (fun c o _ _ hc' e _=>⟨o.slots,?_⟩) (fun c o _ e n=>?_) (fun c o hc' e=>⟨o,?_⟩)
    (fun c zs e=>by rw [b8 (dE e hT)]; exact e) (fun c u zs e=>by rw [b8 (dE e hT)]; exact e) (fun c ps e=>⟨#[],by rw [b8 (dE e hT),e]; simp⟩) ns (fun c u e=>?_) I.bare
   ·have hm:c ∈ [z,TI,TO,i1,i2]:=by
     simp only [aR7,aS8,aV7] at hc' ⊢
     rcases hc' with h | h | h | h <;> simp [h]
    exact⟨(hf c hm).2.2.2.1,(hf c hm).2.1,(hf c hm).2.2.2.2.1,(hf c hm).2.2.2.2.2⟩
   ·simp only [aR7,aS8,aV7,not_or] at hc'
    exact up c o hc'.1 hc'.2.1 hc'.2.2.1 hc'.2.2.2 e
   ·simp only [aR7,aS8,aV7,not_or] at hc'
    exact up c o hc'.1 hc'.2.1 hc'.2.2.1 hc'.2.2.2 e
   ·rw [b8 (aU5 (aS5 e))]; exact n
   ·simp only [aR7,aS8,aV7,not_or] at hc'
    exact up c o hc'.1 hc'.2.1 hc'.2.2.1 hc'.2.2.2 e
   ·by_cases hcT:c=s.heap.objs.size
    ·subst hcT
     rw [cS] at e; cases e
     exact⟨by show 2<=sizeLine; decide,[p,q],.cons rux (.cons rvy .nil),⟨_,prG,rfl,_,rfl⟩,fun u e=>by rw [prG] at e; cases e; rfl⟩
    ·rw [b8 hcT] at e
     refine (I.hok c u e).stay (fun c' o' hc2 q'=>?_) (fun c' q'=>by rw [b8 (dE q' hT)]; exact q') fun c' zs q'=>by rw [b8 (dE q' hT)]; exact q'
     rcases hc2 with rfl | hc2
     ·exact upH _ _ _ e q'
     ·exact upH _ _ _ hc2 q'
  obtain ⟨x',y',to'⟩:=st'.to_
  refine⟨.ref s.heap.objs.size,_,I2,rfl,⟨_,x,y,hT,rfl,rfl,fun xs' ys' ha' hb'=>?_⟩,⟨zz,sb.extBut _ _ n1.symm st'.ti,⟨x',y',sb.extBut _ _ n2.symm to'⟩,st'.s1.1.at fun o e=>sb.extBut _ o n3.symm e,st'.s2.1.at fun o e=>sb.extBut _ o n4.symm e⟩,fun c hc'=>?_⟩
  ·rw [Sq.inj I ha' ha,Sq.inj I hb' hb]; exact⟨hx,hy⟩
  ·obtain ⟨o,e,_⟩:∃ o,s.heap.get? c=some o/\True:=by
    simp only [aR7,aS8,aV7] at hc'
    obtain ⟨x2,y2,to2⟩:=st.to_
    obtain ⟨o1,f1,_⟩:=st.s1.ob
    obtain ⟨o2,f2,_⟩:=st.s2.ob
    rcases hc' with rfl | rfl | rfl | rfl | rfl
    ·exact⟨_,st.zz,trivial⟩
    ·exact⟨_,st.ti,trivial⟩
    ·exact⟨_,to2,trivial⟩
    ·exact⟨_,f1,trivial⟩
    ·exact⟨_,f2,trivial⟩
   rw [b8 (aU5 (aS5 e))]; exact (hf c hc').1
 ·
  intro X hP hw hK hc i pins s σ H E I hf st hg
  subst hP hw hK
  obtain ⟨xs,ys,ha,hb,hi⟩:=hg
  obtain ⟨us,ru,pu⟩:=Sq.get I ha
  obtain ⟨vs,rv,pv'⟩:=Sq.get I hb
  have fa:=off I hf ha
  have fb:=off I hf hb
  have hh:X.A.in1.handled=none:=I.ok.hd hc
  have fa':a ≠ i1:=fun q=>fa (by rw [q]; simp)
  have fb':b ≠ i2:=fun q=>fb (by rw [q]; simp)
  have D1:=gA.draws t1 (prog:=X.prog) (w:=X.w) hh i1 a fa' us.toArray
  have D2:=gA.draws t2 (prog:=X.prog) (w:=X.w) hh i2 b fb' vs.toArray
  have e1:=ru.length
  have e2:=rv.length
  refine Zp.fin D1 D2 (ap fa fb) (by simp only [aR8]; omega) ⟨st.zz,st.ti,st.to_,⟨st.s1,pu⟩,⟨st.s2,pv'⟩⟩ fun g tk kp=>⟨rfl,?_⟩
  have fpn:∀ c u,H c=some u->c ∉ [z,TI,TO,i1,i2]:=fun c u e hm=>by rw [(hf c hm).1] at e; cases e
  have upH:∀ c o u,H c=some u->s.heap.get? c=some o->g.get? c=some o:=fun c o u e z=>by
   have:=fpn c u e
   simp only [aR7,aS8,aV7,not_or] at this
   exact kp c o this.1 this.2.2.1 this.2.2.2.1 this.2.2.2.2 z
  have ns:∀ m,s.heap.Ns X.env.locals m->g.Ns X.env.locals m:=fun m hm=>by
   obtain ⟨o,es,ep,e1,e2⟩:=hm
   exact⟨o,es,ep,kp _ o (Ne.symm (hf z (by simp)).2.1) (Ne.symm (hf TO (by simp)).2.1) (Ne.symm (hf i1 (by simp)).2.1) (Ne.symm (hf i2 (by simp)).2.1) e1,e2⟩
  refine I.step (g':=s.gens) (d':=s.drawn) (ch:=[z,TO,i1,i2]) (fun c hc'=>?_) (fun c o _ _ hc' e _=>?_) (fun c o _ _ hc' e _=>⟨o.slots,?_⟩) (fun c o _ e n=>n) (fun c o hc' e=>⟨o,?_⟩)
   (fun c zs e=>e) (fun c u zs e=>e) (fun c ps e=>⟨#[],by rw [e]; simp⟩) ns (fun c u e=>?_) I.bare
  ·have hm:c ∈ [z,TI,TO,i1,i2]:=by
    simp only [aR7,aS8,aV7] at hc' ⊢
    rcases hc' with h | h | h | h <;> simp [h]
   exact⟨(hf c hm).2.2.2.1,(hf c hm).2.1,(hf c hm).2.2.2.2.1,(hf c hm).2.2.2.2.2⟩
  ·simp only [aR7,aS8,aV7,not_or] at hc'
   exact kp c o hc'.1 hc'.2.1 hc'.2.2.1 hc'.2.2.2 e
  ·simp only [aR7,aS8,aV7,not_or] at hc'
   exact kp c o hc'.1 hc'.2.1 hc'.2.2.1 hc'.2.2.2 e
  ·simp only [aR7,aS8,aV7,not_or] at hc'
   exact kp c o hc'.1 hc'.2.1 hc'.2.2.1 hc'.2.2.2 e
  ·refine (I.hok c u e).stay (fun c' o' hc2 q'=>?_) (fun _ q'=>q') fun _ _ q'=>q'
   rcases hc2 with rfl | hc2
   ·exact upH _ _ _ e q'
   ·exact upH _ _ _ hc2 q'
abbrev am3:=tM true true
theorem am4 {P:Program}{w:World}{K:PySem.W.Frag}{elts:List Expr}{k:Nat}{pos:Pos} (a b z TI TO i1 i2:Addr) (d : [z,TI,TO,i1,i2].Nodup) :
  i7 P w K (.Tuple elts k pos) (tL K a b) [z,TI,TO,i1,i2] z (am3 z TI TO i1 i2 a b):=zD true true a b z TI TO i1 i2 d
section
variable {X : Cx}
theorem am5 (hc:X.calm=true):dC X (.builtin "all") (fun xs H Q=>∃ (a:Addr) (bs:List Bool),xs = [.ref a]/\aW X.K H a (bs.map V.bl)/\Q (.bl (bs.all id)) H):=by
 intro pins s σ H xs us Q I r h
 obtain ⟨a,bs,rfl,hq,q⟩:=h
 obtain ⟨u,rfl,ru⟩:=jH r
 cases ru
 obtain ⟨its,rv,p,hz⟩:=I.list hq
 have hl:=rv.length
 rw [aS1] at hl
 have hlt:a < s.heap.objs.size:=by obtain ⟨o,e,_⟩:=p.isList; exact aS5 e
 refine call_all_walk (wpAny_pyIter_list p.isList ?_)
 have hh:X.A.in1.handled=none:=I.ok.hd hc
 refine⟨s.heap.objs.size,_,_,_,_,_,fun i=>bs.getD i false,rfl,Walks.list hh s.heap.objs.size a (aU5 hlt) its.toArray,⟨⟨_,aS7 _ rfl,rfl,rfl⟩,p.isList.push _⟩,?_,fun h' tk kp=>?_⟩
 ·intro i v s' Q' E' hP hQ'
  have hi:its[i]? = some v:=by simpa using hP
  have hil:i < bs.length:=by rw [hl]; exact (aS0.mp hi).1
  obtain ⟨u,e1,e2⟩:=rv.get (i:=i) (x:=.bl bs[i]) (by simp [hil])
  rw [hi] at e1; cases e1
  cases e2
  have:bs.getD i false=bs[i]:=by rw [aT3,aR5 hil]; rfl
  have hQ2:Q' (bs.getD i false) s':=hQ'
  rw [this] at hQ2
  exact bb7 hQ2
 ·have all_eq:(List.range its.toArray.size).all (fun i=>bs.getD i false)=bs.all id:=by
   rw [aR8,<- hl]
   clear q rv hz hl hq hlt p hh kp
   induction bs with
   | nil=>rfl
   | cons b r ih=>
    rw [aV5,List.range_succ_eq_map,bg6,List.all_map,bg6,<- ih]
    rfl
  rw [all_eq]
  refine⟨.bl (bs.all id),H,I.kept (t':=tk) (h':=h') fun b o e=>kp b o (fun z=>?_) (aR1 _ e),rfl,q⟩
  rw [aR9.mp z] at e
  exact absurd (aS5 e) (aY9 _)
end
end L2
namespace HT
open PySem PyProof.Rows
section
variable {prog : Program} {w : World} {A : Around} {E : Value → Shared → Prop} {s : Shared}
theorem am6 {t sl:Addr}{items:Array Value}{vl vu:Value}{lo hi:Option Int}{Q:Value->Shared->Prop} (ht:IsTup s.heap t items) (hs:s.heap.IsSliceOf sl vl vu .none) (pl:IsPart vl lo) (pu:IsPart vu hi)
  (h1:b6 items.size 0 lo=0) (h2:b6 items.size items.size hi=items.size) (h:Q (.ref t) s):wpAny (model prog w) A (getItem (.ref t) (.ref sl)) Q E s:=by
 obtain ⟨o,e1,e2,e3⟩:=id hs
 have T:s.TypeIs (.ref sl) "slice":=⟨o,e1,e2⟩
 unfold getItem
 try with_reducible refine aZ7 ?_
 first | refine aQ9 (aR4 ?_) | skip
 apply aQ9
 apply wpAny_sequenceKey ht.typeIs (by decide)
 apply aQ9
 apply aX1 (name:=Str.ofString "__getitem__") ht.typeIs bd2
 apply aX5 bd2 ht.typeIs entry_tuple_getitem _ (args_tuple_getitem _ _)
 change wpAny _ _ (Builtin.Tuple.tupleItemsOf (.ref t) >>= _) _ _ s
 apply aQ9
 apply tupleItemsOf_ ht
 apply aQ9
 apply wpAny_typeOf T
 rw [if_pos (by decide)]
 apply aQ9
 apply xQ hs pl pu
 rw [h1,h2]
 have yes:((((0:Nat):Int) == 0 && (1:Int) == 1 && (items.size - 0) == items.size)=true):=by simp
 change wpAny _ _ (if ((((0:Nat):Int) == 0 && (1:Int) == 1 && (items.size - 0) == items.size)=true) then _ else _) _ _ s
 rw [if_pos yes]
 apply aQ9
 unfold Builtin.Tuple.tupleIsExact
 apply aQ9
 apply wpAny_typeOf ht.typeIs
 apply aR4
 change wpAny _ _ (rule "tuple.getitem.whole" >>= fun _=>ret (Value.ref t)) _ _ s
 apply aQ9
 apply be5
 exact aR4 ⟨_,rfl,aR4 h⟩
end
end HT
namespace L2
open PySem PySem.Spec PyProof.Rows
section
variable {X : Cx}
def am7 (K:PySem.W.Frag):V->Option Int->Option Int->Hp->VK->Prop:=fun x lo hi H Q=>∃ a xs,x = .ref a/\aS K H a xs/\(∀ p,H p=none->Q (.ref p) (upd H p (.tup (gQ xs lo hi))))/\(gQ xs lo hi=xs->Q (.ref a) H)
theorem am8:jL X (am7 X.K):=by
 intro pins s σ H x v vl vu lo hi sl Q I rx hs pl pu h
 obtain ⟨a,xs,ex,hx,q1,q2⟩:=h
 by_cases hw:HT.b6 xs.length 0 lo=0/\HT.b6 xs.length xs.length hi=xs.length
 ·subst ex
  cases rx
  obtain ⟨its,r,ht,hz⟩:=I.tuple hx
  have hlen:its.toArray.size=xs.length:=by rw [aR8]; exact r.length.symm
  refine⟨"tuple",_,PyProof.Rows.slot_tuple_getitem.lookup,ht.typeIs,?_⟩
  refine HT.am6 ht hs pl pu (by rw [hlen]; exact hw.1) (by rw [hlen]; exact hw.2) ⟨.ref a,H,I,rfl,q2 ?_⟩
  unfold gQ
  rw [hw.1,hw.2]
  simp
 ·exact ag8 pins s σ H x v vl vu lo hi sl Q I rx hs pl pu ⟨a,xs,ex,hx,hw,q1⟩
end
def tN (K:PySem.W.Frag) (a b:Addr):It:=
  ⟨fun i H=>∃ xs ys x y,aW K H a xs/\aW K H b ys/\xs[i]? = some x/\ys[i]? = some y,
   fun i H v H'=>∃ T x y,H T=none/\v = .ref T/\H'=upd H T (.tup [x,y])/\∀ xs ys,aW K H a xs->aW K H b ys->xs[i]? = some x/\ys[i]? = some y,
   fun i H=>∃ xs ys,aW K H a xs/\aW K H b ys/\(i=xs.length ∨ (i < xs.length/\i=ys.length))⟩
abbrev am9:=tM false false
theorem an0 {P:Program}{w:World}{K:PySem.W.Frag}{elts:List Expr}{k:Nat}{pos:Pos} (a b z TI TO i1 i2:Addr) (d : [z,TI,TO,i1,i2].Nodup) :
  i7 P w K (.Tuple elts k pos) (tN K a b) [z,TI,TO,i1,i2] z (am9 z TI TO i1 i2 a b):=zD false false a b z TI TO i1 i2 d
end L2
namespace PP
open PySem L2
inductive PV where
 | non | bl (b:Bool) | int (i:Int) | str (x:Str) | tup (xs:List PV) | lst (xs:List PV)
 | dK (kvs:List (aJ × PV)) | dT (kvs:List (List aJ × PV)) | scr (ns:List Int) | kt (xs:List PV) | exc (c:Str) | fK (kvs:List (aJ × PV)) | fT (kvs:List (List aJ × PV))
mutual
def flat:PV->Bool
 | .tup xs=>flats xs
 | .lst _=>false
 | .dK _=>false
 | .dT _=>false
 | .non=>true
 | .bl _=>true
 | .int _=>true
 | .str _=>true
 | .scr _=>true
 | .kt xs=>flats xs
 | .exc _=>true
 | .fK _=>false
 | .fT _=>false
def flats:List PV->Bool
 | []=>true
 | x :: r=>flat x && flats r
end
def iO (K:PySem.W.Frag) (H:Hp) (a:Addr) (ns:List Int):Prop:=(∃ o,H a=some (.frz o (.lst (ns.map V.int)))) ∨
  ∃ (o:Obj) (its:Array Value) (n:Nat),K.lookup a=some o/\o.cls = .type "list"/\o.dict=none/\o.data = .seq its n/\its.size<=sizeLine/\aR (ns.map V.int) its.toList
def lN (K:PySem.W.Frag) (a:Addr) (us:List V):Prop:=∃ (o:Obj) (its:Array Value) (n:Nat),K.lookup a=some o/\o.cls = .type "tuple"/\o.data = .seq its n/\its.size<=sizeLine/\aR us its.toList
mutual
inductive aC (K:PySem.W.Frag) (M:Addr->Prop) (H:Hp):V->PV->Prop
 | non:aC K M H .non .non
 | bl (b:Bool):aC K M H (.bl b) (.bl b)
 | int (i:Int):aC K M H (.int i) (.int i)
 | str (x:Str):aC K M H (.str x) (.str x)
 | tup {a:Addr}{us:List V}{xs:List PV}:H a=some (.tup us)->Reps K M H us xs->aC K M H (.ref a) (.tup xs)
 | lst {a:Addr}{us:List V}{xs:List PV}:M a->H a=some (.lst us)->Reps K M H us xs->aC K M H (.ref a) (.lst xs)
 | dK {a:Addr}{kvs:List (aJ × V)}{ps:List (aJ × PV)}:M a->H a=some (.dK kvs)->kvs.map (·.1)=ps.map (·.1)->Reps K M H (kvs.map (·.2)) (ps.map (·.2))->aC K M H (.ref a) (.dK ps)
 | dT {a:Addr}{kvs:List (List aJ × V)}{ps:List (List aJ × PV)}:M a->H a=some (.dT kvs)->kvs.map (·.1)=ps.map (·.1)->Reps K M H (kvs.map (·.2)) (ps.map (·.2))->aC K M H (.ref a) (.dT ps)
 | scr {a:Addr}{ns:List Int}:iO K H a ns->aC K M H (.ref a) (.scr ns)
 | kt {a:Addr}{us:List V}{xs:List PV}:lN K a us->Reps K M H us xs->aC K M H (.ref a) (.kt xs)
 | exc {a C:Addr}{o:Obj}{c:Str}:H a=some (.frz o (.own a))->PySem.W.nsIn K mainGlobals c=some (some (.ref C))->o.cls = .ref C->aC K M H (.ref a) (.exc c)
 | fK {a:Addr}{o:Obj}{kvs:List (aJ × V)}{ps:List (aJ × PV)}:H a=some (.frz o (.dK kvs))->kvs.map (·.1)=ps.map (·.1)->Reps K M H (kvs.map (·.2)) (ps.map (·.2))->aC K M H (.ref a) (.fK ps)
 | fT {a:Addr}{o:Obj}{kvs:List (List aJ × V)}{ps:List (List aJ × PV)}:H a=some (.frz o (.dT kvs))->kvs.map (·.1)=ps.map (·.1)->Reps K M H (kvs.map (·.2)) (ps.map (·.2))->aC K M H (.ref a) (.fT ps)
inductive Reps (K:PySem.W.Frag) (M:Addr->Prop) (H:Hp):List V->List PV->Prop
 | nil:Reps K M H [] []
 | cons {v:V}{x:PV}{vs:List V}{xs:List PV}:aC K M H v x->Reps K M H vs xs->Reps K M H (v :: vs) (x :: xs)
end
structure i8 (M M':Addr->Prop) (H H':Hp):Prop where
 lst:∀ a us,M a->H a=some (.lst us)->M' a/\H' a=some (.lst us)
 dK:∀ a kvs,M a->H a=some (.dK kvs)->M' a/\H' a=some (.dK kvs)
 dT:∀ a kvs,M a->H a=some (.dT kvs)->M' a/\H' a=some (.dT kvs)
 tup:∀ a us,H a=some (.tup us)->H' a=some (.tup us)
 frz:∀ a o u,H a=some (.frz o u)->H' a=some (.frz o u)
theorem iO.keep {K:PySem.W.Frag}{H H':Hp}{a:Addr}{ns:List Int} (k:∀ a o u,H a=some (.frz o u)->H' a=some (.frz o u)) (h:iO K H a ns):iO K H' a ns:=
 h.elim (fun ⟨o,e⟩=>.inl ⟨o,k _ _ _ e⟩) .inr
mutual
theorem aC.keep {K:PySem.W.Frag}{M M':Addr->Prop}{H H':Hp} (k:i8 M M' H H'):∀ {v:V}{x:PV},aC K M H v x->aC K M' H' v x
 | _,_,.non=>.non
 | _,_,.bl b=>.bl b
 | _,_,.int i=>.int i
 | _,_,.str x=>.str x
 | _,_,.tup h r=>.tup (k.tup _ _ h) (Reps.keep k r)
 | _,_,.lst m h r=>.lst (k.lst _ _ m h).1 (k.lst _ _ m h).2 (Reps.keep k r)
 | _,_,.dK m h e r=>.dK (k.dK _ _ m h).1 (k.dK _ _ m h).2 e (Reps.keep k r)
 | _,_,.dT m h e r=>.dT (k.dT _ _ m h).1 (k.dT _ _ m h).2 e (Reps.keep k r)
 | _,_,.scr h=>.scr (h.keep k.frz)
 | _,_,.kt h r=>.kt h (Reps.keep k r)
 | _,_,.exc h e c=>.exc (k.frz _ _ _ h) e c
 | _,_,.fK h e r=>.fK (k.frz _ _ _ h) e (Reps.keep k r)
 | _,_,.fT h e r=>.fT (k.frz _ _ _ h) e (Reps.keep k r)
theorem Reps.keep {K:PySem.W.Frag}{M M':Addr->Prop}{H H':Hp} (k:i8 M M' H H'):∀ {vs:List V}{xs:List PV},Reps K M H vs xs->Reps K M' H' vs xs
 | _,_,.nil=>.nil
 | _,_,.cons r t=>.cons (aC.keep k r) (Reps.keep k t)
end
mutual
theorem aC.flat {K:PySem.W.Frag}{M M':Addr->Prop}{H:Hp}{v:V}{x:PV} (f:flat x=true) (r:aC K M H v x):aC K M' H v x:=by
 cases r with
 | non=>exact .non
 | bl b=>exact .bl b
 | int i=>exact .int i
 | str x=>exact .str x
 | tup h r=>exact .tup h (Reps.flat (by unfold PP.flat at f; exact f) r)
 | lst m h r=>unfold PP.flat at f; cases f
 | dK m h e r=>unfold PP.flat at f; cases f
 | dT m h e r=>unfold PP.flat at f; cases f
 | scr h=>exact .scr h
 | kt h r=>exact .kt h (Reps.flat (by unfold PP.flat at f; exact f) r)
 | exc h e c=>exact .exc h e c
 | fK h e r=>unfold PP.flat at f; cases f
 | fT h e r=>unfold PP.flat at f; cases f
theorem Reps.flat {K:PySem.W.Frag}{M M':Addr->Prop}{H:Hp}{vs:List V}{xs:List PV} (f:flats xs=true) (r:Reps K M H vs xs):Reps K M' H vs xs:=by
 cases r with
 | nil=>exact .nil
 | cons r t=>
  unfold PP.flats at f
  rw [aY6] at f
  exact .cons (aC.flat f.1 r) (Reps.flat f.2 t)
end
theorem i8.same {M M':Addr->Prop}{H H':Hp} (s:aH H H') (m:∀ a,M a->M' a):i8 M M' H H':=
 ⟨fun a _ h e=>⟨m a h,s _ _ e⟩,fun a _ h e=>⟨m a h,s _ _ e⟩,fun a _ h e=>⟨m a h,s _ _ e⟩,fun _ _ e=>s _ _ e,fun _ _ _ e=>s _ _ e⟩
theorem aC.same {K:PySem.W.Frag}{M M':Addr->Prop}{H H':Hp}{v:V}{x:PV} (r:aC K M H v x) (s:aH H H') (m:∀ a,M a->M' a):aC K M' H' v x:=r.keep (.same s m)
theorem Reps.same {K:PySem.W.Frag}{M M':Addr->Prop}{H H':Hp}{v:List V}{x:List PV} (r:Reps K M H v x) (s:aH H H') (m:∀ a,M a->M' a):Reps K M' H' v x:=r.keep (.same s m)
def fH:HO->Bool
 | .lst _=>true
 | .dK _=>true
 | .dT _=>true
 | _=>false
theorem i8.upd {M M':Addr->Prop}{H:Hp}{a:Addr}{o o':HO} (h:H a=some o') (mu:fH o'=true) (m:∀ b,M b->b ≠ a/\M' b):i8 M M' H (upd H a o):=
 ⟨fun b _ hb e=>⟨(m b hb).2,by rw [b8 (m b hb).1]; exact e⟩,fun b _ hb e=>⟨(m b hb).2,by rw [b8 (m b hb).1]; exact e⟩,fun b _ hb e=>⟨(m b hb).2,by rw [b8 (m b hb).1]; exact e⟩,
  fun b _ e=>by rw [b8 (fun z=>by rw [z,h] at e; cases e; cases mu)]; exact e,
  fun b _ _ e=>by rw [b8 (fun z=>by rw [z,h] at e; cases e; cases mu)]; exact e⟩
theorem Reps.length {K:PySem.W.Frag}{M:Addr->Prop}{H:Hp}:∀ {vs:List V}{xs:List PV},Reps K M H vs xs->vs.length=xs.length
 | _,_,.nil=>rfl
 | _,_,.cons _ t=>congrArg (· + 1) t.length
theorem Reps.get {K:PySem.W.Frag}{M:Addr->Prop}{H:Hp}:∀ {vs:List V}{xs:List PV}{i:Nat}{v:V},Reps K M H vs xs->vs[i]? = some v->∃ x,xs[i]? = some x/\aC K M H v x
 | _,_,_,_,.nil,e=>by simp at e
 | _,_,0,_,.cons r _,e=>by simp at e; subst e; exact⟨_,rfl,r⟩
 | _,_,i+1,v,.cons _ t,e=>by
  rw [aV8] at e
  obtain ⟨x,h1,h2⟩:=t.get e
  exact⟨x,by rw [aV8]; exact h1,h2⟩
theorem Reps.at {K:PySem.W.Frag}{M:Addr->Prop}{H:Hp}:∀ {vs:List V}{xs:List PV}{i:Nat}{x:PV},Reps K M H vs xs->xs[i]? = some x->∃ v,vs[i]? = some v/\aC K M H v x
 | _,_,_,_,.nil,e=>by simp at e
 | _,_,0,_,.cons r _,e=>by simp at e; subst e; exact⟨_,rfl,r⟩
 | _,_,i+1,v,.cons _ t,e=>by
  rw [aV8] at e
  obtain ⟨x,h1,h2⟩:=t.at e
  exact⟨x,by rw [aV8]; exact h1,h2⟩
theorem Reps.append {K:PySem.W.Frag}{M:Addr->Prop}{H:Hp}:∀ {vs:List V}{xs:List PV}{us:List V}{ys:List PV},Reps K M H vs xs->Reps K M H us ys->Reps K M H (vs ++ us) (xs ++ ys)
 | _,_,_,_,.nil,s=>s
 | _,_,_,_,.cons r t,s=>.cons r (t.append s)
theorem Reps.set {K:PySem.W.Frag}{M:Addr->Prop}{H:Hp}{v:V}{x:PV} (q:aC K M H v x):∀ (i:Nat) {vs:List V}{xs:List PV},Reps K M H vs xs->Reps K M H (vs.set i v) (xs.set i x)
 | _,_,_,.nil=>.nil
 | 0,_,_,.cons r t=>.cons q t
 | i+1,_,_,.cons r t=>.cons r (Reps.set q i t)
theorem Reps.take {K:PySem.W.Frag}{M:Addr->Prop}{H:Hp}:∀ (n:Nat) {vs:List V}{xs:List PV},Reps K M H vs xs->Reps K M H (vs.take n) (xs.take n)
 | 0,_,_,_=>by simp; exact .nil
 | _+1,_,_,.nil=>.nil
 | n+1,_,_,.cons r t=>.cons r (Reps.take n t)
theorem Reps.drop {K:PySem.W.Frag}{M:Addr->Prop}{H:Hp}:∀ (n:Nat) {vs:List V}{xs:List PV},Reps K M H vs xs->Reps K M H (vs.drop n) (xs.drop n)
 | 0,_,_,r=>r
 | _+1,_,_,.nil=>.nil
 | n+1,_,_,.cons _ t=>Reps.drop n t
theorem Reps.eraseIdx {K:PySem.W.Frag}{M:Addr->Prop}{H:Hp}:∀ (n:Nat) {vs:List V}{xs:List PV},Reps K M H vs xs->Reps K M H (vs.eraseIdx n) (xs.eraseIdx n)
 | _,_,_,.nil=>.nil
 | 0,_,_,.cons _ t=>t
 | n+1,_,_,.cons r t=>.cons r (Reps.eraseIdx n t)
abbrev intz (ns:List Int):List PV:=ns.map PV.int
theorem Reps.intz {K:PySem.W.Frag}{M:Addr->Prop}{H:Hp}:∀ (ns:List Int),Reps K M H (ns.map V.int) (intz ns)
 | []=>.nil
 | n :: r=>.cons (.int n) (Reps.intz r)
theorem Reps.ofInts {K:PySem.W.Frag}{M:Addr->Prop}{H:Hp}:∀ {ns:List Int}{us:List V},Reps K M H us (PP.intz ns)->us=ns.map V.int
 | [],_,.nil=>rfl
 | n :: r,_,.cons q t=>by
  cases q
  rw [Reps.ofInts t]; rfl
theorem tO:∀ (ns:List Int),flats (intz ns)=true
 | []=>rfl
 | n :: r=>by show (flat (.int n) && flats (intz r))=true; rw [tO r]; rfl
inductive Tg | rd | sh | nw | fr
inductive Slot | sh (g:Bool) (x:PV) | own (x:PV)
def Slot.val:Slot->PV
 | .sh _ x=>x
 | .own x=>x
def Slot.tag:Slot->Tg
 | .sh true _=>.nw
 | .sh false _=>.sh
 | .own _=>.rd
abbrev bH:=List (Option Slot)
def Ms (H0:Hp) (W:Addr->Prop):Bool->Addr->Prop
 | false,a=>¬ W a
 | true,a=>¬ W a/\H0 a=none
def Mg (H0:Hp) (W:Addr->Prop) (Hs:Hp):Tg->Addr->Prop
 | .rd,_=>True
 | .sh,a=>¬ W a
 | .nw,a=>¬ W a/\H0 a=none
 | .fr,a=>Hs a=none
def gR (K:PySem.W.Frag) (M:Addr->Prop) (H:Hp) (a:Addr):PV->Prop
 | .lst xs=>∃ us,H a=some (.lst us)/\Reps K M H us xs
 | .dK ps=>∃ kvs,H a=some (.dK kvs)/\kvs.map (·.1)=ps.map (·.1)/\Reps K M H (kvs.map (·.2)) (ps.map (·.2))
 | .dT ps=>∃ kvs,H a=some (.dT kvs)/\kvs.map (·.1)=ps.map (·.1)/\Reps K M H (kvs.map (·.2)) (ps.map (·.2))
 | _=>False
def zE (K:PySem.W.Frag) (H0:Hp) (W:Addr->Prop) (H:Hp) (v:V):Slot->Prop
 | .sh g x=>aC K (Ms H0 W g) H v x
 | .own x=>∃ a,v = .ref a/\W a/\gR K (Ms H0 W true) H a x
structure PX (K:PySem.W.Frag) (H0:Hp) (W:Addr->Prop) (σ:St) (ρ:bH) (H:Hp):Prop where
 len:ρ.length=σ.length
 same:aH H0 H
 wm:∀ a,W a->H0 a=none/\∃ o,H a=some o/\fH o=true
 sl:∀ (i:Nat) (m:Slot),ρ[i]? = some (some m)->∃ v,σ[i]? = some (some v)/\zE K H0 W H v m
 dis:∀ (i j:Nat) (x y:PV) (a:Addr),ρ[i]? = some (some (.own x))->ρ[j]? = some (some (.own y))->σ[i]? = some (some (.ref a))->σ[j]? = some (some (.ref a))->i=j
theorem gR.keep {K:PySem.W.Frag}{M M':Addr->Prop}{H H':Hp}{a:Addr} (k:i8 M M' H H') (ha:∀ o,H a=some o->H' a=some o):∀ {x:PV},gR K M H a x->gR K M' H' a x
 | .lst _,⟨us,e,r⟩=>⟨us,ha _ e,r.keep k⟩
 | .dK _,⟨us,e,q,r⟩=>⟨us,ha _ e,q,r.keep k⟩
 | .dT _,⟨us,e,q,r⟩=>⟨us,ha _ e,q,r.keep k⟩
theorem gR.at {K:PySem.W.Frag}{M:Addr->Prop}{H:Hp}{a:Addr}:∀ {x:PV},gR K M H a x->∃ o,H a=some o/\fH o=true
 | .lst _,⟨us,e,r⟩=>⟨_,e,rfl⟩
 | .dK _,⟨us,e,q,r⟩=>⟨_,e,rfl⟩
 | .dT _,⟨us,e,q,r⟩=>⟨_,e,rfl⟩
theorem gR.rep {K:PySem.W.Frag}{M M':Addr->Prop}{H:Hp}{a:Addr} (m:∀ b,M b->M' b) (ha:M' a):∀ {x:PV},gR K M H a x->aC K M' H (.ref a) x
 | .lst _,⟨us,e,r⟩=>.lst ha e (r.same (aH.refl _) m)
 | .dK _,⟨us,e,q,r⟩=>.dK ha e q (r.same (aH.refl _) m)
 | .dT _,⟨us,e,q,r⟩=>.dT ha e q (r.same (aH.refl _) m)
section
variable {K : PySem.W.Frag} {H0 : Hp} {W W' : Addr → Prop} {σ : St} {ρ : bH} {H H' : Hp}
theorem PX.mono (p:PX K H0 W σ ρ H) (s:aH H H'):PX K H0 W σ ρ H':=by
 refine⟨p.len,p.same.trans s,fun a h=>⟨(p.wm a h).1,let ⟨o,e,m⟩:=(p.wm a h).2; ⟨o,s _ _ e,m⟩⟩,fun i m h=>?_,p.dis⟩
 obtain ⟨v,e,r⟩:=p.sl i m h
 refine⟨v,e,?_⟩
 cases m with
 | sh g x=>exact aC.same r s fun _ z=>z
 | own x=>
  obtain ⟨a,e1,e2,r⟩:=r
  exact⟨a,e1,e2,r.keep (.same s fun _ z=>z) fun _ z=>s _ _ z⟩
theorem PX.new (p:PX K H0 W σ ρ H) {a:Addr} (h:H a=none) : ¬ W a/\H0 a=none:=
 ⟨fun z=>(by obtain ⟨_,o,e,_⟩:=p.wm a z; rw [h] at e; cases e),p.same.free h⟩
theorem Mg.back {g:Tg}{H1:Hp} (s:aH H H1) {a:Addr} (h:Mg H0 W H1 g a):Mg H0 W H g a:=by
 cases g with
 | fr=>exact s.free h
 | rd=>exact h
 | sh=>exact h
 | nw=>exact h
end
abbrev PK:=PV->Tg->Prop
abbrev aE:=bH->PK->Prop
abbrev cJ:=bH->(Bool->Prop)->Prop
abbrev cV:=bH->(List (PV × Tg)->Prop)->Prop
inductive gS (K:PySem.W.Frag) (H0:Hp) (W:Addr->Prop) (Hs H:Hp):List V->List (PV × Tg)->Prop
 | nil:gS K H0 W Hs H [] []
 | cons {v:V}{x:PV}{g:Tg}{vs:List V}{xs:List (PV × Tg)}:aC K (Mg H0 W Hs g) H v x->gS K H0 W Hs H vs xs->gS K H0 W Hs H (v :: vs) ((x,g) :: xs)
def p5 (K:PySem.W.Frag) (H0:Hp) (W:Addr->Prop) (H:Hp) (Q:PK) (Q':VK):Prop:=∀ v H' x g,aH H H'->aC K (Mg H0 W H g) H' v x->Q x g->Q' v H'
def LE (X:Cx) (t:aE):TE:=fun σ H Q'=>∃ (W:Addr->Prop) (ρ:bH) (Q:PK),PX X.K X.H₀ W σ ρ H/\t ρ Q/\p5 X.K X.H₀ W H Q Q'
def LT (X:Cx) (t:cJ):TT:=fun σ H Q'=>∃ (W:Addr->Prop) (ρ:bH) (Q:Bool->Prop),PX X.K X.H₀ W σ ρ H/\t ρ Q/\∀ b H',aH H H'->Q b->Q' b H'
def LA (X:Cx) (t:cV):TA:=fun σ H Q'=>∃ (W:Addr->Prop) (ρ:bH) (Q:List (PV × Tg)->Prop),PX X.K X.H₀ W σ ρ H/\t ρ Q/\∀ vs H' xs,aH H H'->gS X.K X.H₀ W H H' vs xs->Q xs->Q' vs H'
theorem gS.same {K:PySem.W.Frag}{H0:Hp}{W:Addr->Prop}{Hs Hs' H H':Hp} (s:aH H H') (b:aH Hs' Hs):∀ {vs:List V}{xs:List (PV × Tg)},gS K H0 W Hs H vs xs->gS K H0 W Hs' H' vs xs
 | _,_,.nil=>.nil
 | _,_,.cons r t=>.cons (r.same s fun _ z=>Mg.back b z) (t.same s b)
theorem gS.any {K:PySem.W.Frag}{H0:Hp}{W:Addr->Prop}{Hs H:Hp}:∀ {vs:List V}{xs:List (PV × Tg)},gS K H0 W Hs H vs xs->Reps K (fun _=>True) H vs (xs.map (·.1))
 | _,_,.nil=>.nil
 | _,_,.cons r t=>.cons (r.same (aH.refl _) fun _ _=>trivial) t.any
def Nw:Tg->PV->Prop
 | .fr,_=>True
 | .nw,_=>True
 | _,x=>flat x=true
section
variable {K : PySem.W.Frag} {H0 Hs H : Hp} {W : Addr → Prop} {σ : St} {ρ : bH}
theorem Nw.rep {g:Tg}{x:PV}{v:V} (px:PX K H0 W σ ρ Hs) (n:Nw g x) (r:aC K (Mg H0 W Hs g) H v x):aC K (Ms H0 W true) H v x:=by
 cases g with
 | fr=>exact r.same (aH.refl _) fun a z=>px.new z
 | nw=>exact r.same (aH.refl _) fun a z=>z
 | sh=>exact r.flat n
 | rd=>exact r.flat n
theorem zF {v:V}{m:Slot} (r:zE K H0 W H v m):aC K (Mg H0 W Hs m.tag) H v m.val:=by
 cases m with
 | sh g x=>
  cases g with
  | true=>exact aC.same r (aH.refl _) fun _ z=>z
  | false=>exact aC.same r (aH.refl _) fun _ z=>z
 | own x=>
  obtain ⟨a,rfl,_,r⟩:=r
  exact r.rep (fun _ _=>trivial) trivial
end
section
variable {X : Cx} {σ : St} {H : Hp} {Q' : VK} {ta tb : aE}
def a7 (i:Nat):aE:=fun ρ Q=>∃ m,ρ[i]? = some (some m)/\Q m.val m.tag
def qC (x:PV):aE:=fun _ Q=>Q x .fr
theorem an1 {i:Nat} (h:LE X (a7 i) σ H Q'):kB i σ H Q':=by
 obtain ⟨W,ρ,Q,px,⟨m,e,q⟩,k⟩:=h
 obtain ⟨v,ev,r⟩:=px.sl i m e
 exact⟨v,ev,k v H _ _ (aH.refl _) (zF r) q⟩
theorem nD {x:PV}{v:V} (hr:∀ M,aC X.K M H v x) (h:LE X (qC x) σ H Q'):tC v σ H Q':=by
 obtain ⟨W,ρ,Q,px,q,k⟩:=h
 exact k v H _ _ (aH.refl _) (hr _) q
def eI (X:Cx) (R:PV->Tg->PV->Tg->PK->Prop) (r:R2):Prop:=∀ (W:Addr->Prop) (Hs H:Hp) (u v:V) (x y:PV) (g g':Tg) (Q:PK) (Q':VK),aH Hs H->
 (∀ a,Hs a=none->¬ W a/\X.H₀ a=none)->aC X.K (Mg X.H₀ W Hs g) H u x->aC X.K (Mg X.H₀ W Hs g') H v y->R x g y g' Q->(∀ w H' z gz,aH H H'->aC X.K (Mg X.H₀ W Hs gz) H' w z->Q z gz->Q' w H')->r u v H Q'
def q2 (R:PV->Tg->PV->Tg->PK->Prop) (ta tb:aE):aE:=fun ρ Q=>ta ρ fun x g=>tb ρ fun y g'=>R x g y g' Q
theorem p6 {R:PV->Tg->PV->Tg->PK->Prop}{r:R2} (c:eI X R r) (h:LE X (q2 R ta tb) σ H Q'):mW r (LE X ta) (LE X tb) σ H Q':=by
 obtain ⟨W,ρ,Q,px,q,k⟩:=h
 refine⟨W,ρ,_,px,q,fun u H1 x g s1 r1 q1=>⟨W,ρ,_,px.mono s1,q1,fun v H2 y g' s2 r2 q2=>?_⟩⟩
 exact c W H H2 u v x y g g' Q Q' (s1.trans s2) (fun a z=>px.new z) (r1.same s2 fun _ z=>z) (r2.same (aH.refl _) fun _ z=>Mg.back s1 z) q2 fun w H' z gz s3 r3 q3=>k w H' z gz ((s1.trans s2).trans s3) r3 q3
def RI (C:Int->Int->Prop) (f:Int->Int->PV):PV->Tg->PV->Tg->PK->Prop:=fun x _ y _ Q=>∃ i j,x = .int i/\y = .int j/\C i j/\Q (f i j) .fr
def eB (f:Int->Int->PV):PV->Tg->PV->Tg->PK->Prop:=fun x _ y _ Q=>∃ i j,x = .int i/\y = .int j/\Q (f i j) .fr
theorem p9 {C:Int->Int->Prop}{f:Int->Int->Int}:eI X (RI C fun i j=>.int (f i j)) (rI C fun i j=>.int (f i j)):=by
 rintro W Hs H u v x y g g' Q Q' s n r1 r2 ⟨i,j,rfl,rfl,c,q⟩ k
 cases r1; cases r2
 exact⟨i,j,rfl,rfl,c,k _ _ _ _ (aH.refl _) (.int _) q⟩
theorem zG {f:Int->Int->Int}:eI X (eB fun i j=>.int (f i j)) (fX fun i j=>.int (f i j)):=by
 rintro W Hs H u v x y g g' Q Q' s n r1 r2 ⟨i,j,rfl,rfl,q⟩ k
 cases r1; cases r2
 exact⟨i,j,rfl,rfl,k _ _ _ _ (aH.refl _) (.int _) q⟩
theorem kL {f:Int->Int->Bool}:eI X (eB fun i j=>.bl (f i j)) (fX fun i j=>.bl (f i j)):=by
 rintro W Hs H u v x y g g' Q Q' s n r1 r2 ⟨i,j,rfl,rfl,q⟩ k
 cases r1; cases r2
 exact⟨i,j,rfl,rfl,k _ _ _ _ (aH.refl _) (.bl _) q⟩
def kN (neg:Bool):PV->Tg->PV->Tg->PK->Prop:=fun x _ y _ Q=>(∃ i j,x = .int i/\y = .int j/\Q (.bl (if neg=true then !decide (i=j) else decide (i=j))) .fr) ∨ (∃ i j,x = .bl i/\y = .bl j/\Q (.bl (if neg=true then !decide (i=j) else decide (i=j))) .fr)
theorem zH (i j:Int):decide (V.int i=V.int j)=decide (i=j):=by
 rw [aX4,aT6,aT6]; exact⟨fun z=>V.int.inj z,fun z=>congrArg V.int z⟩
theorem zI (i j:Bool):decide (V.bl i=V.bl j)=decide (i=j):=by
 rw [aX4,aT6,aT6]; exact⟨fun z=>V.bl.inj z,fun z=>congrArg V.bl z⟩
theorem zJ:eI X (kN false) wW:=by
 rintro W Hs H u v x y g g' Q Q' s n r1 r2 (⟨i,j,rfl,rfl,q⟩ | ⟨i,j,rfl,rfl,q⟩) k
 ·cases r1; cases r2
  exact⟨rfl,by rw [zH]; exact k _ _ _ _ (aH.refl _) (.bl _) q⟩
 ·cases r1; cases r2
  exact⟨rfl,by rw [zI]; exact k _ _ _ _ (aH.refl _) (.bl _) q⟩
theorem an2:eI X (kN true) wX:=by
 rintro W Hs H u v x y g g' Q Q' s n r1 r2 (⟨i,j,rfl,rfl,q⟩ | ⟨i,j,rfl,rfl,q⟩) k
 ·cases r1; cases r2
  exact⟨rfl,by rw [zH]; exact k _ _ _ _ (aH.refl _) (.bl _) q⟩
 ·cases r1; cases r2
  exact⟨rfl,by rw [zI]; exact k _ _ _ _ (aH.refl _) (.bl _) q⟩
def aZ (t:aE):cJ:=fun ρ Q=>t ρ fun x _=>∃ b,x = .bl b/\Q b
theorem nE {t:aE}{Q':Bool->Hp->Prop} (h:LT X (aZ t) σ H Q'):LE X t σ H fun x H'=>∃ k,x = .bl k/\Q' k H':=by
 obtain ⟨W,ρ,Q,px,q,k⟩:=h
 refine⟨W,ρ,_,px,q,?_⟩
 rintro v H1 x g s r ⟨b,rfl,q⟩
 cases r
 exact⟨b,rfl,k _ _ s q⟩
def iP (t u:cJ):cJ:=fun ρ Q=>t ρ fun c=>if c=true then u ρ Q else Q false
def fJ (t u:cJ):cJ:=fun ρ Q=>t ρ fun c=>if c=true then Q true else u ρ Q
def iQ (t:cJ):cJ:=fun ρ Q=>t ρ fun c=>Q (!c)
variable {t u : cJ} {Qb : Bool → Hp → Prop}
theorem an3 (h:LT X (iP t u) σ H Qb):wG (LT X t) (LT X u) σ H Qb:=by
 obtain ⟨W,ρ,Q,px,q,k⟩:=h
 refine⟨W,ρ,_,px,q,fun b H1 s1 q1=>?_⟩
 cases b with
 | true=>exact aX ⟨W,ρ,Q,px.mono s1,by simpa using q1,fun b H2 s2 q2=>k _ _ (s1.trans s2) q2⟩
 | false=>exact aL (k _ _ s1 (by simpa using q1))
theorem an4 (h:LT X (fJ t u) σ H Qb):wH (LT X t) (LT X u) σ H Qb:=by
 obtain ⟨W,ρ,Q,px,q,k⟩:=h
 refine⟨W,ρ,_,px,q,fun b H1 s1 q1=>?_⟩
 cases b with
 | false=>exact aL ⟨W,ρ,Q,px.mono s1,by simpa using q1,fun b H2 s2 q2=>k _ _ (s1.trans s2) q2⟩
 | true=>exact aX (k _ _ s1 (by simpa using q1))
theorem an5 (h:LT X (iQ t) σ H Qb):wI (LT X t) σ H Qb:=by
 obtain ⟨W,ρ,Q,px,q,k⟩:=h
 exact⟨W,ρ,_,px,q,fun b H1 s1 q1=>k _ _ s1 q1⟩
def iR (ta tb:aE):aE:=fun ρ Q=>ta ρ fun x _=>∃ c,x = .bl c/\if c=true then tb ρ Q else Q (.bl false) .fr
theorem p5.back {K:PySem.W.Frag}{H0:Hp}{W:Addr->Prop}{H H1:Hp}{Q:PK} (k:p5 K H0 W H Q Q') (s:aH H H1):p5 K H0 W H1 Q Q':=fun v H' x g s' r q=>k v H' x g (s.trans s') (r.same (aH.refl _) fun _ z=>Mg.back s z) q
theorem an6 (h:LE X (iR ta tb) σ H Q'):wJ (LE X ta) (LE X tb) σ H Q':=by
 obtain ⟨W,ρ,Q,px,q,k⟩:=h
 refine⟨W,ρ,_,px,q,?_⟩
 rintro v H1 x g s1 r ⟨c,rfl,q⟩
 cases r
 refine⟨c,rfl,?_⟩
 cases c with
 | true=>exact aX ⟨W,ρ,Q,px.mono s1,by simpa using q,k.back s1⟩
 | false=>exact aL (k _ _ _ _ s1 (.bl _) (by simpa using q))
def aD:cV:=fun _ Q=>Q []
def a8 (te:aE) (tr:cV):cV:=fun ρ Q=>te ρ fun x g=>tr ρ fun xs=>Q ((x,g) :: xs)
variable {Qa : List V → Hp → Prop} {tr : cV}
theorem an7 (h:LA X aD σ H Qa):kE σ H Qa:=by
 obtain ⟨W,ρ,Q,px,q,k⟩:=h
 exact k _ _ _ (aH.refl _) .nil q
theorem an8 (h:LA X (a8 ta tr) σ H Qa):jI (LE X ta) (LA X tr) σ H Qa:=by
 obtain ⟨W,ρ,Q,px,q,k⟩:=h
 refine⟨W,ρ,_,px,q,fun v H1 x g s1 r1 q1=>⟨W,ρ,_,px.mono s1,q1,fun vs H2 xs s2 r2 q2=>?_⟩⟩
 exact k _ _ _ (s1.trans s2) (.cons (r1.same s2 fun _ z=>z) (r2.same (aH.refl _) s1)) q2
def cW (t:cV):aE:=fun ρ Q=>t ρ fun xs=>xs.length<=1000/\flats (xs.map (·.1))=true/\Q (.tup (xs.map (·.1))) .fr
def i9 (t:cV):aE:=fun ρ Q=>t ρ fun xs=>xs.length<=1000/\flats (xs.map (·.1))=true/\Q (.lst (xs.map (·.1))) .fr
theorem gS.length {K:PySem.W.Frag}{H0:Hp}{W:Addr->Prop}{Hs H:Hp}:∀ {vs:List V}{xs:List (PV × Tg)},gS K H0 W Hs H vs xs->vs.length=xs.length
 | _,_,.nil=>rfl
 | _,_,.cons _ t=>congrArg (· + 1) t.length
theorem tP {n:Nat} (h:n<=1000):n<=sizeLine:=bd8 (ak4 h)
theorem an9 (h:LE X (cW tr) σ H Q'):xB (LA X tr) σ H Q':=by
 obtain ⟨W,ρ,Q,px,q,k⟩:=h
 refine⟨W,ρ,_,px,q,?_⟩
 rintro vs H1 xs s1 r ⟨hl,n,q⟩
 refine⟨by rw [r.length]; exact tP hl,fun p hp=>k _ _ _ .fr (s1.trans (cU hp _)) (.tup cS ?_) q⟩
 exact (r.any.flat n).same (cU hp _) fun _ z=>z
theorem ao0 (h:LE X (i9 tr) σ H Q'):xC (LA X tr) σ H Q':=by
 obtain ⟨W,ρ,Q,px,q,k⟩:=h
 refine⟨W,ρ,_,px,q,?_⟩
 rintro vs H1 xs s1 r ⟨hl,n,q⟩
 refine⟨by rw [r.length]; exact tP hl,fun p hp=>k _ _ _ .fr (s1.trans (cU hp _)) (.lst (s1.free hp) cS ?_) q⟩
 exact (r.any.flat n).same (cU hp _) fun _ z=>z
def fL (X:Cx) (R:List PV->(PV->Prop)->Prop) (r:List V->Hp->VK->Prop):Prop:=∀ (H:Hp) (vs:List V) (xs:List PV) (Q:PV->Prop) (Q':VK),Reps X.K (fun _=>True) H vs xs->R xs Q->
 (∀ w H' z,aH H H'->aC X.K (fun a=>H a=none) H' w z->Q z->Q' w H')->r vs H Q'
def aM (R:List PV->(PV->Prop)->Prop) (t:cV):aE:=fun ρ Q=>t ρ fun xs=>R (xs.map (·.1)) fun z=>Q z .fr
theorem zK {R:List PV->(PV->Prop)->Prop}{r:List V->Hp->VK->Prop} (c:fL X R r) (h:LE X (aM R tr) σ H Q'):sQ r (LA X tr) σ H Q':=by
 obtain ⟨W,ρ,Q,px,q,k⟩:=h
 refine⟨W,ρ,_,px,q,fun vs H1 xs s1 r1 q1=>c H1 vs _ _ Q' r1.any q1 fun w H' z s2 r2 q2=>k w H' z .fr (s1.trans s2) (r2.same (aH.refl _) fun _ z=>s1.free z) q2⟩
end
structure pA where
 nx:bH->Prop
 rt:PV->Prop
 bk:bH->Prop:=fun _=>False
 ct:bH->Prop:=fun _=>False
abbrev aV:=pA->bH->Prop
def Ev (W:Addr->Prop) (H:Hp) (W':Addr->Prop) (H':Hp):Prop:=∀ b o,H b=some o->¬ W b->H' b=some o/\¬ W' b
theorem Ev.trans {W W1 W2:Addr->Prop}{H H1 H2:Hp} (a:Ev W H W1 H1) (b:Ev W1 H1 W2 H2):Ev W H W2 H2:=fun c o h n=>let ⟨h1,n1⟩:=a c o h n; b c o h1 n1
theorem Ev.same {W:Addr->Prop}{H H':Hp} (s:aH H H'):Ev W H W H':=fun c o h n=>⟨s _ _ h,n⟩
theorem Ev.refl (W:Addr->Prop) (H:Hp):Ev W H W H:=Ev.same (aH.refl _)
structure pB (X:Cx) (W:Addr->Prop) (H:Hp) (D':pA) (D:dW):Prop where
 nx:∀ W' σ' H' ρ',Ev W H W' H'->PX X.K X.H₀ W' σ' ρ' H'->D'.nx ρ'->D.nx σ' H'
 rt:∀ v H' x,aH X.H₀ H'->aC X.K (fun a=>X.H₀ a=none) H' v x->D'.rt x->D.rt v H'
 bk:∀ W' σ' H' ρ',Ev W H W' H'->PX X.K X.H₀ W' σ' ρ' H'->D'.bk ρ'->D.bk σ' H'
 ct:∀ W' σ' H' ρ',Ev W H W' H'->PX X.K X.H₀ W' σ' ρ' H'->D'.ct ρ'->D.ct σ' H'
theorem pB.step {X:Cx}{W W1:Addr->Prop}{H H1:Hp}{D':pA}{D:dW} (k:pB X W H D' D) (e:Ev W H W1 H1):pB X W1 H1 D' D:=
 ⟨fun W' σ' H' ρ' e'=>k.nx W' σ' H' ρ' (e.trans e'),k.rt,fun W' σ' H' ρ' e'=>k.bk W' σ' H' ρ' (e.trans e'),fun W' σ' H' ρ' e'=>k.ct W' σ' H' ρ' (e.trans e')⟩
def LS (X:Cx) (t:aV):TS:=fun D σ H=>∃ (W:Addr->Prop) (ρ:bH) (D':pA),PX X.K X.H₀ W σ ρ H/\t D' ρ/\pB X W H D' D
theorem iA {α:Type}{l:List α}{i j:Nat}{a b:α} (h:(l.set i a)[j]? = some b):(j=i/\i < l.length/\b=a) ∨ (j ≠ i/\l[j]? = some b):=by
 by_cases e:j=i
 ·subst e
  have hl:j < (l.set j a).length:=(aS0.mp h).1
  rw [bc2] at hl
  rw [bb0 hl] at h
  exact .inl ⟨rfl,hl,(aT8 h).symm⟩
 ·rw [aU1 (Ne.symm e)] at h
  exact .inr ⟨e,h⟩
section
variable {K : PySem.W.Frag} {H0 : Hp} {W W' : Addr → Prop} {σ : St} {ρ : bH} {H H' Hs : Hp}
theorem PX.setSh {i:Nat}{v:V}{g:Bool}{x:PV} (p:PX K H0 W σ ρ H) (r:aC K (Ms H0 W g) H v x):PX K H0 W (σ.set i (some v)) (ρ.set i (some (.sh g x))) H:=by
 refine⟨by rw [bc2,bc2]; exact p.len,p.same,p.wm,fun j m h=>?_,fun j k y z a h1 h2 h3 h4=>?_⟩
 ·rcases iA h with ⟨rfl,hl,e⟩ | ⟨hne,h⟩
  ·cases e
   rw [p.len] at hl
   exact⟨v,bb0 hl,r⟩
  ·obtain ⟨u,e,q⟩:=p.sl j m h
   exact⟨u,by rw [aU1 (Ne.symm hne)]; exact e,q⟩
 ·rcases iA h1 with ⟨_,_,e⟩ | ⟨n1,h1⟩
  ·cases e
  ·rcases iA h2 with ⟨_,_,e⟩ | ⟨n2,h2⟩
   ·cases e
   ·rw [aU1 (Ne.symm n1)] at h3
    rw [aU1 (Ne.symm n2)] at h4
    exact p.dis j k y z a h1 h2 h3 h4
def lO (W:Addr->Prop) (a:Addr):Addr->Prop:=fun b=>W b ∨ b=a
theorem tQ {g:Bool}{a b:Addr} (n:b ≠ a) (h:Ms H0 W g b):Ms H0 (lO W a) g b:=by
 cases g with
 | true=>exact⟨fun z=>z.elim h.1 n,h.2⟩
 | false=>exact fun z=>z.elim h n
theorem PX.setOwn {i:Nat}{a:Addr}{x:PV} (p:PX K H0 W σ ρ Hs) (s:aH Hs H) (ha:Hs a=none) (r:gR K (Ms H0 (lO W a) true) H a x):PX K H0 (lO W a) (σ.set i (some (.ref a))) (ρ.set i (some (.own x))) H:=by
 have old:∀ b o,Hs b=some o->b ≠ a:=fun b o e z=>by rw [z,ha] at e; cases e
 have kp:∀ g,i8 (Ms H0 W g) (Ms H0 (lO W a) g) Hs H:=fun g=>⟨fun b _ m e=>⟨tQ (old _ _ e) m,s _ _ e⟩,fun b _ m e=>⟨tQ (old _ _ e) m,s _ _ e⟩,fun b _ m e=>⟨tQ (old _ _ e) m,s _ _ e⟩,fun _ _ e=>s _ _ e,fun _ _ _ e=>s _ _ e⟩
 have wa : ¬ W a:=(p.new ha).1
 refine⟨by rw [bc2,bc2]; exact p.len,p.same.trans s,fun b z=>?_,fun j m h=>?_,fun j k y z b h1 h2 h3 h4=>?_⟩
 ·rcases z with z | rfl
  ·obtain ⟨h1,o,h2,h3⟩:=p.wm b z
   exact⟨h1,o,s _ _ h2,h3⟩
  ·exact⟨(p.new ha).2,r.at⟩
 ·rcases iA h with ⟨rfl,hl,e⟩ | ⟨hne,h⟩
  ·cases e
   rw [p.len] at hl
   exact⟨_,bb0 hl,a,rfl,.inr rfl,r⟩
  ·obtain ⟨u,e,q⟩:=p.sl j m h
   refine⟨u,by rw [aU1 (Ne.symm hne)]; exact e,?_⟩
   cases m with
   | sh g y=>exact aC.keep (kp g) q
   | own y=>
    obtain ⟨b,e1,e2,q⟩:=q
    exact⟨b,e1,.inl e2,q.keep (kp true) fun o z=>s _ _ z⟩
 ·have ne:∀ {j:Nat}{y:PV},ρ[j]? = some (some (.own y))->σ[j]? ≠ some (some (.ref a)):=fun {j y} h1 h2=>by
   obtain ⟨u,e,c,e1,e2,_⟩:=p.sl j _ h1
   rw [h2] at e
   cases e
   cases e1
   exact wa e2
  rcases iA h1 with ⟨e1,l1,_⟩ | ⟨n1,h1⟩
  ·rcases iA h2 with ⟨e2,_,_⟩ | ⟨n2,h2⟩
   ·rw [e1,e2]
   ·rw [e1,bb0 (by rw [<- p.len]; exact l1)] at h3
    rw [aU1 (Ne.symm n2)] at h4
    cases h3
    exact absurd h4 (ne h2)
  ·rw [aU1 (Ne.symm n1)] at h3
   rcases iA h2 with ⟨e2,l2,_⟩ | ⟨n2,h2⟩
   ·rw [e2,bb0 (by rw [<- p.len]; exact l2)] at h4
    cases h4
    exact absurd h3 (ne h1)
   ·rw [aU1 (Ne.symm n2)] at h4
    exact p.dis j k y z b h1 h2 h3 h4
theorem Ev.own {a:Addr} (s:aH Hs H) (ha:Hs a=none):Ev W Hs (lO W a) H:=fun b o e n=>⟨s _ _ e,fun z=>z.elim n fun z=>by rw [z,ha] at e; cases e⟩
theorem nF {g:Bool}{a b:Addr} (wa:W a) (h:Ms H0 W g b):b ≠ a:=by
 cases g with
 | true=>exact fun z=>h.1 (by rw [z]; exact wa)
 | false=>exact fun z=>h (by rw [z]; exact wa)
theorem PX.updOwn {i:Nat}{a:Addr}{x y:PV}{o:HO} (p:PX K H0 W σ ρ H) (hi:ρ[i]? = some (some (.own x))) (ha:σ[i]? = some (some (.ref a))) (wa:W a) (mu:fH o=true) (r:gR K (Ms H0 W true) (upd H a o) a y) :
  PX K H0 W σ (ρ.set i (some (.own y))) (upd H a o):=by
 obtain ⟨w0,o',e',mu'⟩:=p.wm a wa
 have kp:∀ g,i8 (Ms H0 W g) (Ms H0 W g) H (upd H a o):=fun g=>.upd e' mu' fun b m=>⟨nF wa m,m⟩
 refine⟨by rw [bc2]; exact p.len,fun b u e=>by rw [b8 (fun z=>by rw [z,w0] at e; cases e)]; exact p.same _ _ e,fun b z=>?_,fun j m h=>?_,fun j k y' z b h1 h2 h3 h4=>?_⟩
 ·by_cases e:b=a
  ·subst e; exact⟨w0,o,cS,mu⟩
  ·obtain ⟨h1,o2,h2,h3⟩:=p.wm b z
   exact⟨h1,o2,by rw [b8 e]; exact h2,h3⟩
 ·rcases iA h with ⟨rfl,hl,e⟩ | ⟨hne,h⟩
  ·cases e
   exact⟨_,ha,a,rfl,wa,r⟩
  ·obtain ⟨u,e,q⟩:=p.sl j m h
   refine⟨u,e,?_⟩
   cases m with
   | sh g y=>exact aC.keep (kp g) q
   | own y=>
    obtain ⟨b,e1,e2,q⟩:=q
    have hb:b ≠ a:=fun z=>by
     subst e1
     rw [z] at e
     exact hne (p.dis j i _ _ a h hi e ha)
    exact⟨b,e1,e2,q.keep (kp true) fun o z=>by rw [b8 hb]; exact z⟩
 ·have g1:∃ y,ρ[j]? = some (some (.own y)):=by
   rcases iA h1 with ⟨e,_,_⟩ | ⟨_,h⟩
   ·exact⟨x,by rw [e]; exact hi⟩
   ·exact⟨_,h⟩
  have g2:∃ y,ρ[k]? = some (some (.own y)):=by
   rcases iA h2 with ⟨e,_,_⟩ | ⟨_,h⟩
   ·exact⟨x,by rw [e]; exact hi⟩
   ·exact⟨_,h⟩
  obtain ⟨y1,g1⟩:=g1
  obtain ⟨y2,g2⟩:=g2
  exact p.dis j k y1 y2 b g1 g2 h3 h4
theorem Ev.upd {a:Addr}{o:HO} (wa:W a):Ev W H W (upd H a o):=fun b u e n=>⟨by rw [b8 (fun z=>n (by rw [z]; exact wa))]; exact e,n⟩
end
section
variable {X : Cx} {σ : St} {H : Hp} {D : dW} {te : aE} {t u : aV}
def cB:aV:=fun D ρ=>D.nx ρ
def aI (t u:aV):aV:=fun D ρ=>t { D with nx:=u D } ρ
theorem ao1 (h:LS X cB D σ H):wK D σ H:=by
 obtain ⟨W,ρ,D',px,q,k⟩:=h
 exact k.nx W σ H ρ (Ev.refl _ _) px q
theorem ao2 (h:LS X (aI t u) D σ H):wL (LS X t) (LS X u) D σ H:=by
 obtain ⟨W,ρ,D',px,q,k⟩:=h
 exact⟨W,ρ,_,px,q,fun W' σ' H' ρ' e px' q'=>⟨W',ρ',D',px',q',k.step e⟩,k.rt,k.bk,k.ct⟩
def tR:Tg->PV->Bool
 | .fr,_=>true
 | .nw,_=>true
 | _,x=>flat x
def tS:Tg->PV->Prop
 | .rd,x=>flat x=true
 | _,_=>True
theorem zL {K:PySem.W.Frag}{H0 Hs H:Hp}{W:Addr->Prop}{σ:St}{ρ:bH}{g:Tg}{x:PV}{v:V} (px:PX K H0 W σ ρ Hs) (n:tS g x) (r:aC K (Mg H0 W Hs g) H v x):aC K (Ms H0 W (tR g x)) H v x:=by
 cases g with
 | fr=>exact Nw.rep (g:=.fr) px trivial r
 | nw=>exact Nw.rep (g:=.nw) px trivial r
 | sh=>
  show aC K (Ms H0 W (flat x)) H v x
  cases e:flat x with
  | true=>exact r.flat e
  | false=>exact r.same (aH.refl _) fun _ z=>z
 | rd=>exact r.flat n
def bC (i:Nat) (te:aE):aV:=fun D ρ=>te ρ fun x g=>tS g x/\D.nx (ρ.set i (some (.sh (tR g x) x)))
theorem zM {i:Nat} (h:LS X (bC i te) D σ H):lJ (LE X te) (dB i) D σ H:=by
 obtain ⟨W,ρ,D',px,q,k⟩:=h
 refine⟨W,ρ,_,px,q,?_⟩
 rintro v H1 x g s r ⟨n,q⟩
 exact k.nx W _ H1 _ (Ev.same s) ((px.mono s).setSh (zL px n r)) q
def zN:PV->Bool
 | .lst xs=>flats xs
 | .dK ps=>flats (ps.map (·.2))
 | .dT ps=>flats (ps.map (·.2))
 | _=>false
theorem ao3 {K:PySem.W.Frag}{M:Addr->Prop}{H:Hp}{v:V}{x:PV} (r:aC K M H v x) (o:zN x=true):∃ a,v = .ref a/\M a/\∀ M',gR K M' H a x:=by
 cases r with
 | lst m e r=>exact⟨_,rfl,m,fun _=>⟨_,e,r.flat o⟩⟩
 | dK m e q r=>exact⟨_,rfl,m,fun _=>⟨_,e,q,r.flat o⟩⟩
 | dT m e q r=>exact⟨_,rfl,m,fun _=>⟨_,e,q,r.flat o⟩⟩
 | _=>cases o
def gL (i:Nat) (te:aE):aV:=fun D ρ=>te ρ fun x g=>g = .fr/\zN x=true/\D.nx (ρ.set i (some (.own x)))
theorem ao4 {i:Nat} (h:LS X (gL i te) D σ H):lJ (LE X te) (dB i) D σ H:=by
 obtain ⟨W,ρ,D',px,q,k⟩:=h
 refine⟨W,ρ,_,px,q,?_⟩
 rintro v H1 x g s r ⟨rfl,o,q⟩
 obtain ⟨a,rfl,m,w⟩:=ao3 r o
 exact k.nx _ _ H1 _ (Ev.own s m) (px.setOwn s m (w _)) q
def tT (te:aE):aV:=fun D ρ=>te ρ fun _ _=>D.nx ρ
theorem ao5 (h:LS X (tT te) D σ H):mU (LE X te) D σ H:=by
 obtain ⟨W,ρ,D',px,q,k⟩:=h
 exact⟨W,ρ,_,px,q,fun v H1 x g s r q=>k.nx W σ H1 ρ (Ev.same s) (px.mono s) q⟩
def bQ (te:aE):aV:=fun D ρ=>te ρ fun x g=>Nw g x/\D.rt x
theorem ao6 (h:LS X (bQ te) D σ H):sB (LE X te) D σ H:=by
 obtain ⟨W,ρ,D',px,q,k⟩:=h
 refine⟨W,ρ,_,px,q,?_⟩
 rintro v H1 x g s r ⟨n,q⟩
 exact k.rt v H1 x (px.same.trans s) ((Nw.rep px n r).same (aH.refl _) fun _ z=>z.2) q
def Slot.nw:Slot->Prop
 | .own _=>True
 | .sh true _=>True
 | .sh false x=>flat x=true
def kO (i:Nat):aV:=fun D ρ=>∃ m,ρ[i]? = some (some m)/\m.nw/\D.rt m.val
theorem ao7 {i:Nat} (h:LS X (kO i) D σ H):sB (kB i) D σ H:=by
 obtain ⟨W,ρ,D',px,⟨m,hi,n,q⟩,k⟩:=h
 obtain ⟨v,ev,r⟩:=px.sl i _ hi
 refine⟨v,ev,k.rt v H _ px.same ?_ q⟩
 cases m with
 | own x=>
  obtain ⟨a,rfl,wa,r⟩:=r
  exact r.rep (fun _ z=>z.2) (px.wm a wa).1
 | sh g x=>
  cases g with
  | true=>exact aC.same r (aH.refl _) fun _ z=>z.2
  | false=>exact aC.flat n r
def bY (c:cJ) (t u:aV):aV:=fun D ρ=>c ρ fun b=>if b=true then t D ρ else u D ρ
theorem ao8 {c:cJ} (h:LS X (bY c t u) D σ H):wN (LT X c) (LS X t) (LS X u) D σ H:=by
 obtain ⟨W,ρ,D',px,q,k⟩:=h
 refine⟨W,ρ,_,px,q,fun b H1 s q1=>?_⟩
 cases b with
 | true=>exact aX ⟨W,ρ,D',px.mono s,by simpa using q1,k.step (Ev.same s)⟩
 | false=>exact aL ⟨W,ρ,D',px.mono s,by simpa using q1,k.step (Ev.same s)⟩
def pD (c:cJ) (tb:aV):aV:=fun D ρ=>∃ I:Nat->bH->Prop,(∃ m,I m ρ)/\∀ m ρ',I m ρ'->c ρ' fun b=>if b=true then tb { D with nx:=fun ρ2=>∃ m',m' < m/\I m' ρ2,ct:=fun ρ2=>∃ m',m' < m/\I m' ρ2,bk:=D.nx } ρ' else D.nx ρ'
theorem ao9 {c:cJ}{tb:aV} (h:LS X (pD c tb) D σ H):wQ (LT X c) (LS X tb) D σ H:=by
 obtain ⟨W,ρ,D',px,⟨I,⟨m0,i0⟩,turn⟩,k⟩:=h
 refine⟨fun m σ2 H2=>∃ W2 ρ2,PX X.K X.H₀ W2 σ2 ρ2 H2/\Ev W H W2 H2/\I m ρ2,⟨m0,W,ρ,px,Ev.refl _ _,i0⟩,?_⟩
 rintro m σ2 H2 ⟨W2,ρ2,px2,e2,i2⟩
 refine⟨W2,ρ2,_,px2,turn m ρ2 i2,fun b H3 s3 q3=>?_⟩
 cases b with
 | true=>
  refine aX ⟨fun σ4 H4=>∃ W4 ρ4,PX X.K X.H₀ W4 σ4 ρ4 H4/\Ev W H W4 H4/\∃ m',m' < m/\I m' ρ4,fun σ4 H4 ⟨W4,ρ4,a,b,m',c,d⟩=>⟨m',c,W4,ρ4,a,b,d⟩,W2,ρ2,_,px2.mono s3,by simpa using q3,?_⟩
  have e3:Ev W H W2 H3:=e2.trans (Ev.same s3)
  exact⟨fun W' σ' H' ρ' e p q=>⟨W',ρ',p,e3.trans e,q⟩,k.rt,fun W' σ' H' ρ' e p q=>k.nx W' σ' H' ρ' (e3.trans e) p q,fun W' σ' H' ρ' e p q=>⟨W',ρ',p,e3.trans e,q⟩⟩
 | false=>exact aL (k.nx W2 σ2 H3 ρ2 (e2.trans (Ev.same s3)) (px2.mono s3) (by simpa using q3))
end
theorem aC.sqT {K:PySem.W.Frag}{M:Addr->Prop}{H:Hp}{v:V}{xs:List PV} (r:aC K M H v (.tup xs)):∃ a us,v = .ref a/\H a=some (.tup us)/\Reps K M H us xs:=by
 cases r with
 | tup e r=>exact⟨_,_,rfl,e,r⟩
theorem aC.sqL {K:PySem.W.Frag}{M:Addr->Prop}{H:Hp}{v:V}{xs:List PV} (r:aC K M H v (.lst xs)):∃ a us,v = .ref a/\M a/\H a=some (.lst us)/\Reps K M H us xs:=by
 cases r with
 | lst m e r=>exact⟨_,_,rfl,m,e,r⟩
theorem iO.sqL {K:PySem.W.Frag}{H:Hp}{a:Addr}{ns:List Int} (h:iO K H a ns):aW K H a (ns.map V.int):=h.elim (fun z=>.inl (.inr z)) .inr
def iS:PV->Option (List PV)
 | .tup xs=>some xs
 | .lst xs=>some xs
 | .scr ns=>some (intz ns)
 | .kt xs=>some xs
 | _=>none
theorem aC.seq {K:PySem.W.Frag}{M:Addr->Prop}{H:Hp}{v:V}{x:PV}{xs:List PV} (r:aC K M H v x) (e:iS x=some xs):∃ a us,v = .ref a/\(aW K H a us ∨ aS K H a us)/\Reps K M H us xs:=by
 cases r with
 | tup h r=>cases e; exact⟨_,_,rfl,.inr (aS.of h),r⟩
 | lst m h r=>cases e; exact⟨_,_,rfl,.inl (aW.of h),r⟩
 | scr h=>cases e; exact⟨_,_,rfl,.inl h.sqL,Reps.intz _⟩
 | kt h r=>cases e; exact⟨_,_,rfl,.inr (.inr h),r⟩
 | _=>cases e
section
variable {X : Cx} {σ : St} {H : Hp} {D : dW} {te ti to : aE} {t u : aV} {Q' : VK}
theorem _root_.PP.PX.updL {K:PySem.W.Frag}{H0:Hp}{W:Addr->Prop}{σ:St}{ρ:bH}{H:Hp}{i:Nat}{a:Addr}{x:PV}{us:List V}{ys:List PV} (p:PX K H0 W σ ρ H) (hi:ρ[i]? = some (some (.own x))) (ha:σ[i]? = some (some (.ref a))) (wa:W a) (r:Reps K (Ms H0 W true) (upd H a (.lst us)) us ys) :
  PX K H0 W σ (ρ.set i (some (.own (.lst ys)))) (upd H a (.lst us)):=p.updOwn hi ha wa rfl (y:=.lst ys) ⟨us,cS,r⟩
def iT (i:Nat) (te:aE):aV:=fun D ρ=>∃ xs,ρ[i]? = some (some (.own (.lst xs)))/\te ρ fun x g=>Nw g x/\xs.length < 16000000/\D.nx (ρ.set i (some (.own (.lst (xs ++ [x])))))
theorem ap0 {i:Nat} (h:LS X (iT i te) D σ H):mU (sU X.K "list" yB (kB i) (jI (LE X te) kE)) D σ H:=by
 obtain ⟨W,ρ,D',px,⟨xs,hi,q⟩,k⟩:=h
 obtain ⟨v,ev,a,rfl,wa,us,ea,r⟩:=px.sl i _ hi
 refine⟨_,ev,z9 (aW.of ea),W,ρ,_,px,q,?_⟩
 rintro w H1 x g s rx ⟨n,hl,q⟩
 have ea1:=s _ _ ea
 refine⟨a,us,w,rfl,rfl,ea1,tJ (by rw [r.length]; omega),?_⟩
 refine k.nx W σ _ _ ((Ev.same s).trans (Ev.upd wa)) ((px.mono s).updL hi ev wa ?_) q
 exact ((r.same s fun _ z=>z).append (.cons (Nw.rep px n rx) .nil)).keep (.upd ea1 rfl fun b m=>⟨nF wa m,m⟩)
end
theorem Reps.atI {K:PySem.W.Frag}{M:Addr->Prop}{H:Hp}{us:List V}{xs:List PV}{i:Int}{z:PV} (r:Reps K M H us xs) (h:L2.atI xs i=some z):∃ v,L2.atI us i=some v/\aC K M H v z:=by
 unfold L2.atI at h ⊢
 rw [r.length]
 cases e:kG xs.length i with
 | none=>rw [e] at h; cases h
 | some j=>rw [e] at h; exact r.at h
section
variable {X : Cx} {σ : St} {H : Hp} {Q' : VK} {ta tb te : aE} {tr : cV}
def tU:PV->Tg->PV->Tg->PK->Prop:=fun x g y _ Q=>∃ xs i z,iS x=some xs/\y = .int i/\L2.atI xs i=some z/\Q z g
theorem ap1:eI X tU (xY X.K):=by
 rintro W Hs H u v x y g g' Q Q' s n r1 r2 ⟨xs,i,z,e,rfl,hz,q⟩ k
 cases r2
 obtain ⟨a,us,rfl,hs,r⟩:=r1.seq e
 obtain ⟨v,hv,rv⟩:=r.atI hz
 rcases hs with hs | hs
 ·exact .inl ⟨a,us,i,v,rfl,rfl,hs,hv,k v H z g (aH.refl _) rv q⟩
 ·exact .inr (.inl ⟨a,us,i,v,rfl,rfl,hs,hv,k v H z g (aH.refl _) rv q⟩)
def zO:PV->Option Nat
 | .tup xs=>some xs.length
 | .lst xs=>some xs.length
 | .scr ns=>some ns.length
 | .dK ps=>some ps.length
 | .kt xs=>some xs.length
 | _=>none
def gU:List PV->(PV->Prop)->Prop:=fun xs Q=>∃ x n,xs = [x]/\zO x=some n/\Q (.int n)
theorem Reps.one {K:PySem.W.Frag}{M:Addr->Prop}{H:Hp}{vs:List V}{x:PV} (r:Reps K M H vs [x]):∃ v,vs = [v]/\aC K M H v x:=by
 cases r with
 | cons r t=>cases t; exact⟨_,rfl,r⟩
theorem Reps.two {K:PySem.W.Frag}{M:Addr->Prop}{H:Hp}{vs:List V}{x y:PV} (r:Reps K M H vs [x,y]):∃ v w,vs = [v,w]/\aC K M H v x/\aC K M H w y:=by
 cases r with
 | cons r t=>
  obtain ⟨w,rfl,q⟩:=t.one
  exact⟨_,_,rfl,r,q⟩
theorem ap2:fL X gU (fun xs H Q=>(∃ p ys,xs = [.ref p]/\(aW X.K H p ys ∨ aS X.K H p ys)/\Q (.int ys.length) H) ∨ ∃ a kvs,xs = [V.ref a]/\H a=some (.dK kvs)/\Q (.int kvs.length) H):=by
 rintro H vs xs Q Q' r ⟨x,n,rfl,e,q⟩ k
 obtain ⟨v,rfl,r1⟩:=r.one
 have fin:∀ {m:Nat},m=n->Q' (.int m) H:=fun {m} z=>by rw [z]; exact k _ _ _ (aH.refl _) (.int _) q
 cases r1 with
 | tup h r2=>cases e; exact .inl ⟨_,_,rfl,.inr (aS.of h),fin r2.length⟩
 | lst m h r2=>cases e; exact .inl ⟨_,_,rfl,.inl (aW.of h),fin r2.length⟩
 | scr h=>cases e; exact .inl ⟨_,_,rfl,.inl h.sqL,fin (by rw [aS1])⟩
 | kt h r2=>cases e; exact .inl ⟨_,_,rfl,.inr (.inr h),fin r2.length⟩
 | dK m h e' r=>
  cases e
  refine .inr ⟨_,_,rfl,h,fin ?_⟩
  have:=congrArg List.length e'
  rw [aS1,aS1] at this
  exact this
 | _=>cases e
def pE:PV->Option (List PV)
 | .kt _=>none
 | x=>iS x
def zP:List PV->(PV->Prop)->Prop:=fun xs Q=>∃ x ys,xs = [x]/\pE x=some ys/\flats ys=true/\Q (.tup ys)
def pF:List PV->(PV->Prop)->Prop:=fun xs Q=>∃ x ys,xs = [x]/\iS x=some ys/\flats ys=true/\Q (.lst ys)
theorem ap3:fL X (fun xs Q=>zP xs Q/\∀ ns,xs ≠ [.scr ns]) (fun xs H Q=>∃ p ys,xs = [.ref p]/\((aW X.K H p ys/\∀ l,H l=none->Q (.ref l) (upd H l (.tup ys))) ∨ (aS X.K H p ys/\Q (.ref p) H))):=by
 rintro H vs xs Q Q' r ⟨⟨x,ys,rfl,e,f,q⟩,nsc⟩ k
 obtain ⟨v,rfl,r1⟩:=r.one
 cases r1 with
 | tup h r2=>cases e; exact⟨_,_,rfl,.inr ⟨aS.of h,k _ _ _ (aH.refl _) (.tup h (r2.flat f)) q⟩⟩
 | lst m h r2=>cases e; exact⟨_,_,rfl,.inl ⟨aW.of h,fun l hl=>k _ _ _ (cU hl _) (.tup cS ((r2.flat f).same (cU hl _) fun _ z=>z)) q⟩⟩
 | scr h=>exact absurd rfl (nsc _)
 | _=>cases e
theorem ap4:fL X pF (fun xs H Q=>∃ p ys,xs = [.ref p]/\(aW X.K H p ys ∨ aS X.K H p ys)/\∀ l,H l=none->Q (.ref l) (upd H l (.lst ys))):=by
 rintro H vs xs Q Q' r ⟨x,ys,rfl,e,f,q⟩ k
 obtain ⟨v,rfl,r1⟩:=r.one
 obtain ⟨a,us,rfl,hs,r2⟩:=r1.seq e
 exact⟨_,_,rfl,hs,fun l hl=>k _ _ _ (cU hl _) (.lst hl cS ((r2.flat f).same (cU hl _) fun _ z=>z)) q⟩
def pG:List PV->(PV->Prop)->Prop:=fun xs Q=>∃ bs:List Bool,xs = [.lst (bs.map PV.bl)]/\Q (.bl (bs.all id))
theorem Reps.ofBls {K:PySem.W.Frag}{M:Addr->Prop}{H:Hp}:∀ {ns:List Bool}{us:List V},Reps K M H us (ns.map PV.bl)->us=ns.map V.bl
 | [],_,.nil=>rfl
 | n :: r,_,.cons q t=>by
  cases q
  rw [Reps.ofBls t]; rfl
theorem ap5:fL X pG (fun xs H Q=>∃ (a:Addr) (bs:List Bool),xs = [.ref a]/\aW X.K H a (bs.map V.bl)/\Q (.bl (bs.all id)) H):=by
 rintro H vs xs Q Q' r ⟨bs,rfl,q⟩ k
 obtain ⟨v,rfl,r1⟩:=r.one
 obtain ⟨a,us,rfl,_,h,r2⟩:=r1.sqL
 obtain rfl:=r2.ofBls
 exact⟨a,bs,rfl,aW.of h,k _ _ _ (aH.refl _) (.bl _) q⟩
def nG:List PV->(PV->Prop)->Prop:=fun xs Q=>∃ i j,xs = [.int i,.int j]/\Q (.int (if j < i then j else i))
def lP:List PV->(PV->Prop)->Prop:=fun xs Q=>∃ i j,xs = [.int i,.int j]/\Q (.int (if j > i then j else i))
theorem ap6:fL X nG (fun xs H Q=>∃ i j,xs = [.int i,.int j]/\Q (.int (if j < i then j else i)) H):=by
 rintro H vs xs Q Q' r ⟨i,j,rfl,q⟩ k
 obtain ⟨v,w,rfl,r1,r2⟩:=r.two
 cases r1; cases r2
 exact⟨i,j,rfl,k _ _ _ (aH.refl _) (.int _) q⟩
theorem ap7:fL X lP (fun xs H Q=>∃ i j,xs = [.int i,.int j]/\Q (.int (if j > i then j else i)) H):=by
 rintro H vs xs Q Q' r ⟨i,j,rfl,q⟩ k
 obtain ⟨v,w,rfl,r1,r2⟩:=r.two
 cases r1; cases r2
 exact⟨i,j,rfl,k _ _ _ (aH.refl _) (.int _) q⟩
abbrev bZ:=List PV->(PV->Prop)->Prop
def nH (K:PySem.W.Frag) (p:bZ):Sp:=fun vs H Q _=>∃ xs Qp,Reps K (fun _=>True) H vs xs/\p xs Qp/\∀ v H' x,aH H H'->aC K (fun a=>H a=none) H' v x->Qp x->Q v H'
theorem ap8 {p:bZ}{E:XK} (h:LE X (aM p tr) σ H Q'):sO (nH X.K p) [] E (LA X tr) σ H Q':=by
 obtain ⟨W,ρ,Q,px,q,k⟩:=h
 refine⟨W,ρ,_,px,q,fun vs H1 xs s1 r1 q1=>⟨_,_,by rw [aW2]; exact r1.any,q1,fun v H' x s2 r2 q2=>k v H' x .fr (s1.trans s2) (r2.same (aH.refl _) fun _ z=>s1.free z) q2⟩⟩
def tV:PV->Bool
 | .non=>true
 | _=>false
def tW (neg:Bool):PV->Tg->PV->Tg->PK->Prop:=fun x _ y _ Q=>y = .non/\Q (.bl (if neg=true then !tV x else tV x)) .fr
theorem ap9 {K:PySem.W.Frag}{M:Addr->Prop}{H:Hp}{v:V}{x:PV} (r:aC K M H v x):decide (v = .non)=tV x:=by
 cases r <;> rfl
theorem aq0:eI X (tW true) (fun x y H Q=>y = .non/\Q (.bl (!decide (x = .non))) H):=by
 rintro W Hs H u v x y g g' Q Q' s n r1 r2 ⟨rfl,q⟩ k
 cases r2
 exact⟨rfl,by rw [ap9 r1]; exact k _ _ _ _ (aH.refl _) (.bl _) q⟩
end
structure jN (K:PySem.W.Frag) (H0:Hp) (W:Addr->Prop) (g:Bool) (H1:Hp) (J:It) (xs:List PV):Prop where
 go:∀ W' H' i,Ev W H1 W' H'->i < xs.length->J.go i H'
 yld:∀ W' H' i v H2,Ev W H1 W' H'->J.yld i H' v H2->i < xs.length->aH H' H2/\∃ x,xs[i]? = some x/\aC K (Ms H0 W' g) H2 v x
 stop:∀ W' H',Ev W H1 W' H'->J.stop xs.length H'
abbrev eU:=bH->(List PV->Bool->Prop)->Prop
def LI (X:Cx) (t:eU):TI:=fun σ H R=>∃ (W:Addr->Prop) (ρ:bH) (Q:List PV->Bool->Prop),PX X.K X.H₀ W σ ρ H/\t ρ Q/\∀ J H1 xs g,aH H H1->jN X.K X.H₀ W g H1 J xs->Q xs g->R J H1
theorem Ev.keep {H0:Hp}{W W':Addr->Prop}{H H':Hp}{g:Bool} (e:Ev W H W' H') (tw:∀ a,W a->∃ o,H a=some o/\fH o=true):i8 (Ms H0 W g) (Ms H0 W' g) H H':=by
 have m:∀ {a:Addr}{o:HO},Ms H0 W g a->H a=some o->Ms H0 W' g a/\H' a=some o:=fun {a o} z h=>by
  cases g with
  | true=>
   obtain ⟨h1,h2⟩:=e a _ h z.1
   exact⟨⟨h2,z.2⟩,h1⟩
  | false=>
   obtain ⟨h1,h2⟩:=e a _ h z
   exact⟨h2,h1⟩
 refine⟨fun a _ z h=>m z h,fun a _ z h=>m z h,fun a _ z h=>m z h,fun a _ h=>(e a _ h fun z=>?_).1,fun a _ _ h=>(e a _ h fun z=>?_).1⟩
 ·obtain ⟨o,h',mu⟩:=tw a z; rw [h] at h'; cases h'; cases mu
 ·obtain ⟨o,h',mu⟩:=tw a z; rw [h] at h'; cases h'; cases mu
section
variable {X : Cx} {σ : St} {H : Hp} {te : aE} {tr : cV} {R : It → Hp → Prop}
def zQ (K:PySem.W.Frag) (tl:TE):TI:=fun σ H R=>tl σ H fun x H1=>∃ a,x = .ref a/\((∃ xs,aW K H1 a xs/\R (sE K a) H1) ∨ (∃ xs,aS K H1 a xs/\R (sF K a) H1))
def pH:Tg->List PV->Bool
 | .fr,_=>true
 | .nw,_=>true
 | _,xs=>flats xs
def eJ (te:aE):eU:=fun ρ Q=>te ρ fun x g=>∃ xs,iS x=some xs/\(g = .rd->flat x=true)/\Q xs (pH g xs)
theorem zR {K:PySem.W.Frag}{H0:Hp}{W:Addr->Prop}{g:Bool}{H1:Hp}{a:Addr}{us:List V}{xs:List PV} (tw:∀ a,W a->∃ o,H1 a=some o/\fH o=true) (ha:∀ W' H',Ev W H1 W' H'->aW K H' a us) (r:Reps K (Ms H0 W g) H1 us xs):jN K H0 W g H1 (sE K a) xs:=by
 have lr:=r.length
 refine⟨fun W' H' i e hi=>⟨us,us[i]'(by omega),ha W' H' e,by simp⟩,fun W' H' i v H2 e y hi=>?_,fun W' H' e=>⟨us,ha W' H' e,by omega⟩⟩
 obtain ⟨rfl,y⟩:=y
 obtain ⟨x,hx,rx⟩:=r.get (y us (ha W' _ e))
 exact⟨aH.refl _,x,hx,rx.keep (e.keep tw)⟩
theorem zS {K:PySem.W.Frag}{H0:Hp}{W:Addr->Prop}{g:Bool}{H1:Hp}{a:Addr}{us:List V}{xs:List PV} (tw:∀ a,W a->∃ o,H1 a=some o/\fH o=true) (ha:∀ W' H',Ev W H1 W' H'->aS K H' a us) (r:Reps K (Ms H0 W g) H1 us xs):jN K H0 W g H1 (sF K a) xs:=by
 have lr:=r.length
 refine⟨fun W' H' i e hi=>⟨us,us[i]'(by omega),ha W' H' e,by simp⟩,fun W' H' i v H2 e y hi=>?_,fun W' H' e=>⟨us,ha W' H' e,by omega⟩⟩
 obtain ⟨rfl,y⟩:=y
 obtain ⟨x,hx,rx⟩:=r.get (y us (ha W' _ e))
 exact⟨aH.refl _,x,hx,rx.keep (e.keep tw)⟩
theorem lQ {K:PySem.W.Frag}{H0 Hs H:Hp}{W:Addr->Prop}{σ:St}{ρ:bH}{g:Tg}{us:List V}{xs:List PV} (px:PX K H0 W σ ρ Hs) (hg:g = .rd->flats xs=true) (r:Reps K (Mg H0 W Hs g) H us xs):Reps K (Ms H0 W (pH g xs)) H us xs:=by
 cases g with
 | fr=>exact r.same (aH.refl _) fun _ z=>px.new z
 | nw=>exact r.same (aH.refl _) fun _ z=>z
 | sh=>
  show Reps K (Ms H0 W (flats xs)) H us xs
  cases e:flats xs with
  | true=>exact r.flat e
  | false=>exact r.same (aH.refl _) fun _ z=>z
 | rd=>exact r.flat (hg rfl)
theorem aq1 (h:LI X (eJ te) σ H R):zQ X.K (LE X te) σ H R:=by
 obtain ⟨W,ρ,Q,px,q,k⟩:=h
 refine⟨W,ρ,_,px,q,?_⟩
 rintro v H1 x g s r ⟨xs,e,hg,q⟩
 have px1:=px.mono s
 have tw:∀ a,W a->∃ o,H1 a=some o/\fH o=true:=fun a z=>(px1.wm a z).2
 cases r with
 | tup h r=>
  cases e
  refine⟨_,rfl,.inr ⟨_,aS.of h,k _ _ _ _ s (zS tw (fun W' H' e=>aS.of (e _ _ h fun z=>?_).1) (lQ px (fun z=>by have:=hg z; unfold flat at this; exact this) r)) q⟩⟩
  obtain ⟨o,h',mu⟩:=tw _ z; rw [h] at h'; cases h'; cases mu
 | @lst a us xs' m h r=>
  cases e
  have wa : ¬ W a:=by
   cases g with
   | fr=>exact (px.new m).1
   | nw=>exact m.1
   | sh=>exact m
   | rd=>have:=hg rfl; unfold flat at this; cases this
  exact⟨_,rfl,.inl ⟨_,aW.of h,k _ _ _ _ s (zR tw (fun W' H' e=>aW.of (e _ _ h wa).1) (lQ px (fun z=>by have:=hg z; unfold flat at this; cases this) r)) q⟩⟩
 | scr h=>
  cases e
  refine⟨_,rfl,.inl ⟨_,h.sqL,k _ _ _ _ s (zR tw (fun W' H' e=>(iO.keep (fun a o u hz=>(e _ _ hz fun z=>?_).1) h).sqL) (lQ (g:=g) px (fun z=>tO _) (Reps.intz _))) q⟩⟩
  obtain ⟨o,h',mu⟩:=tw _ z; rw [hz] at h'; cases h'; cases mu
 | kt h r=>
  cases e
  exact⟨_,rfl,.inr ⟨_,.inr h,k _ _ _ _ s (zS tw (fun W' H' e=>.inr h) (lQ px (fun z=>by have:=hg z; unfold flat at this; exact this) r)) q⟩⟩
 | _=>cases e
def jO (lo:Int) (n:Nat):List PV:=(List.range n).map fun (i:Nat)=>PV.int (lo+(i:Int))
theorem lR (lo:Int) (n:Nat):(jO lo n).length=n:=by unfold jO; rw [aS1,List.length_range]
theorem zT {lo:Int}{n i:Nat} (h:i < n):(jO lo n)[i]? = some (.int (lo+i)):=by unfold jO; rw [aT4,List.getElem?_range h]; rfl
def nI (te:aE):eU:=fun ρ Q=>te ρ fun x _=>∃ j:Int,x = .int j/\-1000000<=j/\j<=1000000/\Q (jO 0 j.toNat) true
theorem aq2 {K:PySem.W.Frag}{H0:Hp}{W:Addr->Prop}{H1:Hp} (lo:Int) (n:Nat):jN K H0 W true H1 (oI lo n) (jO lo n):=by
 refine⟨fun W' H' i e hi=>by rw [lR] at hi; exact hi,fun W' H' i v H2 e y hi=>?_,fun W' H' e=>by show n<=(jO lo n).length; rw [lR]; exact aS4 _⟩
 rw [lR] at hi
 obtain ⟨rfl,rfl⟩:=y
 exact⟨aH.refl _,_,zT hi,.int _⟩
theorem aq3 (h:LI X (nI te) σ H R):wS (jI (LE X te) kE) σ H R:=by
 obtain ⟨W,ρ,Q,px,q,k⟩:=h
 refine⟨W,ρ,_,px,q,?_⟩
 rintro v H1 x g s r ⟨j,rfl,h1,h2,q⟩
 cases r
 exact⟨j,rfl,by omega,by omega,k _ _ _ _ s (aq2 0 j.toNat) q⟩
end
abbrev gV:=PV->Bool->bH->(bH->Prop)->Prop
def kQ (K:PySem.W.Frag) (own:Nat->Prop) (p:gV) (t:TG):Prop:=∀ (H0:Hp) (W:Addr->Prop) (σ:St) (ρ:bH) (H:Hp) (v:V) (x:PV) (g:Bool) (Q:bH->Prop) (Q':St->Hp->Prop),
 PX K H0 W σ ρ H->aC K (Ms H0 W g) H v x->p x g ρ Q->(∀ σ' ρ',PX K H0 W σ' ρ' H->(∀ i,¬ own i->σ'[i]? = σ[i]?)->σ'.length=σ.length->Q ρ'->Q' σ' H)->t v σ H Q'
def cY (i:Nat):gV:=fun x g ρ Q=>Q (ρ.set i (some (.sh (g || flat x) x)))
theorem jP {K:PySem.W.Frag}{H0 H:Hp}{W:Addr->Prop}{v:V}{x:PV}{g:Bool} (r:aC K (Ms H0 W g) H v x):aC K (Ms H0 W (g || flat x)) H v x:=by
 cases g with
 | true=>exact r
 | false=>
  show aC K (Ms H0 W (flat x)) H v x
  cases e:flat x with
  | true=>exact r.flat e
  | false=>exact r
theorem pI (K:PySem.W.Frag) (i:Nat):kQ K (· = i) (cY i) (dB i):=by
 intro H0 W σ ρ H v x g Q Q' px r q k
 exact k _ _ (px.setSh (jP r)) (fun j hj=>by rw [aU1 (Ne.symm hj)]) (bc2 ..) q
def gW (i j:Nat):gV:=fun x g ρ Q=>∃ y z,x = .tup [y,z]/\Q ((ρ.set i (some (.sh (g || flat y) y))).set j (some (.sh (g || flat z) z)))
theorem tX (K:PySem.W.Frag) (i j:Nat):kQ K (fun k=>k=i ∨ k=j) (gW i j) (lI K 2 (fV (dB i) (fV (dB j) lH))):=by
 intro H0 W σ ρ H v x g Q Q' px r q k
 obtain ⟨y,z,rfl,q⟩:=q
 obtain ⟨a,us,rfl,h,r⟩:=r.sqT
 obtain ⟨u1,u2,rfl,r1,r2⟩:=r.two
 refine⟨a,_,rfl,aS.of h,rfl,u1,_,rfl,u2,_,rfl,rfl,k _ _ ((px.setSh (jP r1)).setSh (jP r2)) (fun k hk=>?_) (by rw [bc2,bc2]) q⟩
 rw [aU1 (fun e=>hk (.inr e.symm)),aU1 (fun e=>hk (.inl e.symm))]
section
variable {X : Cx} {σ : St} {H : Hp} {D : dW}
def eC (ti:eU) (p:gV) (tb:aV):aV:=fun D ρ=>ti ρ fun xs g=>∃ I:Nat->bH->Prop,I 0 ρ/\(∀ i x ρ',xs[i]? = some x->I i ρ'->p x g ρ' fun ρ2=>tb { D with nx:=I (i+1),ct:=I (i+1),bk:=D.nx } ρ2)/\∀ ρ',I xs.length ρ'->D.nx ρ'
theorem aq4 {ti:eU}{p:gV}{g:TG}{tb:aV}{own:Nat->Prop} (hg:kQ X.K own p g) (h:LS X (eC ti p tb) D σ H):wT (LI X ti) g (LS X tb) D σ H:=by
 obtain ⟨W,ρ,D',px,q,k⟩:=h
 refine⟨W,ρ,_,px,q,?_⟩
 rintro J H1 xs gb s it ⟨I,i0,turn,fin⟩
 refine⟨fun i m σ2 H2=>m=xs.length - i/\i<=xs.length/\∃ W2 ρ2,PX X.K X.H₀ W2 σ2 ρ2 H2/\Ev W H1 W2 H2/\I i ρ2,⟨xs.length,by omega,ba7 _,W,ρ,px.mono s,Ev.refl _ _,i0⟩,?_⟩
 rintro i m σ2 H2 ⟨rfl,hi,W2,ρ2,px2,e2,i2⟩
 have e0:Ev W H W2 H2:=(Ev.same s).trans e2
 by_cases hlt:i < xs.length
 ·refine .inr ⟨it.go W2 H2 i e2 hlt,fun σ3 H3=>∃ W3 ρ3,PX X.K X.H₀ W3 σ3 ρ3 H3/\Ev W H1 W3 H3/\I (i+1) ρ3,fun σ3 H3 ⟨W3,ρ3,a,b,c⟩=>⟨xs.length - (i+1),by omega,rfl,hlt,W3,ρ3,a,b,c⟩,fun v H3 y=>?_⟩
  obtain ⟨s3,x,hx,rx⟩:=it.yld W2 H2 i v H3 e2 y hlt
  refine hg X.H₀ W2 σ2 ρ2 H3 v x gb _ _ (px2.mono s3) rx (turn i x ρ2 hx i2) fun σ4 ρ4 px4 _ _ q4=>?_
  have e3:Ev W H1 W2 H3:=e2.trans (Ev.same s3)
  have e3':Ev W H W2 H3:=e0.trans (Ev.same s3)
  exact⟨W2,ρ4,_,px4,q4,fun W' σ' H' ρ' e p q=>⟨W',ρ',p,e3.trans e,q⟩,k.rt,fun W' σ' H' ρ' e p q=>k.nx W' σ' H' ρ' (e3'.trans e) p q,fun W' σ' H' ρ' e p q=>⟨W',ρ',p,e3.trans e,q⟩⟩
 ·have e:i=xs.length:=by omega
  subst e
  exact .inl ⟨it.stop W2 H2 e2,k.nx W2 σ2 H2 ρ2 e0 px2 (fin ρ2 i2)⟩
end
def lS (fr:List (Option Nat)) (ρ:bH):bH:=fr.map fun o=>o.bind fun j=>(ρ[j]?).join.map fun m=>Slot.sh false m.val
def kR (D:Addr):Addr->Prop:=fun a=>a=D
theorem aq5 {K:PySem.W.Frag}{H0:Hp}{W:Addr->Prop}{σ:St}{ρ:bH}{H1 H':Hp}{D:Addr}{acc:List V}{fr:List (Option Nat)} (px:PX K H0 W σ ρ H1) (hD:H1 D=none) (s:aH H1 H') (ha:H' D=some (.lst acc)) :
  PX K H1 (kR D) (fZ fr σ) (lS fr ρ) H':=by
 have old:∀ {a:Addr}{o:HO},H1 a=some o->a ≠ D:=fun {a o} e z=>by rw [z,hD] at e; cases e
 refine⟨by unfold fZ lS; rw [aS1,aS1],s,fun a z=>by cases z; exact⟨hD,_,ha,rfl⟩,fun i m h=>?_,fun i j x y a h1=>?_⟩
 ·unfold lS at h
  rw [aT4] at h
  cases ef:fr[i]? with
  | none=>rw [ef] at h; cases h
  | some o=>
   rw [ef] at h
   cases o with
   | none=>cases h
   | some j=>
    have h:some ((ρ[j]?).join.map fun m=>Slot.sh false m.val)=some (some m):=h
    cases er:ρ[j]? with
    | none=>rw [er] at h; cases h
    | some o=>
     rw [er] at h
     cases o with
     | none=>cases h
     | some m0=>
      cases h
      obtain ⟨v,ev,r⟩:=px.sl j m0 er
      refine⟨v,?_,?_⟩
      ·unfold fZ
       rw [aT4,ef]
       show some ((σ[j]?).join)=_
       rw [ev]; rfl
      ·have r':aC K (fun _=>True) H1 v m0.val:=(zF (Hs:=H1) r).same (aH.refl _) fun _ _=>trivial
       exact r'.keep ⟨fun a _ _ e=>⟨old e,s _ _ e⟩,fun a _ _ e=>⟨old e,s _ _ e⟩,fun a _ _ e=>⟨old e,s _ _ e⟩,fun _ _ e=>s _ _ e,fun _ _ _ e=>s _ _ e⟩
 ·unfold lS at h1
  rw [aT4] at h1
  cases ef:fr[i]? with
  | none=>rw [ef] at h1; cases h1
  | some o=>
   rw [ef] at h1
   cases o with
   | none=>cases h1
   | some j=>
    have h1:some ((ρ[j]?).join.map fun m=>Slot.sh false m.val)=some (some (Slot.own x)):=h1
    cases er:ρ[j]? with
    | none=>rw [er] at h1; cases h1
    | some o=>
     rw [er] at h1
     cases o with
     | none=>cases h1
     | some m0=>cases h1
section
variable {X : Cx} {σ : St} {H : Hp} {Q' : VK}
abbrev _root_.L2.Cx.frm (X:Cx) (H1:Hp):Cx:={ X with H₀:=H1 }
def gX (ti:eU) (fr:List (Option Nat)) (p:gV) (tc:cJ) (te:aE):aE:=fun ρ Q=>ti ρ fun xs g=>xs.length<=16000000/\∃ I:Nat->List PV->Prop,I 0 []/\
 (∀ i x acc,xs[i]? = some x->I i acc->p x false (lS fr ρ) fun ρ2=>tc ρ2 fun b=>if b=true then te ρ2 fun y gy=>Nw gy y/\I (i+1) (acc ++ [y]) else I (i+1) acc)/\∀ acc,I xs.length acc->Q (.lst acc) .fr
theorem pJ {ti:eU}{fr:List (Option Nat)}{p:gV}{g:TG}{tc:cJ}{te:aE}{own:Nat->Prop} (hg:kQ X.K own p g) (ho:∀ i,own i->fr[i]? = some none) (h:LE X (gX ti fr p tc te) σ H Q') :
  t9 (LI X ti) fr (fun _=>g) (fun H1=>LT (X.frm H1) tc) (fun H1=>LE (X.frm H1) te) σ H Q':=by
 obtain ⟨W,ρ,Q,px,q,k⟩:=h
 refine⟨W,ρ,_,px,q,?_⟩
 rintro J H1 xs gb s it ⟨hl,I,i0,turn,fin⟩ D hD
 have px1:=px.mono s
 refine⟨fun i m acc H'=>m=xs.length - i/\i<=xs.length/\aH H1 H'/\H' D=some (.lst acc)/\∃ ys,Reps X.K (Ms H1 (kR D) true) H' acc ys/\ys.length<=i/\I i ys,⟨xs.length,by omega,ba7 _,cU hD _,cS,[],.nil,aS4 _,i0⟩,?_⟩
 rintro i m acc H' ⟨rfl,hi,sm,ha,ys,ry,hy,iy⟩
 refine⟨ha,?_⟩
 have ev:Ev W H1 (lO W D) H':=Ev.own sm hD
 by_cases hlt:i < xs.length
 ·refine .inr ⟨it.go _ H' i ev hlt,fun v H2 y=>?_⟩
  obtain ⟨s2,x,hx,rx⟩:=it.yld _ H' i v H2 ev y hlt
  have ha2:=s2 _ _ ha
  have pxb:PX X.K H1 (kR D) (fZ fr σ) (lS fr ρ) H2:=aq5 px1 hD (sm.trans s2) ha2
  have rx':aC X.K (Ms H1 (kR D) false) H2 v x:=rx.same (aH.refl _) fun a z=>by
   cases gb with
   | true=>exact fun e=>z.1 (.inr e)
   | false=>exact fun e=>z (.inr e)
  refine hg H1 (kR D) _ _ H2 v x false _ _ pxb rx' (turn i x ys hx iy) fun σ2 ρ2 px2 hown hlen q2=>⟨⟨hlen.symm,fun j w e=>?_⟩,?_⟩
  ·by_cases oj:own j
   ·have:=ho j oj
    unfold fZ at e
    rw [aT4,this] at e
    cases e
   ·rw [hown j oj]; exact e
  ·refine⟨kR D,ρ2,_,px2,q2,fun b H4 s4 q4=>?_⟩
   have ha4:=s4 _ _ ha2
   have sm4:=(sm.trans s2).trans s4
   cases b with
   | false=>
    refine aL ⟨xs.length - (i+1),by omega,rfl,hlt,sm4,ha4,ys,ry.same (s2.trans s4) fun _ z=>z,by omega,by simpa using q4⟩
   | true=>
    refine aX ⟨kR D,ρ2,_,px2.mono s4,by simpa using q4,?_⟩
    rintro w H5 y gy s5 ryy ⟨nw,q5⟩
    have ha5:=s5 _ _ ha4
    have lr:=ry.length
    refine⟨ha5,tJ (by omega),xs.length - (i+1),by omega,rfl,hlt,fun b o e=>?_,cS,ys ++ [y],?_,by rw [aU4,ba1]; omega,q5⟩
    ·rw [b8 (fun z=>by rw [z,hD] at e; cases e)]
     exact s5 _ _ (sm4 _ _ e)
    ·exact ((ry.same ((s2.trans s4).trans s5) fun _ z=>z).append (.cons (Nw.rep (px2.mono s4) nw ryy) .nil)).keep (.upd ha5 rfl fun b m=>⟨m.1,m⟩)
 ·have e:i=xs.length:=by omega
  subst e
  refine .inl ⟨it.stop _ H' ev,k _ H' _ .fr (s.trans sm) (.lst (s.free hD) ha (ry.same (aH.refl _) fun _ z=>s.free z.2)) (fin ys iy)⟩
def iB:cJ:=fun _ Q=>Q true
theorem aq6 {Qb:Bool->Hp->Prop} (h:LT X iB σ H Qb):yT σ H Qb:=by
 obtain ⟨W,ρ,Q,px,q,k⟩:=h
 exact k _ _ (aH.refl _) q
end
section
variable {κ : Type} [DecidableEq κ]
def bS (ps:List (κ × PV)) (k:κ):Option PV:=(ps.find? fun p=>decide (p.1=k)).map (·.2)
def dP (ps:List (κ × PV)) (k:κ) (x:PV):List (κ × PV):=if (ps.any fun p=>decide (p.1=k))=true then ps.map (fun p=>if p.1=k then (p.1,x) else p) else ps ++ [(k,x)]
variable {K : PySem.W.Frag} {M : Addr → Prop} {H : Hp}
theorem iU (k:κ):∀ {kvs:List (κ × V)}{ps:List (κ × PV)},kvs.map (·.1)=ps.map (·.1)->Reps K M H (kvs.map (·.2)) (ps.map (·.2))->(bS ps k=none->eQ kvs k=none)/\∀ x,bS ps k=some x->∃ v,eQ kvs k=some v/\aC K M H v x
 | [],[],_,_=>⟨fun _=>rfl,fun x h=>by cases h⟩
 | [],_ :: _,e,_=>by cases e
 | _ :: _,[],e,_=>by cases e
 | (k1,v) :: kvs,(k2,x) :: ps,e,r=>by
  injection e with e1 e2
  have e1:k1=k2:=e1
  subst e1
  cases r with
  | cons r t=>
   obtain ⟨h1,h2⟩:=iU k e2 t
   unfold bS eQ at h1 h2 ⊢
   by_cases e:k1=k
   ·simp only [bc1,e,decide_true,Option.map_some]
    exact⟨fun z=>(by cases z),fun y z=>(by cases z; exact⟨v,rfl,r⟩)⟩
   ·simp only [bc1,e,decide_false]
    exact⟨h1,h2⟩
theorem aq7 (k:κ) {kvs:List (κ × V)}{ps:List (κ × PV)} (e:kvs.map (·.1)=ps.map (·.1)):(kvs.any fun p=>decide (p.1=k))=ps.any fun p=>decide (p.1=k):=by
 have h1:(kvs.any fun p=>decide (p.1=k))=(kvs.map (·.1)).any fun z=>decide (z=k):=by rw [List.any_map]; rfl
 have h2:(ps.any fun p=>decide (p.1=k))=(ps.map (·.1)).any fun z=>decide (z=k):=by rw [List.any_map]; rfl
 rw [h1,h2,e]
theorem zU (k:κ) {w:V}{y:PV} (q:aC K M H w y):∀ {kvs:List (κ × V)}{ps:List (κ × PV)},kvs.map (·.1)=ps.map (·.1)->Reps K M H (kvs.map (·.2)) (ps.map (·.2))->
  (kvs.map fun kv=>if kv.1=k then (kv.1,w) else kv).map (·.1)=(ps.map fun kv=>if kv.1=k then (kv.1,y) else kv).map (·.1)/\Reps K M H ((kvs.map fun kv=>if kv.1=k then (kv.1,w) else kv).map (·.2)) ((ps.map fun kv=>if kv.1=k then (kv.1,y) else kv).map (·.2))
 | [],[],_,_=>⟨rfl,.nil⟩
 | [],_ :: _,e,_=>by cases e
 | _ :: _,[],e,_=>by cases e
 | (k1,v) :: kvs,(k2,x) :: ps,e,r=>by
  injection e with e1 e2
  have e1:k1=k2:=e1
  subst e1
  cases r with
  | cons r t=>
   obtain ⟨h1,h2⟩:=zU k q e2 t
   by_cases e:k1=k
   ·simp only [aW8,e,if_true]
    exact⟨by rw [h1],.cons q h2⟩
   ·simp only [aW8,e,aZ0]
    exact⟨by rw [h1],.cons r h2⟩
theorem aq8 (k:κ) {w:V}{y:PV} (q:aC K M H w y) {kvs:List (κ × V)}{ps:List (κ × PV)} (e:kvs.map (·.1)=ps.map (·.1)) (r:Reps K M H (kvs.map (·.2)) (ps.map (·.2))) :
  (fF kvs k w).map (·.1)=(dP ps k y).map (·.1)/\Reps K M H ((fF kvs k w).map (·.2)) ((dP ps k y).map (·.2)):=by
 unfold fF dP
 rw [aq7 k e]
 split
 ·exact zU k q e r
 ·rw [aT9,aT9,aT9,aT9,e]
  exact⟨rfl,r.append (.cons q .nil)⟩
end
def kP:aJ->PV
 | .inl i=>.int i
 | .inr x=>.str x
theorem zV {K:PySem.W.Frag}{M:Addr->Prop}{H:Hp}{v:V}{k:aJ} (r:aC K M H v (kP k)):v=kV k:=by
 cases k with
 | inl i=>cases r; rfl
 | inr x=>cases r; rfl
theorem pL {K:PySem.W.Frag}{M:Addr->Prop}{H:Hp}:∀ {ks:List aJ}{us:List V},Reps K M H us (ks.map kP)->us=ks.map kV
 | [],_,.nil=>rfl
 | k :: r,_,.cons q t=>by rw [zV q,pL t]; rfl
def zW:PV->PV
 | .fK ps=>.dK ps
 | .fT ps=>.dT ps
 | x=>x
def tY (x y:PV) (o:Option PV):Prop:=(∃ ps k,zW x = .dK ps/\y=kP k/\o=bS ps k) ∨ (∃ ps k,zW x = .dT ps/\y = .tup (k.map kP)/\o=bS ps k)
theorem tZ {K:PySem.W.Frag}{M M2:Addr->Prop}{H:Hp}{v w:V}{x y:PV}{o:Option PV} (h:tY x y o) (rx:aC K M H v x) (ry:aC K M2 H w y):∃ a o',v = .ref a/\fG H a w o'/\(o=none->o'=none)/\∀ z,o=some z->∃ u,o'=some u/\aC K M H u z:=by
 rcases h with ⟨ps,k,ex,rfl,rfl⟩ | ⟨ps,k,ex,rfl,rfl⟩
 ·obtain rfl:=zV ry
  cases rx with
  | dK m h e r=>cases ex; exact⟨_,_,rfl,fG.k h,(iU k e r).1,(iU k e r).2⟩
  | fK h e r=>cases ex; exact⟨_,_,rfl,.inl ⟨_,k,.inr ⟨_,h⟩,rfl,rfl⟩,(iU k e r).1,(iU k e r).2⟩
  | _=>cases ex
 ·obtain ⟨b,us,rfl,hb,rb⟩:=ry.sqT
  obtain rfl:=pL rb
  cases rx with
  | dT m h e r=>cases ex; exact⟨_,_,rfl,fG.t h hb,(iU k e r).1,(iU k e r).2⟩
  | fT h e r=>cases ex; exact⟨_,_,rfl,.inr ⟨_,k,b,.inr ⟨_,h⟩,rfl,hb,rfl⟩,(iU k e r).1,(iU k e r).2⟩
  | _=>cases ex
section
variable {X : Cx} {σ : St} {H : Hp} {D : dW} {tk td te : aE} {Q' : VK}
def nJ (neg:Bool) (tk td:aE):aE:=fun ρ Q=>tk ρ fun y _=>td ρ fun x _=>∃ o,tY x y o/\Q (.bl (if neg=true then !o.isSome else o.isSome)) .fr
theorem aq9 {α β:Type}{o:Option α}{o':Option β}{P:β->α->Prop} (h1:o=none->o'=none) (h2:∀ z,o=some z->∃ u,o'=some u/\P u z):o'.isSome=o.isSome:=by
 cases o with
 | none=>rw [h1 rfl]; rfl
 | some z=>obtain ⟨u,e,_⟩:=h2 z rfl; rw [e]; rfl
theorem ar0 (h:LE X (nJ true tk td) σ H Q'):yJ (LE X tk) (LE X td) σ H Q':=by
 obtain ⟨W,ρ,Q,px,q,k⟩:=h
 refine⟨W,ρ,_,px,q,fun w H1 y g s r q=>⟨W,ρ,_,px.mono s,q,?_⟩⟩
 rintro v H2 x g' s2 r2 ⟨o,ak,q⟩
 obtain ⟨a,o',rfl,dg,h1,h2⟩:=tZ ak r2 (r.same s2 fun _ z=>z)
 refine⟨a,o',rfl,dg,?_⟩
 rw [aq9 h1 h2]
 exact k _ _ _ .fr (s.trans s2) (.bl _) q
def u5 (td tk:aE):aE:=fun ρ Q=>td ρ fun x g=>tk ρ fun y _=>∃ z,tY x y (some z)/\Q z g
theorem ar1 (h:LE X (u5 td tk) σ H Q'):yI (LE X td) (LE X tk) σ H Q':=by
 obtain ⟨W,ρ,Q,px,q,k⟩:=h
 refine⟨W,ρ,_,px,q,fun v H1 x g s r q=>⟨W,ρ,_,px.mono s,q,?_⟩⟩
 rintro w H2 y g' s2 r2 ⟨z,ak,q⟩
 obtain ⟨a,o',rfl,dg,h1,h2⟩:=tZ ak (r.same s2 fun _ z=>z) r2
 obtain ⟨u,rfl,ru⟩:=h2 z rfl
 exact⟨a,u,rfl,dg,k _ _ _ g (s.trans s2) ru q⟩
theorem PX.updT {K:PySem.W.Frag}{H0:Hp}{W:Addr->Prop}{σ:St}{ρ:bH}{H:Hp}{i:Nat}{a:Addr}{x:PV}{kvs:List (List aJ × V)}{ps:List (List aJ × PV)} (p:PX K H0 W σ ρ H) (hi:ρ[i]? = some (some (.own x))) (ha:σ[i]? = some (some (.ref a))) (wa:W a)
  (r:kvs.map (·.1)=ps.map (·.1)/\Reps K (Ms H0 W true) (upd H a (.dT kvs)) (kvs.map (·.2)) (ps.map (·.2))):PX K H0 W σ (ρ.set i (some (.own (.dT ps)))) (upd H a (.dT kvs)):=p.updOwn hi ha wa rfl (y:=.dT ps) ⟨kvs,cS,r⟩
theorem ar2 {κ α β:Type}{l:List (κ × α)}{m:List (κ × β)} (e:l.map (·.1)=m.map (·.1)):l.length=m.length:=by
 have:=congrArg List.length e
 rw [aS1,aS1] at this
 exact this
def kS (i:Nat) (tk te:aE):aV:=fun D ρ=>te ρ fun z g=>∃ ps,ρ[i]? = some (some (.own (.dT ps)))/\tk ρ fun y _=>∃ k,y = .tup (k.map kP)/\Nw g z/\ps.length < 16000000/\D.nx (ρ.set i (some (.own (.dT (dP ps k z)))))
theorem ar3 {i:Nat} (h:LS X (kS i tk te) D σ H):yK (kB i) (LE X tk) (LE X te) D σ H:=by
 obtain ⟨W,ρ,D',px,q,k⟩:=h
 refine⟨W,ρ,_,px,q,?_⟩
 rintro w H1 z g s rz ⟨ps,hi,q⟩
 obtain ⟨v,ev,a,rfl,wa,kvs,ea,e1,r⟩:=(px.mono s).sl i _ hi
 refine⟨_,ev,W,ρ,_,px.mono s,q,?_⟩
 rintro kv H2 y g' s2 ry ⟨kk,rfl,nw,hl,q⟩
 obtain ⟨b,us,rfl,hb,rb⟩:=ry.sqT
 obtain rfl:=pL rb
 have ea2:=s2 _ _ ea
 refine⟨a,_,rfl,nA.t ea2 hb (tJ (by rw [ar2 e1]; omega)),?_⟩
 refine k.nx W σ _ _ ((Ev.same (s.trans s2)).trans (Ev.upd wa)) ((px.mono (s.trans s2)).updT hi ev wa ?_) q
 obtain ⟨h1,h2⟩:=aq8 kk ((Nw.rep px nw rz).same s2 fun _ z=>z) e1 (r.same s2 fun _ z=>z)
 exact⟨h1,h2.keep (.upd ea2 rfl fun b m=>⟨nF wa m,m⟩)⟩
theorem ar4 (h:LE X (qC (.dT [])) σ H Q'):yL σ H Q':=by
 obtain ⟨W,ρ,Q,px,q,k⟩:=h
 exact fun p hp=>k _ _ _ .fr (cU hp _) (.dT hp cS rfl .nil) q
end
def cH:Nat->PV->PV->Bool
 | _,.non,.non=>true
 | _,.bl a,.bl b=>a == b
 | _,.int a,.int b=>a == b
 | _,.str a,.str b=>a == b
 | n+1,.tup xs,.tup ys=>(xs.zip ys).all (fun p=>cH n p.1 p.2) && xs.length == ys.length
 | n+1,.lst xs,.lst ys=>(xs.zip ys).all (fun p=>cH n p.1 p.2) && xs.length == ys.length
 | n+1,.kt xs,.kt ys=>(xs.zip ys).all (fun p=>cH n p.1 p.2) && xs.length == ys.length
 | _,_,_=>false
def dM:Nat->PV->PV->Bool
 | _,.non,.non=>true
 | _,.bl _,.bl _=>true
 | _,.int _,.int _=>true
 | _,.str _,.str _=>true
 | _,.non,.int _=>true
 | _,.int _,.non=>true
 | n+1,.tup xs,.tup ys=>(xs.zip ys).all (fun p=>dM n p.1 p.2)
 | n+1,.lst xs,.lst ys=>(xs.zip ys).all (fun p=>dM n p.1 p.2)
 | n+1,.kt xs,.kt ys=>(xs.zip ys).all (fun p=>dM n p.1 p.2)
 | _+1,.non,.tup _=>true
 | _+1,.tup _,.non=>true
 | _,_,_=>false
theorem ar5 (n:Nat) (a b:Int):cH n (.int a) (.int b)=(a == b):=by cases n <;> rfl
theorem zX (n:Nat):∀ (a b:List Int),((((intz a).zip (intz b)).all fun p=>cH n p.1 p.2) && (intz a).length == (intz b).length)=decide (a=b)
 | [],[]=>rfl
 | [],_ :: _=>by simp
 | _ :: _,[]=>by simp
 | x :: a,y :: b=>by
  have ih:=zX n a b
  simp only [aW8,aZ2,bg6,aV5,ar5] at ih ⊢
  by_cases e:x=y
  ·subst e
   have:((intz a).length+1 == (intz b).length+1)=((intz a).length == (intz b).length):=by simp
   rw [this,aZ8,be0,ih]
   simp
  ·have:(x == y)=false:=beq_eq_false_iff_ne.mpr e
   rw [this,aW5,aW5]
   simp [e]
theorem zY (n:Nat) (a b:List Int):cH (n+1) (.tup (intz a)) (.tup (intz b))=decide (a=b):=zX n a b
theorem zZ (n:Nat):∀ (a b:List Int),(((intz a).zip (intz b)).all fun p=>dM n p.1 p.2)=true
 | [],_=>by simp
 | _ :: _,[]=>by simp
 | x :: a,y :: b=>by
  simp only [aW8,aZ2,bg6,zZ n a b,Bool.and_true]
  cases n <;> rfl
theorem A0 (n:Nat) (a b:List Int):dM (n+1) (.tup (intz a)) (.tup (intz b))=true:=zZ n a b
def A1 (ta:aE):aE:=fun ρ Q=>ta ρ fun x _=>∃ i,x = .int i/\Q (.int (-i)) .fr
def A2:PV->Option String
 | .non=>some "NoneType"
 | .bl _=>some "bool"
 | .int _=>some "int"
 | .str _=>some "str"
 | .tup _=>some "tuple"
 | .kt _=>some "tuple"
 | .lst _=>some "list"
 | _=>none
def lT (K:PySem.W.Frag) (n:String) (te:aE):aE:=fun ρ Q=>te ρ fun x _=>∃ T b,A2 x=some T/\PySem.W.kitOne K (.type T) (.type n)=some b/\Q (.bl b) .fr
def u6 (n:Nat) (neg:Bool):PV->Tg->PV->Tg->PK->Prop:=fun x _ y _ Q=>((∃ xs ys,x = .tup xs/\y = .tup ys) ∨ (∃ xs ys,x = .lst xs/\y = .lst ys))/\dM (n+1) x y=true/\Q (.bl (if neg=true then !cH (n+1) x y else cH (n+1) x y)) .fr
abbrev lU:=bH->(Option Int->Prop)->Prop
def iC (xs:List PV) (lo hi:Option Int):List PV:=(xs.drop (HT.b6 xs.length 0 lo)).take (HT.b6 xs.length xs.length hi - HT.b6 xs.length 0 lo)
def ar6:PV->List PV->PV
 | .tup _,ys=>.tup ys
 | .kt _,ys=>.tup ys
 | _,ys=>.lst ys
def pM:lU:=fun _ Q=>Q none
def pN (te:aE):lU:=fun ρ Q=>te ρ fun x _=>∃ i,x = .int i/\Q (some i)
def pO (te:aE) (tl th:lU):aE:=fun ρ Q=>te ρ fun x _=>tl ρ fun lo=>th ρ fun hi=>∃ xs,pE x=some xs/\flats xs=true/\Q (ar6 x (iC xs lo hi)) .fr
def fM (N:List Str) (xs:List PV):bH:=xs.map (fun x=>some (.sh (flat x) x)) ++ List.replicate (N.length - xs.length) none
abbrev cK (ta tb:aE):aE:=q2 (eB fun i j=>.int (i+j)) ta tb
abbrev eL (ta tb:aE):aE:=q2 (eB fun i j=>.int (i - j)) ta tb
abbrev jQ (ta tb:aE):aE:=q2 (RI mX fun i j=>.int (i * j)) ta tb
abbrev dN (ta tb:aE):aE:=q2 (RI sJ fun i j=>.int (i / j)) ta tb
abbrev c6 (ta tb:aE):aE:=q2 (RI (fun _ j=>0 < j) fun i j=>.int (i % j)) ta tb
abbrev A3 (ta tb:aE):aE:=q2 (RI sL fun i j=>.int (i ^ j.toNat)) ta tb
abbrev gM (ta tb:aE):aE:=q2 (eB fun i j=>.bl (decide (i < j))) ta tb
abbrev nL (ta tb:aE):aE:=q2 (eB fun i j=>.bl (decide (i<=j))) ta tb
abbrev kT (ta tb:aE):aE:=q2 (eB fun i j=>.bl (decide (j < i))) ta tb
abbrev pP (ta tb:aE):aE:=q2 (eB fun i j=>.bl (decide (j<=i))) ta tb
abbrev jR (ta tb:aE):aE:=q2 (kN false) ta tb
abbrev u7 (ta tb:aE):aE:=q2 (kN true) ta tb
abbrev A4 (ta tb:aE):aE:=q2 (tW true) ta tb
abbrev bD (ta tb:aE):aE:=q2 tU ta tb
def nM:List PV->(PV->Prop)->Prop:=fun xs Q=>zP xs Q/\∀ ns,xs ≠ [.scr ns]
def QE (X:Cx) (e:Expr) (t:aE):Prop:=PE X e (LE X t)
def QT (X:Cx) (e:Expr) (t:cJ):Prop:=PT X e (LT X t)
def QW (X:Cx) (e:Expr) (t:cJ):Prop:=PW X e (LT X t)
def QA (X:Cx) (es:List Expr) (t:cV):Prop:=PA X es (LA X t)
def QS (X:Cx) (st:Stmt) (t:aV):Prop:=PS X st (LS X t)
def eV (X:Cx) (st:List Stmt) (t:aV):Prop:=e8 X st (LS X t)
def QI (X:Cx) (tg iter:Expr) (t:eU):Prop:=PI X tg iter (LI X t)
section
variable {X : Cx}
theorem cL {e:Expr}{t t':TE} (h:PE X e t) (m:∀ σ H Q,t' σ H Q->t σ H Q):PE X e t':=fun pins s σ H Q I q=>h pins s σ H Q I (m σ H Q q)
theorem lV {e:Expr}{t t':TT} (h:PT X e t) (m:∀ σ H Q,t' σ H Q->t σ H Q):PT X e t':=fun pins s σ H Q I q=>h pins s σ H Q I (m σ H Q q)
theorem A5 {e:Expr}{t t':TT} (h:PW X e t) (m:∀ σ H Q,t' σ H Q->t σ H Q):PW X e t':=fun wh pins s σ H Q I q=>h wh pins s σ H Q I (m σ H Q q)
theorem A6 {e:List Expr}{t t':TA} (h:PA X e t) (m:∀ σ H Q,t' σ H Q->t σ H Q):PA X e t':=fun pos pins s σ H Q I q=>h pos pins s σ H Q I (m σ H Q q)
theorem eM {e:Stmt}{t t':TS} (h:PS X e t) (m:∀ D σ H,t' D σ H->t D σ H):PS X e t':=fun pins s σ H D I q=>h pins s σ H D I (m D σ H q)
theorem A7 {e:List Stmt}{t t':TS} (h:e8 X e t) (m:∀ D σ H,t' D σ H->t D σ H):e8 X e t':=fun pins s σ H D I q=>h pins s σ H D I (m D σ H q)
theorem pQ {tg e:Expr}{t t':TI} (h:PI X tg e t) (m:∀ σ H R,t' σ H R->t σ H R):PI X tg e t':=fun pins s σ H R I q=>h pins s σ H R I (m σ H R q)
variable {a b c e o : Expr} {es cO : List Expr} {ta tb te to tk : aE} {tr : cV} {tA tB' tc : cJ} {pos p2 px : Pos} {st : Stmt} {sts : List Stmt} {t u : aV}
theorem qv (i:Nat) {x:Str}{pos:Pos} (hN:X.N[i]? = some x:=by rfl) (hv:iJ X.env.scope x:=by first | exact Or.inl rfl | exact Or.inr (Or.inl rfl) | exact Or.inr (Or.inr rfl)) (hd:(x == ("__debug__" : Str))=false:=by decide)
  (hcd:(x == ("__classdict__" : Str))=false:=by decide):QE X (.Name x pos) (a7 i):=cL (lF hN hv hd hcd) fun _ _ _=>an1
theorem aB {i j}:QE X (.Constant (.int i) j pos) (qC (.int i)):=cL aa2 fun _ _ _=>nD fun _=>.int i
theorem gB {i j}:QE X (.Constant (.bool i) j pos) (qC (.bl i)):=cL aa3 fun _ _ _=>nD fun _=>.bl i
theorem u8 {j}:QE X (.Constant .none j pos) (qC .non):=cL aa4 fun _ _ _=>nD fun _=>.non
theorem pS {i j}:QE X (.Constant (.str i) j pos) (qC (.str i)):=cL aa5 fun _ _ _=>nD fun _=>.str i
theorem lW {op:Operator}{R:PV->Tg->PV->Tg->PK->Prop}{r:R2} (ho:c9 X (binaryOp op) r) (cv:eI X R r) (ha:QE X a ta) (hb:QE X b tb):QE X (.BinOp a op b pos) (q2 R ta tb):=cL (ad0 ho ha hb) fun _ _ _=>p6 cv
theorem cM (ha:QE X a ta) (hb:QE X b tb):QE X (.BinOp a .Add b pos) (q2 (eB fun i j=>.int (i+j)) ta tb):=lW ad2 zG ha hb
theorem eW (ha:QE X a ta) (hb:QE X b tb):QE X (.BinOp a .Sub b pos) (q2 (eB fun i j=>.int (i - j)) ta tb):=lW ad3 zG ha hb
theorem jS (ha:QE X a ta) (hb:QE X b tb):QE X (.BinOp a .Mult b pos) (q2 (RI mX fun i j=>.int (i * j)) ta tb):=lW ad4 p9 ha hb
theorem dQ (ha:QE X a ta) (hb:QE X b tb):QE X (.BinOp a .FloorDiv b pos) (q2 (RI sJ fun i j=>.int (i / j)) ta tb):=lW ad5 p9 ha hb
theorem cC (ha:QE X a ta) (hb:QE X b tb):QE X (.BinOp a .Mod b pos) (q2 (RI (fun _ j=>0 < j) fun i j=>.int (i % j)) ta tb):=lW ad6 p9 ha hb
theorem A8 (ha:QE X a ta) (hb:QE X b tb):QE X (.BinOp a .Pow b pos) (q2 (RI sL fun i j=>.int (i ^ j.toNat)) ta tb):=lW ad7 p9 ha hb
theorem kU {op:CmpOp}{R:PV->Tg->PV->Tg->PK->Prop}{r:R2} (ho:c9 X (compareOp op) r) (cv:eI X R r) (ha:QE X a ta) (hb:QE X b tb) (hm:behindInMarks op b=false):QE X (.Compare a [op] [b] pos) (q2 R ta tb):=cL (ae2 ho ha hb hm) fun _ _ _=>p6 cv
theorem jT {op:CmpOp}{R:PV->Tg->PV->Tg->PK->Prop}{r:R2} (ho:c9 X (compareOp op) r) (cv:eI X R r) (ha:QE X a ta) (hb:QE X b tb) (hm:behindInMarks op b=false):QT X (.Compare a [op] [b] pos) (aZ (q2 R ta tb)):=lV (ae3 ho ha hb hm) fun _ _ _ h=>p6 cv (nE h)
theorem A9 (ha:QE X a ta) (hb:QE X b tb):QE X (.Compare a [.Lt] [b] pos) (q2 (eB fun i j=>.bl (decide (i < j))) ta tb):=kU oN kL ha hb (fD _)
theorem nN (ha:QE X a ta) (hb:QE X b tb):QE X (.Compare a [.LtE] [b] pos) (q2 (eB fun i j=>.bl (decide (i<=j))) ta tb):=kU oO kL ha hb (fD _)
theorem B0 (ha:QE X a ta) (hb:QE X b tb):QE X (.Compare a [.GtE] [b] pos) (q2 (eB fun i j=>.bl (decide (j<=i))) ta tb):=kU x6 kL ha hb (fD _)
theorem ar7 (ha:QE X a ta) (hb:QE X b tb):QE X (.Compare a [.Eq] [b] pos) (q2 (kN false) ta tb):=kU x5 zJ ha hb (fD _)
theorem iV (ha:QE X a ta) (hb:QE X b tb):QT X (.Compare a [.Lt] [b] pos) (aZ (q2 (eB fun i j=>.bl (decide (i < j))) ta tb)):=jT oN kL ha hb (fD _)
theorem lX (ha:QE X a ta) (hb:QE X b tb):QT X (.Compare a [.Gt] [b] pos) (aZ (q2 (eB fun i j=>.bl (decide (j < i))) ta tb)):=jT ae0 kL ha hb (fD _)
theorem B1 (ha:QE X a ta) (hb:QE X b tb):QT X (.Compare a [.GtE] [b] pos) (aZ (q2 (eB fun i j=>.bl (decide (j<=i))) ta tb)):=jT x6 kL ha hb (fD _)
theorem kW (ha:QE X a ta) (hb:QE X b tb):QT X (.Compare a [.Eq] [b] pos) (aZ (q2 (kN false) ta tb)):=jT x5 zJ ha hb (fD _)
theorem u9 (ha:QE X a ta) (hb:QE X b tb):QT X (.Compare a [.NotEq] [b] pos) (aZ (q2 (kN true) ta tb)):=jT ad9 an2 ha hb (fD _)
theorem B2 (ha:QE X a ta) (hb:QE X b tb):QT X (.Compare a [.IsNot] [b] pos) (aZ (q2 (tW true) ta tb)):=jT ae1 aq0 ha hb (fD _)
theorem uA (hu:X.A.units+1 < cLine) (hk:QE X a tk) (hd:QE X b te) (hm:behindInMarks .NotIn b=false:=by rfl):QT X (.Compare a [.NotIn] [b] pos) (aZ (nJ true tk te)):=lV (aa8 (aj2 hu hk hd) hm) fun _ _ _ h=>ar0 (nE h)
theorem iW (h:QE X e te) (he:∀ whole,isTrue e X.env whole=(do let v <- whole; standAt e.pos; holding [v] (truthy v)):=by intro _; rfl):QT X e (aZ te):=lV (aa9 h he) fun _ _ _ h=>nE h
theorem lY (ha:QT X a tA):QW X (.BoolOp .And [a] pos) tA:=ab0 ha
theorem jU (ha:QT X a tA):QW X (.BoolOp .Or [a] pos) tA:=ab1 ha
theorem lZ (ha:QT X a tA) (hb:QW X (.BoolOp .And (b :: cO) pos) tB'):QW X (.BoolOp .And (a :: b :: cO) pos) (iP tA tB'):=A5 (ab2 ha hb) fun _ _ _=>an3
theorem gN (ha:QT X a tA) (hb:QW X (.BoolOp .Or (b :: cO) pos) tB'):QW X (.BoolOp .Or (a :: b :: cO) pos) (fJ tA tB'):=A5 (ab3 ha hb) fun _ _ _=>an4
theorem fN (h:QW X e tA):QT X e tA:=PW.pt h
theorem kX (ha:QT X a tA):QT X (.UnaryOp .Not a pos) (iQ tA):=lV (ab4 ha) fun _ _ _=>an5
theorem uB {op} (h:QE X a ta):QE X (.BoolOp op [a] pos) ta:=ab5 h
theorem kY (ha:QE X a ta) (hb:QE X (.BoolOp .And (b :: cO) pos) tb):QE X (.BoolOp .And (a :: b :: cO) pos) (iR ta tb):=cL (ab6 ha hb) fun _ _ _=>an6
theorem aF:QA X [] aD:=A6 kF fun _ _ _=>an7
theorem a9 (ha:QE X e te) (hr:QA X es tr) (hs:starEach (e :: es) X.env=(false,eval e X.env) :: starEach es X.env:=by rfl):QA X (e :: es) (a8 te tr):=A6 (iK ha hr hs) fun _ _ _=>an8
theorem dR {x1} (h:QA X es tr):QE X (.Tuple es x1 pos) (cW tr):=cL (ae9 h) fun _ _ _=>an9
theorem jV (h:QA X es tr):QE X (.List es pos) (i9 tr):=cL (af0 h) fun _ _ _=>ao0
theorem bE (ha:QE X a ta) (hb:QE X b tb) (hs:xU b:=by exact fun _ _=>rfl):QE X (.Subscript a b pos) (q2 tU ta tb):=cL (ah0 ah4 ha hb hs) fun _ _ _=>p6 ap1
theorem ar8 (hu:X.A.units+1 < cLine) (ha:QE X a ta) (hb:QE X b tb) (hs:sY b:=by exact fun _ _=>rfl):QE X (.Subscript a b pos) (u5 ta tb):=cL (aj1 hu ha hb hs) fun _ _ _=>ar1
theorem uC:QE X (.Dict [] [] pos) (qC (.dT [])):=cL aj5 fun _ _ _=>ar4
theorem iX {x:Str}{id:String}{R:List PV->(PV->Prop)->Prop}{r:List V->Hp->VK->Prop} (hc:dC X (.builtin id) r) (cv:fL X R r) (hg:Gl X x) (hm:X.mg x=none) (hv:bootBuiltins x=some (.builtin id)) (ha:QA X (e :: es) tr) (hn:x ≠ "__name__":=by decide) (hdb:(x == ("__debug__" : Str))=false:=by decide)
  (he:starEach (e :: es) X.env=(false,eval e X.env) :: starEach es X.env:=by rfl) (hpl:(backTo pos (starEach es X.env)).any (·.1)=false:=by rfl):QE X (.Call (.Name x p2) (e :: es) [] pos) (aM R tr):=cL (xJ hc hg hm hv ha hn hdb he hpl) fun _ _ _=>zK cv
theorem B3 {x:Str}{T:String}{R:List PV->(PV->Prop)->Prop}{r:List V->Hp->VK->Prop} (hc:dC X (.type T) r) (cv:fL X R r) (hg:Gl X x) (hm:X.mg x=none) (hv:bootBuiltins x=some (.type T)) (ha:QA X (e :: es) tr) (hn:x ≠ "__name__":=by decide) (hdb:(x == ("__debug__" : Str))=false:=by decide)
  (he:starEach (e :: es) X.env=(false,eval e X.env) :: starEach es X.env:=by rfl) (hpl:(backTo pos (starEach es X.env)).any (·.1)=false:=by rfl):QE X (.Call (.Name x p2) (e :: es) [] pos) (aM R tr):=cL (af3 hc hg hm hv ha hn hdb he hpl) fun _ _ _=>zK cv
theorem cP:eV X [] cB:=A7 ab8 fun _ _ _=>ao1
theorem aN (h1:QS X st t) (h2:eV X sts u):eV X (st :: sts) (aI t u):=A7 (ab9 h1 h2) fun _ _ _=>ao2
theorem aY (h1:QS X st t):eV X [st] t:=ac0 h1
theorem bI {i:Nat}{x:Str} (hN:X.N.Nodup) (he:QE X e te) (hi:X.N[i]? = some x:=by rfl) (hx:gE X.env.scope x:=by first | exact Or.inl rfl | exact Or.inr rfl) (hs:swapsWith e (some (.Name x p2)) pos.line X.env=pure false:=by rfl) (hf:X.fn x=true ∨ X.env.scope.names.lookup x=some .local:=by first | exact .inl rfl | exact .inr rfl) :
  QS X (.Assign [.Name x p2] e pos) (bC i te):=eM (wP hN hi hx he hs hf) fun _ _ _=>zM
theorem iD {i:Nat}{x:Str} (hN:X.N.Nodup) (he:QE X e te) (hi:X.N[i]? = some x:=by rfl) (hx:gE X.env.scope x:=by first | exact Or.inl rfl | exact Or.inr rfl) (hs:swapsWith e (some (.Name x p2)) pos.line X.env=pure false:=by rfl) (hf:X.fn x=true ∨ X.env.scope.names.lookup x=some .local:=by first | exact .inl rfl | exact .inr rfl) :
  QS X (.Assign [.Name x p2] e pos) (gL i te):=eM (wP hN hi hx he hs hf) fun _ _ _=>ao4
theorem ar9 (he:QE X e te) (hs:swapsWith e none pos.line X.env=pure false:=by rfl):QS X (.Expr e pos) (tT te):=eM (oE he hs) fun _ _ _=>ao5
theorem c7 (he:QE X e te):QS X (.Return (some e) pos) (bQ te):=eM (wM he) fun _ _ _=>ao6
theorem nO (i:Nat) {x:Str} (hN:X.N[i]? = some x:=by rfl) (hv:iJ X.env.scope x:=by first | exact Or.inl rfl | exact Or.inr (Or.inl rfl) | exact Or.inr (Or.inr rfl)) (hd:(x == ("__debug__" : Str))=false:=by decide) (hcd:(x == ("__classdict__" : Str))=false:=by decide) :
  QS X (.Return (some (.Name x p2)) pos) (kO i):=eM (wM (lF hN hv hd hcd)) fun _ _ _=>ao7
theorem cN {sa sb:List Stmt} (hc:QT X c tc) (ha:eV X sa t) (hb:eV X sb u):QS X (.If c sa sb pos) (bY tc t u):=eM (ac1 hc ha hb) fun _ _ _=>ao8
theorem B4 {body:List Stmt} (hp:PassesOwn (model X.prog X.w) X.A X.env X.xe) (hc:QT X c tc) (hb:eV X body t):QS X (.While c body [] pos) (pD tc t):=eM (ac2 hp hc hb) fun _ _ _=>ao9
theorem m5 (i:Nat) {x:Str}{apos cpos xpos:Pos} (he:QE X e te) (hN:X.N[i]? = some x:=by rfl) (hv:iJ X.env.scope x:=by first | exact Or.inl rfl | exact Or.inr (Or.inl rfl) | exact Or.inr (Or.inr rfl)) (hd:(x == ("__debug__" : Str))=false:=by decide) (hcd:(x == ("__classdict__" : Str))=false:=by decide)
  (hbase:attributeBase (.Name x xpos) "append" X.env (eval (.Name x xpos) X.env)=eval (.Name x xpos) X.env:=by rfl)
  (hfew:((backTo cpos (starEach [e] X.env)).all (fun x=>!x.1) && (backToKw cpos (keywordEach [] X.env)).all (fun x=>x.1.isSome) && decide (([e]:List Expr).length+([]:List Keyword).length+(if ([]:List Keyword).isEmpty then 0 else 1) < 30))=true:=by rfl)
  (hline:(apos.endLine == cpos.line)=true:=by rfl) (hs:starEach [e] X.env=(false,eval e X.env) :: starEach [] X.env:=by rfl) (hplain:(backTo cpos (starEach [] X.env)).any (·.1)=false:=by rfl)
  (hsw:swapsWith (.Call (.Attribute (.Name x xpos) "append" apos) [e] [] cpos) none pos.line X.env=pure false:=by rfl) :
  QS X (.Expr (.Call (.Attribute (.Name x xpos) "append" apos) [e] [] cpos) pos) (iT i te):=
 eM (oE (xZ PySem.F.plainAttrs_list PySem.F.slot_list_append PySem.F.type_list_append yC (lF hN hv hd hcd) (iK he kF hs) hbase hfew hline hs hplain) hsw) fun _ _ _=>ap0
theorem nQ {i:Nat}{x:Str}{xpos tpos:Pos} (hu:X.A.units+1 < cLine) (hk:QE X a tk) (he:QE X e te) (hN:X.N[i]? = some x:=by rfl) (hv:iJ X.env.scope x:=by first | exact Or.inl rfl | exact Or.inr (Or.inl rfl) | exact Or.inr (Or.inr rfl)) (hd:(x == ("__debug__" : Str))=false:=by decide) (hcd:(x == ("__classdict__" : Str))=false:=by decide)
  (hs:swapsWith e (some (.Subscript (.Name x xpos) a tpos)) pos.line X.env=pure false:=by rfl):QS X (.Assign [.Subscript (.Name x xpos) a tpos] e pos) (kS i tk te):=eM (aj3 hu (lF hN hv hd hcd) hk he hs) fun _ _ _=>ar3
theorem as0 {tg l:Expr}{tl:TE} (hl:PE X l tl):PI X tg l (zQ X.K tl):=by
 intro pins s σ H R I h
 refine aQ (hl pins s σ H _ I h) fun v s1 ⟨x,H1,I1,r1,q1⟩=>?_
 obtain ⟨a,e,q⟩:=q1
 subst e
 cases r1
 rcases q with ⟨xs,hq,q⟩ | ⟨xs,hq,q⟩
 ·obtain ⟨its,rv,p,hz⟩:=I1.list hq
  refine wpAny_pyIter_list p.isList ?_
  refine⟨s1.heap.objs.size,[s1.heap.objs.size],_,_,H1,rfl,I1.kept (t':=s1.toks) fun b o e=>aR1 _ e,ac3 a _,⟨_,aS7 _ rfl,rfl,rfl⟩,fun b hb=>?_,q⟩
  have e:b=s1.heap.objs.size:=by simpa using hb
  subst e
  exact I1.fpOk (aS4 _) (I1.hok.fresh (aS4 _))
 ·obtain ⟨its,rv,p,hz⟩:=I1.tuple hq
  refine bd7 (show s1.heap.IsTuple a its.toArray from p) ?_
  refine⟨s1.heap.objs.size,[s1.heap.objs.size],_,_,H1,rfl,I1.kept (t':=s1.toks) fun b o e=>aR1 _ e,ac4 a _,⟨_,aS7 _ rfl,rfl,rfl⟩,fun b hb=>?_,q⟩
  have e:b=s1.heap.objs.size:=by simpa using hb
  subst e
  exact I1.fpOk (aS4 _) (I1.hok.fresh (aS4 _))
theorem fO {tg l:Expr} (hl:QE X l te):QI X tg l (eJ te):=pQ (as0 hl) fun _ _ _=>aq1
theorem uD {tg:Expr} (hg:Gl X "range") (hm:X.mg "range" = none) (ha:QE X a ta) (hs:starEach [a] X.env = [(false,eval a X.env)]:=by rfl):QI X tg (.Call (.Name "range" p2) [a] [] pos) (nI ta):=pQ (ac7 hg hm (iK ha kF hs) hs) fun _ _ _=>aq3
theorem B5 {tg:Expr}{body:List Stmt}{ti:eU}{p:gV}{g:TG}{own:Nat->Prop} (hp:PassesOwn (model X.prog X.w) X.A X.env X.xe) (hc:X.calm=true) (hi:QI X tg e ti) (hg:PG X tg g) (ht:kQ X.K own p g) (hb:eV X body t)
  (hs:∀ x,foldedSetIterable e X.env x=pure x:=by intro _; rfl):QS X (.For tg e body [] pos) (eC ti p t):=eM (ac9 hp hc hi hg hb hs) fun _ _ _=>aq4 ht
end
section
variable {X : Cx} {pins : List (Addr × Obj)} {σ : St} {H : Hp} {s : Shared} {K : PySem.W.Frag} {M M' : Addr → Prop}
theorem lN.inj {a:Addr}{us ws:List V} (h:lN K a us) (h':lN K a ws):us=ws:=by
 obtain ⟨o,its,n,e1,_,e2,_,v⟩:=h
 obtain ⟨o',its',n',e1',_,e2',_,v'⟩:=h'
 rw [e1] at e1'; cases e1'
 rw [e2] at e2'; cases e2'
 exact v.inj v'
theorem Reps.self_of {n:Nat} (ih:∀ {v:V}{x y:PV},aC K M H v x->aC K M' H v y->dM n x y=true->cH n x y=true):∀ {vs:List V}{xs ys:List PV},Reps K M H vs xs->Reps K M' H vs ys->((xs.zip ys).all fun p=>dM n p.1 p.2)=true->(((xs.zip ys).all fun p=>cH n p.1 p.2) && xs.length == ys.length)=true
 | _,_,_,.nil,.nil,_=>rfl
 | _,_,_,.cons r t,.cons r' t',o=>by
  simp only [aZ2,bg6,aY6] at o
  have h1:=ih r r' o.1
  have h2:=Reps.self_of ih t t' o.2
  simp only [aZ2,bg6,h1,be0,aV5] at h2 ⊢
  rw [<- h2]
  congr 1
  simp
theorem aC.self:∀ (n:Nat) {v:V}{x y:PV},aC K M H v x->aC K M' H v y->dM n x y=true->cH n x y=true:=by
 intro n
 induction n with
 | zero=>
  intro v x y r r' o
  cases r with
  | non=>cases r'; rfl
  | bl b=>cases r'; exact aZ8 b
  | int i=>cases r'; exact aZ8 i
  | str z=>cases r'; exact aZ8 z
  | _=>cases o
 | succ n ih=>
  intro v x y r r' o
  cases r with
  | non=>cases r'; rfl
  | bl b=>cases r'; exact aZ8 b
  | int i=>cases r'; exact aZ8 i
  | str z=>cases r'; exact aZ8 z
  | tup h rr=>
   cases r' with
   | tup h' rr'=>rw [h] at h'; cases h'; exact Reps.self_of ih rr rr' o
   | _=>cases o
  | lst _ h rr=>
   cases r' with
   | lst _ h' rr'=>rw [h] at h'; cases h'; exact Reps.self_of ih rr rr' o
   | _=>cases o
  | kt h rr=>
   cases r' with
   | kt h' rr'=>cases lN.inj h h'; exact Reps.self_of ih rr rr' o
   | _=>cases o
  | _=>cases o
theorem Reps.self (n:Nat) {vs:List V}{xs ys:List PV} (r:Reps K M H vs xs) (r':Reps K M' H vs ys) (o:((xs.zip ys).all fun p=>dM n p.1 p.2)=true):(((xs.zip ys).all fun p=>cH n p.1 p.2) && xs.length == ys.length)=true:=Reps.self_of (aC.self n) r r' o
theorem m6 (n:Nat) (xs ys:List PV):(List.range (min xs.length ys.length)).all (fun j=>cH n (xs.getD j .non) (ys.getD j .non))=(xs.zip ys).all fun p=>cH n p.1 p.2:=by
 rw [aX4]
 simp only [bc5,List.mem_range]
 constructor
 ·intro h p hp
  obtain ⟨j,hj,e⟩:=aY2 hp
  have hj':j < min xs.length ys.length:=by simpa using hj
  have:=h j hj'
  rw [List.getElem_zip] at e
  subst e
  have h1:j < xs.length:=by omega
  have h2:j < ys.length:=by omega
  simpa [aT3,h1,h2] using this
 ·intro h j hj
  have h1:j < xs.length:=by omega
  have h2:j < ys.length:=by omega
  have hz:j < (xs.zip ys).length:=by simp; omega
  have:=h _ (bc6 hz)
  rw [List.getElem_zip] at this
  simpa [aT3,h1,h2] using this
theorem B6 (I:aA X pins σ H s):∀ (n:Nat) {A:Around}{v w:V}{x y:PV}{a b:Value},A.units+n < cLine->aC X.K M H v x->aC X.K M' H w y->aU v a->aU w b->dM n x y=true->SeqAt.EqAt A s a b (cH n x y):=by
 intro n
 induction n with
 | zero=>
  intro A v w x y a b hu rx ry ra rb o
  cases rx with
  | non=>
   cases ra
   cases ry with
   | non=>cases rb; exact SeqAt.EqAt.same _
   | int i=>obtain ⟨t',rfl⟩:=rb; exact SeqAt.EqAt.none_int _ _
   | _=>cases o
  | bl i=>
   cases ra
   cases ry with
   | bl j=>cases rb; exact SeqAt.EqAt.bool_bool _ _
   | _=>cases o
  | int i=>
   obtain ⟨t,rfl⟩:=ra
   cases ry with
   | int j=>obtain ⟨t',rfl⟩:=rb; exact SeqAt.EqAt.int_int _ _ _ _
   | non=>cases rb; exact SeqAt.EqAt.int_none _ _
   | _=>cases o
  | str i=>
   obtain ⟨t,rfl⟩:=ra
   cases ry with
   | str j=>obtain ⟨t',rfl⟩:=rb; exact SeqAt.EqAt.str_str _ _ _ _
   | _=>cases o
  | _=>cases o
 | succ n ih=>
  intro A v w x y a b hu rx ry ra rb o
  have items:∀ {us ws:List V}{xs ys:List PV}{its its2:List Value},Reps X.K M H us xs->Reps X.K M' H ws ys->aR us its->aR ws its2->((xs.zip ys).all fun p=>dM n p.1 p.2)=true->
    ∀ j (h1:j < its.toArray.size) (h2:j < its2.toArray.size),SeqAt.EqAt A.in1 s its.toArray[j] its2.toArray[j] (cH n (xs.getD j .non) (ys.getD j .non)):=fun {us ws xs ys its its2} r1 r2 v1 v2 ok j h1 h2=>by
   have l1:=v1.length
   have l2:=v2.length
   have m1:=r1.length
   have m2:=r2.length
   have k1:j < its.length:=by simpa using h1
   have k2:j < its2.length:=by simpa using h2
   have j1:j < us.length:=by omega
   have j2:j < ws.length:=by omega
   have i1:j < xs.length:=by omega
   have i2:j < ys.length:=by omega
   obtain ⟨u,hu',ru⟩:=v1.get (aR5 j1)
   obtain ⟨u2,hu2',ru2⟩:=v2.get (aR5 j2)
   obtain ⟨x,hx,rx⟩:=r1.get (aR5 j1)
   obtain ⟨y,hy,ry⟩:=r2.get (aR5 j2)
   have e1:its.toArray[j]=u:=by
    rw [aR5 k1] at hu'
    simpa using hu'
   have e2:its2.toArray[j]=u2:=by
    rw [aR5 k2] at hu2'
    simpa using hu2'
   have ok':dM n x y=true:=by
    rw [bc5] at ok
    have hz:j < (xs.zip ys).length:=by simp; omega
    have:=ok _ (bc6 hz)
    rw [List.getElem_zip] at this
    rw [aR5 i1] at hx
    rw [aR5 i2] at hy
    cases hx; cases hy
    exact this
   rw [e1,e2]
   have g1:xs.getD j .non=x:=by rw [aT3,hx]; rfl
   have g2:ys.getD j .non=y:=by rw [aT3,hy]; rfl
   rw [g1,g2]
   exact ih (by show A.units+1+n < cLine; omega) rx ry ru ru2 ok'
  have huA:A.units < cLine:=by omega
  cases rx with
  | @kt p us xs h1 r1=>
   obtain ⟨its,v1,p1,_⟩:=I.tuple (.inr h1)
   cases (show a=Value.ref p from ra)
   cases ry with
   | @kt p2 ws ys h2 r2=>
    obtain ⟨its2,v2,p2',_⟩:=I.tuple (.inr h2)
    cases (show b=Value.ref p2 from rb)
    by_cases e:p=p2
    ·subst e
     have:=aC.self (K:=X.K) (M:=M) (M':=M') (n+1) (.kt h1 r1) (.kt h2 r2) o
     rw [this]
     exact SeqAt.EqAt.same _
    ·have:=SeqAt.RcAt.tuples p1 p2' huA (items r1 r2 v1 v2 o)
     refine .of_refs e ?_
     have l1:=v1.length
     have l2:=v2.length
     have m1:=r1.length
     have m2:=r2.length
     rw [aR8,aR8,<- l1,<- l2,m1,m2,m6] at this
     exact this
   | _=>cases o
  | @tup p us xs h1 r1=>
   obtain ⟨its,v1,p1,_⟩:=I.tuple (aS.of (K:=X.K) h1)
   cases (show a=Value.ref p from ra)
   cases ry with
   | @tup p2 ws ys h2 r2=>
    obtain ⟨its2,v2,p2',_⟩:=I.tuple (aS.of (K:=X.K) h2)
    cases (show b=Value.ref p2 from rb)
    by_cases e:p=p2
    ·subst e
     have:=aC.self (K:=X.K) (M:=M) (M':=M') (n+1) (.tup h1 r1) (.tup h2 r2) o
     rw [this]
     exact SeqAt.EqAt.same _
    ·have:=SeqAt.RcAt.tuples p1 p2' huA (items r1 r2 v1 v2 o)
     refine .of_refs e ?_
     have l1:=v1.length
     have l2:=v2.length
     have m1:=r1.length
     have m2:=r2.length
     rw [aR8,aR8,<- l1,<- l2,m1,m2,m6] at this
     exact this
   | non=>cases rb; exact SeqAt.EqAt.tuple_none p1 huA
   | _=>cases o
  | @lst p us xs _ h1 r1=>
   obtain ⟨its,v1,p1,_⟩:=I.list (aW.of (K:=X.K) h1)
   cases (show a=Value.ref p from ra)
   cases ry with
   | @lst p2 ws ys _ h2 r2=>
    obtain ⟨its2,v2,p2',_⟩:=I.list (aW.of (K:=X.K) h2)
    cases (show b=Value.ref p2 from rb)
    have l1:=v1.length
    have l2:=v2.length
    have m1:=r1.length
    have m2:=r2.length
    by_cases e:p=p2
    ·subst e
     rw [h1] at h2; cases h2
     have:=Reps.self n r1 r2 o
     show SeqAt.EqAt A s _ _ ((xs.zip ys).all (fun p=>cH n p.1 p.2) && xs.length == ys.length)
     rw [this]
     exact SeqAt.EqAt.same _
    ·refine .of_refs e ?_
     by_cases hl:xs.length=ys.length
     ·have:=SeqAt.RcAt.lists p1.isList p2'.isList (by rw [aR8,aR8]; omega) huA (items r1 r2 v1 v2 o)
      have hm:min xs.length ys.length=its.length:=by omega
      rw [aR8,<- hm,m6] at this
      show SeqAt.RcAt A s _ _ ((xs.zip ys).all (fun p=>cH n p.1 p.2) && xs.length == ys.length)
      rw [show (xs.length == ys.length)=true by simpa using hl,Bool.and_true]
      exact this
     ·have:=SeqAt.RcAt.lists_lengths (A:=A) p1.isList p2'.isList (by rw [aR8,aR8]; simp; omega) huA
      show SeqAt.RcAt A s _ _ ((xs.zip ys).all (fun p=>cH n p.1 p.2) && xs.length == ys.length)
      rw [show (xs.length == ys.length)=false by simpa using hl,aU8]
      exact this
   | _=>cases o
  | non=>
   cases ra
   cases ry with
   | non=>cases rb; exact SeqAt.EqAt.same _
   | int i=>obtain ⟨t',rfl⟩:=rb; exact SeqAt.EqAt.none_int _ _
   | @tup p2 ws ys h2 r2=>
    obtain ⟨its2,v2,p2',_⟩:=I.tuple (aS.of (K:=X.K) h2)
    cases (show b=Value.ref p2 from rb)
    exact SeqAt.EqAt.none_tuple p2' huA
   | _=>cases o
  | bl i=>
   cases ra
   cases ry with
   | bl j=>cases rb; exact SeqAt.EqAt.bool_bool _ _
   | _=>cases o
  | int i=>
   obtain ⟨t,rfl⟩:=ra
   cases ry with
   | int j=>obtain ⟨t',rfl⟩:=rb; exact SeqAt.EqAt.int_int _ _ _ _
   | non=>cases rb; exact SeqAt.EqAt.int_none _ _
   | _=>cases o
  | str i=>
   obtain ⟨t,rfl⟩:=ra
   cases ry with
   | str j=>obtain ⟨t',rfl⟩:=rb; exact SeqAt.EqAt.str_str _ _ _ _
   | _=>cases o
  | _=>cases o
end
structure Bt (mg:Str->Option Value):Prop where
 len:mg "len" = none
 range:mg "range" = none
 tuple:mg "tuple" = none
 list:mg "list" = none
 sorted:mg "sorted" = none
 all:mg "all" = none
 any:mg "any" = none
 zip:mg "zip" = none
 min:mg "min" = none
 max:mg "max" = none
 sum:mg "sum" = none
 isinst:mg "isinstance" = none
 int:mg "int" = none
 bool:mg "bool" = none
 enum:mg "enumerate" = none
section
variable {X : Cx} {a b c e o : Expr} {es cO : List Expr} {ta tb te to tk : aE} {tr : cV} {tA tB' tc : cJ} {pos p2 px : Pos} {st : Stmt} {sts : List Stmt} {t u : aV}
theorem jW (B:Bt X.mg) (ha:QA X [e] tr) (hg:Gl X "len":=by rfl) (he:starEach [e] X.env=(false,eval e X.env) :: starEach [] X.env:=by rfl) (hpl:(backTo pos (starEach [] X.env)).any (·.1)=false:=by rfl):QE X (.Call (.Name "len" p2) [e] [] pos) (aM gU tr):=
 iX (ah9.or ak5) ap2 hg B.len PySem.boot_len ha (he:=he) (hpl:=hpl)
theorem pT (B:Bt X.mg) (ha:QA X [e] tr) (hg:Gl X "tuple":=by rfl) (he:starEach [e] X.env=(false,eval e X.env) :: starEach [] X.env:=by rfl) (hpl:(backTo pos (starEach [] X.env)).any (·.1)=false:=by rfl):QE X (.Call (.Name "tuple" p2) [e] [] pos) (aM nM tr):=
 B3 ai1 ap3 hg B.tuple PyProof.Rows.boot_tuple ha (he:=he) (hpl:=hpl)
theorem B7 (B:Bt X.mg) (ha:QA X [e] tr) (hg:Gl X "list":=by rfl) (he:starEach [e] X.env=(false,eval e X.env) :: starEach [] X.env:=by rfl) (hpl:(backTo pos (starEach [] X.env)).any (·.1)=false:=by rfl):QE X (.Call (.Name "list" p2) [e] [] pos) (aM pF tr):=
 B3 ai0 ap4 hg B.list PyProof.Rows.boot_list ha (he:=he) (hpl:=hpl)
theorem B8 (B:Bt X.mg) (hc:X.calm=true) (ha:QA X [e] tr) (hg:Gl X "all":=by rfl) (he:starEach [e] X.env=(false,eval e X.env) :: starEach [] X.env:=by rfl) (hpl:(backTo pos (starEach [] X.env)).any (·.1)=false:=by rfl):QE X (.Call (.Name "all" p2) [e] [] pos) (aM pG tr):=
 iX (am5 hc) ap5 hg B.all PyProof.Rows.boot_all ha (he:=he) (hpl:=hpl)
theorem uE (B:Bt X.mg) (hc:X.calm=true) (ha:QA X [a,b] tr) (hg:Gl X "min":=by rfl) (he:starEach [a,b] X.env=(false,eval a X.env) :: starEach [b] X.env:=by rfl) (hpl:(backTo pos (starEach [b] X.env)).any (·.1)=false:=by rfl):QE X (.Call (.Name "min" p2) [a,b] [] pos) (aM nG tr):=
 iX (ae5 hc) ap6 hg B.min PyProof.Rows.boot_min ha (he:=he) (hpl:=hpl)
theorem pU (B:Bt X.mg) (hc:X.calm=true) (ha:QA X [a,b] tr) (hg:Gl X "max":=by rfl) (he:starEach [a,b] X.env=(false,eval a X.env) :: starEach [b] X.env:=by rfl) (hpl:(backTo pos (starEach [b] X.env)).any (·.1)=false:=by rfl):QE X (.Call (.Name "max" p2) [a,b] [] pos) (aM lP tr):=
 iX (ae4 hc) ap7 hg B.max PyProof.Rows.boot_max ha (he:=he) (hpl:=hpl)
theorem as1 (ha:QE X a ta):QE X (.UnaryOp .USub a pos) (A1 ta):=cL (ad1 ad8 ha) fun σ H Q' h=>by
 obtain ⟨W,ρ,Q,px,q,k⟩:=h
 refine⟨W,ρ,_,px,q,?_⟩
 rintro v H1 x g s r ⟨i,rfl,q⟩
 cases r
 exact⟨i,rfl,k _ _ _ .fr s (.int _) q⟩
theorem aC.kt_ {K:PySem.W.Frag}{M:Addr->Prop}{H:Hp}{v:V}{xs:List PV} (r:aC K M H v (.kt xs)):∃ a us,v = .ref a/\lN K a us/\Reps K M H us xs:=by
 cases r with
 | kt h r=>exact⟨_,_,rfl,h,r⟩
def B9 (K:PySem.W.Frag) (H:Hp) (x:V) (t:Value):Prop:=fE K H x t ∨ ∃ a us,x = .ref a/\aS K H a us/\t = .type "tuple"
theorem as2:dC X (.builtin "isinstance") (fun xs H Q=>∃ x t n b,xs = [x,.ty n]/\B9 X.K H x t/\PySem.W.kitOne X.K t (.type n)=some b/\Q (.bl b) H):=by
 intro pins s σ H xs us Q I r h
 obtain ⟨x,t,n,b,rfl,ty,e,q⟩:=h
 rcases ty with ty | ⟨a,ws,rfl,hs,rfl⟩
 ·exact al7 pins s σ H _ us Q I r ⟨x,t,n,b,rfl,ty,e,q⟩
 obtain ⟨u,u',rfl,ru,ru'⟩:=kD r
 cases ru'
 cases (show u=Value.ref a from ru)
 obtain ⟨its,_,⟨o,h1,h2,_⟩,_⟩:=I.tuple hs
 exact aZ6 PySem.W.kitx_tuple I.kIn ⟨o,h1,h2⟩ e (fun z=>nomatch z) fun tk=>⟨.bl b,H,I.tok tk,rfl,q⟩
theorem as3 {K:PySem.W.Frag}{M:Addr->Prop}{H:Hp}{v:V}{x:PV}{T:String} (r:aC K M H v x) (e:A2 x=some T):B9 K H v (.type T):=by
 cases r with
 | non=>cases e; exact .inl .non
 | bl b=>cases e; exact .inl (.bl b)
 | int i=>cases e; exact .inl (.int i)
 | str i=>cases e; exact .inl (.str i)
 | tup h _=>cases e; exact .inl (.tup h)
 | lst _ h _=>cases e; exact .inl (.lst h)
 | kt h _=>cases e; exact .inr ⟨_,_,rfl,.inr h,rfl⟩
 | _=>cases e
theorem C0 {x:Str}{n:String} (B:Bt X.mg) (hn:bootBuiltins x=some (.type n)) (hm:X.mg x=none) (ha:QE X a ta) (hg:Gl X "isinstance":=by rfl) (hgx:Gl X x:=by rfl) (hx:x ≠ "__name__":=by decide) (hdx:(x == ("__debug__" : Str))=false:=by decide)
  (he:starEach [a,.Name x px] X.env=(false,eval a X.env) :: starEach [.Name x px] X.env:=by rfl) (he2:starEach [.Name x px] X.env=(false,eval (.Name x px) X.env) :: starEach [] X.env:=by rfl) (hpl:(backTo pos (starEach [.Name x px] X.env)).any (·.1)=false:=by rfl):QE X (.Call (.Name "isinstance" p2) [a,.Name x px] [] pos) (lT X.K n ta):=
 cL (xJ as2 hg B.isinst PyProof.Rows.boot_isinstance (iK ha (iK (aa7 (v:=.ty n) hgx hm hn rfl hx hdx) kF he2) he) (he:=he) (hpl:=hpl)) fun σ H Q' h=>by
  obtain ⟨W,ρ,Q,px,q,k⟩:=h
  refine⟨W,ρ,_,px,q,?_⟩
  rintro v H1 x g s r ⟨T,b,e,kt,q⟩
  exact⟨v,_,n,b,rfl,as3 r e,kt,k _ _ _ .fr s (.bl _) q⟩
theorem C1 (B:Bt X.mg) (ha:QE X a ta) (hg:Gl X "isinstance":=by rfl) (hgx:Gl X "bool":=by rfl)
  (he:starEach [a,.Name "bool" px] X.env=(false,eval a X.env) :: starEach [.Name "bool" px] X.env:=by rfl) (he2:starEach [.Name "bool" px] X.env=(false,eval (.Name "bool" px) X.env) :: starEach [] X.env:=by rfl) (hpl:(backTo pos (starEach [.Name "bool" px] X.env)).any (·.1)=false:=by rfl):QE X (.Call (.Name "isinstance" p2) [a,.Name "bool" px] [] pos) (lT X.K "bool" ta):=C0 B PyProof.Rows.boot_bool B.bool ha (hg:=hg) (hgx:=hgx) (he:=he) (he2:=he2) (hpl:=hpl)
theorem as4 (B:Bt X.mg) (ha:QE X a ta) (hg:Gl X "isinstance":=by rfl) (hgx:Gl X "tuple":=by rfl)
  (he:starEach [a,.Name "tuple" px] X.env=(false,eval a X.env) :: starEach [.Name "tuple" px] X.env:=by rfl) (he2:starEach [.Name "tuple" px] X.env=(false,eval (.Name "tuple" px) X.env) :: starEach [] X.env:=by rfl) (hpl:(backTo pos (starEach [.Name "tuple" px] X.env)).any (·.1)=false:=by rfl):QE X (.Call (.Name "isinstance" p2) [a,.Name "tuple" px] [] pos) (lT X.K "tuple" ta):=C0 B PyProof.Rows.boot_tuple B.tuple ha (hg:=hg) (hgx:=hgx) (he:=he) (he2:=he2) (hpl:=hpl)
def C2 (K:PySem.W.Frag) (n:Nat) (neg:Bool):R2:=fun v w H Q=>∃ x y,aC K (fun _=>True) H v x/\aC K (fun _=>True) H w y/\((∃ xs ys,x = .tup xs/\y = .tup ys) ∨ (∃ xs ys,x = .lst xs/\y = .lst ys) ∨ (∃ xs ys,x = .kt xs/\y = .kt ys))/\dM (n+1) x y=true/\Q (.bl (if neg=true then !cH (n+1) x y else cH (n+1) x y)) H
theorem uF {pins:List (Addr × Obj)}{σ:St}{H:Hp}{s:Shared}{M M':Addr->Prop} (I:aA X pins σ H s) {n:Nat}{A:Around} (hu:A.units+(n+1) < cLine) {us ws:List V}{xs ys:List PV}{its its2:List Value} (r1:Reps X.K M H us xs) (r2:Reps X.K M' H ws ys) (v1:aR us its) (v2:aR ws its2)
  (ok:((xs.zip ys).all fun p=>dM n p.1 p.2)=true):∀ j (h1:j < its.toArray.size) (h2:j < its2.toArray.size),SeqAt.EqAt A.in1 s its.toArray[j] its2.toArray[j] (cH n (xs.getD j .non) (ys.getD j .non)):=by
 intro j h1 h2
 have l1:=v1.length
 have l2:=v2.length
 have m1:=r1.length
 have m2:=r2.length
 have k1:j < its.length:=by simpa using h1
 have k2:j < its2.length:=by simpa using h2
 have j1:j < us.length:=by omega
 have j2:j < ws.length:=by omega
 have i1:j < xs.length:=by omega
 have i2:j < ys.length:=by omega
 obtain ⟨u,hu',ru⟩:=v1.get (aR5 j1)
 obtain ⟨u2,hu2',ru2⟩:=v2.get (aR5 j2)
 obtain ⟨x,hx,rx⟩:=r1.get (aR5 j1)
 obtain ⟨y,hy,ry⟩:=r2.get (aR5 j2)
 have e1:its.toArray[j]=u:=by
  rw [aR5 k1] at hu'
  simpa using hu'
 have e2:its2.toArray[j]=u2:=by
  rw [aR5 k2] at hu2'
  simpa using hu2'
 have ok':dM n x y=true:=by
  rw [bc5] at ok
  have hz:j < (xs.zip ys).length:=by simp; omega
  have:=ok _ (bc6 hz)
  rw [List.getElem_zip] at this
  rw [aR5 i1] at hx
  rw [aR5 i2] at hy
  cases hx; cases hy
  exact this
 rw [e1,e2]
 have g1:xs.getD j .non=x:=by rw [aT3,hx]; rfl
 have g2:ys.getD j .non=y:=by rw [aT3,hy]; rfl
 rw [g1,g2]
 exact B6 I n (by show A.units+1+n < cLine; omega) rx ry ru ru2 ok'
theorem as5 (n:Nat) (hu:X.A.units+(n+1) < cLine):c9 X (compareOp .Eq) (C2 X.K n false):=by
 intro pins s σ H v w a b Q I ra rb h
 obtain ⟨x,y,rx,ry,kd,o,q⟩:=h
 have hu0:X.A.units < cLine:=by omega
 rcases kd with ⟨xs,ys,rfl,rfl⟩ | ⟨xs,ys,rfl,rfl⟩ | ⟨xs,ys,rfl,rfl⟩
 ·obtain ⟨p,us,rfl,h1,r1⟩:=rx.sqT
  obtain ⟨p2,ws,rfl,h2,r2⟩:=ry.sqT
  cases ra; cases rb
  obtain ⟨its,v1,p1,_⟩:=I.tuple (aS.of (K:=X.K) h1)
  obtain ⟨its2,v2,p2',_⟩:=I.tuple (aS.of (K:=X.K) h2)
  have l1:=v1.length
  have l2:=v2.length
  have m1:=r1.length
  have m2:=r2.length
  have:=SeqAt.RcAt.tuples p1 p2' hu0 (uF I hu r1 r2 v1 v2 o)
  rw [aR8,aR8,<- l1,<- l2,m1,m2,m6] at this
  exact this _ _ _ _ ⟨.bl _,H,I,rfl,q⟩
 ·obtain ⟨p,us,rfl,_,h1,r1⟩:=rx.sqL
  obtain ⟨p2,ws,rfl,_,h2,r2⟩:=ry.sqL
  cases ra; cases rb
  obtain ⟨its,v1,p1,_⟩:=I.list (aW.of (K:=X.K) h1)
  obtain ⟨its2,v2,p2',_⟩:=I.list (aW.of (K:=X.K) h2)
  have l1:=v1.length
  have l2:=v2.length
  have m1:=r1.length
  have m2:=r2.length
  have q:Q (.bl ((xs.zip ys).all (fun p=>cH n p.1 p.2) && xs.length == ys.length)) H:=q
  by_cases hl:xs.length=ys.length
  ·have:=SeqAt.RcAt.lists p1.isList p2'.isList (by rw [aR8,aR8]; omega) hu0 (uF I hu r1 r2 v1 v2 o)
   have hm:min xs.length ys.length=its.length:=by omega
   rw [aR8,<- hm,m6] at this
   rw [show (xs.length == ys.length)=true by simpa using hl,Bool.and_true] at q
   exact this _ _ _ _ ⟨.bl _,H,I,rfl,q⟩
  ·have:=SeqAt.RcAt.lists_lengths (A:=X.A) p1.isList p2'.isList (by rw [aR8,aR8]; simp; omega) hu0
   rw [show (xs.length == ys.length)=false by simpa using hl,aU8] at q
   exact this _ _ _ _ ⟨.bl _,H,I,rfl,q⟩
 ·obtain ⟨p,us,rfl,h1,r1⟩:=rx.kt_
  obtain ⟨p2,ws,rfl,h2,r2⟩:=ry.kt_
  cases ra; cases rb
  obtain ⟨its,v1,p1,_⟩:=I.tuple (.inr h1)
  obtain ⟨its2,v2,p2',_⟩:=I.tuple (.inr h2)
  have l1:=v1.length
  have l2:=v2.length
  have m1:=r1.length
  have m2:=r2.length
  have:=SeqAt.RcAt.tuples p1 p2' hu0 (uF I hu r1 r2 v1 v2 o)
  rw [aR8,aR8,<- l1,<- l2,m1,m2,m6] at this
  exact this _ _ _ _ ⟨.bl _,H,I,rfl,q⟩
theorem as6 {n:Nat}{neg:Bool}:eI X (u6 n neg) (C2 X.K n neg):=by
 rintro W Hs H u v x y g g' Q Q' s n r1 r2 ⟨kd,o,q⟩ k
 exact⟨x,y,r1.same (aH.refl _) fun _ _=>trivial,r2.same (aH.refl _) fun _ _=>trivial,kd.elim .inl fun z=>.inr (.inl z),o,k _ _ _ .fr (aH.refl _) (.bl _) q⟩
theorem as7 (hu:X.A.units+3 < cLine) (ha:QE X a ta) (hb:QE X b tb):QE X (.Compare a [.Eq] [b] pos) (q2 (u6 2 false) ta tb):=kU (as5 2 hu) as6 ha hb (fD _)
end
end PP
namespace PP
open PySem L2 PyProof.Rows
def LO (X:Cx) (t:lU):TO:=fun σ H Q'=>∃ (W:Addr->Prop) (ρ:bH) (Q:Option Int->Prop),PX X.K X.H₀ W σ ρ H/\t ρ Q/\∀ o H',aH H H'->Q o->Q' o H'
def QO (X:Cx) (e:Option Expr) (t:lU):Prop:=PO X e (LO X t)
theorem Reps.cut {K:PySem.W.Frag}{M:Addr->Prop}{H:Hp}{us:List V}{xs:List PV} (r:Reps K M H us xs) (lo hi:Option Int):Reps K M H (gQ us lo hi) (iC xs lo hi):=by
 unfold gQ iC
 rw [r.length]
 exact (r.drop _).take _
section
variable {X : Cx} {a b c e o : Expr} {es cO : List Expr} {ta tb te to tk : aE} {tr : cV} {tA tB' tc : cJ} {pos p2 px : Pos} {st : Stmt} {sts : List Stmt} {t u : aV}
theorem uG:QO X none pM:=fun pins s σ H Q I h=>ag4 pins s σ H Q I (by
 obtain ⟨W,ρ,Q1,px,q,k⟩:=h
 exact k _ _ (aH.refl _) q)
theorem uH (h:QE X e te):QO X (some e) (pN te):=fun pins s σ H Q I hq=>ag5 h pins s σ H Q I (by
 obtain ⟨W,ρ,Q1,px,q,k⟩:=hq
 refine⟨W,ρ,_,px,q,?_⟩
 rintro v H1 x g s r ⟨i,rfl,q⟩
 cases r
 exact⟨i,rfl,k _ _ s q⟩)
theorem uI {lo hi:Option Expr}{tl th:lU}{sp:Pos} (he:QE X e te) (hl:QO X lo tl) (hh:QO X hi th):QE X (.Subscript e (.Slice lo hi none sp) pos) (pO te tl th):=cL (ag6 (ah8.or am8) he hl hh) fun σ H Q' h=>by
 obtain ⟨W,ρ,Q,px,q,k⟩:=h
 refine⟨W,ρ,_,px,q,fun v H1 x g s1 r1 q1=>⟨W,ρ,_,px.mono s1,q1,fun lo H2 s2 q2=>⟨W,ρ,_,px.mono (s1.trans s2),q2,?_⟩⟩⟩
 rintro hi H3 s3 ⟨xs,e,f,q3⟩
 have S:=(s1.trans s2).trans s3
 have r3:=r1.same (M':=Mg X.H₀ W H g) (s2.trans s3) fun _ z=>z
 cases r3 with
 | tup h r=>
  cases e
  refine .inr ⟨_,_,rfl,aS.of h,fun p hp=>k _ _ _ .fr (S.trans (cU hp _)) (.tup cS (((r.flat f).cut lo hi).same (cU hp _) fun _ z=>z)) q3,fun ec=>k _ _ _ .fr S (.tup h ?_) q3⟩
  have:=(r.flat (M':=Mg X.H₀ W H .fr) f).cut lo hi
  rw [ec] at this
  exact this
 | lst m h r=>
  cases e
  exact .inl ⟨_,_,rfl,aW.of h,fun p hp=>k _ _ _ .fr (S.trans (cU hp _)) (.lst (S.free hp) cS (((r.flat f).cut lo hi).same (cU hp _) fun _ z=>z)) q3⟩
 | scr h=>
  cases e
  exact .inl ⟨_,_,rfl,h.sqL,fun p hp=>k _ _ _ .fr (S.trans (cU hp _)) (.lst (S.free hp) cS (((Reps.intz _).cut lo hi).same (cU hp _) fun _ z=>z)) q3⟩
 | _=>cases e
structure Df (P:Program) (w:World) (K:PySem.W.Frag) (mg:Str->Option Value) (base:Heap) (k:Nat) (x:Str) (ps:List Str) (p:bZ):Prop where
 ex:∃ f fd,dO P w K mg base eR k f fd ps (nH K p)/\jJ K fd ps []/\PySem.W.keepIn K (.ref f)=true/\mg x=some (.ref f)
theorem bT {k j:Nat}{x:Str}{ps:List Str}{p:bZ} (d:Df X.prog X.w X.K X.mg X.base k x ps p) (hr:cD j X.A) (ha:QA X (e :: es) tr) (hkj:k<=j:=by decide) (hg:Gl X x:=by rfl) (hdb:(x == ("__debug__" : Str))=false:=by decide)
  (he:starEach (e :: es) X.env=(false,eval e X.env) :: starEach es X.env:=by rfl) (hpl:(backTo pos (starEach es X.env)).any (·.1)=false:=by rfl):QE X (.Call (.Name x p2) (e :: es) [] pos) (aM p tr):=by
 obtain ⟨f,fd,F,b,kp,m⟩:=d.ex
 exact cL (sP F (hr.mono hkj) hg m kp b .nil ak2 ha hdb he hpl) fun _ _ _=>ap8
theorem uJ {K:PySem.W.Frag}{H:Hp}{N:List Str}{vs:List V}{xs:List PV} (r:Reps K (fun _=>True) H vs xs):PX K H (fun _=>False) (L2.gH N vs) (fM N xs) H:=by
 have lr:=r.length
 have own:∀ {i:Nat}{m:Slot},(fM N xs)[i]? = some (some m)->∃ x,xs[i]? = some x/\m = .sh (flat x) x:=fun {i m} h=>by
  unfold fM at h
  by_cases hi:i < xs.length
  ·rw [bd3 (by simpa using hi),aT4] at h
   rw [aR5 hi] at h ⊢
   cases h
   exact⟨_,rfl,rfl⟩
  ·rw [bf0 (by simpa using hi),List.getElem?_replicate] at h
   split at h <;> cases h
 refine⟨by unfold L2.gH fM; simp [lr],aH.refl _,fun a z=>z.elim,fun i m h=>?_,fun i j x y a h1=>?_⟩
 ·obtain ⟨x,hx,rfl⟩:=own h
  obtain ⟨v,hv,rx⟩:=r.at hx
  refine⟨v,?_,jP (g:=false) (rx.same (aH.refl _) fun _ _ z=>z)⟩
  have hi:i < vs.length:=(aS0.mp hv).1
  unfold L2.gH
  rw [bd3 (by simpa using hi),aT4,hv]; rfl
 ·obtain ⟨x,_,e⟩:=own h1
  cases e
theorem Df.of {P:Program}{w:World}{K:PySem.W.Frag}{mg:Str->Option Value}{base:Heap}{k:Nat}{x:Str}{ps N:List Str}{p:bZ}{st:Stmt}{f:Addr}{fd:FuncData} (F:fY K x x st f fd) (m:mg x=some (.ref f)) (S:FnScope N ps (b7 st))
  (hb:∀ (kV doc pm:Value) (an:Option Addr) (cdv ct:Value) (us:List Value),us.length=ps.length->bindArgs (PySem.W.fnOf x x (iM st) (eF st) (b7 st) .none kV doc pm an cdv ct) ⟨us,[]⟩=pure (ps.zip us))
  (len:∀ xs Q,p xs Q->xs.length=ps.length)
  (body:∀ (cdv:Value) (A:Around) (outer:List Env) (s:Shared) (H:Hp) (E:XK),cD k (A.deeper (envOfC x (b7 st) s.heap.objs.size f cdv))->
   ∃ t,eV (dF eR P w K mg base N x (b7 st) f cdv A outer s H E).nox (eF st) t/\∀ xs Q,p xs Q->t { nx:=fun _=>Q .non,rt:=Q } (fM N xs)):Df P w K mg base (k+1) x ps p:=by
 refine⟨f,fd,F.ok S (fun vs H Q E h=>?_) (fun cdv A outer s H vs Q E hr h=>?_),F.binds hb,F.kp,m⟩
 ·obtain ⟨xs,Qp,r,q,_⟩:=h
  rw [r.length]; exact len xs Qp q
 ·obtain ⟨xs,Qp,r,q,k⟩:=h
  obtain ⟨t,ht,hq⟩:=body cdv A outer s H E hr
  refine⟨_,ht,fun _=>False,fM N xs,_,uJ r,hq xs Qp q,?_,?_,?_,?_⟩
  ·exact fun W' σ' H' ρ' e px q=>k _ _ _ px.same .non q
  ·exact fun v H' x s r q=>k _ _ _ s r q
  ·exact fun W' σ' H' ρ' e px q=>q
  ·exact fun W' σ' H' ρ' e px q=>q
theorem gY (i:Nat) {x:Str}{tp:Pos}{body:List Stmt}{ti:eU} (hN:X.N.Nodup) (hi:QI X (.Name x tp) e ti) (hb:eV X body t) (hx:X.N[i]? = some x:=by rfl) (hl:gE X.env.scope x:=by first | exact Or.inl rfl | exact Or.inr rfl) (hf:X.fn x=true ∨ X.env.scope.names.lookup x=some .local:=by first | exact .inl rfl | exact .inr rfl)
  (hp:PassesOwn (model X.prog X.w) X.A X.env X.xe:=by exact PassesOwn.never) (hc:X.calm=true:=by rfl) (hs:∀ x,foldedSetIterable e X.env x=pure x:=by intro _; rfl):QS X (.For (.Name x tp) e body [] pos) (eC ti (cY i) t):=
 B5 hp hc hi (gF hN hx hl hf) (pI _ i) hb hs
theorem C3 (i j:Nat) {x y:Str}{tp xp yp:Pos}{kt:Nat}{body:List Stmt}{ti:eU} (hN:X.N.Nodup) (hi:QI X (.Tuple [.Name x xp,.Name y yp] kt tp) e ti) (hb:eV X body t) (hx:X.N[i]? = some x:=by rfl) (hy:X.N[j]? = some y:=by rfl) (hlx:gE X.env.scope x:=by first | exact Or.inl rfl | exact Or.inr rfl) (hly:gE X.env.scope y:=by first | exact Or.inl rfl | exact Or.inr rfl)
  (hfx:X.fn x=true ∨ X.env.scope.names.lookup x=some .local:=by first | exact .inl rfl | exact .inr rfl) (hfy:X.fn y=true ∨ X.env.scope.names.lookup y=some .local:=by first | exact .inl rfl | exact .inr rfl)
  (hp:PassesOwn (model X.prog X.w) X.A X.env X.xe:=by exact PassesOwn.never) (hc:X.calm=true:=by rfl) (hs:∀ x,foldedSetIterable e X.env x=pure x:=by intro _; rfl):QS X (.For (.Tuple [.Name x xp,.Name y yp] kt tp) e body [] pos) (eC ti (gW i j) t):=
 B5 hp hc hi (oH hc (i6 (gF hN hx hlx hfx) (i6 (gF hN hy hly hfy) oG))) (tX _ i j) hb hs
abbrev dD:Value->Shared->Prop:=fun _ _=>False
section
variable {scope : Scope} {N : List Str} {fr : List (Option Nat)} {x y : Str} {tp xp yp : Pos} {kt : Nat} {iter elt : Expr} {ti : eU}
theorem uK {ifs:List Expr}{tcs:cJ} (he:∀ (s:Shared) (H:Hp) (C:Addr) (fp:List Addr),QE (cA X scope N s H C fp dD) elt te) (hi:∀ (s:Shared) (H:Hp) (C:Addr) (fp:List Addr),kJ (cA X scope N s H C fp dD) ifs (LT (cA X scope N s H C fp dD) tcs))
  (hN:N.Nodup) (h0:N[0]? = some x) (hl:∀ (s:Shared) (H:Hp) (C:Addr) (fp:List Addr),(cA X scope N s H C fp dD).env.scope.names.lookup x=some .local) (s:Shared) (H:Hp) :
  nC X scope N (.Name x tp) ifs elt s H (dB 0) (LT (X.frm H) tcs) (LE (X.frm H) te):=
 ⟨fun C fp=>gF (X:=cA X scope N s H C fp dD) hN h0 (.inl (hl s H C fp)) (.inr (hl s H C fp)),fun C fp=>hi s H C fp,fun C fp=>he s H C fp⟩
theorem C4 {Y:Cx}:kJ Y [] (LT Y iB):=fun pins s σ H Q I h=>ak8 pins s σ H Q I (aq6 h)
theorem as8 (hi:QI X (.Name x tp) iter ti) (he:∀ (s:Shared) (H:Hp) (C:Addr) (fp:List Addr),QE (cA X scope N s H C fp dD) elt te)
  (hc:X.calm=true:=by rfl) (S:eG X scope N fr:=by exact eG.of rfl rfl) (hN:N.Nodup:=by decide +kernel) (h0:N[0]? = some x:=by rfl) (hl:∀ (s:Shared) (H:Hp) (C:Addr) (fp:List Addr),(cA X scope N s H C fp dD).env.scope.names.lookup x=some .local:=by intro _ _ _ _; rfl) (hf:fr[0]? = some none:=by rfl)
  (hs:∀ x,foldedSetIterable iter X.env x=pure x:=by intro _; rfl):QE X (.ListComp elt [⟨.Name x tp,iter,[],0⟩] scope pos) (gX ti fr (cY 0) iB te):=
 cL (tD (gh:=fun _=>dB 0) (tch:=fun H=>LT (X.frm H) iB) (teh:=fun H=>LE (X.frm H) te) hc S hi (uK he (fun _ _ _ _=>C4) hN h0 hl) hs) fun _ _ _=>pJ (pI _ 0) (fun i e=>by subst e; exact hf)
theorem as9 {c:Expr}{tcs:cJ} (hi:QI X (.Name x tp) iter ti) (ht:∀ (s:Shared) (H:Hp) (C:Addr) (fp:List Addr),QT (cA X scope N s H C fp dD) c tcs) (he:∀ (s:Shared) (H:Hp) (C:Addr) (fp:List Addr),QE (cA X scope N s H C fp dD) elt te)
  (hc:X.calm=true:=by rfl) (S:eG X scope N fr:=by exact eG.of rfl rfl) (hN:N.Nodup:=by decide +kernel) (h0:N[0]? = some x:=by rfl) (hl:∀ (s:Shared) (H:Hp) (C:Addr) (fp:List Addr),(cA X scope N s H C fp dD).env.scope.names.lookup x=some .local:=by intro _ _ _ _; rfl) (hf:fr[0]? = some none:=by rfl)
  (hs:∀ x,foldedSetIterable iter X.env x=pure x:=by intro _; rfl):QE X (.ListComp elt [⟨.Name x tp,iter,[c],0⟩] scope pos) (gX ti fr (cY 0) tcs te):=
 cL (tD (gh:=fun _=>dB 0) (tch:=fun H=>LT (X.frm H) tcs) (teh:=fun H=>LE (X.frm H) te) hc S hi (uK he (fun s H C fp=>yU (ht s H C fp)) hN h0 hl) hs) fun _ _ _=>pJ (pI _ 0) (fun i e=>by subst e; exact hf)
theorem C5 {c:Expr}{tcs:cJ}{i:Nat}{z:Str}{zp:Pos} (nd:X.N.Nodup) (hi:QI X (.Name x tp) iter ti) (ht:∀ (s:Shared) (H:Hp) (C:Addr) (fp:List Addr),QT (cA X scope N s H C fp dD) c tcs) (he:∀ (s:Shared) (H:Hp) (C:Addr) (fp:List Addr),QE (cA X scope N s H C fp dD) elt te)
  (hz:X.N[i]? = some z:=by rfl) (hzl:X.env.scope.names.lookup z=some .local:=by rfl) (hsw:swapsWith (.ListComp elt [⟨.Name x tp,iter,[c],0⟩] scope p2) (some (.Name z zp)) pos.line X.env=pure true:=by rfl)
  (hc:X.calm=true:=by rfl) (S:eG X scope N fr:=by exact eG.of rfl rfl) (hN:N.Nodup:=by decide +kernel) (h0:N[0]? = some x:=by rfl) (hl:∀ (s:Shared) (H:Hp) (C:Addr) (fp:List Addr),(cA X scope N s H C fp dD).env.scope.names.lookup x=some .local:=by intro _ _ _ _; rfl) (hf:fr[0]? = some none:=by rfl)
  (hs:∀ x,foldedSetIterable iter X.env x=pure x:=by intro _; rfl):QS X (.Assign [.Name z zp] (.ListComp elt [⟨.Name x tp,iter,[c],0⟩] scope p2) pos) (bC i (gX ti fr (cY 0) tcs te)):=
 eM (al2 (gh:=fun _=>dB 0) (tch:=fun H=>LT (X.frm H) tcs) (teh:=fun H=>LE (X.frm H) te) hc S hi (uK he (fun s H C fp=>yU (ht s H C fp)) hN h0 hl) nd hz hzl hsw hs) fun D σ H h=>pJ (pI _ 0) (fun i e=>by subst e; exact hf) (zM h)
end
end
end PP
namespace SO
open PySem PyProof.Rows
section
variable (rk : Keyed → Int)
def Kr (xs:Array Keyed) (i:Nat):Int:=((xs[i]?).map rk).getD 0
def Up (xs:Array Keyed) (lo hi:Nat):Prop:=∀ i j,lo<=i->i<=j->j < hi->Kr rk xs i<=Kr rk xs j
def Dn (xs:Array Keyed) (lo hi:Nat):Prop:=∀ i j,lo<=i->i<=j->j < hi->Kr rk xs j<=Kr rk xs i
end
variable {rk : Keyed → Int}
theorem kZ {xs ys:Array Keyed}{i j:Nat} (h:xs[i]? = ys[j]?):Kr rk xs i=Kr rk ys j:=by unfold Kr; rw [h]
theorem pV {xs:Array Keyed}{i j:Nat} (hj:j<=xs.size) (k:Nat):Kr rk (mirror xs i j ((j - i) / 2)) k=Kr rk xs (if i<=k/\k < j then i+j - 1 - k else k):=by
 refine kZ ?_
 rw [getElem?_mirror_all hj]
 split <;> rfl
theorem uL {xs:Array Keyed}{i j:Nat} (hj:j<=xs.size) (e:∀ k,i<=k->k < j->Kr rk xs k=Kr rk xs (j - 1)) (k:Nat):Kr rk (mirror xs i j ((j - i) / 2)) k=Kr rk xs k:=by
 rw [pV hj]
 split
 ·rename_i h; rw [e k h.1 h.2,e _ (by omega) (by omega)]
 ·rfl
theorem at0 {xs:Array Keyed}{src d:Nat} (hs:src < xs.size) (hd:d<=src) (k:Nat):Kr rk (bubble xs src d) k=Kr rk xs (if k=src - d then src else if src - d < k/\k<=src then k - 1 else k):=by
 refine kZ ?_
 rw [getElem?_bubble hs d hd]
 repeat' split
 all_goals rfl
structure SB (κ:SortKind) (a0:Array Keyed) (pd:Array (Nat × Nat × Nat)) (st:SortSt):Prop where
 pm:(arrOf st).Perm a0
 kd:kindOf st=κ
 ok:failedOf st=none
 pd:pendingOf st=pd
section
variable {κ : SortKind} {a0 : Array Keyed} {pd : Array (Nat × Nat × Nat)} {st : SortSt} {prog : Program} {w : World} {A : Around} {E : Value → Shared → Prop} {s : Shared} {Ok : Keyed → Prop}
theorem SB.sz (h:SB κ a0 pd st):(arrOf st).size=a0.size:=h.pm.size_eq
theorem SB.put (h:SB κ a0 pd st) {xs:Array Keyed} (hp:xs.Perm (arrOf st)):SB κ a0 pd (setArr st xs):=⟨hp.trans h.pm,h.kd,h.ok,h.pd⟩
def cE (prog:Program) (w:World) (A:Around) (E:Value->Shared->Prop) (s:Shared) (κ:SortKind) (Ok:Keyed->Prop) (rk:Keyed->Int):Prop:=
 ∀ (x y:Keyed),Ok x->Ok y->∀ (st:SortSt) (Q:Option Bool->SortSt->Prop),kindOf st=κ->Q (some (decide (rk x < rk y))) st->wpS (model prog w) A E s (lt' x y) Q st
def bK (Ok:Keyed->Prop) (xs:Array Keyed):Prop:=∀ x ∈ xs,Ok x
theorem SB.all (h:SB κ a0 pd st) (o:bK Ok a0):bK Ok (arrOf st):=fun x hx=>o x (h.pm.mem_iff.mp hx)
theorem cZ {xs:Array Keyed}{i:Nat}{Q:Keyed->SortSt->Prop} (hi:i < xs.size) (h:Q xs[i] st):wpS (model prog w) A E s (elem' xs i) Q st:=by
 rw [elem'_eq,getElem?_pos xs i hi]; exact aS9 h
theorem c8 {xs:Array Keyed}{i:Nat} (hi:i < xs.size):Kr rk xs i=rk xs[i]:=by unfold Kr; rw [getElem?_pos xs i hi]; rfl
theorem nR (c:cE prog w A E s κ Ok rk) (o:bK Ok a0) (b:SB κ a0 pd st) {i j:Nat}{Q:Option Bool->SortSt->Prop} (hi:i < a0.size) (hj:j < a0.size)
  (h:Q (some (decide (Kr rk (arrOf st) i < Kr rk (arrOf st) j))) st):wpS (model prog w) A E s (ltAt' i j) Q st:=by
 have hi':i < (arrOf st).size:=by rw [b.sz]; exact hi
 have hj':j < (arrOf st).size:=by rw [b.sz]; exact hj
 rw [ltAt'_eq]
 refine aS3 (wpS_get (aS3 (cZ hi' (aS3 (cZ hj' ?_)))))
 refine c _ _ (b.all o _ (aV2 hi')) (b.all o _ (aV2 hj')) st Q b.kd ?_
 rw [<- c8 (rk:=rk) hi',<- c8 (rk:=rk) hj']; exact h
theorem pW {i j:Nat}{Q:Unit->SortSt->Prop} (h:Q () (setArr st (mirror (arrOf st) i j ((j - i) / 2)))):wpS (model prog w) A E s (reverseSlice' i j) Q st:=by
 rw [reverseSlice'_eq]; exact wpS_modify h
abbrev CS:=Option (Option Nat) × Nat
abbrev DS:=Option (Option Nat) × Nat × Nat
def nT (lo b nrem:Nat):StateT SortSt Sem CS:=forIn [b:nrem] ((none,b):CS) fun _ r=>do
 match <- ltAt' (lo+r.2) (lo+r.2 - 1) with
 | some q=>if q=true then pure (ForInStep.done (none,r.2)) else pure (ForInStep.yield (none,r.2+1))
 | _=>pure (ForInStep.done (some none,r.2))
def uM (lo b nrem:Nat):StateT SortSt Sem DS:=forIn [b:nrem] ((none,b,0):DS) fun _ r=>do
 match <- ltAt' (lo+r.2.1) (lo+r.2.1 - 1) with
 | some q=>
  if q=true then (if r.2.2 > 0 then do reverseSlice' (lo+r.2.1 - (r.2.2+1)) (lo+r.2.1); pure (ForInStep.yield (none,r.2.1+1,0)) else pure (ForInStep.yield (none,r.2.1+1,0)))
  else do
   match <- ltAt' (lo+r.2.1 - 1) (lo+r.2.1) with
   | some q=>if q=true then pure (ForInStep.done (none,r.2.1,r.2.2)) else pure (ForInStep.yield (none,r.2.1+1,r.2.2+1))
   | _=>pure (ForInStep.done (some none,r.2.1,r.2.2))
 | _=>pure (ForInStep.done (some none,r.2.1,r.2.2))
theorem C6 (c:cE prog w A E s κ Ok rk) (o:bK Ok a0) (b:SB κ a0 pd st) {lo n nrem:Nat}{Q:CS->SortSt->Prop} (hz:lo+nrem<=a0.size) (h1:1<=n) (hn:n<=nrem) (u:Up rk (arrOf st) lo (lo+n))
  (h:∀ m,n<=m->m<=nrem->Up rk (arrOf st) lo (lo+m)->(m=nrem ∨ Kr rk (arrOf st) (lo+m) < Kr rk (arrOf st) (lo+m - 1))->Q (none,m) st):wpS (model prog w) A E s (nT lo n nrem) Q st:=by
 unfold nT
 refine aZ4 (I:=fun x r st'=>st'=st/\r=(none,x)/\Up rk (arrOf st) lo (lo+x)) ?_ ?_ ⟨rfl,rfl,u⟩
 ·rintro x r st' hx hx' ⟨rfl,rfl,u'⟩
  refine aS3 (nR c o b (by omega) (by omega) ?_)
  by_cases hq:Kr rk (arrOf st') (lo+x) < Kr rk (arrOf st') (lo+x - 1)
  ·rw [aR3 hq]
   exact aS9 (h x hx (by omega) u' (.inr hq))
  ·rw [aR2 hq]
   refine aS9 ⟨rfl,rfl,fun i j hi hij hj=>?_⟩
   rcases aV9 j (lo+x) with z | z
   ·exact u' i j hi hij z
   ·have ej:j=lo+x:=by omega
    subst ej
    rcases bf2 hij with z | z
    ·rw [z]; exact aR6 _
    ·have:=u' i (lo+x - 1) hi (by omega) (by omega)
     omega
 ·rintro r st' ⟨rfl,rfl,u'⟩
  have em:max n nrem=nrem:=by omega
  rw [em] at u' ⊢
  exact h nrem hn (aS4 _) u' (.inl rfl)
structure nU (rk:Keyed->Int) (xs ys:Array Keyed) (lo m q:Nat):Prop where
 dn:Dn rk ys lo (lo+m)
 le:q+1<=m
 eq:∀ i,lo+m - (q+1)<=i->i < lo+m->Kr rk ys i=Kr rk ys (lo+m - 1)
 low:∀ i,i < lo->Kr rk ys i=Kr rk xs i
theorem at2 (c:cE prog w A E s κ Ok rk) (o:bK Ok a0) (b:SB κ a0 pd st) {lo n nrem:Nat}{xs:Array Keyed}{Q:DS->SortSt->Prop} (hz:lo+nrem<=a0.size) (h1:1<=n) (hn:n<=nrem) (u:nU rk xs (arrOf st) lo n 0)
  (h:∀ m q st',SB κ a0 pd st'->n<=m->m<=nrem->nU rk xs (arrOf st') lo m q->Q (none,m,q) st'):wpS (model prog w) A E s (uM lo n nrem) Q st:=by
 unfold uM
 refine aZ4 (I:=fun x r st'=>∃ q,r=(none,x,q)/\SB κ a0 pd st'/\nU rk xs (arrOf st') lo x q) ?_ ?_ ⟨0,rfl,b,u⟩
 ·rintro x r st' hx hx' ⟨q,rfl,b',f⟩
  have sz:=b'.sz
  dsimp only
  refine aS3 (nR c o b' (by omega) (by omega) ?_)
  by_cases hq:Kr rk (arrOf st') (lo+x) < Kr rk (arrOf st') (lo+x - 1)
  ·rw [aR3 hq]
   have nx:∀ ys:Array Keyed,(∀ k,Kr rk ys k=Kr rk (arrOf st') k)->nU rk xs ys lo (x+1) 0:=fun ys e=>by
    refine⟨fun i j hi hij hj=>?_,by omega,fun i h1 h2=>by rw [show i=lo+(x+1) - 1 by omega],fun i hi=>(e i).trans (f.low i hi)⟩
    rw [e,e]
    rcases aV9 j (lo+x) with z | z
    ·exact f.dn i j hi hij z
    ·have ej:j=lo+x:=by omega
     subst ej
     rcases bf2 hij with z | z
     ·rw [z]; exact aR6 _
     ·have:=f.dn i (lo+x - 1) hi (by omega) (by omega)
      omega
   dsimp only
   rw [if_pos rfl]
   by_cases hp:q > 0
   ·rw [if_pos hp]
    exact aS3 (pW (aS9 ⟨0,rfl,b'.put (mirror_perm _ _ _ _),nx _ (uL (by omega) f.eq)⟩))
   ·rw [if_neg hp]
    exact aS9 ⟨0,rfl,b',nx _ fun _=>rfl⟩
  ·rw [aR2 hq]
   dsimp only
   rw [if_neg aT5]
   refine aS3 (nR c o b' (by omega) (by omega) ?_)
   by_cases hl:Kr rk (arrOf st') (lo+x - 1) < Kr rk (arrOf st') (lo+x)
   ·rw [aR3 hl]
    exact aS9 (h x q st' b' hx (by omega) f)
   ·rw [aR2 hl]
    have ex:Kr rk (arrOf st') (lo+x)=Kr rk (arrOf st') (lo+x - 1):=by omega
    refine aS9 ⟨q+1,rfl,b',fun i j hi hij hj=>?_,by have:=f.le; omega,fun i h1 h2=>?_,f.low⟩
    ·rcases aV9 j (lo+x) with z | z
     ·exact f.dn i j hi hij z
     ·have ej:j=lo+x:=by omega
      subst ej
      rcases bf2 hij with z | z
      ·rw [z]; exact aR6 _
      ·rw [ex]; exact f.dn i (lo+x - 1) hi (by omega) (by omega)
    ·rw [show lo+(x+1) - 1=lo+x by omega]
     rcases aV9 i (lo+x) with z | z
     ·rw [ex]; exact f.eq i (by omega) z
     ·rw [show i=lo+x by omega]
 ·rintro r st' ⟨q,rfl,b',f⟩
  have em:max n nrem=nrem:=by omega
  rw [em] at f ⊢
  exact h nrem q st' b' hn (aS4 _) f
theorem C7 (c:cE prog w A E s κ Ok rk) (o:bK Ok a0) (b:SB κ a0 pd st) {lo nrem:Nat} (n:Nat) {xs:Array Keyed}{Q:Option Nat->SortSt->Prop}{K:DS->StateT SortSt Sem (Option Nat)}{k:CS->StateT SortSt Sem (Option Nat)} (hz:lo+nrem<=a0.size) (hn:n+1<=nrem)
  (hK:∀ m q,K (none,m,q)=if q > 0 then reverseSlice' (lo+m - (q+1)) (lo+m) >>= fun _=>reverseSlice' lo (lo+m) >>= fun _=>nT lo m nrem >>= k else reverseSlice' lo (lo+m) >>= fun _=>nT lo m nrem >>= k)
  (hk:∀ m,k (none,m)=pure (some m)) (u:nU rk xs (arrOf st) lo (n+1) 0)
  (h:∀ m st',SB κ a0 pd st'->1<=m->m<=nrem->Up rk (arrOf st') lo (lo+m)->(∀ i,i < lo->Kr rk (arrOf st') i=Kr rk xs i)->Q (some m) st'):wpS (model prog w) A E s (liftM (rule "list.sort.descending-run") >>= fun _=>uM lo (n+1) nrem >>= K) Q st:=by
 refine aS3 (wpS_lift (be5 ⟨rfl,?_⟩))
 refine aS3 (at2 c o b hz (by omega) hn u fun m q st1 b1 m1 m2 f=>?_)
 have fin:∀ st2:SortSt,SB κ a0 pd st2->(∀ k,Kr rk (arrOf st2) k=Kr rk (arrOf st1) k)->
   wpS (model prog w) A E s (reverseSlice' lo (lo+m) >>= fun _=>nT lo m nrem >>= k) Q st2:=fun st2 b2 e=>by
  have sz:=b2.sz
  have low:∀ i,i < lo->Kr rk (mirror (arrOf st2) lo (lo+m) ((lo+m - lo) / 2)) i=Kr rk xs i:=fun i hi=>by
   rw [pV (by omega),if_neg (by omega),e]
   exact f.low i hi
  refine aS3 (pW (aS3 (C6 (κ:=κ) c o (b2.put (mirror_perm _ _ _ _)) hz (by omega) m2 ?_ fun m' h1 h2 up _=>by rw [hk]; exact aS9 (h m' _ (b2.put (mirror_perm _ _ _ _)) (by omega) h2 up low))))
  ·intro i j hi hij hj
   show Kr rk (mirror (arrOf st2) lo (lo+m) _) i<=Kr rk (mirror (arrOf st2) lo (lo+m) _) j
   rw [pV (by omega),pV (by omega),if_pos (by omega),if_pos (by omega),e,e]
   exact f.dn _ _ (by omega) (by omega) (by omega)
 rw [hK]
 by_cases hp:q > 0
 ·rw [if_pos hp]
  have sz:=b1.sz
  exact aS3 (pW (fin _ (b1.put (mirror_perm _ _ _ _)) (uL (by omega) f.eq)))
 ·rw [if_neg hp]
  exact fin st1 b1 fun _=>rfl
theorem at3 (c:cE prog w A E s κ Ok rk) (o:bK Ok a0) (b:SB κ a0 pd st) {lo nrem:Nat}{Q:Option Nat->SortSt->Prop} (hz:lo+nrem<=a0.size) (h1:1<=nrem)
  (h:∀ m st',SB κ a0 pd st'->1<=m->m<=nrem->Up rk (arrOf st') lo (lo+m)->(∀ i,i < lo->Kr rk (arrOf st') i=Kr rk (arrOf st) i)->Q (some m) st'):wpS (model prog w) A E s (countRun' lo nrem) Q st:=by
 rw [countRun'_eq]
 refine aS3 (C6 (n:=1) c o b hz (aS4 _) h1 (fun i j hi hij hj=>by rw [show i=j by omega]; exact aR6 _) fun n n1 n2 un on=>?_)
 dsimp only
 by_cases en:(n == nrem)=true
 ·rw [if_pos en]
  exact aS9 (h n st b n1 n2 un fun _ _=>rfl)
 ·rw [if_neg en]
  have en':n ≠ nrem:=by simpa using en
  have lt:=on.resolve_left en'
  have sz:=b.sz
  by_cases g:n > 1
  ·rw [if_pos g]
   refine aS3 (nR c o b (by omega) (by omega) ?_)
   by_cases hq:Kr rk (arrOf st) lo < Kr rk (arrOf st) (lo+n - 1)
   ·rw [aR3 hq]
    exact aS9 (h n st b n1 n2 un fun _ _=>rfl)
   ·rw [aR2 hq]
    dsimp only
    rw [if_neg aT5]
    have all:∀ k,lo<=k->k < lo+n->Kr rk (arrOf st) k=Kr rk (arrOf st) (lo+n - 1):=fun k k1 k2=>by
     have a1:=un lo k (aS4 _) k1 k2
     have a2:=un k (lo+n - 1) k1 (by omega) (by omega)
     omega
    have sm:=uL (rk:=rk) (xs:=arrOf st) (i:=lo) (j:=lo+n) (by omega) all
    refine aS3 (pW (C7 (xs:=arrOf st) (κ:=κ) c o (b.put (mirror_perm _ _ _ _)) n hz (by omega) (fun _ _=>rfl) (fun _=>rfl) ⟨fun i j hi hij hj=>?_,by omega,fun i h1 h2=>by rw [show i=lo+(n+1) - 1 by omega],fun i _=>sm i⟩ h))
    show Kr rk (mirror (arrOf st) lo (lo+n) _) j<=Kr rk (mirror (arrOf st) lo (lo+n) _) i
    rw [sm,sm]
    rcases aV9 j (lo+n) with z | z
    ·rw [all i hi (by omega),all j (by omega) z]; exact aR6 _
    ·have ej:j=lo+n:=by omega
     subst ej
     rcases bf2 hij with z | z
     ·rw [z]; exact aR6 _
     ·rw [all i hi (by omega)]; exact Int.le_of_lt lt
  ·rw [if_neg g]
   have e1:n=1:=by omega
   subst e1
   refine C7 (xs:=arrOf st) c o b 1 hz (by omega) (fun _ _=>rfl) (fun _=>rfl) ⟨fun i j hi hij hj=>?_,by omega,fun i h1 h2=>by rw [show i=lo+(1+1) - 1 by omega],fun i _=>rfl⟩ h
   rcases bf2 hij with z | z
   ·rw [z]; exact aR6 _
   ·have ei:i=lo+1 - 1:=by omega
    have ej:j=lo+1:=by omega
    rw [ei,ej]; exact Int.le_of_lt lt
theorem at4 (c:cE prog w A E s κ Ok rk) (o:bK Ok a0) (b:SB κ a0 pd st) {lo n q:Nat}{Q:Bool->SortSt->Prop} (hz:lo+n<=a0.size) (hq:q<=n) (u:Up rk (arrOf st) lo (lo+q))
  (h:∀ st',SB κ a0 pd st'->Up rk (arrOf st') lo (lo+n)->(∀ i,i < lo->Kr rk (arrOf st') i=Kr rk (arrOf st) i)->Q true st'):wpS (model prog w) A E s (binarySort' lo n q) Q st:=by
 rw [binarySort'_eq]
 refine aS3 (bg2 (aZ4 (I:=fun k r st'=>r=(none,())/\SB κ a0 pd st'/\Up rk (arrOf st') lo (lo+min k n)/\∀ i,i < lo->Kr rk (arrOf st') i=Kr rk (arrOf st) i)
  (Q:=fun r st'=>r=(none,())/\SB κ a0 pd st'/\Up rk (arrOf st') lo (lo+n)/\∀ i,i < lo->Kr rk (arrOf st') i=Kr rk (arrOf st) i) ?_ ?_ ?_) ?_)
 ·rintro k r st1 hk hkn ⟨rfl,b1,u1,l1⟩
  rw [show min k n=k by omega] at u1
  have hk0:lo+k < a0.size:=by omega
  have sz:=b1.sz
  refine aS3 (bg2 (aZ4 (I:=fun x r st'=>st'=st1/\∃ l g,r=(none,l,g)/\l<=g/\g<=k/\g - l<=k - x/\(∀ i,i < l->Kr rk (arrOf st1) (lo+i)<=Kr rk (arrOf st1) (lo+k))/\∀ i,g<=i->i < k->Kr rk (arrOf st1) (lo+k) < Kr rk (arrOf st1) (lo+i))
   (Q:=fun r st'=>st'=st1/\∃ l g,r=(none,l,g)/\l<=k/\(∀ i,i < l->Kr rk (arrOf st1) (lo+i)<=Kr rk (arrOf st1) (lo+k))/\∀ i,l<=i->i < k->Kr rk (arrOf st1) (lo+k) < Kr rk (arrOf st1) (lo+i)) ?_ ?_ ?_) ?_)
  ·rintro x r st2 _ hx ⟨rfl,l,g,rfl,d1,d2,d3,f1,f2⟩
   dsimp only
   by_cases hlg:l >= g
   ·rw [if_pos hlg]
    have e:g=l:=by omega
    subst e
    exact aS9 ⟨rfl,g,g,rfl,d2,f1,f2⟩
   ·rw [if_neg hlg]
    refine aS3 (nR c o b1 hk0 (by omega) ?_)
    by_cases hc:Kr rk (arrOf st2) (lo+k) < Kr rk (arrOf st2) (lo+(l+g) / 2)
    ·rw [aR3 hc]
     refine aS9 ⟨rfl,l,(l+g) / 2,rfl,by omega,by omega,by omega,f1,fun i i1 i2=>?_⟩
     have:=u1 (lo+(l+g) / 2) (lo+i) (by omega) (by omega) (by omega)
     omega
    ·rw [aR2 hc]
     refine aS9 ⟨rfl,(l+g) / 2+1,g,rfl,by omega,d2,by omega,fun i i1=>?_,f2⟩
     have:=u1 (lo+i) (lo+(l+g) / 2) (by omega) (by omega) (by omega)
     omega
  ·rintro r st2 ⟨rfl,l,g,rfl,d1,d2,d3,f1,f2⟩
   have e:g=l:=by omega
   subst e
   exact⟨rfl,g,g,rfl,d2,f1,f2⟩
  ·exact⟨rfl,0,k,rfl,by omega,by omega,by omega,fun i hi=>absurd hi (by omega),fun i i1 i2=>absurd i1 (by omega)⟩
  ·rintro r st2 ⟨rfl,l,g,rfl,d,f1,f2⟩
   dsimp only
   rw [moveDown'_eq]
   have kb:∀ i,Kr rk (bubble (arrOf st2) (lo+k) (lo+k - (lo+l))) i=Kr rk (arrOf st2) (if i=lo+l then lo+k else if lo+l < i/\i<=lo+k then i - 1 else i):=fun i=>by
    rw [at0 (by omega) (by omega),show lo+k - (lo+k - (lo+l))=lo+l by omega]
   refine aS3 (wpS_modify (aS9 ⟨rfl,b1.put (bubble_perm _ _ _),fun i j hi hij hj=>?_,fun i hi=>?_⟩))
   ·show Kr rk (bubble (arrOf st2) (lo+k) (lo+k - (lo+l))) i<=Kr rk (bubble (arrOf st2) (lo+k) (lo+k - (lo+l))) j
    rw [kb,kb]
    rw [show min (k+1) n=k+1 by omega] at hj
    have v1:∀ p,lo<=p->p < lo+l->Kr rk (arrOf st2) p<=Kr rk (arrOf st2) (lo+k):=fun p p1 p2=>by have:=f1 (p - lo) (by omega); rwa [show lo+(p - lo)=p by omega] at this
    have v2:∀ p,lo+l<=p->p < lo+k->Kr rk (arrOf st2) (lo+k) < Kr rk (arrOf st2) p:=fun p p1 p2=>by have:=f2 (p - lo) (by omega) (by omega); rwa [show lo+(p - lo)=p by omega] at this
    repeat' split
    all_goals first
     | (exfalso; omega)
     | exact aR6 _
     | exact v1 _ (by omega) (by omega)
     | exact Int.le_of_lt (v2 _ (by omega) (by omega))
     | exact u1 _ _ (by omega) (by omega) (by omega)
   ·show Kr rk (bubble (arrOf st2) (lo+k) (lo+k - (lo+l))) i=_
    rw [kb,if_neg (by omega),if_neg (by omega)]
    exact l1 i hi
 ·rintro r st1 ⟨rfl,b1,u1,l1⟩
  rw [show min (max (max q 1) n) n=n by omega] at u1
  exact⟨rfl,b1,u1,l1⟩
 ·refine⟨rfl,b,fun i j hi hij hj=>?_,fun _ _=>rfl⟩
  rcases aV9 j (lo+q) with z | z
  ·exact u i j hi hij z
  ·rw [show i=j by omega]; exact aR6 _
 ·rintro r st1 ⟨rfl,b1,u1,l1⟩
  exact aS9 (h st1 b1 u1 l1)
end
def jX:Bool->Keyed->Array Keyed->Nat->Nat->Nat->StateT SortSt Sem (Option Nat):=sortPriv% PySem.Builtin.gallop
def l0 (lf:Bool) (key:Keyed) (xs:Array Keyed) (bs i:Nat):StateT SortSt Sem (Option Bool):=do
 let z <- elem' xs (bs+i)
 if lf then lt' z key else return (<- lt' key z).map (!·)
theorem at5 (lf:Bool) (key:Keyed) (xs:Array Keyed) (bs n h:Nat):jX lf key xs bs n h=(do
 let mut la:=0
 let mut of:=1
 let mut l:=0
 let mut g:=0
 let some rt <- l0 lf key xs bs h | return none
 if rt then
  let mx:=n - h
  for _ in [0:n] do
   if of >= mx then break
   let some mr <- l0 lf key xs bs (h+of) | return none
   if !mr then break
   la:=of
   of:=2 * of+1
  l:=h+la+1
  g:=h+min of mx
 else
  let mx:=h+1
  for _ in [0:n] do
   if of >= mx then break
   let some fd <- l0 lf key xs bs (h - of) | return none
   if fd then break
   la:=of
   of:=2 * of+1
  l:=h+1 - min of mx
  g:=h - la
 for _ in [0:n] do
  if l >= g then break
  let m:=l+(g - l) / 2
  let some mr <- l0 lf key xs bs m | return none
  if mr then l:=m+1 else g:=m
 return some g):=rfl
section
variable {rk : Keyed → Int} {κ : SortKind} {st : SortSt} {prog : Program} {w : World} {A : Around} {E : Value → Shared → Prop} {s : Shared} {Ok : Keyed → Prop}
def bU (rk:Keyed->Int) (lf:Bool) (key:Keyed) (xs:Array Keyed) (bs i:Nat):Bool:=if lf then decide (Kr rk xs (bs+i) < rk key) else decide (Kr rk xs (bs+i)<=rk key)
theorem pX (c:cE prog w A E s κ Ok rk) (hk:kindOf st=κ) {lf:Bool}{key:Keyed}{xs:Array Keyed}{bs i:Nat}{Q:Option Bool->SortSt->Prop} (ok:Ok key) (o:bK Ok xs) (hi:bs+i < xs.size)
  (h:Q (some (bU rk lf key xs bs i)) st):wpS (model prog w) A E s (l0 lf key xs bs i) Q st:=by
 unfold l0
 refine aS3 (cZ hi ?_)
 unfold bU at h
 rw [c8 hi] at h
 cases lf with
 | true=>
  simp only [if_true] at h ⊢
  exact c _ _ (o _ (aV2 hi)) ok st Q hk h
 | false=>
  simp only [aT7,aZ0] at h ⊢
  refine aS3 (c _ _ ok (o _ (aV2 hi)) st _ hk (aS9 ?_))
  have e:(!decide (rk key < rk xs[bs+i]))=decide (rk xs[bs+i]<=rk key):=by
   by_cases z:rk xs[bs+i]<=rk key
   ·rw [aR3 z,aR2 (by omega)]; rfl
   ·rw [aR2 z,aR3 (by omega)]; rfl
  show Q (some (!decide (rk key < rk xs[bs+i]))) st
  rw [e]; exact h
abbrev GS:=Option (Option Nat) × Nat × Nat
def C8 (lf:Bool) (key:Keyed) (xs:Array Keyed) (bs n l g:Nat):StateT SortSt Sem GS:=forIn [0:n] ((none,l,g):GS) fun _ r=>
 if r.2.1 >= r.2.2 then pure (ForInStep.done (none,r.2.1,r.2.2)) else do
  match <- l0 lf key xs bs (r.2.1+(r.2.2 - r.2.1) / 2) with
  | some q=>if q=true then pure (ForInStep.yield (none,r.2.1+(r.2.2 - r.2.1) / 2+1,r.2.2)) else pure (ForInStep.yield (none,r.2.1,r.2.1+(r.2.2 - r.2.1) / 2))
  | _=>pure (ForInStep.done (some none,r.2.1,r.2.2))
theorem C9 (c:cE prog w A E s κ Ok rk) (hk:kindOf st=κ) {lf:Bool}{key:Keyed}{xs:Array Keyed}{bs n l g:Nat}{Q:GS->SortSt->Prop} (ok:Ok key) (o:bK Ok xs) (hz:bs+n<=xs.size)
  (mono:∀ i j,i<=j->j < n->bU rk lf key xs bs j=true->bU rk lf key xs bs i=true) (hlg:l<=g) (hg:g<=n) (h1:∀ i,i < l->bU rk lf key xs bs i=true) (h2:∀ i,g<=i->i < n->bU rk lf key xs bs i=false)
  (hq:∀ k,k<=n->(∀ i,i < k->bU rk lf key xs bs i=true)->(∀ i,k<=i->i < n->bU rk lf key xs bs i=false)->Q (none,k,k) st):wpS (model prog w) A E s (C8 lf key xs bs n l g) Q st:=by
 unfold C8
 refine aZ4 (I:=fun x r st'=>st'=st/\∃ l g,r=(none,l,g)/\l<=g/\g<=n/\g - l<=n - x/\(∀ i,i < l->bU rk lf key xs bs i=true)/\∀ i,g<=i->i < n->bU rk lf key xs bs i=false) ?_ ?_ ⟨rfl,l,g,rfl,hlg,hg,by omega,h1,h2⟩
 ·rintro x r st' _ hx ⟨rfl,l,g,rfl,d1,d2,d3,f1,f2⟩
  dsimp only
  by_cases hc:l >= g
  ·rw [if_pos hc]
   have e:g=l:=by omega
   subst e
   exact aS9 (hq g d2 f1 f2)
  ·rw [if_neg hc]
   refine aS3 (pX c hk ok o (by omega) ?_)
   cases z:bU rk lf key xs bs (l+(g - l) / 2) with
   | true=>exact aS9 ⟨rfl,_,_,rfl,by omega,d2,by omega,fun i hi=>mono i (l+(g - l) / 2) (by omega) (by omega) z,f2⟩
   | false=>
    refine aS9 ⟨rfl,_,_,rfl,by omega,by omega,by omega,f1,fun i i1 i2=>?_⟩
    cases y:bU rk lf key xs bs i with
    | false=>rfl
    | true=>rw [mono _ i i1 i2 y] at z; cases z
 ·rintro r st' ⟨rfl,l,g,rfl,d1,d2,d3,f1,f2⟩
  have e:g=l:=by omega
  subst e
  exact hq g d2 f1 f2
theorem m7 (c:cE prog w A E s κ Ok rk) (hk:kindOf st=κ) {lf:Bool}{key:Keyed}{xs:Array Keyed}{bs n h:Nat}{Q:Option Nat->SortSt->Prop} (ok:Ok key) (o:bK Ok xs) (hh:h < n) (hz:bs+n<=xs.size) (u:Up rk xs bs (bs+n))
  (hq:∀ k,k<=n->(∀ i,i < k->bU rk lf key xs bs i=true)->(∀ i,k<=i->i < n->bU rk lf key xs bs i=false)->Q (some k) st):wpS (model prog w) A E s (jX lf key xs bs n h) Q st:=by
 have mono:∀ i j,i<=j->j < n->bU rk lf key xs bs j=true->bU rk lf key xs bs i=true:=fun i j hij hj e=>by
  have:=u (bs+i) (bs+j) (by omega) (by omega) (by omega)
  unfold bU at e ⊢
  cases lf with
  | true=>simp only [if_true,aT6] at e ⊢; omega
  | false=>simp only [aT7,aZ0,aT6] at e ⊢; omega
 have monf:∀ i j,i<=j->j < n->bU rk lf key xs bs i=false->bU rk lf key xs bs j=false:=fun i j hij hj e=>by
  cases z:bU rk lf key xs bs j with
  | false=>rfl
  | true=>rw [mono i j hij hj z] at e; cases e
 rw [at5]
 refine aS3 (pX c hk ok o (by omega) ?_)
 dsimp only
 cases z:bU rk lf key xs bs h with
 | true=>
  rw [if_pos rfl]
  refine aS3 (bg2 (aZ4 (I:=fun x r st'=>st'=st/\∃ la of,r=(none,la,of)/\la < of/\x < of/\h+la < n/\bU rk lf key xs bs (h+la)=true)
   (Q:=fun r st'=>st'=st/\∃ la of,r=(none,la,of)/\la < of/\h+la < n/\bU rk lf key xs bs (h+la)=true/\(of < n - h->bU rk lf key xs bs (h+of)=false)) ?_ ?_ ⟨rfl,0,1,rfl,by omega,by omega,by omega,z⟩) ?_)
  ·rintro x r st' _ hx ⟨rfl,la,of,rfl,d1,d2,d3,f⟩
   dsimp only
   by_cases hc:of >= n - h
   ·rw [if_pos hc]
    exact aS9 ⟨rfl,la,of,rfl,d1,d3,f,fun y=>absurd y (by omega)⟩
   ·rw [if_neg hc]
    refine aS3 (pX c hk ok o (by omega) ?_)
    cases y:bU rk lf key xs bs (h+of) with
    | true=>exact aS9 ⟨rfl,of,2 * of+1,rfl,by omega,by omega,by omega,y⟩
    | false=>exact aS9 ⟨rfl,la,of,rfl,d1,d3,f,fun _=>y⟩
  ·rintro r st' ⟨rfl,la,of,rfl,d1,d2,d3,f⟩
   exact⟨rfl,la,of,rfl,d1,d3,f,fun y=>absurd y (by omega)⟩
  ·rintro r st' ⟨rfl,la,of,rfl,d1,d3,f,ft⟩
   dsimp only
   refine aS3 (C9 (l:=h+la+1) (g:=h+min of (n - h)) c hk ok o hz mono (by omega) (by omega) (fun i hi=>mono i (h+la) (by omega) d3 f) (fun i i1 i2=>?_) fun k k1 k2 k3=>aS9 (hq k k1 k2 k3))
   rcases aV9 of (n - h) with y | y
   ·exact monf (h+of) i (by omega) i2 (ft y)
   ·exact absurd i1 (by omega)
 | false=>
  rw [if_neg aT5]
  refine aS3 (bg2 (aZ4 (I:=fun x r st'=>st'=st/\∃ la of,r=(none,la,of)/\la < of/\x < of/\la<=h/\bU rk lf key xs bs (h - la)=false)
   (Q:=fun r st'=>st'=st/\∃ la of,r=(none,la,of)/\la < of/\la<=h/\bU rk lf key xs bs (h - la)=false/\(of < h+1->bU rk lf key xs bs (h - of)=true)) ?_ ?_ ⟨rfl,0,1,rfl,by omega,by omega,by omega,z⟩) ?_)
  ·rintro x r st' _ hx ⟨rfl,la,of,rfl,d1,d2,d3,f⟩
   dsimp only
   by_cases hc:of >= h+1
   ·rw [if_pos hc]
    exact aS9 ⟨rfl,la,of,rfl,d1,d3,f,fun y=>absurd y (by omega)⟩
   ·rw [if_neg hc]
    refine aS3 (pX c hk ok o (by omega) ?_)
    cases y:bU rk lf key xs bs (h - of) with
    | false=>exact aS9 ⟨rfl,of,2 * of+1,rfl,by omega,by omega,by omega,y⟩
    | true=>exact aS9 ⟨rfl,la,of,rfl,d1,d3,f,fun _=>y⟩
  ·rintro r st' ⟨rfl,la,of,rfl,d1,d2,d3,f⟩
   exact⟨rfl,la,of,rfl,d1,d3,f,fun y=>absurd y (by omega)⟩
  ·rintro r st' ⟨rfl,la,of,rfl,d1,d3,f,ft⟩
   dsimp only
   refine aS3 (C9 (l:=h+1 - min of (h+1)) (g:=h - la) c hk ok o hz mono (by omega) (by omega) (fun i hi=>?_) (fun i i1 i2=>monf (h - la) i i1 i2 f) fun k k1 k2 k3=>aS9 (hq k k1 k2 k3))
   rcases aV9 of (h+1) with y | y
   ·exact mono i (h - of) (by omega) (by omega) (ft y)
   ·exact absurd hi (by omega)
end
def m8:Nat->StateT SortSt Sem Unit:=sortPriv% PySem.Builtin.setMinGallop
def uN:Array Keyed->Array Keyed->StateT SortSt Sem (Array Keyed):=sortPriv% PySem.Builtin.mergeLo
theorem at6 (g:Nat):m8 g=modify (fun st=>SortSt.mk' (kindOf st) (arrOf st) (pendingOf st) g (failedOf st)):=rfl
abbrev LS:=Option (Array Keyed) × Array Keyed × Nat × Nat × Nat × Nat × Nat
abbrev uO:=Option (Array Keyed) × Array Keyed × Nat × Nat × Nat × Nat
abbrev LO:=Option (Array Keyed) × Array Keyed × Nat × Nat × Nat
def pY (x y o:Array Keyed) (i j mg p q:Nat):StateT SortSt Sem (ForInStep LS):=do
 let v <- elem' x i
 if (i+1+1 == x.size)=true then pure (.done (some (o.push v ++ y.extract j y.size ++ x.extract (i+1) x.size),o.push v,i+1,j,mg,p,q))
 else if (decide (p < 7) && decide (q < 7))=true then pure (.done (none,o.push v,i+1,j,mg,p,q)) else pure (.yield (none,o.push v,i+1,j,mg,p,q))
def pZ (x y o:Array Keyed) (i j mg p q:Nat):StateT SortSt Sem (ForInStep LS):=do
 let v <- elem' y j
 if (j+1 == y.size)=true then pure (.done (some (o.push v ++ x.extract i x.size ++ y.extract (j+1) y.size),o.push v,i,j+1,mg,p,q)) else do
  let u <- elem' x i
  match <- jX true u y (j+1) (y.size - (j+1)) 0 with
  | some k=>
   if k > 0 then
    if (j+1+k == y.size)=true then pure (.done (some (o.push v ++ y.extract (j+1) (j+1+k) ++ x.extract i x.size ++ y.extract (j+1+k) y.size),o.push v ++ y.extract (j+1) (j+1+k),i,j+1+k,mg,p,k))
    else pY x y (o.push v ++ y.extract (j+1) (j+1+k)) i (j+1+k) mg p k
   else pY x y (o.push v) i (j+1) mg p k
  | _=>pure (.done (some (o.push v ++ x.extract i x.size ++ y.extract (j+1) y.size),o.push v,i,j+1,mg,p,q))
def qA (x y o:Array Keyed) (i j mg p q:Nat):StateT SortSt Sem (ForInStep LS):=do
 m8 mg
 let v <- elem' y j
 match <- jX false v x i (x.size - i) 0 with
 | some k=>
  if k > 0 then
   if (i+k+1 == x.size)=true then pure (.done (some (o ++ x.extract i (i+k) ++ y.extract j y.size ++ x.extract (i+k) x.size),o ++ x.extract i (i+k),i+k,j,mg,k,q))
   else if (i+k == x.size)=true then pure (.done (some (o ++ x.extract i (i+k) ++ x.extract (i+k) x.size ++ y.extract j y.size),o ++ x.extract i (i+k),i+k,j,mg,k,q))
   else pZ x y (o ++ x.extract i (i+k)) (i+k) j mg k q
  else pZ x y o i j mg k q
 | _=>pure (.done (some (o ++ x.extract i x.size ++ y.extract j y.size),o,i,j,mg,p,q))
def uP (x y o:Array Keyed) (i j mg p q:Nat):StateT SortSt Sem LS:=forIn [0:x.size+y.size] ((none,o,i,j,mg,p,q):LS) fun _ r=>
 if r.2.2.2.2.1 > 1 then qA x y r.2.1 r.2.2.1 r.2.2.2.1 (r.2.2.2.2.1 - 1) r.2.2.2.2.2.1 r.2.2.2.2.2.2 else qA x y r.2.1 r.2.2.1 r.2.2.2.1 r.2.2.2.2.1 r.2.2.2.2.2.1 r.2.2.2.2.2.2
def uQ (x y o:Array Keyed) (i j mg:Nat):StateT SortSt Sem uO:=forIn [0:x.size+y.size] ((none,o,i,j,0,0):uO) fun _ r=>do
 let v <- elem' y r.2.2.2.1
 let u <- elem' x r.2.2.1
 match <- lt' v u with
 | some q=>
  if q=true then do
   let v <- elem' y r.2.2.2.1
   if (r.2.2.2.1+1 == y.size)=true then pure (.done (some (r.2.1.push v ++ x.extract r.2.2.1 x.size ++ y.extract (r.2.2.2.1+1) y.size),r.2.1.push v,r.2.2.1,r.2.2.2.1+1,0,r.2.2.2.2.2+1))
   else if r.2.2.2.2.2+1 >= mg then pure (.done (none,r.2.1.push v,r.2.2.1,r.2.2.2.1+1,0,r.2.2.2.2.2+1)) else pure (.yield (none,r.2.1.push v,r.2.2.1,r.2.2.2.1+1,0,r.2.2.2.2.2+1))
  else do
   let u <- elem' x r.2.2.1
   if (r.2.2.1+1+1 == x.size)=true then pure (.done (some (r.2.1.push u ++ y.extract r.2.2.2.1 y.size ++ x.extract (r.2.2.1+1) x.size),r.2.1.push u,r.2.2.1+1,r.2.2.2.1,r.2.2.2.2.1+1,0))
   else if r.2.2.2.2.1+1 >= mg then pure (.done (none,r.2.1.push u,r.2.2.1+1,r.2.2.2.1,r.2.2.2.2.1+1,0)) else pure (.yield (none,r.2.1.push u,r.2.2.1+1,r.2.2.2.1,r.2.2.2.2.1+1,0))
 | _=>pure (.done (some (r.2.1 ++ x.extract r.2.2.1 x.size ++ y.extract r.2.2.2.1 y.size),r.2.1,r.2.2.1,r.2.2.2.1,r.2.2.2.2.1,r.2.2.2.2.2))
def E1 (x y o:Array Keyed) (i j mg:Nat):StateT SortSt Sem LO:=forIn [0:x.size+y.size] ((none,o,i,j,mg):LO) fun _ r=>do
 let u <- uQ x y r.2.1 r.2.2.1 r.2.2.2.1 r.2.2.2.2
 match u.1 with
 | some z=>pure (.done (some z,u.2.1,u.2.2.1,u.2.2.2.1,r.2.2.2.2))
 | none=>do
  liftM (rule "list.sort.gallop")
  let v <- uP x y u.2.1 u.2.2.1 u.2.2.2.1 (r.2.2.2.2+1) u.2.2.2.2.1 u.2.2.2.2.2
  match v.1 with
  | some z=>pure (.done (some z,v.2.1,v.2.2.1,v.2.2.2.1,v.2.2.2.2.1))
  | none=>do
   m8 (v.2.2.2.2.1+1)
   pure (.yield (none,v.2.1,v.2.2.1,v.2.2.2.1,v.2.2.2.2.1+1))
theorem at7 (x y:Array Keyed):uN x y=(do
 liftM (rule "list.sort.merge-lo")
 let v <- elem' y 0
 if (1 == y.size)=true then pure (#[v] ++ x.extract 0 x.size ++ y.extract 1 y.size)
 else if (0+1 == x.size)=true then pure (#[v] ++ y.extract 1 y.size ++ x.extract 0 x.size)
 else do
  let z <- get
  let r <- E1 x y #[v] 0 1 (gallopOf z)
  match r.1 with
  | some z=>pure z
  | none=>unsupported "internal:list.sort.merge-bound"):=by kernel_rfl
section
variable (rk : Keyed → Int)
def Sd (l:List Keyed):Prop:=l.Pairwise fun a b=>rk a<=rk b
structure MI (xs ys o:List Keyed) (i j:Nat):Prop where
 pm:o.Perm (xs.take i ++ ys.take j)
 sx:Sd rk (o ++ xs.drop i)
 sy:Sd rk (o ++ ys.drop j)
end
variable {rk : Keyed → Int} {xs ys o : List Keyed} {i j : Nat}
theorem Sd.ins {o a b d:List Keyed} (h1:Sd rk (o ++ a)) (h2:Sd rk (o ++ (b ++ d))) (h:∀ u ∈ b,∀ t ∈ a,rk u<=rk t):Sd rk ((o ++ b) ++ a):=by
 unfold Sd at *
 rw [aT1]
 obtain ⟨p1,p2,p3⟩:=aU7.mp h1
 obtain ⟨q1,q2,q3⟩:=aU7.mp h2
 obtain ⟨r1,r2,r3⟩:=aU7.mp q2
 refine aU7.mpr ⟨p1,aU7.mpr ⟨r1,p2,h⟩,fun u hu t ht=>?_⟩
 rcases aV0.mp ht with z | z
 ·exact q3 u hu t (aU6 _ z)
 ·exact p3 u hu t z
theorem MI.ofy (m:MI rk xs ys o i j) (k:Nat) (h:∀ u ∈ (ys.drop j).take k,∀ t ∈ xs.drop i,rk u<=rk t):MI rk xs ys (o ++ (ys.drop j).take k) i (j+k):=by
 have e:(ys.drop j).take k ++ ys.drop (j+k)=ys.drop j:=by rw [<- List.drop_drop]; exact aV1 k _
 refine⟨?_,Sd.ins m.sx (d:=ys.drop (j+k)) (by rw [e]; exact m.sy) h,by rw [aT1,e]; exact m.sy⟩
 rw [List.take_add,<- aT1]
 exact m.pm.append_right _
theorem MI.ofx (m:MI rk xs ys o i j) (k:Nat) (h:∀ u ∈ (xs.drop i).take k,∀ t ∈ ys.drop j,rk u<=rk t):MI rk xs ys (o ++ (xs.drop i).take k) (i+k) j:=by
 have e:(xs.drop i).take k ++ xs.drop (i+k)=xs.drop i:=by rw [<- List.drop_drop]; exact aV1 k _
 refine⟨?_,by rw [aT1,e]; exact m.sx,Sd.ins m.sy (d:=xs.drop (i+k)) (by rw [e]; exact m.sx) h⟩
 rw [List.take_add]
 refine (m.pm.append_right _).trans ?_
 rw [aT1,aT1]
 exact (aY1).append_left _
theorem MI.fin (m:MI rk xs ys o i j) (h:xs.length<=i ∨ ys.length<=j):(o ++ xs.drop i ++ ys.drop j).Perm (xs ++ ys)/\Sd rk (o ++ xs.drop i ++ ys.drop j):=by
 refine⟨?_,?_⟩
 ·rw [aT1]
  refine (m.pm.append_right _).trans ?_
  have e1:xs=xs.take i ++ xs.drop i:=(aV1 i xs).symm
  have e2:ys=ys.take j ++ ys.drop j:=(aV1 j ys).symm
  conv=>rhs; rw [e1,e2]
  rw [aT1,aT1]
  refine bf5 _ ?_
  rw [<- aT1,<- aT1]
  exact (aY1).append_right _
 ·rcases h with h | h
  ·rw [List.drop_eq_nil_of_le h,aW2]; exact m.sy
  ·rw [List.drop_eq_nil_of_le h,aW2]; exact m.sx
theorem MI.lst (m:MI rk xs ys o i j) (h:∀ u ∈ ys,∀ t ∈ xs.drop i,rk u<=rk t):(o ++ ys.drop j ++ xs.drop i).Perm (xs ++ ys)/\Sd rk (o ++ ys.drop j ++ xs.drop i):=by
 have m2:=m.ofy ys.length fun u hu t ht=>h u (List.mem_of_mem_drop (bg3 hu)) t ht
 have e:(ys.drop j).take ys.length=ys.drop j:=aZ5 (by simp)
 rw [e] at m2
 have f:=m2.fin (.inr (by omega))
 rw [List.drop_eq_nil_of_le (as:=ys) (i:=j+ys.length) (by omega),aW2] at f
 exact f
theorem E2 {x:Array Keyed}{i k:Nat}{u:Keyed} (h:u ∈ (x.toList.drop i).take k):∃ t,t < k/\i+t < x.size/\rk u=Kr rk x (i+t):=by
 obtain ⟨t,ht,e⟩:=aY2 h
 have h1:t < k/\i+t < x.size:=by simp at ht; omega
 refine⟨t,h1.1,h1.2,?_⟩
 rw [c8 h1.2,<- e]
 simp
theorem nV {x:Array Keyed}{i:Nat}{u:Keyed} (h:u ∈ x.toList.drop i):∃ t,i+t < x.size/\rk u=Kr rk x (i+t):=by
 obtain ⟨t,ht,e⟩:=aY2 h
 have h1:i+t < x.size:=by simp at ht; omega
 refine⟨t,h1,?_⟩
 rw [c8 h1,<- e]
 simp
theorem Sd.up {x:Array Keyed} (h:Sd rk x.toList) (lo hi:Nat) (hh:hi<=x.size):Up rk x lo hi:=fun i j _ hij hj=>by
 rw [c8 (by omega:i < x.size),c8 (by omega:j < x.size)]
 rcases bf2 hij with z | z
 ·subst z; exact aR6 _
 ·have:=aX3.mp h i j (by simp; omega) (by simp; omega) z
  simpa using this
theorem E3 (x:Array Keyed) (i k:Nat):(x.extract i (i+k)).toList=(x.toList.drop i).take k:=by
 simp [List.extract]
theorem qB (x:Array Keyed) (i:Nat):(x.extract i x.size).toList=x.toList.drop i:=by
 simp [List.extract]
 exact aZ5 (by simp)
theorem l4 {x:Array Keyed}{i:Nat} (h:i < x.size) : [x[i]]=(x.toList.drop i).take 1:=by
 rw [bd4 (by simpa using h)]; simp
structure Gq (st st':SortSt):Prop where
 kd:kindOf st'=kindOf st
 ar:arrOf st'=arrOf st
 pd:pendingOf st'=pendingOf st
 ok:failedOf st'=failedOf st
theorem Gq.refl (st:SortSt):Gq st st:=⟨rfl,rfl,rfl,rfl⟩
section
variable {κ : SortKind} {st : SortSt} {prog : Program} {w : World} {A : Around} {E : Value → Shared → Prop} {s : Shared} {Ok : Keyed → Prop}
theorem qD {st0:SortSt}{g:Nat}{Q:Unit->SortSt->Prop} (q:Gq st0 st) (h:∀ st',Gq st0 st'->Q () st'):wpS (model prog w) A E s (m8 g) Q st:=by
 rw [at6]; exact wpS_modify (h _ ⟨q.kd,q.ar,q.pd,q.ok⟩)
def dX (rk:Keyed->Int) (x y r:Array Keyed):Prop:=r.toList.Perm (x.toList ++ y.toList)/\Sd rk r.toList
theorem MI.y1 {x y o:Array Keyed} (m:MI rk x.toList y.toList o.toList i j) (hj:j < y.size) (h:∀ t,i+t < x.size->rk y[j]<=Kr rk x (i+t)):MI rk x.toList y.toList (o.push y[j]).toList i (j+1):=by
 have:=m.ofy 1 fun u hu t ht=>?_
 ·rw [<- l4 hj] at this; simpa using this
 ·rw [<- l4 hj,aR9] at hu
  subst hu
  obtain ⟨q,q1,q2⟩:=nV (rk:=rk) ht
  rw [q2]; exact h q q1
theorem MI.x1 {x y o:Array Keyed} (m:MI rk x.toList y.toList o.toList i j) (hi:i < x.size) (h:∀ t,j+t < y.size->rk x[i]<=Kr rk y (j+t)):MI rk x.toList y.toList (o.push x[i]).toList (i+1) j:=by
 have:=m.ofx 1 fun u hu t ht=>?_
 ·rw [<- l4 hi] at this; simpa using this
 ·rw [<- l4 hi,aR9] at hu
  subst hu
  obtain ⟨q,q1,q2⟩:=nV (rk:=rk) ht
  rw [q2]; exact h q q1
theorem MI.yk {x y o:Array Keyed} (m:MI rk x.toList y.toList o.toList i j) (k:Nat) (h:∀ p t,p < k->j+p < y.size->i+t < x.size->Kr rk y (j+p)<=Kr rk x (i+t)):MI rk x.toList y.toList (o ++ y.extract j (j+k)).toList i (j+k):=by
 have:=m.ofy k fun u hu t ht=>?_
 ·rw [<- E3] at this; rw [aY3]; exact this
 ·obtain ⟨p,p1,p2,p3⟩:=E2 (rk:=rk) hu
  obtain ⟨q,q1,q2⟩:=nV (rk:=rk) ht
  rw [q2,p3]; exact h p q p1 p2 q1
theorem MI.xk {x y o:Array Keyed} (m:MI rk x.toList y.toList o.toList i j) (k:Nat) (h:∀ p t,p < k->i+p < x.size->j+t < y.size->Kr rk x (i+p)<=Kr rk y (j+t)):MI rk x.toList y.toList (o ++ x.extract i (i+k)).toList (i+k) j:=by
 have:=m.ofx k fun u hu t ht=>?_
 ·rw [<- E3] at this; rw [aY3]; exact this
 ·obtain ⟨p,p1,p2,p3⟩:=E2 (rk:=rk) hu
  obtain ⟨q,q1,q2⟩:=nV (rk:=rk) ht
  rw [q2,p3]; exact h p q p1 p2 q1
theorem m9 {key:Keyed}{xs:Array Keyed}{bs i:Nat}:bU rk false key xs bs i=decide (Kr rk xs (bs+i)<=rk key):=rfl
theorem mB {key:Keyed}{xs:Array Keyed}{bs i:Nat}:bU rk true key xs bs i=decide (Kr rk xs (bs+i) < rk key):=rfl
def GI (rk:Keyed->Int) (x y:Array Keyed) (lb:Nat) (st:SortSt) (c:LS) (st':SortSt):Prop:=Gq st st'/\∃ o i j mg p q,c=(none,o,i,j,mg,p,q)/\MI rk x.toList y.toList o.toList i j/\i+1 < x.size/\j < y.size/\lb<=i+j
def GQ (rk:Keyed->Int) (x y:Array Keyed) (lb:Nat) (st:SortSt) (c:LS) (st':SortSt):Prop:=Gq st st'/\((∃ r o i j mg p q,c=(some r,o,i,j,mg,p,q)/\dX rk x y r) ∨ ∃ o i j mg p q,c=(none,o,i,j,mg,p,q)/\MI rk x.toList y.toList o.toList i j/\i+1 < x.size/\j < y.size/\lb<=i+j)
def GR (rk:Keyed->Int) (x y:Array Keyed) (lb:Nat) (st:SortSt) (r:ForInStep LS) (st':SortSt):Prop:=match r with | .done c=>GQ rk x y lb st c st' | .yield c=>GI rk x y lb st c st'
theorem MI.done {x y o:Array Keyed} (m:MI rk x.toList y.toList o.toList i j) (hh:x.size<=i ∨ y.size<=j):dX rk x y (o ++ x.extract i x.size ++ y.extract j y.size):=by
 unfold dX
 rw [aY3,aY3,qB,qB]
 exact m.fin (by simpa using hh)
theorem MI.last {x y o:Array Keyed} (m:MI rk x.toList y.toList o.toList i j) (x0:0 < x.size) (hl:∀ u ∈ y.toList,rk u<=rk x[x.size - 1]) (hh:i+1=x.size):dX rk x y (o ++ y.extract j y.size ++ x.extract i x.size):=by
 unfold dX
 rw [aY3,aY3,qB,qB]
 refine m.lst fun u hu t ht=>?_
 obtain ⟨q,q1,q2⟩:=nV (rk:=rk) ht
 have e:i+q=x.size - 1:=by omega
 rw [q2,e,c8 (by omega)]
 exact hl u hu
theorem E4 {st0:SortSt}{x y o:Array Keyed}{mg p q lb:Nat} (x0:0 < x.size) (hl:∀ u ∈ y.toList,rk u<=rk x[x.size - 1]) (g:Gq st0 st) (m:MI rk x.toList y.toList o.toList i j) (hi:i+1 < x.size) (hj:j < y.size) (hb:lb<=i+j)
  (hm:∀ t,j+t < y.size->rk x[i]<=Kr rk y (j+t)):wpS (model prog w) A E s (pY x y o i j mg p q) (GR rk x y lb st0) st:=by
 unfold pY
 have hi':i < x.size:=by omega
 have m':=m.x1 hi' hm
 refine aS3 (cZ hi' ?_)
 by_cases he:(i+1+1 == x.size)=true
 ·rw [if_pos he]
  have he:i+1+1=x.size:=by simpa using he
  exact aS9 ⟨g,.inl ⟨_,_,_,_,_,_,_,rfl,m'.last x0 hl he⟩⟩
 ·rw [if_neg he]
  have he:i+1+1 ≠ x.size:=by simpa using he
  split
  ·exact aS9 ⟨g,.inr ⟨_,_,_,_,_,_,rfl,m',by omega,hj,by omega⟩⟩
  ·exact aS9 ⟨g,_,_,_,_,_,_,rfl,m',by omega,hj,by omega⟩
theorem E5 (c:cE prog w A E s κ Ok rk) {st0:SortSt} (hk:kindOf st0=κ) {x y o:Array Keyed}{mg p q lb:Nat} (ox:bK Ok x) (oy:bK Ok y) (sx:Sd rk x.toList) (sy:Sd rk y.toList) (x0:0 < x.size) (hl:∀ u ∈ y.toList,rk u<=rk x[x.size - 1]) (g:Gq st0 st) (m:MI rk x.toList y.toList o.toList i j) (hi:i+1 < x.size) (hj:j < y.size) (hb:lb<=i+j)
  (hm:∀ t,i+t < x.size->rk y[j]<=Kr rk x (i+t)):wpS (model prog w) A E s (pZ x y o i j mg p q) (GR rk x y lb st0) st:=by
 unfold pZ
 have hi':i < x.size:=by omega
 have m':=m.y1 hj hm
 refine aS3 (cZ hj ?_)
 by_cases he:(j+1 == y.size)=true
 ·rw [if_pos he]
  have he:j+1=y.size:=by simpa using he
  exact aS9 ⟨g,.inl ⟨_,_,_,_,_,_,_,rfl,m'.done (.inr (by omega))⟩⟩
 ·rw [if_neg he]
  have he:j+1 ≠ y.size:=by simpa using he
  refine aS3 (cZ hi' (aS3 (m7 c (g.kd.trans hk) (ox _ (aV2 hi')) oy (by omega) (by omega) (sy.up _ _ (by omega)) fun k k1 k2 k3=>?_)))
  dsimp only
  have ux:=sx.up 0 _ (aS4 x.size)
  have mk:=m'.yk k fun p t hp _ ht=>by
   have a1:=k2 p hp
   rw [mB,aT6] at a1
   have a2:=ux i (i+t) (by omega) (by omega) ht
   rw [c8 hi'] at a2
   omega
  have km:∀ t,j+1+k+t < y.size->rk x[i]<=Kr rk y (j+1+k+t):=fun t ht=>by
   have a1:=k3 (k+t) (by omega) (by omega)
   rw [mB,ba5,<- Nat.add_assoc] at a1
   omega
  by_cases hk0:k > 0
  ·rw [if_pos hk0]
   by_cases hf:(j+1+k == y.size)=true
   ·rw [if_pos hf]
    have hf:j+1+k=y.size:=by simpa using hf
    exact aS9 ⟨g,.inl ⟨_,_,_,_,_,_,_,rfl,mk.done (.inr (by omega))⟩⟩
   ·rw [if_neg hf]
    have hf:j+1+k ≠ y.size:=by simpa using hf
    exact E4 x0 hl g mk hi (by omega) (by omega) km
  ·rw [if_neg hk0]
   have e0:k=0:=by omega
   subst e0
   exact E4 x0 hl g m' hi (by omega) (by omega) km
theorem E6 (c:cE prog w A E s κ Ok rk) {st0:SortSt} (hk:kindOf st0=κ) {x y o:Array Keyed}{mg p q lb:Nat} (ox:bK Ok x) (oy:bK Ok y) (sx:Sd rk x.toList) (sy:Sd rk y.toList) (x0:0 < x.size) (hl:∀ u ∈ y.toList,rk u<=rk x[x.size - 1]) (g:Gq st0 st) (m:MI rk x.toList y.toList o.toList i j) (hi:i+1 < x.size) (hj:j < y.size) (hb:lb<=i+j) :
  wpS (model prog w) A E s (qA x y o i j mg p q) (GR rk x y lb st0) st:=by
 unfold qA
 refine aS3 (qD g fun st4 q4=>aS3 (cZ hj (aS3 (m7 c (q4.kd.trans hk) (oy _ (aV2 hj)) ox (by omega) (by omega) (sx.up _ _ (by omega)) fun k k1 k2 k3=>?_))))
 dsimp only
 have uy:=sy.up 0 _ (aS4 y.size)
 have mk:=m.xk k fun p t hp _ ht=>by
  have a1:=k2 p hp
  rw [m9,aT6] at a1
  have a2:=uy j (j+t) (by omega) (by omega) ht
  rw [c8 hj] at a2
  omega
 have km:∀ t,i+k+t < x.size->rk y[j]<=Kr rk x (i+k+t):=fun t ht=>by
  have a1:=k3 (k+t) (by omega) (by omega)
  rw [m9,ba5,<- Nat.add_assoc] at a1
  omega
 by_cases hk0:k > 0
 ·rw [if_pos hk0]
  by_cases he:(i+k+1 == x.size)=true
  ·rw [if_pos he]
   exact aS9 ⟨q4,.inl ⟨_,_,_,_,_,_,_,rfl,mk.last x0 hl (by simpa using he)⟩⟩
  ·rw [if_neg he]
   have he:i+k+1 ≠ x.size:=by simpa using he
   by_cases hf:(i+k == x.size)=true
   ·rw [if_pos hf]
    have hf:i+k=x.size:=by simpa using hf
    exact aS9 ⟨q4,.inl ⟨_,_,_,_,_,_,_,rfl,mk.done (.inl (by omega))⟩⟩
   ·rw [if_neg hf]
    have hf:i+k ≠ x.size:=by simpa using hf
    exact E5 c hk ox oy sx sy x0 hl q4 mk (by omega) hj (by omega) km
 ·rw [if_neg hk0]
  have e0:k=0:=by omega
  subst e0
  exact E5 c hk ox oy sx sy x0 hl q4 m hi hj hb km
theorem at8 (c:cE prog w A E s κ Ok rk) {st0:SortSt} (hk:kindOf st0=κ) {x y o:Array Keyed}{mg p q lb:Nat} (ox:bK Ok x) (oy:bK Ok y) (sx:Sd rk x.toList) (sy:Sd rk y.toList) (x0:0 < x.size) (hl:∀ u ∈ y.toList,rk u<=rk x[x.size - 1]) (g:Gq st0 st) (m:MI rk x.toList y.toList o.toList i j) (hi:i+1 < x.size) (hj:j < y.size) (hb:lb<=i+j) :
  wpS (model prog w) A E s (uP x y o i j mg p q) (GQ rk x y lb st0) st:=by
 unfold uP
 refine aZ4 (I:=fun _=>GI rk x y lb st0) ?_ ?_ ⟨g,o,i,j,_,p,q,rfl,m,hi,hj,hb⟩
 ·rintro t c3 st3 _ _ ⟨q3,o,i,j,mg,p,q,rfl,m,hi,hj,pr3⟩
  dsimp only
  split
  ·exact bg2 (E6 c hk ox oy sx sy x0 hl q3 m hi hj pr3) fun r _ hr=>by cases r <;> exact hr
  ·exact bg2 (E6 c hk ox oy sx sy x0 hl q3 m hi hj pr3) fun r _ hr=>by cases r <;> exact hr
 ·rintro c3 st3 ⟨q3,o,i,j,mg,p,q,rfl,m,hi,hj,pr3⟩
  exact⟨q3,.inr ⟨_,_,_,_,_,_,rfl,m,hi,hj,pr3⟩⟩
theorem at9 (c:cE prog w A E s κ Ok rk) {st0:SortSt} (hk:kindOf st0=κ) {x y o:Array Keyed}{mg:Nat}{Q:uO->SortSt->Prop} (ox:bK Ok x) (oy:bK Ok y) (sx:Sd rk x.toList) (sy:Sd rk y.toList) (x0:0 < x.size) (hl:∀ u ∈ y.toList,rk u<=rk x[x.size - 1]) (g:Gq st0 st) (m:MI rk x.toList y.toList o.toList i j) (hi:i+1 < x.size) (hj:j < y.size)
  (h1:∀ r o' i' j' p q st',Gq st0 st'->dX rk x y r->Q (some r,o',i',j',p,q) st')
  (h2:∀ o' i' j' p q st',Gq st0 st'->MI rk x.toList y.toList o'.toList i' j'->i'+1 < x.size->j' < y.size->i+j+1<=i'+j'->Q (none,o',i',j',p,q) st') :
  wpS (model prog w) A E s (uQ x y o i j mg) Q st:=by
 have ux:Up rk x 0 x.size:=sx.up 0 _ (aS4 _)
 have uy:Up rk y 0 y.size:=sy.up 0 _ (aS4 _)
 unfold uQ
 refine aZ4 (I:=fun t c st'=>Gq st0 st'/\∃ o i' j' p q,c=(none,o,i',j',p,q)/\MI rk x.toList y.toList o.toList i' j'/\i'+1 < x.size/\j' < y.size/\i+j+t<=i'+j') ?_ ?_ ⟨g,o,i,j,0,0,rfl,m,hi,hj,by omega⟩
 ·rintro t c2 st2 _ ht ⟨q2,o,i',j',p,q,rfl,m,hi,hj,pr2⟩
  dsimp only
  have hi':i' < x.size:=by omega
  refine aS3 (cZ hj (aS3 (cZ hi' (aS3 (c _ _ (oy _ (aV2 hj)) (ox _ (aV2 hi')) st2 _ (q2.kd.trans hk) ?_)))))
  by_cases hc:rk y[j'] < rk x[i']
  ·rw [aR3 hc]
   dsimp only
   rw [if_pos rfl]
   have m':=m.y1 hj fun t ht=>by
    have:=ux i' (i'+t) (by omega) (by omega) ht
    rw [c8 hi'] at this
    omega
   refine aS3 (cZ hj ?_)
   by_cases he:(j'+1 == y.size)=true
   ·rw [if_pos he]
    have he:j'+1=y.size:=by simpa using he
    exact aS9 (h1 _ _ _ _ _ _ _ q2 (m'.done (.inr (by omega))))
   ·rw [if_neg he]
    have he:j'+1 ≠ y.size:=by simpa using he
    split
    ·exact aS9 (h2 _ _ _ _ _ _ q2 m' hi (by omega) (by omega))
    ·exact aS9 ⟨q2,_,_,_,_,_,rfl,m',hi,by omega,by omega⟩
  ·rw [aR2 hc]
   dsimp only
   rw [if_neg aT5]
   have m':=m.x1 hi' fun t ht=>by
    have:=uy j' (j'+t) (by omega) (by omega) ht
    rw [c8 hj] at this
    omega
   refine aS3 (cZ hi' ?_)
   by_cases he:(i'+1+1 == x.size)=true
   ·rw [if_pos he]
    exact aS9 (h1 _ _ _ _ _ _ _ q2 (m'.last x0 hl (by simpa using he)))
   ·rw [if_neg he]
    have he:i'+1+1 ≠ x.size:=by simpa using he
    split
    ·exact aS9 (h2 _ _ _ _ _ _ q2 m' (by omega) hj (by omega))
    ·exact aS9 ⟨q2,_,_,_,_,_,rfl,m',by omega,hj,by omega⟩
 ·rintro c2 st2 ⟨q2,o,i',j',p,q,rfl,m,hi,hj,pr2⟩
  exact h2 _ _ _ _ _ _ q2 m hi hj (by omega)
theorem au0 (c:cE prog w A E s κ Ok rk) (hk:kindOf st=κ) {x y:Array Keyed}{Q:Array Keyed->SortSt->Prop} (ox:bK Ok x) (oy:bK Ok y) (sx:Sd rk x.toList) (sy:Sd rk y.toList) (x0:0 < x.size) (y0:0 < y.size)
  (hf:∀ t ∈ x.toList,rk y[0]<=rk t) (hl:∀ u ∈ y.toList,rk u<=rk x[x.size - 1])
  (h:∀ r st',Gq st st'->dX rk x y r->Q r st'):wpS (model prog w) A E s (uN x y) Q st:=by
 rw [at7]
 refine aS3 (wpS_lift (be5 ⟨rfl,aS3 (cZ y0 ?_)⟩))
 have m0:MI rk x.toList y.toList (#[y[0]]:Array Keyed).toList 0 1:=by
  have mm:MI rk x.toList y.toList [] 0 0:=⟨by simp,sx,sy⟩
  have:=mm.ofy 1 fun u hu t ht=>?_
  ·rw [<- l4 y0] at this; exact this
  ·rw [<- l4 y0,aR9] at hu
   subst hu
   exact hf t ht
 by_cases e1:(1 == y.size)=true
 ·rw [if_pos e1]
  have e1:1=y.size:=by simpa using e1
  exact aS9 (h _ st (Gq.refl st) (m0.done (.inr (by omega))))
 ·rw [if_neg e1]
  have e1:1 ≠ y.size:=by simpa using e1
  by_cases e2:(0+1 == x.size)=true
  ·rw [if_pos e2]
   exact aS9 (h _ st (Gq.refl st) (m0.last x0 hl (by simpa using e2)))
  ·rw [if_neg e2]
   have e2:0+1 ≠ x.size:=by simpa using e2
   refine aS3 (wpS_get ?_)
   unfold E1
   refine aS3 (bg2 (aZ4
    (I:=fun n c st'=>Gq st st'/\∃ o i j mg,c=(none,o,i,j,mg)/\MI rk x.toList y.toList o.toList i j/\i+1 < x.size/\j < y.size/\n+1<=i+j)
    (Q:=fun c st'=>Gq st st'/\∃ r o i j mg,c=(some r,o,i,j,mg)/\dX rk x y r) ?_ ?_ ⟨Gq.refl st,_,0,1,_,rfl,m0,by omega,by omega,by omega⟩) ?_)
   ·rintro n c1 st1 _ hn ⟨q1,o,i,j,mg,rfl,m,hi,hj,pr⟩
    dsimp only
    refine aS3 (at9 c hk ox oy sx sy x0 hl q1 m hi hj (fun r o' i' j' p q st' g md=>aS9 ⟨g,r,_,_,_,_,rfl,md⟩) fun o' i' j' p q st' g m' hi' hj' pr'=>?_)
    refine aS3 (wpS_lift (be5 ⟨rfl,?_⟩))
    refine aS3 (bg2 (at8 c hk ox oy sx sy x0 hl g m' hi' hj' pr') ?_)
    rintro c3 st3 ⟨q3,⟨r,o,i3,j3,mg,p,q,rfl,md⟩ | ⟨o,i3,j3,mg,p,q,rfl,m,hi,hj,pr3⟩⟩
    ·exact aS9 ⟨q3,r,_,_,_,_,rfl,md⟩
    ·exact aS3 (qD q3 fun st4 q4=>aS9 ⟨q4,o,i3,j3,_,rfl,m,hi,hj,by omega⟩)
   ·rintro c1 st1 ⟨q1,o,i,j,mg,rfl,m,hi,hj,pr⟩
    exact absurd pr (by omega)
   ·rintro c1 st1 ⟨q1,r,o,i,j,mg,rfl,md⟩
    exact aS9 (h r _ q1 md)
end
def uR:Array Keyed->Array Keyed->StateT SortSt Sem (Array Keyed):=sortPriv% PySem.Builtin.mergeHi
abbrev LH:=Option (Array Keyed) × Nat × Nat × Array Keyed × Nat × Nat × Nat
abbrev uS:=Option (Array Keyed) × Nat × Nat × Array Keyed × Nat × Nat
abbrev LP:=Option (Array Keyed) × Nat × Nat × Array Keyed × Nat
def qE (x y o:Array Keyed) (i j mg p q:Nat):StateT SortSt Sem (ForInStep LH):=do
 let v <- elem' x (i - 1)
 if (i - 1 == 0)=true then pure (.done (some (x.extract 0 (i - 1) ++ y.extract 0 j ++ (o.push v).reverse),i - 1,j,o.push v,mg,p,q))
 else if (decide (p < 7) && decide (q < 7))=true then pure (.done (none,i - 1,j,o.push v,mg,p,q)) else pure (.yield (none,i - 1,j,o.push v,mg,p,q))
def qF (x y o:Array Keyed) (i j mg p q:Nat):StateT SortSt Sem (ForInStep LH):=do
 let v <- elem' y (j - 1)
 if (j - 1 == 1)=true then pure (.done (some (y.extract 0 (j - 1) ++ x.extract 0 i ++ (o.push v).reverse),i,j - 1,o.push v,mg,p,q)) else do
  let u <- elem' x (i - 1)
  match <- jX true u y 0 (j - 1) (j - 1 - 1) with
  | some z=>
   if j - 1 - z > 0 then
    if (z == 1)=true then pure (.done (some (y.extract 0 z ++ x.extract 0 i ++ (o.push v ++ (y.extract z (j - 1)).reverse).reverse),i,z,o.push v ++ (y.extract z (j - 1)).reverse,mg,p,j - 1 - z))
    else if (z == 0)=true then pure (.done (some (x.extract 0 i ++ y.extract 0 z ++ (o.push v ++ (y.extract z (j - 1)).reverse).reverse),i,z,o.push v ++ (y.extract z (j - 1)).reverse,mg,p,j - 1 - z))
    else qE x y (o.push v ++ (y.extract z (j - 1)).reverse) i z mg p (j - 1 - z)
   else qE x y (o.push v) i (j - 1) mg p (j - 1 - z)
  | _=>pure (.done (some (x.extract 0 i ++ y.extract 0 (j - 1) ++ (o.push v).reverse),i,j - 1,o.push v,mg,p,q))
def qG (x y o:Array Keyed) (i j mg p q:Nat):StateT SortSt Sem (ForInStep LH):=do
 m8 mg
 let v <- elem' y (j - 1)
 match <- jX false v x 0 i (i - 1) with
 | some z=>
  if i - z > 0 then
   if (z == 0)=true then pure (.done (some (x.extract 0 z ++ y.extract 0 j ++ (o ++ (x.extract z i).reverse).reverse),z,j,o ++ (x.extract z i).reverse,mg,i - z,q))
   else qF x y (o ++ (x.extract z i).reverse) z j mg (i - z) q
  else qF x y o i j mg (i - z) q
 | _=>pure (.done (some (x.extract 0 i ++ y.extract 0 j ++ o.reverse),i,j,o,mg,p,q))
def uT (x y o:Array Keyed) (i j mg p q:Nat):StateT SortSt Sem LH:=forIn [0:x.size+y.size] ((none,i,j,o,mg,p,q):LH) fun _ r=>
 if r.2.2.2.2.1 > 1 then qG x y r.2.2.2.1 r.2.1 r.2.2.1 (r.2.2.2.2.1 - 1) r.2.2.2.2.2.1 r.2.2.2.2.2.2 else qG x y r.2.2.2.1 r.2.1 r.2.2.1 r.2.2.2.2.1 r.2.2.2.2.2.1 r.2.2.2.2.2.2
def uU (x y o:Array Keyed) (i j mg:Nat):StateT SortSt Sem uS:=forIn [0:x.size+y.size] ((none,i,j,o,0,0):uS) fun _ r=>do
 let v <- elem' y (r.2.2.1 - 1)
 let u <- elem' x (r.2.1 - 1)
 match <- lt' v u with
 | some q=>
  if q=true then do
   let u <- elem' x (r.2.1 - 1)
   if (r.2.1 - 1 == 0)=true then pure (.done (some (x.extract 0 (r.2.1 - 1) ++ y.extract 0 r.2.2.1 ++ (r.2.2.2.1.push u).reverse),r.2.1 - 1,r.2.2.1,r.2.2.2.1.push u,r.2.2.2.2.1+1,0))
   else if r.2.2.2.2.1+1 >= mg then pure (.done (none,r.2.1 - 1,r.2.2.1,r.2.2.2.1.push u,r.2.2.2.2.1+1,0)) else pure (.yield (none,r.2.1 - 1,r.2.2.1,r.2.2.2.1.push u,r.2.2.2.2.1+1,0))
  else do
   let v <- elem' y (r.2.2.1 - 1)
   if (r.2.2.1 - 1 == 1)=true then pure (.done (some (y.extract 0 (r.2.2.1 - 1) ++ x.extract 0 r.2.1 ++ (r.2.2.2.1.push v).reverse),r.2.1,r.2.2.1 - 1,r.2.2.2.1.push v,0,r.2.2.2.2.2+1))
   else if r.2.2.2.2.2+1 >= mg then pure (.done (none,r.2.1,r.2.2.1 - 1,r.2.2.2.1.push v,0,r.2.2.2.2.2+1)) else pure (.yield (none,r.2.1,r.2.2.1 - 1,r.2.2.2.1.push v,0,r.2.2.2.2.2+1))
 | _=>pure (.done (some (x.extract 0 r.2.1 ++ y.extract 0 r.2.2.1 ++ r.2.2.2.1.reverse),r.2.1,r.2.2.1,r.2.2.2.1,r.2.2.2.2.1,r.2.2.2.2.2))
def E7 (x y o:Array Keyed) (i j mg:Nat):StateT SortSt Sem LP:=forIn [0:x.size+y.size] ((none,i,j,o,mg):LP) fun _ r=>do
 let u <- uU x y r.2.2.2.1 r.2.1 r.2.2.1 r.2.2.2.2
 match u.1 with
 | some z=>pure (.done (some z,u.2.1,u.2.2.1,u.2.2.2.1,r.2.2.2.2))
 | none=>do
  liftM (rule "list.sort.gallop")
  let v <- uT x y u.2.2.2.1 u.2.1 u.2.2.1 (r.2.2.2.2+1) u.2.2.2.2.1 u.2.2.2.2.2
  match v.1 with
  | some z=>pure (.done (some z,v.2.1,v.2.2.1,v.2.2.2.1,v.2.2.2.2.1))
  | none=>do
   m8 (v.2.2.2.2.1+1)
   pure (.yield (none,v.2.1,v.2.2.1,v.2.2.2.1,v.2.2.2.2.1+1))
theorem au1 (x y:Array Keyed):uR x y=(do
 liftM (rule "list.sort.merge-hi")
 let v <- elem' x (x.size - 1)
 if (x.size - 1 == 0)=true then pure (x.extract 0 (x.size - 1) ++ y.extract 0 y.size ++ (#[v]:Array Keyed).reverse)
 else if (y.size == 1)=true then pure (y.extract 0 y.size ++ x.extract 0 (x.size - 1) ++ (#[v]:Array Keyed).reverse)
 else do
  let z <- get
  let r <- E7 x y #[v] (x.size - 1) y.size (gallopOf z)
  match r.1 with
  | some z=>pure z
  | none=>unsupported "internal:list.sort.merge-bound"):=by kernel_rfl
structure MH (rk:Keyed->Int) (xs ys o:List Keyed) (i j:Nat):Prop where
 pm:o.Perm (xs.drop i ++ ys.drop j)
 sx:Sd rk (xs.take i ++ o)
 sy:Sd rk (ys.take j ++ o)
variable {rk : Keyed → Int} {xs ys o : List Keyed} {i j : Nat}
theorem Sd.insR {o a b d:List Keyed} (h1:Sd rk (a ++ o)) (h2:Sd rk ((d ++ b) ++ o)) (h:∀ t ∈ a,∀ u ∈ b,rk t<=rk u):Sd rk (a ++ (b ++ o)):=by
 unfold Sd at *
 obtain ⟨p1,p2,p3⟩:=aU7.mp h1
 obtain ⟨q1,q2,q3⟩:=aU7.mp h2
 obtain ⟨r1,r2,r3⟩:=aU7.mp q1
 refine aU7.mpr ⟨p1,aU7.mpr ⟨r2,p2,fun u hu t ht=>q3 u (aU2 _ hu) t ht⟩,fun u hu t ht=>?_⟩
 rcases aV0.mp ht with z | z
 ·exact h u hu t z
 ·exact p3 u hu t z
theorem qH (l:List Keyed) {z j:Nat} (h:z<=j):l.take z ++ (l.take j).drop z=l.take j:=by
 have e:l.take z=(l.take j).take z:=by rw [List.take_take,Nat.min_eq_left h]
 rw [e]; exact aV1 z _
theorem uV (l:List Keyed) {z j:Nat} (h:z<=j):(l.take j).drop z ++ l.drop j=l.drop z:=by
 rw [bg9,show l.drop j=(l.drop z).drop (j - z) by rw [List.drop_drop,Nat.add_sub_cancel' h]]
 exact aV1 _ _
theorem MH.ofy (m:MH rk xs ys o i j) {z:Nat} (hz:z<=j) (h:∀ t ∈ xs.take i,∀ u ∈ (ys.take j).drop z,rk t<=rk u):MH rk xs ys ((ys.take j).drop z ++ o) i z:=by
 refine⟨?_,Sd.insR m.sx (d:=ys.take z) (by rw [qH _ hz]; exact m.sy) h,by rw [<- aT1,qH _ hz]; exact m.sy⟩
 rw [<- uV ys hz]
 refine (m.pm.append_left _).trans ?_
 rw [<- aT1,<- aT1]
 exact (aY1).append_right _
theorem MH.ofx (m:MH rk xs ys o i j) {z:Nat} (hz:z<=i) (h:∀ t ∈ ys.take j,∀ u ∈ (xs.take i).drop z,rk t<=rk u):MH rk xs ys ((xs.take i).drop z ++ o) z j:=by
 refine⟨?_,by rw [<- aT1,qH _ hz]; exact m.sx,Sd.insR m.sy (d:=xs.take z) (by rw [qH _ hz]; exact m.sx) h⟩
 rw [<- uV xs hz,aT1]
 exact m.pm.append_left _
theorem MH.fin (m:MH rk xs ys o i j) (h:i=0 ∨ j=0):(xs.take i ++ ys.take j ++ o).Perm (xs ++ ys)/\Sd rk (xs.take i ++ ys.take j ++ o):=by
 refine⟨?_,?_⟩
 ·have e1:xs=xs.take i ++ xs.drop i:=(aV1 i xs).symm
  have e2:ys=ys.take j ++ ys.drop j:=(aV1 j ys).symm
  conv=>rhs; rw [e1,e2]
  rw [aT1,aT1]
  refine bf5 _ ((m.pm.append_left _).trans ?_)
  rw [<- aT1,<- aT1]
  exact (aY1).append_right _
 ·rcases h with h | h
  ·subst h; simpa using m.sy
  ·subst h; simpa using m.sx
theorem MH.fst (m:MH rk xs ys o i j) (h:∀ t ∈ ys.take j,∀ u ∈ xs,rk t<=rk u):(ys.take j ++ xs.take i ++ o).Perm (xs ++ ys)/\Sd rk (ys.take j ++ xs.take i ++ o):=by
 have m2:=m.ofx (ba7 i) fun t ht u hu=>h t ht u (bg3 (List.mem_of_mem_drop hu))
 have f:=m2.fin (.inl rfl)
 simpa using f
theorem nW {x:Array Keyed}{i:Nat}{u:Keyed} (h:u ∈ x.toList.take i):∃ t,t < i/\t < x.size/\rk u=Kr rk x t:=by
 obtain ⟨t,ht,e⟩:=aY2 h
 have h1:t < i/\t < x.size:=by simp at ht; omega
 refine⟨t,h1.1,h1.2,?_⟩
 rw [c8 h1.2,<- e]
 simp
theorem nX {x:Array Keyed}{z i:Nat}{u:Keyed} (h:u ∈ (x.toList.take i).drop z):∃ t,z<=t/\t < i/\t < x.size/\rk u=Kr rk x t:=by
 obtain ⟨t,ht,e⟩:=aY2 h
 have h1:z+t < i/\z+t < x.size:=by simp at ht; omega
 refine⟨z+t,by omega,h1.1,h1.2,?_⟩
 rw [c8 h1.2,<- e]
 simp
theorem l5 (x:Array Keyed) (z i:Nat):(x.extract z i).toList=(x.toList.take i).drop z:=by
 rw [bg9]; simp [List.extract]
theorem qI (x:Array Keyed) (i:Nat):(x.extract 0 i).toList=x.toList.take i:=by
 simp [List.extract]
theorem nY {x:Array Keyed}{i:Nat} (h:i < x.size) : [x[i]]=(x.toList.take (i+1)).drop i:=by
 rw [bg9,l4 h,show i+1 - i=1 by omega]
section
variable {κ : SortKind} {st : SortSt} {prog : Program} {w : World} {A : Around} {E : Value → Shared → Prop} {s : Shared} {Ok : Keyed → Prop}
theorem MH.y1 {x y o:Array Keyed} (m:MH rk x.toList y.toList o.toList.reverse i (j+1)) (hj:j < y.size) (h:∀ t,t < i->t < x.size->Kr rk x t<=rk y[j]):MH rk x.toList y.toList (o.push y[j]).toList.reverse i j:=by
 have:=m.ofy (Nat.le_succ j) fun t ht u hu=>?_
 ·rw [<- nY hj] at this; simpa using this
 ·rw [<- nY hj,aR9] at hu
  subst hu
  obtain ⟨q,q1,q2,q3⟩:=nW (rk:=rk) ht
  rw [q3]; exact h q q1 q2
theorem MH.x1 {x y o:Array Keyed} (m:MH rk x.toList y.toList o.toList.reverse (i+1) j) (hi:i < x.size) (h:∀ t,t < j->t < y.size->Kr rk y t<=rk x[i]):MH rk x.toList y.toList (o.push x[i]).toList.reverse i j:=by
 have:=m.ofx (Nat.le_succ i) fun t ht u hu=>?_
 ·rw [<- nY hi] at this; simpa using this
 ·rw [<- nY hi,aR9] at hu
  subst hu
  obtain ⟨q,q1,q2,q3⟩:=nW (rk:=rk) ht
  rw [q3]; exact h q q1 q2
theorem MH.yk {x y o:Array Keyed} (m:MH rk x.toList y.toList o.toList.reverse i j) {z:Nat} (hz:z<=j) (h:∀ t p,t < i->t < x.size->z<=p->p < j->p < y.size->Kr rk x t<=Kr rk y p):MH rk x.toList y.toList (o ++ (y.extract z j).reverse).toList.reverse i z:=by
 have:=m.ofy hz fun t ht u hu=>?_
 ·rw [<- l5] at this; simpa using this
 ·obtain ⟨q,q1,q2,q3⟩:=nW (rk:=rk) ht
  obtain ⟨p,p1,p2,p3,p4⟩:=nX (rk:=rk) hu
  rw [q3,p4]; exact h q p q1 q2 p1 p2 p3
theorem MH.xk {x y o:Array Keyed} (m:MH rk x.toList y.toList o.toList.reverse i j) {z:Nat} (hz:z<=i) (h:∀ t p,t < j->t < y.size->z<=p->p < i->p < x.size->Kr rk y t<=Kr rk x p):MH rk x.toList y.toList (o ++ (x.extract z i).reverse).toList.reverse z j:=by
 have:=m.ofx hz fun t ht u hu=>?_
 ·rw [<- l5] at this; simpa using this
 ·obtain ⟨q,q1,q2,q3⟩:=nW (rk:=rk) ht
  obtain ⟨p,p1,p2,p3,p4⟩:=nX (rk:=rk) hu
  rw [q3,p4]; exact h q p q1 q2 p1 p2 p3
theorem MH.done {x y o:Array Keyed} (m:MH rk x.toList y.toList o.toList.reverse i j) (hh:i=0 ∨ j=0):dX rk x y (x.extract 0 i ++ y.extract 0 j ++ o.reverse):=by
 unfold dX
 rw [aY3,aY3,qI,qI,Array.toList_reverse]
 exact m.fin hh
theorem MH.frst {x y o:Array Keyed} (m:MH rk x.toList y.toList o.toList.reverse i j) (y0:0 < y.size) (hf:∀ t ∈ x.toList,rk y[0]<=rk t) (hh:j=1):dX rk x y (y.extract 0 j ++ x.extract 0 i ++ o.reverse):=by
 unfold dX
 rw [aY3,aY3,qI,qI,Array.toList_reverse]
 refine m.fst fun t ht u hu=>?_
 subst hh
 obtain ⟨q,q1,q2,q3⟩:=nW (rk:=rk) ht
 have e:q=0:=by omega
 subst e
 rw [q3,c8 y0]
 exact hf u hu
structure HB (rk:Keyed->Int) (x y:Array Keyed) (lb i j:Nat) (o:Array Keyed):Prop where
 m:MH rk x.toList y.toList o.toList.reverse i j
 i0:0 < i
 i1:i < x.size
 j0:1 < j
 j1:j<=y.size
 pr:i+j+lb<=x.size+y.size
def HI (rk:Keyed->Int) (x y:Array Keyed) (lb:Nat) (st:SortSt) (c:LH) (st':SortSt):Prop:=Gq st st'/\∃ i j o mg p q,c=(none,i,j,o,mg,p,q)/\HB rk x y lb i j o
def HQ (rk:Keyed->Int) (x y:Array Keyed) (lb:Nat) (st:SortSt) (c:LH) (st':SortSt):Prop:=Gq st st'/\((∃ r i j o mg p q,c=(some r,i,j,o,mg,p,q)/\dX rk x y r) ∨ ∃ i j o mg p q,c=(none,i,j,o,mg,p,q)/\HB rk x y lb i j o)
def HR (rk:Keyed->Int) (x y:Array Keyed) (lb:Nat) (st:SortSt) (r:ForInStep LH) (st':SortSt):Prop:=match r with | .done c=>HQ rk x y lb st c st' | .yield c=>HI rk x y lb st c st'
theorem E8 {st0:SortSt}{x y o:Array Keyed}{i j mg p q lb:Nat} (g:Gq st0 st) (b:HB rk x y lb (i+1) j o) (hm:∀ (hi:i < x.size) t,t < j->t < y.size->Kr rk y t<=rk x[i]):wpS (model prog w) A E s (qE x y o (i+1) j mg p q) (HR rk x y lb st0) st:=by
 unfold qE
 obtain ⟨m,i0,i1,j0,j1,pr⟩:=b
 have hi':i < x.size:=by omega
 have m':=m.x1 hi' (hm hi')
 simp only [Nat.add_sub_cancel]
 refine aS3 (cZ hi' ?_)
 by_cases he:(i == 0)=true
 ·rw [if_pos he]
  have he:i=0:=by simpa using he
  exact aS9 ⟨g,.inl ⟨_,_,_,_,_,_,_,rfl,m'.done (.inl he)⟩⟩
 ·rw [if_neg he]
  have he:i ≠ 0:=by simpa using he
  split
  ·exact aS9 ⟨g,.inr ⟨_,_,_,_,_,_,rfl,m',by omega,by omega,j0,j1,by omega⟩⟩
  ·exact aS9 ⟨g,_,_,_,_,_,_,rfl,m',by omega,by omega,j0,j1,by omega⟩
theorem E9 (c:cE prog w A E s κ Ok rk) {st0:SortSt} (hk:kindOf st0=κ) {x y o:Array Keyed}{i j mg p q lb:Nat} (ox:bK Ok x) (oy:bK Ok y) (sx:Sd rk x.toList) (sy:Sd rk y.toList) (y0:0 < y.size) (hf:∀ t ∈ x.toList,rk y[0]<=rk t) (g:Gq st0 st) (b:HB rk x y lb (i+1) (j+1) o)
  (hm:∀ (hj:j < y.size) t,t < i+1->t < x.size->Kr rk x t<=rk y[j]):wpS (model prog w) A E s (qF x y o (i+1) (j+1) mg p q) (HR rk x y lb st0) st:=by
 unfold qF
 obtain ⟨m,i0,i1,j0,j1,pr⟩:=b
 have hi':i < x.size:=by omega
 have hj:j < y.size:=by omega
 have m':=m.y1 hj (hm hj)
 simp only [Nat.add_sub_cancel]
 refine aS3 (cZ hj ?_)
 by_cases he:(j == 1)=true
 ·rw [if_pos he]
  have he:j=1:=by simpa using he
  exact aS9 ⟨g,.inl ⟨_,_,_,_,_,_,_,rfl,m'.frst y0 hf he⟩⟩
 ·rw [if_neg he]
  have he:j ≠ 1:=by simpa using he
  refine aS3 (cZ hi' (aS3 (m7 c (g.kd.trans hk) (ox _ (aV2 hi')) oy (by omega) (by omega) (sy.up _ _ (by omega)) fun z k1 k2 k3=>?_)))
  dsimp only
  have ux:=sx.up 0 _ (aS4 x.size)
  have mk:=m'.yk k1 fun t p ht ht' hp hp' _=>by
   have a1:=k3 p hp hp'
   rw [mB,ba5,Nat.zero_add] at a1
   have a2:=ux t i (by omega) (by omega) hi'
   rw [c8 (i:=i) hi'] at a2
   omega
  have km:∀ (hi:i < x.size) t,t < z->t < y.size->Kr rk y t<=rk x[i]:=fun _ t ht _=>by
   have a1:=k2 t ht
   rw [mB,aT6,Nat.zero_add] at a1
   omega
  by_cases hk0:j - z > 0
  ·rw [if_pos hk0]
   by_cases h1:(z == 1)=true
   ·rw [if_pos h1]
    have h1:z=1:=by simpa using h1
    exact aS9 ⟨g,.inl ⟨_,_,_,_,_,_,_,rfl,mk.frst y0 hf h1⟩⟩
   ·rw [if_neg h1]
    have h1:z ≠ 1:=by simpa using h1
    by_cases h0:(z == 0)=true
    ·rw [if_pos h0]
     have h0:z=0:=by simpa using h0
     exact aS9 ⟨g,.inl ⟨_,_,_,_,_,_,_,rfl,mk.done (.inr h0)⟩⟩
    ·rw [if_neg h0]
     have h0:z ≠ 0:=by simpa using h0
     exact E8 g ⟨mk,by omega,i1,by omega,by omega,by omega⟩ km
  ·rw [if_neg hk0]
   have e0:z=j:=by omega
   subst e0
   exact E8 g ⟨m',by omega,i1,by omega,by omega,by omega⟩ km
theorem F0 (c:cE prog w A E s κ Ok rk) {st0:SortSt} (hk:kindOf st0=κ) {x y o:Array Keyed}{i j mg p q lb:Nat} (ox:bK Ok x) (oy:bK Ok y) (sx:Sd rk x.toList) (sy:Sd rk y.toList) (y0:0 < y.size) (hf:∀ t ∈ x.toList,rk y[0]<=rk t) (g:Gq st0 st) (b:HB rk x y lb i (j+1) o) :
  wpS (model prog w) A E s (qG x y o i (j+1) mg p q) (HR rk x y lb st0) st:=by
 unfold qG
 obtain ⟨m,i0,i1,j0,j1,pr⟩:=b
 have hj:j < y.size:=by omega
 simp only [Nat.add_sub_cancel]
 refine aS3 (qD g fun st4 q4=>aS3 (cZ hj (aS3 (m7 c (q4.kd.trans hk) (oy _ (aV2 hj)) ox (by omega) (by omega) (sx.up _ _ (by omega)) fun z k1 k2 k3=>?_))))
 dsimp only
 have uy:=sy.up 0 _ (aS4 y.size)
 have mk:=m.xk k1 fun t p ht ht' hp hp' _=>by
  have a1:=k3 p hp hp'
  rw [m9,ba5,Nat.zero_add] at a1
  have a2:=uy t j (by omega) (by omega) hj
  rw [c8 (i:=j) hj] at a2
  omega
 have km:∀ (hj:j < y.size) t,t < z->t < x.size->Kr rk x t<=rk y[j]:=fun _ t ht _=>by
  have a1:=k2 t ht
  rw [m9,aT6,Nat.zero_add] at a1
  exact a1
 by_cases hk0:i - z > 0
 ·rw [if_pos hk0]
  by_cases he:(z == 0)=true
  ·rw [if_pos he]
   exact aS9 ⟨q4,.inl ⟨_,_,_,_,_,_,_,rfl,mk.done (.inl (by simpa using he))⟩⟩
  ·rw [if_neg he]
   have he:z ≠ 0:=by simpa using he
   obtain ⟨z2,rfl⟩:∃ z2,z=z2+1:=⟨z - 1,by omega⟩
   exact E9 c hk ox oy sx sy y0 hf q4 ⟨mk,by omega,by omega,j0,j1,by omega⟩ km
 ·rw [if_neg hk0]
  have e0:z=i:=by omega
  subst e0
  obtain ⟨z2,rfl⟩:∃ z2,z=z2+1:=⟨z - 1,by omega⟩
  exact E9 c hk ox oy sx sy y0 hf q4 ⟨m,i0,i1,j0,j1,pr⟩ km
theorem au2 (c:cE prog w A E s κ Ok rk) {st0:SortSt} (hk:kindOf st0=κ) {x y o:Array Keyed}{i j mg p q lb:Nat} (ox:bK Ok x) (oy:bK Ok y) (sx:Sd rk x.toList) (sy:Sd rk y.toList) (y0:0 < y.size) (hf:∀ t ∈ x.toList,rk y[0]<=rk t) (g:Gq st0 st) (b:HB rk x y lb i j o) :
  wpS (model prog w) A E s (uT x y o i j mg p q) (HQ rk x y lb st0) st:=by
 unfold uT
 refine aZ4 (I:=fun _=>HI rk x y lb st0) ?_ ?_ ⟨g,i,j,o,_,p,q,rfl,b⟩
 ·rintro t c3 st3 _ _ ⟨q3,i,j,o,mg,p,q,rfl,b3⟩
  obtain ⟨j3,rfl⟩:∃ j3,j=j3+1:=⟨j - 1,by have:=b3.j0; omega⟩
  dsimp only
  split
  ·exact bg2 (F0 c hk ox oy sx sy y0 hf q3 b3) fun r _ hr=>by cases r <;> exact hr
  ·exact bg2 (F0 c hk ox oy sx sy y0 hf q3 b3) fun r _ hr=>by cases r <;> exact hr
 ·rintro c3 st3 ⟨q3,i,j,o,mg,p,q,rfl,b3⟩
  exact⟨q3,.inr ⟨_,_,_,_,_,_,rfl,b3⟩⟩
theorem au3 (c:cE prog w A E s κ Ok rk) {st0:SortSt} (hk:kindOf st0=κ) {x y o:Array Keyed}{i j mg n:Nat}{Q:uS->SortSt->Prop} (ox:bK Ok x) (oy:bK Ok y) (sx:Sd rk x.toList) (sy:Sd rk y.toList) (y0:0 < y.size) (hf:∀ t ∈ x.toList,rk y[0]<=rk t) (g:Gq st0 st) (b:HB rk x y n i j o)
  (h1:∀ r i' j' o' p q st',Gq st0 st'->dX rk x y r->Q (some r,i',j',o',p,q) st') (h2:∀ i' j' o' p q st',Gq st0 st'->HB rk x y (n+1) i' j' o'->Q (none,i',j',o',p,q) st') :
  wpS (model prog w) A E s (uU x y o i j mg) Q st:=by
 have ux:Up rk x 0 x.size:=sx.up 0 _ (aS4 _)
 have uy:Up rk y 0 y.size:=sy.up 0 _ (aS4 _)
 unfold uU
 refine aZ4 (I:=fun t c st'=>Gq st0 st'/\∃ i j o p q,c=(none,i,j,o,p,q)/\HB rk x y (n+t) i j o) ?_ ?_ ⟨g,i,j,o,0,0,rfl,b⟩
 ·rintro t c2 st2 _ ht ⟨q2,i',j',o,p,q,rfl,m,i0,i1,j0,j1,pr⟩
  obtain ⟨i2,rfl⟩:∃ i2,i'=i2+1:=⟨i' - 1,by omega⟩
  obtain ⟨j2,rfl⟩:∃ j2,j'=j2+1:=⟨j' - 1,by omega⟩
  simp only [Nat.add_sub_cancel]
  have hi:i2 < x.size:=by omega
  have hj:j2 < y.size:=by omega
  refine aS3 (cZ hj (aS3 (cZ hi (aS3 (c _ _ (oy _ (aV2 hj)) (ox _ (aV2 hi)) st2 _ (q2.kd.trans hk) ?_)))))
  by_cases hc:rk y[j2] < rk x[i2]
  ·rw [aR3 hc]
   dsimp only
   rw [if_pos rfl]
   have m':=m.x1 hi fun t ht _=>by
    have:=uy t j2 (by omega) (by omega) hj
    rw [c8 hj] at this
    omega
   refine aS3 (cZ hi ?_)
   by_cases he:(i2 == 0)=true
   ·rw [if_pos he]
    exact aS9 (h1 _ _ _ _ _ _ _ q2 (m'.done (.inl (by simpa using he))))
   ·rw [if_neg he]
    have he:i2 ≠ 0:=by simpa using he
    split
    ·exact aS9 (h2 _ _ _ _ _ _ q2 ⟨m',by omega,by omega,j0,j1,by omega⟩)
    ·exact aS9 ⟨q2,_,_,_,_,_,rfl,m',by omega,by omega,j0,j1,by omega⟩
  ·rw [aR2 hc]
   dsimp only
   rw [if_neg aT5]
   have m':=m.y1 hj fun t ht _=>by
    have:=ux t i2 (by omega) (by omega) hi
    rw [c8 hi] at this
    omega
   refine aS3 (cZ hj ?_)
   by_cases he:(j2 == 1)=true
   ·rw [if_pos he]
    exact aS9 (h1 _ _ _ _ _ _ _ q2 (m'.frst y0 hf (by simpa using he)))
   ·rw [if_neg he]
    have he:j2 ≠ 1:=by simpa using he
    split
    ·exact aS9 (h2 _ _ _ _ _ _ q2 ⟨m',i0,i1,by omega,by omega,by omega⟩)
    ·exact aS9 ⟨q2,_,_,_,_,_,rfl,m',i0,i1,by omega,by omega,by omega⟩
 ·rintro c2 st2 ⟨q2,i',j',o,p,q,rfl,m,i0,i1,j0,j1,pr⟩
  exact h2 _ _ _ _ _ _ q2 ⟨m,i0,i1,j0,j1,by omega⟩
theorem au4 (c:cE prog w A E s κ Ok rk) (hk:kindOf st=κ) {x y:Array Keyed}{Q:Array Keyed->SortSt->Prop} (ox:bK Ok x) (oy:bK Ok y) (sx:Sd rk x.toList) (sy:Sd rk y.toList) (x0:0 < x.size) (y0:0 < y.size)
  (hf:∀ t ∈ x.toList,rk y[0]<=rk t) (hl:∀ u ∈ y.toList,rk u<=rk x[x.size - 1])
  (h:∀ r st',Gq st st'->dX rk x y r->Q r st'):wpS (model prog w) A E s (uR x y) Q st:=by
 rw [au1]
 refine aS3 (wpS_lift (be5 ⟨rfl,aS3 (cZ (by omega:x.size - 1 < x.size) ?_)⟩))
 have m0:MH rk x.toList y.toList (#[x[x.size - 1]]:Array Keyed).toList.reverse (x.size - 1) y.size:=by
  have mm:MH rk x.toList y.toList [] x.size y.size:=⟨by simp,by rw [aZ5 (by simp),aW2]; exact sx,by rw [aZ5 (by simp),aW2]; exact sy⟩
  have e:=nY (x:=x) (i:=x.size - 1) (by omega)
  rw [show x.size - 1+1=x.size by omega] at e
  have:=mm.ofx (Nat.sub_le x.size 1) fun t ht u hu=>?_
  ·rw [<- e] at this; simpa using this
  ·rw [<- e,aR9] at hu
   subst hu
   exact hl t (bg3 ht)
 by_cases e1:(x.size - 1 == 0)=true
 ·rw [if_pos e1]
  exact aS9 (h _ st (Gq.refl st) (m0.done (.inl (by simpa using e1))))
 ·rw [if_neg e1]
  have e1:x.size - 1 ≠ 0:=by simpa using e1
  by_cases e2:(y.size == 1)=true
  ·rw [if_pos e2]
   exact aS9 (h _ st (Gq.refl st) (m0.frst y0 hf (by simpa using e2)))
  ·rw [if_neg e2]
   have e2:y.size ≠ 1:=by simpa using e2
   refine aS3 (wpS_get ?_)
   unfold E7
   refine aS3 (bg2 (aZ4
    (I:=fun n c st'=>Gq st st'/\∃ i j o mg,c=(none,i,j,o,mg)/\HB rk x y (n+1) i j o)
    (Q:=fun c st'=>Gq st st'/\∃ r i j o mg,c=(some r,i,j,o,mg)/\dX rk x y r) ?_ ?_ ⟨Gq.refl st,_,_,_,_,rfl,m0,by omega,by omega,by omega,by omega,by omega⟩) ?_)
   ·rintro n c1 st1 _ hn ⟨q1,i,j,o,mg,rfl,b⟩
    dsimp only
    refine aS3 (au3 c hk ox oy sx sy y0 hf q1 b (fun r o' i' j' p q st' g md=>aS9 ⟨g,r,_,_,_,_,rfl,md⟩) fun i' j' o' p q st' g b'=>?_)
    refine aS3 (wpS_lift (be5 ⟨rfl,?_⟩))
    refine aS3 (bg2 (au2 c hk ox oy sx sy y0 hf g b') ?_)
    rintro c3 st3 ⟨q3,⟨r,i3,j3,o,mg,p,q,rfl,md⟩ | ⟨i3,j3,o,mg,p,q,rfl,b3⟩⟩
    ·exact aS9 ⟨q3,r,_,_,_,_,rfl,md⟩
    ·exact aS3 (qD q3 fun st4 q4=>aS9 ⟨q4,i3,j3,o,_,rfl,b3⟩)
   ·rintro c1 st1 ⟨q1,i,j,o,mg,rfl,b⟩
    have:=b.pr
    exact absurd this (by omega)
   ·rintro c1 st1 ⟨q1,r,i,j,o,mg,rfl,md⟩
    exact aS9 (h r _ q1 md)
end
theorem au5 (i:Nat):mergeAt' i=(do
 let z <- get
 let (some (sa,na,pw),some (sb,nb,_)):=((pendingOf z)[i]?,(pendingOf z)[i+1]?) | unsupported "internal:list.sort.pending"
 set (SortSt.mk' (kindOf z) (arrOf z) (((pendingOf z).setIfInBounds i (sa,na+nb,pw)).eraseIdxIfInBounds (i+1)) (gallopOf z) (failedOf z))
 let some k <- jX false (<- elem' (arrOf z) sb) (arrOf z) sa na 0 | return false
 let (sa,na):=(sa+k,na - k)
 if na == 0 then return true
 let some nb <- jX true (<- elem' (arrOf z) (sa+na - 1)) (arrOf z) sb nb (nb - 1) | return false
 if nb == 0 then return true
 let x:=(arrOf z).extract sa sb
 let y:=(arrOf z).extract sb (sb+nb)
 let m <- if na<=nb then uN x y else uR x y
 modify fun z=>setArr z (m.toList.zipIdx.foldl (fun a (p,j)=>a.setIfInBounds (sa+j) p) (arrOf z))
 return (failedOf (<- get)).isNone):=rfl
variable {rk : Keyed → Int}
theorem au6 {σ:Type}{M:Model}{A:Around}{E:Value->Shared->Prop}{s:Shared}{a b:σ}{Q:PUnit->σ->Prop} (h:Q ⟨⟩ a):wpS M A E s (set a:StateT σ Sem PUnit) Q b:=by
 unfold wpS; rw [StateT.run_set]; exact aR4 ⟨rfl,h⟩
theorem F1 (o:Nat):∀ (m:List Keyed) (n:Nat) (a:Array Keyed) (t:Nat),o+n+m.length<=a.size->
  ((m.zipIdx n).foldl (fun a (p,j)=>a.setIfInBounds (o+j) p) a)[t]? = if o+n<=t/\t < o+n+m.length then m[t - (o+n)]? else a[t]?
 | [],n,a,t,_=>by
  show a[t]? = _
  rw [if_neg (fun z=>Nat.not_lt_of_ge z.1 z.2)]
 | p :: m,n,a,t,h=>by
  rw [List.zipIdx_cons,List.foldl_cons]
  have h':o+(n+1)+m.length<=(a.setIfInBounds (o+n) p).size:=by rw [Array.size_setIfInBounds]; simp at h; omega
  have ih:=F1 o m (n+1) (a.setIfInBounds (o+n) p) t h'
  refine ih.trans ?_
  have hs:o+n < a.size:=by simp at h; omega
  rw [Array.getElem?_setIfInBounds]
  by_cases e:o+n=t
  ·subst e
   rw [if_neg (by omega),if_pos rfl,if_pos hs,if_pos (by simp),Nat.sub_self]; rfl
  ·rw [if_neg e]
   by_cases c:o+n<=t/\t < o+n+(p :: m).length
   ·rw [if_pos c,if_pos (by simp at c; omega)]
    rw [show t - (o+n)=(t - (o+(n+1)))+1 by omega]; rfl
   ·rw [if_neg c,if_neg (by simp at c ⊢; omega)]
theorem F2 {a:Array Keyed}{lo hi:Nat} (u:Up rk a lo hi) (hh:hi<=a.size):Sd rk (a.extract lo hi).toList:=by
 unfold Sd
 rw [aX3]
 intro i j hi' hj hij
 have h2:lo+j < hi:=by simp at hj; omega
 have:=u (lo+i) (lo+j) (by omega) (by omega) h2
 rw [c8 (by omega:lo+i < a.size),c8 (by omega:lo+j < a.size)] at this
 simpa using this
theorem F3 {a:Array Keyed}{lo mid hi:Nat} (u:Up rk a lo mid) (v:Up rk a mid hi) (h0:lo < mid) (h1:mid < hi) (h:Kr rk a (mid - 1)<=Kr rk a mid):Up rk a lo hi:=fun i j hi' hij hj=>by
 rcases aV9 j mid with z | z
 ·exact u i j hi' hij z
 ·rcases aV9 i mid with y | y
  ·have a1:=u i (mid - 1) hi' (by omega) (by omega)
   have a2:=v mid j (aS4 _) z hj
   omega
  ·exact v i j y hij hj
theorem F4 {a:Array Keyed}{lo hi t:Nat} (h:t < hi - lo) (hh:hi<=a.size):Kr rk (a.extract lo hi) t=Kr rk a (lo+t):=by
 refine kZ ?_
 rw [Array.getElem?_extract_of_lt (by omega)]
 exact (getElem?_pos a (lo+t) (by omega)).symm
section
variable {κ : SortKind} {a0 : Array Keyed} {pd : Array (Nat × Nat × Nat)} {st : SortSt} {prog : Program} {w : World} {A : Around} {E : Value → Shared → Prop} {s : Shared} {Ok : Keyed → Prop}
theorem au7 {a m:Array Keyed}{p x e:Nat} (hpx:p<=x) (hxe:x<=e) (he:e<=a.size) (md:dX rk (a.extract p x) (a.extract x e) m) :
  let r:=m.toList.zipIdx.foldl (fun a (q,j)=>a.setIfInBounds (p+j) q) a
  r.Perm a/\(∀ t,(t < p ∨ e<=t)->Kr rk r t=Kr rk a t)/\(∀ t t',p<=t->t<=t'->t' < e->Kr rk r t<=Kr rk r t')/\∀ t,p<=t->t < e->∃ t',p<=t'/\t' < e/\Kr rk r t=Kr rk a t':=by
 intro r
 have ml:m.toList.length=e - p:=by
  rw [md.1.length_eq]; simp; omega
 have g:∀ t,r[t]? = if p<=t/\t < e then m[t - p]? else a[t]?:=fun t=>by
  have:=F1 p m.toList 0 a t (by omega)
  rw [show r=(m.toList.zipIdx 0).foldl (fun a (q,j)=>a.setIfInBounds (p+j) q) a from rfl,this]
  simp only [Nat.add_zero,ml,show p+(e - p)=e by omega,bb9]
 have ex:(a.extract p x).toList ++ (a.extract x e).toList=(a.toList.take e).drop p:=by
  rw [l5,l5,bg9,bg9,bg9]
  rw [show x=p+(x - p) by omega,<- List.drop_drop,show p+(x - p) - p=x - p by omega,show e - (p+(x - p))=(e - p) - (x - p) by omega]
  have:=aV1 (x - p) ((a.toList.drop p).take (e - p))
  rw [List.take_take,bg9,Nat.min_eq_left (by omega)] at this
  exact this
 have rl:r.toList=a.toList.take p ++ (m.toList ++ a.toList.drop e):=by
  apply List.ext_getElem?
  intro t
  rw [bb9,g]
  rcases aV9 t p with z | z
  ·rw [if_neg (by omega),bd3 (by simp; omega),List.getElem?_take_of_lt z,bb9]
  ·rw [bf0 (by simp; omega)]
   have lp:(a.toList.take p).length=p:=by simp; omega
   rw [lp]
   rcases aV9 t e with y | y
   ·rw [if_pos ⟨z,y⟩,bd3 (by omega),bb9]
   ·rw [if_neg (by omega),bf0 (by omega),ml,List.getElem?_drop,bb9]
    congr 1; omega
 have mp:m.toList.Perm ((a.toList.take e).drop p):=ex ▸ md.1
 refine⟨?_,fun t ht=>kZ (by rw [g,if_neg (by omega)]),fun t t' h1 h2 h3=>?_,fun t h1 h2=>?_⟩
 ·refine Array.perm_iff_toList_perm.mpr ?_
  rw [rl]
  have:a.toList=a.toList.take p ++ ((a.toList.take e).drop p ++ a.toList.drop e):=by
   rw [uV _ (by omega:p<=e)]; exact (aV1 p _).symm
  conv=>rhs; rw [this]
  exact (mp.append_right _).append_left _
 ·have e1:Kr rk r t=Kr rk m (t - p):=kZ (by rw [g,if_pos (by omega)])
  have e2:Kr rk r t'=Kr rk m (t' - p):=kZ (by rw [g,if_pos (by omega)])
  rw [e1,e2]
  have ms:m.size=e - p:=by rw [<- ml]; simp
  exact md.2.up 0 m.size (aS4 _) (t - p) (t' - p) (by omega) (by omega) (by omega)
 ·have e1:Kr rk r t=Kr rk m (t - p):=kZ (by rw [g,if_pos (by omega)])
  have ms:m.size=e - p:=by rw [<- ml]; simp
  have hm:t - p < m.size:=by omega
  have mm:m[t - p] ∈ (a.toList.take e).drop p:=mp.mem_iff.mp (by simp)
  obtain ⟨t',q1,q2,q3,q4⟩:=nX (rk:=rk) mm
  exact⟨t',q1,q2,by rw [e1,c8 hm]; exact q4⟩
theorem au8 (c:cE prog w A E s κ Ok rk) (o:bK Ok a0) (b:SB κ a0 pd st) {i sa na pw sb nb pw':Nat}{Q:Bool->SortSt->Prop} (e1:pd[i]? = some (sa,na,pw)) (e2:pd[i+1]? = some (sb,nb,pw')) (hs:sb=sa+na) (n0:0 < na) (m0:0 < nb) (hz:sb+nb<=a0.size)
  (u:Up rk (arrOf st) sa sb) (v:Up rk (arrOf st) sb (sb+nb))
  (h:∀ st',SB κ a0 ((pd.setIfInBounds i (sa,na+nb,pw)).eraseIdxIfInBounds (i+1)) st'->Up rk (arrOf st') sa (sb+nb)->(∀ t,(t < sa ∨ sb+nb<=t)->Kr rk (arrOf st') t=Kr rk (arrOf st) t)->Q true st'):wpS (model prog w) A E s (mergeAt' i) Q st:=by
 have sz:=b.sz
 rw [au5]
 refine aS3 (wpS_get ?_)
 rw [b.pd,e1,e2]
 dsimp only
 refine aS3 (au6 ?_)
 generalize hst:SortSt.mk' (kindOf st) (arrOf st) ((pd.setIfInBounds i (sa,na+nb,pw)).eraseIdxIfInBounds (i+1)) (gallopOf st) (failedOf st)=st1
 have b1:SB κ a0 ((pd.setIfInBounds i (sa,na+nb,pw)).eraseIdxIfInBounds (i+1)) st1:=by rw [<- hst]; exact⟨b.pm,b.kd,b.ok,rfl⟩
 have ar:arrOf st1=arrOf st:=by rw [<- hst]
 have oa:=b.all o
 have hsb:sb < (arrOf st).size:=by omega
 refine aS3 (cZ hsb (aS3 (m7 c b1.kd (oa _ (aV2 hsb)) oa n0 (by omega) (hs ▸ u) fun k k1 k2 k3=>?_)))
 dsimp only
 have k2':∀ t,sa<=t->t < sa+k->Kr rk (arrOf st) t<=Kr rk (arrOf st) sb:=fun t t1 t2=>by
  have:=k2 (t - sa) (by omega)
  rw [m9,aT6,show sa+(t - sa)=t by omega] at this
  rw [c8 hsb]; exact this
 have k3':∀ t,sa+k<=t->t < sb->Kr rk (arrOf st) sb < Kr rk (arrOf st) t:=fun t t1 t2=>by
  have:=k3 (t - sa) (by omega) (by omega)
  rw [m9,ba5,show sa+(t - sa)=t by omega] at this
  rw [c8 hsb]; omega
 by_cases ek:(na - k == 0)=true
 ·rw [if_pos ek]
  have ek:na - k=0:=by simpa using ek
  refine aS9 (h st1 b1 ?_ fun t _=>by rw [ar])
  rw [ar]
  exact F3 u v (by omega) (by omega) (k2' (sb - 1) (by omega) (by omega))
 ·rw [if_neg ek]
  have ek:na - k ≠ 0:=by simpa using ek
  have el:sa+k+(na - k) - 1=sb - 1:=by omega
  rw [el]
  have hsl:sb - 1 < (arrOf st).size:=by omega
  refine aS3 (cZ hsl (aS3 (m7 c b1.kd (oa _ (aV2 hsl)) oa (by omega) (by omega) v fun l l1 l2 l3=>?_)))
  dsimp only
  have l2':∀ t,sb<=t->t < sb+l->Kr rk (arrOf st) t < Kr rk (arrOf st) (sb - 1):=fun t t1 t2=>by
   have:=l2 (t - sb) (by omega)
   rw [mB,aT6,show sb+(t - sb)=t by omega] at this
   rw [c8 hsl]; exact this
  have l3':∀ t,sb+l<=t->t < sb+nb->Kr rk (arrOf st) (sb - 1)<=Kr rk (arrOf st) t:=fun t t1 t2=>by
   have:=l3 (t - sb) (by omega) (by omega)
   rw [mB,ba5,show sb+(t - sb)=t by omega] at this
   rw [c8 hsl]; omega
  by_cases en:(l == 0)=true
  ·rw [if_pos en]
   have en:l=0:=by simpa using en
   subst en
   refine aS9 (h st1 b1 ?_ fun t _=>by rw [ar])
   rw [ar]
   exact F3 u v (by omega) (by omega) (l3' sb (by omega) (by omega))
  ·rw [if_neg en]
   have en:l ≠ 0:=by simpa using en
   have sub:∀ p e,bK Ok ((arrOf st).extract p e):=fun p e z hz=>oa z (by
    have:z ∈ ((arrOf st).extract p e).toList:=Array.mem_toList_iff.mpr hz
    rw [l5] at this
    exact Array.mem_toList_iff.mp (bg3 (List.mem_of_mem_drop this)))
   have sx:Sd rk ((arrOf st).extract (sa+k) sb).toList:=F2 (fun i j h1 h2 h3=>u i j (by omega) h2 h3) (by omega)
   have sy:Sd rk ((arrOf st).extract sb (sb+l)).toList:=F2 (fun i j h1 h2 h3=>v i j h1 h2 (by omega)) (by omega)
   have x0:0 < ((arrOf st).extract (sa+k) sb).size:=by simp; omega
   have y0:0 < ((arrOf st).extract sb (sb+l)).size:=by simp; omega
   have hf:∀ t ∈ ((arrOf st).extract (sa+k) sb).toList,rk ((arrOf st).extract sb (sb+l))[0]<=rk t:=fun t ht=>by
    rw [l5] at ht
    obtain ⟨t',q1,q2,q3,q4⟩:=nX (rk:=rk) ht
    rw [q4,<- c8 (rk:=rk) y0,F4 (by omega) (by omega)]
    exact Int.le_of_lt (k3' t' q1 q2)
   have hl:∀ t ∈ ((arrOf st).extract sb (sb+l)).toList,rk t<=rk ((arrOf st).extract (sa+k) sb)[((arrOf st).extract (sa+k) sb).size - 1]:=fun t ht=>by
    rw [l5] at ht
    obtain ⟨t',q1,q2,q3,q4⟩:=nX (rk:=rk) ht
    have e:((arrOf st).extract (sa+k) sb).size=sb - (sa+k):=by simp; omega
    rw [q4,<- c8 (rk:=rk) (by omega),F4 (by omega) (by omega),e,show sa+k+(sb - (sa+k) - 1)=sb - 1 by omega]
    exact Int.le_of_lt (l2' t' q1 q2)
   have fin:∀ (m:Array Keyed) (st2:SortSt),Gq st1 st2->dX rk ((arrOf st).extract (sa+k) sb) ((arrOf st).extract sb (sb+l)) m->
     wpS (model prog w) A E s (do modify (fun z=>setArr z (m.toList.zipIdx.foldl (fun a (p,j)=>a.setIfInBounds (sa+k+j) p) (arrOf z))); return (failedOf (<- get)).isNone) Q st2:=fun m st2 g md=>by
    have b2:SB κ a0 ((pd.setIfInBounds i (sa,na+nb,pw)).eraseIdxIfInBounds (i+1)) st2:=⟨by rw [g.ar]; exact b1.pm,g.kd.trans b1.kd,g.ok.trans b1.ok,g.pd.trans b1.pd⟩
    have a2:arrOf st2=arrOf st:=g.ar.trans ar
    obtain ⟨r1,r2,r3,r4⟩:=au7 (by omega) (by omega) (by omega) md
    generalize hr:m.toList.zipIdx.foldl (fun a (q,j)=>a.setIfInBounds (sa+k+j) q) (arrOf st)=r at r1 r2 r3 r4
    refine aS3 (wpS_modify (aS3 (wpS_get (aS9 ?_))))
    have b3:=b2.put (xs:=m.toList.zipIdx.foldl (fun a (q,j)=>a.setIfInBounds (sa+k+j) q) (arrOf st2)) (by rw [a2,hr]; exact r1)
    have er:arrOf (setArr st2 (m.toList.zipIdx.foldl (fun a (q,j)=>a.setIfInBounds (sa+k+j) q) (arrOf st2)))=r:=by rw [<- hr,a2]
    have tr:(failedOf (setArr st2 (m.toList.zipIdx.foldl (fun a (q,j)=>a.setIfInBounds (sa+k+j) q) (arrOf st2)))).isNone=true:=by rw [b3.ok]; rfl
    rw [tr]
    refine h _ b3 (fun i j hi hij hj=>?_) fun t ht=>?_
    ·rw [er]
     have bl:∀ t,sa<=t->t < sa+k->∀ t',sa+k<=t'->t' < sb+l->Kr rk (arrOf st) t<=Kr rk (arrOf st) t':=fun t t1 t2 t' t3 t4=>by
      rcases aV9 t' sb with z | z
      ·exact u t t' t1 (by omega) z
      ·have a1:=k2' t t1 t2
       have a2:=v sb t' (aS4 _) z (by omega)
       omega
     have br:∀ t,sb+l<=t->t < sb+nb->∀ t',sa+k<=t'->t' < sb+l->Kr rk (arrOf st) t'<=Kr rk (arrOf st) t:=fun t t1 t2 t' t3 t4=>by
      rcases aV9 t' sb with z | z
      ·have a1:=u t' (sb - 1) (by omega) (by omega) (by omega)
       have a2:=l3' t t1 t2
       omega
      ·exact v t' t z (by omega) t2
     have blr:∀ t,sa<=t->t < sa+k->∀ t',sb+l<=t'->t' < sb+nb->Kr rk (arrOf st) t<=Kr rk (arrOf st) t':=fun t t1 t2 t' t3 t4=>by
      have a1:=bl t t1 t2 (sb - 1) (by omega) (by omega)
      have a2:=l3' t' t3 t4
      omega
     rcases aV9 i (sa+k) with z | z
     ·rw [r2 i (.inl z)]
      rcases aV9 j (sa+k) with y | y
      ·rw [r2 j (.inl y)]; exact u i j hi hij (by omega)
      ·rcases aV9 j (sb+l) with x | x
       ·obtain ⟨t',q1,q2,q3⟩:=r4 j y x
        rw [q3]; exact bl i hi z t' q1 q2
       ·rw [r2 j (.inr x)]; exact blr i hi z j x hj
     ·rcases aV9 j (sb+l) with x | x
      ·exact r3 i j z hij x
      ·rw [r2 j (.inr x)]
       rcases aV9 i (sb+l) with y | y
       ·obtain ⟨t',q1,q2,q3⟩:=r4 i z y
        rw [q3]; exact br j x hj t' q1 q2
       ·rw [r2 i (.inr y)]; exact v i j (by omega) hij hj
    ·rw [er]; exact r2 t (by omega)
   by_cases hle:na - k<=l
   ·rw [if_pos hle]
    exact aS3 (au0 c b1.kd (sub _ _) (sub _ _) sx sy x0 y0 hf hl fun m st2 g md=>fin m st2 g md)
   ·rw [if_neg hle]
    exact aS3 (au4 c b1.kd (sub _ _) (sub _ _) sx sy x0 y0 hf hl fun m st2 g md=>fin m st2 g md)
end
def Ch:Nat->List (Nat × Nat)->Nat->Prop
 | a,[],b=>a=b
 | a,(p,n) :: r,b=>p=a/\0 < n/\Ch (a+n) r b
theorem Ch.split:∀ {l l':List (Nat × Nat)}{a b:Nat},Ch a (l ++ l') b->∃ m,Ch a l m/\Ch m l' b
 | [],_,a,_,h=>⟨a,rfl,h⟩
 | (p,n) :: l,l',a,b,h=>by
  obtain ⟨h1,h2,h3⟩:=h
  obtain ⟨m,q1,q2⟩:=Ch.split h3
  exact⟨m,⟨h1,h2,q1⟩,q2⟩
theorem Ch.join:∀ {l l':List (Nat × Nat)}{a m b:Nat},Ch a l m->Ch m l' b->Ch a (l ++ l') b
 | [],_,a,m,_,h,h'=>by cases (show a=m from h); exact h'
 | (p,n) :: l,l',a,m,b,h,h'=>⟨h.1,h.2.1,Ch.join h.2.2 h'⟩
theorem Ch.len:∀ {l:List (Nat × Nat)}{a b:Nat},Ch a l b->a+l.length<=b
 | [],a,b,h=>by cases (show a=b from h); simp
 | (p,n) :: l,a,b,h=>by
  have:=Ch.len h.2.2
  have:=h.2.1
  simp; omega
theorem Ch.mem:∀ {l:List (Nat × Nat)}{a b:Nat}{r:Nat × Nat},Ch a l b->r ∈ l->a<=r.1/\r.1+r.2<=b/\0 < r.2
 | (p,n) :: l,a,b,r,h,hr=>by
  obtain ⟨h1,h2,h3⟩:=h
  have hb:=Ch.len h3
  rcases aR7.mp hr with e | e
  ·subst e
   have h1:p=a:=h1
   refine⟨?_,?_,h2⟩
   ·show a<=p; omega
   ·show p+n<=b; omega
  ·have:=Ch.mem h3 e
   exact⟨by omega,this.2.1,this.2.2⟩
def sk (pd:Array (Nat × Nat × Nat)):List (Nat × Nat):=pd.toList.map fun r=>(r.1,r.2.1)
theorem qJ (pd:Array (Nat × Nat × Nat)):(sk pd).length=pd.size:=by simp [sk]
structure Rn (rk:Keyed->Int) (a:Array Keyed) (l:List (Nat × Nat)) (lo:Nat):Prop where
 ch:Ch 0 l lo
 up:∀ r ∈ l,Up rk a r.1 (r.1+r.2)
variable {rk : Keyed → Int} {κ : SortKind} {a0 : Array Keyed} {pd : Array (Nat × Nat × Nat)} {st : SortSt} {prog : Program} {w : World} {A : Around} {E : Value → Shared → Prop} {s : Shared} {Ok : Keyed → Prop}
theorem Rn.same {a b:Array Keyed}{l:List (Nat × Nat)}{lo:Nat} (h:Rn rk a l lo) (e:∀ t,t < lo->Kr rk b t=Kr rk a t):Rn rk b l lo:=⟨h.ch,fun r hr i j hi hij hj=>by
 have:=(h.ch.mem hr).2.1
 rw [e i (by omega),e j (by omega)]
 exact h.up r hr i j hi hij hj⟩
theorem F5 (c:cE prog w A E s κ Ok rk) (o:bK Ok a0) (b:SB κ a0 pd st) {i lo:Nat}{Q:Bool->SortSt->Prop} (hi:i+1 < pd.size) (hz:lo<=a0.size) (rn:Rn rk (arrOf st) (sk pd) lo)
  (h:∀ pd' st',SB κ a0 pd' st'->pd'.size+1=pd.size->Rn rk (arrOf st') (sk pd') lo->(∀ t,lo<=t->Kr rk (arrOf st') t=Kr rk (arrOf st) t)->Q true st'):wpS (model prog w) A E s (mergeAt' i) Q st:=by
 obtain ⟨⟨sa,na,pw⟩,e1⟩:∃ r,pd[i]? = some r:=⟨pd[i],getElem?_pos pd i (by omega)⟩
 obtain ⟨⟨sb,nb,pw'⟩,e2⟩:∃ r,pd[i+1]? = some r:=⟨pd[i+1],getElem?_pos pd (i+1) hi⟩
 have d1:pd.toList=pd.toList.take i ++ (sa,na,pw) :: (sb,nb,pw') :: pd.toList.drop (i+2):=by
  have hl:i < pd.toList.length:=by simp; omega
  have hl2:i+1 < pd.toList.length:=by simpa using hi
  have g1:pd.toList[i]=(sa,na,pw):=by rw [getElem?_pos pd i (by omega)] at e1; simpa using e1
  have g2:pd.toList[i+1]=(sb,nb,pw'):=by rw [getElem?_pos pd (i+1) hi] at e2; simpa using e2
  have:=aV1 i pd.toList
  rw [bd4 hl,bd4 hl2,g1,g2] at this
  exact this.symm
 have li:(pd.toList.take i).length=i:=by simp; omega
 have d2:((pd.setIfInBounds i (sa,na+nb,pw)).eraseIdxIfInBounds (i+1)).toList=pd.toList.take i ++ (sa,na+nb,pw) :: pd.toList.drop (i+2):=by
  have e:((pd.setIfInBounds i (sa,na+nb,pw)).eraseIdxIfInBounds (i+1)).toList=(pd.toList.set i (sa,na+nb,pw)).eraseIdx (i+1):=by
   unfold Array.eraseIdxIfInBounds
   rw [dif_pos (by rw [Array.size_setIfInBounds]; exact hi),Array.toList_eraseIdx,Array.toList_setIfInBounds]
  rw [e]
  conv=>lhs; rw [d1]
  rw [List.set_append_right _ _ (by omega),li,Nat.sub_self,List.set_cons_zero,List.eraseIdx_append_of_length_le (by omega),li,show i+1 - i=1 by omega]
  rfl
 have k1:sk pd=(pd.toList.take i).map (fun r=>(r.1,r.2.1)) ++ (sa,na) :: (sb,nb) :: (pd.toList.drop (i+2)).map (fun r=>(r.1,r.2.1)):=by
  unfold sk; conv=>lhs; rw [d1]
  simp
 have k2:sk ((pd.setIfInBounds i (sa,na+nb,pw)).eraseIdxIfInBounds (i+1))=(pd.toList.take i).map (fun r=>(r.1,r.2.1)) ++ (sa,na+nb) :: (pd.toList.drop (i+2)).map (fun r=>(r.1,r.2.1)):=by
  unfold sk; rw [d2]
  simp
 have ch:=rn.ch
 rw [k1] at ch
 obtain ⟨m,c1,c2⟩:=ch.split
 obtain ⟨f1,f2,f3,f4,f5⟩:=c2
 have f1:sa=m:=f1
 have f3:sb=m+na:=f3
 have up:=rn.up
 rw [k1] at up
 have lo2:=f5.len
 refine au8 c o b e1 e2 (by omega) f2 f4 (by omega) (by have:=up (sa,na) (by simp); rw [f3,<- f1]; exact this) (up (sb,nb) (by simp)) fun st' b' u' fr=>h _ st' b' ?_ ⟨?_,?_⟩ fun t ht=>fr t (by omega)
 ·rw [<- qJ,<- qJ,k1,k2]; simp; omega
 ·rw [k2]
  refine c1.join ⟨f1,by omega,?_⟩
  rw [<- Nat.add_assoc]; exact f5
 ·intro r hr
  rw [k2] at hr
  rcases aV0.mp hr with z | z
  ·intro p q h1 h2 h3
   have:=(c1.mem z).2.1
   rw [fr p (by omega),fr q (by omega)]
   exact up r (aU6 _ z) p q h1 h2 h3
  ·rcases aR7.mp z with z | z
   ·subst z
    show Up rk (arrOf st') sa (sa+(na+nb))
    rw [show sa+(na+nb)=sb+nb by omega]; exact u'
   ·intro p q h1 h2 h3
    have:=(f5.mem z).1
    rw [fr p (by omega),fr q (by omega)]
    exact up r (aU2 _ (aS2 _ (aS2 _ z))) p q h1 h2 h3
abbrev RS:=Option Unit × Nat
def F6 (sz pw:Nat):StateT SortSt Sem (Option Unit × Unit):=forIn [0:sz] ((none,()):Option Unit × Unit) fun _ _=>do
 let z <- get
 match (if (pendingOf z).size > 1 then (pendingOf z)[(pendingOf z).size - 2]? else none) with
 | some (_,_,o)=>if o<=pw then pure (.done (none,())) else do
   let q <- mergeAt' ((pendingOf z).size - 2)
   if (!q)=true then pure (.done (some (),())) else pure (.yield (none,()))
 | _=>pure (.done (none,()))
def jn (sz lo n:Nat):StateT SortSt Sem (ForInStep RS):=do
 let z <- get
 match (pendingOf z).back? with
 | some (s1,n1,_)=>do
  let r <- F6 sz (power' sz (2 * s1+n1) (2 * s1+n1+n1+n) sz)
  match r.1 with
  | some u=>pure (.done (some u,lo))
  | none=>do
   modify fun s=>setPending s ((pendingOf s).modify ((pendingOf s).size - 1) fun x=>(x.1,x.2.1,power' sz (2 * s1+n1) (2 * s1+n1+n1+n) sz))
   modify fun s=>setPending s ((pendingOf s).push (lo,n,0))
   pure (.yield (none,lo+n))
 | _=>do
  modify fun s=>setPending s ((pendingOf s).push (lo,n,0))
  pure (.yield (none,lo+n))
def F7 (sz mr lo:Nat):StateT SortSt Sem (ForInStep RS):=if lo >= sz then pure (.done (none,lo)) else do
 match <- countRun' lo (sz - lo) with
 | some n=>
  if n < mr then
   liftM (rule "list.sort.binary-insertion")
   let q <- binarySort' lo (min (sz - lo) mr) n
   if (!q)=true then pure (.done (some (),lo)) else jn sz lo (min (sz - lo) mr)
  else jn sz lo n
 | _=>pure (.done (some (),lo))
def F8 (sz:Nat):StateT SortSt Sem (Option Unit × Unit):=forIn [0:sz] ((none,()):Option Unit × Unit) fun _ _=>do
 let z <- get
 if (pendingOf z).size<=1 then pure (.done (none,())) else do
  let q <- mergeAt' (if ((if (pendingOf z).size - 2 > 0 then (pendingOf z)[(pendingOf z).size - 2 - 1]?.map (·.2.1) else none).any (· < ((pendingOf z)[(pendingOf z).size - 2+1]?.elim 0 (·.2.1))))=true then (pendingOf z).size - 2 - 1 else (pendingOf z).size - 2)
  if (!q)=true then pure (.done (some (),())) else pure (.yield (none,()))
theorem au9:sortRuns'=(do
 let z <- get
 let r <- (forIn [0:(arrOf z).size] ((none,0):RS) fun _ r=>F7 (arrOf z).size (minRun' (arrOf z).size (arrOf z).size 0) r.2)
 match r.1 with
 | some u=>pure u
 | none=>do
  let q <- F8 (arrOf z).size
  match q.1 with
  | some u=>pure u
  | none=>pure ()):=by kernel_rfl
theorem F9 {lo nn:Nat} (n1:0 < nn) {pd:Array (Nat × Nat × Nat)}{a:Array Keyed} (r:Rn rk a (sk pd) lo) (u:Up rk a lo (lo+nn)):Rn rk a (sk (pd.push (lo,nn,0))) (lo+nn):=by
 have e:sk (pd.push (lo,nn,0))=sk pd ++ [(lo,nn)]:=by simp [sk]
 refine⟨by rw [e]; exact r.ch.join ⟨rfl,n1,rfl⟩,fun q hq=>?_⟩
 rw [e] at hq
 rcases aV0.mp hq with z | z
 ·exact r.up q z
 ·rw [aR9] at z
  subst z
  exact u
theorem G0 (c:cE prog w A E s κ Ok rk) (o:bK Ok a0) (b:SB κ a0 pd st) {lo n:Nat}{Q:ForInStep RS->SortSt->Prop} (n1:1<=n) (n2:lo+n<=a0.size) (rn:Rn rk (arrOf st) (sk pd) lo) (u:Up rk (arrOf st) lo (lo+n))
  (h:∀ pd' st',SB κ a0 pd' st'->Rn rk (arrOf st') (sk pd') (lo+n)->Q (.yield (none,lo+n)) st'):wpS (model prog w) A E s (jn a0.size lo n) Q st:=by
 unfold jn
 refine aS3 (wpS_get ?_)
 rw [b.pd]
 cases hb:pd.back? with
 | none=>exact aS3 (wpS_modify (aS9 (h (pd.push (lo,n,0)) _ ⟨b.pm,b.kd,b.ok,by show (pendingOf st).push _=_; rw [b.pd]⟩ (F9 n1 rn u))))
 | some q=>
  obtain ⟨s1,m1,q3⟩:=q
  dsimp only
  generalize power' a0.size (2 * s1+m1) (2 * s1+m1+m1+n) a0.size=pw
  unfold F6
  refine aS3 (bg2 (aZ4
   (I:=fun _ r st'=>r=(none,())/\∃ pd,SB κ a0 pd st'/\Rn rk (arrOf st') (sk pd) lo/\Up rk (arrOf st') lo (lo+n))
   (Q:=fun r st'=>r=(none,())/\∃ pd,SB κ a0 pd st'/\Rn rk (arrOf st') (sk pd) lo/\Up rk (arrOf st') lo (lo+n)) ?_ (fun _ _ z=>z) ⟨rfl,pd,b,rn,u⟩) ?_)
  ·rintro t r st4 _ ht ⟨rfl,pd4,b4,r4,u4⟩
   refine aS3 (wpS_get ?_)
   rw [b4.pd]
   cases ho:(if pd4.size > 1 then pd4[pd4.size - 2]? else none) with
   | none=>exact aS9 ⟨rfl,pd4,b4,r4,u4⟩
   | some z=>
    obtain ⟨z1,z2,z3⟩:=z
    have h1:pd4.size > 1:=by
     by_cases y:pd4.size > 1
     ·exact y
     ·rw [if_neg y] at ho; cases ho
    dsimp only
    by_cases hp:z3<=pw
    ·rw [if_pos hp]
     exact aS9 ⟨rfl,pd4,b4,r4,u4⟩
    ·rw [if_neg hp]
     refine aS3 (F5 c o b4 (by omega) (by omega) r4 fun pd5 st5 b5 _ r5 f5=>?_)
     exact aS9 ⟨rfl,pd5,b5,r5,fun i j hi hij hj=>by rw [f5 i hi,f5 j (by omega)]; exact u4 i j hi hij hj⟩
  ·rintro r st4 ⟨rfl,pd4,b4,r4,u4⟩
   refine aS3 (wpS_modify (aS3 (wpS_modify (aS9 ?_))))
   have e:sk (pd4.modify (pd4.size - 1) fun x=>(x.1,x.2.1,pw))=sk pd4:=by
    unfold sk
    rw [Array.toList_modify]
    apply List.ext_getElem?
    intro t
    rw [aT4,aT4,List.getElem?_modify]
    cases pd4.toList[t]? with
    | none=>simp
    | some v=>by_cases y:pd4.size - 1=t <;> simp [y]
   refine h ((pd4.modify (pd4.size - 1) fun x=>(x.1,x.2.1,pw)).push (lo,n,0)) _ ⟨b4.pm,b4.kd,b4.ok,?_⟩ (F9 n1 (by rw [e]; exact r4) u4)
   show ((pendingOf st4).modify ((pendingOf st4).size - 1) fun x=>(x.1,x.2.1,pw)).push _=_
   rw [b4.pd]
theorem av0 (c:cE prog w A E s κ Ok rk) (o:bK Ok a0) (b:SB κ a0 #[] st) {Q:Unit->SortSt->Prop} (h2:1<=a0.size)
  (h:∀ st',(arrOf st').Perm a0->failedOf st'=none->Up rk (arrOf st') 0 a0.size->Q () st'):wpS (model prog w) A E s sortRuns' Q st:=by
 rw [au9]
 refine aS3 (wpS_get ?_)
 rw [b.sz]
 generalize minRun' a0.size a0.size 0=mr
 refine aS3 (bg2 (aZ4
  (I:=fun x r st'=>∃ lo pd,r=(none,lo)/\x<=lo/\lo<=a0.size/\SB κ a0 pd st'/\Rn rk (arrOf st') (sk pd) lo)
  (Q:=fun r st'=>∃ pd,r=(none,a0.size)/\SB κ a0 pd st'/\Rn rk (arrOf st') (sk pd) a0.size) ?_ ?_ ⟨0,#[],rfl,aS4 _,ba7 _,b,⟨rfl,fun r hr=>absurd hr (by simp [sk])⟩⟩) ?_)
 ·rintro x r st1 _ hx ⟨lo,pd,rfl,xl,lz,b1,rn⟩
  unfold F7
  dsimp only
  by_cases hd:lo >= a0.size
  ·rw [if_pos hd]
   have e:lo=a0.size:=by omega
   subst e
   exact aS9 ⟨pd,rfl,b1,rn⟩
  ·rw [if_neg hd]
   refine aS3 (at3 c o b1 (by omega) (by omega) fun n st2 b2 n1 n2 u2 l2=>?_)
   have rn2:=rn.same l2
   dsimp only
   by_cases hmr:n < mr
   ·rw [if_pos hmr]
    refine aS3 (wpS_lift (be5 ⟨rfl,?_⟩))
    refine aS3 (at4 c o b2 (by omega) (by omega) u2 fun st3 b3 u3 l3=>?_)
    rw [if_neg (by decide)]
    exact G0 c o b3 (by omega) (by omega) (rn2.same l3) u3 fun pd' st' b' r'=>⟨_,pd',rfl,by omega,by omega,b',r'⟩
   ·rw [if_neg hmr]
    exact G0 c o b2 n1 (by omega) rn2 u2 fun pd' st' b' r'=>⟨lo+n,pd',rfl,by omega,by omega,b',r'⟩
 ·rintro r st1 ⟨lo,pd,rfl,xl,lz,b1,rn⟩
  have e:lo=a0.size:=by omega
  subst e
  exact⟨pd,rfl,b1,rn⟩
 ·rintro r st1 ⟨pd,rfl,b1,rn⟩
  dsimp only
  unfold F8
  refine aS3 (bg2 (aZ4
   (I:=fun t r st'=>r=(none,())/\∃ pd,SB κ a0 pd st'/\Rn rk (arrOf st') (sk pd) a0.size/\(pd.size+t<=a0.size ∨ pd.size<=1))
   (Q:=fun r st'=>r=(none,())/\∃ pd,SB κ a0 pd st'/\Rn rk (arrOf st') (sk pd) a0.size/\pd.size<=1) ?_ ?_ ⟨rfl,pd,b1,rn,.inl (by have:=rn.ch.len; rw [qJ] at this; omega)⟩) ?_)
  ·rintro t r st2 _ ht ⟨rfl,pd,b2,rn2,pr⟩
   refine aS3 (wpS_get ?_)
   rw [b2.pd]
   by_cases h1:pd.size<=1
   ·rw [if_pos h1]
    exact aS9 ⟨rfl,pd,b2,rn2,h1⟩
   ·rw [if_neg h1]
    refine aS3 (F5 c o b2 ?_ (aS4 _) rn2 fun pd' st3 b3 sz3 rn3 _=>?_)
    ·split <;> split <;> omega
    ·exact aS9 ⟨rfl,pd',b3,rn3,by omega⟩
  ·rintro r st2 ⟨rfl,pd,b2,rn2,pr⟩
   exact⟨rfl,pd,b2,rn2,by omega⟩
  ·rintro r st2 ⟨rfl,pd,b2,rn2,pr⟩
   refine aS9 (h st2 b2.pm b2.ok ?_)
   have ch:=rn2.ch
   have up:=rn2.up
   rw [<- qJ] at pr
   cases e:sk pd with
   | nil=>rw [e] at ch; exact absurd (show 0=a0.size from ch) (by omega)
   | cons r l=>
    rw [e] at ch up pr
    have el:l = []:=List.eq_nil_of_length_eq_zero (by have:=pr; rw [aV5] at this; omega)
    subst el
    obtain ⟨p,n⟩:=r
    obtain ⟨q1,q2,q3⟩:=ch
    have q1:p=0:=q1
    have q3:0+n=a0.size:=q3
    subst q1
    have:=up (0,n) (by simp)
    rw [<- q3]; exact this
end SO
namespace L2
open PySem PySem.Spec PyProof.Rows SO
abbrev dG (h:Heap) (a:Addr) (vs:List Value):Heap:=((h.update a (Obj.mapSeq fun _=>#[])).push (seqObj "tuple" vs.toArray 0)).push (seqObj "list" #[] 0)
abbrev fP (h:Heap) (vs:List Value):Heap:=((h.push (seqObj "list" #[] 0)).update h.objs.size (Obj.mapSeq (· ++ vs.toArray))).push (seqObj "list" vs.toArray 0)
theorem av1 {h:Heap}{vs:List Value}{b:Addr}{o:Obj} (e:h.get? b=some o):(fP h vs).get? b=some o:=by
 have l:=aS5 e
 refine aR1 _ ?_
 rw [Heap.get?_update_ne _ _ _ _ (aU5 l)]
 exact aR1 _ e
theorem G1 {h:Heap}{vs:List Value}{a b:Addr}{o:Obj} (hb:b ≠ a) (e:h.get? b=some o):(dG h a vs).get? b=some o:=by
 refine aR1 _ (aR1 _ ?_)
 rw [Heap.get?_update_ne _ _ _ _ hb]; exact e
theorem G2 {prog:Program}{w:World}{A:Around}{E:Value->Shared->Prop}{s:Shared}{a:Addr}{vs:List Value}{n:Nat}{P:PySem.Fin->Shared->Prop}{κ:SortKind}{Ok:Keyed->Prop}{rk:Keyed->Int}
  (e:s.heap.get? a=some (seqObj "list" vs.toArray n)) (h2:2<=vs.length) (big:vs.length<=sizeLine)
  (hk:∀ Q:SortKind->Shared->Prop,Q κ { s with heap:=dG s.heap a vs }->wpAny (model prog w) A (keyKind' vs.toArray) Q E { s with heap:=dG s.heap a vs })
  (c:cE prog w A E { s with heap:=dG s.heap a vs } κ Ok rk) (o:∀ v ∈ vs,Ok (v,v))
  (q:∀ out:List Value,out.Perm vs->out.Pairwise (fun u v=>rk (u,u)<=rk (v,v))->P (.done (.ret .none)) { s with heap:=sortedHeap s.heap a vs out.toArray }):wpAny (model prog w) A (Builtin.«list.sort» ⟨[.ref a],[]⟩) P E s:=by
 have la:=aS5 e
 have cc : ¬ vs.toArray.size < 2:=by simpa using h2
 obtain ⟨k,ek⟩:∃ k,(s.heap.update a (Obj.mapSeq fun _=>#[])).get? a=some (seqObj "list" #[] k):=⟨_,get?_update_seq e fun _=>#[]⟩
 have there:(dG s.heap a vs).get? a=some (seqObj "list" #[] k):=aR1 _ (aR1 _ ek)
 rw [list_sort_plain]
 apply aQ9
 apply listItems_at e rfl
 apply aQ9
 refine listUpdate_at e rfl ?_ (by simpa using big) (ba7 _)
 apply aQ9
 apply seqEpoch_at ek rfl
 apply aQ9
 refine wpAny_newTuple ?_ big
 apply aQ9
 refine wpAny_newList ?_ (ba7 _)
 apply aZ7
 simp only [cc,aZ0]
 apply aQ9
 refine hk _ ?_
 have zl:(vs.toArray.zip vs.toArray).toList=vs.zip vs:=by simp
 apply aQ9
 refine aZ1 (av0 (a0:=vs.toArray.zip vs.toArray) (Q:=fun _ st'=>(arrOf st').Perm (vs.toArray.zip vs.toArray)/\failedOf st'=none/\Up rk (arrOf st') 0 (vs.toArray.zip vs.toArray).size) c (fun x hx=>?_) ⟨Array.Perm.refl _,rfl,rfl,rfl⟩ (by simp; omega) fun st' a1 a2 a3=>⟨a1,a2,a3⟩) ?_ fun _ _ z=>z
 ·have hx':x ∈ vs.zip vs:=by rw [<- zl]; exact Array.mem_toList_iff.mpr hx
  obtain ⟨y1,y2⟩:=mem_zip_self hx'
  have:=o x.1 y2
  have ex:x=(x.1,x.1):=bb5 rfl y1.symm
  rw [ex]; exact this
 ·rintro ⟨⟨⟩,st'⟩ s' ⟨rfl,pm,ok,up⟩
  have lp:(arrOf st').toList.Perm (vs.zip vs):=by rw [<- zl]; exact Array.perm_iff_toList_perm.mp pm
  have out:(arrOf st').map (·.2)=((arrOf st').toList.map (·.2)).toArray:=by apply Array.toList_inj.mp; rw [Array.toList_map]
  have op:((arrOf st').toList.map (·.2)).Perm vs:=by
   have:=lp.map (·.2)
   rw [oY] at this; exact this
  have sz:(arrOf st').size=vs.length:=by rw [pm.size_eq]; simp
  dsimp only
  apply aQ9
  apply seqEpoch_at there rfl
  apply aQ9
  refine listUpdate_at there rfl ?_ (ba7 _) (by rw [Array.size_map,sz]; exact Nat.le_succ_of_le big)
  rw [ok]
  simp only [bne_self_eq_false,aT7,aZ0]
  refine aR4 ?_
  have hq:=q _ op ?_
  ·rw [<- out] at hq; exact hq
  ·rw [ba4,aX3]
   intro i j hi hj hij
   have hi':i < (arrOf st').size:=by simpa using hi
   have hj':j < (arrOf st').size:=by simpa using hj
   have h1:=up i j (ba7 _) (bd8 hij) (by simp; omega)
   rw [c8 hi',c8 hj'] at h1
   have dg:∀ x ∈ (arrOf st').toList,(x.2,x.2)=x:=fun x hx=>bb5 (mem_zip_self (lp.mem_iff.mp hx)).1.symm rfl
   rw [dg _ (bc6 hi),dg _ (bc6 hj)]
   simpa using h1
theorem av2 {prog:Program}{w:World}{A:Around}{E:Value->Shared->Prop}{s:Shared}{l:Addr}{vs:List Value}{Q:Value->Shared->Prop}{κ:SortKind}{Ok:Keyed->Prop}{rk:Keyed->Int}
  (hl:s.heap.IsList l vs.toArray) (h2:2<=vs.length) (big:vs.length<=sizeLine)
  (hk:∀ (A:Around) (E:Value->Shared->Prop) (Q:SortKind->Shared->Prop),Q κ { s with heap:=dG (fP s.heap vs) (s.heap.objs.size+1) vs }->wpAny (model prog w) A (keyKind' vs.toArray) Q E { s with heap:=dG (fP s.heap vs) (s.heap.objs.size+1) vs })
  (c:∀ (A:Around) (E:Value->Shared->Prop),cE prog w A E { s with heap:=dG (fP s.heap vs) (s.heap.objs.size+1) vs } κ Ok rk) (o:∀ v ∈ vs,Ok (v,v))
  (q:∀ out:List Value,out.Perm vs->out.Pairwise (fun u v=>rk (u,u)<=rk (v,v))->Q (.ref (s.heap.objs.size+1)) { s with heap:=sortedAll s.heap vs out.toArray }):wpAny (model prog w) A (call (.builtin "sorted") [.ref l]) Q E s:=by
 apply Calls.call_function_entry kind_sorted plain_sorted entry_sorted (args_sorted1 _)
 simp only [Builtin.«sorted»]
 apply aQ9 (m:=checkCount "sorted" 1 1 _)
 apply aR4
 apply aQ9
 refine collect_list hl ?_ big
 apply aQ9
 refine wpAny_newList ?_ big
 have one:((s.heap.push (seqObj "list" #[] 0)).update s.heap.objs.size (Obj.mapSeq (· ++ vs.toArray))).objs.size=s.heap.objs.size+1:=(Heap.size_update _ _ _).trans (size_push' _ _)
 have at1:(fP s.heap vs).get? (s.heap.objs.size+1)=some (seqObj "list" vs.toArray 0):=one ▸ aS7 _ rfl
 change wpAny _ _ _ _ _ { s with heap:=fP s.heap vs }
 rw [one]
 apply aQ9
 apply aZ7
 refine aX5 slot_list_sort ⟨_,at1,rfl⟩ entry_list_sort ?_ (args_list_sort _)
 exact G2 (s:={ s with heap:=fP s.heap vs }) at1 h2 big (hk _ _) (c _ _) o fun out a1 a2=>⟨_,rfl,aR4 ⟨_,rfl,q out a1 a2⟩⟩
def qL (h:Heap) (B:Int) (x:Keyed):Int:=match x.1 with
 | .ref b=>match h.get? b with
  | some ob=>match ob.data with
   | .seq us _=>numOf (us.getD 0 .none) * B+numOf (us.getD 1 .none)
   | _=>0
  | none=>0
 | _=>0
structure iY (h:Heap) (M:Int) (v:Value) (p q:Int):Prop where
 at_:∃ b ob us n,v = .ref b/\h.get? b=some ob/\ob.cls = .type "tuple"/\ob.data = .seq (List.toArray us) n/\IntsAre us [p,q]
 lo : -M<=q
 hi:q<=M
theorem iY.rk {h:Heap}{M B:Int}{x:Keyed}{p q:Int} (z:iY h M x.1 p q):qL h B x=p * B+q:=by
 obtain ⟨b,ob,us,n,e1,e2,_,e4,e5⟩:=z.at_
 cases e5 with
 | cons _ t e6=>cases e6 with
  | cons _ u e7=>cases e7; unfold qL; rw [e1]; dsimp only; rw [e2]; dsimp only; rw [e4]; rfl
theorem G3 {p q p' q' M:Int} (h1 : -M<=q) (h2:q<=M) (h3 : -M<=q') (h4:q'<=M):HT.aO [p,q] [p',q']=decide (p * (2 * M+1)+q < p' * (2 * M+1)+q'):=by
 rw [HT.gI]
 have mm:∀ {a b:Int},a < b->a * (2 * M+1)+(2 * M+1)<=b * (2 * M+1):=fun {a b} z=>by
  have:=bb1 (show a+1<=b by omega) (show 0<=2 * M+1 by omega)
  rw [Int.add_mul,Int.one_mul] at this
  exact this
 by_cases e:p=p'
 ·subst e
  rw [if_pos rfl,HT.gI]
  by_cases e2:q=q'
  ·subst e2
   rw [if_pos rfl,HT.oR,aR2 (by omega)]
  ·rw [if_neg e2]
   by_cases l:q < q'
   ·rw [aR3 l,aR3 (by omega)]
   ·rw [aR2 l,aR2 (by omega)]
 ·rw [if_neg e]
  by_cases l:p < p'
  ·have:=mm l
   rw [aR3 l,aR3 (by omega)]
  ·have:=mm (show p' < p by omega)
   rw [aR2 l,aR2 (by omega)]
theorem av3 {prog:Program}{w:World}{A:Around}{E:Value->Shared->Prop}{s:Shared}{M:Int}:cE prog w A E s (tuples' true) (fun x=>∃ p q,iY s.heap M x.1 p q) (qL s.heap (2 * M+1)):=by
 rintro x y ⟨p,q,z⟩ ⟨p',q',z'⟩ st Q hk hq
 rw [z.rk,z'.rk] at hq
 rw [<- G3 z.lo z.hi z'.lo z'.hi] at hq
 obtain ⟨b,ob,us,n,e1,e2,e3,e4,e5⟩:=z.at_
 obtain ⟨b',ob',us',n',e1',e2',e3',e4',e5'⟩:=z'.at_
 rw [lt'_eq]
 refine aS3 (wpS_get ?_)
 rw [hk,e1,e1']
 refine aS3 (wpS_lift (wpAny_attempt (PySem.W.kat_lt e2 e4 e2' e4' ?_)))
 have:=tH (prog:=prog) (w:=w) (A:=A) (s:=s) (Q:=fun a s'=>s'=s/\wpS (model prog w) A E s (pure (some a)) Q st) 0 e5 e5' ⟨rfl,aS9 hq⟩
 simpa using this
theorem av4 {vs vs':List Value} (h:vs.Perm vs'):∀ {xs:List V},aR xs vs->∃ xs',xs'.Perm xs/\aR xs' vs':=by
 induction h with
 | nil=>intro xs r; exact⟨xs,bc8 _,r⟩
 | cons v _ ih=>
  intro xs r
  cases r with
  | cons r t=>
   obtain ⟨xs',p,r'⟩:=ih t
   exact⟨_ :: xs',p.cons _,.cons r r'⟩
 | swap u v l=>
  intro xs r
  cases r with
  | cons r t=>cases t with
   | cons r2 t2=>exact⟨_,bh0 _ _ _,.cons r2 (.cons r t2)⟩
 | trans _ _ ih1 ih2=>
  intro xs r
  obtain ⟨x1,p1,r1⟩:=ih1 r
  obtain ⟨x2,p2,r2⟩:=ih2 r1
  exact⟨x2,p2.trans p1,r2⟩
theorem G4 {α:Type} (f:α->Int):∀ l:List α,∃ M:Int,∀ y ∈ l,-M<=f y/\f y<=M
 | []=>⟨0,fun _ h=>nomatch h⟩
 | x :: l=>by
  obtain ⟨M,h⟩:=G4 f l
  refine⟨max M (max (f x) (- f x)),fun y hy=>?_⟩
  rcases aR7.mp hy with e | e
  ·subst e; omega
  ·have:=h y e; omega
def G5 (K:PySem.W.Frag):List V->Hp->VK->Prop:=fun xs H Q=>∃ (a:Addr) (ys:List V) (key:V->List Int),xs = [.ref a]/\aW K H a ys/\ys.length<=4096/\(∀ y ∈ ys,∃ b,y = .ref b/\aS K H b ((key y).map V.int)/\(key y).length=2)/\
 ∀ l (zs:List V),H l=none->zs.Perm ys->zs.Pairwise (fun u v=>HT.aO (key v) (key u)=false)->Q (.ref l) (upd H l (.lst zs))
theorem av5 {X:Cx}:dC X (.builtin "sorted") (G5 X.K):=by
 intro pins s σ H xs us Q I r h
 obtain ⟨a,ys,key,rfl,hs,hz4,hk,q⟩:=h
 obtain ⟨u,rfl,ru⟩:=jH r
 cases ru
 obtain ⟨its,rv,p,hz⟩:=I.list hs
 have hl:=rv.length
 have hn:s.heap.objs.size<=s.heap.objs.size+1:=Nat.le_succ _
 by_cases h2:its.length < 2
 ·refine al3 p.isList h2 ?_
  obtain ⟨e,he⟩:=sortedAll_at s.heap its its.toArray
  refine⟨.ref (s.heap.objs.size+1),upd H (s.heap.objs.size+1) (.lst ys),I.laid (t':=s.toks) (fun _ _=>sortedAll_old) hn ⟨hz,its,e,rv,he⟩,rfl,q _ ys (I.hok.fresh hn) (bc8 _) ?_⟩
  match ys,hl with
  | [],_=>exact be3
  | [_],_=>exact aW0 _ _
  | _ :: _ :: _,hl=>simp at hl; omega
 ·obtain ⟨M,hM⟩:=G4 (fun y=>(key y).getD 1 0) ys
  have pv:∀ {y:V}{v:Value},aU y v->y ∈ ys->∃ pp qq,key y = [pp,qq]/\iY (dG (fP s.heap its) (s.heap.objs.size+1) its) M v pp qq:=fun {y v} ry hy=>by
   obtain ⟨b,rfl,sq,l2⟩:=hk y hy
   cases ry
   obtain ⟨us,ru,⟨ob,e1,c1,n1,d1⟩,_⟩:=I.tuple sq
   have ia:=jK ru
   have mm:=hM _ hy
   match hkk:key (V.ref b),l2 with
   | [pp,qq],_=>
    rw [hkk] at ia mm
    exact⟨pp,qq,rfl,⟨b,ob,us,n1,rfl,G1 (aU5 (Nat.lt_succ_of_lt (aS5 e1))) (av1 e1),c1,d1,ia⟩,mm.1,mm.2⟩
  have pvs:∀ {xs:List V}{vs:List Value},aR xs vs->(∀ y ∈ xs,y ∈ ys)->∀ v ∈ vs,∃ pp qq,iY (dG (fP s.heap its) (s.heap.objs.size+1) its) M v pp qq:=by
   intro xs vs r
   induction r with
   | nil=>intro _ v hv; cases hv
   | cons rx rt ih=>
    intro hh v hv
    rcases aR7.mp hv with z | z
    ·subst z
     obtain ⟨pp,qq,_,z⟩:=pv rx (hh _ aS6)
     exact⟨pp,qq,z⟩
    ·exact ih (fun y hy=>hh y (aS2 _ hy)) v z
  have firsts:∀ {vs:List Value},(∀ v ∈ vs,∃ pp qq,iY (dG (fP s.heap its) (s.heap.objs.size+1) its) M v pp qq)->∃ fs:List Value,PySem.W.KatTups (dG (fP s.heap its) (s.heap.objs.size+1) its) vs fs/\fs.length=vs.length/\∀ v ∈ fs,∃ i t,v=Value.int i t:=by
   intro vs
   induction vs with
   | nil=>intro _; exact⟨[],PySem.W.KatTups.nil,rfl,fun _ z=>nomatch z⟩
   | cons v vs ih=>
    intro hh
    obtain ⟨fs,t1,t2,t3⟩:=ih fun y hy=>hh y (aS2 _ hy)
    obtain ⟨pp,qq,z⟩:=hh v aS6
    obtain ⟨b,ob,us,n,rfl,e2,e3,e4,e5⟩:=z.at_
    cases e5 with
    | cons _ t e6=>exact⟨Value.int pp t :: fs,PySem.W.KatTups.cons e2 e3 e4 (by simp) t1,by simp [t2],fun v hv=>(aR7.mp hv).elim (fun z=>⟨pp,t,z⟩) (t3 v)⟩
  have allp:=pvs rv fun _ h=>h
  obtain ⟨fs,t1,t2,t3⟩:=firsts allp
  refine av2 (κ:=tuples' true) (Ok:=fun x=>∃ pp qq,iY (dG (fP s.heap its) (s.heap.objs.size+1) its) M x.1 pp qq) (rk:=qL (dG (fP s.heap its) (s.heap.objs.size+1) its) (2 * M+1)) p.isList (by omega) (by rw [<- hl]; exact hz)
   (fun A E Q hQ=>?_) (fun A E=>av3 (s:={ s with heap:=dG (fP s.heap its) (s.heap.objs.size+1) its })) (fun v hv=>allp v hv) fun out pm so=>?_
  ·refine PySem.W.kat_kind (T:=.type "int") t1 (by omega) (fun v hv=>?_) (by decide) ?_
   ·obtain ⟨i,t,rfl⟩:=t3 v hv
    exact PySem.W.Looks.now
   ·have eT:(Value.type "int" != Value.type "tuple")=true:=by decide
    rw [eT]; exact hQ
  ·obtain ⟨zs,pz,rz⟩:=av4 pm.symm rv
   obtain ⟨e,he⟩:=sortedAll_at s.heap its out.toArray
   refine⟨.ref (s.heap.objs.size+1),upd H (s.heap.objs.size+1) (.lst zs),I.laid (t':=s.toks) (fun _ _=>sortedAll_old) hn ⟨by rw [pz.length_eq]; exact hz,out,e,rz,he⟩,rfl,q _ zs (I.hok.fresh hn) pz ?_⟩
   have lz:=rz.length
   rw [aX3]
   intro i j hi hj hij
   have s1:=aX3.mp so i j (by omega) (by omega) hij
   have gi:=tE i hi rz
   have gj:=tE j hj rz
   simp only [aT3,aR5 hi,aR5 hj,aR5 (show i < out.length by omega),aR5 (show j < out.length by omega),Option.getD_some] at gi gj
   obtain ⟨pi,qi,ki,vi⟩:=pv gi (pz.mem_iff.mp (bc6 hi))
   obtain ⟨pj,qj,kj,vj⟩:=pv gj (pz.mem_iff.mp (bc6 hj))
   rw [iY.rk (x:=(out[i],out[i])) vi,iY.rk (x:=(out[j],out[j])) vj] at s1
   rw [ki,kj,G3 vj.lo vj.hi vi.lo vi.hi]
   exact aR2 (by omega)
end L2
namespace L2
open PySem PySem.Spec PyProof.Rows
theorem bW.at {P:Program}{w:World}{H:Hp}{h:Heap}{a:Addr}{o:HO} (x:bW P w H h a o):∃ ob,h.get? a=some ob:=by
 cases o with
 | lst xs=>obtain ⟨_,_,_,_,e⟩:=x; exact⟨_,e⟩
 | tup xs=>obtain ⟨_,_,_,⟨_,e,_⟩,_⟩:=x; exact⟨_,e⟩
 | dK kvs=>obtain ⟨_,_,_,_,_,_,_,e,_⟩:=x; exact⟨_,e⟩
 | dT kvs=>obtain ⟨_,_,_,_,_,_,_,e,_⟩:=x; exact⟨_,e⟩
 | set S n=>obtain ⟨_,_,_,_,e,_⟩:=x; exact⟨_,e⟩
 | ins C dx fs=>obtain ⟨_,_,_,e,_⟩:=x; exact⟨_,e⟩
 | own y=>exact x
 | xd fs=>obtain ⟨_,⟨_,_,_,e,_⟩,_⟩:=x; exact⟨_,e⟩
 | rng lo hi=>obtain ⟨_,_,_,e⟩:=x; exact⟨_,e⟩
 | frz ob u=>obtain ⟨e,_⟩:=x; exact⟨_,e⟩
 | tbl ps=>exact⟨_,x⟩
 | met f y=>exact⟨_,x⟩
 | ext φ=>exact x.2.1
structure uW (P:Program) (w:World) (outer:List Env) (H:Hp) (s:Shared) (H':Hp) (B:Heap) (a C:Addr) (s':Shared):Prop where
 os:s'.os=s.os
 bare:AllBare s'.gens
 un:Un (bX outer) [] H H' s.heap s'.heap
 hok:bO P w H' s'.heap
 fly:∃ a0,Heap.FlyingW B outer a (.ref C) a0 s'.heap
 b0:∀ b o,s.heap.get? b=some o->b ∉ bX outer->∃ o',B.get? b=some o'
 b1:∀ b o,s.heap.get? b=some o->H b=none->b ∉ bX outer->B.get? b=some o
 b2:∀ b u o,H' b=some u->s'.heap.get? b=some o->B.get? b=some o
def eN (P:Program) (w:World):gG:=fun outer H s E e s'=>∃ (H':Hp) (B:Heap) (a C:Addr),e = .ref a/\uW P w outer H s H' B a C s'/\E (.ref C) none H'
section
variable {P : Program} {w : World} {outer : List Env} {H H' : Hp} {s s' : Shared} {B h2 : Heap} {a C : Addr}
theorem uW.hok2 (f:uW P w outer H s H' B a C s') (k:B.StaysIn h2):bO P w H' h2:=fun b u e=>
 (f.hok b u e).stay (fun c v hc q=>by
  rcases hc with z | z
  ·subst z; exact k _ _ (f.b2 _ _ _ e q)
  ·exact k _ _ (f.b2 _ _ _ z q)) (fun _ q=>q) fun _ _ q=>q
end
section
variable {P : Program} {w : World} {K : PySem.W.Frag} {mg : Str → Option Value} {base : Heap} {N : List Str} {qual : Str} {scope : Scope} {f : Addr} {cd : Value} {A : Around} {outer : List Env} {s₀ : Shared} {H₀ : Hp} {E₀ E₁ : XK}
theorem qM {pins:List (Addr × Obj)}{σ:St}{H:Hp}{s:Shared} (I:aA (dF (eN P w) P w K mg base N qual scope f cd A outer s₀ H₀ E₀) pins σ H s) {b:Addr}{o:Obj} (e:s₀.heap.get? b=some o) (n:b ∉ bX outer) :
  b ∉ bX (envOfC qual scope s₀.heap.objs.size f cd :: outer):=fun z=>by
 rcases aR7.mp (I.stkSub b z) with y | y
 ·have l:=aS5 e
  have y:b=s₀.heap.objs.size:=y
  exact absurd l (by rw [y]; exact aY9 _)
 ·exact n y
theorem av6 (hE:∀ c d H',E₁ c d H'->E₀ c d H'):mY (eN P w) (dF (eN P w) P w K mg base N qual scope f cd A outer s₀ H₀ E₀) E₁:=by
 intro pins σ H s e s' I hx
 obtain ⟨H',B,a,C,e1,fl,q⟩:=hx
 subst e1
 have I':=I.call' fl.os fl.un fl.hok fl.bare (ch:=[]) (fun b z=>absurd z (by simp))
 obtain ⟨a0,fly⟩:=fl.fly
 refine wpAny_leaves_onW I.ok.frames rfl fly fun h' fly' up=>?_
 have slot:∀ b o,s₀.heap.get? b=some o->b ∈ bX outer->∃ sl,h'.get? b=some { o with slots:=sl }:=fun b o e hb=>by
  obtain ⟨sl,e1⟩:=I'.base.slot b o e (I.ok.frf b hb) hb (fun z=>nomatch z)
  obtain ⟨_,o2,e2,nf⟩:=I.ok.funs.mem hb
  rw [show (dF (eN P w) P w K mg base N qual scope f cd A outer s₀ H₀ E₀).s₀=s₀ from rfl,e] at e2
  cases e2
  obtain ⟨sl',e3⟩:=up b _ e1 nf
  exact⟨sl',e3⟩
 have old:∀ b o,s₀.heap.get? b=some o->H₀ b=none->b ∉ bX outer->B.get? b=some o:=fun b o e n hb=>
  fl.b1 b o (I.base.keep b o e n hb (fun z=>nomatch z)) (I.base.free b o e n (fun z=>nomatch z)) (qM I e hb)
 have old0:∀ b o,s₀.heap.get? b=some o->b ∉ bX outer->∃ o',B.get? b=some o':=fun b o e hb=>by
  obtain ⟨o1,e1⟩:=I.base.there b o e (fun z=>nomatch z)
  exact fl.b0 b o1 e1 (qM I e hb)
 refine⟨H',B,a,C,rfl,⟨I'.os,I'.bare,⟨fun b o e n hb _=>fly'.1 _ _ (old b o e n hb),fun b o e n hb _=>slot b o e hb,fun b o e n hx=>I'.base.free b o e n hx,fun b o e _=>?_,I'.base.tups,I'.base.frzs,I'.base.tbls⟩,fl.hok2 fly'.1,⟨a0,fly'⟩,old0,old,fun b u o e h=>?_⟩,hE _ _ _ q⟩
 ·by_cases hb:b ∈ bX outer
  ·obtain ⟨sl,e1⟩:=slot b o e hb
   exact⟨_,e1⟩
  ·obtain ⟨o',e1⟩:=old0 b o e hb
   exact⟨o',fly'.1 _ _ e1⟩
 ·obtain ⟨ob,e1⟩:=(fl.hok b u e).at
  have e2:=fl.b2 b u ob e e1
  have e3:=fly'.1 _ _ e2
  have h:h'.get? b=some o:=h
  rw [h] at e3; cases e3; exact e2
theorem av7 {pins:List (Addr × Obj)}{σ:St}{H:Hp}{s:Shared}{h':Heap}{e C:Addr}{args:List Value} (I:aA (dF (eN P w) P w K mg base N qual scope f cd A outer s₀ H₀ E₀) pins σ H s) (mx:Heap.MadeExcOf s.heap h' e (.ref C) args) (q:E₀ (.ref C) none H) :
  (dF (eN P w) P w K mg base N qual scope f cd A outer s₀ H₀ E₀).xe (.ref e) { s with heap:=h' }:=by
 have tr:∀ b u,H b=some u->b ∉ bX (envOfC qual scope s₀.heap.objs.size f cd :: outer):=fun b u z n=>by
  rw [I.stkFree b n] at z; cases z
 have inB:∀ b o,s.heap.get? b=some o->b ∉ bX (envOfC qual scope s₀.heap.objs.size f cd :: outer)->(PySem.W.hideAll s.heap (bX (envOfC qual scope s₀.heap.objs.size f cd :: outer))).get? b=some o:=fun b o z n=>PySem.W.hideAll_get _ z n
 refine wpAny_leaves_madeW (base:=PySem.W.hideAll s.heap (bX (envOfC qual scope s₀.heap.objs.size f cd :: outer))) I.ok.frames rfl (fun b o z=>PySem.W.of_hideAll _ z) (PySem.W.funFrames_hide I.stack fun env he b hb=>List.mem_filterMap.mpr ⟨env,he,hb⟩) mx fun h'' t fly _ _ up=>?_
 have slot:∀ b o,s₀.heap.get? b=some o->b ∈ bX outer->∃ sl,h''.get? b=some { o with slots:=sl }:=fun b o e hb=>by
  obtain ⟨sl,e1⟩:=I.base.slot b o e (I.ok.frf b hb) hb (fun z=>nomatch z)
  obtain ⟨_,o2,e2,nf⟩:=I.ok.funs.mem hb
  rw [show (dF (eN P w) P w K mg base N qual scope f cd A outer s₀ H₀ E₀).s₀=s₀ from rfl,e] at e2
  cases e2
  obtain ⟨sl',e3⟩:=up b _ (mx.keeps _ _ e1) nf
  exact⟨sl',e3⟩
 have old:∀ b o,s₀.heap.get? b=some o->H₀ b=none->b ∉ bX outer->(PySem.W.hideAll s.heap (bX (envOfC qual scope s₀.heap.objs.size f cd :: outer))).get? b=some o:=fun b o e n hb=>
  inB b o (I.base.keep b o e n hb (fun z=>nomatch z)) (qM I e hb)
 have old0:∀ b o,s₀.heap.get? b=some o->b ∉ bX outer->∃ o',(PySem.W.hideAll s.heap (bX (envOfC qual scope s₀.heap.objs.size f cd :: outer))).get? b=some o':=fun b o e hb=>by
  obtain ⟨o1,e1⟩:=I.base.there b o e (fun z=>nomatch z)
  exact⟨o1,inB b o1 e1 (qM I e hb)⟩
 refine⟨H,_,e,C,rfl,⟨I.os,I.bare,⟨fun b o e n hb _=>fly.1 _ _ (old b o e n hb),fun b o e n hb _=>slot b o e hb,fun b o e n hx=>I.base.free b o e n hx,fun b o e _=>?_,I.base.tups,I.base.frzs,I.base.tbls⟩,fun b u z=>?_,⟨_,fly⟩,old0,old,fun b u o z h=>?_⟩,q⟩
 ·by_cases hb:b ∈ bX outer
  ·obtain ⟨sl,e1⟩:=slot b o e hb
   exact⟨_,e1⟩
  ·obtain ⟨o',e1⟩:=old0 b o e hb
   exact⟨o',fly.1 _ _ e1⟩
 ·refine (I.hok b u z).stay (fun c v hc y=>?_) (fun _ y=>y) fun _ _ y=>y
  rcases hc with z' | z'
  ·subst z'; exact fly.1 _ _ (inB _ _ y (tr _ _ z))
  ·exact fly.1 _ _ (inB _ _ y (tr _ _ z'))
 ·obtain ⟨ob,e1⟩:=(I.hok b u z).at
  have e2:=inB b ob e1 (tr b u z)
  have e3:=fly.1 _ _ e2
  have h:h''.get? b=some o:=h
  rw [h] at e3; cases e3; exact e2
end
structure mC (X:Cx) (E:XK):Prop where
 pass:mY (eN X.prog X.w) X E
 made:∀ (pins:List (Addr × Obj)) (σ:St) (H:Hp) (s:Shared) (h':Heap) (e C:Addr) (args:List Value),aA X pins σ H s->Heap.MadeExcOf s.heap h' e (.ref C) args->E (.ref C) none H->X.xe (.ref e) { s with heap:=h' }
 own:PassesOwn (model X.prog X.w) X.A X.env X.xe
theorem av8 {P:Program}{w:World}{K:PySem.W.Frag}{mg:Str->Option Value}{base:Heap}{N:List Str}{qual:Str}{scope:Scope}{f:Addr}{cd:Value}{A:Around}{outer:List Env}{s₀:Shared}{H₀:Hp}{E₀ E₁:XK} (hE:∀ c d H',E₁ c d H'->E₀ c d H') :
  mC (dF (eN P w) P w K mg base N qual scope f cd A outer s₀ H₀ E₀) E₁:=
 ⟨av6 hE,fun _ _ _ _ _ _ _ _ I mx q=>av7 I mx (hE _ _ _ q),PassesOwn.leaving⟩
def G6 (E:XK) (C:Addr) (t:TA):TS:=fun _ σ H=>t σ H fun vs H1=>vs.length<=sizeLine/\E (.ref C) none H1
theorem av9 {X:Cx}{E:XK}{x:Str}{C:Addr}{bm:List Value}{B newId initId:String}{np cpos pos:Pos}{e:Expr}{es:List Expr}{t:TA} (hX:mC X E) (hc:X.calm=true) (O:OwnCls x C bm newId X.mg X.base) (FB:ExcBaseFacts B newId initId bm) (ha:PA X (e :: es) t) (hg:Gl X x)
  (hd:(x == ("__debug__" : Str))=false:=by decide) (he:starEach (e :: es) X.env=(false,eval e X.env) :: starEach es X.env:=by rfl) (hpl:(backTo cpos (starEach es X.env)).any (·.1)=false:=by rfl) :
  PS X (.Raise (some (.Call (.Name x np) (e :: es) [] cpos)) none pos) (G6 E C t):=by
 intro pins s σ H D I h
 obtain ⟨tl,Na,nm,qn,bs,hx,sn,sub,ab,col,dd,k0,k1,k2,k3,k5,mN,hC,hN,hni,T⟩:=O.obj
 refine wpAny_Raise_call_subT (nm:=nm) (q:=qn) (N:=Na) (bs:=bs) (bm:=tl) (hdct:=hx) (sn:=sn) (sub:=sub) (ab:=ab) (col:=col) (dd:=dd) (k0:=k0) (k1:=k1) (k2:=k2) (k3:=k3) (k5:=k5) FB (C:=C) (mN:=mN) (T.hasType FB.hasBase) (I.ok.hd hc) (by rw [he]; show (false || (backTo cpos (starEach es X.env)).any (·.1))=false; rw [hpl]; rfl) hni (sA I hg O.bound ⟨rfl,?_⟩ hd)
 have h1:=ha cpos pins s σ H _ I h
 rw [he] at h1 ⊢
 refine Calls.evalArgs_plain (aZ1 h1 (fun us s2 h2=>?_) fun _ _ y=>y)
 obtain ⟨vs,H2,I2,r,hl,q⟩:=h2
 have r:aR vs us:=r
 exact⟨rfl,by show us.length<=sizeLine; rw [<- r.length]; exact hl,I2.bk _ _ hC,hN.keeps I2.bk,T.keeps I2.bk,fun h' e' mx=>hX.made pins σ H2 s2 h' e' C _ I2 mx q⟩
theorem fY.okX {P:Program}{w:World}{K:PySem.W.Frag}{mg:Str->Option Value}{base:Heap}{x qual:Str}{st:Stmt}{f:Addr}{fd:FuncData}{N ps:List Str}{k:Nat}{sp:Sp} (F:fY K x qual st f fd) (S:FnScope N ps (b7 st)) (len:∀ vs H Q E,sp vs H Q E->vs.length=ps.length)
  (hbody:∀ (cdv:Value) (A:Around) (outer:List Env) (s:Shared) (H:Hp) (vs:List V) (Q:VK) (E:XK),cD k (A.deeper (envOfC qual (b7 st) s.heap.objs.size f cdv))->sp vs H Q E->
   ∃ t,e8 (dF (eN P w) P w K mg base N qual (b7 st) f cdv A outer s H E) (eF st) t/\t { nx:=fun _ H'=>Q .non H',rt:=Q } (gH N vs) H):dO P w K mg base (eN P w) (k+1) f fd ps sp:=by
 obtain ⟨oc,od,kV,doc,pm,an,cdv,ct,osl,rfl,lk,hcd⟩:=F.ex
 exact xI lk hcd S len fun A outer s H vs Q E hr hsp=>hbody cdv A outer s H vs Q E hr hsp
section
variable {X : Cx} {pins : List (Addr × Obj)} {σ : St} {H H1 H' : Hp} {s s1 s' : Shared} {B h2 : Heap} {a C : Addr}
abbrev Cx.suite (X:Cx) (a:Addr):Cx:={ X with A:=X.A.mark (some (.ref a)),calm:=false,xe:=fun _ _=>False }
end
abbrev TB:=dW->XK->St->Hp->Prop
end L2
namespace Raw
open PySem PySem.W PySem.Calls PyProof.Rows
theorem iZ {α β:Type} (f:α->β):∀ (j:Nat) (l:List α),(l.eraseIdx j).map f=(l.map f).eraseIdx j
 | _,[]=>rfl
 | 0,_ :: _=>rfl
 | j+1,x :: r=>by
  show f x :: (r.eraseIdx j).map f=f x :: (r.map f).eraseIdx j
  rw [iZ f j r]
section
variable {prog : Program} {w : World} {K : Type} [DecidableEq K] {knd : HeapKind prog w K} {A : Around} {E : Value → Shared → Prop} {s : Shared} {d a : Addr} {k : K} {xs : List (K × Addr × Value)}
def G7 (knd:HeapKind prog w K) (h:Heap) (d:Addr) (xs:List (K × Addr × Value)) (j:Nat):Prop:=∃ o es ep,h.get? d=some o/\o.ExactDict/\o.data = .dict es ep/\es.toList=(xs.eraseIdx j).map (entryOfKey knd)
theorem aw0 {Q:Option DictEntry->Shared->Prop} (hu:knd.room A) (hkey:knd.is s.heap k a) (hm:s.heap.DictOfH knd d xs) (hz:xs.length<=sizeLine) (is:∃ (j:Nat) (p:Addr × Value),xs[j]? = some (k,p))
  (q:∀ (j:Nat) (p:Addr × Value) h',xs[j]? = some (k,p)->G7 knd h' d xs j->Heap.SameBut d s.heap h'->Q (some (entryOfKey knd (k,p))) { s with heap:=h',toks:=s.toks+knd.draws k }):wpAny (model prog w) A (Builtin.Dict.takeOut d (.ref a)) Q E s:=by
 obtain ⟨o,es,ep,e1,e2,e3,e4,e5,e6⟩:=hm
 obtain ⟨j0,p0,h0⟩:=is
 unfold Builtin.Dict.takeOut
 try with_reducible refine aZ7 ?_
 apply aQ9
 apply knd.pyHash hu hkey
 apply aQ9
 refine wpAny_dictFind_heap (s:={ s with toks:=s.toks+knd.draws k }) hu hkey e1 e3 e4 e5 e6 (fun no=>absurd h0 (no j0 p0)) fun j p hj=>?_
 apply aQ9
 apply wpAny_dictEntries (s:={ s with toks:=s.toks+knd.draws k }) e1 e3
 rw [entry_at e4 j,hj]
 have sz:=size_of_entries e4
 apply aQ9
 refine wpAny_updateDictKeys (hz:=by omega) (s:={ s with toks:=s.toks+knd.draws k }) e1 e3 (aR4 (q j p _ hj ⟨_,_,ep+1,ba2 _ e1 (Obj.isFreed_of_dict (Obj.data_mapDictKeys e3 _)),e2.mapDictKeys _,Obj.data_mapDictKeys e3 _,?_⟩ (bd0 ..)))
 rw [iZ,<- e4]
 obtain ⟨l⟩:=es
 simp
end
section
variable {prog : Program} {w : World} {K : Type} [DecidableEq K] (knd : HeapKind prog w K) (d a : Addr)
theorem aw1:MeetsIn prog w (Builtin.«dict.pop» ⟨[.ref d,.ref a],[]⟩) (fun A R s=>knd.room A.in1/\∃ k xs,knd.is s.heap k a/\s.heap.DictOfH knd d xs/\xs.length<=sizeLine/\(∃ (j:Nat) (p:Addr × Value),xs[j]? = some (k,p))/\
  ∀ (j:Nat) (p:Addr × Value) h',xs[j]? = some (k,p)->G7 knd h' d xs j->Heap.SameBut d s.heap h'->R (.ok (.ret p.2)) { s with heap:=h',toks:=s.toks+knd.draws k }):=
 .of_wp fun A R s h=>by
  obtain ⟨hu,k,xs,hk,hm,hz,is,q⟩:=h
  obtain ⟨o,es,ep,e1,e2,e3,e4,e5,e6⟩:=id hm
  have ne:es.isEmpty=false:=by
   obtain ⟨j,p,hj⟩:=is
   have sz:=size_of_entries e4
   have:=(aS0.mp hj).1
   rw [Array.isEmpty_eq_false_iff,ne_eq,<- Array.size_eq_zero_iff]
   omega
  unfold Builtin.«dict.pop»
  apply aQ9
  unfold Builtin.Dict.keyAndDefault
  apply aQ9
  apply wpAny_notOrdered_dict hm.typeIs
  change wpAny _ _ (pure (d,Value.ref a,none)) _ _ s
  apply aR4
  have kp:(keyPart (Value.ref a)).isSome=false:=rfl
  simp only [kp,aT7,aZ0]
  refine aQ9 (wpAny_dictEntries e1 e3 (aQ9 (aR4 ?_)))
  simp only [ne,aT7,aZ0]
  apply aQ9
  refine aw0 hu hk hm hz is fun j p h' hj c sb=>?_
  simp only [Option.isNone_some,aT7,aZ0]
  exact aQ9 (bd1 (aR4 ⟨p.2,rfl,q j p h' hj c sb⟩))
end
end Raw
namespace L2
open PySem PySem.Spec PyProof.Rows
theorem Paired.erase {α β:Type}{F:α->β->Prop}:∀ (j:Nat) {l:List α}{m:List β},Paired F l m->Paired F (l.eraseIdx j) (m.eraseIdx j)
 | _,_,_,.nil=>.nil
 | 0,_,_,.cons _ t=>t
 | j+1,_,_,.cons r t=>.cons r (Paired.erase j t)
theorem G8 {α β:Type}{F:α->β->Prop}:∀ {l:List α}{m:List β}{i:Nat}{y:β},Paired F l m->m[i]? = some y->∃ x,l[i]? = some x/\F x y
 | _,_,_,_,.nil,e=>by simp at e
 | _,_,0,_,.cons r _,e=>by simp at e; subst e; exact⟨_,rfl,r⟩
 | _,_,i+1,y,.cons _ t,e=>by
  rw [aV8] at e
  obtain ⟨x,h1,h2⟩:=G8 t e
  exact⟨x,by rw [aV8]; exact h1,h2⟩
theorem G9 {α β:Type}{F:α->β->Prop}:∀ {l:List α}{m:List β}{i:Nat}{x:α},Paired F l m->l[i]? = some x->∃ y,m[i]? = some y/\F x y
 | _,_,_,_,.nil,e=>by simp at e
 | _,_,0,_,.cons r _,e=>by simp at e; subst e; exact⟨_,rfl,r⟩
 | _,_,i+1,x,.cons _ t,e=>by
  rw [aV8] at e
  obtain ⟨y,h1,h2⟩:=G9 t e
  exact⟨y,by rw [aV8]; exact h1,h2⟩
section
variable {X : Cx} {pins : List (Addr × Obj)} {σ : St} {H : Hp} {s : Shared} {a b : Addr} {kvs : List (List aJ × V)} {k : List aJ} {A : Around} {E : Value → Shared → Prop}
theorem aw2 {Q:Value->Shared->Prop} (hu:A.units+1 < cLine) (I:aA X pins σ H s) (e:H a=some (.dT kvs)) (eb:H b=some (.tup (k.map kV))) (is:∃ j:Nat,(kvs.map (·.1))[j]? = some k)
  (h:∀ (j:Nat) v w' s',(kvs.map (·.1))[j]? = some k->aA X pins σ (upd H a (.dT (kvs.eraseIdx j))) s'->aU v w'->Q w' s'):wpAny (model X.prog X.w) A (call (.builtin "dict.pop") [.ref a,.ref b]) Q E s:=by
 obtain ⟨z,hd,xs,rel,dd⟩:=yH I.hok e
 have hz:xs.length<=sizeLine:=by rw [<- Paired.length rel]; exact z
 refine call_meetsIn PySem.F.slot_dict_pop dd.typeIs PySem.F.entry_dict_pop (PySem.F.args_dict_pop_2 _ _) (Raw.aw1 (tupleKind (eD X.prog X.w)) a b) ⟨tupleKind_room_in1 hu,k,xs,lK I.hok eb,dd,hz,?_,fun j p h' hj c sb=>?_⟩
 ·obtain ⟨j,hj⟩:=is
  rw [aT4] at hj
  cases ej:kvs[j]? with
  | none=>rw [ej] at hj; cases hj
  | some kv=>
   rw [ej] at hj
   cases hj
   obtain ⟨y,hy,r⟩:=G9 rel ej
   exact⟨j,y.2,by rw [hy]; exact congrArg some (bb5 r.1.symm rfl)⟩
 ·obtain ⟨kv,hkv,r⟩:=G8 rel hj
  obtain ⟨o,es,ep,h1,h2,h3,h4⟩:=c
  have nd:((xs.eraseIdx j).map (·.1)).Nodup:=by
   obtain ⟨_,_,_,_,_,_,_,_,nd⟩:=dd
   exact nd.sublist ((List.eraseIdx_sublist xs j).map _)
  refine h j kv.2 p.2 _ (by rw [aT4,hkv]; exact congrArg some r.1) ?_ r.2.2
  refine sX I (by rw [e]; exact bh3) sb ⟨o,h1⟩ ⟨aU9 (List.length_eraseIdx_le kvs j) z,hd,_,KT.keeps (Paired.erase j rel) fun c ys ec=>?_,o,es,ep,h1,h2,h3,h4,nd⟩
  rw [b8 (wC ec e (fun z=>nomatch z))]
  exact ec
end
section
variable {X : Cx} {o e : Expr} {apos cpos : Pos} {td ty : TE}
def J0 (td ty:TE):TE:=fun σ H Q=>td σ H fun x H1=>∃ a,x = .ref a/\sZ H1 a/\ty σ H1 fun y H2=>∃ kvs k b,H2 a=some (.dT kvs)/\y = .ref b/\H2 b=some (.tup (k.map kV))/\(∃ j:Nat,(kvs.map (·.1))[j]? = some k)/\∀ (j:Nat) v,(kvs.map (·.1))[j]? = some k->Q v (upd H2 a (.dT (kvs.eraseIdx j)))
theorem aw3 (hu:X.A.units+1 < cLine) (ho:PE X o td) (he:PE X e ty) (m:M1 X o "pop" apos e cpos):PE X (.Call (.Attribute o "pop" apos) [e] [] cpos) (J0 td ty):=by
 intro pins s σ H Q I h
 refine wpAny_Call_method m.base m.few m.line PySem.F.plainAttrs_dict PySem.F.slot_dict_pop PySem.F.type_dict_pop (aQ (ho pins s σ H _ I h) fun u s1 h1=>?_)
 obtain ⟨x,H1,I1,rx,a,ex,d,q1⟩:=h1
 subst ex
 obtain rfl:u=Value.ref a:=rx
 obtain ⟨t1,t2,_⟩:=yM I1 d
 refine⟨t1,t2,?_⟩
 rw [m.trees]
 refine Calls.callWith_builtin rfl (Calls.evalArgs_plain (Calls.spliced_cons (aQ (he pins s1 σ H1 _ I1 q1) fun iv s2 h2=>Calls.spliced_nil ?_)))
 obtain ⟨y,H2,I2,ry,kvs,k,b,ea,ey,eb,is,q2⟩:=h2
 subst ey
 obtain rfl:iv=Value.ref b:=ry
 exact aw2 hu I2 ea eb is fun j v w' s3 hj I3 rw'=>⟨v,_,I3,rw',q2 j v hj⟩
end
end L2
namespace Core
open PySem L2 PP
def uX (ns:List Int):Bool:=((ns.zip (ns.drop 1)).map fun p=>decide (p.1 < p.2)).all id
def kin (ws:List Int) (ls:List (Int × Int)) (S:List Int) (h:Int):Bool:=!decide (h ∈ S) && decide (ws.getD h.toNat 0<=(((tI ls h).filter fun x=>decide (x ∈ S)).length:Int))
def nextOf (ws:List Int) (ls:List (Int × Int)) (S:List Int):List Int:=((List.range ws.length).map fun (i:Nat)=>(i:Int)).filter (kin ws ls S)
def nZ (ws:List Int) (ls:List (Int × Int)) (S:List Int):Nat->List Int
 | 0=>S
 | k+1=>nZ ws ls S k ++ nextOf ws ls (nZ ws ls S k)
def after (ws:List Int) (ls:List (Int × Int)) (S:List Int) (m:Nat):List (List Int):=(List.range m).map fun k=>nextOf ws ls (nZ ws ls S k)
def dW (ws:List Int) (ls:List (Int × Int)) (ns:List Int) (m:Nat):Prop:=(∀ k < m,nextOf ws ls (nZ ws ls ns k) ≠ [])/\nextOf ws ls (nZ ws ls ns m) = []
theorem uY {lo:Int}{n i:Nat}{x:PV} (h:(jO lo n)[i]? = some x):x = .int (lo+i)/\i < n:=by
 have hi:i < n:=by
  have:=(aS0.mp h).1
  rwa [lR] at this
 rw [zT hi] at h
 exact⟨(aT8 h).symm,hi⟩
def rng (n:Nat):List Int:=(List.range n).map fun (i:Nat)=>(i:Int)
theorem o0 {α:Type}{l:List α}{p:α->Bool}{i:Nat}{x:α} (h:l[i]? = some x):(l.take (i+1)).filter p=(l.take i).filter p ++ (if p x=true then [x] else []):=by
 rw [aX8,h,List.filter_append]
 congr 1
 cases e:p x <;> simp [e]
theorem aw4 (a:List Int):(intz a).length=a.length:=aS1 _
def J1 (x:PV) (ns:List Int):Prop:=x = .tup (intz ns) ∨ x = .lst (intz ns)
theorem j5:∀ (ls:List (Int × Int)),flats (ls.map fun l=>PV.tup [.int l.1,.int l.2])=true
 | []=>rfl
 | l :: r=>by
  show (flat (.tup [.int l.1,.int l.2]) && flats (r.map fun l=>PV.tup [.int l.1,.int l.2]))=true
  rw [j5 r]; rfl
theorem qN (ns:List Int):flat (.tup (intz ns))=true:=tO ns
abbrev dS (t:aV) (N:List Str) (p:bZ):Prop:=∀ xs Q,p xs Q->t { nx:=fun _=>Q .non,rt:=Q } (fM N xs)
def aw5:bZ:=fun xs Q=>∃ x ns,xs = [x]/\J1 x ns/\ns.length<=1000/\Q (.bl (uX ns))
def inB (n:Nat) (x:Int):Bool:=decide (0<=x) && decide (x < (n:Int))
structure DS (ps:List (aJ × PV)) (S:List Int):Prop where
 has:∀ i:Int,(bS ps (Sum.inl i:aJ)).isSome=decide (i ∈ S)
 len:ps.length<=S.length
 fl:flats (ps.map (·.2))=true
section
variable {κ : Type} [DecidableEq κ]
theorem j6 {p:κ × PV}{r:List (κ × PV)}{k:κ} (e:p.1=k):bS (p :: r) k=some p.2:=by simp [bS,bc1,e]
theorem j7 {p:κ × PV}{r:List (κ × PV)}{k:κ} (e : ¬ p.1=k):bS (p :: r) k=bS r k:=by simp [bS,bc1,e]
theorem mD (k:κ):∀ kvs:List (κ × PV),(kvs.any fun kv=>decide (kv.1=k))=(bS kvs k).isSome
 | []=>rfl
 | p :: r=>by
  rw [List.any_cons]
  by_cases e:p.1=k
  ·simp only [j6 e,aR3 e,Bool.true_or,Option.isSome_some]
  ·rw [j7 e,aR2 e,Bool.false_or]; exact mD k r
theorem J2 (k j:κ) (y:PV):∀ kvs:List (κ × PV),bS (kvs.map fun kv=>if kv.1=k then (kv.1,y) else kv) j=(bS kvs j).map fun x=>if j=k then y else x
 | []=>rfl
 | p :: r=>by
  have ih:=J2 k j y r
  rw [aW8]
  by_cases h:p.1=k
  ·rw [if_pos h]
   by_cases e:p.1=j
   ·rw [j6 (p:=(p.1,y)) e,j6 e,Option.map_some,if_pos (e.symm.trans h)]
   ·rw [j7 (p:=(p.1,y)) e,j7 e,ih]
  ·rw [if_neg h]
   by_cases e:p.1=j
   ·rw [j6 (p:=p) e,j6 e,Option.map_some,if_neg (fun z=>h (e.trans z))]
   ·rw [j7 (p:=p) e,j7 e,ih]
theorem J3 (k j:κ) (y:PV):∀ kvs:List (κ × PV),bS kvs k=none->bS (kvs ++ [(k,y)]) j=if j=k then some y else bS kvs j
 | [],_=>by
  by_cases e:k=j
  ·rw [if_pos e.symm]; exact j6 (p:=(k,y)) e
  ·rw [if_neg (fun z=>e z.symm)]; exact j7 (p:=(k,y)) e
 | p :: r,hn=>by
  rw [List.cons_append]
  have hk : ¬ p.1=k:=fun z=>by rw [j6 z] at hn; cases hn
  rw [j7 hk] at hn
  have ih:=J3 k j y r hn
  by_cases e:p.1=j
  ·rw [j6 e,j6 e,if_neg (fun z=>hk (e.trans z))]
  ·rw [j7 e,j7 e,ih]
theorem J4 (kvs:List (κ × PV)) (k j:κ) (y:PV):bS (dP kvs k y) j=if j=k then some y else bS kvs j:=by
 unfold dP
 by_cases a:(kvs.any fun kv=>decide (kv.1=k))=true
 ·rw [if_pos a,J2]
  rw [mD] at a
  by_cases e:j=k
  ·obtain ⟨x,hx⟩:=Option.isSome_iff_exists.mp a
   rw [if_pos e,e,hx,Option.map_some,if_pos rfl]
  ·rw [if_neg e]
   cases bS kvs j with
   | none=>rfl
   | some x=>rw [Option.map_some,if_neg e]
 ·rw [if_neg a]
  refine J3 k j y kvs ?_
  rw [mD] at a
  cases q:bS kvs k with
  | none=>rfl
  | some x=>rw [q] at a; exact (a rfl).elim
theorem aw6 (kvs:List (κ × PV)) (k:κ) (v:PV):(dP kvs k v).length<=kvs.length+1:=by
 unfold dP
 split
 ·rw [aS1]; omega
 ·rw [aU4,aV5,be4]; omega
end
theorem J5 {ws:List Int}{h:Int} (h0:0<=h) (h1:h < (ws.length:Int)):atI (intz ws) h=some (.int (ws.getD h.toNat 0)):=by
 refine al8 h0 ?_
 have:h.toNat < ws.length:=by omega
 rw [aT4,aT3,aR5 this]; rfl
def tups (rs:List (List Int)):List PV:=rs.map fun r=>PV.tup (intz r)
theorem J6:∀ (rs:List (List Int)),flats (tups rs)=true
 | []=>rfl
 | r :: t=>by
  show (flat (.tup (intz r)) && flats (tups t))=true
  rw [qN,J6 t]; rfl
theorem aw7 (g:Tg) (n:Int):Nw g (.int n):=by cases g <;> first | exact trivial | rfl
def o3 (x:PV) (ns:List Int):Prop:=x = .scr ns ∨ x = .lst (intz ns)
theorem o3.seq {x:PV}{ns:List Int} (h:o3 x ns):iS x=some (intz ns):=by rcases h with rfl | rfl <;> rfl
theorem o3.len {x:PV}{ns:List Int} (h:o3 x ns):zO x=some ns.length:=by
 rcases h with rfl | rfl
 ·rfl
 ·show some (intz ns).length=_
  rw [aw4]
def jY:bZ:=fun xs Q=>∃ x ns k,xs = [x,.int k]/\o3 x ns/\0<=k/\Q (.int (ns.getD k.toNat 0))
def J7:aV:=(aI (bY (aZ (gM (a7 1) (aM gU (a8 (a7 0) aD)))) (bQ (bD (a7 0) (a7 1))) cB)
 (bQ (qC (.int 0))))
theorem aw8:dS J7 ["script","k"] jY:=by
 rintro xs Q ⟨x,ns,k,rfl,hx,h0,q⟩
 refine⟨_,rfl,_,rfl,_,_,rfl,hx.len,_,_,rfl,rfl,_,rfl,?_⟩
 by_cases h:k < (ns.length:Int)
 ·rw [aR3 h]
  exact aX ⟨_,rfl,_,rfl,_,_,_,hx.seq,rfl,J5 h0 h,aw7 _ _,q⟩
 ·rw [aR2 h]
  rw [aT3,List.getElem?_eq_none (by omega)] at q
  exact aL ⟨trivial,q⟩
def aG (ls:List (Int × Int)):List PV:=ls.map fun l=>PV.tup [.int l.1,.int l.2]
theorem dY (ls:List (Int × Int)):(aG ls).length=ls.length:=aS1 _
def eY (l m:Int × Int):Prop:=l.1 < m.1 ∨ (l.1=m.1/\l.2 < m.2)
abbrev si (n:Int):Option Slot:=some (.sh true (.int n))
theorem jZ {ls:List (Int × Int)}{i:Nat}{x:PV} (h:(aG ls)[i]? = some x):∃ l,x = .tup [.int l.1,.int l.2]/\ls[i]? = some l:=by
 unfold aG at h
 rw [aT4] at h
 cases e:ls[i]? with
 | none=>rw [e] at h; cases h
 | some n=>rw [e] at h; exact⟨n,(aT8 h).symm,rfl⟩
end Core
namespace PP
open PySem L2 PyProof.Rows
section
variable {X : Cx} {a b e : Expr} {ta tb te : aE} {tr : cV} {pos p2 p3 pos2 : Pos}
def uZ:V->Int
 | .int i=>i
 | _=>0
def l6 (H:Hp):V->List Int
 | .ref a=>match H a with
  | some (.tup us)=>us.map uZ
  | _=>[]
 | _=>[]
theorem aw9 {H:Hp}{a:Addr}{ns:List Int} (h:H a=some (.tup (ns.map V.int))):l6 H (.ref a)=ns:=by
 show (match H a with | some (.tup us)=>us.map uZ | _=>[])=ns
 rw [h]
 show (ns.map V.int).map uZ=ns
 rw [aY4]
 exact List.map_id _
theorem J8 {K:PySem.W.Frag}{M:Addr->Prop}{H:Hp}:∀ {us:List V}{ys:List (List Int)},Reps K M H us (ys.map fun r=>PV.tup (intz r))->us.map (l6 H)=ys/\∀ u ∈ us,∃ b,u = .ref b/\H b=some (.tup ((l6 H u).map V.int))
 | _,[],.nil=>⟨rfl,fun u h=>nomatch h⟩
 | _,y :: ys,.cons r t=>by
  obtain ⟨a,us,rfl,h,r1⟩:=r.sqT
  obtain rfl:=r1.ofInts
  obtain ⟨h1,h2⟩:=J8 t
  have hk:=aw9 h
  refine⟨by rw [aW8,h1,hk],fun u hu=>?_⟩
  rcases aR7.mp hu with rfl | hu
  ·exact⟨a,rfl,by rw [hk]; exact h⟩
  ·exact h2 u hu
theorem J9 {K:PySem.W.Frag}{M:Addr->Prop}{H:Hp}:∀ {us:List V},(∀ u ∈ us,∃ b,u = .ref b/\H b=some (.tup ((l6 H u).map V.int)))->Reps K M H us ((us.map (l6 H)).map fun r=>PV.tup (intz r))
 | [],_=>.nil
 | u :: us,h=>by
  obtain ⟨b,rfl,hb⟩:=h u aS6
  exact .cons (.tup hb (Reps.intz _)) (J9 fun v hv=>h v (aS2 _ hv))
end
def ax0 (K:PySem.W.Frag):Sp:=fun vs H Q _=>∃ (a:Addr) (ns:List Int),vs = [.ref a]/\(aS K H a (ns.map V.int) ∨ aW K H a (ns.map V.int))/\ns.length<=1000/\∀ H',aH H H'->Q (.bl (Core.uX ns)) H'
section
variable {P : Program} {w : World} {K : PySem.W.Frag} {mg : Str → Option Value} {base : Heap} {f : Addr} {fd : FuncData} {k : Nat}
theorem K0 (F:dO P w K mg base eR k f fd ["things"] (ax0 K)) (b:jJ K fd ["things"] []) (kp:PySem.W.keepIn K (.ref f)=true) (m:mg "rises" = some (.ref f)):Df P w K mg base k "rises" ["things"] Core.aw5:=by
 refine⟨f,fd,F.imp fun vs H Q E h=>?_,b,kp,m⟩
 obtain ⟨xs,Qp,r,⟨x,ns,rfl,hx,hl,q⟩,k⟩:=h
 obtain ⟨v,rfl,r1⟩:=r.one
 rcases hx with rfl | rfl
 ·obtain ⟨a,us,rfl,h,r2⟩:=r1.sqT
  obtain rfl:=r2.ofInts
  exact⟨a,ns,rfl,.inl (aS.of h),hl,fun H' s=>k _ H' _ s (.bl _) q⟩
 ·obtain ⟨a,us,rfl,_,h,r2⟩:=r1.sqL
  obtain rfl:=r2.ofInts
  exact⟨a,ns,rfl,.inr (aW.of h),hl,fun H' s=>k _ H' _ s (.bl _) q⟩
end
end PP
namespace Core
open PySem L2 PP
def two (l:Int × Int):List Int:=[l.1,l.2]
def o5 (r:List Int):Int × Int:=(r.getD 0 0,r.getD 1 0)
theorem o6 (ls:List (Int × Int)):aG ls=(ls.map two).map fun r=>PV.tup (intz r):=by
 unfold aG
 rw [aY4]; rfl
theorem K1 {zs:List (List Int)}{ls:List (Int × Int)} (h:zs.Perm (ls.map two)):∃ ls':List (Int × Int),zs=ls'.map two/\ls'.Perm ls:=by
 refine⟨zs.map o5,?_,?_⟩
 ·rw [aY4]
  have:∀ z ∈ zs,(two ∘ o5) z=z:=fun z hz=>by
   obtain ⟨l,_,rfl⟩:=aU0.mp (h.mem_iff.mp hz)
   rfl
  rw [List.map_congr_left this,List.map_id']
 ·have:=h.map o5
  rw [aY4] at this
  have e:ls.map (o5 ∘ two)=ls:=by
   have:∀ l ∈ ls,(o5 ∘ two) l=id l:=fun l _=>rfl
   rw [List.map_congr_left this,List.map_id]
  rw [e] at this
  exact this
theorem K2 {ls:List (Int × Int)} (so:(ls.map two).Pairwise fun u v=>HT.aO v u=false) (nd:ls.Nodup):ls.Pairwise eY:=by
 rw [ba4] at so
 refine (List.pairwise_and_iff.mpr ⟨so,nd⟩).imp fun {a b} h=>?_
 obtain ⟨h1,h2⟩:=h
 unfold two at h1
 rw [HT.gI] at h1
 unfold eY
 by_cases e:b.1=a.1
 ·rw [if_pos e,HT.gI] at h1
  by_cases e2:b.2=a.2
  ·exact absurd (bb5 e.symm e2.symm) h2
  ·rw [if_neg e2] at h1
   have:=bf1 h1
   omega
 ·rw [if_neg e] at h1
  have:=bf1 h1
  omega
def cQ (l:Int × Int):List aJ:=[Sum.inl l.1,Sum.inl l.2]
def K3:bZ:=fun xs Q=>∃ ns:List Int,xs = [.scr ns]/\ns.length<=63/\Q (.bl true)
structure ax1 (K:PySem.W.Frag):Prop where
 ii:PySem.W.kitOne K (.type "int") (.type "int")=some true
 ib:PySem.W.kitOne K (.type "int") (.type "bool")=some false
 tt:PySem.W.kitOne K (.type "tuple") (.type "tuple")=some true
 ll:PySem.W.kitOne K (.type "list") (.type "list")=some true
 bb:PySem.W.kitOne K (.type "bool") (.type "bool")=some true
theorem K4 (K:PySem.W.Frag):ax1 K:=by
 have same:∀ n:String,PySem.W.kitMeta n=true->True:=fun _ _=>trivial
 refine⟨?_,?_,?_,?_,?_⟩
 ·unfold PySem.W.kitOne; rw [if_pos (by decide)]
 ·have e:(if PySem.W.kitMeta "bool" = true then (fastBuiltinMro "int").map (·.contains (Value.type "bool")) else none)=some false:=by decide +kernel
  unfold PySem.W.kitOne
  rw [if_neg (by decide)]
  exact e
 ·unfold PySem.W.kitOne; rw [if_pos (by decide)]
 ·unfold PySem.W.kitOne; rw [if_pos (by decide)]
 ·unfold PySem.W.kitOne; rw [if_pos (by decide)]
end Core
namespace PP
open PySem L2 PyProof.Rows
theorem ax2 {P:Program}{w:World}{K:PySem.W.Frag}{mg:Str->Option Value}{base:Heap}{k:Nat}{x:Str}{ps N:List Str}{p:bZ}{st:Stmt}{f:Addr}{fd:FuncData} (F:fY K x x st f fd) (S:FnScope N ps (b7 st))
  (len:∀ xs Q,p xs Q->xs.length=ps.length)
  (body:∀ (cdv:Value) (A:Around) (outer:List Env) (s:Shared) (H:Hp) (E:XK),cD k (A.deeper (envOfC x (b7 st) s.heap.objs.size f cdv))->
   ∃ t,eV (dF eR P w K mg base N x (b7 st) f cdv A outer s H E).nox (eF st) t/\∀ xs Q,p xs Q->t { nx:=fun _=>Q .non,rt:=Q } (fM N xs)):dO P w K mg base eR (k+1) f fd ps (nH K p):=by
 refine F.ok S (fun vs H Q E h=>?_) (fun cdv A outer s H vs Q E hr h=>?_)
 ·obtain ⟨xs,Qp,r,q,_⟩:=h
  rw [r.length]; exact len xs Qp q
 ·obtain ⟨xs,Qp,r,q,k⟩:=h
  obtain ⟨t,ht,hq⟩:=body cdv A outer s H E hr
  refine⟨_,ht,fun _=>False,fM N xs,_,uJ r,hq xs Qp q,?_,?_,?_,?_⟩
  ·exact fun W' σ' H' ρ' e px q=>k _ _ _ px.same .non q
  ·exact fun v H' x s r q=>k _ _ _ s r q
  ·exact fun W' σ' H' ρ' e px q=>q
  ·exact fun W' σ' H' ρ' e px q=>q
def qO (K:PySem.W.Frag):Sp:=fun vs H Q _=>∃ (a:Addr) (ns:List Int),vs = [.ref a]/\iO K H a ns/\ns.length<=63/\∀ H',Q (.bl true) H'
theorem ax3 {P:Program}{w:World}{K:PySem.W.Frag}{mg:Str->Option Value}{base:Heap}{k:Nat}{f:Addr}{fd:FuncData} (F:dO P w K mg base eR k f fd ["script"] (nH K Core.K3)):dO P w K mg base eR k f fd ["script"] (qO K):=
 F.imp fun vs H Q E h=>by
  obtain ⟨a,ns,rfl,hs,hl,q⟩:=h
  refine⟨[.scr ns],fun z=>z = .bl true,.cons (.scr hs) .nil,⟨ns,rfl,hl,rfl⟩,?_⟩
  rintro v H' x _ r rfl
  cases r
  exact q H'
theorem ax4 {K:PySem.W.Frag}{H:Hp}{a:Addr}{ns:List Int} (hO:oT H) (h:aW K H a (ns.map V.int)):iO K H a ns:=by
 rcases h with (h | ⟨o,h⟩) | h
 ·rcases hO a with e | ⟨o,xs,e⟩ <;> (rw [h] at e; cases e)
 ·exact .inl ⟨o,h⟩
 ·exact .inr h
end PP
namespace PyProof.Rows
open PySem
end PyProof.Rows
namespace L2
open PySem PySem.Spec PyProof.Rows
def v5 (K:PySem.W.Frag) (a:Addr):It:=
  ⟨fun i H=>∃ xs x,aW K H a xs/\xs[i]? = some x,
   fun i H v H'=>∃ T x,H T=none/\v = .ref T/\H'=upd H T (.tup [.int i,x])/\∀ xs,aW K H a xs->xs[i]? = some x,
   fun i H=>∃ xs,aW K H a xs/\xs.length<=i⟩
structure ax5 (e it a:Addr) (i:Nat) (h:Heap):Prop where
 ee:∃ old,IsEnum h e it i old
 s1:h.IsListIter it a i
theorem ax6 {P:Program}{w:World}{K:PySem.W.Frag}{elts:List Expr}{k:Nat}{pos:Pos} (a e it:Addr) (d:e ≠ it) :
  i7 P w K (.Tuple elts k pos) (v5 K a) [e,it] e (ax5 e it a):=by
 refine⟨by simp,fun i h st c hc=>?_,fun i h h' st kp=>?_,?_,?_,fun A i s Q E st q=>?_⟩
 ·simp only [aR7,aS8,aV7] at hc
  obtain ⟨old,ee⟩:=st.ee
  obtain ⟨o1,f1,g1,d1⟩:=st.s1
  rcases hc with rfl | rfl
  ·exact⟨_,ee,fun v q=>by cases q⟩
  ·exact⟨_,f1,fun v q=>by rw [d1] at q; cases q⟩
 ·obtain ⟨old,ee⟩:=st.ee
  exact⟨⟨old,kp e (by simp) _ ee⟩,st.s1.at fun o z=>kp it (by simp) o z⟩
 ·intro X hP hw hK hc i pins s σ H E I hf st hg
  subst hP hw hK
  obtain ⟨xs,x,ha,hx⟩:=hg
  obtain ⟨us,ru,pu,lu⟩:=I.list ha
  obtain ⟨ux,eux,rux⟩:=ru.get hx
  obtain ⟨old,ee⟩:=st.ee
  refine wpAny_pyNext_enum_item ee st.s1 pu.isList (by simpa using eux) d fun h' eo it' pr sz kp=>⟨_,rfl,?_⟩
  refine wpAny_letOwnedTupleGo_enum (s:={ s with heap:=h',toks:=s.toks+1 }) eo fun g zz sb=>?_
  have hzl:e < s.heap.objs.size:=aS5 ee
  have up:∀ c o,c ≠ e->c ≠ it->s.heap.get? c=some o->g.get? c=some o:=fun c o c1 c2 z=>sb.extBut c o c1 (kp c o c1 c2 z)
  have hT:H s.heap.objs.size=none:=I.hok.fresh (aS4 _)
  have prG:g.get? s.heap.objs.size=some { cls:=.type "tuple",data:=.seq #[.int i s.toks,ux] }:=sb.extBut _ _ (ba3 hzl) pr
  have fpn:∀ c u,H c=some u->c ∉ [e,it]:=fun c u z hm=>by rw [(hf c hm).1] at z; cases z
  have upH:∀ c o u,H c=some u->s.heap.get? c=some o->g.get? c=some o:=fun c o u q z=>by
   have:=fpn c u q
   simp only [aR7,aS8,aV7,not_or] at this
   exact up c o this.1 this.2 z
  have ns:∀ m,s.heap.Ns X.env.locals m->g.Ns X.env.locals m:=fun m hm=>by
   obtain ⟨o,es,ep,e1,e2⟩:=hm
   exact⟨o,es,ep,up _ o (Ne.symm (hf e (by simp)).2.1) (Ne.symm (hf it (by simp)).2.1) e1,e2⟩
  have I2:aA X pins σ (upd H s.heap.objs.size (.tup [.int i,x])) { s with heap:=g,toks:=s.toks+1 }:=by
   refine I.step (g':=s.gens) (d':=s.drawn) (ch:=[e,it]) (fun c hc'=>?_) (fun c o _ _ hc' z _=>?_) (fun c o _ _ hc' z _=>⟨o.slots,?_⟩) (fun c o _ z n=>?_) (fun c o hc' z=>⟨o,?_⟩)
    (fun c zs z=>by rw [b8 (dE z hT)]; exact z) (fun c u zs z=>by rw [b8 (dE z hT)]; exact z) (fun c ps z=>⟨#[],by rw [b8 (dE z hT),z]; simp⟩) ns (fun c u z=>?_) I.bare
   ·exact⟨(hf c hc').2.2.2.1,(hf c hc').2.1,(hf c hc').2.2.2.2.1,(hf c hc').2.2.2.2.2⟩
   ·simp only [aR7,aS8,aV7,not_or] at hc'
    exact up c o hc'.1 hc'.2 z
   ·simp only [aR7,aS8,aV7,not_or] at hc'
    exact up c o hc'.1 hc'.2 z
   ·rw [b8 (aU5 (aS5 z))]; exact n
   ·simp only [aR7,aS8,aV7,not_or] at hc'
    exact up c o hc'.1 hc'.2 z
   ·by_cases hcT:c=s.heap.objs.size
    ·subst hcT
     rw [cS] at z; cases z
     exact⟨by show 2<=sizeLine; decide,[.int i s.toks,ux],.cons ⟨_,rfl⟩ (.cons rux .nil),⟨_,prG,rfl,_,rfl⟩,fun u e=>by rw [prG] at e; cases e; rfl⟩
    ·rw [b8 hcT] at z
     refine (I.hok c u z).stay (fun c' o' hc2 q'=>?_) (fun c' q'=>by rw [b8 (dE q' hT)]; exact q') fun c' zs q'=>by rw [b8 (dE q' hT)]; exact q'
     rcases hc2 with rfl | hc2
     ·exact upH _ _ _ z q'
     ·exact upH _ _ _ hc2 q'
  refine⟨.ref s.heap.objs.size,_,I2,rfl,⟨_,x,hT,rfl,rfl,fun xs' ha'=>?_⟩,⟨⟨ux,by push_cast; exact zz⟩,it'.at fun o z=>sb.extBut _ o (Ne.symm d) z⟩,fun c hc'=>?_⟩
  ·rw [I.list_inj ha' ha]; exact hx
  ·obtain ⟨o,z⟩:∃ o,s.heap.get? c=some o:=by
    simp only [aR7,aS8,aV7] at hc'
    obtain ⟨o1,f1,_⟩:=st.s1
    rcases hc' with rfl | rfl
    ·exact⟨_,ee⟩
    ·exact⟨_,f1⟩
   rw [b8 (aU5 (aS5 z))]; exact (hf c hc').1
 ·intro X hP hw hK hc i pins s σ H E I hf st hg
  subst hP hw hK
  obtain ⟨xs,ha,hi⟩:=hg
  obtain ⟨us,ru,pu,lu⟩:=I.list ha
  obtain ⟨old,ee⟩:=st.ee
  have hh:X.A.handled=none:=I.ok.hd hc
  have e1:=ru.length
  refine wpAny_pyNext_enum_end hh ee st.s1 pu.isList (by rw [Array.getElem?_eq_none]; simp only [aR8]; omega) fun g kp=>⟨rfl,?_⟩
  have fpn:∀ c u,H c=some u->c ∉ [e,it]:=fun c u z hm=>by rw [(hf c hm).1] at z; cases z
  have upH:∀ c o u,H c=some u->s.heap.get? c=some o->g.get? c=some o:=fun c o u q z=>by
   have:=fpn c u q
   simp only [aR7,aS8,aV7,not_or] at this
   exact kp c o this.2 z
  have ns:∀ m,s.heap.Ns X.env.locals m->g.Ns X.env.locals m:=fun m hm=>by
   obtain ⟨o,es,ep,e1,e2⟩:=hm
   exact⟨o,es,ep,kp _ o (Ne.symm (hf it (by simp)).2.1) e1,e2⟩
  refine I.step (g':=s.gens) (d':=s.drawn) (ch:=[it]) (fun c hc'=>?_) (fun c o _ _ hc' z _=>?_) (fun c o _ _ hc' z _=>⟨o.slots,?_⟩) (fun c o _ z n=>n) (fun c o hc' z=>⟨o,?_⟩)
   (fun c zs z=>z) (fun c u zs z=>z) (fun c ps z=>⟨#[],by rw [z]; simp⟩) ns (fun c u z=>?_) I.bare
  ·have hm:c ∈ [e,it]:=aS2 _ hc'
   exact⟨(hf c hm).2.2.2.1,(hf c hm).2.1,(hf c hm).2.2.2.2.1,(hf c hm).2.2.2.2.2⟩
  ·exact kp c o (fun y=>hc' (by rw [y]; simp)) z
  ·exact kp c o (fun y=>hc' (by rw [y]; simp)) z
  ·exact kp c o (fun y=>hc' (by rw [y]; simp)) z
  ·refine (I.hok c u z).stay (fun c' o' hc2 q'=>?_) (fun _ q'=>q') fun _ _ q'=>q'
   rcases hc2 with rfl | hc2
   ·exact upH _ _ _ z q'
   ·exact upH _ _ _ hc2 q'
 ·obtain ⟨old,ee⟩:=st.ee
  exact wpAny_pyIter_enum ee q
end L2
namespace Zp
open PySem PyProof.Rows
section
variable {prog : Program} {w : World} {A : Around} {E : Value → Shared → Prop} {s : Shared}
theorem ax7 {e it t:Addr}{i:Nat}{items:Array Value}{x old:Value}{Q:Option Value->Shared->Prop} (he:IsEnum s.heap e it i old) (hi:s.heap.IsTupleIter it t i) (ht:s.heap.IsTuple t items) (hx:items[i]? = some x) (ne:e ≠ it)
  (q:∀ h',IsEnumOut h' e it ((i:Int)+1) x s.heap.objs.size->h'.IsTupleIter it t (i+1)->h'.get? s.heap.objs.size=some { cls:=.type "tuple",data:=.seq #[.int i s.toks,x] }->h'.objs.size=s.heap.objs.size+1->
   (∀ b o,b ≠ e->b ≠ it->s.heap.get? b=some o->h'.get? b=some o)->Q (some (.ref s.heap.objs.size)) { s with heap:=h',toks:=s.toks+1 }):wpAny (model prog w) A (pyNext (.ref e)) Q E s:=by
 have T:s.TypeIs (.ref e) "enumerate":=⟨_,he,rfl⟩
 have slot:=PySem.F.slot_enumerate_next
 unfold pyNext
 apply aQ9
 apply wpAny_attempt
 apply aX1 (name:=Str.ofString "__next__") T slot
 apply aX5 slot T PySem.F.entry_enumerate_next _ (PySem.F.args_enumerate_next_1 _)
 change wpAny _ _ (field (.ref e) 2 >>= _) _ _ _
 apply aQ9
 refine aX0 he rfl (x:=.ref it) rfl ?_
 apply aQ9
 refine zA hi ht hx fun g1 it1 sb1=>?_
 have e1:IsEnum g1 e it i old:=sb1.extBut _ _ ne he
 change wpAny _ _ (field (.ref e) 3 >>= _) _ _ _
 apply aQ9
 refine aX0 e1 rfl (x:=rawInt i) rfl ?_
 change wpAny _ _ (field (.ref e) 4 >>= _) _ _ _
 apply aQ9
 refine aX0 e1 rfl (x:=.none) rfl ?_
 change wpAny _ _ (mkInt i >>= _) _ _ _
 apply aQ9
 refine wpAny_mkInt ?_
 change wpAny _ _ (setField (.ref e) 3 (rawInt ((i:Int)+1)) >>= _) _ _ _
 apply aQ9
 refine aY0 e1 (by simp) fun g2 e2 sb2=>?_
 apply aQ9
 refine aY0 e2 (by simp) fun g3 e3 sb3=>?_
 have e3:IsEnum g3 e it ((i:Int)+1) old:=e3
 apply aQ9
 refine wpAny_newTuple ?_ (by show 2<=sizeLine; decide)
 have e4:IsEnum (g3.push { cls:=.type "tuple",data:=.seq #[.int i s.toks,x] }) e it ((i:Int)+1) old:=aR1 _ e3
 have size:g3.objs.size=s.heap.objs.size:=by rw [sb3.1,sb2.1,sb1.1]
 change wpAny _ _ (Builtin.SmallTypes.ownedTupleIsFree (.ref e) >>= _) _ _ _
 apply aQ9
 unfold Builtin.SmallTypes.ownedTupleIsFree
 apply aQ9
 refine aX0 e4 rfl (x:=.none) rfl (aR4 ?_)
 simp only [if_true]
 apply aQ9
 apply be5
 apply aQ9
 refine aX0 e4 rfl (x:=old) rfl ?_
 apply aQ9
 refine aY0 e4 (by simp) fun g5 e5 sb5=>?_
 apply aQ9
 unfold Builtin.SmallTypes.ownedTupleHandOut
 apply aQ9
 refine aY0 e5 (by simp) fun g6 e6 sb6=>?_
 refine aY0 e6 (by simp) fun g7 e7 sb7=>?_
 have e7:IsEnumOut g7 e it ((i:Int)+1) x g3.objs.size:=e7
 have elt:e < g3.objs.size:=aS5 e3
 have up:∀ c o,c ≠ e->(g3.push { cls:=.type "tuple",data:=.seq #[.int i s.toks,x] }).get? c=some o->g7.get? c=some o:=fun c o c1 z=>sb7.extBut c o c1 (sb6.extBut c o c1 (sb5.extBut c o c1 z))
 have up3:∀ c o,c ≠ e->g1.get? c=some o->g7.get? c=some o:=fun c o c1 z=>up c o c1 (aR1 _ (sb3.extBut c o c1 (sb2.extBut c o c1 z)))
 have p7:g7.get? g3.objs.size=some { cls:=.type "tuple",data:=.seq #[.int i s.toks,x] }:=up _ _ (ba3 elt) (aS7 _ rfl)
 have s7:g7.objs.size=g3.objs.size+1:=by rw [sb7.1,sb6.1,sb5.1,aY7]
 apply aQ9
 apply bd1
 apply aR4
 rw [size] at e7 p7 s7
 refine⟨_,rfl,aR4 ?_⟩
 change Q (some (.ref g3.objs.size)) _
 rw [size]
 exact q g7 e7 (it1.at fun o z=>up3 it o (Ne.symm ne) z) p7 s7 fun b o b1 b2 z=>up3 b o b1 (sb1.extBut b o b2 z)
theorem ax8 {e it t:Addr}{i:Nat}{items:Array Value}{old:Value}{Q:Option Value->Shared->Prop} (hh:A.handled=none) (he:IsEnum s.heap e it i old) (hi:s.heap.IsTupleIter it t i) (ht:s.heap.IsTuple t items) (hx:items[i]? = none)
  (q:∀ h',Heap.ExtBut it s.heap h'->Q none { s with heap:=h' }):wpAny (model prog w) A (pyNext (.ref e)) Q E s:=by
 have T:s.TypeIs (.ref e) "enumerate":=⟨_,he,rfl⟩
 have slot:=PySem.F.slot_enumerate_next
 unfold pyNext
 apply aQ9
 apply wpAny_attempt
 apply aX1 (name:=Str.ofString "__next__") T slot
 apply aX5 slot T PySem.F.entry_enumerate_next _ (PySem.F.args_enumerate_next_1 _)
 change wpAny _ _ (field (.ref e) 2 >>= _) _ _ _
 apply aQ9
 refine aX0 he rfl (x:=.ref it) rfl ?_
 apply aQ9
 refine zB hh hi ht hx fun g2 ex eb exo=>?_
 obtain ⟨oe,eo,co⟩:=exo
 apply aQ9
 refine wpAny_isInstance (T:="StopIteration") (b:=true) ⟨oe,eo,co⟩ isSubtype_stop ?_
 exact aR4 (q g2 eb)
theorem ax9 {M:Model}{A:Around}{E:Value->Shared->Prop}{s:Shared}{α:Type}{c:Prop} [Decidable c] {m n:Sem α}{Q:α->Shared->Prop} (h1:wpAny M A m Q E s) (h2:wpAny M A n Q E s):wpAny M A (if c then m else n) Q E s:=by
 split
 ·exact h1
 ·exact h2
theorem ay0 (t:Addr) (xs:Array Value):Meets (Builtin.«enumerate.__new__» ⟨[.type "enumerate",.ref t],[]⟩) (fun _ R s=>s.heap.IsTuple t xs/\R (.ok (.ret (.ref (s.heap.objs.size+1)))) { s with heap:=(s.heap.push { cls:=.type "tuple_iterator",data:=.fields #[.ref t,.int 0 0] }).push { cls:=.type "enumerate",data:=.fields #[.none,.bool false,.ref s.heap.objs.size,rawInt 0,.none,.none] } }):=
 .of_wp fun prog w A R s h=>by
  obtain ⟨hp,g,d,tk,os⟩:=s
  obtain ⟨ht,h⟩:=h
  have sub:=sub_enumerate
  have a1:Heap.IsTuple (Shared.heap ⟨hp,g,d,tk,os⟩) t xs:=ht
  wp_walk using bd7 a1
  refine wpAny_stack_any fun st=>aR4 ?_
  refine ax9 ?_ ?_
  all_goals
   apply aQ9
   refine wpAny_of_eq (a:=(Value.ref t,none)) rfl ?_
   wp_walk using bd7 a1
   have e:∀ (o:Obj) (k:Heap),(k.push o).objs.size=k.objs.size+1:=fun o k=>aY7 ..
   refine⟨_,rfl,?_⟩
   simp only [e] at h ⊢
   exact h
theorem ay1 {t:Addr}{xs:Array Value}{Q:Value->Shared->Prop} (ht:s.heap.IsTuple t xs)
  (q:∀ h',IsEnum h' (s.heap.objs.size+1) s.heap.objs.size 0 .none->h'.IsTupleIter s.heap.objs.size t 0->h'.objs.size=s.heap.objs.size+2->(∀ c o,s.heap.get? c=some o->h'.get? c=some o)->Q (.ref (s.heap.objs.size+1)) { s with heap:=h' }) :
  wpAny (model prog w) A (call (.type "enumerate") [.ref t]) Q E s:=by
 refine callType_new PySem.F.called_enumerate (by decide) (PySem.F.typeCall_enumerate_1 _) (PySem.F.newCall_enumerate_1 _) (fun obj=>PySem.F.args_object_init_2 obj _) PySem.F.entry_enumerate_new (ay0 t xs) ⟨ht,?_⟩
 have e:∀ (o:Obj) (k:Heap),(k.push o).objs.size=k.objs.size+1:=fun o k=>aY7 ..
 have g0:((s.heap.push { cls:=.type "tuple_iterator",data:=.fields #[.ref t,.int 0 0] }).push { cls:=.type "enumerate",data:=.fields #[.none,.bool false,.ref s.heap.objs.size,rawInt 0,.none,.none] }).get? s.heap.objs.size=some { cls:=.type "tuple_iterator",data:=.fields #[.ref t,.int 0 0] }:=aR1 _ (aS7 _ rfl)
 have g1:((s.heap.push { cls:=.type "tuple_iterator",data:=.fields #[.ref t,.int 0 0] }).push { cls:=.type "enumerate",data:=.fields #[.none,.bool false,.ref s.heap.objs.size,rawInt 0,.none,.none] }).get? (s.heap.objs.size+1)=some { cls:=.type "enumerate",data:=.fields #[.none,.bool false,.ref s.heap.objs.size,rawInt 0,.none,.none] }:=by
  have:=aS7 (h:=s.heap.push { cls:=.type "tuple_iterator",data:=.fields #[.ref t,.int 0 0] }) (o:={ cls:=.type "enumerate",data:=.fields #[.none,.bool false,.ref s.heap.objs.size,rawInt 0,.none,.none] }) rfl
  rw [e] at this; exact this
 exact⟨⟨_,g1,rfl⟩,q _ g1 ⟨_,g0,rfl,rfl⟩ (by rw [e,e]) fun c o z=>aR1 _ (aR1 _ z)⟩
end
end Zp
namespace L2
open PySem PySem.Spec PyProof.Rows
def v6 (K:PySem.W.Frag) (a:Addr):It:=
  ⟨fun i H=>∃ xs x,aS K H a xs/\xs[i]? = some x,
   fun i H v H'=>∃ T x,H T=none/\v = .ref T/\H'=upd H T (.tup [.int i,x])/\∀ xs,aS K H a xs->xs[i]? = some x,
   fun i H=>∃ xs,aS K H a xs/\xs.length<=i⟩
structure ay2 (e it a:Addr) (i:Nat) (h:Heap):Prop where
 ee:∃ old,IsEnum h e it i old
 s1:h.IsTupleIter it a i
theorem ay3 {P:Program}{w:World}{K:PySem.W.Frag}{elts:List Expr}{k:Nat}{pos:Pos} (a e it:Addr) (d:e ≠ it) :
  i7 P w K (.Tuple elts k pos) (v6 K a) [e,it] e (ay2 e it a):=by
 refine⟨by simp,fun i h st c hc=>?_,fun i h h' st kp=>?_,?_,?_,fun A i s Q E st q=>?_⟩
 ·simp only [aR7,aS8,aV7] at hc
  obtain ⟨old,ee⟩:=st.ee
  obtain ⟨o1,f1,g1,d1⟩:=st.s1
  rcases hc with rfl | rfl
  ·exact⟨_,ee,fun v q=>by cases q⟩
  ·exact⟨_,f1,fun v q=>by rw [d1] at q; cases q⟩
 ·obtain ⟨old,ee⟩:=st.ee
  exact⟨⟨old,kp e (by simp) _ ee⟩,st.s1.at fun o z=>kp it (by simp) o z⟩
 ·intro X hP hw hK hc i pins s σ H E I hf st hg
  subst hP hw hK
  obtain ⟨xs,x,ha,hx⟩:=hg
  obtain ⟨us,ru,pu,lu⟩:=I.tuple ha
  obtain ⟨ux,eux,rux⟩:=ru.get hx
  obtain ⟨old,ee⟩:=st.ee
  refine Zp.ax7 ee st.s1 pu (by simpa using eux) d fun h' eo it' pr sz kp=>⟨_,rfl,?_⟩
  refine wpAny_letOwnedTupleGo_enum (s:={ s with heap:=h',toks:=s.toks+1 }) eo fun g zz sb=>?_
  have hzl:e < s.heap.objs.size:=aS5 ee
  have up:∀ c o,c ≠ e->c ≠ it->s.heap.get? c=some o->g.get? c=some o:=fun c o c1 c2 z=>sb.extBut c o c1 (kp c o c1 c2 z)
  have hT:H s.heap.objs.size=none:=I.hok.fresh (aS4 _)
  have prG:g.get? s.heap.objs.size=some { cls:=.type "tuple",data:=.seq #[.int i s.toks,ux] }:=sb.extBut _ _ (ba3 hzl) pr
  have fpn:∀ c u,H c=some u->c ∉ [e,it]:=fun c u z hm=>by rw [(hf c hm).1] at z; cases z
  have upH:∀ c o u,H c=some u->s.heap.get? c=some o->g.get? c=some o:=fun c o u q z=>by
   have:=fpn c u q
   simp only [aR7,aS8,aV7,not_or] at this
   exact up c o this.1 this.2 z
  have ns:∀ m,s.heap.Ns X.env.locals m->g.Ns X.env.locals m:=fun m hm=>by
   obtain ⟨o,es,ep,e1,e2⟩:=hm
   exact⟨o,es,ep,up _ o (Ne.symm (hf e (by simp)).2.1) (Ne.symm (hf it (by simp)).2.1) e1,e2⟩
  have I2:aA X pins σ (upd H s.heap.objs.size (.tup [.int i,x])) { s with heap:=g,toks:=s.toks+1 }:=by
   refine I.step (g':=s.gens) (d':=s.drawn) (ch:=[e,it]) (fun c hc'=>?_) (fun c o _ _ hc' z _=>?_) (fun c o _ _ hc' z _=>⟨o.slots,?_⟩) (fun c o _ z n=>?_) (fun c o hc' z=>⟨o,?_⟩)
    (fun c zs z=>by rw [b8 (dE z hT)]; exact z) (fun c u zs z=>by rw [b8 (dE z hT)]; exact z) (fun c ps z=>⟨#[],by rw [b8 (dE z hT),z]; simp⟩) ns (fun c u z=>?_) I.bare
   ·exact⟨(hf c hc').2.2.2.1,(hf c hc').2.1,(hf c hc').2.2.2.2.1,(hf c hc').2.2.2.2.2⟩
   ·simp only [aR7,aS8,aV7,not_or] at hc'
    exact up c o hc'.1 hc'.2 z
   ·simp only [aR7,aS8,aV7,not_or] at hc'
    exact up c o hc'.1 hc'.2 z
   ·rw [b8 (aU5 (aS5 z))]; exact n
   ·simp only [aR7,aS8,aV7,not_or] at hc'
    exact up c o hc'.1 hc'.2 z
   ·by_cases hcT:c=s.heap.objs.size
    ·subst hcT
     rw [cS] at z; cases z
     exact⟨by show 2<=sizeLine; decide,[.int i s.toks,ux],.cons ⟨_,rfl⟩ (.cons rux .nil),⟨_,prG,rfl,_,rfl⟩,fun u e=>by rw [prG] at e; cases e; rfl⟩
    ·rw [b8 hcT] at z
     refine (I.hok c u z).stay (fun c' o' hc2 q'=>?_) (fun c' q'=>by rw [b8 (dE q' hT)]; exact q') fun c' zs q'=>by rw [b8 (dE q' hT)]; exact q'
     rcases hc2 with rfl | hc2
     ·exact upH _ _ _ z q'
     ·exact upH _ _ _ hc2 q'
  refine⟨.ref s.heap.objs.size,_,I2,rfl,⟨_,x,hT,rfl,rfl,fun xs' ha'=>?_⟩,⟨⟨ux,by push_cast; exact zz⟩,it'.at fun o z=>sb.extBut _ o (Ne.symm d) z⟩,fun c hc'=>?_⟩
  ·rw [I.tuple_inj ha' ha]; exact hx
  ·obtain ⟨o,z⟩:∃ o,s.heap.get? c=some o:=by
    simp only [aR7,aS8,aV7] at hc'
    obtain ⟨o1,f1,_⟩:=st.s1
    rcases hc' with rfl | rfl
    ·exact⟨_,ee⟩
    ·exact⟨_,f1⟩
   rw [b8 (aU5 (aS5 z))]; exact (hf c hc').1
 ·intro X hP hw hK hc i pins s σ H E I hf st hg
  subst hP hw hK
  obtain ⟨xs,ha,hi⟩:=hg
  obtain ⟨us,ru,pu,lu⟩:=I.tuple ha
  obtain ⟨old,ee⟩:=st.ee
  have hh:X.A.handled=none:=I.ok.hd hc
  have e1:=ru.length
  refine Zp.ax8 hh ee st.s1 pu (by rw [Array.getElem?_eq_none]; simp only [aR8]; omega) fun g kp=>⟨rfl,?_⟩
  have fpn:∀ c u,H c=some u->c ∉ [e,it]:=fun c u z hm=>by rw [(hf c hm).1] at z; cases z
  have upH:∀ c o u,H c=some u->s.heap.get? c=some o->g.get? c=some o:=fun c o u q z=>by
   have:=fpn c u q
   simp only [aR7,aS8,aV7,not_or] at this
   exact kp c o this.2 z
  have ns:∀ m,s.heap.Ns X.env.locals m->g.Ns X.env.locals m:=fun m hm=>by
   obtain ⟨o,es,ep,e1,e2⟩:=hm
   exact⟨o,es,ep,kp _ o (Ne.symm (hf it (by simp)).2.1) e1,e2⟩
  refine I.step (g':=s.gens) (d':=s.drawn) (ch:=[it]) (fun c hc'=>?_) (fun c o _ _ hc' z _=>?_) (fun c o _ _ hc' z _=>⟨o.slots,?_⟩) (fun c o _ z n=>n) (fun c o hc' z=>⟨o,?_⟩)
   (fun c zs z=>z) (fun c u zs z=>z) (fun c ps z=>⟨#[],by rw [z]; simp⟩) ns (fun c u z=>?_) I.bare
  ·have hm:c ∈ [e,it]:=aS2 _ hc'
   exact⟨(hf c hm).2.2.2.1,(hf c hm).2.1,(hf c hm).2.2.2.2.1,(hf c hm).2.2.2.2.2⟩
  ·exact kp c o (fun y=>hc' (by rw [y]; simp)) z
  ·exact kp c o (fun y=>hc' (by rw [y]; simp)) z
  ·exact kp c o (fun y=>hc' (by rw [y]; simp)) z
  ·refine (I.hok c u z).stay (fun c' o' hc2 q'=>?_) (fun _ q'=>q') fun _ _ q'=>q'
   rcases hc2 with rfl | hc2
   ·exact upH _ _ _ z q'
   ·exact upH _ _ _ hc2 q'
 ·obtain ⟨old,ee⟩:=st.ee
  exact wpAny_pyIter_enum ee q
section
variable {X : Cx}
def K5 (K:PySem.W.Frag) (ta:TA):TI:=fun σ H R=>ta σ H fun vs H1=>∃ a,vs = [.ref a]/\((∃ xs,aW K H1 a xs/\R (v5 K a) H1) ∨ (∃ xs,aS K H1 a xs/\R (v6 K a) H1))
theorem ay4 {elts:List Expr}{kt:Nat}{pt:Pos}{a:Expr}{ta:TA}{p pos:Pos} (hg:Gl X "enumerate") (hm:X.mg "enumerate" = none) (ha:PA X [a] ta) (hs:starEach [a] X.env = [(false,eval a X.env)]:=by rfl) :
  PI X (.Tuple elts kt pt) (.Call (.Name "enumerate" p) [a] [] pos) (K5 X.K ta):=by
 intro pins s σ H R I h
 refine Call_ (lG I hg hm PyProof.Rows.boot_enumerate (be6 (aQ (ha pos pins s σ H _ I h) fun us s1 ⟨vs,H1,I1,r1,q1⟩=>?_) (by rw [hs]; rfl) (by rfl)))
 obtain ⟨a',e,q⟩:=q1
 subst e
 have fresh:∀ k,H1 (s1.heap.objs.size+k)=none:=fun k=>I1.hok.fresh (bb2 _ _)
 cases r1 with
 | cons r rr=>
  cases rr
  cases r
  rcases q with ⟨xs,h1,q⟩ | ⟨xs,h1,q⟩
  ·obtain ⟨us,_,p1,_⟩:=I1.list h1
   refine call_enumerate_list p1.isList fun h' z s1' sz kp=>wpAny_pyIter_enum z ?_
   refine⟨s1.heap.objs.size+1,[s1.heap.objs.size+1,s1.heap.objs.size],_,_,H1,rfl,I1.kept (t':=s1.toks) kp,
    ax6 a' _ _ (Nat.succ_ne_self _),⟨⟨_,z⟩,s1'⟩,fun c hc=>?_,q⟩
   simp only [aR7,aS8,aV7] at hc
   rcases hc with rfl | rfl
   ·exact I1.fpOk (bb2 _ _) (fresh 1)
   ·exact I1.fpOk (aS4 _) (fresh 0)
  ·obtain ⟨us,_,p1,_⟩:=I1.tuple h1
   refine Zp.ay1 p1 fun h' z s1' sz kp=>wpAny_pyIter_enum z ?_
   refine⟨s1.heap.objs.size+1,[s1.heap.objs.size+1,s1.heap.objs.size],_,_,H1,rfl,I1.kept (t':=s1.toks) kp,
    ay3 a' _ _ (Nat.succ_ne_self _),⟨⟨_,z⟩,s1'⟩,fun c hc=>?_,q⟩
   simp only [aR7,aS8,aV7] at hc
   rcases hc with rfl | rfl
   ·exact I1.fpOk (bb2 _ _) (fresh 1)
   ·exact I1.fpOk (aS4 _) (fresh 0)
end
end L2
namespace PP
open PySem L2 PyProof.Rows
def j8 (xs:List PV):List PV:=xs.mapIdx fun i x=>PV.tup [.int (i:Int),x]
theorem v7 (xs:List PV):(j8 xs).length=xs.length:=by unfold j8; rw [List.length_mapIdx]
theorem K6 {xs:List PV}{i:Nat}{x:PV} (h:xs[i]? = some x):(j8 xs)[i]? = some (.tup [.int (i:Int),x]):=by
 unfold j8; rw [List.getElem?_mapIdx,h]; rfl
theorem ay5 {xs:List PV}{i:Nat}{z:PV} (h:(j8 xs)[i]? = some z):∃ x,xs[i]? = some x/\z = .tup [.int (i:Int),x]:=by
 unfold j8 at h
 rw [List.getElem?_mapIdx] at h
 cases e:xs[i]? with
 | none=>rw [e] at h; cases h
 | some x=>rw [e] at h; exact⟨x,rfl,(aT8 h).symm⟩
def v8 (te:aE):eU:=fun ρ Q=>te ρ fun x g=>∃ xs,(x = .lst xs ∨ x = .tup xs)/\(g = .rd->flat x=true)/\Q (j8 xs) (pH g xs)
theorem ay6 {K:PySem.W.Frag}{H0:Hp}{W:Addr->Prop}{g:Bool}{H1:Hp}{a:Addr}{us:List V}{xs:List PV} (tw:∀ a,W a->∃ o,H1 a=some o/\fH o=true) (ha:∀ W' H',Ev W H1 W' H'->aW K H' a us) (r:Reps K (Ms H0 W g) H1 us xs):jN K H0 W g H1 (v5 K a) (j8 xs):=by
 have lr:=r.length
 have ll:=v7 xs
 refine⟨fun W' H' i e hi=>⟨us,us[i]'(by omega),ha W' H' e,by simp⟩,fun W' H' i v H2 e y hi=>?_,fun W' H' e=>⟨us,ha W' H' e,by omega⟩⟩
 obtain ⟨T,x,hT,rfl,rfl,y⟩:=y
 obtain ⟨z,hz,rz⟩:=r.get (y us (ha W' _ e))
 have sm:=cU hT (HO.tup [.int (i:Int),x])
 exact⟨sm,_,K6 hz,.tup cS (.cons (.int _) (.cons ((rz.keep (e.keep tw)).same sm fun _ q=>q) .nil))⟩
theorem ay7 {K:PySem.W.Frag}{H0:Hp}{W:Addr->Prop}{g:Bool}{H1:Hp}{a:Addr}{us:List V}{xs:List PV} (tw:∀ a,W a->∃ o,H1 a=some o/\fH o=true) (ha:∀ W' H',Ev W H1 W' H'->aS K H' a us) (r:Reps K (Ms H0 W g) H1 us xs):jN K H0 W g H1 (v6 K a) (j8 xs):=by
 have lr:=r.length
 have ll:=v7 xs
 refine⟨fun W' H' i e hi=>⟨us,us[i]'(by omega),ha W' H' e,by simp⟩,fun W' H' i v H2 e y hi=>?_,fun W' H' e=>⟨us,ha W' H' e,by omega⟩⟩
 obtain ⟨T,x,hT,rfl,rfl,y⟩:=y
 obtain ⟨z,hz,rz⟩:=r.get (y us (ha W' _ e))
 have sm:=cU hT (HO.tup [.int (i:Int),x])
 exact⟨sm,_,K6 hz,.tup cS (.cons (.int _) (.cons ((rz.keep (e.keep tw)).same sm fun _ q=>q) .nil))⟩
section
variable {X : Cx} {σ : L2.St} {H : Hp} {te : aE} {R : It → Hp → Prop}
theorem ay8 (h:LI X (v8 te) σ H R):K5 X.K (jI (LE X te) kE) σ H R:=by
 obtain ⟨W,ρ,Q,px,q,k⟩:=h
 refine⟨W,ρ,_,px,q,?_⟩
 rintro v H1 x g s r ⟨xs,hx,hg,q⟩
 have px1:=px.mono s
 have tw:∀ a,W a->∃ o,H1 a=some o/\fH o=true:=fun a z=>(px1.wm a z).2
 rcases hx with rfl | rfl
 ·obtain ⟨a,us,rfl,m,h,r⟩:=r.sqL
  have wa : ¬ W a:=by
   cases g with
   | fr=>exact (px.new m).1
   | nw=>exact m.1
   | sh=>exact m
   | rd=>have:=hg rfl; unfold flat at this; cases this
  exact⟨a,rfl,.inl ⟨us,aW.of h,k _ _ _ _ s (ay6 tw (fun W' H' e=>aW.of (e _ _ h wa).1) (lQ px (fun z=>by have:=hg z; unfold flat at this; cases this) r)) q⟩⟩
 ·obtain ⟨a,us,rfl,h,r⟩:=r.sqT
  refine⟨a,rfl,.inr ⟨us,aS.of h,k _ _ _ _ s (ay7 tw (fun W' H' e=>aS.of (e _ _ h fun z=>?_).1) (lQ px (fun z=>by have:=hg z; unfold flat at this; exact this) r)) q⟩⟩
  obtain ⟨o,h',mu⟩:=tw _ z; rw [h] at h'; cases h'; cases mu
theorem ay9 {elts:List Expr}{kt:Nat}{pt p2 pos:Pos}{a:Expr}{ta:aE} (hg:Gl X "enumerate") (hm:X.mg "enumerate" = none) (ha:QE X a ta) (hs:starEach [a] X.env = [(false,eval a X.env)]:=by rfl):QI X (.Tuple elts kt pt) (.Call (.Name "enumerate" p2) [a] [] pos) (v8 ta):=
 pQ (ay4 hg hm (iK ha kF hs) hs) fun _ _ _=>ay8
end
section
variable {X : Cx} {e : Expr} {te : aE} {pos p2 : Pos} {scope : Scope} {N : List Str} {fr : List (Option Nat)} {x y : Str} {tp xp yp : Pos} {kt : Nat} {iter elt : Expr} {ti : eU}
abbrev v9 (x y:Str) (xp yp:Pos) (kt:Nat) (tp:Pos):Expr:=.Tuple [.Name x xp,.Name y yp] kt tp
theorem az0 {ifs:List Expr}{tcs:cJ} (hc:X.calm=true) (he:∀ (s:Shared) (H:Hp) (C:Addr) (fp:List Addr),QE (cA X scope N s H C fp dD) elt te) (hi:∀ (s:Shared) (H:Hp) (C:Addr) (fp:List Addr),kJ (cA X scope N s H C fp dD) ifs (LT (cA X scope N s H C fp dD) tcs))
  (hN:N.Nodup) (h0:N[0]? = some x) (h1:N[1]? = some y) (hl:∀ (s:Shared) (H:Hp) (C:Addr) (fp:List Addr),(cA X scope N s H C fp dD).env.scope.names.lookup x=some .local) (hl2:∀ (s:Shared) (H:Hp) (C:Addr) (fp:List Addr),(cA X scope N s H C fp dD).env.scope.names.lookup y=some .local) (s:Shared) (H:Hp) :
  nC X scope N (v9 x y xp yp kt tp) ifs elt s H (lI X.K 2 (fV (dB 0) (fV (dB 1) lH))) (LT (X.frm H) tcs) (LE (X.frm H) te):=
 ⟨fun C fp=>oH (X:=cA X scope N s H C fp dD) hc (i6 (gF hN h0 (.inl (hl s H C fp)) (.inr (hl s H C fp))) (i6 (gF hN h1 (.inl (hl2 s H C fp)) (.inr (hl2 s H C fp))) oG)),fun C fp=>hi s H C fp,fun C fp=>he s H C fp⟩
theorem K7 (hi:QI X (v9 x y xp yp kt tp) iter ti) (he:∀ (s:Shared) (H:Hp) (C:Addr) (fp:List Addr),QE (cA X scope N s H C fp dD) elt te)
  (hc:X.calm=true:=by rfl) (S:eG X scope N fr:=by exact eG.of rfl rfl) (hN:N.Nodup:=by decide +kernel) (h0:N[0]? = some x:=by rfl) (h1:N[1]? = some y:=by rfl) (hl:∀ (s:Shared) (H:Hp) (C:Addr) (fp:List Addr),(cA X scope N s H C fp dD).env.scope.names.lookup x=some .local:=by intro _ _ _ _; rfl) (hl2:∀ (s:Shared) (H:Hp) (C:Addr) (fp:List Addr),(cA X scope N s H C fp dD).env.scope.names.lookup y=some .local:=by intro _ _ _ _; rfl) (hf:fr[0]? = some none:=by rfl) (hf2:fr[1]? = some none:=by rfl)
  (hs:∀ x,foldedSetIterable iter X.env x=pure x:=by intro _; rfl):QE X (.ListComp elt [⟨v9 x y xp yp kt tp,iter,[],0⟩] scope pos) (gX ti fr (gW 0 1) iB te):=
 cL (tD (gh:=fun _=>lI X.K 2 (fV (dB 0) (fV (dB 1) lH))) (tch:=fun H=>LT (X.frm H) iB) (teh:=fun H=>LE (X.frm H) te) hc S hi (az0 hc he (fun _ _ _ _=>C4) hN h0 h1 hl hl2) hs) fun _ _ _=>pJ (tX _ 0 1) (fun i e=>by rcases e with e | e <;> (subst e; assumption))
end
section
variable {X : Cx} {a b e o f : Expr} {ta tb te td tk tx : aE} {pos p2 apos cpos : Pos} {σ : L2.St} {H : Hp} {Q' : VK}
theorem K8 {x:Str}{n:Int}{t:Nat} (hg:Gl X x) (hm:X.mg x=some (.int n t)) (hd:(x == ("__debug__" : Str))=false:=by decide):QE X (.Name x pos) (qC (.int n)):=
 cL (aa6 (v:=.int n) hg hm ⟨t,rfl⟩ hd) fun _ _ _=>nD fun _=>.int n
end
end PP
namespace Core
open PySem L2 PP
section
variable {ws : List Int} {ls : List (Int × Int)} {os ns : List Int}
def az1 (ws:List Int) (ls:List (Int × Int)) (T:List Int):Prop:=∀ h ∈ rng ws.length,kin ws ls T h=false
end
theorem az2 {i:Nat}{h:Int}{g:Bool}{ρ:bH}{Q:bH->Prop} (q:Q (ρ.set i (some (.sh true (.int h))))):cY i (.int h) g ρ Q:=by
 show Q (ρ.set i (some (.sh (g || true) (.int h))))
 rw [Bool.or_true]; exact q
def az3 (ns S:List Int):Int:=(ns.length:Int) - (((ns.filter fun x=>decide (x ∈ S)).length:Nat):Int)
def az4 (ws:List Int) (ls:List (Int × Int)) (S:List Int) (h:Int):Bool:=decide (az3 (tI ls h) S < ws.getD h.toNat 0)
def stay (ws:List Int) (ls:List (Int × Int)) (S:List Int):List Int:=S.filter (az4 ws ls S)
end Core
namespace Raw
open PySem PySem.W PyProof.Rows
section
variable {prog : Program} {w : World} {A : Around} {E : Value → Shared → Prop} {s : Shared} {T : String} {r d : Addr} {n : Nat} {P : Nat → Value → Prop} {OK : Heap → Prop}
theorem az5 {R:Result->Shared->Prop} (K:KdlSrc prog w T r d n P OK) (hh:A.handled=none) (hok:OK s.heap) (hn:n<=sizeLine)
  (hR:∀ h' tk acc c,(∀ b o,b ≠ s.heap.objs.size->(s.heap.push { cls:=.type "list",data:=.seq ([]:List Value).toArray }).get? b=some o->h'.get? b=some o)->h'.get? s.heap.objs.size=some { cls:=.type "list",dict:=none,data:=.seq acc c,slots:=#[] }->ItemsOf P acc n->R (.ok (.ret (.ref s.heap.objs.size))) { s with heap:=h',toks:=tk }) :
  codeAny (model prog w) A (.builtin "proto.collect" ⟨[.ref r],[]⟩) R s:=by
 have lt:=K.there _ hok
 refine bc3 PySem.F.entry_proto_collect ?_
 rw [aX9 PySem.F.plain_proto_collect _]
 show wpAny _ A.in1 (newList [] >>= fun l=>again (.builtin "list.__iadd__" ⟨[l,.ref r],[]⟩)) _ _ s
 refine aQ9 (aV4 ?_)
 refine aR4 ⟨bc7 PySem.F.plain_list_iadd _,bc3 PySem.F.entry_list_iadd ?_⟩
 rw [aX9 PySem.F.plain_list_iadd _]
 show wpAny _ A.in1 (Builtin.List.listExtendWith (.ref s.heap.objs.size) (.ref r) (.ref s.heap.objs.size)) _ _ _
 exact kdl_extend (s:={ s with heap:=s.heap.push { cls:=.type "list",data:=.seq ([]:List Value).toArray } }) (R:=R) K hh (K.keep _ _ hok fun b _ o e=>aR1 _ e) s.heap.objs.size (ba3 lt.1) (ba3 lt.2) _ 0 (aS7 _ rfl) hR hn
theorem az6 {Q:List Value->Shared->Prop} (K:KdlSrc prog w T r d n P OK) (hh:A.handled=none) (hok:OK s.heap) (hn:n<=sizeLine)
  (hQ:∀ h' tk acc,(∀ b o,s.heap.get? b=some o->h'.get? b=some o)->s.heap.objs.size<=h'.objs.size->ItemsOf P acc n->Q acc.toList { s with heap:=h',toks:=tk }) :
  wpAny (model prog w) A (collect (.ref r)) Q E s:=by
 unfold collect
 refine aQ9 (wpAny_runValue (az5 (s:=s) K hh hok hn fun h' tk acc c kp at1 it=>?_))
 show wpAny _ A (load s.heap.objs.size >>= _) _ _ _
 refine aQ9 (wpAny_load at1 ?_)
 exact aR4 (hQ h' tk acc (fun b o e=>kp b o (aU5 (aS5 e)) (aR1 _ e)) (bd8 (aS5 at1)) it)
end
end Raw
namespace Core
open PySem L2 PP
theorem K9 {xs:List PV}{w:Int} (h:0<=w):iC xs none (some w)=xs.take w.toNat:=by
 unfold iC
 rw [HT.af6,List.drop_zero,Nat.sub_zero]
 have:HT.b6 xs.length xs.length (some w)=min w.toNat xs.length:=by
  show (if w < 0 then (w+(xs.length:Int)).toNat else min w.toNat xs.length)=_
  rw [if_neg (by omega)]
 rw [this,<- List.take_take,aX7]
end Core
namespace PP
open PySem L2 PyProof.Rows
def iE (xs ys:List PV):List PV:=List.zipWith (fun x y=>PV.tup [x,y]) xs ys
theorem vA (xs ys:List PV):(iE xs ys).length=min xs.length ys.length:=by unfold iE; rw [List.length_zipWith]
theorem L0 {xs ys:List PV}{i:Nat}{x y:PV} (h:xs[i]? = some x) (h':ys[i]? = some y):(iE xs ys)[i]? = some (.tup [x,y]):=by
 unfold iE; rw [List.getElem?_zipWith,h,h']
theorem az7 {xs ys:List PV}{i:Nat}{z:PV} (h:(iE xs ys)[i]? = some z):∃ x y,xs[i]? = some x/\ys[i]? = some y/\z = .tup [x,y]:=by
 unfold iE at h
 rw [List.getElem?_zipWith] at h
 cases e:xs[i]? with
 | none=>rw [e] at h; cases h
 | some x=>
  cases e':ys[i]? with
  | none=>rw [e,e'] at h; cases h
  | some y=>rw [e,e'] at h; exact⟨x,y,rfl,rfl,(aT8 h).symm⟩
theorem az8 {K:PySem.W.Frag}{H0:Hp}{W:Addr->Prop}{g:Bool}{H1:Hp}{a b:Addr}{us vs:List V}{xs ys:List PV} (tw:∀ a,W a->∃ o,H1 a=some o/\fH o=true) (ha:∀ W' H',Ev W H1 W' H'->aS K H' a us) (hb:∀ W' H',Ev W H1 W' H'->aS K H' b vs)
  (r:Reps K (Ms H0 W g) H1 us xs) (r':Reps K (Ms H0 W g) H1 vs ys):jN K H0 W g H1 (tL K a b) (iE xs ys):=by
 have lr:=r.length
 have lr':=r'.length
 have ll:=vA xs ys
 refine⟨fun W' H' i e hi=>⟨us,vs,us[i]'(by omega),vs[i]'(by omega),ha W' H' e,hb W' H' e,by simp,by simp⟩,fun W' H' i v H2 e y hi=>?_,fun W' H' e=>⟨us,vs,ha W' H' e,hb W' H' e,by omega⟩⟩
 obtain ⟨T,x,y',hT,rfl,rfl,y⟩:=y
 obtain ⟨h1,h2⟩:=y us vs (ha W' _ e) (hb W' _ e)
 obtain ⟨z,hz,rz⟩:=r.get h1
 obtain ⟨z',hz',rz'⟩:=r'.get h2
 have sm:=cU hT (HO.tup [x,y'])
 exact⟨sm,_,L0 hz hz',.tup cS (.cons ((rz.keep (e.keep tw)).same sm fun _ q=>q) (.cons ((rz'.keep (e.keep tw)).same sm fun _ q=>q) .nil))⟩
end PP
namespace Core
open PySem L2 PP
theorem oY {ls:List (Int × Int)}{wts:List Int} (e:wts.length=ls.length):(ls.zip wts).map (·.2)=wts:=by
 rw [List.map_snd_zip]; omega
section
variable {ws : List Int} {ls : List (Int × Int)} {ns wts : List Int} {m : Nat}
def loose (ls:List (Int × Int)) (wts ns:List Int):List ((Int × Int) × Int):=(ls.zip wts).filter fun z=>!(decide (z.1.1 ∈ ns) && decide (z.1.2 ∈ ns))
end
end Core
namespace PP
open PySem L2 PyProof.Rows
section
variable {X : Cx} {a b e : Expr} {ta tb te : aE} {D : dW} {σ : L2.St} {H : Hp} {pos p2 : Pos}
def l7 (p:gV) (te:aE):aV:=fun D ρ=>te ρ fun x g=>tS g x/\p x (tR g x) ρ fun ρ2=>D.nx ρ2
theorem L1 {p:gV}{g:TG}{own:Nat->Prop} (hg:kQ X.K own p g) (h:LS X (l7 p te) D σ H):lJ (LE X te) g D σ H:=by
 obtain ⟨W,ρ,D',px,q,k⟩:=h
 refine⟨W,ρ,_,px,q,?_⟩
 rintro v H1 x gt s r ⟨st,q⟩
 refine hg X.H₀ W σ ρ H1 v x _ _ _ (px.mono s) (zL px st r) q fun σ' ρ' px' _ _ q'=>?_
 exact k.nx W σ' H1 ρ' (Ev.same s) px' q'
theorem L3 (i j:Nat) {x y:Str}{tp xp yp:Pos}{kt:Nat} (hN:X.N.Nodup) (he:QE X e te) (hx:X.N[i]? = some x:=by rfl) (hy:X.N[j]? = some y:=by rfl) (hlx:gE X.env.scope x:=by first | exact Or.inl rfl | exact Or.inr rfl) (hly:gE X.env.scope y:=by first | exact Or.inl rfl | exact Or.inr rfl)
  (hfx:X.fn x=true ∨ X.env.scope.names.lookup x=some .local:=by first | exact .inl rfl | exact .inr rfl) (hfy:X.fn y=true ∨ X.env.scope.names.lookup y=some .local:=by first | exact .inl rfl | exact .inr rfl) (hc:X.calm=true:=by rfl)
  (hs:swapsWithSole [.Tuple [.Name x xp,.Name y yp] kt tp] e pos.line X.env=pure false:=by rfl) (hw:swappedStores [.Tuple [.Name x xp,.Name y yp] kt tp] e X.env=pure none:=by rfl):QS X (.Assign [.Tuple [.Name x xp,.Name y yp] kt tp] e pos) (l7 (gW i j) te):=by
 have g:PG X (.Tuple [.Name x xp,.Name y yp] kt tp) (lI X.K 2 (fV (dB i) (fV (dB j) lH))):=oH hc (i6 (gF hN hx hlx hfx) (i6 (gF hN hy hly hfy) oG))
 exact eM (wO he g hs hw) fun _ _ _=>L1 (tX _ i j)
end
end PP
set_option maxHeartbeats 1000000
set_option maxHeartbeats 1000000
set_option maxHeartbeats 1000000
set_option maxHeartbeats 1000000
namespace PP
open PySem L2 PyProof.Rows
abbrev eZ:=(Str->Prop)->bZ
def EX (K:PySem.W.Frag) (H0:Hp) (Ep:Str->Prop):XK:=fun c d H'=>d=none/\aH H0 H'/\∃ n C,c = .ref C/\PySem.W.nsIn K mainGlobals n=some (some (.ref C))/\Ep n
def L4 (K:PySem.W.Frag) (p:eZ):Sp:=fun vs H Q E=>∃ xs Qp Ep,Reps K (fun _=>True) H vs xs/\p Ep xs Qp/\(∀ v H' x,aH H H'->aC K (fun a=>H a=none) H' v x->Qp x->Q v H')/\
 ∀ n C H',aH H H'->PySem.W.nsIn K mainGlobals n=some (some (.ref C))->Ep n->E (.ref C) none H'
structure cF (P:Program) (w:World) (K:PySem.W.Frag) (mg:Str->Option Value) (base:Heap) (k:Nat) (x:Str) (ps:List Str) (p:eZ):Prop where
 ex:∃ f fd,dO P w K mg base (eN P w) k f fd ps (L4 K p)/\jJ K fd ps []/\PySem.W.keepIn K (.ref f)=true/\mg x=some (.ref f)
section
variable {X : Cx} {σ : L2.St} {H : Hp} {D : dW} {tr : cV} {Q' : VK} {a b c e : Expr} {es : List Expr} {pos p2 cp np hp : Pos} {t : aV} {te : aE} {tc : cJ}
def j9 (Ep:Str->Prop) (p:eZ) (t:cV):aE:=aM (p Ep) t
theorem L5 {p:eZ}{Ep:Str->Prop} (h:LE X (j9 Ep p tr) σ H Q'):sO (L4 X.K p) [] (EX X.K X.H₀ Ep) (LA X tr) σ H Q':=by
 obtain ⟨W,ρ,Q,px,q,k⟩:=h
 refine⟨W,ρ,_,px,q,fun vs H1 xs s1 r1 q1=>⟨_,_,Ep,by rw [aW2]; exact r1.any,q1,fun v H' x s2 r2 q2=>k v H' x .fr (s1.trans s2) (r2.same (aH.refl _) fun _ z=>s1.free z) q2,fun n C H' s2 z1 z2=>⟨rfl,(px.same.trans s1).trans s2,n,C,rfl,z1,z2⟩⟩⟩
theorem l8 {Ep:Str->Prop}{k j:Nat}{x:Str}{ps:List Str}{p:eZ} (hX:mC X (EX X.K X.H₀ Ep)) (d:cF X.prog X.w X.K X.mg X.base k x ps p) (hr:cD j X.A) (ha:QA X (e :: es) tr) (hkj:k<=j:=by decide) (hg:Gl X x:=by rfl) (hdb:(x == ("__debug__" : Str))=false:=by decide)
  (he:starEach (e :: es) X.env=(false,eval e X.env) :: starEach es X.env:=by rfl) (hpl:(backTo pos (starEach es X.env)).any (·.1)=false:=by rfl):QE X (.Call (.Name x p2) (e :: es) [] pos) (j9 Ep p tr):=by
 obtain ⟨f,fd,F,b,kp,m⟩:=d.ex
 exact cL (sP F (hr.mono hkj) hg m kp b .nil hX.pass ha hdb he hpl) fun _ _ _=>L5
theorem qP {k j:Nat}{x:Str}{ps:List Str}{p:eZ} (d:cF X.prog X.w X.K X.mg X.base k x ps p) (hr:cD j X.A) (ha:QA X (e :: es) tr) (hkj:k<=j:=by decide) (hg:Gl X x:=by rfl) (hdb:(x == ("__debug__" : Str))=false:=by decide)
  (he:starEach (e :: es) X.env=(false,eval e X.env) :: starEach es X.env:=by rfl) (hpl:(backTo pos (starEach es X.env)).any (·.1)=false:=by rfl):QE X (.Call (.Name x p2) (e :: es) [] pos) (aM (p fun _=>False) tr):=by
 obtain ⟨f,fd,F,b,kp,m⟩:=d.ex
 refine cL (sP F (E:=EX X.K X.H₀ fun _=>False) (hr.mono hkj) hg m kp b .nil (fun _ _ _ _ _ _ _ h=>?_) ha hdb he hpl) fun _ _ _ h=>L5 (Ep:=fun _=>False) h
 obtain ⟨_,_,_,_,_,_,_,_,_,_,_,_,z⟩:=h
 exact z.elim
def mE (Ep:Str->Prop) (n:Str) (t:cV):aV:=fun _ ρ=>t ρ fun xs=>xs.length<=1000/\Ep n
theorem az9 {Ep:Str->Prop}{n:Str}{C:Addr} (hn:PySem.W.nsIn X.K mainGlobals n=some (some (.ref C))) (h:LS X (mE Ep n tr) D σ H):G6 (EX X.K X.H₀ Ep) C (LA X tr) D σ H:=by
 obtain ⟨W,ρ,D',px,q,k⟩:=h
 exact⟨W,ρ,_,px,q,fun vs H1 xs s1 r z=>⟨by rw [r.length]; exact tP z.1,rfl,px.same.trans s1,n,C,rfl,hn,z.2⟩⟩
structure Xc (K:PySem.W.Frag) (mg:Str->Option Value) (base:Heap) (n:Str):Prop where
 ex:∃ C B newId initId bm,OwnCls n C bm newId mg base/\ExcBaseFacts B newId initId bm/\PySem.W.nsIn K mainGlobals n=some (some (.ref C))
theorem qQ {Ep:Str->Prop}{n:Str} (hX:mC X (EX X.K X.H₀ Ep)) (x:Xc X.K X.mg X.base n) (ha:QA X (e :: es) tr) (hc:X.calm=true:=by rfl) (hg:Gl X n:=by rfl) (hd:(n == ("__debug__" : Str))=false:=by decide)
  (he:starEach (e :: es) X.env=(false,eval e X.env) :: starEach es X.env:=by rfl) (hpl:(backTo cp (starEach es X.env)).any (·.1)=false:=by rfl):QS X (.Raise (some (.Call (.Name n np) (e :: es) [] cp)) none pos) (mE Ep n tr):=by
 obtain ⟨C,B,newId,initId,bm,O,FB,hn⟩:=x.ex
 exact eM (av9 hX hc O FB ha hg hd he hpl) fun _ _ _=>az9 hn
def oS:V->Value
 | .ref a=>.ref a
 | .ty n=>.type n
 | _=>.none
end
structure qR (K:PySem.W.Frag) (C:Addr):Prop where
 cls:PySem.W.isClsIn K C=true
 ty:PySem.W.typeIn K (.ref C)=some (.type "type")
 ga:PySem.W.findIn K (.ref C) "__getattribute__" = some (some (.builtin "BaseException.__getattribute__"))
 gt:PySem.W.findIn K (.ref C) "__getattr__" = some none
 fc:PySem.W.findIn K (.ref C) "__class__" = some (some (.builtin "object.__class__"))
 fg:PySem.W.specialIn K (.builtin "object.__class__") "__get__" = some (some (.builtin "getset_descriptor.__get__"))
 ft:PySem.W.takesIn K (.builtin "object.__class__")=some true
 ob:PySem.W.mroIn K C (.type "object")=some true
 be:PySem.W.mroIn K C (.type "BaseException")=some true
theorem vB {K:PySem.W.Frag}{h₀:Heap}{mg:Str->Option Value}{x:Str}{C:Addr}{bmB:List Value}{newId:String} (X:K.In h₀) (m:mg x=some (.ref C)) (q:PySem.W.excIn K C bmB newId=true):OwnCls x C bmB newId mg h₀:=by
 refine⟨m,?_⟩
 unfold PySem.W.excIn at q
 split at q
 case h_2=>cases q
 rename_i dd cd sl ho
 split at q
 case h_2=>cases q
 rename_i C' bm k0 k1 k2 k3 n k5 hm hs
 simp only [aY6,beq_iff_eq,Bool.not_eq_true'] at q
 obtain ⟨⟨⟨⟨⟨rfl,rfl⟩,dl⟩,ht⟩,hok⟩,hni⟩:=q
 obtain ⟨nm,bs,mro,ns,qn,hd,sn,sub,ab,col,del⟩:=cd
 dsimp only at hm dl hok hni
 subst hm dl
 obtain rfl:sl = #[k0,k1,k2,k3,some (.builtin n),k5]:=by
  obtain ⟨l⟩:=sl
  exact congrArg Array.mk hs
 exact⟨bm,ns,nm,qn,bs,hd,sn,sub,ab,col,dd,k0,k1,k2,k3,k5,_,X _ _ ho,.of_isNs (PySem.W.isNs_of_in X hok),PySem.W.nsMap_none_of_in X hok hni,PySem.W.tail_of_in X ht⟩
theorem cF.of {P:Program}{w:World}{K:PySem.W.Frag}{mg:Str->Option Value}{base:Heap}{k:Nat}{x:Str}{ps N:List Str}{p:eZ}{st:Stmt}{f:Addr}{fd:FuncData} (F:fY K x x st f fd) (m:mg x=some (.ref f)) (S:FnScope N ps (b7 st))
  (hb:∀ (kV doc pm:Value) (an:Option Addr) (cdv ct:Value) (us:List Value),us.length=ps.length->bindArgs (PySem.W.fnOf x x (iM st) (eF st) (b7 st) .none kV doc pm an cdv ct) ⟨us,[]⟩=pure (ps.zip us))
  (t:(Str->Prop)->aV) (len:∀ Ep xs Q,p Ep xs Q->xs.length=ps.length) (rd:∀ Ep xs Q,p Ep xs Q->t Ep { nx:=fun _=>Q .non,rt:=Q } (fM N xs))
  (body:∀ (cdv:Value) (A:Around) (outer:List Env) (s:Shared) (H:Hp) (E:XK) (Ep:Str->Prop),cD k (A.deeper (envOfC x (b7 st) s.heap.objs.size f cdv))->mC (dF (eN P w) P w K mg base N x (b7 st) f cdv A outer s H E) (EX K H Ep)->
   eV (dF (eN P w) P w K mg base N x (b7 st) f cdv A outer s H E) (eF st) (t Ep)):cF P w K mg base (k+1) x ps p:=by
 refine⟨f,fd,F.okX S (fun vs H Q E h=>?_) (fun cdv A outer s H vs Q E hr h=>?_),F.binds hb,F.kp,m⟩
 ·obtain ⟨xs,Qp,Ep,r,q,_⟩:=h
  rw [r.length]; exact len Ep xs Qp q
 ·obtain ⟨xs,Qp,Ep,r,q,k,ke⟩:=h
  have ht:=body cdv A outer s H E Ep hr (av8 fun c d H' z=>?_)
  ·refine⟨_,ht,fun _=>False,fM N xs,_,uJ r,rd Ep xs Qp q,?_,?_,?_,?_⟩
   ·exact fun W' σ' H' ρ' e px q=>k _ _ _ px.same .non q
   ·exact fun v H' x s r q=>k _ _ _ s r q
   ·exact fun W' σ' H' ρ' e px q=>q
   ·exact fun W' σ' H' ρ' e px q=>q
  ·obtain ⟨rfl,s1,n,C,rfl,z1,z2⟩:=z
   exact ke n C H' s1 z1 z2
end PP
namespace Core
open PySem L2 PP
abbrev mF (t:(Str->Prop)->aV) (N:List Str) (p:eZ):Prop:=∀ Ep xs Q,p Ep xs Q->t Ep { nx:=fun _=>Q .non,rt:=Q } (fM N xs)
end Core
namespace PP
open PySem L2
theorem vC {us:List Value} (h:us.length=1):∃ a,us = [a]:=List.length_eq_one_iff.mp h
theorem vD {us:List Value} (h:us.length=2):∃ a b,us = [a,b]:=by
 cases us with
 | nil=>cases h
 | cons a r=>
  obtain ⟨b,rfl⟩:=vC (us:=r) (by simpa using h)
  exact⟨a,b,rfl⟩
theorem vE {us:List Value} (h:us.length=3):∃ a b c,us = [a,b,c]:=by
 cases us with
 | nil=>cases h
 | cons a r=>
  obtain ⟨b,c,rfl⟩:=vD (us:=r) (by simpa using h)
  exact⟨a,b,c,rfl⟩
theorem vF {us:List Value} (h:us.length=4):∃ a b c d,us = [a,b,c,d]:=by
 cases us with
 | nil=>cases h
 | cons a r=>
  obtain ⟨b,c,d,rfl⟩:=vE (us:=r) (by simpa using h)
  exact⟨a,b,c,d,rfl⟩
theorem L6 {us:List Value} (h:us.length=5):∃ a b c d e,us = [a,b,c,d,e]:=by
 cases us with
 | nil=>cases h
 | cons a r=>
  obtain ⟨b,c,d,e,rfl⟩:=vF (us:=r) (by simpa using h)
  exact⟨a,b,c,d,e,rfl⟩
section
variable {X : Cx} {e : Expr} {tk : aE} {D : dW} {σ : St} {H : Hp} {pos : Pos}
def qS (i:Nat) (tk:aE):aV:=fun D ρ=>∃ ps,ρ[i]? = some (some (.own (.dT ps)))/\tk ρ fun y _=>∃ k,y = .tup (k.map kP)/\(∃ j:Nat,(ps.map (·.1))[j]? = some k)/\∀ j:Nat,(ps.map (·.1))[j]? = some k->D.nx (ρ.set i (some (.own (.dT (ps.eraseIdx j)))))
theorem aA0 {i:Nat} (h:LS X (qS i tk) D σ H):mU (J0 (kB i) (LE X tk)) D σ H:=by
 obtain ⟨W,ρ,D',px,⟨ps,hi,q⟩,k⟩:=h
 obtain ⟨v,ev,a,rfl,wa,kvs,ea,e1,r⟩:=px.sl i _ hi
 refine⟨_,ev,a,rfl,.inr ⟨kvs,.inl ea⟩,W,ρ,_,px,q,?_⟩
 rintro kv H2 y g s ry ⟨kk,rfl,is,q⟩
 obtain ⟨b,us,rfl,hb,rb⟩:=ry.sqT
 obtain rfl:=pL rb
 have ea2:=s _ _ ea
 refine⟨kvs,kk,b,ea2,rfl,hb,by rw [e1]; exact is,fun j v hj=>?_⟩
 rw [e1] at hj
 refine k.nx W σ _ _ ((Ev.same s).trans (Ev.upd wa)) ((px.mono s).updT hi ev wa ⟨?_,?_⟩) (q j hj)
 ·rw [Raw.iZ,Raw.iZ,e1]
 ·rw [Raw.iZ,Raw.iZ]
  exact ((r.same s fun _ z=>z).eraseIdx j).keep (.upd ea2 rfl fun b m=>⟨nF wa m,m⟩)
theorem L7 (i:Nat) {x:Str}{apos cpos xpos:Pos} (hu:X.A.units+1 < cLine) (he:QE X e tk) (hm:M1 X (.Name x xpos) "pop" apos e cpos:=by exact⟨rfl,rfl,rfl,rfl⟩) (hN:X.N[i]? = some x:=by rfl) (hv:iJ X.env.scope x:=by first | exact Or.inl rfl | exact Or.inr (Or.inl rfl) | exact Or.inr (Or.inr rfl)) (hd:(x == ("__debug__" : Str))=false:=by decide) (hcd:(x == ("__classdict__" : Str))=false:=by decide)
  (hsw:swapsWith (.Call (.Attribute (.Name x xpos) "pop" apos) [e] [] cpos) none pos.line X.env=pure false:=by rfl):QS X (.Expr (.Call (.Attribute (.Name x xpos) "pop" apos) [e] [] cpos) pos) (qS i tk):=
 eM (oE (aw3 hu (lF hN hv hd hcd) he hm) hsw) fun _ _ _=>aA0
end
end PP
namespace Core
open PySem L2 PP
theorem o7:∀ (m:Nat) (l:List Nat),l.Nodup->(∀ x ∈ l,x < m)->l.length<=m
 | 0,[],_,_=>aS4 _
 | 0,x :: _,_,h=>absurd (h x aS6) (Nat.not_lt_zero _)
 | m+1,l,nd,h=>by
  by_cases hm:m ∈ l
  ·have h1:=o7 m (l.erase m) (nd.erase m) fun x hx=>by
    obtain ⟨h2,h3⟩:=(nd.mem_erase_iff).mp hx
    have:=h x h3
    omega
   rw [List.length_erase_of_mem hm] at h1
   omega
  ·have h1:=o7 m l nd fun x hx=>by
    have:=h x hx
    have:x ≠ m:=fun z=>hm (z ▸ hx)
    omega
   omega
end Core
namespace PP
open PySem L2
section
variable {X : Cx} {e : Expr} {tr : cV} {pos p2 : Pos}
def qT:List PV->(PV->Prop)->Prop:=fun xs Q=>∃ ys:List (List Int),xs = [.lst (ys.map fun r=>PV.tup (intz r))]/\ys.length<=4096/\(∀ y ∈ ys,y.length=2)/\∀ zs:List (List Int),zs.Perm ys->zs.Pairwise (fun u v=>HT.aO v u=false)->Q (.lst (zs.map fun r=>PV.tup (intz r)))
theorem aA1:fL X qT (G5 X.K):=by
 rintro H vs xs Q Q' r ⟨ys,rfl,hl,hne,q⟩ k
 obtain ⟨v,rfl,r1⟩:=r.one
 obtain ⟨a,us,rfl,_,h,r2⟩:=r1.sqL
 obtain ⟨h1,h2⟩:=J8 r2
 have lr:=r2.length
 rw [aS1] at lr
 refine⟨a,us,l6 H,rfl,aW.of h,by omega,fun y hy=>?_,fun l zs hl' pm so=>?_⟩
 ·obtain ⟨b,rfl,hb⟩:=h2 y hy
  refine⟨b,rfl,aS.of hb,hne _ ?_⟩
  rw [<- h1]; exact aU0.mpr ⟨_,hy,rfl⟩
 ·have hz:∀ u ∈ zs,∃ b,u = .ref b/\H b=some (.tup ((l6 H u).map V.int)):=fun u hu=>h2 u (pm.mem_iff.mp hu)
  refine k _ _ _ (cU hl' _) (.lst hl' cS ((J9 hz).same (cU hl' _) fun _ z=>z)) (q _ ?_ ?_)
  ·rw [<- h1]; exact pm.map _
  ·rw [ba4]; exact so
theorem L8 (B:Bt X.mg) (ha:QA X [e] tr) (hg:Gl X "sorted":=by rfl) (he:starEach [e] X.env=(false,eval e X.env) :: starEach [] X.env:=by rfl) (hpl:(backTo pos (starEach [] X.env)).any (·.1)=false:=by rfl):QE X (.Call (.Name "sorted" p2) [e] [] pos) (aM qT tr):=
 iX av5 aA1 hg B.sorted PyProof.Rows.boot_sorted ha (he:=he) (hpl:=hpl)
end
end PP
namespace Core
open PySem L2 PP
theorem L9 (n:Nat):∀ (a b:List (List Int)),((((tups a).zip (tups b)).all fun p=>cH (n+1) p.1 p.2) && (tups a).length == (tups b).length)=decide (a=b)
 | [],[]=>rfl
 | [],_ :: _=>by simp [tups]
 | _ :: _,[]=>by simp [tups]
 | x :: a,y :: b=>by
  have ih:=L9 n a b
  have e:∀ (z:List Int) (c:List (List Int)),tups (z :: c)=PV.tup (intz z) :: tups c:=fun _ _=>rfl
  rw [e,e]
  simp only [aZ2,bg6,aV5,zY] at ih ⊢
  by_cases h:x=y
  ·subst h
   have:((tups a).length+1 == (tups b).length+1)=((tups a).length == (tups b).length):=by simp
   rw [this,aR3 rfl,be0,ih]
   simp
  ·rw [aR2 h,aW5,aW5]
   simp [h]
theorem aA2 (n:Nat) (a b:List (List Int)):cH (n+2) (.lst (tups a)) (.lst (tups b))=decide (a=b):=L9 n a b
theorem M0 (n:Nat):∀ (a b:List (List Int)),dM (n+2) (.lst (tups a)) (.lst (tups b))=true
 | [],_=>by unfold dM tups; simp
 | _ :: _,[]=>by unfold dM tups; simp
 | x :: a,y :: b=>by
  have ih:=M0 n a b
  show (((PV.tup (intz x) :: tups a).zip (PV.tup (intz y) :: tups b)).all fun p=>dM (n+1) p.1 p.2)=true
  rw [aZ2,bg6,A0,be0]
  exact ih
abbrev M3 (bs:List Bool):List PV:=bs.map PV.bl
section
variable {ws : List Int} {ls : List (Int × Int)}
def cne (ws:List Int) (ls:List (Int × Int)) (S:List Int):Bool:=!decide (S = []) && decide (stay ws ls S=S)
end
end Core
namespace PP
open PySem L2
section
variable {X : Cx} {a b : Expr} {ta tb : aE} {pos : Pos}
theorem aA3 {K:PySem.W.Frag}{M M':Addr->Prop}{H:Hp}{v:V}{m n:List Int} (r1:aC K M H v (.tup (intz m))) (r2:aC K M' H v (.tup (intz n))):m=n:=by
 obtain ⟨p,us,rfl,h1,q1⟩:=r1.sqT
 obtain ⟨p2,ws,e,h2,q2⟩:=r2.sqT
 cases e
 rw [h1] at h2
 cases h2
 have:=(q1.ofInts).symm.trans q2.ofInts
 exact (List.map_inj_right fun _ _ e=>by cases e; rfl).mp this
end
end PP
namespace Core
open PySem L2 PP
def far (ns S:List Int):Bool:=decide (((S.filter fun x=>decide (x ∈ ns)).length:Int)=0)
def M4 (ws:List Int) (ls:List (Int × Int)):List Int->List Int->Bool
 | _,[]=>true
 | B,h :: R=>inB ws.length h && (kin ws ls B h && M4 ws ls (B ++ [h]) R)
end Core
namespace Raw
open PySem PySem.W PySem.Calls PyProof.Rows
theorem vG {xs:List Nat} (a:xs.Pairwise (· < ·)) {i k:Nat} (hk:k < xs.length) (h:i<=k):xs.getD i 0<=xs.getD k 0:=by
 rcases aV9 i k with z | z
 ·have:=aX3.mp a i k (by omega) hk z
  rw [aT3,aT3,aR5 (by omega),aR5 hk]
  exact bd8 this
 ·rw [Nat.le_antisymm h z]; exact aS4 _
theorem aA4 {xs:Array Nat}{i j:Nat} (h:i < xs.size):xs.getD i j=xs.toList.getD i 0:=by
 rw [aT3,bb9,Array.getD_eq_getD_getElem?,Array.getElem?_eq_getElem h]; rfl
theorem vH {xs:Array Nat}{j:Nat} (a:xs.toList.Pairwise (· < ·)):∀ (fuel lo hi:Nat),lo<=hi->hi<=xs.size->hi - lo<=fuel->(∀ i,i < lo->xs.toList.getD i 0 < j)->(∀ i,hi<=i->i < xs.size->j<=xs.toList.getD i 0)->
  SetTable.below.go xs j fuel lo hi<=xs.size/\(∀ i,i < SetTable.below.go xs j fuel lo hi->xs.toList.getD i 0 < j)/\∀ i,SetTable.below.go xs j fuel lo hi<=i->i < xs.size->j<=xs.toList.getD i 0
 | 0,lo,hi,h1,h2,h3,h4,h5=>by
  have e:lo=hi:=by omega
  subst e
  exact⟨h2,h4,h5⟩
 | fuel+1,lo,hi,h1,h2,h3,h4,h5=>by
  have sz:xs.toList.length=xs.size:=aW4
  unfold SetTable.below.go
  by_cases lt:lo < hi
  ·rw [if_pos lt]
   dsimp only
   have m1:lo<=(lo+hi) / 2:=by omega
   have m2:(lo+hi) / 2 < hi:=by omega
   rw [aA4 (by omega)]
   by_cases c:xs.toList.getD ((lo+hi) / 2) 0 < j
   ·rw [if_pos c]
    exact vH a fuel _ _ (by omega) h2 (by omega) (fun i hi'=>Nat.lt_of_le_of_lt (vG a (by omega) (by omega)) c) h5
   ·rw [if_neg c]
    exact vH a fuel _ _ (by omega) (by omega) (by omega) h4 fun i h6 h7=>aU9 (Nat.le_of_not_lt c) (vG a (by omega) h6)
  ·rw [if_neg lt]
   have e:lo=hi:=by omega
   subst e
   exact⟨h2,h4,h5⟩
theorem aA5 {xs:Array Nat}{j:Nat} (a:xs.toList.Pairwise (· < ·)):SetTable.below xs j<=xs.size/\(∀ i,i < SetTable.below xs j->xs.toList.getD i 0 < j)/\∀ i,SetTable.below xs j<=i->i < xs.size->j<=xs.toList.getD i 0:=
 vH a xs.size 0 xs.size (ba7 _) (aS4 _) (by omega) (fun i h=>absurd h (Nat.not_lt_zero _)) fun i h1 h2=>absurd h2 (by omega)
theorem aA6 {α:Type} (xs:Array α) (p:Nat) (x:α):(SetTable.insertAt xs p x).toList=xs.toList.take p ++ x :: xs.toList.drop p:=by
 unfold SetTable.insertAt
 simp
 exact aZ5 (by simp)
theorem aA7 {xs:Array Nat}{j:Nat} (a:xs.toList.Pairwise (· < ·)) (ne:xs[SetTable.below xs j]? ≠ some j):(SetTable.insertAt xs (SetTable.below xs j) j).toList.Pairwise (· < ·):=by
 obtain ⟨b1,b2,b3⟩:=aA5 (j:=j) a
 have sz:xs.toList.length=xs.size:=aW4
 rw [aA6]
 refine aU7.mpr ⟨a.sublist (List.take_sublist _ _),List.pairwise_cons.mpr ⟨fun x hx=>?_,a.sublist (List.drop_sublist _ _)⟩,fun x hx y hy=>?_⟩
 ·obtain ⟨i,hi,e⟩:=aY2 hx
  rw [be8] at hi
  rw [List.getElem_drop] at e
  have h1:=b3 (SetTable.below xs j) (aS4 _) (by omega)
  have h2:=vG a (i:=SetTable.below xs j) (k:=SetTable.below xs j+i) (by omega) (by omega)
  have h3:xs.toList.getD (SetTable.below xs j+i) 0=x:=by rw [aT3,aR5 (by omega),e]; rfl
  rcases aV9 j x with z | z
  ·exact z
  ·exfalso
   have h4:xs.toList.getD (SetTable.below xs j) 0=j:=by omega
   rw [aT3,aR5 (by omega)] at h4
   refine ne ?_
   rw [<- bb9,aR5 (by omega)]
   exact congrArg some h4
 ·have hx':x < j:=by
   obtain ⟨i,hi,e⟩:=aY2 hx
   rw [bd5] at hi
   rw [List.getElem_take] at e
   have:=b2 i (by omega)
   rw [aT3,aR5 (by omega),e] at this
   exact this
  rcases aR7.mp hy with e | hy
  ·rw [e]; exact hx'
  ·obtain ⟨i,hi,e⟩:=aY2 hy
   rw [be8] at hi
   rw [List.getElem_drop] at e
   have:=b3 (SetTable.below xs j+i) (by omega) (by omega)
   rw [aT3,aR5 (by omega),e] at this
   exact aT0 hx' this
structure gZ (b:Bool) (t:SetTable):Prop where
 asc:t.place.toList.Pairwise (· < ·)
 dm:t.dummies = #[]
 led:t.led=b
theorem M5 (j:Nat):SetTable.has #[] j=false:=by
 unfold SetTable.has
 simp
theorem M6 {t:SetTable} (dm:t.dummies = #[]) {h:Int}{j:Nat}{d:Option Nat}:∀ (fuel:Nat) (p:SetTable.Probe),p.dummy=none->SetTable.probe.go t (fun _=>h+1) h fuel p=some (.empty j d)->d=none/\t.slot j = .empty
 | 0,p,_,e=>by cases e
 | fuel+1,p,hp,e=>by
  unfold SetTable.probe.go at e
  have adv:∀ p:SetTable.Probe,p.dummy=none->(t.advance p).dummy=none:=fun p hp=>by
   unfold SetTable.advance
   split <;> exact hp
  cases hs:t.slot p.j with
  | empty=>
   rw [hs] at e
   cases e
   exact⟨hp,hs⟩
  | dummy=>
   exfalso
   unfold SetTable.slot at hs
   dsimp only at hs
   rw [dm,M5] at hs
   split at hs <;> cases hs
  | live i=>
   rw [hs] at e
   dsimp only at e
   rw [if_neg (by simp; omega)] at e
   exact M6 dm fuel _ (adv p hp) e
theorem aA8 {t:SetTable} (dm:t.dummies = #[]) {h:Int}{sl:Nat}{d:Bool} (e:t.freeSlot h=some (sl,d)):t.slot sl = .empty:=by
 unfold SetTable.freeSlot at e
 split at e
 ·rename_i j dummy hm
  obtain ⟨e1,e2⟩:=M6 dm _ _ rfl hm
  subst e1
  cases e
  exact e2
 ·cases e
theorem qU {b:Bool}{t:SetTable} (h:gZ b t) (n:Nat):gZ b (t.standIn n):=⟨by
 show (Array.range n).toList.Pairwise (· < ·)
 rw [Array.toList_range]; exact List.pairwise_lt_range,rfl,h.led⟩
theorem aA9 {b:Bool}{t:SetTable} (h:gZ b t) {j:Nat} (hs:t.slot j = .empty):gZ b (t.put j).1:=by
 refine⟨?_,?_,h.led⟩
 ·refine aA7 h.asc fun e=>?_
  unfold SetTable.slot at hs
  dsimp only at hs
  rw [if_pos (by rw [e]; exact aZ8 _)] at hs
  cases hs
 ·show (if SetTable.has t.dummies j then SetTable.eraseAt t.dummies (SetTable.below t.dummies j) else t.dummies) = #[]
  rw [h.dm,M5]; rfl
theorem aB0 {b:Bool}{t:SetTable} (h:gZ b t) (es:Array (Int × Value)) (k:Int) (x:Value):gZ b (layNew t es k x).2.1:=by
 unfold layNew
 split
 ·rename_i sl wd e
  have p:=aA9 h (aA8 h.dm e)
  show gZ b (SetTable.orStandIn _ _)
  unfold SetTable.orStandIn
  split
  ·exact p
  ·exact qU p _
 ·exact qU h _
theorem aB1 {b:Bool}{t:SetTable} (h:gZ b t) (es:Array (Int × Value)) (n:Nat):gZ b (relayAll t es n).2.1:=by
 unfold relayAll
 split
 ·rename_i t' order e
  dsimp only
  split
  ·show gZ b t'
   unfold SetTable.relaid SetTable.laid at e
   cases hc:SetTable.layClean (SetTable.sizeAbove n - 1) (es.map (·.1)) with
   | none=>rw [hc] at e; cases e
   | some owner=>
    rw [hc] at e
    cases e
    refine⟨?_,rfl,h.led⟩
    show (List.map _ _).Pairwise (· < ·)
    refine ba4.mpr (List.Pairwise.filterMap _ (R:=(· < ·)) ?_ List.pairwise_lt_range)
    intro i i' hlt x hx y hy
    cases ho:owner.getD i none with
    | none=>rw [ho] at hx; cases hx
    | some v=>
     rw [ho] at hx
     cases ho2:owner.getD i' none with
     | none=>rw [ho2] at hy; cases hy
     | some v2=>
      rw [ho2] at hy
      cases hx; cases hy
      exact hlt
  ·exact qU h _
 ·exact qU h _
theorem M7 {us vs:List Value} (p:us.Perm vs):∀ {ns:List Int},IntsAre vs ns->∃ ms,IntsAre us ms/\ms.Perm ns:=by
 induction p with
 | nil=>intro ns h; exact⟨ns,h,bc8 _⟩
 | cons x _ ih=>
  intro ns h
  cases h with
  | cons n t r=>
   obtain ⟨ms,h1,h2⟩:=ih r
   exact⟨n :: ms,.cons n t h1,h2.cons n⟩
 | swap x y l=>
  intro ns h
  cases h with
  | cons n t r=>
   cases r with
   | cons n' t' r=>
    exact⟨n' :: n :: _,.cons n' t' (.cons n t r),bh0 _ _ _⟩
 | trans _ _ ih1 ih2=>
  intro ns h
  obtain ⟨ms,h1,h2⟩:=ih2 h
  obtain ⟨ms',h3,h4⟩:=ih1 h1
  exact⟨ms',h3,h4.trans h2⟩
theorem M8:∀ {us:List Value}{ns:List Int},IntsAre us ns->∀ (k:Int) (t:Nat),IntsAre (us ++ [.int k t]) (ns ++ [k])
 | _,_,.nil,k,t=>.cons k t .nil
 | _,_,.cons n u r,k,t=>.cons n u (M8 r k t)
theorem qV:∀ {us:List Value}{ns:List Int},IntsAre us ns->∀ k:Int,k ∈ ns ↔ ∃ t,Value.int k t ∈ us
 | _,_,.nil,k=>⟨(fun h=>nomatch h),(fun ⟨_,h⟩=>nomatch h)⟩
 | _,_,.cons n u r,k=>by
  constructor
  ·intro h
   rcases aR7.mp h with e | h
   ·exact⟨u,by rw [e]; exact aS6⟩
   ·obtain ⟨t,ht⟩:=(qV r k).mp h
    exact⟨t,aS2 _ ht⟩
  ·rintro ⟨t,h⟩
   rcases aR7.mp h with e | h
   ·cases e; exact aS6
   ·exact aS2 _ ((qV r k).mpr ⟨t,h⟩)
abbrev o8 (es:Array (Int × Value)) (ep:Nat) (t:SetTable):Obj:={ cls:=.type "set",dict:=none,data:=.set es ep t,slots:=#[] }
section
variable {prog : Program} {w : World} {A : Around} {E : Value → Shared → Prop} {s : Shared}
def aB2 (prog:Program) (w:World) (es:Array (Int × Value)) (t:SetTable) (ms:List Int):Prop:=ElemsOf (intKind prog w) es.toList/\IntsAre (es.toList.map (·.2)) ms/\es.size < scanBound/\t.fits es.size=true/\gZ (!w.params.followText "set-order") t
def M9 (prog:Program) (w:World) (h:Heap) (a:Addr) (ms:List Int):Prop:=∃ es ep t,h.get? a=some (o8 es ep t)/\aB2 prog w es t ms
theorem N0 {h:Heap}{a:Addr}{es es':Array (Int × Value)}{ep:Nat}{t t':SetTable} (ho:h.get? a=some (o8 es ep t)):(h.update a (Obj.putSet es' t')).get? a=some (o8 es' (ep+1) t'):=by
 have:=ba2 (Obj.putSet es' t') ho (by rw [putSet_of es' t' (rfl:(o8 es ep t).data=_)]; rfl)
 rw [putSet_of es' t' (rfl:(o8 es ep t).data=_)] at this
 exact this
theorem add_int {a:Addr}{ms:List Int}{k:Int}{u:Nat}{Q:Bool->Shared->Prop} (hS:M9 prog w s.heap a ms) (room:ms.length+1 < scanBound)
  (h:∀ b h' ms',Heap.SameBut a s.heap h'->M9 prog w h' a ms'->(k ∈ ms->ms'.Perm ms)->(k ∉ ms->ms'.Perm (ms ++ [k]))->Q b { s with heap:=h' }) :
  wpAny (model prog w) A (setAddHashed a (.int k u) ((intKind prog w).hash k)) Q E s:=by
 obtain ⟨es,ep,t,ho,hel,hi,hb,hf,tk⟩:=hS
 have key:(intKind prog w).is k (.int k u)=true:=intKind_is _ _ _ _
 have ln:ms.length=es.size:=by
  have:=IntsAre.length hi
  rw [aS1,aW4] at this
  exact this.symm
 have isk:∀ v,(intKind prog w).is k v=true->∃ u,v = .int k u:=fun v hv=>Value.isInt_shape hv
 unfold setAddHashed setAddHashedIn
 refine aZ7 (aQ9 (wpAny_setState_of ho rfl hf ?_))
 dsimp only
 rw [byScan_of (knd:=intKind prog w) (x:=.int k u) rfl hb hel,if_pos rfl]
 unfold setAddByScan
 refine aQ9 (aQ9 (be5 ?_))
 refine aQ9 (wpAny_setScan_of key ho rfl hf hel ?_)
 cases hr:List.findIdx? (fun e=>(intKind prog w).is k e.2) es.toList with
 | some j=>
  dsimp only
  obtain ⟨hj,hp,_⟩:=List.findIdx?_eq_some_iff_getElem.mp hr
  have km:k ∈ ms:=by
   obtain ⟨u',e⟩:=isk _ hp
   exact (qV hi k).mpr ⟨u',by rw [<- e]; exact aU0.mpr ⟨_,bc6 hj,rfl⟩⟩
  have e:s={ s with heap:=s.heap }:=by cases s; rfl
  rw [e]
  exact aR4 (aR4 (h _ s.heap ms (Heap.SameBut.refl a s.heap) ⟨es,ep,t,ho,hel,hi,hb,hf,tk⟩ (fun _=>bc8 _) fun n=>absurd km n))
 | none=>
  dsimp only
  have km:k ∉ ms:=fun z=>by
   obtain ⟨u',hm⟩:=(qV hi k).mp z
   obtain ⟨e,he,e2⟩:=aU0.mp hm
   have:=List.findIdx?_eq_none_iff.mp hr e he
   rw [e2,intKind_is _ _ _ _] at this; cases this
  have lp:=layNew_perm t es ((intKind prog w).hash k) (.int k u)
  have lf:=layNew_fits t es ((intKind prog w).hash k) (.int k u)
  have lk:=aB0 tk es ((intKind prog w).hash k) (.int k u)
  generalize hL:layNew t es ((intKind prog w).hash k) (.int k u)=L at lp lf lk ⊢
  obtain ⟨es1,t1,wd,gave⟩:=L
  dsimp only at lp lf lk ⊢
  rw [Array.toList_push] at lp
  have el1:ElemsOf (intKind prog w) es1.toList:=(hel.push key rfl).perm lp
  have sz1:es1.size=es.size+1:=by rw [<- aW4,lp.length_eq,aU4,aW4]; rfl
  obtain ⟨ms1,i1,p1⟩:∃ ms1,IntsAre (es1.toList.map (·.2)) ms1/\ms1.Perm (ms ++ [k]):=M7 (lp.map (·.2)) (by rw [aT9]; exact M8 hi k u)
  have hb1:es1.size < scanBound:=by omega
  have gw:∀ (b:Bool) (s₁:Shared) (Q':Unit->Shared->Prop),Q' () s₁->wpAny (model prog w) A (match b with | true=>rule "set.scan.the-table-gave-way" | false=>pure ()) Q' E s₁:=fun b s₁ Q' hq=>by
   cases b
   ·exact aR4 hq
   ·exact be5 hq
  refine aQ9 (gw _ _ _ ?_)
  split <;> (
   show wpAny _ _ (storeSet a es1 t1 >>= _) _ _ _
   simp only [↓reduceIte]
   refine aQ9 (wpAny_storeSet_of ho rfl ?_ (fits_of_scanBound hb1))
   have ho1:=N0 (es':=es1) (t':=t1) ho
   have sb1:=bd0 s.heap a (Obj.putSet es1 t1)
   split
   ·have rp:=relayAll_perm t1 es1 (SetTable.grown es1.size)
    have rf:=relayAll_fits t1 es1 (SetTable.grown es1.size)
    have rk:=aB1 lk es1 (SetTable.grown es1.size)
    generalize relayAll t1 es1 (SetTable.grown es1.size)=L at rp rf rk ⊢
    obtain ⟨es2,t2,gave2⟩:=L
    dsimp only at rp rf rk ⊢
    have sz2:es2.size=es1.size:=by rw [<- aW4,rp.length_eq,aW4]
    obtain ⟨ms2,i2,p2⟩:=M7 (rp.map (·.2)) i1
    refine aQ9 (gw _ _ _ ?_)
    refine aQ9 (wpAny_storeSet_of ho1 rfl ?_ (fits_of_scanBound (by omega)))
    exact aR4 (aR4 (h _ _ ms2 (sb1.trans (bd0 _ a _)) ⟨es2,_,t2,N0 ho1,el1.perm rp,i2,by omega,rf,rk⟩ (fun z=>absurd z km) fun _=>p2.trans p1))
   ·exact aR4 (aR4 (h _ _ ms1 sb1 ⟨es1,_,t1,ho1,el1,i1,hb1,lf,lk⟩ (fun z=>absurd z km) fun _=>p1)))
end
end Raw
namespace L2
open PySem PySem.Spec PyProof.Rows
theorem aB3 {a b c:List Int} (h1:HT.aO a b=true) (h2:HT.aO b c=true):HT.aO a c=true:=by
 cases e:HT.aO a c with
 | true=>rfl
 | false=>
  have ca:=tF (kK h2) (kK h1)
  have:=tG e ca
  subst this
  have:=kK h1
  rw [h2] at this; cases this
theorem vI {α:Type}{p q:α->Bool}:∀ {l:List α},(∀ x ∈ l,p x=true->q x=true)->(l.filter p).length<=(l.filter q).length
 | [],_=>aS4 _
 | x :: l,h=>by
  have ih:=vI (l:=l) fun y hy=>h y (aS2 _ hy)
  have hx:=h x aS6
  rw [List.filter_cons,List.filter_cons]
  cases ep:p x with
  | false=>cases q x <;> simp <;> omega
  | true=>rw [hx ep]; simp; omega
theorem N1 {α:Type}{p q:α->Bool}:∀ {l:List α},(∀ x ∈ l,p x=true->q x=true)->(∃ x ∈ l,q x=true/\p x=false)->(l.filter p).length < (l.filter q).length
 | [],_,e=>by obtain ⟨_,z,_⟩:=e; cases z
 | x :: l,h,e=>by
  have hx:=h x aS6
  have h':∀ y ∈ l,p y=true->q y=true:=fun y hy=>h y (aS2 _ hy)
  have le:=vI h'
  rw [List.filter_cons,List.filter_cons]
  obtain ⟨y,hy,qy,py⟩:=e
  rcases aR7.mp hy with rfl | hy
  ·rw [qy,py]; simp; omega
  ·have ih:=N1 h' ⟨y,hy,qy,py⟩
   cases ep:p x with
   | false=>cases q x <;> simp <;> omega
   | true=>rw [hx ep]; simp; omega
def l9 (ys:List (List Int)) (x:List Int):Nat:=(ys.filter fun y=>HT.aO y x).length
theorem N2 {ys:List (List Int)}{u v:List Int} (hu:u ∈ ys) (hv:v ∈ ys):HT.aO u v=decide ((l9 ys u:Int) < (l9 ys v:Int)):=by
 have irr:∀ a:List Int,HT.aO a a=false:=fun a=>by
  cases e:HT.aO a a with
  | false=>rfl
  | true=>have:=kK e; rw [e] at this; cases this
 cases e:HT.aO u v with
 | true=>
  have:l9 ys u < l9 ys v:=N1 (fun x _ h=>aB3 h e) ⟨u,hu,e,irr u⟩
  exact (aR3 (by omega)).symm
 | false=>
  have:l9 ys v<=l9 ys u:=vI fun x _ h=>by
   cases e2:HT.aO x u with
   | true=>rfl
   | false=>have:=tF e2 e; rw [h] at this; cases this
  exact (aR2 (by omega)).symm
end L2
namespace L2
open PySem PySem.Spec PyProof.Rows SO
section
variable {prog : Program} {w : World} {A : Around} {E : Value → Shared → Prop} {s : Shared}
structure hG (h:Heap) (v:Value) (ns:List Int):Prop where
 at_:∃ b ob us n,v = .ref b/\h.get? b=some ob/\ob.cls = .type "tuple"/\ob.data = .seq (List.toArray us) n/\IntsAre us ns
def vJ (h:Heap) (v:Value):List Int:=match v with
 | .ref b=>match h.get? b with
  | some ob=>match ob.data with
   | .seq us _=>us.toList.map numOf
   | _=>[]
  | none=>[]
 | _=>[]
theorem N3:∀ {us:List Value}{ns:List Int},IntsAre us ns->us.map numOf=ns
 | _,_,.nil=>rfl
 | _,_,.cons _ _ h=>by rw [aW8,N3 h]; rfl
theorem hG.ints {h:Heap}{v:Value}{ns:List Int} (z:hG h v ns):vJ h v=ns:=by
 obtain ⟨b,ob,us,n,rfl,e2,_,e4,e5⟩:=z.at_
 unfold vJ
 dsimp only
 rw [e2]; dsimp only
 rw [e4]; exact N3 e5
def mG (h:Heap) (ys:List (List Int)) (x:Keyed):Int:=(l9 ys (vJ h x.1):Int)
end
end L2
namespace PP
open PySem L2
section
variable {X : Cx} {a b e o : Expr} {ta tb te to : aE} {tr : cV} {pos p2 apos cpos : Pos} {σ : St} {H : Hp} {Q' : VK}
open Classical in
theorem N4 {A:Around} (hu:A.units+2 < cLine) {pins:List (Addr × Obj)}{s:Shared}{H:Hp}{us:List V}{its:List Value}{rs:List (List Int)}{ns:List Int}{x:V}{v:Value} (I:aA X pins σ H s) (rx:aU x v) (r:aR us its)
  (rn:aC X.K (fun _=>True) H x (.tup (intz ns))) (rr:Reps X.K (fun _=>True) H us (rs.map fun r=>PV.tup (intz r))):∃ f:Value->Bool,∀ (j:Nat) (w:Value),its[j]? = some w->∃ m,rs[j]? = some m/\SeqAt.EqAt A s w v (f w)/\f w=decide (m=ns):=by
 have lr:=r.length
 have lp:=rr.length
 rw [aS1] at lp
 refine⟨fun w=>decide (∃ v',aU v' w/\aC X.K (fun _=>True) H v' (.tup (intz ns))),fun j w hw=>?_⟩
 have hj:=(aS0.mp hw).1
 have h1:j < us.length:=by omega
 obtain ⟨w',hw',rw'⟩:=r.get (aR5 h1)
 rw [hw] at hw'
 cases hw'
 obtain ⟨m',hm',rm⟩:=rr.get (aR5 h1)
 rw [aT4] at hm'
 cases hm:rs[j]? with
 | none=>rw [hm] at hm'; cases hm'
 | some m=>
  rw [hm] at hm'
  cases hm'
  have e2:(decide (∃ v',aU v' w/\aC X.K (fun _=>True) H v' (.tup (intz ns))))=decide (m=ns):=by
   have:(∃ v',aU v' w/\aC X.K (fun _=>True) H v' (.tup (intz ns))) ↔ m=ns:=by
    refine⟨fun ⟨v',h1',h2'⟩=>?_,fun e=>⟨_,rw',by rw [<- e]; exact rm⟩⟩
    obtain ⟨p1,w1,e1,_,_⟩:=rm.sqT
    obtain ⟨p2,w2,e2,_,_⟩:=h2'.sqT
    rw [e1] at rw' rm
    rw [e2] at h1' h2'
    cases rw'
    cases h1'
    exact aA3 rm h2'
   exact decide_eq_decide.mpr this
  refine⟨m,rfl,?_,e2⟩
  show SeqAt.EqAt A s w v (decide _)
  rw [e2]
  have:=B6 I 2 (A:=A) hu rm rn rw' rx (by exact A0 1 m ns)
  rw [zY 1] at this
  exact this
def N5 (K:PySem.W.Frag):R2:=fun x y H Q=>∃ p us ns,∃ rs:List (List Int),y = .ref p/\H p=some (.lst us)/\aC K (fun _=>True) H x (.tup (intz ns))/\Reps K (fun _=>True) H us (rs.map fun r=>PV.tup (intz r))/\Q (.bl (!decide (ns ∈ rs))) H
theorem aB4 (hu:X.A.units+3 < cLine):c9 X (compareOp .NotIn) (N5 X.K):=by
 intro pins s σ H x y v u Q I rx ry h
 obtain ⟨p,us,ns,rs,rfl,hp,rn,rr,q⟩:=h
 cases ry
 obtain ⟨its,r,pl,hz⟩:=I.list (aW.of (K:=X.K) hp)
 have lr:=r.length
 have lp:=rr.length
 rw [aS1] at lp
 obtain ⟨f,key⟩:=N4 (A:=X.A.in1) (by show X.A.units+1+2 < cLine; omega) I rx r rn rr
 refine SeqAt.notIn_listAt f pl.isList (fun w hw=>?_) ⟨.bl _,H,I,rfl,?_⟩
 ·have hw:w ∈ its:=by simpa using hw
  obtain ⟨j,hj⟩:=be2 hw
  obtain ⟨m,_,h1,h2⟩:=key j w hj
  exact h1
 ·have:its.toArray.any f=decide (ns ∈ rs):=by
   rw [show its.toArray.any f=its.any f by simp,aX4,List.any_eq_true,aT6]
   refine⟨fun ⟨w,hw,e⟩=>?_,fun h=>?_⟩
   ·obtain ⟨j,hj⟩:=be2 hw
    obtain ⟨m,hm,_,h2⟩:=key j w hj
    rw [h2,aT6] at e
    rw [<- e]; exact bc4 hm
   ·obtain ⟨j,hj⟩:=be2 h
    have hl:=(aS0.mp hj).1
    obtain ⟨m,hm,_,h2⟩:=key j its[j] (aR5 (by omega))
    rw [hj] at hm
    cases hm
    exact⟨its[j]'(by omega),bc6 _,by rw [h2]; exact aR3 rfl⟩
  rw [this]
  exact q
def qW:PV->Tg->PV->Tg->PK->Prop:=fun x _ y _ Q=>∃ ns,∃ rs:List (List Int),x = .tup (intz ns)/\y = .lst (rs.map fun r=>PV.tup (intz r))/\Q (.bl (!decide (ns ∈ rs))) .fr
theorem aB5:eI X qW (N5 X.K):=by
 rintro W Hs H u v x y g g' Q Q' s n r1 r2 ⟨ns,rs,rfl,rfl,q⟩ k
 obtain ⟨p,us,rfl,_,h,r⟩:=r2.sqL
 exact⟨p,us,ns,rs,rfl,h,r1.same (aH.refl _) (fun _ _=>trivial),r.same (aH.refl _) (fun _ _=>trivial),k _ _ _ .fr (aH.refl _) (.bl _) q⟩
theorem aB6 (hu:X.A.units+3 < cLine) (ha:QE X a ta) (hb:QE X b tb) (hm:behindInMarks .NotIn b=false:=by rfl):QT X (.Compare a [.NotIn] [b] pos) (aZ (q2 qW ta tb)):=jT (aB4 hu) aB5 ha hb hm
end
end PP
namespace Core
open PySem L2 PP
def yX (ws:List Int) (ls:List (Int × Int)) (ns R:List Int):Prop:=M4 ws ls ns R=true/\az1 ws ls (ns ++ R)
end Core
namespace PP
open PySem L2
section
variable {X : Cx} {a b : Expr} {ta tb : aE} {pos : Pos}
def qX:PV->Tg->PV->Tg->PK->Prop:=fun x _ y _ Q=>∃ ns ms:List Int,x = .tup (intz ns)/\y = .tup (intz ms)/\Q (.bl (HT.aO ns ms)) .fr
theorem N6:eI X qX (sR X.K):=by
 rintro W Hs H u v x y g g' Q Q' s n r1 r2 ⟨ns,ms,rfl,rfl,q⟩ k
 obtain ⟨p1,us,rfl,h1,r1⟩:=r1.sqT
 obtain ⟨p2,vs,rfl,h2,r2⟩:=r2.sqT
 obtain rfl:=r1.ofInts
 obtain rfl:=r2.ofInts
 exact⟨p1,p2,ns,ms,rfl,rfl,aS.of h1,aS.of h2,k _ _ _ _ (aH.refl _) (.bl _) q⟩
theorem aB7 (hu:X.A.units+3 < cLine) (ha:QE X a ta) (hb:QE X b tb):QE X (.Compare a [.Lt] [b] pos) (q2 qX ta tb):=kU (xS (by omega)) N6 ha hb (fD _)
end
end PP
namespace L2
open PySem PySem.Spec PyProof.Rows PP
section
variable {prog : Program} {w : World} {A : Around} {R : Result → Shared → Prop} {I S : Addr} {n : Nat} {l : Addr} {its : Array Value} {s0 : Shared} {bt : Nat → Nat → Bool}
abbrev at_ (s:Shared) (h:Heap) (k:Nat):Shared:={ s with heap:=h,toks:=k }
abbrev dH (g h:Heap):Prop:=∀ b o,g.get? b=some o->h.get? b=some o
def cE (prog:Program) (w:World) (A:Around) (s0:Shared) (its:Array Value) (bt:Nat->Nat->Bool):Prop:=
 ∀ (i j:Nat) (v u:Value) (h:Heap) (k:Nat) (Q E:Value->Shared->Prop),its[i]? = some v->its[j]? = some u->dH s0.heap h->Q (.bool (bt i j)) (at_ s0 h k)->wpAny (model prog w) A (richCompare .Lt v u) Q E (at_ s0 h k)
end
section
variable {prog : Program} {w : World} {A : Around} {s0 : Shared} {l : Addr} {its : Array Value} {bt : Nat → Nat → Bool}
theorem qY {h:Heap}{a:Addr} (z:h.objs.size<=a):h.get? a=none:=by
 cases q:h.get? a with
 | none=>rfl
 | some o=>exact absurd (aS5 q) (Nat.not_lt.mpr z)
end
end L2
namespace Core
open PySem L2 PP
def FB (L:List (List Int)) (f:List Int->Int) (r:List Int):Prop:=∃ i,L[i]? = some r/\(∀ (j:Nat) (s:List Int),j < i->L[j]? = some s->f s < f r)/\∀ s ∈ L,f s<=f r
end Core
namespace PP
open PySem L2
section
variable {X : Cx} {a b e : Expr} {ta tb : aE} {tr : cV} {pos p2 : Pos}
def N7 (K:PySem.W.Frag):R2:=fun x y H Q=>fX (fun i j=>.bl (decide (i < j))) x y H Q ∨ sR K x y H Q
theorem aB8 (hu:X.A.units < cLine):c9 X (compareOp .Lt) (N7 X.K):=by
 intro pins s σ H x y v u Q I rx ry h
 rcases h with h | h
 ·exact oN pins s σ H x y v u Q I rx ry h
 ·exact xS hu pins s σ H x y v u Q I rx ry h
def qZ:PV->Tg->PV->Tg->PK->Prop:=fun x g y g' Q=>eB (fun i j=>.bl (decide (i < j))) x g y g' Q ∨ qX x g y g' Q
theorem aB9:eI X qZ (N7 X.K):=by
 intro W Hs H u v x y g g' Q Q' s n r1 r2 h k
 rcases h with h | h
 ·exact .inl (kL W Hs H u v x y g g' Q Q' s n r1 r2 h k)
 ·exact .inr (N6 W Hs H u v x y g g' Q Q' s n r1 r2 h k)
theorem aC0 (hu:X.A.units+1 < cLine) (ha:QE X a ta) (hb:QE X b tb):QE X (.Compare a [.Lt] [b] pos) (q2 qZ ta tb):=kU (aB8 (by omega)) aB9 ha hb (fD _)
end
end PP
namespace L2
open PySem PySem.Spec PyProof.Rows
section
variable {X : Cx}
def N8 (K:PySem.W.Frag) (ta:TA):TI:=fun σ H R=>ta σ H fun vs H1=>∃ a b,vs = [.ref a,.ref b]/\((∃ xs ys,aS K H1 a xs/\aS K H1 b ys/\R (tL K a b) H1) ∨ ∃ xs ys,aW K H1 a xs/\aW K H1 b ys/\R (tN K a b) H1)
theorem aC1 {elts:List Expr}{kt:Nat}{pt:Pos}{a b:Expr}{ta:TA}{p pos:Pos} (hg:Gl X "zip") (hm:X.mg "zip" = none) (ha:PA X [a,b] ta) (hs:starEach [a,b] X.env = [(false,eval a X.env),(false,eval b X.env)]:=by rfl) (hs2:starEach [b] X.env = [(false,eval b X.env)]:=by rfl) :
  PI X (.Tuple elts kt pt) (.Call (.Name "zip" p) [a,b] [] pos) (N8 X.K ta):=by
 intro pins s σ H R I h
 refine Call_ (lG I hg hm PyProof.Rows.boot_zip (be6 (aQ (ha pos pins s σ H _ I h) fun us s1 ⟨vs,H1,I1,r1,q1⟩=>?_) (by rw [hs,hs2]) (by rw [hs2]; rfl)))
 obtain ⟨a',b',e,q1⟩:=q1
 subst e
 obtain ⟨u1,u2,rfl,r,r'⟩:=aR.two r1
 cases r
 cases r'
 have fresh:∀ k,H1 (s1.heap.objs.size+k)=none:=fun k=>I1.hok.fresh (bb2 _ _)
 have fp:∀ c ∈ [s1.heap.objs.size+4,s1.heap.objs.size+2,s1.heap.objs.size+3,s1.heap.objs.size,s1.heap.objs.size+1],fW X pins H1 c:=fun c hc=>by
  simp only [aR7,aS8,aV7] at hc
  rcases hc with rfl | rfl | rfl | rfl | rfl
  ·exact I1.fpOk (bb2 _ _) (fresh 4)
  ·exact I1.fpOk (bb2 _ _) (fresh 2)
  ·exact I1.fpOk (bb2 _ _) (fresh 3)
  ·exact I1.fpOk (aS4 _) (fresh 0)
  ·exact I1.fpOk (bb2 _ _) (fresh 1)
 rcases q1 with ⟨xs,ys,h1,h2,q⟩ | ⟨xs,ys,h1,h2,q⟩
 ·obtain ⟨us,_,p1,_⟩:=I1.tuple h1
  obtain ⟨ws,_,p2,_⟩:=I1.tuple h2
  refine Zp.am1 p1 p2 fun h' z ti to s1' s2' kp=>wpAny_pyIter_zip z ?_
  exact⟨s1.heap.objs.size+4,[s1.heap.objs.size+4,s1.heap.objs.size+2,s1.heap.objs.size+3,s1.heap.objs.size,s1.heap.objs.size+1],_,_,H1,rfl,I1.kept (t':=s1.toks) kp,am4 a' b' _ _ _ _ _ (by simp),⟨z,ti,⟨_,_,to⟩,s1',s2'⟩,fp,q⟩
 ·obtain ⟨us,_,p1,_⟩:=I1.list h1
  obtain ⟨ws,_,p2,_⟩:=I1.list h2
  refine call_zip_2 p1.isList p2.isList fun h' z ti to s1' s2' _ kp=>wpAny_pyIter_zip z ?_
  exact⟨s1.heap.objs.size+4,[s1.heap.objs.size+4,s1.heap.objs.size+2,s1.heap.objs.size+3,s1.heap.objs.size,s1.heap.objs.size+1],_,_,H1,rfl,I1.kept (t':=s1.toks) kp,an0 a' b' _ _ _ _ _ (by simp),⟨z,ti,⟨_,_,to⟩,s1',s2'⟩,fp,q⟩
end
end L2
namespace PP
open PySem L2
theorem aC2 {K:PySem.W.Frag}{H0:Hp}{W:Addr->Prop}{g:Bool}{H1:Hp}{a b:Addr}{us vs:List V}{xs ys:List PV} (tw:∀ a,W a->∃ o,H1 a=some o/\fH o=true) (ha:∀ W' H',Ev W H1 W' H'->aW K H' a us) (hb:∀ W' H',Ev W H1 W' H'->aW K H' b vs)
  (r:Reps K (Ms H0 W g) H1 us xs) (r':Reps K (Ms H0 W g) H1 vs ys):jN K H0 W g H1 (tN K a b) (iE xs ys):=by
 have lr:=r.length
 have lr':=r'.length
 have ll:=vA xs ys
 refine⟨fun W' H' i e hi=>⟨us,vs,us[i]'(by omega),vs[i]'(by omega),ha W' H' e,hb W' H' e,by simp,by simp⟩,fun W' H' i v H2 e y hi=>?_,fun W' H' e=>⟨us,vs,ha W' H' e,hb W' H' e,by omega⟩⟩
 obtain ⟨T,x,y',hT,rfl,rfl,y⟩:=y
 obtain ⟨h1,h2⟩:=y us vs (ha W' _ e) (hb W' _ e)
 obtain ⟨z,hz,rz⟩:=r.get h1
 obtain ⟨z',hz',rz'⟩:=r'.get h2
 have sm:=cU hT (HO.tup [x,y'])
 exact⟨sm,_,L0 hz hz',.tup cS (.cons ((rz.keep (e.keep tw)).same sm fun _ q=>q) (.cons ((rz'.keep (e.keep tw)).same sm fun _ q=>q) .nil))⟩
section
variable {X : Cx} {σ : L2.St} {H : Hp} {ta tb : aE} {R : It → Hp → Prop}
def vK (ta tb:aE):eU:=fun ρ Q=>ta ρ fun x g0=>tb ρ fun y g=>∃ xs ys,((x = .tup xs/\y = .tup ys) ∨ (x = .lst xs/\y = .lst ys/\g0 ≠ .rd/\g ≠ .rd))/\flats xs=true/\flats ys=true/\Q (iE xs ys) true
theorem N9 {K:PySem.W.Frag}{H0 Hs:Hp}{W:Addr->Prop}{σ:L2.St}{ρ:bH}{g:Tg}{b:Addr} (px:PX K H0 W σ ρ Hs) (ng:g ≠ .rd) (m:Mg H0 W Hs g b) : ¬ W b:=by
 cases g with
 | fr=>exact (px.new m).1
 | nw=>exact m.1
 | sh=>exact m
 | rd=>exact absurd rfl ng
theorem aC3 (h:LI X (vK ta tb) σ H R):N8 X.K (jI (LE X ta) (jI (LE X tb) kE)) σ H R:=by
 obtain ⟨W,ρ,Q,px,q,k⟩:=h
 refine⟨W,ρ,_,px,q,fun v0 H0 x0 g0 s0 r0 q0=>⟨W,ρ,_,px.mono s0,q0,?_⟩⟩
 rintro v H1 x g s r ⟨xs,ys,c,fx,fy,q⟩
 have S:=s0.trans s
 have px1:=px.mono S
 have tw:∀ a,W a->∃ o,H1 a=some o/\fH o=true:=fun a z=>(px1.wm a z).2
 rcases c with ⟨rfl,rfl⟩ | ⟨rfl,rfl,n0,n1⟩
 ·obtain ⟨a,us,rfl,h1,ra⟩:=(r0.same (M':=fun _=>True) s fun _ _=>trivial).sqT
  obtain ⟨b,vs,rfl,h2,rb⟩:=r.sqT
  have sta:∀ {c us},H1 c=some (.tup us)->∀ W' H',Ev W H1 W' H'->aS X.K H' c us:=fun {c us} hc W' H' e=>aS.of (e _ _ hc fun z=>by obtain ⟨o,h',mu⟩:=tw _ z; rw [hc] at h'; cases h'; cases mu).1
  exact⟨a,b,rfl,.inl ⟨us,vs,aS.of h1,aS.of h2,k _ _ _ _ S (az8 tw (sta h1) (sta h2) (ra.flat fx) (rb.flat fy)) q⟩⟩
 ·obtain ⟨a,us,rfl,m0,h1,ra⟩:=(r0.same s fun _ z=>z).sqL
  obtain ⟨b,vs,rfl,m1,h2,rb⟩:=r.sqL
  have w0:=N9 px n0 m0
  have w1:=N9 (px.mono s0) n1 m1
  exact⟨a,b,rfl,.inr ⟨us,vs,aW.of h1,aW.of h2,k _ _ _ _ S (aC2 tw (fun W' H' e=>aW.of (e _ _ h1 w0).1) (fun W' H' e=>aW.of (e _ _ h2 w1).1) (ra.flat fx) (rb.flat fy)) q⟩⟩
theorem aC4 {elts:List Expr}{kt:Nat}{pt p2 pos:Pos}{a b:Expr} (B:Bt X.mg) (ha:QE X a ta) (hb:QE X b tb) (hg:Gl X "zip":=by rfl) (hs:starEach [a,b] X.env = [(false,eval a X.env),(false,eval b X.env)]:=by rfl) (hs2:starEach [b] X.env = [(false,eval b X.env)]:=by rfl):QI X (.Tuple elts kt pt) (.Call (.Name "zip" p2) [a,b] [] pos) (vK ta tb):=
 pQ (aC1 hg B.zip (iK ha (iK hb kF hs2) (by rw [hs,hs2])) hs hs2) fun _ _ _=>aC3
end
end PP
namespace Core
open PySem L2 PP
theorem aC5 (xs:List PV):iC xs (some 1) none=xs.drop 1:=by
 unfold iC
 have e1:HT.b6 xs.length 0 (some 1)=min 1 xs.length:=by
  show (if (1:Int) < 0 then ((1:Int)+(xs.length:Int)).toNat else min (1:Int).toNat xs.length)=_
  rw [if_neg (by decide)]; rfl
 rw [e1]
 show (xs.drop (min 1 xs.length)).take (xs.length - min 1 xs.length)=_
 rw [aZ5 (by rw [be8]; exact aS4 _)]
 cases xs with
 | nil=>rfl
 | cons x xs=>rw [show min 1 (x :: xs).length=1 by simp]
def r6 {α:Type} (lt:α->α->Bool) (A:List α):Bool:=((A.zip (A.drop 1)).map fun p=>lt p.1 p.2).all id
def O0:aV:=(bQ (aM pG (a8 (gX (vK (a7 0) (pO (a7 0) (pN (qC (.int 1))) pM)) [none,none] (gW 0 1) iB (q2 qZ (a7 0) (a7 1))) aD)))
theorem O1 {α:Type} (f:α->PV) (lt:α->α->Bool) (fl:∀ a,flat (f a)=true) (hlt:∀ (a b:α) (g g':Tg) (K:PK),K (.bl (lt a b)) .fr->qZ (f a) g (f b) g' K) (A:List α) (la:A.length<=10000) (x:PV) (hx:x = .tup (A.map f) ∨ x = .lst (A.map f)) {Q:PV->Prop} (q:Q (.bl (r6 lt A))) :
  O0 { nx:=fun _=>Q .non,rt:=Q } [some (.sh (flat x) x)]:=by
 have fls:∀ B:List α,flats (B.map f)=true:=fun B=>by
  induction B with
  | nil=>rfl
  | cons b B ih=>show (flat (f b) && flats (B.map f))=true; rw [fl,ih]; rfl
 have sx:pE x=some (A.map f):=by rcases hx with rfl | rfl <;> rfl
 have cut:iC (A.map f) (some 1) none=(A.drop 1).map f:=by rw [aC5,List.map_drop]
 refine⟨_,rfl,_,rfl,_,rfl,_,sx,fls A,?_⟩
 rw [cut]
 refine⟨A.map f,(A.drop 1).map f,?_,fls A,fls _,?_⟩
 ·rcases hx with rfl | rfl
  ·exact .inl ⟨rfl,rfl⟩
  ·refine .inr ⟨rfl,rfl,?_,fun z=>by cases z⟩
   cases flat (.lst (A.map f)) <;> intro z <;> cases z
 have zl:(iE (A.map f) ((A.drop 1).map f)).length=A.length - 1:=by rw [vA,aS1,aS1,be8]; omega
 refine⟨by rw [zl]; omega,fun i acc=>acc=M3 (((A.zip (A.drop 1)).take i).map fun p=>lt p.1 p.2),rfl,?_,?_⟩
 ·rintro i y acc hy rfl
  obtain ⟨u,v,h1,h2,rfl⟩:=az7 hy
  rw [aT4] at h1 h2
  cases ha:A[i]? with
  | none=>rw [ha] at h1; cases h1
  | some a=>
   cases hb:(A.drop 1)[i]? with
   | none=>rw [hb] at h2; cases h2
   | some b=>
    rw [ha] at h1
    rw [hb] at h2
    cases h1
    cases h2
    have hz:(A.zip (A.drop 1))[i]? = some (a,b):=List.getElem?_zip_eq_some.mpr ⟨ha,hb⟩
    refine⟨_,_,rfl,_,rfl,_,rfl,hlt a b _ _ _ ⟨trivial,?_⟩⟩
    dsimp only
    rw [aX8,hz,aT9]
    unfold M3
    rw [aT9]; rfl
 ·rintro acc rfl
  rw [aZ5 (by rw [zl,List.length_zip,be8]; omega)]
  exact⟨_,rfl,trivial,q⟩
theorem aC6 (ls:List (Int × Int)):r6 (fun a b=>HT.aO [a.1,a.2] [b.1,b.2]) ls=true ↔ ls.Pairwise eY:=by
 have lt2:∀ a b:Int × Int,HT.aO [a.1,a.2] [b.1,b.2]=true ↔ eY a b:=fun a b=>by
  unfold eY
  rw [HT.gI,HT.gI,HT.oR]
  by_cases h1:a.1=b.1
  ·rw [if_pos h1]
   by_cases h2:a.2=b.2
   ·rw [if_pos h2]
    exact⟨fun z=>(by cases z),fun z=>(by omega)⟩
   ·rw [if_neg h2,aT6]; omega
  ·rw [if_neg h1,aT6]; omega
 induction ls with
 | nil=>exact⟨fun _=>.nil,fun _=>rfl⟩
 | cons a r ih=>
  cases r with
  | nil=>exact⟨fun _=>aW0 _ _,fun _=>rfl⟩
  | cons b r=>
   have e:r6 (fun a b:Int × Int=>HT.aO [a.1,a.2] [b.1,b.2]) (a :: b :: r)=(HT.aO [a.1,a.2] [b.1,b.2] && r6 (fun a b:Int × Int=>HT.aO [a.1,a.2] [b.1,b.2]) (b :: r)):=rfl
   rw [e,aY6,lt2,List.pairwise_cons]
   refine⟨fun ⟨h1,h2⟩=>⟨fun c hc=>?_,ih.mp h2⟩,fun ⟨h1,h2⟩=>⟨h1 b aS6,ih.mpr h2⟩⟩
   rcases aR7.mp hc with rfl | hc
   ·exact h1
   ·have:=(List.pairwise_cons.mp (ih.mp h2)).1 c hc
    unfold eY at *; omega
theorem mH {ls:List (Int × Int)} (h:ls.Pairwise eY):ls.Nodup:=h.imp fun {a b} z e=>by subst e; unfold eY at z; omega
def r9:bZ:=fun xs Q=>∃ x,xs = [x]/\((∃ ns,J1 x ns/\ns.length<=1000/\Q (.bl (uX ns))) ∨ ∃ ls:List (Int × Int),(x = .tup (aG ls) ∨ x = .lst (aG ls))/\ls.length<=4096/\∀ b:Bool,(b=true ↔ ls.Pairwise eY)->Q (.bl b))
abbrev O2:aV:=O0
theorem aC7:dS O2 ["things"] r9:=by
 rintro xs Q ⟨x,rfl,⟨ns,hx,hl,q⟩ | ⟨ls,hx,hl,q⟩⟩
 ·exact O1 PV.int (fun a b=>decide (a < b)) (fun _=>rfl) (fun a b g g' K h=>.inl ⟨_,_,rfl,rfl,h⟩) ns (by omega) x hx q
 ·exact O1 (fun l:Int × Int=>PV.tup [.int l.1,.int l.2]) (fun a b=>HT.aO [a.1,a.2] [b.1,b.2]) (fun _=>rfl) (fun a b g g' K h=>.inr ⟨_,_,rfl,rfl,h⟩) ls (by omega) x hx (q _ (aC6 ls))
def bL (r c:Int):Prop:=1<=r/\r<=40/\1<=c/\c<=40
def rA:eZ:=fun Ep xs Q=>∃ r c:Int,xs = [.int r,.int c]/\(bL r c->Q .non)/\(¬ bL r c->Ep "BadBoard")
def O3 (Ep:Str->Prop):aV:=(bY (fJ (aZ (gM (aM nG (a8 (a7 0) (a8 (a7 1) aD))) (qC (.int 1)))) (aZ (kT (aM lP (a8 (a7 0) (a8 (a7 1) aD))) (qC (.int 40))))) (mE Ep "BadBoard" (a8 (qC (.str "a board has from 1 to 40 rows and columns")) aD)) cB)
theorem aC8:mF O3 ["rows","columns"] rA:=by
 rintro Ep xs Q ⟨r,c,rfl,q,ex⟩
 refine⟨_,rfl,_,rfl,_,_,rfl,_,_,rfl,rfl,_,rfl,?_⟩
 show if decide ((if c < r then c else r) < 1)=true then _ else _
 by_cases h1:(if c < r then c else r) < 1
 ·rw [aR3 h1]
  exact aX (aX ⟨by decide,ex fun z=>by unfold bL at z; split at h1 <;> omega⟩)
 rw [aR2 h1]
 refine aL ⟨_,rfl,_,rfl,_,_,rfl,_,_,rfl,rfl,_,rfl,?_⟩
 show if decide ((if c > r then c else r) > 40)=true then _ else _
 by_cases h2:(if c > r then c else r) > 40
 ·rw [aR3 h2]
  exact aX ⟨by decide,ex fun z=>by unfold bL at z; split at h2 <;> omega⟩
 rw [aR2 h2]
 refine aL (q ?_)
 unfold bL
 split at h1 <;> split at h2 <;> omega
def bG (r c:Int) (l:Int × Int):Bool:=decide (0<=l.1) && (decide (l.1 < r) && (decide (0<=l.2) && decide (l.2 < c)))
theorem eO {r c:Int}{l:Int × Int}:bG r c l=true ↔ 0<=l.1/\l.1 < r/\0<=l.2/\l.2 < c:=by
 unfold bG
 simp only [aY6,aT6]
def rB:bZ:=fun xs Q=>∃ (r c:Int) (l:Int × Int),xs = [.int r,.int c,.tup [.int l.1,.int l.2]]/\Q (.bl (bG r c l))
def O4:aV:=(bQ (iR (pP (bD (a7 2) (qC (.int 0))) (qC (.int 0))) (iR (gM (bD (a7 2) (qC (.int 0))) (a7 0)) (iR (pP (bD (a7 2) (qC (.int 1))) (qC (.int 0))) (gM (bD (a7 2) (qC (.int 1))) (a7 1))))))
theorem aC9:dS O4 ["rows","columns","cell"] rB:=by
 rintro xs Q ⟨r,c,l,rfl,q⟩
 unfold bG at q
 refine⟨_,rfl,_,_,_,rfl,rfl,rfl,_,_,rfl,rfl,_,rfl,?_⟩
 show if decide (l.1 >= 0)=true then _ else _
 by_cases h1:0<=l.1
 ·rw [aR3 h1] at q
  rw [aR3 (show l.1 >= 0 from h1)]
  refine aX ⟨_,rfl,_,_,_,rfl,rfl,rfl,_,rfl,_,_,rfl,rfl,_,rfl,?_⟩
  show if decide (l.1 < r)=true then _ else _
  by_cases h2:l.1 < r
  ·rw [aR3 h2] at q ⊢
   refine aX ⟨_,rfl,_,_,_,rfl,rfl,rfl,_,_,rfl,rfl,_,rfl,?_⟩
   show if decide (l.2 >= 0)=true then _ else _
   by_cases h3:0<=l.2
   ·rw [aR3 h3] at q
    rw [aR3 (show l.2 >= 0 from h3)]
    exact aX ⟨_,rfl,_,_,_,rfl,rfl,rfl,_,rfl,_,_,rfl,rfl,trivial,q⟩
   ·rw [aR2 h3] at q
    rw [aR2 (show ¬ l.2 >= 0 from h3)]
    exact aL ⟨trivial,q⟩
  ·rw [aR2 h2] at q ⊢
   exact aL ⟨trivial,q⟩
 ·rw [aR2 h1] at q
  rw [aR2 (show ¬ l.1 >= 0 from h1)]
  exact aL ⟨trivial,q⟩
def cG (r c:Int) (ls:List (Int × Int)):Prop:=ls.Pairwise eY/\∀ l ∈ ls,bG r c l=true
def k6:eZ:=fun Ep xs Q=>∃ (r c:Int) (x:PV) (ls:List (Int × Int)),xs = [.int r,.int c,x]/\(x = .tup (aG ls) ∨ x = .lst (aG ls))/\ls.length<=4096/\(¬ bL r c->Ep "BadBoard")/\(bL r c->¬ cG r c ls->Ep "BadSet")/\(bL r c->cG r c ls->Q (.tup (aG ls)))
def O5 (Ep:Str->Prop):aV:=(aI (tT (j9 Ep rA (a8 (a7 0) (a8 (a7 1) aD))))
 (aI (bY (fJ (iQ (aZ (aM r9 (a8 (a7 2) aD)))) (iQ (aZ (aM pG (a8 (gX (eJ (a7 2)) [none,some 0,some 1] (cY 0) iB (aM rB (a8 (a7 1) (a8 (a7 2) (a8 (a7 0) aD))))) aD))))) (mE Ep "BadSet" (a8 (qC (.str "a set is of rising cells of the board")) aD)) cB)
 (bQ (aM nM (a8 (a7 2) aD)))))
theorem aD0:mF O5 ["rows","columns","cells"] k6:=by
 rintro Ep xs Q ⟨r,c,x,ls,rfl,hx,hl,e1,e2,q⟩
 have sx:iS x=some (aG ls):=by rcases hx with rfl | rfl <;> rfl
 have pl:(aG ls).length=ls.length:=aS1 _
 have tg:(Slot.sh (flat x) x).tag = .rd->flat x=true:=by cases flat x <;> intro z <;> cases z
 refine⟨_,rfl,_,rfl,r,c,rfl,fun ok=>?_,e1⟩
 refine⟨_,rfl,_,rfl,.inr ⟨ls,hx,hl,fun b hb=>⟨_,rfl,?_⟩⟩⟩
 cases b with
 | false=>exact aX (aX ⟨by decide,e2 ok fun z=>by have:=hb.mpr z.1; cases this⟩)
 | true=>
  have ord:=hb.mp rfl
  refine aL ⟨_,rfl,aG ls,sx,tg,by rw [pl]; omega,fun i acc=>acc=(((ls.take i).map (bG r c)).map PV.bl),rfl,?_,?_⟩
  ·rintro i z acc hz rfl
   obtain ⟨l,rfl,hlm⟩:=jZ hz
   refine⟨_,rfl,_,rfl,_,rfl,r,c,l,rfl,trivial,?_⟩
   dsimp only
   rw [aX8,hlm,aT9,aT9]; rfl
  rintro acc rfl
  rw [pl,aX7]
  refine⟨ls.map (bG r c),rfl,_,rfl,?_⟩
  cases ha:(ls.map (bG r c)).all id with
  | false=>
   refine aX ⟨by decide,e2 ok fun z=>?_⟩
   have:(ls.map (bG r c)).all id=true:=by
    rw [List.all_map,bc5]
    exact fun l hlm=>z.2 l hlm
   rw [ha] at this; cases this
  | true=>
   refine aL ?_
   have st:cG r c ls:=⟨ord,fun l hlm=>by
    rw [List.all_map,bc5] at ha
    exact ha l hlm⟩
   have sT:pE x=some (aG ls):=by rcases hx with rfl | rfl <;> rfl
   refine⟨_,rfl,⟨_,_,rfl,sT,j5 _,trivial,q ok st⟩,fun ns z=>?_⟩
   rcases hx with rfl | rfl <;> cases z
def gC (l:Int × Int):List (Int × Int):=[(l.1 - 1,l.2),(l.1,l.2 - 1),(l.1,l.2+1),(l.1+1,l.2)]
def bF (r c:Int) (l:Int × Int):List (Int × Int):=(gC l).filter (bG r c)
section
variable {ls : List (Int × Int)} {n : Nat} {B : List Int}
def ins (ls:List (Int × Int)) (S:List Int) (h:Int):Nat:=((tI ls h).filter fun x=>decide (x ∈ S)).length
end
end Core
namespace L2
open PySem PySem.Spec PyProof.Rows SO
abbrev kk (l:Int × Int):List aJ:=[Sum.inl l.1,Sum.inl l.2]
theorem aD1 {α β:Type}{R:α->β->Prop}{xs ys:List α} (h:xs.Perm ys):∀ {ks:List β},Paired R xs ks->∃ ks',ks'.Perm ks/\Paired R ys ks':=by
 induction h with
 | nil=>intro ks r; exact⟨ks,bc8 _,r⟩
 | cons v _ ih=>
  intro ks r
  cases r with
  | cons r t=>
   obtain ⟨xs',p,r'⟩:=ih t
   exact⟨_ :: xs',p.cons _,.cons r r'⟩
 | swap u v l=>
  intro xs r
  cases r with
  | cons r t=>cases t with
   | cons r2 t2=>exact⟨_,bh0 _ _ _,.cons r2 (.cons r t2)⟩
 | trans _ _ ih1 ih2=>
  intro xs r
  obtain ⟨x1,p1,r1⟩:=ih1 r
  obtain ⟨x2,p2,r2⟩:=ih2 r1
  exact⟨x2,p2.trans p1,r2⟩
theorem O6 {α β:Type}{R:α->β->Prop}:∀ {xs:List α}{ys:List β},Paired R xs ys->∀ y ∈ ys,∃ x ∈ xs,R x y
 | _,_,.nil,y,h=>nomatch h
 | _,_,.cons r p,y,h=>by
  rcases aR7.mp h with rfl | h
  ·exact⟨_,aS6,r⟩
  ·obtain ⟨x,hx,rx⟩:=O6 p y h
   exact⟨x,aS2 _ hx,rx⟩
theorem O7 {α β:Type}{R:α->β->Prop}:∀ {xs:List α}{ys:List β},Paired R xs ys->∀ x ∈ xs,∃ y ∈ ys,R x y
 | _,_,.nil,y,h=>nomatch h
 | _,_,.cons r p,y,h=>by
  rcases aR7.mp h with rfl | h
  ·exact⟨_,aS6,r⟩
  ·obtain ⟨x,hx,rx⟩:=O7 p y h
   exact⟨x,aS2 _ hx,rx⟩
theorem O8 {α β:Type}{J:α->β->Prop}{R:α->α->Prop}{S:β->β->Prop}:∀ {xs:List α}{ys:List β},Paired J xs ys->xs.Pairwise R->(∀ u v a b,a ∈ ys->b ∈ ys->J u a->J v b->R u v->S a b)->ys.Pairwise S
 | _,_,.nil,_,_=>.nil
 | _,_,.cons (a:=x) (b:=y) r p,.cons h t,f=>by
  refine .cons (fun b hb=>?_) (O8 p t fun u v a b ha hb=>f u v a b (aS2 _ ha) (aS2 _ hb))
  obtain ⟨v,hv,jv⟩:=O6 p b hb
  exact f x v y b aS6 (aS2 _ hb) r jv (h v hv)
end L2
namespace PP
open PySem L2
section
variable {X : Cx} {o e f : Expr} {td tk tx : aE} {pos apos cpos : Pos} {σ : St} {H : Hp} {Q' : VK}
def vL (td tk tx:aE):aE:=fun ρ Q=>td ρ fun x _=>∃ ps,x = .dT ps/\tk ρ fun y _=>tx ρ fun z _=>∃ k,y = .tup (k.map kP)/\flat ((bS ps k).getD z)=true/\Q ((bS ps k).getD z) .fr
theorem aD2 (h:LE X (vL td tk tx) σ H Q'):yN (LE X td) (LE X tk) (LE X tx) σ H Q':=by
 obtain ⟨W,ρ,Q,px,q,k⟩:=h
 refine⟨W,ρ,_,px,q,?_⟩
 rintro v H1 x g s r ⟨ps,rfl,q⟩
 have r0:=r
 cases r with
 | @dT a kvs _ m h e rr=>
  refine⟨a,rfl,.inr ⟨kvs,.inl h⟩,W,ρ,_,px.mono s,q,fun w H2 y g' s2 r2 q2=>⟨W,ρ,_,(px.mono s).mono s2,q2,?_⟩⟩
  rintro w3 H3 z gz s3 r3 ⟨kk,rfl,fl,q⟩
  obtain ⟨a',o',ea,dg,h1,h2⟩:=tZ (.inr ⟨ps,kk,rfl,rfl,rfl⟩) (r0.same (s2.trans s3) fun _ z=>z) (r2.same s3 fun _ z=>z)
  cases ea
  refine⟨o',dg,?_⟩
  cases hv:bS ps kk with
  | none=>
   rw [hv] at fl q
   rw [h1 hv]
   exact k _ _ _ .fr ((s.trans s2).trans s3) (r3.flat fl) q
  | some z'=>
   rw [hv] at fl q
   obtain ⟨u,rfl,ru⟩:=h2 z' hv
   exact k _ _ _ .fr ((s.trans s2).trans s3) (ru.flat fl) q
theorem aD3 (hu:X.A.units+1 < cLine) (ho:QE X o td) (he:QE X e tk) (hf:QE X f tx) (m:M2 X o "get" apos e f cpos:=by exact⟨rfl,rfl,rfl,rfl⟩):QE X (.Call (.Attribute o "get" apos) [e,f] [] cpos) (vL td tk tx):=cL (aj7 hu ho he hf m) fun _ _ _=>aD2
def jA (p p':Int->Int->Bool) (ta tb tc:aE):aE:=fun ρ Q=>ta ρ fun x _=>tb ρ fun y _=>∃ i j,x = .int i/\y = .int j/\if p i j=true then tc ρ fun z _=>∃ k,z = .int k/\Q (.bl (p' j k)) .fr else Q (.bl false) .fr
theorem O9 {p p':Int->Int->Bool}{ta tb tc:aE} (h:LE X (jA p p' ta tb tc) σ H Q'):x9 (fX fun i j=>.bl (p i j)) (fX fun i j=>.bl (p' i j)) (LE X ta) (LE X tb) (LE X tc) σ H Q':=by
 obtain ⟨W,ρ,Q,px,q,k⟩:=h
 refine⟨W,ρ,_,px,q,?_⟩
 rintro v H1 x g s r q
 refine⟨W,ρ,_,px.mono s,q,?_⟩
 rintro u H2 y g' s2 r2 ⟨i,j,rfl,rfl,q⟩
 cases r; cases r2
 refine⟨i,j,rfl,rfl,p i j,rfl,?_⟩
 cases hp:p i j with
 | false=>
  rw [hp] at q
  rw [if_neg (by decide)] at q
  rw [if_neg (by decide)]
  exact k _ _ _ .fr (s.trans s2) (.bl false) q
 | true=>
  rw [hp,if_pos rfl] at q
  rw [if_pos rfl]
  refine⟨W,ρ,_,(px.mono s).mono s2,q,?_⟩
  rintro w H3 z gz s3 r3 ⟨m,rfl,q⟩
  cases r3
  exact⟨j,m,rfl,rfl,k _ _ _ .fr ((s.trans s2).trans s3) (.bl _) q⟩
section
variable {a b c : Expr} {ta tb tc : aE}
theorem P0 (ha:QE X a ta) (hb:QE X b tb) (hc:QE X c tc) (hm:lastMarks [.LtE,.Lt] [b,c]=false:=by with_unfolding_all rfl):QT X (.Compare a [.LtE,.Lt] [b,c] pos) (aZ (jA (fun i j=>decide (i<=j)) (fun i j=>decide (i < j)) ta tb tc)):=lV (xA oO oN ha hb hc hm) fun _ _ _ h=>O9 (nE h)
theorem rC (ha:QE X a ta) (hb:QE X b tb) (hc:QE X c tc) (hm:lastMarks [.LtE,.LtE] [b,c]=false:=by with_unfolding_all rfl):QT X (.Compare a [.LtE,.LtE] [b,c] pos) (aZ (jA (fun i j=>decide (i<=j)) (fun i j=>decide (i<=j)) ta tb tc)):=lV (xA oO oO ha hb hc hm) fun _ _ _ h=>O9 (nE h)
end
end
end PP
namespace Core
open PySem L2 PP
def fQ (K:List (Int × Int)):List (List aJ × PV):=K.map fun l=>(cQ l,PV.bl true)
theorem P3 {a b:Int × Int} (h:cQ a=cQ b):a=b:=by
 unfold cQ at h
 injection h with h1 h2
 injection h2 with h2
 exact bb5 (Sum.inl.inj h1) (Sum.inl.inj h2)
theorem P4 (K:List (Int × Int)):(fQ K).length=K.length:=by unfold fQ; rw [aS1]
theorem P5 (K:List (Int × Int)) (x:Int × Int):(bS (fQ K) (cQ x)).isSome=decide (x ∈ K):=by
 rw [<- mD,aX4,List.any_eq_true,aT6]
 unfold fQ
 refine⟨fun ⟨p,hp,e⟩=>?_,fun h=>⟨_,aU0.mpr ⟨x,h,rfl⟩,aR3 rfl⟩⟩
 obtain ⟨y,hy,rfl⟩:=aU0.mp hp
 rw [<- P3 (bg1 e:cQ y=cQ x)]; exact hy
theorem P6 {K:List (Int × Int)}{x:Int × Int} (h:x ∉ K):dP (fQ K) (cQ x) (.bl true)=fQ (K ++ [x]):=by
 have:((fQ K).any fun kv=>decide (kv.1=cQ x))=false:=by
  rw [mD,P5,aR2 h]
 unfold dP
 rw [this]
 unfold fQ
 rw [aT9]; rfl
def k7 (ps:List (List aJ × PV)) (f:Int × Int->Nat):Prop:=∀ x,(bS ps (cQ x)).getD (.int 0) = .int (f x)
theorem k7.nil:k7 [] fun _=>0:=fun _=>rfl
theorem k7.put {ps:List (List aJ × PV)}{f:Int × Int->Nat} (h:k7 ps f) (s:Int × Int) (v:PV) (hv:v = .int ((f s+1:Nat):Int)):k7 (dP ps (cQ s) v) (fun x=>if x=s then f x+1 else f x):=fun x=>by
 rw [J4]
 dsimp only
 by_cases e:x=s
 ·subst e; rw [if_pos rfl,if_pos rfl,hv]; rfl
 ·rw [if_neg (fun z=>e (P3 z)),if_neg e]; exact h x
inductive hJ (r c:Int) (S:List (Int × Int)):Int × Int->Prop
 | seed {x:Int × Int}:x ∈ S->hJ r c S x
 | kin {x a b:Int × Int}:bG r c x=true->a ∈ bF r c x->b ∈ bF r c x->a ≠ b->hJ r c S a->hJ r c S b->hJ r c S x
theorem rD {r c:Int}{x y:Int × Int} (hx:bG r c x=true) (h:y ∈ bF r c x):x ∈ bF r c y:=by
 unfold bF at h ⊢
 obtain ⟨h1,_⟩:=aV3.mp h
 refine aV3.mpr ⟨?_,hx⟩
 unfold gC at h1 ⊢
 simp only [aR7,aS8,aV7,Prod.ext_iff] at h1 ⊢
 omega
theorem P7 {r c:Int}{x y:Int × Int} (h:y ∈ bF r c x):bG r c y=true:=(aV3.mp h).2
theorem P8 (r c:Int) (x:Int × Int):(bF r c x).Nodup:=by
 unfold bF
 refine List.Pairwise.filter _ (?_:(gC x).Nodup)
 unfold gC
 simp only [bc0,aR7,aS8,aV7,Prod.ext_iff,not_false_eq_true,List.nodup_nil,and_true]
 omega
def cR (r c:Int) (P:List (Int × Int)) (x:Int × Int):Nat:=(P.filter fun p=>decide (x ∈ bF r c p)).length
theorem P9 (r c:Int) (P:List (Int × Int)) (p x:Int × Int):cR r c (P ++ [p]) x=cR r c P x+(if x ∈ bF r c p then 1 else 0):=by
 unfold cR
 rw [List.filter_append,aU4]
 by_cases h:x ∈ bF r c p <;> simp [h]
theorem aD4 {r c:Int}{P:List (Int × Int)}{x a b:Int × Int} (ha:a ∈ P) (hb:b ∈ P) (ne:a ≠ b) (xa:x ∈ bF r c a) (xb:x ∈ bF r c b):2<=cR r c P x:=by
 unfold cR
 have ma:a ∈ P.filter fun p=>decide (x ∈ bF r c p):=aV3.mpr ⟨ha,aR3 xa⟩
 have mb:b ∈ P.filter fun p=>decide (x ∈ bF r c p):=aV3.mpr ⟨hb,aR3 xb⟩
 generalize P.filter (fun p=>decide (x ∈ bF r c p))=l at ma mb
 match l with
 | []=>cases ma
 | [y]=>rw [aR9.mp ma,aR9.mp mb] at ne; exact absurd rfl ne
 | _ :: _ :: _=>simp
theorem aD5 {r c:Int}{P:List (Int × Int)}{x:Int × Int} (h:1<=cR r c P x):∃ q ∈ P,x ∈ bF r c q:=by
 unfold cR at h
 cases hl:P.filter fun p=>decide (x ∈ bF r c p) with
 | nil=>rw [hl] at h; cases h
 | cons q t=>
  have:q ∈ P.filter fun p=>decide (x ∈ bF r c p):=by rw [hl]; exact aS6
  exact⟨q,(aV3.mp this).1,bg1 (aV3.mp this).2⟩
structure Wk (r c:Int) (S K P:List (Int × Int)):Prop where
 nd:K.Nodup
 ndP:P.Nodup
 sub:∀ x ∈ P,x ∈ K
 brn:∀ x ∈ K,hJ r c S x
 sd:∀ x ∈ S,x ∈ K
 bd:∀ x ∈ K,bG r c x=true
 low:∀ x,x ∉ K->cR r c P x < 2
def dI (r c:Int) (K P:List (Int × Int)) (s:Int × Int):Bool:=!decide (s ∈ K) && decide (cR r c P s=1)
theorem Wk.step {r c:Int}{S K P:List (Int × Int)}{p:Int × Int} (w:Wk r c S K P) (hp:p ∈ K) (np:p ∉ P):Wk r c S (K ++ (bF r c p).filter (dI r c K P)) (P ++ [p]):=by
 have new:∀ s ∈ (bF r c p).filter (dI r c K P),s ∈ bF r c p/\s ∉ K/\cR r c P s=1:=fun s hs=>by
  obtain ⟨h1,h2⟩:=aV3.mp hs
  unfold dI at h2
  rw [aY6,Bool.not_eq_true',ba5,aT6] at h2
  exact⟨h1,h2.1,h2.2⟩
 refine⟨bb8.mpr ⟨w.nd,List.Pairwise.filter _ (P8 r c p),fun a ha b hb e=>(new b hb).2.1 (e ▸ ha)⟩,bb8.mpr ⟨w.ndP,aW0 _ _,fun a ha b hb e=>np (by rw [<- aR9.mp hb,<- e]; exact ha)⟩,fun x hx=>?_,fun x hx=>?_,fun x hx=>aU6 _ (w.sd x hx),fun x hx=>?_,fun x hx=>?_⟩
 ·rcases aV0.mp hx with h | h
  ·exact aU6 _ (w.sub x h)
  ·rw [aR9.mp h]; exact aU6 _ hp
 ·rcases aV0.mp hx with h | h
  ·exact w.brn x h
  ·obtain ⟨h1,h2,h3⟩:=new x h
   obtain ⟨q,hq,xq⟩:=aD5 (r:=r) (c:=c) (P:=P) (x:=x) (by omega)
   have qK:=w.sub q hq
   exact .kin (P7 h1) (rD (w.bd p hp) h1) (rD (w.bd q qK) xq) (fun e=>np (e ▸ hq)) (w.brn p hp) (w.brn q qK)
 ·rcases aV0.mp hx with h | h
  ·exact w.bd x h
  ·exact P7 (new x h).1
 ·have nK:x ∉ K:=fun h=>hx (aU6 _ h)
  have lo:=w.low x nK
  rw [P9]
  by_cases h:x ∈ bF r c p
  ·rw [if_pos h]
   have:cR r c P x ≠ 1:=fun e=>hx (aU2 _ (aV3.mpr ⟨h,by unfold dI; rw [aR2 nK,aR3 e]; rfl⟩))
   omega
  ·rw [if_neg h]; omega
theorem Wk.all {r c:Int}{S K P:List (Int × Int)} (w:Wk r c S K P) (h:∀ x ∈ K,x ∈ P) (x:Int × Int):x ∈ K ↔ hJ r c S x:=by
 refine⟨w.brn x,fun b=>?_⟩
 induction b with
 | seed hs=>exact w.sd _ hs
 | @kin x a b bx sa sb ne _ _ ia ib=>
  refine Classical.byContradiction fun nx=>?_
  have:=aD4 (h a ia) (h b ib) ne (rD bx sa) (rD bx sb)
  have:=w.low x nx
  omega
theorem Wk.init {r c:Int}{S:List (Int × Int)} (nd:S.Nodup) (bd:∀ x ∈ S,bG r c x=true):Wk r c S S []:=⟨nd,.nil,(fun _ h=>nomatch h),fun x h=>.seed h,fun x h=>h,bd,fun x _=>(by decide:(0:Nat) < 2)⟩
theorem vM {r c:Int} (ok:bL r c) {K:List (Int × Int)} (nd:K.Nodup) (bd:∀ x ∈ K,bG r c x=true):K.length<=1600:=by
 have:=o7 1600 (K.map fun l=>(l.1 * 40+l.2).toNat) (by
  refine ba4.mpr (nd.imp_of_mem fun {a b} ha hb hab e=>hab ?_)
  have i1:=eO.mp (bd a ha)
  have i2:=eO.mp (bd b hb)
  have:=ok.2.2.2
  exact bb5 (by omega) (by omega)) fun x hx=>by
   obtain ⟨l,hl,rfl⟩:=aU0.mp hx
   have i1:=eO.mp (bd l hl)
   have:=ok.2.1
   have:=ok.2.2.2
   omega
 rwa [aS1] at this
theorem o9 {α:Type}{l:List α}{i:Nat}{x:α} (nd:l.Nodup) (h:l[i]? = some x):x ∉ l.take i:=fun z=>by
 have:(l.take (i+1)).Nodup:=nd.sublist (List.take_sublist _ _)
 rw [aX8,h] at this
 exact (bb8.mp this).2.2 x z x (by simp) rfl
def hU (r c:Int) (P:List (Int × Int)) (ss:List (Int × Int)) (x:Int × Int):Nat:=cR r c P x+(if x ∈ ss then 1 else 0)
theorem aD6 {r c:Int}{P ss:List (Int × Int)}{j:Nat}{s:Int × Int} (nd:ss.Nodup) (h:ss[j]? = some s):(fun x=>if x=s then hU r c P (ss.take j) x+1 else hU r c P (ss.take j) x)=hU r c P (ss.take (j+1)):=by
 funext x
 unfold hU
 have tk:ss.take (j+1)=ss.take j ++ [s]:=by rw [aX8,h]; rfl
 rw [tk]
 by_cases e:x=s
 ·subst e
  rw [if_pos rfl,if_neg (o9 nd h),if_pos (by simp)]
 ·rw [if_neg e]
  by_cases m:x ∈ ss.take j
  ·rw [if_pos m,if_pos (aU6 _ m)]
  ·rw [if_neg m,if_neg (fun z=>by rcases aV0.mp z with z | z; exact m z; exact e (aR9.mp z))]
def rE:bZ:=fun xs Q=>∃ (r c:Int) (l:Int × Int),xs = [.int r,.int c,.tup [.int l.1,.int l.2]]/\Q (.lst (aG (bF r c l)))
def Q0:aV:=(aI (l7 (gW 3 4) (a7 2))
 (aI (bC 5 (i9 (a8 (cW (a8 (eL (a7 3) (qC (.int 1))) (a8 (a7 4) aD))) (a8 (cW (a8 (a7 3) (a8 (eL (a7 4) (qC (.int 1))) aD))) (a8 (cW (a8 (a7 3) (a8 (cK (a7 4) (qC (.int 1))) aD))) (a8 (cW (a8 (cK (a7 3) (qC (.int 1))) (a8 (a7 4) aD))) aD))))))
 (bQ (gX (eJ (a7 5)) [none,some 0,some 1] (cY 0) (iP (aZ (jA (fun i j=>decide (i<=j)) (fun i j=>decide (i < j)) (qC (.int 0)) (bD (a7 0) (qC (.int 0))) (a7 1))) (aZ (jA (fun i j=>decide (i<=j)) (fun i j=>decide (i < j)) (qC (.int 0)) (bD (a7 0) (qC (.int 1))) (a7 2)))) (a7 0)))))
theorem aD7:dS Q0 ["rows","columns","cell","row","column","around"] rE:=by
 rintro xs Q ⟨r,c,l,rfl,q⟩
 refine⟨_,rfl,trivial,_,_,rfl,?_⟩
 refine⟨_,rfl,_,_,rfl,rfl,_,rfl,by show 2<=1000; decide,rfl,_,rfl,_,rfl,_,_,rfl,rfl,by show 2<=1000; decide,rfl,_,rfl,_,rfl,_,_,rfl,rfl,by show 2<=1000; decide,rfl,_,rfl,_,_,rfl,rfl,_,rfl,by show 2<=1000; decide,rfl,by show 4<=1000; decide,rfl,trivial,?_⟩
 refine⟨_,rfl,aG (gC l),rfl,(fun z=>by cases z),by show 4<=16000000; decide,fun i acc=>acc=aG (((gC l).take i).filter (bG r c)),rfl,?_,?_⟩
 ·rintro i z acc hz rfl
  obtain ⟨w,rfl,hw⟩:=jZ hz
  have tk:=o0 (p:=bG r c) hw
  have no:bG r c w=false->aG (((gC l).take i).filter (bG r c))=aG (((gC l).take (i+1)).filter (bG r c)):=fun e=>by
   rw [e,if_neg (by decide),aW2] at tk
   rw [tk]
  refine⟨_,rfl,_,_,_,rfl,rfl,rfl,0,w.1,rfl,rfl,?_⟩
  show if decide ((0:Int)<=w.1)=true then _ else _
  by_cases a1:(0:Int)<=w.1
  ·rw [aR3 a1]
   refine aX ⟨_,rfl,r,rfl,_,rfl,?_⟩
   show if decide (w.1 < r)=true then _ else _
   by_cases a2:w.1 < r
   ·rw [aR3 a2]
    refine aX ⟨_,rfl,_,_,_,rfl,rfl,rfl,0,w.2,rfl,rfl,?_⟩
    show if decide ((0:Int)<=w.2)=true then _ else _
    by_cases a3:(0:Int)<=w.2
    ·rw [aR3 a3]
     refine aX ⟨_,rfl,c,rfl,_,rfl,?_⟩
     show if decide (w.2 < c)=true then _ else _
     by_cases a4:w.2 < c
     ·rw [aR3 a4]
      have b:bG r c w=true:=eO.mpr ⟨a1,a2,a3,a4⟩
      rw [b,if_pos rfl] at tk
      refine aX ⟨_,rfl,trivial,?_⟩
      dsimp only
      rw [tk]
      unfold aG
      rw [aT9]; rfl
     ·rw [aR2 a4]
      exact aL (no (by unfold bG; rw [aR2 a4,aU8,aU8,aU8]))
    ·rw [aR2 a3]
     exact aL ⟨_,rfl,aL (no (by unfold bG; rw [aR2 a3,aW5,aU8,aU8]))⟩
   ·rw [aR2 a2]
    exact aL (aL (no (by unfold bG; rw [aR2 a2,aW5,aU8])))
  ·rw [aR2 a1]
   exact aL ⟨_,rfl,aL (aL (no (by unfold bG; rw [aR2 a1,aW5])))⟩
 ·rintro acc rfl
  rw [show (aG (gC l)).length=4 from rfl,show (gC l).take 4=gC l from rfl]
  exact⟨trivial,q⟩
def rF:bZ:=fun xs Q=>∃ c:Int,xs = [.int c]/\∀ a b:Int,bL a b->Q (.tup [.int a,.int b])
def Q2:aV:=(aI (bC 1 (cK (qC (.int 1)) (c6 (a7 0) (qC (.int 9)))))
 (aI (bC 2 (cK (qC (.int 1)) (c6 (dN (a7 0) (qC (.int 9))) (qC (.int 9)))))
 (aI (bY (aZ (jR (c6 (dN (a7 0) (qC (.int 81))) (qC (.int 8))) (qC (.int 1)))) (aI (bC 1 (cK (qC (.int 1)) (c6 (dN (a7 0) (qC (.int 648))) (qC (.int 40)))))
  (bC 2 (cK (qC (.int 1)) (c6 (dN (a7 0) (qC (.int 25920))) (qC (.int 40)))))) cB)
 (bQ (cW (a8 (a7 1) (a8 (a7 2) aD)))))))
theorem aD8:dS Q2 ["cell","rows","columns"] rF:=by
 rintro xs Q ⟨c,rfl,q⟩
 refine⟨_,rfl,_,_,rfl,rfl,(by show (0:Int) < 9; decide),_,_,rfl,rfl,trivial,?_⟩
 refine⟨_,rfl,_,_,rfl,rfl,⟨by decide,by decide⟩,_,_,rfl,rfl,(by show (0:Int) < 9; decide),_,_,rfl,rfl,trivial,?_⟩
 refine⟨_,rfl,_,_,rfl,rfl,⟨by decide,by decide⟩,_,_,rfl,rfl,(by show (0:Int) < 8; decide),.inl ⟨_,_,rfl,rfl,_,rfl,?_⟩⟩
 show if decide (c / 81 % 8=1)=true then _ else _
 cases decide (c / 81 % 8=1) with
 | false=>exact aL ⟨_,rfl,_,rfl,by show 2<=1000; decide,rfl,trivial,q _ _ ⟨by omega,by omega,by omega,by omega⟩⟩
 | true=>
  refine aX ⟨_,rfl,_,_,rfl,rfl,⟨by decide,by decide⟩,_,_,rfl,rfl,(by show (0:Int) < 40; decide),_,_,rfl,rfl,trivial,?_⟩
  refine⟨_,rfl,_,_,rfl,rfl,⟨by decide,by decide⟩,_,_,rfl,rfl,(by show (0:Int) < 40; decide),_,_,rfl,rfl,trivial,?_⟩
  exact⟨_,rfl,_,rfl,by show 2<=1000; decide,rfl,trivial,q _ _ ⟨by omega,by omega,by omega,by omega⟩⟩
def jB:bZ:=fun xs Q=>∃ (ns:List Int) (k:Int),xs = [.scr ns,.int k]/\ns.length<=63/\0<=k/\k<=1000/\∀ z:Int,Q (.int z)
def Q3:aV:=(aI (bY (aZ (gM (a7 1) (aM gU (a8 (a7 0) aD)))) (bQ (bD (a7 0) (a7 1))) cB)
 (aI (bC 2 (c6 (jQ (cK (cK (c6 (aM jY (a8 (a7 0) (a8 (c6 (a7 1) (aM lP (a8 (qC (.int 1)) (a8 (aM gU (a8 (a7 0) aD)) aD)))) aD))) (qC (.int 1000000007))) (jQ (qC (.int 977)) (a7 1))) (qC (.int 1))) (qC (.int 48271))) (qC (.int 2147483647))))
 (bQ (dN (c6 (jQ (a7 2) (a7 2)) (qC (.int 2147483647))) (qC (.int 8))))))
theorem aD9:dS Q3 ["script","k","stir"] jB:=by
 rintro xs Q ⟨ns,k,rfl,hl,k0,k1,q⟩
 refine⟨_,rfl,_,rfl,_,_,rfl,rfl,_,_,rfl,rfl,_,rfl,?_⟩
 show if decide (k < (ns.length:Int))=true then _ else _
 by_cases h:k < (ns.length:Int)
 ·rw [aR3 h]
  have hk:L2.atI (intz ns) k=some (.int (ns.getD k.toNat 0)):=J5 k0 h
  exact aX ⟨_,rfl,_,rfl,_,_,_,rfl,rfl,hk,trivial,q _⟩
 ·rw [aR2 h]
  refine aL ?_
  have mx:(0:Int) < (if (ns.length:Int) > 1 then (ns.length:Int) else 1):=by split <;> omega
  refine⟨_,rfl,_,rfl,_,rfl,_,_,rfl,rfl,_,_,rfl,_,_,rfl,rfl,mx,_,ns,_,rfl,.inl rfl,Int.emod_nonneg _ (Int.ne_of_gt mx),?_⟩
  refine⟨_,_,rfl,rfl,(by show (0:Int) < 1000000007; decide),_,rfl,_,_,rfl,rfl,.inl ⟨by decide,by decide⟩,_,_,rfl,rfl,_,_,rfl,rfl,_,_,rfl,rfl,.inr ⟨by decide,by decide⟩,_,_,rfl,rfl,(by show (0:Int) < 2147483647; decide),trivial,?_⟩
  dsimp only
  generalize hv:(ns.getD (k % (if (ns.length:Int) > 1 then (ns.length:Int) else 1)).toNat 0 % 1000000007+977 * k+1) * 48271 % 2147483647=v
  have v0:0<=v:=by rw [<- hv]; exact Int.emod_nonneg _ (by decide)
  have v1:v < 2147483647:=by rw [<- hv]; exact Int.emod_lt_of_pos _ (by decide)
  exact⟨_,rfl,_,rfl,_,_,rfl,rfl,.inl ⟨by omega,by omega⟩,_,_,rfl,rfl,(by show (0:Int) < 2147483647; decide),_,_,rfl,rfl,⟨by decide,by decide⟩,trivial,q _⟩
def rG:bZ:=fun xs Q=>∃ (ns:List Int) (a r c:Int),xs = [.scr ns,.int a,.int r,.int c]/\ns.length<=63/\0<=a/\a<=10/\bL r c/\∀ ls,cG r c ls->ls.length<=200->Q (.tup (aG ls))
def vN:aV:=(aI (gL 5 (i9 aD))
 (aI (bC 8 (qC (.int 0)))
 (aI (bC 9 (qC (.int 0)))
 (aI (eC (nI (a7 7)) (cY 10)
  (aI (bC 4 (aM jB (a8 (a7 0) (a8 (cK (a7 1) (a7 10)) aD))))
  (aI (bY (aZ (jR (c6 (a7 4) (qC (.int 4))) (qC (.int 0)))) (aI (bC 8 (c6 (dN (a7 4) (qC (.int 4))) (a7 2)))
   (bC 9 (c6 (dN (a7 4) (qC (.int 169))) (a7 3)))) (aI (bC 8 (c6 (eL (cK (a7 8) (c6 (dN (a7 4) (qC (.int 4))) (qC (.int 5)))) (qC (.int 2))) (a7 2)))
   (bC 9 (c6 (eL (cK (a7 9) (c6 (dN (a7 4) (qC (.int 23))) (qC (.int 5)))) (qC (.int 2))) (a7 3)))))
  (bY (iP (aZ (q2 qW (cW (a8 (a7 8) (a8 (a7 9) aD))) (a7 5))) (aZ (kT (c6 (dN (a7 4) (qC (.int 127))) (qC (.int 3))) (qC (.int 0))))) (iT 5 (cW (a8 (a7 8) (a8 (a7 9) aD)))) cB))))
 (bQ (aM nM (a8 (aM qT (a8 (a7 5) aD)) aD)))))))
def Q4:aV:=(aI (bC 4 (aM jY (a8 (a7 0) (a8 (a7 1) aD))))
 (aI (bY (iP (aZ (jR (c6 (a7 4) (qC (.int 2))) (qC (.int 1)))) (aZ (gM (jQ (a7 2) (a7 3)) (qC (.int 101))))) (aI (gL 5 (i9 aD))
  (aI (eC (nI (jQ (a7 2) (a7 3))) (cY 6)
   (aI (bC 4 (dN (a7 4) (qC (.int 2))))
   (bY (aZ (jR (c6 (a7 4) (qC (.int 2))) (qC (.int 1)))) (iT 5 (cW (a8 (dN (a7 6) (a7 3)) (a8 (c6 (a7 6) (a7 3)) aD)))) cB)))
  (bQ (aM nM (a8 (a7 5) aD))))) cB)
 (aI (bC 7 (eL (aM gU (a8 (a7 0) aD)) (a7 1)))
 (aI (bY (aZ (gM (a7 7) (qC (.int 1)))) (bC 7 (qC (.int 1))) cB)
 vN))))
theorem aE0 {c:Int}{a b:Int × Int} (h:a.1 * c+a.2 < b.1 * c+b.2) (a0:0<=a.2) (b1:b.2 < c) (c1:1<=c):eY a b:=by
 unfold eY
 rcases Int.lt_trichotomy a.1 b.1 with z | z | z
 ·exact .inl z
 ·rw [z] at h; exact .inr ⟨z,by omega⟩
 ·have:=bb1 (show b.1+1<=a.1 by omega) (show 0<=c by omega)
  rw [Int.add_mul,Int.one_mul] at this
  omega
theorem aE1 {x:Int × Int}{ls:List (Int × Int)}:decide (two x ∈ ls.map two)=decide (x ∈ ls):=by
 rw [aX4,aT6,aT6]
 refine⟨fun h=>?_,fun h=>aU0.mpr ⟨x,h,rfl⟩⟩
 obtain ⟨y,hy,e⟩:=aU0.mp h
 unfold two at e
 injection e with e1 e2
 injection e2 with e2
 rw [<- bb5 e1 e2]; exact hy
section
variable {ns : List Int} {a r c m : Int} {y4 y5 y6 : Option Slot} {Q : PV → Prop}
theorem Q5 (hl:ns.length<=63) (a0:0<=a) (a1:a<=10) (ok:bL r c) (m1:1<=m) (m2:m<=63) (q:∀ ls,cG r c ls->ls.length<=200->Q (.tup (aG ls))) :
  vN { nx:=fun _=>Q .non,rt:=Q } [some (.sh true (.scr ns)),si a,si r,si c,y4,y5,y6,si m,none,none,none]:=by
 obtain ⟨r1,r2,c1,c2⟩:=id ok
 refine⟨by decide,rfl,rfl,rfl,trivial,trivial,?_⟩
 refine⟨_,rfl,m,rfl,by omega,by omega,fun i ρ=>∃ (y4 y10:Option Slot) (x y:Int) (ls:List (Int × Int)),ρ = [some (.sh true (.scr ns)),si a,si r,si c,y4,some (.own (.lst (aG ls))),y6,si m,si x,si y,y10]/\ls.Nodup/\(∀ l ∈ ls,bG r c l=true)/\ls.length<=i,
  ⟨y4,none,0,0,[],rfl,.nil,(fun _ h=>nomatch h),aS4 _⟩,?_,?_⟩
 ·rintro i y ρ hy ⟨y4,y10,x,y,ls,rfl,nd,bd,len⟩
  obtain ⟨rfl,hi⟩:=uY hy
  rw [show (0:Int)+(i:Int)=(i:Int) by omega]
  refine⟨_,rfl,_,rfl,_,rfl,_,_,rfl,rfl,ns,a+(i:Int),rfl,hl,by omega,by omega,fun z=>⟨trivial,?_⟩⟩
  have tail:∀ x y:Int,0<=x->x < r->0<=y->y < c->(bY (iP (aZ (q2 qW (cW (a8 (a7 8) (a8 (a7 9) aD))) (a7 5))) (aZ (kT (c6 (dN (a7 4) (qC (.int 127))) (qC (.int 3))) (qC (.int 0))))) (iT 5 (cW (a8 (a7 8) (a8 (a7 9) aD)))) cB) { nx:=fun ρ=>∃ (y4 y10:Option Slot) (x y:Int) (ls:List (Int × Int)),ρ = [some (.sh true (.scr ns)),si a,si r,si c,y4,some (.own (.lst (aG ls))),y6,si m,si x,si y,y10]/\ls.Nodup/\(∀ l ∈ ls,bG r c l=true)/\ls.length<=i+1,rt:=Q } [some (.sh true (.scr ns)),si a,si r,si c,si z,some (.own (.lst (aG ls))),y6,si m,si x,si y,si (i:Nat)]:=by
   intro x y x0 x1 y0 y1
   refine⟨_,rfl,_,rfl,by show 2<=1000; decide,rfl,_,rfl,[x,y],ls.map two,rfl,by rw [o6]; rfl,_,rfl,?_⟩
   rw [show decide ([x,y] ∈ ls.map two)=decide ((x,y) ∈ ls) from aE1 (x:=(x,y))]
   by_cases h1:(x,y) ∈ ls
   ·rw [aR3 h1]
    exact aL (aL ⟨si z,si (i:Nat),x,y,ls,rfl,nd,bd,by omega⟩)
   ·rw [aR2 h1]
    refine aX ⟨_,rfl,_,_,rfl,rfl,⟨by decide,by decide⟩,_,_,rfl,rfl,(by show (0:Int) < 3; decide),_,_,rfl,rfl,_,rfl,?_⟩
    show if decide (z / 127 % 3 > 0)=true then _ else _
    cases decide (z / 127 % 3 > 0) with
    | false=>exact aL ⟨si z,si (i:Nat),x,y,ls,rfl,nd,bd,by omega⟩
    | true=>
     refine aX ⟨_,rfl,_,rfl,_,rfl,by show 2<=1000; decide,rfl,trivial,by rw [dY]; omega,si z,si (i:Nat),x,y,ls ++ [(x,y)],?_,bb8.mpr ⟨nd,aW0 _ _,fun u hu v hv e=>h1 (by rw [aR9.mp hv] at e; rw [<- e]; exact hu)⟩,fun l hl=>?_,by rw [aU4,ba1]; omega⟩
     ·unfold aG
      rw [aT9]; rfl
     ·rcases aV0.mp hl with h | h
      ·exact bd l h
      ·rw [aR9.mp h]; exact eO.mpr ⟨x0,x1,y0,y1⟩
  refine⟨_,rfl,_,_,rfl,rfl,(by show (0:Int) < 4; decide),.inl ⟨_,_,rfl,rfl,_,rfl,?_⟩⟩
  show if decide (z % 4=0)=true then _ else _
  have em:=fun u:Int=>Int.emod_nonneg u (show r ≠ 0 by omega)
  have el:=fun u:Int=>Int.emod_lt_of_pos u (show 0 < r by omega)
  have fm:=fun u:Int=>Int.emod_nonneg u (show c ≠ 0 by omega)
  have fl:=fun u:Int=>Int.emod_lt_of_pos u (show 0 < c by omega)
  cases decide (z % 4=0) with
  | true=>
   refine aX ⟨_,rfl,_,_,rfl,rfl,⟨by decide,by decide⟩,_,rfl,_,_,rfl,rfl,by omega,trivial,_,rfl,_,_,rfl,rfl,⟨by decide,by decide⟩,_,rfl,_,_,rfl,rfl,by omega,trivial,?_⟩
   exact tail _ _ (em _) (el _) (fm _) (fl _)
  | false=>
   refine aL ⟨_,rfl,_,rfl,_,_,rfl,rfl,⟨by decide,by decide⟩,_,_,rfl,rfl,(by show (0:Int) < 5; decide),_,_,rfl,rfl,_,_,rfl,rfl,_,rfl,_,_,rfl,rfl,by omega,trivial,_,rfl,_,rfl,_,_,rfl,rfl,⟨by decide,by decide⟩,_,_,rfl,rfl,(by show (0:Int) < 5; decide),_,_,rfl,rfl,_,_,rfl,rfl,_,rfl,_,_,rfl,rfl,by omega,trivial,?_⟩
   exact tail _ _ (em _) (el _) (fm _) (fl _)
 ·rintro ρ ⟨y4,y10,x,y,ls,rfl,nd,bd,len⟩
  rw [lR] at len
  refine⟨_,rfl,ls.map two,by rw [o6]; rfl,by rw [aS1]; omega,fun r hr=>by obtain ⟨l,_,rfl⟩:=aU0.mp hr; rfl,fun Z pz so=>?_⟩
  obtain ⟨l2,rfl,pp⟩:=K1 pz
  rw [show ((l2.map two).map fun r=>PV.tup (intz r))=aG l2 from (o6 _).symm]
  exact⟨⟨_,_,rfl,rfl,j5 _,trivial,q l2 ⟨K2 so (pp.nodup_iff.mpr nd),fun l hl=>bd l (pp.mem_iff.mp hl)⟩ (by rw [pp.length_eq]; omega)⟩,fun ns z=>by cases z⟩
end
theorem aE2:dS Q4 ["script","at","rows","columns","cell","seeds","place","many","row","column","k"] rG:=by
 rintro xs Q ⟨ns,a,r,c,rfl,hl,a0,a1,ok,q⟩
 obtain ⟨r1,r2,c1,c2⟩:=id ok
 refine⟨_,rfl,_,rfl,_,ns,a,rfl,.inl rfl,a0,trivial,?_⟩
 generalize ns.getD a.toNat 0=v
 have two:(aI (bC 7 (eL (aM gU (a8 (a7 0) aD)) (a7 1)))
  (aI (bY (aZ (gM (a7 7) (qC (.int 1)))) (bC 7 (qC (.int 1))) cB)
  vN)) { nx:=fun _=>Q .non,rt:=Q } [some (.sh true (.scr ns)),si a,si r,si c,si v,none,none,none,none,none,none]:=by
  refine⟨_,rfl,_,_,rfl,rfl,_,rfl,_,_,rfl,rfl,trivial,?_⟩
  refine⟨_,rfl,_,_,rfl,rfl,_,rfl,?_⟩
  show if decide ((ns.length:Int) - a < 1)=true then _ else _
  by_cases h:(ns.length:Int) - a < 1
  ·rw [aR3 h]
   exact aX ⟨trivial,Q5 hl a0 a1 ok (by decide) (by decide) q⟩
  ·rw [aR2 h]
   exact aL (Q5 (m:=(ns.length:Int) - a) hl a0 a1 ok (by omega) (by omega) q)
 have hp:0<=r * c:=Int.mul_nonneg (by omega) (by omega)
 refine⟨_,rfl,_,_,rfl,rfl,(by show (0:Int) < 2; decide),.inl ⟨_,_,rfl,rfl,_,rfl,?_⟩⟩
 show if decide (v % 2=1)=true then _ else _
 cases decide (v % 2=1) with
 | false=>exact aL (aL two)
 | true=>
  refine aX ⟨_,rfl,_,rfl,_,_,rfl,rfl,.inl ⟨by omega,by omega⟩,_,_,rfl,rfl,_,rfl,?_⟩
  show if decide (r * c < 101)=true then _ else _
  by_cases h:r * c < 101
  ·rw [aR3 h]
   refine aX ⟨by decide,rfl,rfl,rfl,?_⟩
   refine⟨_,rfl,_,rfl,_,_,rfl,rfl,.inl ⟨by omega,by omega⟩,r * c,rfl,by omega,by omega,fun i ρ=>∃ (v:Int) (y6:Option Slot) (ls:List (Int × Int)),ρ = [some (.sh true (.scr ns)),si a,si r,si c,si v,some (.own (.lst (aG ls))),y6,none,none,none,none]/\ls.Pairwise eY/\(∀ l ∈ ls,bG r c l=true/\l.1 * c+l.2 < (i:Int))/\ls.length<=i,
    ⟨v,none,[],rfl,.nil,(fun _ h=>nomatch h),aS4 _⟩,?_,?_⟩
   ·rintro i y ρ hy ⟨v,y6,ls,rfl,ord,bd,len⟩
    obtain ⟨rfl,hi⟩:=uY hy
    rw [show (0:Int)+(i:Int)=(i:Int) by omega]
    have im:(i:Int) < r * c:=by omega
    have d1:=Int.mul_ediv_add_emod (i:Int) c
    have d2:=Int.emod_nonneg (i:Int) (show c ≠ 0 by omega)
    have d3:=Int.emod_lt_of_pos (i:Int) (show 0 < c by omega)
    have d4:(i:Int) / c < r:=Int.ediv_lt_of_lt_mul (by omega) im
    have d5:0<=(i:Int) / c:=Int.ediv_nonneg (by omega) (by omega)
    rw [Int.mul_comm] at d1
    refine⟨_,rfl,_,_,rfl,rfl,⟨by decide,by decide⟩,trivial,?_⟩
    refine⟨_,rfl,_,_,rfl,rfl,(by show (0:Int) < 2; decide),.inl ⟨_,_,rfl,rfl,_,rfl,?_⟩⟩
    show if decide (v / 2 % 2=1)=true then _ else _
    cases decide (v / 2 % 2=1) with
    | false=>exact aL ⟨v / 2,si (i:Nat),ls,rfl,ord,fun l hl=>⟨(bd l hl).1,by have:=(bd l hl).2; omega⟩,by omega⟩
    | true=>
     refine aX ⟨_,rfl,_,rfl,_,rfl,_,_,rfl,rfl,⟨by omega,by omega⟩,_,rfl,_,rfl,_,_,rfl,rfl,by omega,by show 2<=1000; decide,rfl,trivial,by rw [dY]; omega,v / 2,si (i:Nat),ls ++ [((i:Int) / c,(i:Int) % c)],?_,aU7.mpr ⟨ord,aW0 _ _,fun u hu w hw=>?_⟩,fun l hl=>?_,by rw [aU4,ba1]; omega⟩
     ·unfold aG
      rw [aT9]; rfl
     ·rw [aR9.mp hw]
      have bu:=bd u hu
      have iu:=eO.mp bu.1
      exact aE0 (by show u.1 * c+u.2 < (i:Int) / c * c+(i:Int) % c; omega) (by omega) d3 c1
     ·rcases aV0.mp hl with h | h
      ·exact⟨(bd l h).1,by have:=(bd l h).2; omega⟩
      ·rw [aR9.mp h]
       exact⟨eO.mpr ⟨d5,d4,d2,d3⟩,by show (i:Int) / c * c+(i:Int) % c < _; omega⟩
   ·rintro ρ ⟨v,y6,ls,rfl,ord,bd,len⟩
    rw [lR] at len
    exact⟨_,rfl,⟨_,_,rfl,rfl,j5 _,trivial,q ls ⟨ord,fun l hl=>(bd l hl).1⟩ (by omega)⟩,fun ns z=>by cases z⟩
  ·rw [aR2 h]
   exact aL two
end Core
namespace L2
open PySem PySem.Spec PyProof.Rows SO
abbrev kn (ns:List Int):List aJ:=ns.map Sum.inl
def jC (h:Heap) (ys:List (List Int)) (v:Value):Prop:=∃ ns ∈ ys,ns ≠ []/\hG h v ns
theorem hG.keep {h h':Heap}{v:Value}{ns:List Int} (z:hG h v ns) (k:∀ b o,h.get? b=some o->h'.get? b=some o):hG h' v ns:=by
 obtain ⟨b,ob,us,n,e1,e2,e3,e4,e5⟩:=z.at_
 exact⟨⟨b,ob,us,n,e1,k _ _ e2,e3,e4,e5⟩⟩
theorem jC.keep {h h':Heap}{ys:List (List Int)}{v:Value} (z:jC h ys v) (k:∀ b o,h.get? b=some o->h'.get? b=some o):jC h' ys v:=by
 obtain ⟨ns,m,ne,z⟩:=z
 exact⟨ns,m,ne,z.keep k⟩
theorem aE3 {prog:Program}{w:World}{A:Around}{E:Value->Shared->Prop}{s:Shared} (ys:List (List Int)):SO.cE prog w A E s (tuples' true) (fun x=>jC s.heap ys x.1) (mG s.heap ys):=by
 rintro x y ⟨ns,m1,_,z⟩ ⟨ms,m2,_,z'⟩ st Q hk hq
 unfold mG at hq
 rw [z.ints,z'.ints,<- N2 m1 m2] at hq
 obtain ⟨b,ob,us,n,e1,e2,e3,e4,e5⟩:=z.at_
 obtain ⟨b',ob',us',n',e1',e2',e3',e4',e5'⟩:=z'.at_
 rw [lt'_eq]
 refine aS3 (wpS_get ?_)
 rw [hk,e1,e1']
 refine aS3 (wpS_lift (wpAny_attempt (PySem.W.kat_lt e2 e4 e2' e4' ?_)))
 have:=tH (prog:=prog) (w:=w) (A:=A) (s:=s) (Q:=fun a s'=>s'=s/\wpS (model prog w) A E s (pure (some a)) Q st) 0 e5 e5' ⟨rfl,aS9 hq⟩
 simpa using this
theorem aE4 {h:Heap}{ys:List (List Int)}:∀ {vs:List Value},(∀ v ∈ vs,jC h ys v)->∃ fs:List Value,PySem.W.KatTups h vs fs/\fs.length=vs.length/\∀ v ∈ fs,∃ i t,v=Value.int i t:=by
 intro vs
 induction vs with
 | nil=>intro _; exact⟨[],PySem.W.KatTups.nil,rfl,fun _ z=>nomatch z⟩
 | cons v vs ih=>
  intro hh
  obtain ⟨fs,t1,t2,t3⟩:=ih fun y hy=>hh y (aS2 _ hy)
  obtain ⟨ns,_,ne,z⟩:=hh v aS6
  obtain ⟨b,ob,us,n,rfl,e2,e3,e4,e5⟩:=z.at_
  cases e5 with
  | nil=>exact absurd rfl ne
  | cons p t e6=>exact⟨Value.int p t :: fs,PySem.W.KatTups.cons e2 e3 e4 (by simp) t1,by simp [t2],fun v hv=>(aR7.mp hv).elim (fun z=>⟨p,t,z⟩) (t3 v)⟩
theorem aE5 {M:Model}{A:Around}{E:Value->Shared->Prop}{s:Shared}{ys:List (List Int)}{vs:List Value}{Q:SortKind->Shared->Prop} (hh:∀ v ∈ vs,jC s.heap ys v) (h2:2<=vs.length) (hQ:Q (tuples' true) s):wpAny M A (keyKind' vs.toArray) Q E s:=by
 obtain ⟨fs,t1,t2,t3⟩:=aE4 hh
 refine PySem.W.kat_kind (T:=.type "int") t1 (by omega) (fun v hv=>?_) (by decide) ?_
 ·obtain ⟨i,t,rfl⟩:=t3 v hv
  exact PySem.W.Looks.now
 ·have eT:(Value.type "int" != Value.type "tuple")=true:=by decide
  rw [eT]; exact hQ
theorem aE6 {h:Heap}{ys:List (List Int)}{u v:Value}{p q:List Int} (z:hG h u p) (z':hG h v q) (hp:p ∈ ys) (hq:q ∈ ys) (le:mG h ys (u,u)<=mG h ys (v,v)):HT.aO q p=false:=by
 unfold mG at le
 rw [z.ints,z'.ints] at le
 rw [N2 hq hp]
 exact aR2 (by omega)
theorem aE7 {prog:Program}{w:World}{A:Around}{E:Value->Shared->Prop}{s:Shared}{T:String}{r d:Addr}{n:Nat}{P:Nat->Value->Prop}{OK:Heap->Prop}{Q:Value->Shared->Prop}{ys:List (List Int)} (K:PySem.W.KdlSrc prog w T r d n P OK) (hh:A.handled=none) (hok:OK s.heap) (hn:n<=sizeLine)
  (hI:∀ acc,ItemsOf P acc n->∀ v ∈ acc.toList,jC s.heap ys v)
  (h:∀ h' tk a (acc:Array Value) (out:List Value) e,(∀ b o,s.heap.get? b=some o->h'.get? b=some o)->s.heap.objs.size<=a->h'.get? a=some (seqObj "list" out.toArray e)->ItemsOf P acc n->out.Perm acc.toList->out.Pairwise (fun u v=>∀ p q,p ∈ ys->q ∈ ys->hG s.heap u p->hG s.heap v q->HT.aO q p=false)->Q (.ref a) { s with heap:=h',toks:=tk }) :
  wpAny (model prog w) A (call (.builtin "sorted") [.ref r]) Q E s:=by
 refine Calls.call_function_entry kind_sorted plain_sorted entry_sorted (args_sorted1 _) ?_
 unfold Builtin.«sorted»
 refine aQ9 (m:=checkCount "sorted" 1 1 _) (aR4 ?_)
 refine aQ9 (Raw.az6 (s:=s) K hh hok hn fun h' tk acc kp hs it=>?_)
 have hz:acc.toList.length<=sizeLine:=by rw [aW4,it.1]; exact hn
 refine aQ9 (wpAny_newList ?_ hz)
 have hoL:(h'.push (seqObj "list" acc.toList.toArray 0)).get? h'.objs.size=some (seqObj "list" acc.toList.toArray 0):=aS7 _ rfl
 show wpAny _ _ _ _ _ { s with heap:=h'.push (seqObj "list" acc.toList.toArray 0),toks:=tk }
 refine aQ9 (aZ7 (aX5 slot_list_sort ⟨_,hoL,rfl⟩ entry_list_sort ?_ (args_list_sort _)))
 have keepS:∀ out:List Value,∀ b o,s.heap.get? b=some o->(sortedHeap (h'.push (seqObj "list" acc.toList.toArray 0)) h'.objs.size acc.toList out.toArray).get? b=some o:=fun out b o hb=>by
  have lt:=aS5 (kp b o hb)
  rw [sortedHeap_old (aU5 lt) (by rw [size_push']; exact Nat.lt_succ_of_lt lt)]
  exact aR1 _ (kp b o hb)
 by_cases h2:acc.toList.length < 2
 ·refine yY (s:={ s with heap:=h'.push (seqObj "list" acc.toList.toArray 0),toks:=tk }) hoL h2 ⟨_,rfl,aR4 ⟨_,rfl,?_⟩⟩
  obtain ⟨e,he⟩:=sortedHeap_at (vs:=acc.toList) (out:=acc.toList.toArray) hoL
  refine h _ tk h'.objs.size acc acc.toList e (keepS acc.toList) hs he it (bc8 _) ?_
  match hl:acc.toList,h2 with
  | [],_=>exact be3
  | [_],_=>exact aW0 _ _
  | _ :: _ :: _,h2=>simp at h2; omega
 ·have kM:∀ b o,s.heap.get? b=some o->(dG (h'.push (seqObj "list" acc.toList.toArray 0)) h'.objs.size acc.toList).get? b=some o:=fun b o hb=>by
   have lt:=aS5 (kp b o hb)
   exact G1 (aU5 lt) (aR1 _ (kp b o hb))
  have allp:∀ v ∈ acc.toList,jC (dG (h'.push (seqObj "list" acc.toList.toArray 0)) h'.objs.size acc.toList) ys v:=fun v hv=>(hI acc it v hv).keep kM
  refine G2 (s:={ s with heap:=h'.push (seqObj "list" acc.toList.toArray 0),toks:=tk }) (κ:=tuples' true) (Ok:=fun x=>jC (dG (h'.push (seqObj "list" acc.toList.toArray 0)) h'.objs.size acc.toList) ys x.1) (rk:=mG (dG (h'.push (seqObj "list" acc.toList.toArray 0)) h'.objs.size acc.toList) ys) hoL (by omega) hz (fun Q hQ=>?_)
   (aE3 (s:={ s with heap:=dG (h'.push (seqObj "list" acc.toList.toArray 0)) h'.objs.size acc.toList,toks:=tk }) ys) (fun v hv=>allp v hv) fun out pm so=>⟨_,rfl,aR4 ⟨_,rfl,?_⟩⟩
  ·exact aE5 (s:={ s with heap:=dG (h'.push (seqObj "list" acc.toList.toArray 0)) h'.objs.size acc.toList,toks:=tk }) allp (by omega) hQ
  ·obtain ⟨e,he⟩:=sortedHeap_at (vs:=acc.toList) (out:=out.toArray) hoL
   exact h _ tk h'.objs.size acc out e (keepS out) hs he it pm (so.imp fun {u v} le p q hp hq z z'=>aE6 (z.keep kM) (z'.keep kM) hp hq le)
def Q6:List V->Hp->VK->Prop:=fun xs H Q=>∃ (a:Addr) (kvs:List (List aJ × V)) (ls:List (List Int)),xs = [.ref a]/\H a=some (.dT kvs)/\kvs.map (·.1)=ls.map kn/\(∀ k ∈ ls,k ≠ [])/\∀ (l:Addr) (zs:List V) (ms:List (List Int)),H l=none->ms.Perm ls->ms.Pairwise (fun u v=>HT.aO v u=false)->Paired (jM H) zs (ms.map kn)->Q (.ref l) (upd H l (.lst zs))
theorem Q7 {H:Hp}:∀ {ys:List V}{vs:List Value}{ls:List (List Int)},aR ys vs->Paired (jM H) ys (ls.map kn)->Paired (fun v l=>∃ y,aU y v/\jM H y (kn l)) vs ls
 | _,_,[],.nil,_=>.nil
 | _,_,[],.cons _ _,p=>nomatch p
 | _,_,l :: ls,.cons r t,.cons k p=>.cons ⟨_,r,k⟩ (Q7 t p)
theorem Q8 {H:Hp}:∀ {vs:List Value}{ls:List (List Int)},Paired (fun v l=>∃ y,aU y v/\jM H y (kn l)) vs ls->∃ ys:List V,aR ys vs/\Paired (jM H) ys (ls.map kn)
 | _,_,.nil=>⟨[],.nil,.nil⟩
 | _,_,.cons ⟨y,r,k⟩ p=>by
  obtain ⟨ys,t,q⟩:=Q8 p
  exact⟨y :: ys,.cons r t,.cons k q⟩
theorem Q9 (l:List Int):(kn l).map kV=l.map V.int:=by unfold kn; rw [aY4]; rfl
theorem aE8 {X:Cx} (hc:X.calm=true):dC X (.builtin "sorted") Q6:=by
 intro pins s σ H xs us Q I r h
 obtain ⟨a,kvs,ls,rfl,ha,hk,hne,q⟩:=h
 obtain ⟨u,rfl,ru⟩:=jH r
 cases ru
 obtain ⟨es,ep,ys,rd,far,pk,vk,z⟩:=al6 I ha
 rw [hk] at pk
 have hl:=vk.length
 have hl2:=pk.length
 have hl3:=congrArg List.length hk
 rw [aS1] at hl hl2 hl3
 rw [aS1] at hl3
 have hsz:es.toList.length=es.size:=aW4
 have pv:∀ {y:V}{v:Value}{l:List Int},aU y v->jM H y (kn l)->hG s.heap v l:=fun {y v l} ry ka=>by
  obtain ⟨b,rfl,hb⟩:=ka
  cases ry
  rw [Q9] at hb
  obtain ⟨us,ru,⟨ob,e1,c1,n1,d1⟩,_⟩:=I.tuple (show aS X.K H b (l.map V.int) from aS.of hb)
  exact⟨⟨b,ob,us,n1,rfl,e1,c1,d1,jK ru⟩⟩
 have jt:=Q7 vk pk
 refine aE7 (ys:=ls) (Raw.al5 far) (I.ok.hd hc) rd (by omega) (fun acc it v hv=>?_) fun h' tk l acc out e kp hn he it pm so=>?_
 ·rw [yZ it] at hv
  obtain ⟨m,hm,y,ry,ka⟩:=O7 jt v hv
  exact⟨m,hm,hne m hm,pv ry ka⟩
 ·rw [yZ it] at pm
  obtain ⟨ms,pms,jo⟩:=aD1 pm.symm jt
  obtain ⟨zs,vz,pz⟩:=Q8 jo
  have lz:=vz.length
  have lo:=pm.length_eq
  rw [aS1] at lo
  refine⟨.ref l,upd H l (.lst zs),I.laid (t':=tk) kp hn ⟨by omega,out,e,vz,he⟩,rfl,q l zs ms (I.hok.fresh hn) pms ?_ pz⟩
  exact O8 jo so fun u v a b ha hb ⟨y,ry,ka⟩ ⟨y',ry',kb⟩ le=>le _ _ (pms.mem_iff.mp ha) (pms.mem_iff.mp hb) (pv ry ka) (pv ry' kb)
end L2
namespace PP
open PySem L2
section
variable {X : Cx} {e : Expr} {tr : cV} {pos p2 : Pos}
abbrev jD (rs:List (List Int)):List PV:=rs.map fun r=>PV.tup (intz r)
def vO:List PV->(PV->Prop)->Prop:=fun xs Q=>∃ (ps:List (List aJ × PV)) (ls:List (List Int)),xs = [.dT ps]/\ps.map (·.1)=ls.map kn/\(∀ k ∈ ls,k ≠ [])/\∀ ms:List (List Int),ms.Perm ls->ms.Pairwise (fun u v=>HT.aO v u=false)->Q (.lst (jD ms))
theorem R0 {K:PySem.W.Frag}{M:Addr->Prop}{H:Hp}:∀ {zs:List V}{ms:List (List Int)},Paired (jM H) zs (ms.map kn)->Reps K M H zs (jD ms)
 | _,[],.nil=>.nil
 | _,l :: ms,.cons ⟨q,e,h⟩ p=>by
  subst e
  rw [Q9] at h
  exact .cons (.tup h (Reps.intz l)) (R0 p)
theorem aE9:fL X vO Q6:=by
 rintro H vs xs Q Q' r ⟨ps,ls,rfl,e,hne,q⟩ k
 obtain ⟨v,rfl,r1⟩:=r.one
 cases r1 with
 | @dT a kvs _ m h e2 r2=>
  exact⟨a,kvs,ls,rfl,h,e2.trans e,hne,fun l zs ms hl' p o pz=>k _ _ _ (cU hl' _) (.lst hl' cS ((R0 pz).same (cU hl' _) fun _ z=>z)) (q ms p o)⟩
theorem aF0 (B:Bt X.mg) (hc:X.calm=true) (ha:QA X [e] tr) (hg:Gl X "sorted":=by rfl) (he:starEach [e] X.env=(false,eval e X.env) :: starEach [] X.env:=by rfl) (hpl:(backTo pos (starEach [] X.env)).any (·.1)=false:=by rfl):QE X (.Call (.Name "sorted" p2) [e] [] pos) (aM vO tr):=
 iX (aE8 hc) aE9 hg B.sorted PyProof.Rows.boot_sorted ha (he:=he) (hpl:=hpl)
end
end PP
namespace HT
open PySem PyProof.Rows
section
open PySem.SeqAt
open PySem.MeetsSeq PySem.MeetsSeq2 PySem.MeetsSeq3
theorem aF1 (A:Around) (s:Shared) (a:Int) (t:Tok) (c:Int) (u:Tok) (prog:Program) (w:World) (E:Value->Shared->Prop) (Q:Value->Shared->Prop) (h:Q (.bool (decide (c < a))) s) :
  wpAny (model prog w) A (richCompare .Gt (.int a t) (.int c u)) Q E s:=
 (PyProof.Rows.gt_int h:wpAny (model prog w) A (compareOp .Gt (.int a t) (.int c u)) Q E s)
theorem aF2 (l b:Addr) (items items2:Array Value) (n n2:Nat) (dd dd2:Option Addr) (sl sl2:Array (Option Value)) (ns ms:List Int) (hi:IntsAre items.toList ns) (hj:IntsAre items2.toList ms) :
  Meets (Builtin.«tuple.__gt__» ⟨[.ref l,.ref b],[]⟩)
   (fun _ R s=>s.heap.get? l=some { cls:=.type "tuple",dict:=dd,data:=.seq items n,slots:=sl }/\s.heap.get? b=some { cls:=.type "tuple",dict:=dd2,data:=.seq items2 n2,slots:=sl2 }/\
    R (.ok (.ret (.bool (aO ms ns)))) s):=
 .of_wp fun prog w A R s h=>by
  obtain ⟨hp,g,d,tk,os⟩:=s; obtain ⟨hl,hb,h⟩:=h
  have f2:=AutoSeq1.sub_tuple_tuple
  have z1:items.size=ns.length:=by rw [<- hi.length]; simp
  have z2:items2.size=ms.length:=by rw [<- hj.length]; simp
  wp_walk using ba9 hl,ba9 hb,wpAny_forIn_list _ (fun cO b s'=>b.1=none/\s'=⟨hp,g,d,tk,os⟩/\∃ (vs ws:List Value) (ns' ms':List Int),cO=vs.zip ws/\
   IntsAre vs ns'/\IntsAre ws ms'/\ns'.length+items2.size=ms'.length+items.size/\R (.ok (.ret (.bool (aO ms' ns')))) ⟨hp,g,d,tk,os⟩) _
  case turn=>
   rintro ⟨y,x⟩ cO b s' ⟨hb',rfl,vs,ws,ns',ms',hz,hvi,hwi,hlen,hR⟩
   cases hvi with
   | nil=>rw [List.zip_nil_left] at hz; cases hz
   | cons a t hvi'=>
    cases hwi with
    | nil=>rw [List.zip_nil_right] at hz; cases hz
    | cons c u hwi'=>
     rw [aZ2] at hz
     injection hz with hyx hrest
     injection hyx with hy hx
     subst hy hx
     rw [gI] at hR
     simp only [aV5] at hlen
     obtain ⟨e,he,hiff⟩:=xM A.in1 ⟨hp,g,d,tk,os⟩ a t c u
     refine aQ9 (he prog w _ _ ?_)
     cases e with
     | true=>
      rw [if_pos (hiff.mp rfl).symm] at hR
      wp_walk
      exact⟨rfl,rfl,_,_,_,_,hrest,hvi',hwi',by omega,hR⟩
     | false=>
      rw [if_neg (fun q=>absurd (hiff.mpr (Eq.symm q)) aT5)] at hR
      have hri:=aF1 A.in1 ⟨hp,g,d,tk,os⟩ a t c u prog w
      wp_walk using hri
      exact⟨_,rfl,by simpa using hR⟩
  case fin=>
   rintro ⟨b1,b2⟩ s' ⟨hb',rfl,vs,ws,ns',ms',hz,hvi,hwi,hlen,hR⟩
   simp only at hb'
   subst hb'
   have hv:aO ms' ns'=decide (items.size > items2.size):=by
    cases hvi with
    | nil=>
     cases hwi with
     | nil=>
      simp only [be4] at hlen
      rw [oR]
      exact (aR2 (by omega)).symm
     | cons c u hw=>
      simp only [be4,aV5] at hlen
      rw [xL]
      exact (aR2 (by omega)).symm
    | cons a t hv=>
     cases hwi with
     | nil=>
      simp only [be4,aV5] at hlen
      rw [xK]
      exact (aR3 (by omega)).symm
     | cons c u hw=>
      rw [aZ2] at hz
      cases hz
   rw [hv] at hR
   wp_walk
   exact⟨_,rfl,by simpa [Builtin.Tuple.tupleCompareSizes] using hR⟩
  case h=>
   exact⟨rfl,rfl,items.toList,items2.toList,ns,ms,rfl,hi,hj,by omega,h⟩
end
section
variable {prog : Program} {w : World} {A : Around} {E : Value → Shared → Prop} {s : Shared}
theorem aF3 {l b:Addr}{items items2:Array Value}{ns ms:List Int}{Q:Value->Shared->Prop} (hl:IsTup s.heap l items) (hb:IsTup s.heap b items2) (hi:IntsAre items.toList ns) (hj:IntsAre items2.toList ms)
  (hu:A.units < cLine) (h:Q (.bool (aO ms ns)) s):wpAny (model prog w) A (richCompare .Gt (.ref l) (.ref b)) Q E s:=by
 obtain ⟨⟨cls,dd,data,sl⟩,ho,hc,n,hd⟩:=id hl
 obtain ⟨⟨cls2,dd2,data2,sl2⟩,ho2,hc2,n2,hd2⟩:=id hb
 simp only at hc hd hc2 hd2
 subst hc hd hc2 hd2
 exact richCompare_meets_room (op:=.Gt) ⟨_,ho,rfl⟩ ⟨_,ho2,rfl⟩ PySem.F.slot_tuple_gt PySem.F.entry_tuple_gt (PySem.F.args_tuple_gt_2 _ _) (aF2 l b items items2 n n2 dd dd2 sl sl2 ns ms hi hj)
  ⟨ho,ho2,show Value.bool (aO ms ns) ≠ Value.notImplemented/\Q (.bool (aO ms ns)) s from ⟨(fun x=>nomatch x),h⟩⟩ hu
end
end HT
namespace L2
open PySem PySem.Spec PyProof.Rows PP
section
variable {prog : Program} {w : World} {A : Around} {R : Result → Shared → Prop} {I S : Addr} {n : Nat} {s0 : Shared} {a b : Value} {lt : Bool} {fp : List Addr} {P : Nat → Value → Prop} {St : Nat → Heap → Prop}
theorem aF4 (W:Walks prog w A.in1 I fp [I] 2 P St) (p0:∀ v,P 0 v->v=a) (p1:∀ v,P 1 v->v=b) (sI:S ≠ I) (sf:S ∉ fp) (fI:s0.heap.get? I=none) (fS:s0.heap.get? S=none)
  (ask:∀ (h:Heap) (k:Nat) (Q E:Value->Shared->Prop),dH s0.heap h->Q (.bool lt) (at_ s0 h k)->wpAny (model prog w) A.in1 (richCompare .Lt b a) Q E (at_ s0 h k))
  (fin:∀ h k,dH s0.heap h->R (.ok (.ret (if lt=true then b else a))) (at_ s0 h k)) {h:Heap}{k c:Nat} (old:dH s0.heap h) (st:St 0 h)
  (hS:h.get? S=some { cls:=.type "list",dict:=none,data:=.seq #[] c,slots:=#[] }):codeAny (model prog w) A (.builtin "min.loop" ⟨[.ref I,.none,.ref S],[]⟩) R (at_ s0 h k):=by
 have nm:(toString "min" ++ toString ".loop" : String)="min.loop":=by decide
 have nS:S ∉ [I]:=fun z=>sI (aR9.mp z)
 have put:∀ {h h':Heap},dH s0.heap h->(∀ b o,b ∉ [I]->h.get? b=some o->h'.get? b=some o)->dH s0.heap h':=fun {h h'} o1 o2 b o e=>o2 b o (fun z=>by rw [aR9.mp z,fI] at e; cases e) (o1 b o e)
 have put2:∀ {h:Heap}{f:Obj->Obj},dH s0.heap h->dH s0.heap (h.update S f):=fun {h f} o1 b o e=>(be7 _ _ (fun z:S=b=>by rw [<- z,fS] at e; cases e)).trans (o1 b o e)
 have last:∀ (h:Heap) (k c:Nat),dH s0.heap h->St 2 h->h.get? S=some { cls:=.type "list",dict:=none,data:=.seq #[if lt=true then b else a,if lt=true then b else a] c,slots:=#[] }->codeAny (model prog w) A (.builtin "min.loop" ⟨[.ref I,.none,.ref S],[]⟩) R (at_ s0 h k):=fun h k c old st hS=>by
  refine bc3 PySem.F.entry_min_loop ?_
  rw [aX9 bb3]
  refine aQ9 (aY8 hS rfl ?_)
  refine aQ9 (bf3 (W.done _ _ _ st fun h2 k2 o2=>?_))
  exact aQ9 (bf8 (o2 S _ nS hS) rfl (aQ9 (bd1 (aR4 (fin _ k2 (put2 (put old o2)))))))
 have fr:∀ {h:Heap}{f:Obj->Obj}{j:Nat},St j h->St j (h.update S f):=fun {h f j} st=>W.frame _ _ _ st fun b hb o e=>(be7 _ _ (fun z:S=b=>sf (by rw [z]; exact hb))).trans e
 refine bc3 PySem.F.entry_min_loop ?_
 rw [aX9 bb3]
 refine aQ9 (aY8 hS rfl ?_)
 refine aQ9 (bf3 (W.item 0 _ _ _ (by decide) st fun v h2 k2 hv st2 o2=>?_))
 obtain rfl:=p0 v hv
 have hS2:=o2 S _ nS hS
 refine aQ9 (aR4 ?_)
 refine aQ9 (m:=updateSeq _ (fun _=>#[v,v])) (bf8 hS2 rfl ?_)
 rw [nm]
 refine aR4 ⟨bc7 bb3 _,bc3 PySem.F.entry_min_loop ?_⟩
 rw [aX9 bb3]
 have hS3:(h2.update S (Obj.mapSeq fun _=>#[v,v])).get? S=some (Obj.mapSeq (fun _=>#[v,v]) { cls:=.type "list",dict:=none,data:=.seq #[] c,slots:=#[] }):=ba2 _ hS2 rfl
 refine aQ9 (aY8 hS3 rfl ?_)
 refine aQ9 (bf3 (W.item 1 _ _ _ (by decide) (fr st2) fun u h4 k4 hu st4 o4=>?_))
 obtain rfl:=p1 u hu
 have hS4:=o4 S _ nS hS3
 have old4:=put (put2 (f:=Obj.mapSeq fun _=>#[v,v]) (put old o2)) o4
 refine aQ9 (aR4 ?_)
 refine aQ9 (m:=tryCatch (holding [u,u] (richCompare .Lt u v >>= _)) _) (bf3 (aZ7 (aQ9 (ask h4 k4 _ _ old4 ?_))))
 refine aQ9 (aZ7 (bb7 (aQ9 (bd1 (aR4 ?_)))))
 cases lt with
 | false=>
  simp only [aT7,aZ0]
  refine aQ9 (bd1 ?_)
  rw [nm]
  exact aR4 ⟨bc7 bb3 _,last h4 k4 _ old4 st4 hS4⟩
 | true=>
  simp only [if_true]
  refine aQ9 (bf8 hS4 rfl (aQ9 (bd1 ?_)))
  rw [nm]
  exact aR4 ⟨bc7 bb3 _,last _ k4 _ (put2 old4) (fr st4) (ba2 _ hS4 rfl)⟩
theorem aF5 {Q E:Value->Shared->Prop} (hh:A.in1.handled=none)
  (ask:∀ (h:Heap) (k:Nat) (Q E:Value->Shared->Prop),dH s0.heap h->Q (.bool lt) (at_ s0 h k)->wpAny (model prog w) A.in1 (richCompare .Lt b a) Q E (at_ s0 h k))
  (fin:∀ h k,dH s0.heap h->Q (if lt=true then b else a) (at_ s0 h k)):wpAny (model prog w) A (call (.builtin "min") [a,b]) Q E s0:=by
 have nm:(toString "min" ++ toString ".loop" : String)="min.loop":=by decide
 refine call_function_tree PySem.F.kind_min PySem.F.plain_min PySem.F.entry_min (PySem.F.args_min2 _ _) ?_
 refine aQ9 (wpAny_of_eq (show Builtin.Builtins.bindParams "min" ["key","default"] 0 ⟨[],[]⟩=pure [none,none] from rfl) ?_)
 show wpAny _ A.in1 (newTuple [a,b] >>= _) _ _ _
 refine aQ9 (aV4 ?_)
 have hT:(s0.heap.push { cls:=.type "tuple",data:=.seq #[a,b] }).IsTuple s0.heap.objs.size #[a,b]:=⟨_,aS7 _ rfl,rfl,0,rfl⟩
 have z1:(s0.heap.push { cls:=.type "tuple",data:=.seq #[a,b] }).objs.size=s0.heap.objs.size+1:=aY7 ..
 refine aQ9 (bd7 hT ?_)
 refine aQ9 (aV4 ?_)
 rw [nm]
 have z2:((s0.heap.push { cls:=.type "tuple",data:=.seq #[a,b] }).push { cls:=.type "tuple_iterator",data:=.fields #[.ref s0.heap.objs.size,.int 0 0] }).objs.size=s0.heap.objs.size+2:=by rw [aY7,z1]
 have ne:s0.heap.objs.size ≠ (s0.heap.push { cls:=.type "tuple",data:=.seq #[a,b] }).objs.size:=by omega
 refine aR4 ⟨bc7 bb3 _,aF4 (lt:=lt) (Walks.tuple (A:=A.in1) hh _ s0.heap.objs.size ne #[a,b]) (fun v hv=>?_) (fun v hv=>?_) (fun z=>?_) (fun z=>?_) (qY (aU9 (Nat.le_succ _) (Nat.le_of_eq z1.symm))) (qY (aU9 (bb2 _ 2) (Nat.le_of_eq z2.symm))) ask fin (fun b o e=>aR1 _ (aR1 _ (aR1 _ e)))
  ⟨⟨_,aR1 _ (aS7 _ rfl),rfl,rfl⟩,(hT.push _).push _⟩ (aS7 _ rfl)⟩
 ·exact (aT8 (show some a=some v from hv)).symm
 ·exact (aT8 (show some b=some v from hv)).symm
 ·have z:=z2.symm.trans (z.trans z1)
  omega
 ·rcases aR7.mp z with z | z
  ·have z:=z2.symm.trans (z.trans z1)
   omega
  ·have z:=z2.symm.trans (aR9.mp z)
   omega
end
section
variable {prog : Program} {w : World} {A : Around} {R : Result → Shared → Prop} {I S : Addr} {n : Nat} {s0 : Shared} {a b : Value} {lt : Bool} {fp : List Addr} {P : Nat → Value → Prop} {St : Nat → Heap → Prop}
theorem aF6 (W:Walks prog w A.in1 I fp [I] 2 P St) (p0:∀ v,P 0 v->v=a) (p1:∀ v,P 1 v->v=b) (sI:S ≠ I) (sf:S ∉ fp) (fI:s0.heap.get? I=none) (fS:s0.heap.get? S=none)
  (ask:∀ (h:Heap) (k:Nat) (Q E:Value->Shared->Prop),dH s0.heap h->Q (.bool lt) (at_ s0 h k)->wpAny (model prog w) A.in1 (richCompare .Gt b a) Q E (at_ s0 h k))
  (fin:∀ h k,dH s0.heap h->R (.ok (.ret (if lt=true then b else a))) (at_ s0 h k)) {h:Heap}{k c:Nat} (old:dH s0.heap h) (st:St 0 h)
  (hS:h.get? S=some { cls:=.type "list",dict:=none,data:=.seq #[] c,slots:=#[] }):codeAny (model prog w) A (.builtin "max.loop" ⟨[.ref I,.none,.ref S],[]⟩) R (at_ s0 h k):=by
 have nm:(toString "max" ++ toString ".loop" : String)="max.loop":=by decide
 have nS:S ∉ [I]:=fun z=>sI (aR9.mp z)
 have put:∀ {h h':Heap},dH s0.heap h->(∀ b o,b ∉ [I]->h.get? b=some o->h'.get? b=some o)->dH s0.heap h':=fun {h h'} o1 o2 b o e=>o2 b o (fun z=>by rw [aR9.mp z,fI] at e; cases e) (o1 b o e)
 have put2:∀ {h:Heap}{f:Obj->Obj},dH s0.heap h->dH s0.heap (h.update S f):=fun {h f} o1 b o e=>(be7 _ _ (fun z:S=b=>by rw [<- z,fS] at e; cases e)).trans (o1 b o e)
 have last:∀ (h:Heap) (k c:Nat),dH s0.heap h->St 2 h->h.get? S=some { cls:=.type "list",dict:=none,data:=.seq #[if lt=true then b else a,if lt=true then b else a] c,slots:=#[] }->codeAny (model prog w) A (.builtin "max.loop" ⟨[.ref I,.none,.ref S],[]⟩) R (at_ s0 h k):=fun h k c old st hS=>by
  refine bc3 PySem.F.entry_max_loop ?_
  rw [aX9 bb4]
  refine aQ9 (aY8 hS rfl ?_)
  refine aQ9 (bf3 (W.done _ _ _ st fun h2 k2 o2=>?_))
  exact aQ9 (bf8 (o2 S _ nS hS) rfl (aQ9 (bd1 (aR4 (fin _ k2 (put2 (put old o2)))))))
 have fr:∀ {h:Heap}{f:Obj->Obj}{j:Nat},St j h->St j (h.update S f):=fun {h f j} st=>W.frame _ _ _ st fun b hb o e=>(be7 _ _ (fun z:S=b=>sf (by rw [z]; exact hb))).trans e
 refine bc3 PySem.F.entry_max_loop ?_
 rw [aX9 bb4]
 refine aQ9 (aY8 hS rfl ?_)
 refine aQ9 (bf3 (W.item 0 _ _ _ (by decide) st fun v h2 k2 hv st2 o2=>?_))
 obtain rfl:=p0 v hv
 have hS2:=o2 S _ nS hS
 refine aQ9 (aR4 ?_)
 refine aQ9 (m:=updateSeq _ (fun _=>#[v,v])) (bf8 hS2 rfl ?_)
 rw [nm]
 refine aR4 ⟨bc7 bb4 _,bc3 PySem.F.entry_max_loop ?_⟩
 rw [aX9 bb4]
 have hS3:(h2.update S (Obj.mapSeq fun _=>#[v,v])).get? S=some (Obj.mapSeq (fun _=>#[v,v]) { cls:=.type "list",dict:=none,data:=.seq #[] c,slots:=#[] }):=ba2 _ hS2 rfl
 refine aQ9 (aY8 hS3 rfl ?_)
 refine aQ9 (bf3 (W.item 1 _ _ _ (by decide) (fr st2) fun u h4 k4 hu st4 o4=>?_))
 obtain rfl:=p1 u hu
 have hS4:=o4 S _ nS hS3
 have old4:=put (put2 (f:=Obj.mapSeq fun _=>#[v,v]) (put old o2)) o4
 refine aQ9 (aR4 ?_)
 refine aQ9 (m:=tryCatch (holding [u,u] (richCompare .Gt u v >>= _)) _) (bf3 (aZ7 (aQ9 (ask h4 k4 _ _ old4 ?_))))
 refine aQ9 (aZ7 (bb7 (aQ9 (bd1 (aR4 ?_)))))
 cases lt with
 | false=>
  simp only [aT7,aZ0]
  refine aQ9 (bd1 ?_)
  rw [nm]
  exact aR4 ⟨bc7 bb4 _,last h4 k4 _ old4 st4 hS4⟩
 | true=>
  simp only [if_true]
  refine aQ9 (bf8 hS4 rfl (aQ9 (bd1 ?_)))
  rw [nm]
  exact aR4 ⟨bc7 bb4 _,last _ k4 _ (put2 old4) (fr st4) (ba2 _ hS4 rfl)⟩
theorem aF7 {Q E:Value->Shared->Prop} (hh:A.in1.handled=none)
  (ask:∀ (h:Heap) (k:Nat) (Q E:Value->Shared->Prop),dH s0.heap h->Q (.bool lt) (at_ s0 h k)->wpAny (model prog w) A.in1 (richCompare .Gt b a) Q E (at_ s0 h k))
  (fin:∀ h k,dH s0.heap h->Q (if lt=true then b else a) (at_ s0 h k)):wpAny (model prog w) A (call (.builtin "max") [a,b]) Q E s0:=by
 have nm:(toString "max" ++ toString ".loop" : String)="max.loop":=by decide
 refine call_function_tree PySem.F.kind_max PySem.F.plain_max PySem.F.entry_max (PySem.F.args_max2 _ _) ?_
 refine aQ9 (wpAny_of_eq (show Builtin.Builtins.bindParams "max" ["key","default"] 0 ⟨[],[]⟩=pure [none,none] from rfl) ?_)
 show wpAny _ A.in1 (newTuple [a,b] >>= _) _ _ _
 refine aQ9 (aV4 ?_)
 have hT:(s0.heap.push { cls:=.type "tuple",data:=.seq #[a,b] }).IsTuple s0.heap.objs.size #[a,b]:=⟨_,aS7 _ rfl,rfl,0,rfl⟩
 have z1:(s0.heap.push { cls:=.type "tuple",data:=.seq #[a,b] }).objs.size=s0.heap.objs.size+1:=aY7 ..
 refine aQ9 (bd7 hT ?_)
 refine aQ9 (aV4 ?_)
 rw [nm]
 have z2:((s0.heap.push { cls:=.type "tuple",data:=.seq #[a,b] }).push { cls:=.type "tuple_iterator",data:=.fields #[.ref s0.heap.objs.size,.int 0 0] }).objs.size=s0.heap.objs.size+2:=by rw [aY7,z1]
 have ne:s0.heap.objs.size ≠ (s0.heap.push { cls:=.type "tuple",data:=.seq #[a,b] }).objs.size:=by omega
 refine aR4 ⟨bc7 bb4 _,aF6 (lt:=lt) (Walks.tuple (A:=A.in1) hh _ s0.heap.objs.size ne #[a,b]) (fun v hv=>?_) (fun v hv=>?_) (fun z=>?_) (fun z=>?_) (qY (aU9 (Nat.le_succ _) (Nat.le_of_eq z1.symm))) (qY (aU9 (bb2 _ 2) (Nat.le_of_eq z2.symm))) ask fin (fun b o e=>aR1 _ (aR1 _ (aR1 _ e)))
  ⟨⟨_,aR1 _ (aS7 _ rfl),rfl,rfl⟩,(hT.push _).push _⟩ (aS7 _ rfl)⟩
 ·exact (aT8 (show some a=some v from hv)).symm
 ·exact (aT8 (show some b=some v from hv)).symm
 ·have z:=z2.symm.trans (z.trans z1)
  omega
 ·rcases aR7.mp z with z | z
  ·have z:=z2.symm.trans (z.trans z1)
   omega
  ·have z:=z2.symm.trans (aR9.mp z)
   omega
end
section
variable {X : Cx}
theorem aF8 (hc:X.calm=true) (hu:X.A.units+3 < cLine):dC X (.builtin "min") (fun xs H Q=>∃ a b ns ms,xs = [.ref a,.ref b]/\H a=some (.tup (ns.map V.int))/\H b=some (.tup (ms.map V.int))/\Q (if HT.aO ms ns=true then .ref b else .ref a) H):=by
 intro pins s σ H xs us Q I r h
 obtain ⟨a,b,ns,ms,rfl,ha,hb,q⟩:=h
 obtain ⟨u,w',rfl,r1,r2⟩:=kD r
 cases r1
 cases r2
 refine aF5 (lt:=HT.aO ms ns) (I.ok.hd hc) (fun h k Q E old hq=>?_) fun h k old=>⟨_,H,I.kept (t':=k) old,?_,q⟩
 ·have I2:aA X pins σ H (at_ s h k):=I.kept (t':=k) old
  obtain ⟨its,v1,t1,_⟩:=I2.tuple (aS.of (K:=X.K) ha)
  obtain ⟨its2,v2,t2,_⟩:=I2.tuple (aS.of (K:=X.K) hb)
  exact (HT.xN t2 t1 (jK v2) (jK v1) (by show X.A.units+1 < cLine; omega) hq:wpAny (model X.prog X.w) X.A.in1 (compareOp .Lt _ _) Q E (at_ s h k))
 ·split <;> rfl
theorem aF9 (hc:X.calm=true) (hu:X.A.units+3 < cLine):dC X (.builtin "max") (fun xs H Q=>∃ a b ns ms,xs = [.ref a,.ref b]/\H a=some (.tup (ns.map V.int))/\H b=some (.tup (ms.map V.int))/\Q (if HT.aO ns ms=true then .ref b else .ref a) H):=by
 intro pins s σ H xs us Q I r h
 obtain ⟨a,b,ns,ms,rfl,ha,hb,q⟩:=h
 obtain ⟨u,w',rfl,r1,r2⟩:=kD r
 cases r1
 cases r2
 refine aF7 (lt:=HT.aO ns ms) (I.ok.hd hc) (fun h k Q E old hq=>?_) fun h k old=>⟨_,H,I.kept (t':=k) old,?_,q⟩
 ·have I2:aA X pins σ H (at_ s h k):=I.kept (t':=k) old
  obtain ⟨its,v1,t1,_⟩:=I2.tuple (aS.of (K:=X.K) ha)
  obtain ⟨its2,v2,t2,_⟩:=I2.tuple (aS.of (K:=X.K) hb)
  exact HT.aF3 t2 t1 (jK v2) (jK v1) (by show X.A.units+1 < cLine; omega) hq
 ·split <;> rfl
theorem aG0 (hc:X.calm=true):dC X (.builtin "max") (fun xs H Q=>∃ i j k,xs = [.int i,.int j,.int k]/\Q (.int (max i (max j k))) H):=by
 intro pins s σ H xs us Q I r h
 obtain ⟨i,j,k,rfl,q⟩:=h
 cases r with
 | cons r1 r2=>
  obtain ⟨u,w',rfl,⟨t',rfl⟩,⟨t'',rfl⟩⟩:=kD r2
  obtain ⟨t,rfl⟩:=r1
  refine max_three_ints (I.ok.hd hc) fun h' tk kp=>⟨_,H,I.kept kp,?_,q⟩
  by_cases h1:j > i
  ·rw [if_pos h1]
   by_cases h2:k > j
   ·rw [if_pos h2,show max i (max j k)=k by omega]; exact⟨_,rfl⟩
   ·rw [if_neg h2,show max i (max j k)=j by omega]; exact⟨_,rfl⟩
  ·rw [if_neg h1]
   by_cases h2:k > i
   ·rw [if_pos h2,show max i (max j k)=k by omega]; exact⟨_,rfl⟩
   ·rw [if_neg h2,show max i (max j k)=i by omega]; exact⟨_,rfl⟩
end
end L2
namespace PP
open PySem L2
section
variable {X : Cx} {a b c e : Expr} {ta tb te : aE} {tr : cV} {pos p2 : Pos} {σ : St} {H : Hp} {D : dW}
theorem Reps.three {K:PySem.W.Frag}{M:Addr->Prop}{H:Hp}{vs:List V}{x y z:PV} (r:Reps K M H vs [x,y,z]):∃ v w u,vs = [v,w,u]/\aC K M H v x/\aC K M H w y/\aC K M H u z:=by
 cases r with
 | cons r t=>
  obtain ⟨w,u,rfl,q1,q2⟩:=t.two
  exact⟨_,_,_,rfl,r,q1,q2⟩
def vP:List PV->(PV->Prop)->Prop:=fun xs Q=>∃ i j k:Int,xs = [.int i,.int j,.int k]/\Q (.int (max i (max j k)))
theorem aG1:fL X vP (fun xs H Q=>∃ i j k,xs = [.int i,.int j,.int k]/\Q (.int (max i (max j k))) H):=by
 rintro H vs xs Q Q' r ⟨i,j,k,rfl,q⟩ kk
 obtain ⟨v,w,u,rfl,r1,r2,r3⟩:=r.three
 cases r1; cases r2; cases r3
 exact⟨i,j,k,rfl,kk _ _ _ (aH.refl _) (.int _) q⟩
theorem aG2 (B:Bt X.mg) (hc:X.calm=true) (ha:QA X [a,b,c] tr) (hg:Gl X "max":=by rfl) (he:starEach [a,b,c] X.env=(false,eval a X.env) :: starEach [b,c] X.env:=by rfl) (hpl:(backTo pos (starEach [b,c] X.env)).any (·.1)=false:=by rfl):QE X (.Call (.Name "max" p2) [a,b,c] [] pos) (aM vP tr):=
 iX (aG0 hc) aG1 hg B.max PyProof.Rows.boot_max ha (he:=he) (hpl:=hpl)
def vQ:List PV->(PV->Prop)->Prop:=fun xs Q=>∃ ns ms:List Int,xs = [.tup (intz ns),.tup (intz ms)]/\Q (.tup (intz (if HT.aO ms ns=true then ms else ns)))
def vR:List PV->(PV->Prop)->Prop:=fun xs Q=>∃ ns ms:List Int,xs = [.tup (intz ns),.tup (intz ms)]/\Q (.tup (intz (if HT.aO ns ms=true then ms else ns)))
theorem aG3:fL X vQ (fun xs H Q=>∃ a b ns ms,xs = [.ref a,.ref b]/\H a=some (.tup (ns.map V.int))/\H b=some (.tup (ms.map V.int))/\Q (if HT.aO ms ns=true then .ref b else .ref a) H):=by
 rintro H vs xs Q Q' r ⟨ns,ms,rfl,q⟩ k
 obtain ⟨v,w,rfl,r1,r2⟩:=r.two
 obtain ⟨p,us,rfl,h1,q1⟩:=r1.sqT
 obtain ⟨p',us',rfl,h2,q2⟩:=r2.sqT
 obtain rfl:=q1.ofInts
 obtain rfl:=q2.ofInts
 refine⟨p,p',ns,ms,rfl,h1,h2,k _ _ _ (aH.refl _) ?_ q⟩
 split
 ·exact .tup h2 (Reps.intz _)
 ·exact .tup h1 (Reps.intz _)
theorem aG4:fL X vR (fun xs H Q=>∃ a b ns ms,xs = [.ref a,.ref b]/\H a=some (.tup (ns.map V.int))/\H b=some (.tup (ms.map V.int))/\Q (if HT.aO ns ms=true then .ref b else .ref a) H):=by
 rintro H vs xs Q Q' r ⟨ns,ms,rfl,q⟩ k
 obtain ⟨v,w,rfl,r1,r2⟩:=r.two
 obtain ⟨p,us,rfl,h1,q1⟩:=r1.sqT
 obtain ⟨p',us',rfl,h2,q2⟩:=r2.sqT
 obtain rfl:=q1.ofInts
 obtain rfl:=q2.ofInts
 refine⟨p,p',ns,ms,rfl,h1,h2,k _ _ _ (aH.refl _) ?_ q⟩
 split
 ·exact .tup h2 (Reps.intz _)
 ·exact .tup h1 (Reps.intz _)
theorem aG5 (B:Bt X.mg) (hc:X.calm=true) (hu:X.A.units+3 < cLine) (ha:QA X [a,b] tr) (hg:Gl X "min":=by rfl) (he:starEach [a,b] X.env=(false,eval a X.env) :: starEach [b] X.env:=by rfl) (hpl:(backTo pos (starEach [b] X.env)).any (·.1)=false:=by rfl):QE X (.Call (.Name "min" p2) [a,b] [] pos) (aM vQ tr):=
 iX (aF8 hc hu) aG3 hg B.min PyProof.Rows.boot_min ha (he:=he) (hpl:=hpl)
theorem aG6 (B:Bt X.mg) (hc:X.calm=true) (hu:X.A.units+3 < cLine) (ha:QA X [a,b] tr) (hg:Gl X "max":=by rfl) (he:starEach [a,b] X.env=(false,eval a X.env) :: starEach [b] X.env:=by rfl) (hpl:(backTo pos (starEach [b] X.env)).any (·.1)=false:=by rfl):QE X (.Call (.Name "max" p2) [a,b] [] pos) (aM vR tr):=
 iX (aF9 hc hu) aG4 hg B.max PyProof.Rows.boot_max ha (he:=he) (hpl:=hpl)
end
end PP
namespace HT
open PySem PyProof.Rows
section
open PySem.SeqAt
open PySem.MeetsSeq PySem.MeetsSeq2 PySem.MeetsSeq3
theorem aG7 (l:Addr) (items:Array Value) (n:Nat) (x:Value) (e:Value->Bool) (j:Nat) (hj:j < items.size) (hit:e items[j]=true) (hs1:items.size<=sizeLine) (k:Nat) :
  ∀ i:Nat,j - i=k->i<=j->(∀ m (hm:m < items.size),i<=m->m < j->e items[m]=false)->Meets (Builtin.«list.remove.loop» ⟨[.ref l,x,rawInt i],[]⟩)
   (fun A R s=>s.heap.get? l=some (seqObj "list" items n)/\(∀ y,y ∈ items->EqAt A.in1 s y x (e y))/\R (.ok (.ret .none)) { s with heap:=s.heap.update l (Obj.mapSeq fun xs=>xs.eraseIdxIfInBounds j) }):=by
 have fits:∀ i,(items.eraseIdxIfInBounds i).size<=sizeLine+1:=fun i=>aU9 (size_erased items _) (Nat.le_succ_of_le hs1)
 induction k with
 | zero=>
  intro i hk hij hno prog w A R s h
  obtain ⟨hp,g,d,tk,os⟩:=s
  obtain ⟨hl,he,h⟩:=h
  obtain rfl:i=j:=by omega
  have hl':hp.get? l=some { cls:=.type "list",dict:=none,data:=.seq items n,slots:=#[] }:=hl
  wp_walk using ba9 hl'
  rw [show items[((i:Nat):Int).toNat]? = some items[i] by simp [hj]]
  refine aQ9 (he _ (aV2 hj) prog w _ _ ?_)
  rw [hit]
  wp_walk using (bf8 hl' rfl (hz:=hs1) (_hz':=fits i)),ba9 hl'
  simpa using h
 | succ k ih=>
  intro i hk hij hno prog w A R s h
  obtain ⟨hp,g,d,tk,os⟩:=s
  obtain ⟨hl,he,h⟩:=h
  have hlt:i < items.size:=by omega
  have hl':hp.get? l=some { cls:=.type "list",dict:=none,data:=.seq items n,slots:=#[] }:=hl
  wp_walk using ba9 hl'
  rw [show items[((i:Nat):Int).toNat]? = some items[i] by simp [hlt]]
  refine aQ9 (he _ (aV2 hlt) prog w _ _ ?_)
  rw [hno i hlt (aS4 _) (by omega)]
  wp_walk
  rw [show ((i:Int)+1)=((i+1:Nat):Int) by omega]
  refine⟨bc7 plain_remove_loop _,bc3 entry_remove_loop ?_⟩
  rw [aX9 plain_remove_loop _]
  exact ih (i+1) (by omega) (by omega) (fun m hm h1 h2=>hno m hm (by omega) h2) prog w A R _ ⟨hl,he,h⟩
theorem aG8 (l:Addr) (items:Array Value) (n:Nat) (x:Value) (e:Value->Bool) (j:Nat) (hj:j < items.size) (hit:e items[j]=true) (hno:∀ m (hm:m < items.size),m < j->e items[m]=false) (hs1:items.size<=sizeLine) :
  Meets (Builtin.«list.remove» ⟨[.ref l,x],[]⟩)
   (fun A R s=>s.heap.get? l=some (seqObj "list" items n)/\(∀ y,y ∈ items->EqAt A.in1 s y x (e y))/\R (.ok (.ret .none)) { s with heap:=s.heap.update l (Obj.mapSeq fun xs=>xs.eraseIdxIfInBounds j) }):=by
 intro prog w A R s h
 obtain ⟨hp,g,d,tk,os⟩:=s
 obtain ⟨hl,he,h⟩:=h
 have hl':hp.get? l=some { cls:=.type "list",dict:=none,data:=.seq items n,slots:=#[] }:=hl
 wp_walk using ba9 hl'
 refine⟨bc7 plain_remove_loop _,bc3 entry_remove_loop ?_⟩
 rw [aX9 plain_remove_loop _]
 exact aG7 l items n x e j hj hit hs1 _ 0 rfl (ba7 _) (fun m hm _ h2=>hno m hm h2) prog w A R _ ⟨hl,he,h⟩
end
end HT
namespace PP
open PySem L2
section
variable {X : Cx} {σ : St} {H : Hp} {D : dW} {te : aE} {e : Expr} {pos : Pos}
def R3 (K:PySem.W.Frag):V->List V->Hp->VK->Prop:=fun x vs H Q=>∃ (p:Addr) (us:List V) (w:V) (ns:List Int) (rs:List (List Int)) (j:Nat),x = .ref p/\vs = [w]/\H p=some (.lst us)/\aC K (fun _=>True) H w (.tup (intz ns))/\Reps K (fun _=>True) H us (rs.map fun r=>PV.tup (intz r))/\rs[j]? = some ns/\(∀ k,k < j->rs[k]? ≠ some ns)/\us.length < 16000000/\Q .non (upd H p (.lst (us.eraseIdx j)))
theorem R4:∀ (j:Nat) {us:List V}{its:List Value},aR us its->aR (us.eraseIdx j) (its.eraseIdx j)
 | _,_,_,.nil=>.nil
 | 0,_,_,.cons _ t=>t
 | j+1,_,_,.cons r t=>.cons r (R4 j t)
theorem aG9 (hu:X.A.units+3 < cLine):yA X "list.remove" (R3 X.K):=by
 intro pins s σ H x vs v us Q I rx rv h
 obtain ⟨p,ws,w,ns,rs,j,rfl,rfl,hp,rn,rr,hj,hno,hl,q⟩:=h
 cases rx
 obtain ⟨u,rfl,ru⟩:=jH rv
 obtain ⟨z,its,n,r,hl2,e⟩:=I.lstM hp
 have lr:=r.length
 have lp:=rr.length
 rw [aS1] at lp
 have jl:=(aS0.mp hj).1
 have hsz:sizeLine=16777216:=sizeLine_eq
 obtain ⟨f,key⟩:=N4 (A:=X.A.in1) (by show X.A.units+1+2 < cLine; omega) I ru r rn rr
 have jz:j < its.toArray.size:=by rw [aR8]; omega
 refine call_meets PySem.F.slot_list_remove ⟨_,e,rfl⟩ PySem.F.entry_list_remove (PySem.F.args_list_remove_2 _ _) (HT.aG8 p its.toArray n u f j jz ?_ ?_ (by rw [aR8]; omega)) ⟨e,fun y hy=>?_,.non,_,I.lset (its':=its.eraseIdx j) hp e ?_ (R4 j r) ?_,rfl,q⟩
 ·obtain ⟨m,hm,_,h2⟩:=key j its[j] (aR5 (by omega))
  rw [hj] at hm
  cases hm
  show f its[j]=true
  rw [h2]; exact aR3 rfl
 ·intro k hk hlt
  rw [aR8] at hk
  obtain ⟨m,hm,_,h2⟩:=key k its[k] (aR5 hk)
  show f its[k]=false
  rw [h2]
  exact aR2 fun z=>hno k hlt (by rw [hm,z])
 ·have hy:y ∈ its:=by simpa using hy
  obtain ⟨k,hk⟩:=be2 hy
  obtain ⟨m,_,h1,_⟩:=key k y hk
  exact h1
 ·simp [Array.eraseIdxIfInBounds,jz]
  omega
 ·have:=List.length_eraseIdx_le ws j
  omega
def vS (i:Nat) (te:aE):aV:=fun D ρ=>∃ rs:List (List Int),ρ[i]? = some (some (.own (.lst (rs.map fun r=>PV.tup (intz r)))))/\te ρ fun y _=>∃ (ns:List Int) (j:Nat),y = .tup (intz ns)/\rs[j]? = some ns/\(∀ k,k < j->rs[k]? ≠ some ns)/\rs.length < 16000000/\D.nx (ρ.set i (some (.own (.lst ((rs.eraseIdx j).map fun r=>PV.tup (intz r))))))
theorem aH0 {i:Nat} (h:LS X (vS i te) D σ H):mU (sU X.K "list" (R3 X.K) (kB i) (jI (LE X te) kE)) D σ H:=by
 obtain ⟨W,ρ,D',px,⟨rs,hi,q⟩,k⟩:=h
 obtain ⟨v,ev,a,rfl,wa,us,ea,r⟩:=px.sl i _ hi
 have lr:=r.length
 rw [aS1] at lr
 refine⟨_,ev,z9 (aW.of ea),W,ρ,_,px,q,?_⟩
 rintro w H1 y g s ry ⟨ns,j,rfl,hj,hno,hl,q⟩
 have ea2:=s _ _ ea
 refine⟨a,us,w,ns,rs,j,rfl,rfl,ea2,ry.same (aH.refl _) (fun _ _=>trivial),r.same s (fun _ _=>trivial),hj,hno,by omega,?_⟩
 refine k.nx W σ _ _ ((Ev.same s).trans (Ev.upd wa)) ((px.mono s).updL hi ev wa ?_) q
 have r2:=(r.same (M':=Ms X.H₀ W true) s fun _ z=>z).eraseIdx j
 rw [<- Raw.iZ] at r2
 exact r2.keep (.upd ea2 rfl fun b m=>⟨nF wa m,m⟩)
theorem aH1 (i:Nat) {x:Str}{apos cpos xpos:Pos} (hu:X.A.units+3 < cLine) (he:QE X e te) (hN:X.N[i]? = some x:=by rfl) (hv:iJ X.env.scope x:=by first | exact Or.inl rfl | exact Or.inr (Or.inl rfl) | exact Or.inr (Or.inr rfl)) (hd:(x == ("__debug__" : Str))=false:=by decide) (hcd:(x == ("__classdict__" : Str))=false:=by decide)
  (hbase:attributeBase (.Name x xpos) "remove" X.env (eval (.Name x xpos) X.env)=eval (.Name x xpos) X.env:=by rfl)
  (hfew:((backTo cpos (starEach [e] X.env)).all (fun x=>!x.1) && (backToKw cpos (keywordEach [] X.env)).all (fun x=>x.1.isSome) && decide (([e]:List Expr).length+([]:List Keyword).length+(if ([]:List Keyword).isEmpty then 0 else 1) < 30))=true:=by rfl)
  (hline:(apos.endLine == cpos.line)=true:=by rfl) (hs:starEach [e] X.env=(false,eval e X.env) :: starEach [] X.env:=by rfl) (hplain:(backTo cpos (starEach [] X.env)).any (·.1)=false:=by rfl)
  (hsw:swapsWith (.Call (.Attribute (.Name x xpos) "remove" apos) [e] [] cpos) none pos.line X.env=pure false:=by rfl) :
  QS X (.Expr (.Call (.Attribute (.Name x xpos) "remove" apos) [e] [] cpos) pos) (vS i te):=
 eM (oE (xZ PySem.F.plainAttrs_list PySem.F.slot_list_remove PySem.F.type_list_remove (aG9 hu) (lF hN hv hd hcd) (iK he kF hs) hbase hfew hline hs hplain) hsw) fun _ _ _=>aH0
def rH (i j k l:Nat):gV:=fun x g ρ Q=>∃ y z u w,x = .tup [y,z,u,w]/\Q ((((ρ.set i (some (.sh (g || flat y) y))).set j (some (.sh (g || flat z) z))).set k (some (.sh (g || flat u) u))).set l (some (.sh (g || flat w) w)))
abbrev R5 (K:PySem.W.Frag) (i j k l:Nat):TG:=lI K 4 (fV (dB i) (fV (dB j) (fV (dB k) (fV (dB l) lH))))
theorem Reps.four {K:PySem.W.Frag}{M:Addr->Prop}{H:Hp}{vs:List V}{x y z u:PV} (r:Reps K M H vs [x,y,z,u]):∃ v1 v2 v3 v4,vs = [v1,v2,v3,v4]/\aC K M H v1 x/\aC K M H v2 y/\aC K M H v3 z/\aC K M H v4 u:=by
 cases r with
 | cons r t=>
  obtain ⟨v,w,u,rfl,q1,q2,q3⟩:=t.three
  exact⟨_,_,_,_,rfl,r,q1,q2,q3⟩
theorem aH2 (K:PySem.W.Frag) (i j k l:Nat):kQ K (fun n=>n=i ∨ n=j ∨ n=k ∨ n=l) (rH i j k l) (R5 K i j k l):=by
 intro H0 W σ ρ H v x g Q Q' px r q kk
 obtain ⟨y,z,u,w,rfl,q⟩:=q
 obtain ⟨a,us,rfl,h,r⟩:=r.sqT
 obtain ⟨u1,u2,u3,u4,rfl,r1,r2,r3,r4⟩:=r.four
 refine⟨a,_,rfl,aS.of h,rfl,u1,_,rfl,u2,_,rfl,u3,_,rfl,u4,_,rfl,rfl,kk _ _ ((((px.setSh (jP r1)).setSh (jP r2)).setSh (jP r3)).setSh (jP r4)) (fun n hn=>?_) (by simp only [bc2]) q⟩
 rw [aU1 (fun e=>hn (.inr (.inr (.inr e.symm)))),aU1 (fun e=>hn (.inr (.inr (.inl e.symm)))),aU1 (fun e=>hn (.inr (.inl e.symm))),aU1 (fun e=>hn (.inl e.symm))]
structure Nm (X:Cx) (i:Nat) (x:Str):Prop where
 a:X.N[i]? = some x
 b:gE X.env.scope x
 c:X.fn x=true ∨ X.env.scope.names.lookup x=some .local
theorem aH3 {x y z u:Str}{tp xp yp zp up:Pos}{kt i j k l:Nat} (hN:X.N.Nodup) (hc:X.calm=true) (n1:Nm X i x) (n2:Nm X j y) (n3:Nm X k z) (n4:Nm X l u):PG X (.Tuple [.Name x xp,.Name y yp,.Name z zp,.Name u up] kt tp) (R5 X.K i j k l):=
 oH hc (i6 (gF hN n1.a n1.b n1.c) (i6 (gF hN n2.a n2.b n2.c) (i6 (gF hN n3.a n3.b n3.c) (i6 (gF hN n4.a n4.b n4.c) oG))))
theorem R6 (i j k l:Nat) {x y z u:Str}{tp xp yp zp up:Pos}{kt:Nat} (hN:X.N.Nodup) (he:QE X e te)
  (n1:Nm X i x:=by exact⟨rfl,by first | exact Or.inl rfl | exact Or.inr rfl,by first | exact .inl rfl | exact .inr rfl⟩) (n2:Nm X j y:=by exact⟨rfl,by first | exact Or.inl rfl | exact Or.inr rfl,by first | exact .inl rfl | exact .inr rfl⟩)
  (n3:Nm X k z:=by exact⟨rfl,by first | exact Or.inl rfl | exact Or.inr rfl,by first | exact .inl rfl | exact .inr rfl⟩) (n4:Nm X l u:=by exact⟨rfl,by first | exact Or.inl rfl | exact Or.inr rfl,by first | exact .inl rfl | exact .inr rfl⟩) (hc:X.calm=true:=by rfl)
  (hs:swapsWithSole [.Tuple [.Name x xp,.Name y yp,.Name z zp,.Name u up] kt tp] e pos.line X.env=pure false:=by rfl) (hw:swappedStores [.Tuple [.Name x xp,.Name y yp,.Name z zp,.Name u up] kt tp] e X.env=pure none:=by rfl) :
  QS X (.Assign [.Tuple [.Name x xp,.Name y yp,.Name z zp,.Name u up] kt tp] e pos) (l7 (rH i j k l) te):=
 eM (wO he (aH3 hN hc n1 n2 n3 n4) hs hw) fun _ _ _=>L1 (aH2 _ i j k l)
end
end PP
namespace Core
open PySem L2 PP
structure Bx where
 t:Int
 l:Int
 b:Int
 r:Int
deriving DecidableEq
def Bx.k (x:Bx):List Int:=[x.t,x.l,x.b,x.r]
theorem Bx.k_inj {x y:Bx} (h:x.k=y.k):x=y:=by
 obtain ⟨a,b,c,d⟩:=x
 obtain ⟨a',b',c',d'⟩:=y
 unfold Bx.k at h
 simp only [List.cons.injEq,and_true] at h
 obtain ⟨rfl,rfl,rfl,rfl⟩:=h
 rfl
def jE (s e s' e':Int):Int:=max 0 (max (s' - e) (s - e'))
def bM (x y:Bx):Bool:=decide (jE x.t x.b y.t y.b+jE x.l x.r y.l y.r<=2)
def bR (x y:Bx):Bx:=⟨min x.t y.t,min x.l y.l,max x.b y.b,max x.r y.r⟩
def okX (x:Bx):Prop:=x.t<=x.b/\x.l<=x.r
def aP (x:Bx) (p:Int × Int):Prop:=x.t<=p.1/\p.1<=x.b/\x.l<=p.2/\p.2<=x.r
def b9 (x y:Bx):Prop:=y.t<=x.t/\y.l<=x.l/\x.b<=y.b/\x.r<=y.r
def cX (p:Int × Int):Bx:=⟨p.1,p.2,p.1,p.2⟩
def gO (x a:Int × Int):Prop:=(a.1=x.1/\(a.2=x.2 - 1 ∨ a.2=x.2+1)) ∨ (a.2=x.2/\(a.1=x.1 - 1 ∨ a.1=x.1+1))
theorem iF {a b:Int × Int} (h:a.1 ≠ b.1 ∨ a.2 ≠ b.2):a ≠ b:=fun e=>by subst e; exact h.elim (fun z=>z rfl) fun z=>z rfl
theorem R7 (s e s' e':Int):0<=jE s e s' e'/\s' - e<=jE s e s' e'/\s - e'<=jE s e s' e':=
 ⟨Int.le_max_left ..,aW1 (Int.le_max_left ..) (Int.le_max_right ..),aW1 (Int.le_max_right ..) (Int.le_max_right ..)⟩
theorem R8 {s e s' e' g:Int} (h0:0<=g) (h1:s' - e<=g) (h2:s - e'<=g):jE s e s' e'<=g:=Int.max_le.mpr ⟨h0,Int.max_le.mpr ⟨h1,h2⟩⟩
theorem R9 {x y:Bx} (h:bM x y=true):∃ g h:Int,0<=g/\0<=h/\g+h<=2/\y.t - x.b<=g/\x.t - y.b<=g/\y.l - x.r<=h/\x.l - y.r<=h:=
 have a:=R7 x.t x.b y.t y.b
 have b:=R7 x.l x.r y.l y.r
 ⟨_,_,a.1,b.1,bg1 h,a.2.1,a.2.2,b.2.1,b.2.2⟩
theorem vT {x y:Bx}{g h:Int} (g0:0<=g) (h0:0<=h) (gh:g+h<=2) (a1:y.t - x.b<=g) (a2:x.t - y.b<=g) (b1:y.l - x.r<=h) (b2:x.l - y.r<=h):bM x y=true:=
 aR3 (aW1 (Int.add_le_add (R8 g0 a1 a2) (R8 h0 b1 b2)) gh)
theorem vU (x y:Bx):bM x y=bM y x:=by
 have go:∀ x y:Bx,bM x y=true->bM y x=true:=fun x y h=>by
  obtain ⟨g,h,g0,h0,gh,a1,a2,b1,b2⟩:=R9 h
  exact vT g0 h0 gh a2 a1 b2 b1
 exact aX4.mpr ⟨go x y,go y x⟩
theorem vV {x y:Bx}{p:Int × Int} (h1:aP x p) (h2:aP y p):bM x y=true:=
 vT (g:=0) (h:=0) (aR6 _) (aR6 _) (by decide) (Int.sub_nonpos_of_le (aW1 h2.1 h1.2.1)) (Int.sub_nonpos_of_le (aW1 h1.1 h2.2.1)) (Int.sub_nonpos_of_le (aW1 h2.2.2.1 h1.2.2.2)) (Int.sub_nonpos_of_le (aW1 h1.2.2.1 h2.2.2.2))
theorem aH4 {x:Bx} (ok:okX x):bM x x=true:=vV (p:=(x.t,x.l)) ⟨aR6 _,ok.1,aR6 _,ok.2⟩ ⟨aR6 _,ok.1,aR6 _,ok.2⟩
theorem rJ (x y:Bx):b9 x (bR x y):=⟨Int.min_le_left ..,Int.min_le_left ..,Int.le_max_left ..,Int.le_max_left ..⟩
theorem vW (x y:Bx):b9 y (bR x y):=⟨Int.min_le_right ..,Int.min_le_right ..,Int.le_max_right ..,Int.le_max_right ..⟩
theorem aH5 {x y z:Bx} (h:b9 x z) (h':b9 y z):b9 (bR x y) z:=⟨Int.le_min.mpr ⟨h.1,h'.1⟩,Int.le_min.mpr ⟨h.2.1,h'.2.1⟩,Int.max_le.mpr ⟨h.2.2.1,h'.2.2.1⟩,Int.max_le.mpr ⟨h.2.2.2,h'.2.2.2⟩⟩
theorem b9.in_ {x y:Bx} (s:b9 x y) {p:Int × Int} (h:aP x p):aP y p:=⟨aW1 s.1 h.1,aW1 h.2.1 s.2.2.1,aW1 s.2.1 h.2.2.1,aW1 h.2.2.2 s.2.2.2⟩
theorem b9.refl (x:Bx):b9 x x:=⟨aR6 _,aR6 _,aR6 _,aR6 _⟩
theorem b9.trans {x y z:Bx} (h:b9 x y) (h':b9 y z):b9 x z:=⟨aW1 h'.1 h.1,aW1 h'.2.1 h.2.1,aW1 h.2.2.1 h'.2.2.1,aW1 h.2.2.2 h'.2.2.2⟩
theorem aH6 {x y:Bx} (h:okX x):okX (bR x y):=
 have s:=rJ x y
 ⟨aW1 s.1 (aW1 h.1 s.2.2.1),aW1 s.2.1 (aW1 h.2 s.2.2.2)⟩
theorem aH7 (x y:Bx):bR x y=bR y x:=by unfold bR; rw [Int.min_comm x.t,Int.min_comm x.l,Int.max_comm x.b,Int.max_comm x.r]
theorem aH8 {x y:Bx}{p:Int × Int} (h:aP x p):aP (bR x y) p:=(rJ x y).in_ h
theorem vX {x y:Bx}{p:Int × Int} (h:aP y p):aP (bR x y) p:=(vW x y).in_ h
def fB (B:Bx) (U:Int × Int->Prop):Prop:=∀ x a b,aP B x->gO x a->gO x b->a ≠ b->U a->U b->U x
def dA (U:Int × Int->Prop) (x:Bx):Prop:=∀ p,aP x p->U p
theorem aH9 {U:Int × Int->Prop}{x y:Bx} (f:dA U y) (s:b9 x y):dA U x:=fun p h=>f p (s.in_ h)
section
variable {B : Bx} {U : Int × Int → Prop}
theorem aI0 (cl:fB B U) {y y' l r c0:Int} (hy:y'=y - 1 ∨ y'=y+1) (bd:∀ c,l<=c->c<=r->aP B (y,c)) (f:∀ c,l<=c->c<=r->U (y',c)) (h0:l<=c0/\c0<=r) (u0:U (y,c0)):∀ (n:Nat) (c:Int),l<=c->c<=r->(c - c0).natAbs=n->U (y,c):=by
 have ny:y ≠ y':=by omega
 intro n
 induction n with
 | zero=>intro c h1 h2 h3; rw [show c=c0 by omega]; exact u0
 | succ n ih=>
  intro c h1 h2 h3
  have go:∀ d:Int,(d=c - 1 ∨ d=c+1)->l<=d->d<=r->(d - c0).natAbs=n->U (y,c):=fun d hd g1 g2 g3=>
   cl (y,c) (y,d) (y',c) (bd c h1 h2) (.inl ⟨rfl,hd⟩) (.inr ⟨rfl,hy⟩) (iF (.inl ny)) (ih d g1 g2 g3) (f c h1 h2)
  by_cases g:c0 < c
  ·exact go (c - 1) (.inl rfl) (by omega) (by omega) (by omega)
  ·exact go (c+1) (.inr rfl) (by omega) (by omega) (by omega)
theorem aI1 (cl:fB B U) {y y' l r c0:Int} (hy:y'=y - 1 ∨ y'=y+1) (bd:∀ c,l<=c->c<=r->aP B (c,y)) (f:∀ c,l<=c->c<=r->U (c,y')) (h0:l<=c0/\c0<=r) (u0:U (c0,y)):∀ (n:Nat) (c:Int),l<=c->c<=r->(c - c0).natAbs=n->U (c,y):=by
 have ny:y ≠ y':=by omega
 intro n
 induction n with
 | zero=>intro c h1 h2 h3; rw [show c=c0 by omega]; exact u0
 | succ n ih=>
  intro c h1 h2 h3
  have go:∀ d:Int,(d=c - 1 ∨ d=c+1)->l<=d->d<=r->(d - c0).natAbs=n->U (c,y):=fun d hd g1 g2 g3=>
   cl (c,y) (d,y) (c,y') (bd c h1 h2) (.inr ⟨rfl,hd⟩) (.inl ⟨rfl,hy⟩) (iF (.inr ny)) (ih d g1 g2 g3) (f c h1 h2)
  by_cases g:c0 < c
  ·exact go (c - 1) (.inl rfl) (by omega) (by omega) (by omega)
  ·exact go (c+1) (.inr rfl) (by omega) (by omega) (by omega)
variable {t l b r : Int}
theorem S0 (cl:fB B U) (f:dA U ⟨t,l,b,r⟩) {y y' c0:Int} (hy:y'=y - 1 ∨ y'=y+1) (h1:t<=y'/\y'<=b) (u:U (y,c0)) (h2:l<=c0/\c0<=r) {R:Bx} (s:b9 R B) (hl:R.l=l) (hr:R.r=r) (iy:R.t<=y/\y<=R.b) (old:∀ q:Int × Int,aP R q->q.1 ≠ y->t<=q.1/\q.1<=b):dA U R:=by
 intro q hq
 have a3:l<=q.2:=hl ▸ hq.2.2.1
 have a4:q.2<=r:=hr ▸ hq.2.2.2
 by_cases e:q.1=y
 ·have:=aI0 cl hy (fun c g1 g2=>s.in_ ⟨iy.1,iy.2,hl.symm ▸ g1,hr.symm ▸ g2⟩) (fun c g1 g2=>f (y',c) ⟨h1.1,h1.2,g1,g2⟩) h2 u _ q.2 a3 a4 rfl
  rw [show q=(y,q.2) from bb5 e rfl]; exact this
 ·have o:=old q hq e
  exact f q ⟨o.1,o.2,a3,a4⟩
theorem S2 (cl:fB B U) (f:dA U ⟨t,l,b,r⟩) {y y' c0:Int} (hy:y'=y - 1 ∨ y'=y+1) (h1:l<=y'/\y'<=r) (u:U (c0,y)) (h2:t<=c0/\c0<=b) {R:Bx} (s:b9 R B) (ht:R.t=t) (hb:R.b=b) (iy:R.l<=y/\y<=R.r) (old:∀ q:Int × Int,aP R q->q.2 ≠ y->l<=q.2/\q.2<=r):dA U R:=by
 intro q hq
 have a3:t<=q.1:=ht ▸ hq.1
 have a4:q.1<=b:=hb ▸ hq.2.1
 by_cases e:q.2=y
 ·have:=aI1 cl hy (fun c g1 g2=>s.in_ ⟨ht.symm ▸ g1,hb.symm ▸ g2,iy.1,iy.2⟩) (fun c g1 g2=>f (c,y') ⟨g1,g2,h1.1,h1.2⟩) h2 u _ q.1 a3 a4 rfl
  rw [show q=(q.1,y) from bb5 rfl e]; exact this
 ·have o:=old q hq e
  exact f q ⟨a3,a4,o.1,o.2⟩
theorem rK (cl:fB B U) (f:dA U ⟨t,l,b,r⟩) (tb:t<=b) {c0:Int} (u:U (b+1,c0)) (h2:l<=c0/\c0<=r) (s:b9 ⟨t,l,b+1,r⟩ B):dA U ⟨t,l,b+1,r⟩:=
 S0 cl f (y:=b+1) (y':=b) (.inl (by omega)) ⟨tb,aR6 _⟩ u h2 s rfl rfl ⟨by show t<=b+1; omega,aR6 _⟩ fun q hq ne=>⟨hq.1,by have:q.1<=b+1:=hq.2.1; omega⟩
theorem rL (cl:fB B U) (f:dA U ⟨t,l,b,r⟩) (tb:t<=b) {c0:Int} (u:U (t - 1,c0)) (h2:l<=c0/\c0<=r) (s:b9 ⟨t - 1,l,b,r⟩ B):dA U ⟨t - 1,l,b,r⟩:=
 S0 cl f (y:=t - 1) (y':=t) (.inr (by omega)) ⟨aR6 _,tb⟩ u h2 s rfl rfl ⟨aR6 _,by show t - 1<=b; omega⟩ fun q hq ne=>⟨by have:t - 1<=q.1:=hq.1; omega,hq.2.1⟩
theorem vY (cl:fB B U) (f:dA U ⟨t,l,b,r⟩) (lr:l<=r) {c0:Int} (u:U (c0,r+1)) (h2:t<=c0/\c0<=b) (s:b9 ⟨t,l,b,r+1⟩ B):dA U ⟨t,l,b,r+1⟩:=
 S2 cl f (y:=r+1) (y':=r) (.inl (by omega)) ⟨lr,aR6 _⟩ u h2 s rfl rfl ⟨by show l<=r+1; omega,aR6 _⟩ fun q hq ne=>⟨hq.2.2.1,by have:q.2<=r+1:=hq.2.2.2; omega⟩
theorem vZ (cl:fB B U) (f:dA U ⟨t,l,b,r⟩) (lr:l<=r) {c0:Int} (u:U (c0,l - 1)) (h2:t<=c0/\c0<=b) (s:b9 ⟨t,l - 1,b,r⟩ B):dA U ⟨t,l - 1,b,r⟩:=
 S2 cl f (y:=l - 1) (y':=l) (.inr (by omega)) ⟨aR6 _,lr⟩ u h2 s rfl rfl ⟨aR6 _,by show l - 1<=r; omega⟩ fun q hq ne=>⟨by have:l - 1<=q.2:=hq.2.2.1; omega,hq.2.2.2⟩
def jF (B:Bx) (U:Int × Int->Prop) (R:Bx) (p:Int × Int):Prop:=∃ R',okX R'/\b9 R R'/\aP R' p/\b9 R' B/\dA U R'
theorem jF.step {R R1:Bx}{p:Int × Int} (s:b9 R R1) (h:jF B U R1 p):jF B U R p:=by
 obtain ⟨R',h1,h2,h3,h4,h5⟩:=h
 exact⟨R',h1,s.trans h2,h3,h4,h5⟩
section
variable (cl : fB B U) {p1 p2 : Int} (u : U (p1, p2)) (ip : aP B (p1, p2))
include cl u ip
theorem w4 (f:dA U ⟨t,l,b,r⟩) (tb:t<=b) (lr:l<=r) (s:b9 ⟨t,l,b,r⟩ B) (h:t<=p1/\p1<=b) (g1:p2 - r<=2) (g2:l - p2<=2):jF B U ⟨t,l,b,r⟩ (p1,p2):=by
 obtain ⟨s1,s2,s3,s4⟩:=s
 obtain ⟨i1,i2,i3,i4⟩:=ip
 dsimp only at *
 by_cases a:p2<=r
 ·by_cases a':l<=p2
  ·exact⟨_,⟨tb,lr⟩,b9.refl _,⟨h.1,h.2,a',a⟩,⟨s1,s2,s3,s4⟩,f⟩
  ·have u1:U (p1,l - 1):=by
    by_cases e:p2=l - 1
    ·rw [<- e]; exact u
    ·exact cl (p1,l - 1) (p1,p2) (p1,l) ⟨i1,i2,by show B.l<=l - 1; omega,by show l - 1<=B.r; omega⟩ (.inl ⟨rfl,.inl (by show p2=l - 1 - 1; omega)⟩) (.inl ⟨rfl,.inr (by show l=l - 1+1; omega)⟩) (iF (.inr (by show p2 ≠ l; omega))) u (f _ ⟨h.1,h.2,aR6 _,lr⟩)
   have f1:=vZ cl f lr u1 h ⟨s1,by show B.l<=l - 1; omega,s3,s4⟩
   by_cases e:p2=l - 1
   ·exact⟨⟨t,l - 1,b,r⟩,⟨tb,by show l - 1<=r; omega⟩,⟨aR6 _,by show l - 1<=l; omega,aR6 _,aR6 _⟩,⟨h.1,h.2,by show l - 1<=p2; omega,a⟩,⟨s1,by show B.l<=l - 1; omega,s3,s4⟩,f1⟩
   ·have e2:p2=l - 1 - 1:=by omega
    have f2:=vZ cl f1 (by omega) (c0:=p1) (by rw [<- e2]; exact u) h ⟨s1,by show B.l<=l - 1 - 1; omega,s3,s4⟩
    exact⟨⟨t,l - 1 - 1,b,r⟩,⟨tb,by show l - 1 - 1<=r; omega⟩,⟨aR6 _,by show l - 1 - 1<=l; omega,aR6 _,aR6 _⟩,⟨h.1,h.2,by show l - 1 - 1<=p2; omega,a⟩,⟨s1,by show B.l<=l - 1 - 1; omega,s3,s4⟩,f2⟩
 ·have u1:U (p1,r+1):=by
   by_cases e:p2=r+1
   ·rw [<- e]; exact u
   ·exact cl (p1,r+1) (p1,p2) (p1,r) ⟨i1,i2,by show B.l<=r+1; omega,by show r+1<=B.r; omega⟩ (.inl ⟨rfl,.inr (by show p2=r+1+1; omega)⟩) (.inl ⟨rfl,.inl (by show r=r+1 - 1; omega)⟩) (iF (.inr (by show p2 ≠ r; omega))) u (f _ ⟨h.1,h.2,lr,aR6 _⟩)
  have f1:=vY cl f lr u1 h ⟨s1,s2,s3,by show r+1<=B.r; omega⟩
  by_cases e:p2=r+1
  ·exact⟨⟨t,l,b,r+1⟩,⟨tb,by show l<=r+1; omega⟩,⟨aR6 _,aR6 _,aR6 _,by show r<=r+1; omega⟩,⟨h.1,h.2,by show l<=p2; omega,by show p2<=r+1; omega⟩,⟨s1,s2,s3,by show r+1<=B.r; omega⟩,f1⟩
  ·have e2:p2=r+1+1:=by omega
   have f2:=vY cl f1 (by omega) (c0:=p1) (by rw [<- e2]; exact u) h ⟨s1,s2,s3,by show r+1+1<=B.r; omega⟩
   exact⟨⟨t,l,b,r+1+1⟩,⟨tb,by show l<=r+1+1; omega⟩,⟨aR6 _,aR6 _,aR6 _,by show r<=r+1+1; omega⟩,⟨h.1,h.2,by show l<=p2; omega,by show p2<=r+1+1; omega⟩,⟨s1,s2,s3,by show r+1+1<=B.r; omega⟩,f2⟩
theorem aI2 (f:dA U ⟨t,l,b,r⟩) (tb:t<=b) (lr:l<=r) (s:b9 ⟨t,l,b,r⟩ B) {g h:Int} (g0:0<=g) (h0:0<=h) (gh:g+h<=2) (a1:p1 - b<=g) (a2:t - p1<=g) (b1:p2 - r<=h) (b2:l - p2<=h):jF B U ⟨t,l,b,r⟩ (p1,p2):=by
 by_cases c1:p1<=b
 ·by_cases c2:t<=p1
  ·exact w4 cl u ip f tb lr s ⟨c2,c1⟩ (by omega) (by omega)
  ·
   obtain ⟨s1,s2,s3,s4⟩:=s
   obtain ⟨i1,i2,i3,i4⟩:=ip
   dsimp only at *
   have go:∀ c0,U (t - 1,c0)->l<=c0/\c0<=r->p1=t - 1->jF B U ⟨t,l,b,r⟩ (p1,p2):=fun c0 u0 hc e=>
    jF.step (R1:=⟨t - 1,l,b,r⟩) ⟨by show t - 1<=t; omega,aR6 _,aR6 _,aR6 _⟩ (w4 cl u ⟨i1,i2,i3,i4⟩ (rL cl f tb u0 hc ⟨by show B.t<=t - 1; omega,s2,s3,s4⟩) (by omega) lr ⟨by show B.t<=t - 1; omega,s2,s3,s4⟩ ⟨by omega,by omega⟩ (by omega) (by omega))
   by_cases e:p1=t - 1
   ·by_cases d1:p2<=r
    ·by_cases d2:l<=p2
     ·exact go p2 (by rw [<- e]; exact u) ⟨d2,d1⟩ e
     ·exact go l (cl (t - 1,l) (p1,p2) (t,l) ⟨by show B.t<=t - 1; omega,by show t - 1<=B.b; omega,s2,by show l<=B.r; omega⟩ (.inl ⟨e,.inl (by show p2=l - 1; omega)⟩) (.inr ⟨rfl,.inr (by show t=t - 1+1; omega)⟩) (iF (.inl (by show p1 ≠ t; omega))) u (f _ ⟨aR6 _,tb,aR6 _,lr⟩)) ⟨aR6 _,lr⟩ e
    ·exact go r (cl (t - 1,r) (p1,p2) (t,r) ⟨by show B.t<=t - 1; omega,by show t - 1<=B.b; omega,by show B.l<=r; omega,s4⟩ (.inl ⟨e,.inr (by show p2=r+1; omega)⟩) (.inr ⟨rfl,.inr (by show t=t - 1+1; omega)⟩) (iF (.inl (by show p1 ≠ t; omega))) u (f _ ⟨aR6 _,tb,lr,aR6 _⟩)) ⟨lr,aR6 _⟩ e
   ·have hc:l<=p2/\p2<=r:=⟨by omega,by omega⟩
    have e2:p1=t - 1 - 1:=by omega
    have u1:U (t - 1,p2):=cl (t - 1,p2) (p1,p2) (t,p2) ⟨by show B.t<=t - 1; omega,by show t - 1<=B.b; omega,i3,i4⟩ (.inr ⟨rfl,.inl e2⟩) (.inr ⟨rfl,.inr (by show t=t - 1+1; omega)⟩) (iF (.inl (by show p1 ≠ t; omega))) u (f _ ⟨aR6 _,tb,hc.1,hc.2⟩)
    have f1:=rL cl f tb u1 hc ⟨by show B.t<=t - 1; omega,s2,s3,s4⟩
    have f2:=rL cl f1 (by omega) (c0:=p2) (by rw [<- e2]; exact u) hc ⟨by show B.t<=t - 1 - 1; omega,s2,s3,s4⟩
    exact⟨⟨t - 1 - 1,l,b,r⟩,⟨by show t - 1 - 1<=b; omega,lr⟩,⟨by show t - 1 - 1<=t; omega,aR6 _,aR6 _,aR6 _⟩,⟨by show t - 1 - 1<=p1; omega,c1,hc.1,hc.2⟩,⟨by show B.t<=t - 1 - 1; omega,s2,s3,s4⟩,f2⟩
 ·
  obtain ⟨s1,s2,s3,s4⟩:=s
  obtain ⟨i1,i2,i3,i4⟩:=ip
  dsimp only at *
  have go:∀ c0,U (b+1,c0)->l<=c0/\c0<=r->p1=b+1->jF B U ⟨t,l,b,r⟩ (p1,p2):=fun c0 u0 hc e=>
   jF.step (R1:=⟨t,l,b+1,r⟩) ⟨aR6 _,aR6 _,by show b<=b+1; omega,aR6 _⟩ (w4 cl u ⟨i1,i2,i3,i4⟩ (rK cl f tb u0 hc ⟨s1,s2,by show b+1<=B.b; omega,s4⟩) (by omega) lr ⟨s1,s2,by show b+1<=B.b; omega,s4⟩ ⟨by omega,by omega⟩ (by omega) (by omega))
  by_cases e:p1=b+1
  ·by_cases d1:p2<=r
   ·by_cases d2:l<=p2
    ·exact go p2 (by rw [<- e]; exact u) ⟨d2,d1⟩ e
    ·exact go l (cl (b+1,l) (p1,p2) (b,l) ⟨by show B.t<=b+1; omega,by show b+1<=B.b; omega,s2,by show l<=B.r; omega⟩ (.inl ⟨e,.inl (by show p2=l - 1; omega)⟩) (.inr ⟨rfl,.inl (by show b=b+1 - 1; omega)⟩) (iF (.inl (by show p1 ≠ b; omega))) u (f _ ⟨tb,aR6 _,aR6 _,lr⟩)) ⟨aR6 _,lr⟩ e
   ·exact go r (cl (b+1,r) (p1,p2) (b,r) ⟨by show B.t<=b+1; omega,by show b+1<=B.b; omega,by show B.l<=r; omega,s4⟩ (.inl ⟨e,.inr (by show p2=r+1; omega)⟩) (.inr ⟨rfl,.inl (by show b=b+1 - 1; omega)⟩) (iF (.inl (by show p1 ≠ b; omega))) u (f _ ⟨tb,aR6 _,lr,aR6 _⟩)) ⟨lr,aR6 _⟩ e
  ·have hc:l<=p2/\p2<=r:=⟨by omega,by omega⟩
   have e2:p1=b+1+1:=by omega
   have u1:U (b+1,p2):=cl (b+1,p2) (p1,p2) (b,p2) ⟨by show B.t<=b+1; omega,by show b+1<=B.b; omega,i3,i4⟩ (.inr ⟨rfl,.inr e2⟩) (.inr ⟨rfl,.inl (by show b=b+1 - 1; omega)⟩) (iF (.inl (by show p1 ≠ b; omega))) u (f _ ⟨tb,aR6 _,hc.1,hc.2⟩)
   have f1:=rK cl f tb u1 hc ⟨s1,s2,by show b+1<=B.b; omega,s4⟩
   have f2:=rK cl f1 (by omega) (c0:=p2) (by rw [<- e2]; exact u) hc ⟨s1,s2,by show b+1+1<=B.b; omega,s4⟩
   exact⟨⟨t,l,b+1+1,r⟩,⟨by show t<=b+1+1; omega,lr⟩,⟨aR6 _,aR6 _,by show b<=b+1+1; omega,aR6 _⟩,⟨by show t<=p1; omega,by show p1<=b+1+1; omega,hc.1,hc.2⟩,⟨s1,s2,by show b+1+1<=B.b; omega,s4⟩,f2⟩
end
theorem aI3 (cl:fB B U) {C:Bx} (fC:dA U C) (sC:b9 C B) {p:Int × Int} (pC:aP C p):∀ (n:Nat) (t l b r:Int),aP ⟨t,l,b,r⟩ p->dA U ⟨t,l,b,r⟩->b9 ⟨t,l,b,r⟩ B->(t - C.t).toNat+(l - C.l).toNat+(C.b - b).toNat+(C.r - r).toNat=n->∃ R,dA U R/\b9 ⟨t,l,b,r⟩ R/\b9 C R:=by
 obtain ⟨c1,c2,c3,c4⟩:=pC
 obtain ⟨d1,d2,d3,d4⟩:=sC
 intro n
 induction n with
 | zero=>
  intro t l b r pR f s h
  exact⟨_,f,b9.refl _,by show t<=C.t; omega,by show l<=C.l; omega,by show C.b<=b; omega,by show C.r<=r; omega⟩
 | succ n ih=>
  rintro t l b r ⟨a1,a2,a3,a4⟩ f ⟨s1,s2,s3,s4⟩ h
  dsimp only at a1 a2 a3 a4 s1 s2 s3 s4
  have tb:=aW1 a1 a2
  have lr:=aW1 a3 a4
  by_cases h1:C.t < t
  ·have s':b9 ⟨t - 1,l,b,r⟩ B:=⟨by show B.t<=t - 1; omega,s2,s3,s4⟩
   have u:=fC (t - 1,p.2) ⟨by show C.t<=t - 1; omega,by show t - 1<=C.b; omega,c3,c4⟩
   obtain ⟨R,g1,g2,g3⟩:=ih (t - 1) l b r ⟨by show t - 1<=p.1; omega,a2,a3,a4⟩ (rL cl f tb u ⟨a3,a4⟩ s') s' (by omega)
   exact⟨R,g1,b9.trans (y:=⟨t - 1,l,b,r⟩) ⟨by show t - 1<=t; omega,aR6 _,aR6 _,aR6 _⟩ g2,g3⟩
  ·by_cases h2:C.l < l
   ·have s':b9 ⟨t,l - 1,b,r⟩ B:=⟨s1,by show B.l<=l - 1; omega,s3,s4⟩
    have u:=fC (p.1,l - 1) ⟨c1,c2,by show C.l<=l - 1; omega,by show l - 1<=C.r; omega⟩
    obtain ⟨R,g1,g2,g3⟩:=ih t (l - 1) b r ⟨a1,a2,by show l - 1<=p.2; omega,a4⟩ (vZ cl f lr u ⟨a1,a2⟩ s') s' (by omega)
    exact⟨R,g1,b9.trans (y:=⟨t,l - 1,b,r⟩) ⟨aR6 _,by show l - 1<=l; omega,aR6 _,aR6 _⟩ g2,g3⟩
   ·by_cases h3:b < C.b
    ·have s':b9 ⟨t,l,b+1,r⟩ B:=⟨s1,s2,by show b+1<=B.b; omega,s4⟩
     have u:=fC (b+1,p.2) ⟨by show C.t<=b+1; omega,by show b+1<=C.b; omega,c3,c4⟩
     obtain ⟨R,g1,g2,g3⟩:=ih t l (b+1) r ⟨a1,by show p.1<=b+1; omega,a3,a4⟩ (rK cl f tb u ⟨a3,a4⟩ s') s' (by omega)
     exact⟨R,g1,b9.trans (y:=⟨t,l,b+1,r⟩) ⟨aR6 _,aR6 _,by show b<=b+1; omega,aR6 _⟩ g2,g3⟩
    ·have h4:r < C.r:=by omega
     have s':b9 ⟨t,l,b,r+1⟩ B:=⟨s1,s2,s3,by show r+1<=B.r; omega⟩
     have u:=fC (p.1,r+1) ⟨c1,c2,by show C.l<=r+1; omega,by show r+1<=C.r; omega⟩
     obtain ⟨R,g1,g2,g3⟩:=ih t l b (r+1) ⟨a1,a2,a3,by show p.2<=r+1; omega⟩ (vY cl f lr u ⟨a1,a2⟩ s') s' (by omega)
     exact⟨R,g1,b9.trans (y:=⟨t,l,b,r+1⟩) ⟨aR6 _,aR6 _,aR6 _,by show r<=r+1; omega⟩ g2,g3⟩
theorem S3 {a b c d g:Int} (ab:a<=b) (cd:c<=d) (g0:0<=g) (h1:c - b<=g) (h2:a - d<=g):∃ p,c<=p/\p<=d/\p - b<=g/\a - p<=g:=by
 by_cases e1:a<=c
 ·exact⟨c,aR6 _,cd,h1,by omega⟩
 ·by_cases e2:a<=d
  ·exact⟨a,by omega,e2,by omega,by omega⟩
  ·exact⟨d,cd,aR6 _,by omega,h2⟩
theorem aI4 {A C:Bx} (okA:okX A) (okC:okX C) (nr:bM A C=true) (cl:fB (bR A C) U) (fA:dA U A) (fC:dA U C):dA U (bR A C):=by
 obtain ⟨g,h,g0,h0,gh,a1,a2,b1,b2⟩:=R9 nr
 obtain ⟨p1,q1,q2,q3,q4⟩:=S3 okA.1 okC.1 g0 a1 a2
 obtain ⟨p2,r1,r2,r3,r4⟩:=S3 okA.2 okC.2 h0 b1 b2
 have pC:aP C (p1,p2):=⟨q1,q2,r1,r2⟩
 obtain ⟨⟨t,l,b,r⟩,k1,k2,k3,k4,k5⟩:=aI2 cl (fC _ pC) (vX pC) (t:=A.t) (l:=A.l) (b:=A.b) (r:=A.r) fA okA.1 okA.2 (rJ A C) g0 h0 gh q3 q4 r3 r4
 obtain ⟨R,m1,m2,m3⟩:=aI3 cl fC (vW A C) pC _ t l b r k3 k5 k4 rfl
 exact aH9 m1 (aH5 (b9.trans k2 m2) m3)
end
theorem S4 {x a:Int × Int} (h:gO x a):∃ g k:Int,0<=g/\0<=k/\g+k<=1/\a.1 - x.1<=g/\x.1 - a.1<=g/\a.2 - x.2<=k/\x.2 - a.2<=k:=by
 rcases h with ⟨h1,h2⟩ | ⟨h1,h2⟩
 ·exact⟨0,1,by decide,by decide,by decide,by omega,by omega,by omega,by omega⟩
 ·exact⟨1,0,by decide,by decide,by decide,by omega,by omega,by omega,by omega⟩
theorem S5 {T:List Bx} (pw:∀ x ∈ T,∀ y ∈ T,bM x y=true->x=y) (B:Bx):fB B (fun p=>∃ x ∈ T,aP x p):=by
 rintro x a b _ xa xb ne ⟨A,hA,ia⟩ ⟨C,hC,ib⟩
 obtain ⟨g,k,g0,k0,gk,d1,d2,d3,d4⟩:=S4 xa
 obtain ⟨g',k',g0',k0',gk',d1',d2',d3',d4'⟩:=S4 xb
 obtain ⟨i1,i2,i3,i4⟩:=ia
 obtain ⟨j1,j2,j3,j4⟩:=ib
 have nr:bM A C=true:=vT (g:=g+g') (h:=k+k') (by omega) (by omega) (by omega) (by omega) (by omega) (by omega) (by omega)
 have:=pw A hA C hC nr
 subst this
 refine⟨A,hA,?_⟩
 rcases xa with ⟨e1,e2⟩ | ⟨e1,e2⟩
 ·rcases xb with ⟨e3,e4⟩ | ⟨e3,e4⟩
  ·have:a.2 ≠ b.2:=fun z=>ne (bb5 (e1.trans e3.symm) z)
   exact⟨by omega,by omega,by omega,by omega⟩
  ·exact⟨by omega,by omega,by omega,by omega⟩
 ·rcases xb with ⟨e3,e4⟩ | ⟨e3,e4⟩
  ·exact⟨by omega,by omega,by omega,by omega⟩
  ·have:a.1 ≠ b.1:=fun z=>ne (bb5 z (e1.trans e3.symm))
   exact⟨by omega,by omega,by omega,by omega⟩
abbrev aT:=Int × Int
inductive dJ (B:Bx) (S:aT->Prop):aT->Prop
 | seed {x:aT}:S x->dJ B S x
 | kin {x a b:aT}:aP B x->gO x a->gO x b->a ≠ b->dJ B S a->dJ B S b->dJ B S x
theorem dJ.clo {B B':Bx}{S:aT->Prop} (s:b9 B' B):fB B' (dJ B S):=fun x a b h1 h2 h3 h4 h5 h6=>.kin (s.in_ h1) h2 h3 h4 h5 h6
theorem dJ.mono {B B':Bx}{S S':aT->Prop} (s:b9 B B') (h:∀ x,S x->S' x) {x:aT} (b:dJ B S x):dJ B' S' x:=by
 induction b with
 | seed z=>exact .seed (h _ z)
 | kin h1 h2 h3 h4 _ _ i1 i2=>exact .kin (s.in_ h1) h2 h3 h4 i1 i2
theorem dJ.least {B:Bx}{S U:aT->Prop} (cl:fB B U) (h:∀ x,S x->U x) {x:aT} (b:dJ B S x):U x:=by
 induction b with
 | seed z=>exact h _ z
 | kin h1 h2 h3 h4 _ _ i1 i2=>exact cl _ _ _ h1 h2 h3 h4 i1 i2
abbrev k8 (r c:Int):Bx:=⟨0,0,r - 1,c - 1⟩
theorem rM {r c:Int}{p:aT}:aP (k8 r c) p ↔ bG r c p=true:=by
 rw [eO]; unfold aP; dsimp only; omega
theorem rN {r c:Int}{x a:aT}:a ∈ bF r c x ↔ gO x a/\bG r c a=true:=by
 unfold bF
 rw [aV3]
 refine and_congr_left fun _=>?_
 unfold gC gO
 simp only [aR7,aS8,aV7,Prod.ext_iff]
 omega
theorem aI5 {r c:Int}{S:List aT} (bd:∀ x ∈ S,bG r c x=true) {p:aT} (h:hJ r c S p):bG r c p=true:=by
 cases h with
 | seed h=>exact bd _ h
 | kin h1 _ _ _ _ _=>exact h1
theorem rO {r c:Int}{S:List aT} (bd:∀ x ∈ S,bG r c x=true) {p:aT}:hJ r c S p ↔ dJ (k8 r c) (· ∈ S) p:=by
 have bd':∀ {q:aT},dJ (k8 r c) (· ∈ S) q->bG r c q=true:=fun {q} h=>by
  cases h with
  | seed h=>exact bd _ h
  | kin h1 _ _ _ _ _=>exact rM.mp h1
 constructor
 ·intro h
  induction h with
  | seed h=>exact .seed h
  | kin h1 h2 h3 h4 _ _ i1 i2=>exact .kin (rM.mpr h1) (rN.mp h2).1 (rN.mp h3).1 h4 i1 i2
 ·intro h
  induction h with
  | seed h=>exact .seed h
  | kin h1 h2 h3 h4 b1 b2 i1 i2=>exact .kin (rM.mp h1) (rN.mpr ⟨h2,bd' b1⟩) (rN.mpr ⟨h3,bd' b2⟩) h4 i1 i2
def hV (x:Bx):Int:=(x.b - x.t+1)+(x.r - x.l+1)
structure gP (G:List aT) (x:Bx):Prop where
 ok:okX x
 ins:∀ s ∈ G,aP x s
 full:∀ p,aP x p->dJ x (· ∈ G) p
 few:hV x<=2 * (G.length:Int)
theorem gP.cell (p:aT):gP [p] (cX p):=by
 refine⟨by unfold okX cX; exact⟨aR6 _,aR6 _⟩,fun s hs=>?_,fun q hq=>.seed ?_,?_⟩
 ·rw [aR9.mp hs]; unfold aP cX; dsimp only; omega
 ·unfold aP cX at hq
  dsimp only at hq
  exact aR9.mpr (bb5 (by omega) (by omega))
 ·unfold hV cX; dsimp only; simp only [ba1]; omega
theorem aI6 {x y:Bx} (h1:okX x) (h2:okX y) (nr:bM x y=true):hV (bR x y)<=hV x+hV y:=by
 have nr:=bg1 nr
 unfold jE at nr; unfold okX at h1 h2; unfold hV bR; dsimp only; omega
theorem gP.hull {G G':List aT}{x y:Bx} (h:gP G x) (h':gP G' y) (nr:bM x y=true):gP (G ++ G') (bR x y):=by
 refine⟨aH6 h.ok,fun s hs=>?_,?_,?_⟩
 ·rcases aV0.mp hs with z | z
  ·exact aH8 (h.ins s z)
  ·exact vX (h'.ins s z)
 ·exact aI4 h.ok h'.ok nr (dJ.clo (b9.refl _)) (fun p hp=>(h.full p hp).mono (rJ x y) fun s hs=>aU6 _ hs) (fun p hp=>(h'.full p hp).mono (vW x y) fun s hs=>aU2 _ hs)
 ·have:=aI6 h.ok h'.ok nr
  have:=h.few
  have:=h'.few
  rw [aU4]; omega
theorem gP.same {G G':List aT}{x:Bx} (h:gP G x) (h':∀ s ∈ G',aP x s):gP (G ++ G') x:=by
 refine⟨h.ok,fun s hs=>?_,fun p hp=>(h.full p hp).mono (b9.refl _) fun s hs=>aU6 _ hs,?_⟩
 ·rcases aV0.mp hs with z | z
  ·exact h.ins s z
  ·exact h' s z
 ·have:=h.few
  rw [aU4]; omega
def hZ (T:List Bx) (s:Bx × Bx):Bool:=decide (s.1 ∈ T) && (decide (s.2 ∈ T) && (HT.aO s.1.k s.2.k && bM s.1 s.2))
def gD (T:List Bx) (s:Bx × Bx):List Bx:=(T.erase s.1).erase s.2
def jG (T:List Bx) (s:Bx × Bx):List Bx:=if bR s.1 s.2 ∈ gD T s then gD T s else gD T s ++ [bR s.1 s.2]
def i5 (s:Bx × Bx) (T:List Bx):Option (List Bx):=if hZ T s=true then some (jG T s) else none
def dZ (T:List Bx) (sts:List (Bx × Bx)):Option (List Bx):=sts.foldl (fun o s=>o.bind (i5 s)) (some T)
theorem rP (T:List Bx) (sts:List (Bx × Bx)) (s:Bx × Bx):dZ T (sts ++ [s])=(dZ T sts).bind (i5 s):=by unfold dZ; rw [List.foldl_append]; rfl
theorem aI7 {T:List Bx}:∀ {a b:List (Bx × Bx)},dZ T a=none->dZ T (a ++ b)=none:=by
 intro a b h
 unfold dZ at *
 rw [List.foldl_append,h]
 induction b with
 | nil=>rfl
 | cons x r ih=>exact ih
theorem rQ {T:List Bx}{s:Bx × Bx}:hZ T s=true ↔ s.1 ∈ T/\s.2 ∈ T/\HT.aO s.1.k s.2.k=true/\bM s.1 s.2=true:=by
 unfold hZ
 simp only [aY6,aT6]
def cI (S:List aT) (T:List Bx):Prop:=∃ f:List (Bx × List aT),T=f.map (·.1)/\(∀ e ∈ f,gP e.2 e.1)/\(f.map (·.2)).flatten.Perm S
theorem cI.init (S:List aT):cI S (S.map cX):=by
 refine⟨S.map fun p=>(cX p,[p]),by rw [aY4]; rfl,fun e he=>?_,?_⟩
 ·obtain ⟨p,_,rfl⟩:=aU0.mp he
  exact gP.cell p
 ·rw [aY4]
  have:(S.map ((·.2) ∘ fun p:aT=>(cX p,[p]))).flatten=S:=by
   induction S with
   | nil=>rfl
   | cons a r ih=>show [a] ++ _=_; rw [ih]; rfl
  rw [this]
theorem cI.perm {S:List aT}{T T':List Bx} (p:T'.Perm T) (h:cI S T):cI S T':=by
 obtain ⟨f,rfl,h1,h2⟩:=h
 obtain ⟨g,pg,rfl⟩:∃ g:List (Bx × List aT),g.Perm f/\T'=g.map (·.1):=by
  clear h1 h2
  generalize hm:f.map (·.1)=m at p
  induction p generalizing f with
  | nil=>exact⟨f,bc8 _,hm.symm⟩
  | cons x _ ih=>
   cases f with
   | nil=>cases hm
   | cons e f=>
    cases hm
    obtain ⟨g,pg,hg⟩:=ih f rfl
    exact⟨e :: g,pg.cons _,by rw [hg]; rfl⟩
  | swap x y l=>
   match f,hm with
   | e :: e' :: f,hm=>
    cases hm
    exact⟨e' :: e :: f,bh0 _ _ _,rfl⟩
  | trans _ _ ih1 ih2=>
   obtain ⟨g,pg,hg⟩:=ih2 f hm
   obtain ⟨g',pg',hg'⟩:=ih1 g hg.symm
   exact⟨g',pg'.trans pg,hg'⟩
 exact⟨g,rfl,fun e he=>h1 e (pg.mem_iff.mp he),((pg.map _).flatten).trans h2⟩
theorem cI.join {S:List aT}{x y:Bx}{T:List Bx} (h:cI S (x :: y :: T)) (nr:bM x y=true):cI S (bR x y :: T):=by
 obtain ⟨f,e,h1,h2⟩:=h
 match f,e with
 | ex :: ey :: f,e=>
  cases e
  refine⟨(bR ex.1 ey.1,ex.2 ++ ey.2) :: f,rfl,fun e he=>?_,?_⟩
  ·rcases aR7.mp he with rfl | he
   ·exact (h1 ex aS6).hull (h1 ey (aS2 _ aS6)) nr
   ·exact h1 e (aS2 _ (aS2 _ he))
  ·have:(((bR ex.1 ey.1,ex.2 ++ ey.2) :: f).map (·.2)).flatten=((ex :: ey :: f).map (·.2)).flatten:=by
    simp only [aW8,List.flatten_cons,aT1]
   rw [this]; exact h2
theorem cI.dup {S:List aT}{x:Bx}{T:List Bx} (h:cI S (x :: T)) (hx:x ∈ T):cI S T:=by
 obtain ⟨f,e,h1,h2⟩:=h
 match f,e with
 | ex :: f,e=>
  cases e
  obtain ⟨ey,hy,e2⟩:=aU0.mp hx
  obtain ⟨a,b,rfl⟩:=List.append_of_mem hy
  refine⟨a ++ (ey.1,ey.2 ++ ex.2) :: b,by simp,fun e he=>?_,?_⟩
  ·rcases aV0.mp he with z | z
   ·exact h1 e (aS2 _ (aU6 _ z))
   ·rcases aR7.mp z with rfl | z
    ·refine (h1 ey (by simp)).same fun s hs=>?_
     have e2:ey.1=ex.1:=e2
     rw [e2]
     exact (h1 ex aS6).ins s hs
    ·exact h1 e (aS2 _ (aU2 _ (aS2 _ z)))
  ·refine List.Perm.trans ?_ h2
   simp only [aT9,aW8,List.flatten_append,List.flatten_cons]
   have p1:(ey.2 ++ ex.2 ++ (b.map (·.2)).flatten).Perm (ex.2 ++ (ey.2 ++ (b.map (·.2)).flatten)):=by
    rw [aT1]
    refine aY1.trans ?_
    rw [aT1]
    exact bf5 _ aY1
   refine (bf5 _ p1).trans ?_
   rw [<- aT1,<- aT1 ex.2]
   exact List.Perm.append_right _ aY1
theorem S6 {x y:Bx} (h:HT.aO x.k y.k=true):x ≠ y:=fun e=>by
 subst e
 have:=kK h
 rw [h] at this; cases this
theorem w5 {T:List Bx}{s:Bx × Bx} (ok:hZ T s=true):T.Perm (s.1 :: s.2 :: gD T s):=by
 obtain ⟨h1,h2,h3,_⟩:=rQ.mp ok
 have:s.2 ∈ T.erase s.1:=(List.mem_erase_of_ne (S6 h3).symm).mpr h2
 exact (List.perm_cons_erase h1).trans ((List.perm_cons_erase this).cons _)
theorem cI.step {S:List aT}{T:List Bx}{s:Bx × Bx} (h:cI S T) (ok:hZ T s=true):cI S (jG T s):=by
 have h2:=(h.perm (w5 ok).symm).join (rQ.mp ok).2.2.2
 unfold jG
 by_cases e:bR s.1 s.2 ∈ gD T s
 ·rw [if_pos e]; exact h2.dup e
 ·rw [if_neg e]; exact h2.perm (aY1 (l₁:=gD T s) (l₂:=[bR s.1 s.2]))
theorem aI8 {T:List Bx}{s:Bx × Bx} (nd:T.Nodup):(jG T s).Nodup:=by
 have:(gD T s).Nodup:=(nd.erase _).erase _
 unfold jG
 split
 ·exact this
 ·rename_i h
  exact bb8.mpr ⟨this,aW0 _ _,fun a ha b hb e=>h (by rw [<- aR9.mp hb,<- e]; exact ha)⟩
theorem oA {S:List aT} (nd:S.Nodup):∀ (sts:List (Bx × Bx)) {T:List Bx},dZ (S.map cX) sts=some T->cI S T/\T.Nodup:=by
 intro sts
 rcases List.eq_nil_or_concat sts with rfl | ⟨a,s,rfl⟩
 ·intro T h
  cases h
  refine⟨cI.init S,ba4.mpr (nd.imp fun {a b} ne e=>ne ?_)⟩
  unfold cX at e
  simp only [Bx.mk.injEq] at e
  exact bb5 e.1 e.2.1
 ·intro T h
  rw [List.concat_eq_append,rP] at h
  cases hw:dZ (S.map cX) a with
  | none=>rw [hw] at h; cases h
  | some T1=>
   rw [hw] at h
   obtain ⟨o1,n1⟩:=oA nd a hw
   have h:i5 s T1=some T:=h
   unfold i5 at h
   split at h
   ·rename_i ok
    cases h
    exact⟨o1.step ok,aI8 n1⟩
   ·cases h
 termination_by sts=>sts.length
 decreasing_by subst_vars; simp
def dU (T:List Bx):Prop:=T.Pairwise fun x y=>bM x y=false
theorem dU.eq {T:List Bx} (h:dU T) {x y:Bx} (hx:x ∈ T) (hy:y ∈ T) (nr:bM x y=true):x=y:=by
 obtain ⟨i,hi,rfl⟩:=aY2 hx
 obtain ⟨j,hj,rfl⟩:=aY2 hy
 have pw:=aX3.mp h
 rcases Nat.lt_trichotomy i j with z | z | z
 ·rw [pw i j hi hj z] at nr; cases nr
 ·subst z; rfl
 ·rw [vU,pw j i hj hi z] at nr; cases nr
theorem cI.on_board {r c:Int}{S G:List aT}{x:Bx} (bd:∀ p ∈ S,bG r c p=true) (gs:∀ s ∈ G,s ∈ S) (sp:gP G x) {p:aT} (hp:aP x p):aP (k8 r c) p:=by
 have okk:=sp.ok
 unfold okX at okk
 have gb:∀ s ∈ G,aP (k8 r c) s:=fun s hs=>rM.mpr (bd s (gs s hs))
 have key:∀ q,aP x q->dJ x (· ∈ G) q:=sp.full
 have cl:fB x (fun q=>aP (k8 r c) q):=by
  intro y a b hy ya yb ne ua ub
  have ne':a.1 ≠ b.1 ∨ a.2 ≠ b.2:=Classical.byContradiction fun z=>ne (bb5 (by omega) (by omega))
  unfold aP gO at *
  dsimp only at *
  omega
 exact (key p hp).least cl gb
theorem cI.burnt {r c:Int}{S:List aT}{T:List Bx} (o:cI S T) (far:dU T) (bd:∀ x ∈ S,bG r c x=true) (p:aT):(∃ x ∈ T,aP x p) ↔ hJ r c S p:=by
 obtain ⟨f,rfl,h1,h2⟩:=o
 rw [rO bd]
 have insd:∀ e ∈ f,∀ s ∈ e.2,s ∈ S:=fun e he s hs=>h2.mem_iff.mp (List.mem_flatten.mpr ⟨e.2,aU0.mpr ⟨e,he,rfl⟩,hs⟩)
 constructor
 ·rintro ⟨x,hx,hp⟩
  obtain ⟨e,he,rfl⟩:=aU0.mp hx
  have sp:=h1 e he
  refine (sp.full p hp).least (fun x a b hx2 xa xb ne ua ub=>?_) fun s hs=>.seed (insd e he s hs)
  refine dJ.kin ?_ xa xb ne ua ub
  exact cI.on_board bd (insd e he) sp hx2
 ·intro h
  refine h.least (S5 (fun x hx y hy=>far.eq hx hy) _) fun s hs=>?_
  obtain ⟨g,hg,hs2⟩:=List.mem_flatten.mp (h2.mem_iff.mpr hs)
  obtain ⟨e,he,rfl⟩:=aU0.mp hg
  exact⟨e.1,aU0.mpr ⟨e,he,rfl⟩,(h1 e he).ins s hs2⟩
theorem cI.ok {S:List aT}{T:List Bx} (o:cI S T) {x:Bx} (hx:x ∈ T):okX x:=by
 obtain ⟨f,rfl,h1,_⟩:=o
 obtain ⟨e,he,rfl⟩:=aU0.mp hx
 exact (h1 e he).ok
theorem S7 {T:List Bx} (far:dU T) {x:Bx} (ok:okX x) (h:∀ p,aP x p->∃ y ∈ T,aP y p):∃ y ∈ T,∀ p,aP x p->aP y p:=by
 unfold okX at ok
 obtain ⟨y,hy,h0⟩:=h (x.t,x.l) (by unfold aP; dsimp only; omega)
 refine⟨y,hy,?_⟩
 have:∀ (n:Nat) (p:aT),aP x p->(p.1 - x.t+(p.2 - x.l)).toNat=n->aP y p:=by
  intro n
  induction n with
  | zero=>
   intro p hp hn
   unfold aP at hp
   rw [show p=(x.t,x.l) from bb5 (by omega) (by omega)]
   exact h0
  | succ n ih=>
   intro p hp hn
   obtain ⟨y',hy',hp'⟩:=h p hp
   obtain ⟨q,hq,aq,hqn⟩:∃ q:aT,aP x q/\gO p q/\(q.1 - x.t+(q.2 - x.l)).toNat=n:=by
    unfold aP at hp
    by_cases e:x.t < p.1
    ·exact⟨(p.1 - 1,p.2),by unfold aP; dsimp only; omega,.inr ⟨rfl,.inl rfl⟩,by dsimp only; omega⟩
    ·exact⟨(p.1,p.2 - 1),by unfold aP; dsimp only; omega,.inl ⟨rfl,.inl rfl⟩,by dsimp only; omega⟩
   have iq:=ih q hq hqn
   have nr:bM y y'=true:=aR3 (by unfold jE; unfold aP gO at *; omega)
   rw [far.eq hy hy' nr]; exact hp'
 exact fun p hp=>this _ p hp rfl
theorem S8 {T T':List Bx} (far:dU T) (far':dU T') (ok:∀ x ∈ T,okX x) (ok':∀ x ∈ T',okX x) (same:∀ p,(∃ x ∈ T,aP x p) ↔ ∃ x ∈ T',aP x p) {x:Bx} (hx:x ∈ T):x ∈ T':=by
 obtain ⟨y,hy,h1⟩:=S7 far' (ok x hx) fun p hp=>(same p).mp ⟨x,hx,hp⟩
 obtain ⟨z,hz,h2⟩:=S7 far (ok' y hy) fun p hp=>(same p).mpr ⟨y,hy,hp⟩
 have okx:=ok x hx
 have oky:=ok' y hy
 unfold okX at okx oky
 have a1:=h1 (x.t,x.l) (by unfold aP; dsimp only; omega)
 have a2:=h1 (x.b,x.r) (by unfold aP; dsimp only; omega)
 have e:x=z:=far.eq hx hz (vV (p:=(x.t,x.l)) (by unfold aP; dsimp only; omega) (h2 _ a1))
 subst e
 have b1:=h2 (y.t,y.l) (by unfold aP; dsimp only; omega)
 have b2:=h2 (y.b,y.r) (by unfold aP; dsimp only; omega)
 have:x=y:=by
  obtain ⟨p,q,u,v⟩:=x
  obtain ⟨p',q',u',v'⟩:=y
  unfold aP at a1 a2 b1 b2
  dsimp only at *
  simp only [Bx.mk.injEq]
  omega
 rw [this]; exact hy
theorem lA {i:Nat}{x:PV}{g:Bool}{ρ:bH}{Q:bH->Prop} (f:flat x=true) (q:Q (ρ.set i (some (.sh true x)))):cY i x g ρ Q:=by
 unfold cY
 rw [f,Bool.or_true]
 exact q
theorem mI {b:Bool}{x:PV}{P:Prop} (h:(Slot.sh b x).tag = .rd):P:=by cases b <;> cases h
abbrev bV (x:Bx):PV:=.tup (intz x.k)
abbrev bJ (bs:List Bx):List PV:=jD (bs.map Bx.k)
theorem lB (x:Bx):flat (bV x)=true:=qN x.k
theorem mJ {bs:List Bx}{i:Nat}{v:PV} (h:(bJ bs)[i]? = some v):∃ x,v=bV x/\bs[i]? = some x:=by
 unfold bJ jD at h
 rw [aY4,aT4] at h
 cases e:bs[i]? with
 | none=>rw [e] at h; cases h
 | some x=>rw [e] at h; cases h; exact⟨x,rfl,rfl⟩
theorem oB (bs:List Bx):(bJ bs).length=bs.length:=by unfold bJ jD; rw [aS1,aS1]
theorem aI9 (bs:List Bx):flats (bJ bs)=true:=J6 _
def oC:bZ:=fun xs Q=>∃ a b c d:Int,xs = [.int a,.int b,.int c,.int d]/\Q (.int (jE a b c d))
def S9:aV:=(bQ (aM vP (a8 (qC (.int 0)) (a8 (eL (a7 2) (a7 1)) (a8 (eL (a7 0) (a7 3)) aD)))))
theorem aJ0:dS S9 ["start","end","other_start","other_end"] oC:=by
 rintro xs Q ⟨a,b,c,d,rfl,q⟩
 exact⟨_,rfl,_,rfl,c,b,rfl,rfl,_,rfl,_,rfl,a,d,rfl,rfl,_,_,_,rfl,trivial,q⟩
def mK:bZ:=fun xs Q=>∃ x y:Bx,xs = [bV x,bV y]/\Q (.bl (bM x y))
def T0:aV:=(aI (bC 2 (aM oC (a8 (bD (a7 0) (qC (.int 0))) (a8 (bD (a7 0) (qC (.int 2))) (a8 (bD (a7 1) (qC (.int 0))) (a8 (bD (a7 1) (qC (.int 2))) aD))))))
 (aI (bC 3 (aM oC (a8 (bD (a7 0) (qC (.int 1))) (a8 (bD (a7 0) (qC (.int 3))) (a8 (bD (a7 1) (qC (.int 1))) (a8 (bD (a7 1) (qC (.int 3))) aD))))))
 (bQ (nL (cK (a7 2) (a7 3)) (qC (.int 2))))))
theorem aJ1:dS T0 ["one","other","between_rows","between_columns"] mK:=by
 rintro xs Q ⟨x,y,rfl,q⟩
 refine⟨_,rfl,_,_,_,rfl,rfl,rfl,_,rfl,_,_,_,rfl,rfl,rfl,_,rfl,_,_,_,rfl,rfl,rfl,_,rfl,_,_,_,rfl,rfl,rfl,_,_,_,_,rfl,trivial,?_⟩
 refine⟨_,rfl,_,_,_,rfl,rfl,rfl,_,rfl,_,_,_,rfl,rfl,rfl,_,rfl,_,_,_,rfl,rfl,rfl,_,rfl,_,_,_,rfl,rfl,rfl,_,_,_,_,rfl,trivial,?_⟩
 exact⟨_,rfl,_,rfl,_,_,rfl,rfl,_,_,rfl,rfl,trivial,q⟩
def mL:bZ:=fun xs Q=>∃ x y:Bx,xs = [bV x,bV y]/\Q (bV (bR x y))
def T2:aV:=(bQ (cW (a8 (aM nG (a8 (bD (a7 0) (qC (.int 0))) (a8 (bD (a7 1) (qC (.int 0))) aD))) (a8 (aM nG (a8 (bD (a7 0) (qC (.int 1))) (a8 (bD (a7 1) (qC (.int 1))) aD))) (a8 (aM lP (a8 (bD (a7 0) (qC (.int 2))) (a8 (bD (a7 1) (qC (.int 2))) aD))) (a8 (aM lP (a8 (bD (a7 0) (qC (.int 3))) (a8 (bD (a7 1) (qC (.int 3))) aD))) aD))))))
theorem T3 (i j:Int):(if j < i then j else i)=min i j:=by split <;> omega
theorem T4 (i j:Int):(if j > i then j else i)=max i j:=by split <;> omega
theorem aJ2:dS T2 ["one","other"] mL:=by
 rintro xs Q ⟨x,y,rfl,q⟩
 refine⟨_,rfl,_,_,_,rfl,rfl,rfl,_,rfl,_,_,_,rfl,rfl,rfl,x.t,y.t,rfl,_,rfl,_,_,_,rfl,rfl,rfl,_,rfl,_,_,_,rfl,rfl,rfl,x.l,y.l,rfl,
  _,rfl,_,_,_,rfl,rfl,rfl,_,rfl,_,_,_,rfl,rfl,rfl,x.b,y.b,rfl,_,rfl,_,_,_,rfl,rfl,rfl,_,rfl,_,_,_,rfl,rfl,rfl,x.r,y.r,rfl,by show 4<=1000; decide,rfl,trivial,?_⟩
 show Q (.tup [.int (if y.t < x.t then y.t else x.t),.int (if y.l < x.l then y.l else x.l),.int (if y.b > x.b then y.b else x.b),.int (if y.r > x.r then y.r else x.r)])
 rw [T3,T3,T4,T4]
 exact q
def mM:bZ:=fun xs Q=>∃ (x:PV) (ls:List (Int × Int)),xs = [x]/\(x = .tup (aG ls) ∨ x = .lst (aG ls))/\ls.length<=4096/\Q (.lst (bJ (ls.map cX)))
def T5:aV:=(bQ (gX (eJ (a7 0)) [none,none] (gW 0 1) iB (cW (a8 (a7 0) (a8 (a7 1) (a8 (a7 0) (a8 (a7 1) aD)))))))
theorem aJ3:dS T5 ["cells"] mM:=by
 rintro xs Q ⟨x,ls,rfl,hx,hl,q⟩
 have sx:iS x=some (aG ls):=by rcases hx with rfl | rfl <;> rfl
 refine⟨_,rfl,aG ls,sx,mI,by rw [dY]; omega,fun i acc=>acc=bJ ((ls.take i).map cX),rfl,?_,?_⟩
 ·rintro i v acc hv rfl
  obtain ⟨l,rfl,h⟩:=jZ hv
  refine⟨_,_,rfl,?_⟩
  unfold iB
  dsimp only
  rw [if_pos rfl]
  refine⟨_,rfl,_,rfl,_,rfl,_,rfl,by show 4<=1000; decide,rfl,trivial,?_⟩
  have tk:ls.take (i+1)=ls.take i ++ [l]:=by rw [aX8,h]; rfl
  rw [tk,aT9]
  unfold bJ jD
  rw [aT9,aT9]
  rfl
 ·rintro acc rfl
  rw [dY,aX7]
  exact⟨trivial,q⟩
def w6:Option Bx->PV
 | some y=>bV y
 | none=>.non
def lC:bZ:=fun xs Q=>∃ (bs:List Bx) (x:Bx),xs = [.lst (bJ bs),bV x]/\Q (w6 (bs.find? fun y=>bM y x))
def T6:aV:=(aI (eC (eJ (a7 0)) (cY 2)
  (bY (aZ (aM mK (a8 (a7 2) (a8 (a7 1) aD)))) (kO 2) cB))
 (bQ (qC .non)))
theorem T7 {bs:List Bx}{x:Bx} (h:∀ y ∈ bs,bM y x=false):bs.find? (fun y=>bM y x)=none:=by
 rw [List.find?_eq_none]
 intro y hy
 rw [h y hy]; exact aT5
theorem aJ4 {bs:List Bx}{x y:Bx}{i:Nat} (h:∀ z ∈ bs.take i,bM z x=false) (hi:bs[i]? = some y) (hy:bM y x=true):bs.find? (fun y=>bM y x)=some y:=by
 have hl:=(aS0.mp hi).1
 have e:bs=bs.take i ++ y :: bs.drop (i+1):=by
  have:=(aV1 i bs).symm
  rw [bd4 hl] at this
  rw [(aS0.mp hi).2] at this
  exact this
 rw [e,List.find?_append,T7 h]
 simp [hy]
theorem aJ5:dS T6 ["boxes","box","other"] lC:=by
 rintro xs Q ⟨bs,x,rfl,q⟩
 refine⟨_,rfl,bJ bs,rfl,mI,fun i ρ=>(∀ y ∈ bs.take i,bM y x=false)/\∃ z,ρ = [some (.sh (flat (.lst (bJ bs))) (.lst (bJ bs))),some (.sh (flat (bV x)) (bV x)),z],⟨fun y hy=>(by rw [List.take_zero] at hy; cases hy),none,rfl⟩,?_,?_⟩
 ·rintro i v ρ hv ⟨hno,z,rfl⟩
  obtain ⟨y,rfl,hy⟩:=mJ hv
  refine lA (lB y) ?_
  refine⟨_,rfl,_,rfl,y,x,rfl,_,rfl,?_⟩
  cases hn:bM y x with
  | true=>
   refine aX ⟨_,rfl,trivial,?_⟩
   rw [aJ4 hno hy hn] at q
   exact q
  | false=>
   refine aL ⟨fun w hw=>?_,_,rfl⟩
   rw [aX8,hy] at hw
   rcases aV0.mp hw with g | g
   ·exact hno w g
   ·rw [show w=y by simpa using g]; exact hn
 ·rintro ρ ⟨hno,z,rfl⟩
  rw [oB,aX7] at hno
  rw [T7 hno] at q
  exact⟨trivial,q⟩
abbrev lD (s:Bx × Bx):PV:=.tup [bV s.1,bV s.2]
theorem aJ6 (s:Bx × Bx):flat (lD s)=true:=by
 show (flat (bV s.1) && (flat (bV s.2) && true))=true
 rw [lB,lB]; rfl
def bN (T:List Bx):List (List aJ × PV):=T.map fun x=>(kn x.k,PV.bl true)
theorem T8 {a b:Bx} (h:kn a.k=kn b.k):a=b:=Bx.k_inj (by
 have:=congrArg (List.map fun k:aJ=>match k with | .inl i=>i | .inr _=>0) h
 unfold kn at this
 rw [aY4,aY4] at this
 exact (List.map_id _).symm.trans (Eq.trans this (List.map_id _)))
theorem aJ7 (T:List Bx):(bN T).map (·.1)=(T.map Bx.k).map kn:=by unfold bN; rw [aY4,aY4]; rfl
theorem T9 (T:List Bx) (x:Bx):((bN T).any fun p=>decide (p.1=kn x.k))=decide (x ∈ T):=by
 rw [aX4,List.any_eq_true,aT6]
 unfold bN
 refine⟨fun ⟨p,hp,e⟩=>?_,fun h=>⟨_,aU0.mpr ⟨x,h,rfl⟩,aR3 rfl⟩⟩
 obtain ⟨y,hy,rfl⟩:=aU0.mp hp
 rw [<- T8 (bg1 e:kn y.k=kn x.k)]; exact hy
theorem U0 (T:List Bx) (x:Bx):(bS (bN T) (kn x.k)).isSome=decide (x ∈ T):=by rw [<- mD,T9]
theorem U1 (T:List Bx) (x:Bx):dP (bN T) (kn x.k) (.bl true)=bN (if x ∈ T then T else T ++ [x]):=by
 unfold dP
 rw [T9]
 by_cases h:x ∈ T
 ·rw [aR3 h,if_pos rfl,if_pos h]
  unfold bN
  rw [aY4]
  refine List.map_congr_left fun y _=>?_
  show (if kn y.k=kn x.k then (kn y.k,PV.bl true) else (kn y.k,PV.bl true))=_
  split <;> rfl
 ·rw [aR2 h,if_neg (by decide),if_neg h]
  unfold bN
  rw [aT9]; rfl
theorem U2 (T:List Bx):(bN T).length=T.length:=by unfold bN; rw [aS1]
theorem aJ8 (T:List Bx):flats ((bN T).map (·.2))=true:=by
 unfold bN
 rw [aY4]
 induction T with
 | nil=>rfl
 | cons a r ih=>exact ih
theorem mO (l:List Int):(kn l).map kP=intz l:=by unfold kn; rw [aY4]; rfl
def rR:bZ:=fun xs Q=>∃ (T:List Bx) (s:Bx × Bx),xs = [.dT (bN T),lD s]/\Q (.bl (hZ T s))
def U3 (K:PySem.W.Frag):aV:=(aI (bY (fJ (iQ (aZ (lT K "tuple" (a7 1)))) (aZ (u7 (aM gU (a8 (a7 1) aD)) (qC (.int 2))))) (bQ (qC (.bl false))) cB)
 (aI (bY (fJ (aZ (nJ true (bD (a7 1) (qC (.int 0))) (a7 0))) (aZ (nJ true (bD (a7 1) (qC (.int 1))) (a7 0)))) (bQ (qC (.bl false))) cB)
 (bQ (iR (q2 qX (bD (a7 1) (qC (.int 0))) (bD (a7 1) (qC (.int 1)))) (aM mK (a8 (bD (a7 1) (qC (.int 0))) (a8 (bD (a7 1) (qC (.int 1))) aD)))))))
theorem aJ9 {K:PySem.W.Frag} (kt:PySem.W.kitOne K (.type "tuple") (.type "tuple")=some true):dS (U3 K) ["there","step"] rR:=by
 rintro xs Q ⟨T,s,rfl,q⟩
 refine⟨_,rfl,_,_,rfl,kt,_,rfl,aL ⟨_,rfl,_,_,rfl,rfl,.inl ⟨_,_,rfl,rfl,_,rfl,aL ?_⟩⟩⟩
 refine⟨_,rfl,_,_,_,rfl,rfl,rfl,_,rfl,_,.inr ⟨bN T,kn s.1.k,rfl,by rw [mO],rfl⟩,_,rfl,?_⟩
 show if (!(bS (bN T) (kn s.1.k)).isSome)=true then _ else _
 rw [U0]
 by_cases h1:s.1 ∈ T
 ·rw [aR3 h1]
  refine aL ⟨_,rfl,_,_,_,rfl,rfl,rfl,_,rfl,_,.inr ⟨bN T,kn s.2.k,rfl,by rw [mO],rfl⟩,_,rfl,?_⟩
  show if (!(bS (bN T) (kn s.2.k)).isSome)=true then _ else _
  rw [U0]
  by_cases h2:s.2 ∈ T
  ·rw [aR3 h2]
   refine aL ⟨_,rfl,_,_,_,rfl,rfl,rfl,_,rfl,_,_,_,rfl,rfl,rfl,s.1.k,s.2.k,rfl,rfl,_,rfl,?_⟩
   unfold hZ at q
   rw [aR3 h1,aR3 h2,be0,be0] at q
   cases hl:HT.aO s.1.k s.2.k with
   | true=>
    rw [hl,be0] at q
    exact aX ⟨_,rfl,_,_,_,rfl,rfl,rfl,_,rfl,_,_,_,rfl,rfl,rfl,s.1,s.2,rfl,trivial,q⟩
   | false=>
    rw [hl,aW5] at q
    exact aL ⟨trivial,q⟩
  ·rw [aR2 h2]
   unfold hZ at q
   rw [aR2 h2,aW5,aU8] at q
   exact aX ⟨trivial,q⟩
 ·rw [aR2 h1]
  unfold hZ at q
  rw [aR2 h1,aW5] at q
  exact aX (aX ⟨trivial,q⟩)
def rS:bZ:=fun xs Q=>∃ ls:List Bx,xs = [.lst (bJ ls)]/\ls.Nodup/\ls.length<=4096/\Q (.dT (bN ls))
def U4:aV:=(aI (gL 1 (qC (.dT [])))
 (aI (eC (eJ (a7 0)) (cY 2)
  (kS 1 (a7 2) (qC (.bl true))))
 (kO 1)))
theorem aK0:dS U4 ["hearths","inside","hearth"] rS:=by
 rintro xs Q ⟨ls,rfl,nd,hl,q⟩
 refine⟨rfl,rfl,_,rfl,bJ ls,rfl,mI,fun i ρ=>∃ y,ρ = [some (.sh (flat (.lst (bJ ls))) (.lst (bJ ls))),some (.own (.dT (bN (ls.take i)))),y],⟨none,rfl⟩,?_,?_⟩
 ·rintro i y ρ hy ⟨y0,rfl⟩
  obtain ⟨l,rfl,h⟩:=mJ hy
  have tk:dP (bN (ls.take i)) (kn l.k) (.bl true)=bN (ls.take (i+1)):=by rw [U1,if_neg (o9 nd h),aX8,h]; rfl
  refine⟨_,rfl,_,rfl,kn l.k,by rw [mO]; rfl,trivial,by rw [U2,bd5]; omega,?_⟩
  rw [tk]
  exact⟨_,rfl⟩
 ·rintro ρ ⟨y,rfl⟩
  rw [oB,aX7]
  exact⟨_,rfl,trivial,q⟩
theorem U5 {α:Type}:∀ {l:List α}{j:Nat}{x:α},l[j]? = some x->l.Perm (x :: l.eraseIdx j)
 | [],_,_,h=>by simp at h
 | a :: l,0,x,h=>by simp at h; subst h; exact bc8 _
 | a :: l,j+1,x,h=>by
  rw [aV8] at h
  exact ((U5 h).cons a).trans (bh0 _ _ _)
theorem U6 {l:List Bx}{j:Nat}{x:Bx} (nd:l.Nodup) (h:l[j]? = some x):l.eraseIdx j=l.erase x:=by
 induction l generalizing j with
 | nil=>simp at h
 | cons a l ih=>
  obtain ⟨h1,h2⟩:=bc0.mp nd
  cases j with
  | zero=>simp at h; subst h; simp
  | succ j=>
   rw [aV8] at h
   have:a ≠ x:=fun e=>h1 (by rw [e]; exact bc4 h)
   rw [List.eraseIdx_cons_succ,ih h2 h,List.erase_cons_tail (by simpa using this)]
theorem aK1 {α β:Type}{f:α->β}{zs:List β}{l:List α} (p:zs.Perm (l.map f)):∃ l':List α,zs=l'.map f/\l'.Perm l:=by
 generalize hm:l.map f=m at p
 induction p generalizing l with
 | nil=>exact⟨l,hm.symm,bc8 _⟩
 | cons x _ ih=>
  cases l with
  | nil=>cases hm
  | cons e l=>
   cases hm
   obtain ⟨g,hg,pg⟩:=ih rfl
   exact⟨e :: g,by rw [hg]; rfl,pg.cons _⟩
 | swap x y z=>
  match l,hm with
  | e :: e' :: l,hm=>
   cases hm
   exact⟨e' :: e :: l,rfl,bh0 _ _ _⟩
 | trans _ _ ih1 ih2=>
  obtain ⟨g,hg,pg⟩:=ih2 hm
  obtain ⟨g',hg',pg'⟩:=ih1 hg.symm
  exact⟨g',hg',pg'.trans pg⟩
theorem dU.perm {T T':List Bx} (p:T.Perm T') (h:dU T):dU T':=(p.pairwise_iff fun {x y} z=>by rw [vU]; exact z).mp h
theorem aK2 {ls:List aT} (nd:ls.Nodup):(ls.map cX).Nodup:=ba4.mpr (nd.imp fun {a b} ne e=>ne (by
 unfold cX at e
 simp only [Bx.mk.injEq] at e
 exact bb5 e.1 e.2.1))
structure k9 (ls:List aT) (sts:List (Bx × Bx)) (se more:List Bx):Prop where
 ex:∃ T,dZ (ls.map cX) sts=some T/\T.Perm (se ++ more)
 far:dU se
def dL (g c:Bx):Bx × Bx:=if HT.aO c.k g.k=true then (c,g) else (g,c)
theorem U7 {g c:Bx} (ne:g ≠ c) (h:HT.aO c.k g.k=false):HT.aO g.k c.k=true:=by
 cases e:HT.aO g.k c.k with
 | true=>rfl
 | false=>exact absurd (Bx.k_inj (tG e h)) ne
theorem aK3 {g c:Bx} (h1:okX g) (h2:okX c) (ne:g ≠ c):3<=hV (bR g c):=by
 refine Classical.byContradiction fun z=>ne ?_
 obtain ⟨a,b,d,e⟩:=g
 obtain ⟨a',b',d',e'⟩:=c
 unfold hV bR at z
 unfold okX at h1 h2
 dsimp only at *
 simp only [Bx.mk.injEq]
 omega
theorem k9.step {ls:List aT}{sts:List (Bx × Bx)}{se:List Bx}{g c:Bx}{more:List aT}{j:Nat} (nd:ls.Nodup) (h:k9 ls sts se (g :: more.map cX)) (hj:se[j]? = some c) (nr:bM c g=true) :
  g ≠ c/\k9 ls (sts ++ [dL g c]) (se.eraseIdx j) (bR g c :: more.map cX):=by
 obtain ⟨T,hw,pm⟩:=h.ex
 obtain ⟨ow,tnd⟩:=oA nd sts hw
 have snd:(se ++ g :: more.map cX).Nodup:=pm.nodup_iff.mp tnd
 have hc:=bc4 hj
 obtain ⟨nd1,nd2,nd3⟩:=bb8.mp snd
 have ne:g ≠ c:=fun e=>nd3 c hc g aS6 e.symm
 have gT:g ∈ T:=pm.mem_iff.mpr (by simp)
 have cT:c ∈ T:=pm.mem_iff.mpr (aU6 _ hc)
 have okg:=ow.ok gT
 have okc:=ow.ok cT
 have p1:(dL g c).1=c/\(dL g c).2=g ∨ (dL g c).1=g/\(dL g c).2=c:=by unfold dL; split; exact .inl ⟨rfl,rfl⟩; exact .inr ⟨rfl,rfl⟩
 have hu:bR (dL g c).1 (dL g c).2=bR g c:=by
  rcases p1 with ⟨e1,e2⟩ | ⟨e1,e2⟩ <;> rw [e1,e2]
  exact aH7 _ _
 have ok:hZ T (dL g c)=true:=by
  refine rQ.mpr ⟨?_,?_,?_,?_⟩
  ·rcases p1 with ⟨e1,_⟩ | ⟨e1,_⟩ <;> rw [e1] <;> assumption
  ·rcases p1 with ⟨_,e1⟩ | ⟨_,e1⟩ <;> rw [e1] <;> assumption
  ·unfold dL
   cases hl:HT.aO c.k g.k with
   | true=>exact hl
   | false=>exact U7 ne hl
  ·rcases p1 with ⟨e1,e2⟩ | ⟨e1,e2⟩ <;> rw [e1,e2]
   ·exact nr
   ·rw [vU]; exact nr
 have pse:=U5 hj
 have cutP':(gD T (dL g c)).Perm (se.eraseIdx j ++ more.map cX):=by
  have a1:(c :: g :: gD T (dL g c)).Perm (c :: g :: (se.eraseIdx j ++ more.map cX)):=by
   have b1:(c :: g :: gD T (dL g c)).Perm T:=by
    refine List.Perm.trans ?_ (w5 ok).symm
    rcases p1 with ⟨e1,e2⟩ | ⟨e1,e2⟩ <;> rw [e1,e2]
    exact bh0 _ _ _
   refine b1.trans (pm.trans ((pse.append_right _).trans ?_))
   show (c :: (se.eraseIdx j ++ g :: more.map cX)).Perm _
   exact List.perm_middle.cons c
  exact a1.cons_inv.cons_inv
 have hn:bR g c ∉ gD T (dL g c):=fun z=>by
  rcases aV0.mp (cutP'.mem_iff.mp z) with z | z
  ·have hs:=(List.eraseIdx_sublist se j).subset z
   have okk:=okc
   unfold okX at okk
   have:bM c (bR g c)=true:=vV (p:=(c.t,c.l)) (by unfold aP; dsimp only; omega) (vX (by unfold aP; dsimp only; omega))
   have e:=h.far.eq hc hs this
   have nd5:(c :: se.eraseIdx j).Nodup:=pse.nodup_iff.mp nd1
   exact (bc0.mp nd5).1 (by rw [e]; rw [e] at z; rwa [e])
  ·obtain ⟨p,_,e⟩:=aU0.mp z
   have:=aK3 okg okc ne
   rw [<- e] at this
   unfold hV cX at this
   dsimp only at this
   omega
 refine⟨ne,⟨jG T (dL g c),?_,?_⟩,h.far.sublist (List.eraseIdx_sublist se j)⟩
 ·rw [rP,hw]
  show i5 (dL g c) T=_
  unfold i5
  rw [if_pos ok]
 ·unfold jG
  rw [hu,if_neg hn]
  refine (cutP'.append_right _).trans ?_
  rw [aT1]
  refine bf5 _ ?_
  exact aY1
theorem aK4 {α:Type}{P:List α->Prop} (h0:P []) (hs:∀ a s,P a->P (a ++ [s])) (l:List α):P l:=by
 rw [<- List.reverse_reverse l]
 induction l.reverse with
 | nil=>exact h0
 | cons x r ih=>rw [List.reverse_cons]; exact hs _ _ ih
theorem k9.len {ls:List aT}{sts:List (Bx × Bx)}:∀ {T:List Bx},dZ (ls.map cX) sts=some T->T.length<=ls.length:=by
 refine aK4 (P:=fun sts=>∀ {T:List Bx},dZ (ls.map cX) sts=some T->T.length<=ls.length) ?_ ?_ sts
 ·intro T h; cases h; rw [aS1]; exact aS4 _
 ·intro a s ih T h
  rw [rP] at h
  cases hw:dZ (ls.map cX) a with
  | none=>rw [hw] at h; cases h
  | some T1=>
   rw [hw] at h
   have h:i5 s T1=some T:=h
   unfold i5 at h
   split at h
   ·rename_i ok
    cases h
    have:=ih hw
    have:=(w5 ok).length_eq
    rw [aV5,aV5] at this
    unfold jG
    split
    ·omega
    ·rw [aU4,ba1]; omega
   ·cases h
abbrev fR (sts:List (Bx × Bx)):List PV:=sts.map lD
theorem aK5 {sts:List (Bx × Bx)}{i:Nat}{v:PV} (h:(fR sts)[i]? = some v):∃ s,v=lD s/\sts[i]? = some s:=by
 rw [aT4] at h
 cases e:sts[i]? with
 | none=>rw [e] at h; cases h
 | some x=>rw [e] at h; cases h; exact⟨x,rfl,rfl⟩
def rT:eZ:=fun Ep xs Q=>∃ (r c:Int) (x:PV) (ls:List aT),xs = [.int r,.int c,x]/\(x = .tup (aG ls) ∨ x = .lst (aG ls))/\ls.length<=4096/\(¬ bL r c->Ep "BadBoard")/\(bL r c->¬ cG r c ls->Ep "BadSet")/\
 (bL r c->cG r c ls->∀ sts T,dZ (ls.map cX) sts=some T->dU T->sts.length<=ls.length->Q (.lst (fR sts)))
def U8 (Ep:Str->Prop):aV:=(aI (gL 3 (i9 aD))
 (aI (gL 4 (i9 aD))
 (aI (eC (eJ (aM mM (a8 (j9 Ep k6 (a8 (a7 0) (a8 (a7 1) (a8 (a7 2) aD)))) aD))) (cY 5)
  (aI (bC 6 (a7 5))
  (aI (bC 7 (aM lC (a8 (a7 3) (a8 (a7 6) aD))))
  (aI (pD (aZ (A4 (a7 7) (qC .non)))
   (aI (iT 4 (cW (a8 (aM vQ (a8 (a7 6) (a8 (a7 7) aD))) (a8 (aM vR (a8 (a7 6) (a8 (a7 7) aD))) aD))))
   (aI (bC 6 (aM mL (a8 (a7 6) (a8 (a7 7) aD))))
   (aI (vS 3 (a7 7))
   (bC 7 (aM lC (a8 (a7 3) (a8 (a7 6) aD))))))))
  (iT 3 (a7 6))))))
 (kO 4))))
theorem aK6:mF U8 ["rows","columns","seeds","settled","steps","box","growing","close"] rT:=by
 rintro Ep xs Q ⟨r,c,x,ls,rfl,hx,hl,e1,e2,q⟩
 refine⟨by show 0<=1000; decide,rfl,rfl,rfl,by show 0<=1000; decide,rfl,rfl,rfl,?_⟩
 refine⟨_,rfl,_,rfl,_,rfl,r,c,x,ls,rfl,hx,hl,e1,e2,fun ok st=>?_⟩
 have q:=q ok st
 have nd:ls.Nodup:=mH st.1
 refine⟨_,ls,rfl,.inl rfl,hl,bJ (ls.map cX),rfl,(fun z=>by cases z),fun i ρ=>∃ (se:List Bx) (sts:List (Bx × Bx)) (y5 y6 y7:Option Slot),ρ = [si r,si c,some (.sh (flat x) x),some (.own (.lst (bJ se))),some (.own (.lst (fR sts))),y5,y6,y7]/\k9 ls sts se ((ls.drop i).map cX)/\sts.length+se.length=i,
  ⟨[],[],none,none,none,rfl,⟨⟨_,rfl,bc8 _⟩,be3⟩,rfl⟩,?_,?_⟩
 ·rintro i v ρ hv ⟨se,sts,y5,y6,y7,rfl,gr,cnt⟩
  obtain ⟨b,rfl,hb⟩:=mJ hv
  rw [aT4] at hb
  obtain ⟨p,hp,rfl⟩:∃ p,ls[i]? = some p/\b=cX p:=by
   cases e:ls[i]? with
   | none=>rw [e] at hb; cases hb
   | some p=>rw [e] at hb; cases hb; exact⟨p,rfl,rfl⟩
  have il:=(aS0.mp hp).1
  have dr:ls.drop i=p :: ls.drop (i+1):=by rw [bd4 il,(aS0.mp hp).2]
  rw [dr,aW8] at gr
  refine lA (lB _) ?_
  refine⟨_,rfl,trivial,?_⟩
  refine⟨_,rfl,_,rfl,se,cX p,rfl,trivial,?_⟩
  refine⟨fun m ρ=>∃ (se:List Bx) (sts:List (Bx × Bx)) (g:Bx),ρ = [si r,si c,some (.sh (flat x) x),some (.own (.lst (bJ se))),some (.own (.lst (fR sts))),some (.sh true (bV (cX p))),some (.sh true (bV g)),some (.sh true (w6 (se.find? fun y=>bM y g)))]/\k9 ls sts se (g :: (ls.drop (i+1)).map cX)/\sts.length+se.length=i/\m=se.length,
   ⟨_,se,sts,cX p,rfl,gr,cnt,rfl⟩,?_⟩
  rintro m ρ ⟨se,sts,g,rfl,gr,cnt,rfl⟩
  refine⟨_,rfl,rfl,_,rfl,?_⟩
  cases hf:se.find? fun y=>bM y g with
  | none=>
   refine aL ⟨_,rfl,_,rfl,trivial,by rw [oB]; omega,?_⟩
   refine⟨se ++ [g],sts,some (.sh true (bV (cX p))),some (.sh true (bV g)),some (.sh true (w6 none)),?_,⟨?_,?_⟩,by rw [aU4,ba1]; omega⟩
   ·have:bJ se ++ [bV g]=bJ (se ++ [g]):=by unfold bJ jD; rw [aT9,aT9]; rfl
    show [_,_,_,some (Slot.own (PV.lst (bJ se ++ [bV g]))),_,_,_,_]=_
    rw [this]
   ·obtain ⟨T,hw,pm⟩:=gr.ex
    exact⟨T,hw,by rw [aT1]; exact pm⟩
   ·have hn:=List.find?_eq_none.mp hf
    refine aU7.mpr ⟨gr.far,aW0 _ _,fun a ha b hb=>?_⟩
    rw [aR9.mp hb]
    simpa using hn a ha
  | some cl=>
   have nr:bM cl g=true:=by simpa using List.find?_some hf
   have hc:=List.mem_of_find?_eq_some hf
   obtain ⟨j,hj⟩:=be2 hc
   obtain ⟨ne,gr2⟩:=gr.step nd hj nr
   obtain ⟨T,hw,pm⟩:=gr.ex
   have snd:(se ++ g :: (ls.drop (i+1)).map cX).Nodup:=pm.nodup_iff.mp (oA nd sts hw).2
   have nd1:=(bb8.mp snd).1
   have il':i < 4096:=by omega
   refine aX ⟨_,rfl,_,rfl,_,rfl,g.k,cl.k,rfl,_,rfl,_,rfl,g.k,cl.k,rfl,by show 2<=1000; decide,?_,trivial,by rw [aS1]; omega,?_⟩
   ·show (flat (.tup (intz (if HT.aO cl.k g.k=true then cl.k else g.k))) && (flat (.tup (intz (if HT.aO g.k cl.k=true then cl.k else g.k))) && true))=true
    rw [qN,qN]; rfl
   have eS:PV.tup [.tup (intz (if HT.aO cl.k g.k=true then cl.k else g.k)),.tup (intz (if HT.aO g.k cl.k=true then cl.k else g.k))]=lD (dL g cl):=by
    unfold dL
    cases hl:HT.aO cl.k g.k with
    | true=>rw [kK hl]; rfl
    | false=>rw [U7 ne hl]; rfl
   refine⟨_,rfl,_,rfl,g,cl,rfl,trivial,?_⟩
   refine⟨se.map Bx.k,rfl,_,rfl,cl.k,j,rfl,by rw [aT4,hj]; rfl,fun k hk e=>?_,by rw [aS1]; omega,?_⟩
   ·rw [aT4] at e
    cases e2:se[k]? with
    | none=>rw [e2] at e; cases e
    | some y=>
     rw [e2] at e
     have e3:=Bx.k_inj (aT8 e)
     subst e3
     have kl:=(aS0.mp e2).1
     have jl:=(aS0.mp hj).1
     have:=aX3.mp nd1 k j kl jl hk
     exact this ((aS0.mp e2).2.trans (aS0.mp hj).2.symm)
   have jl:=(aS0.mp hj).1
   have cutE:((se.map Bx.k).eraseIdx j).map (fun r=>PV.tup (intz r))=bJ (se.eraseIdx j):=by
    unfold bJ jD
    rw [<- Raw.iZ]
   dsimp only
   rw [cutE]
   refine⟨_,rfl,_,rfl,se.eraseIdx j,bR g cl,rfl,trivial,?_⟩
   have le:(se.eraseIdx j).length+1=se.length:=by rw [List.length_eraseIdx,if_pos jl]; omega
   refine⟨(se.eraseIdx j).length,by omega,se.eraseIdx j,sts ++ [dL g cl],bR g cl,?_,gr2,by rw [aU4,ba1]; omega,rfl⟩
   show [_,_,_,_,some (Slot.own (PV.lst (fR sts ++ [PV.tup [.tup (intz (if HT.aO cl.k g.k=true then cl.k else g.k)),.tup (intz (if HT.aO g.k cl.k=true then cl.k else g.k))]]))),_,_,_]=_
   rw [eS]
   have:fR sts ++ [lD (dL g cl)]=fR (sts ++ [dL g cl]):=by unfold fR; rw [aT9]; rfl
   rw [this]; rfl
 ·rintro ρ ⟨se,sts,y5,y6,y7,rfl,gr,cnt⟩
  rw [oB,aS1] at gr cnt
  rw [List.drop_length] at gr
  obtain ⟨T,hw,pm⟩:=gr.ex
  rw [List.map_nil,aW2] at pm
  exact⟨_,rfl,trivial,q sts T hw (gr.far.perm pm.symm) (by omega)⟩
def rV:eZ:=fun Ep xs Q=>∃ (r c:Int) (x:PV) (ls:List aT) (sts:List (Bx × Bx)),xs = [.int r,.int c,x,.lst (fR sts)]/\(x = .tup (aG ls) ∨ x = .lst (aG ls))/\ls.length<=4096/\(¬ bL r c->Ep "BadBoard")/\(bL r c->¬ cG r c ls->Ep "BadSet")/\
 (bL r c->cG r c ls->(dZ (ls.map cX) sts=none->Ep "NoPaper")/\∀ T,dZ (ls.map cX) sts=some T->(¬ dU T->Ep "NoPaper")/\(dU T->∀ bs:List Bx,bs.Perm T->bs.Pairwise (fun u v=>HT.aO v.k u.k=false)->Q (.lst (bJ bs))))
def U9 (Ep:Str->Prop):aV:=(aI (gL 4 (aM rS (a8 (aM mM (a8 (j9 Ep k6 (a8 (a7 0) (a8 (a7 1) (a8 (a7 2) aD)))) aD)) aD)))
 (aI (eC (eJ (a7 3)) (cY 5)
  (aI (bY (iQ (aZ (aM rR (a8 (a7 4) (a8 (a7 5) aD))))) (mE Ep "NoPaper" (a8 (qC (.str "a step is of two near boxes that are there, the lesser first")) aD)) cB)
  (aI (qS 4 (bD (a7 5) (qC (.int 0))))
  (aI (qS 4 (bD (a7 5) (qC (.int 1))))
  (kS 4 (aM mL (a8 (bD (a7 5) (qC (.int 0))) (a8 (bD (a7 5) (qC (.int 1))) aD))) (qC (.bl true)))))))
 (aI (bC 6 (aM vO (a8 (a7 4) aD)))
 (aI (eC (v8 (a7 6)) (gW 7 8)
  (bY (aZ (A4 (aM lC (a8 (pO (a7 6) pM (pN (a7 7))) (a8 (a7 8) aD))) (qC .non))) (mE Ep "NoPaper" (a8 (qC (.str "near boxes are left behind the last step")) aD)) cB))
 (kO 6)))))
theorem V0 (T:List Bx) (j:Nat):(bN T).eraseIdx j=bN (T.eraseIdx j):=by unfold bN; rw [Raw.iZ]
theorem V1 {T:List Bx}{j:Nat}{x:Bx} (h:((bN T).map (·.1))[j]? = some (kn x.k)):T[j]? = some x:=by
 unfold bN at h
 rw [aY4,aT4] at h
 cases e:T[j]? with
 | none=>rw [e] at h; cases h
 | some y=>rw [e] at h; rw [T8 (aT8 h)]
theorem V2 {T:List Bx}{x:Bx} (h:x ∈ T):∃ j:Nat,((bN T).map (·.1))[j]? = some (kn x.k):=by
 obtain ⟨j,hj⟩:=be2 h
 refine⟨j,?_⟩
 unfold bN
 rw [aY4,aT4,hj]; rfl
theorem aK7:mF U9 ["rows","columns","seeds","steps","there","step","boxes","turn","box"] rV:=by
 rintro Ep xs Q ⟨r,c,x,ls,sts,rfl,hx,hl,e1,e2,q⟩
 refine⟨_,rfl,_,rfl,_,rfl,r,c,x,ls,rfl,hx,hl,e1,e2,fun ok st=>?_⟩
 obtain ⟨qn,q⟩:=q ok st
 have nd:ls.Nodup:=mH st.1
 refine⟨_,ls,rfl,.inl rfl,hl,ls.map cX,rfl,aK2 nd,by rw [aS1]; exact hl,rfl,aJ8 _,?_⟩
 refine⟨_,rfl,fR sts,rfl,mI,fun i ρ=>∃ (T:List Bx) (z5:Option Slot),dZ (ls.map cX) (sts.take i)=some T/\ρ = [si r,si c,some (.sh (flat x) x),some (.sh (flat (.lst (fR sts))) (.lst (fR sts))),some (.own (.dT (bN T))),z5,none,none,none],⟨ls.map cX,none,rfl,rfl⟩,?_,?_⟩
 ·rintro i v ρ hv ⟨T,z5,hw,rfl⟩
  obtain ⟨s,rfl,hs⟩:=aK5 hv
  have tk:sts.take (i+1)=sts.take i ++ [s]:=by rw [aX8,hs]; rfl
  have wn:dZ (ls.map cX) (sts.take (i+1))=i5 s T:=by rw [tk,rP,hw]; rfl
  have tnd:=(oA nd _ hw).2
  have tl:=k9.len hw
  refine lA (aJ6 s) ?_
  refine⟨_,rfl,_,rfl,T,s,rfl,_,rfl,?_⟩
  cases hok:hZ T s with
  | false=>
   refine aX ⟨by show 1<=1000; decide,qn ?_⟩
   have:dZ (ls.map cX) (sts.take (i+1))=none:=by rw [wn]; unfold i5; rw [hok]; rfl
   have:=aI7 (b:=sts.drop (i+1)) this
   rwa [aV1] at this
  | true=>
   obtain ⟨h1,h2,h3,h4⟩:=rQ.mp hok
   have ne:=S6 h3
   refine aL ⟨bN T,rfl,_,rfl,_,_,_,rfl,rfl,rfl,kn s.1.k,by rw [mO],V2 h1,fun j hj=>?_⟩
   rw [V0,U6 tnd (V1 hj)]
   have h2':s.2 ∈ T.erase s.1:=(List.mem_erase_of_ne ne.symm).mpr h2
   refine⟨bN (T.erase s.1),rfl,_,rfl,_,_,_,rfl,rfl,rfl,kn s.2.k,by rw [mO],V2 h2',fun j hj=>?_⟩
   rw [V0,U6 (tnd.erase _) (V1 hj)]
   have ll:(gD T s).length<=T.length:=aU9 (List.length_erase_le ..) (List.length_erase_le ..)
   refine⟨bN (gD T s),rfl,_,rfl,_,_,_,rfl,rfl,rfl,_,rfl,_,_,_,rfl,rfl,rfl,s.1,s.2,rfl,kn (bR s.1 s.2).k,by rw [mO],trivial,by rw [U2]; omega,?_⟩
   rw [U1]
   refine⟨jG T s,some (.sh true (lD s)),?_,rfl⟩
   rw [wn]
   unfold i5
   rw [if_pos hok]
 ·rintro ρ ⟨T,z5,hw,rfl⟩
  rw [aS1,aX7] at hw
  obtain ⟨q1,q2⟩:=q T hw
  refine⟨_,rfl,bN T,T.map Bx.k,rfl,aJ7 T,fun k hk=>?_,fun ms pm so=>⟨trivial,?_⟩⟩
  ·obtain ⟨b,_,rfl⟩:=aU0.mp hk
   unfold Bx.k
   exact List.cons_ne_nil _ _
  obtain ⟨bs,rfl,pb⟩:=aK1 pm
  rw [ba4] at so
  refine⟨_,rfl,bJ bs,.inl rfl,(fun z=>by cases z),fun i ρ=>∃ z7 z8:Option Slot,dU (bs.take i)/\ρ = [si r,si c,some (.sh (flat x) x),some (.sh (flat (.lst (fR sts))) (.lst (fR sts))),some (.own (.dT (bN T))),z5,some (.sh true (.lst (bJ bs))),z7,z8],⟨none,none,by rw [List.take_zero]; exact be3,rfl⟩,?_,?_⟩
  ·rintro i v ρ hv ⟨z7,z8,far,rfl⟩
   obtain ⟨w,hw2,rfl⟩:=ay5 hv
   obtain ⟨b,rfl,hb⟩:=mJ hw2
   have tk:bs.take (i+1)=bs.take i ++ [b]:=by rw [aX8,hb]; rfl
   refine⟨_,_,rfl,?_⟩
   have cut:iC (bJ bs) none (some (i:Int))=bJ (bs.take i):=by
    rw [K9 (by omega)]
    unfold bJ jD
    rw [show ((i:Int)).toNat=i by omega,List.map_take,List.map_take]
   refine⟨_,rfl,_,rfl,(i:Int),rfl,bJ bs,rfl,aI9 bs,_,rfl,bs.take i,b,by rw [cut]; rfl,rfl,_,rfl,?_⟩
   cases hf:(bs.take i).find? fun y=>bM y b with
   | some y=>
    refine aX ⟨by show 1<=1000; decide,q1 fun fT=>?_⟩
    have nr:bM y b=true:=by simpa using List.find?_some hf
    have fb:dU (bs.take (i+1)):=(fT.perm pb.symm).sublist (List.take_sublist _ _)
    rw [tk] at fb
    have:=(aU7.mp fb).2.2 y (List.mem_of_find?_eq_some hf) b (by simp)
    rw [nr] at this; cases this
   | none=>
    refine aL ⟨_,_,?_,rfl⟩
    have hn:=List.find?_eq_none.mp hf
    rw [tk]
    refine aU7.mpr ⟨far,aW0 _ _,fun a ha b' hb'=>?_⟩
    rw [aR9.mp hb']
    simpa using hn a ha
  ·rintro ρ ⟨z7,z8,far,rfl⟩
   rw [v7,oB,aX7] at far
   exact⟨_,rfl,trivial,q2 (far.perm pb) bs pb so⟩
structure w9 (ls:List aT) (bs:List Bx):Prop where
 own:cI ls bs
 far:dU bs
 so:bs.Pairwise fun u v=>HT.aO v.k u.k=false
 len:bs.length<=ls.length
def mP:eZ:=fun Ep xs Q=>∃ (r c:Int) (x:PV) (ls:List aT),xs = [.int r,.int c,x]/\(x = .tup (aG ls) ∨ x = .lst (aG ls))/\ls.length<=4096/\(¬ bL r c->Ep "BadBoard")/\(bL r c->¬ cG r c ls->Ep "BadSet")/\
 (bL r c->cG r c ls->∀ bs,w9 ls bs->Q (.lst (bJ bs)))
def V3 (Ep:Str->Prop):aV:=(bQ (j9 Ep rV (a8 (a7 0) (a8 (a7 1) (a8 (a7 2) (a8 (j9 Ep rT (a8 (a7 0) (a8 (a7 1) (a8 (a7 2) aD)))) aD))))))
theorem aK8:mF V3 ["rows","columns","seeds"] mP:=by
 rintro Ep xs Q ⟨r,c,x,ls,rfl,hx,hl,e1,e2,q⟩
 refine⟨_,rfl,_,rfl,_,rfl,_,rfl,_,rfl,_,rfl,r,c,x,ls,rfl,hx,hl,e1,e2,fun ok st sts T hw far sl=>?_⟩
 have nd:ls.Nodup:=mH st.1
 refine⟨r,c,x,ls,sts,rfl,hx,hl,e1,e2,fun _ _=>⟨(fun z=>by rw [hw] at z; cases z),fun T' hw'=>?_⟩⟩
 rw [hw] at hw'
 cases hw'
 exact⟨fun z=>absurd far z,fun _ bs pb so=>⟨trivial,q ok st bs ⟨((oA nd sts hw).1).perm pb,far.perm pb.symm,so,by rw [pb.length_eq]; exact k9.len hw⟩⟩⟩
theorem V4 (a b:List aT):aG a ++ aG b=aG (a ++ b):=by unfold aG; rw [aT9]
end Core
namespace PP
open PySem L2
section
variable {X : Cx} {a b : Expr} {ta tb : aE} {pos : Pos}
def wA:PV->Tg->PV->Tg->PK->Prop:=fun x _ y _ Q=>∃ c d,x = .bl c/\y = .bl d/\Q (.bl (c != d)) .fr
theorem aK9:c9 X (compareOp .IsNot) (fun x y H Q=>∃ c d,x = .bl c/\y = .bl d/\Q (.bl (c != d)) H):=by
 intro pins s σ H x y v u Q I rx ry h
 obtain ⟨c,d,rfl,rfl,q⟩:=h
 cases rx
 cases ry
 exact PyProof.Rows.isnot_bool (bP I q rfl)
theorem aL0:eI X wA (fun x y H Q=>∃ c d,x = .bl c/\y = .bl d/\Q (.bl (c != d)) H):=by
 rintro W Hs H u v x y g g' Q Q' s n r1 r2 ⟨c,d,rfl,rfl,q⟩ k
 cases r1
 cases r2
 exact⟨c,d,rfl,rfl,k _ _ _ _ (aH.refl _) (.bl _) q⟩
theorem aL1 (ha:QE X a ta) (hb:QE X b tb):QT X (.Compare a [.IsNot] [b] pos) (aZ (q2 wA ta tb)):=jT aK9 aL0 ha hb (fD _)
end
end PP
namespace Core
open PySem L2 PP
def rW:bZ:=fun xs Q=>∃ (r c:Int) (x:PV) (ls:List (Int × Int)),xs = [.int r,.int c,x]/\(x = .tup (aG ls) ∨ x = .lst (aG ls))/\bL r c/\cG r c ls/\∀ K:List (Int × Int),K.Pairwise eY->(∀ y,y ∈ K ↔ hJ r c ls y)->K.length<=1600->Q (.tup (aG K))
def V5:aV:=(aI (gL 3 (qC (.dT [])))
 (aI (gL 4 (qC (.dT [])))
 (aI (gL 5 (aM pF (a8 (a7 2) aD)))
 (aI (eC (eJ (a7 2)) (cY 6)
  (kS 4 (a7 6) (qC (.bl true))))
 (aI (bC 7 (qC (.int 0)))
 (aI (pD (aZ (gM (a7 7) (aM gU (a8 (a7 5) aD))))
  (aI (eC (eJ (aM rE (a8 (a7 0) (a8 (a7 1) (a8 (bD (a7 5) (a7 7)) aD))))) (cY 8)
   (aI (kS 3 (a7 8) (cK (vL (a7 3) (a7 8) (qC (.int 0))) (qC (.int 1))))
   (bY (iP (aZ (kT (u5 (a7 3) (a7 8)) (qC (.int 1)))) (aZ (nJ true (a7 8) (a7 4)))) (aI (kS 4 (a7 8) (qC (.bl true)))
    (iT 5 (a7 8))) cB)))
  (bC 7 (cK (a7 7) (qC (.int 1))))))
 (bQ (aM nM (a8 (aM qT (a8 (a7 5) aD)) aD)))))))))
theorem aL2:dS V5 ["rows","columns","seeds","met","burning","line","seed","at","other"] rW:=by
 rintro xs Q ⟨r,c,x,ls,rfl,hx,ok,st,q⟩
 have sx:iS x=some (aG ls):=by rcases hx with rfl | rfl <;> rfl
 have snd:ls.Nodup:=mH st.1
 have sf:=vM ok snd st.2
 refine⟨rfl,rfl,rfl,rfl,?_⟩
 refine⟨_,rfl,_,_,rfl,sx,j5 _,rfl,j5 _,?_⟩
 refine⟨_,rfl,aG ls,sx,mI,fun i ρ=>∃ y6:Option Slot,ρ = [si r,si c,some (.sh (flat x) x),some (.own (.dT [])),some (.own (.dT (fQ (ls.take i)))),some (.own (.lst (aG ls))),y6,none,none],⟨none,?_⟩,?_,?_⟩
 ·rfl
 ·rintro i y ρ hy ⟨y6,rfl⟩
  obtain ⟨l,rfl,h⟩:=jZ hy
  have tk:dP (fQ (ls.take i)) (cQ l) (.bl true)=fQ (ls.take (i+1)):=by rw [P6 (o9 snd h),aX8,h]; rfl
  refine⟨_,rfl,_,rfl,cQ l,rfl,trivial,by rw [P4,bd5]; omega,?_⟩
  rw [tk]
  exact⟨_,rfl⟩
 rintro ρ ⟨y6,rfl⟩
 rw [dY,aX7]
 refine⟨trivial,?_⟩
 refine⟨fun n ρ=>∃ (K:List (Int × Int)) (at_:Nat) (ps:List (List aJ × PV)) (y8:Option Slot),ρ = [si r,si c,some (.sh (flat x) x),some (.own (.dT ps)),some (.own (.dT (fQ K))),some (.own (.lst (aG K))),y6,si (at_:Nat),y8]/\
   n+at_=1600/\at_<=K.length/\Wk r c ls K (K.take at_)/\k7 ps (cR r c (K.take at_))/\ps.length<=4 * at_,⟨1600,ls,0,[],none,rfl,rfl,ba7 _,Wk.init snd st.2,k7.nil,aS4 _⟩,?_⟩
 rintro n ρ ⟨K,a,ps,y8,rfl,nP,aK,wk,me,pl⟩
 have kf:=vM ok wk.nd wk.bd
 refine⟨_,rfl,_,rfl,_,_,rfl,rfl,_,_,rfl,rfl,_,rfl,?_⟩
 show if decide ((a:Int) < ((aG K).length:Int))=true then _ else _
 rw [dY]
 by_cases lt:(a:Int) < (K.length:Int)
 ·rw [aR3 lt]
  have al:a < K.length:=by omega
  obtain ⟨p,hp⟩:∃ p,K[a]? = some p:=⟨_,aR5 al⟩
  have pK:=bc4 hp
  have np:=o9 wk.nd hp
  have wk2:=wk.step pK np
  have t1:K.take (a+1)=K.take a ++ [p]:=by rw [aX8,hp]; rfl
  rw [<- t1] at wk2
  have hpP:L2.atI (aG K) (a:Int)=some (.tup [.int p.1,.int p.2]):=xT (by unfold aG; rw [aT4,hp]; rfl)
  have snd2:=P8 r c p
  have sl4:(bF r c p).length<=4:=by
   unfold bF
   exact bf6 _ (gC p)
  refine aX ?_
  refine⟨_,rfl,_,rfl,_,rfl,_,rfl,_,_,_,rfl,rfl,hpP,r,c,p,rfl,aG (bF r c p),rfl,(fun z=>by cases z),fun j ρ=>∃ (ps:List (List aJ × PV)) (y8:Option Slot),ρ = [si r,si c,some (.sh (flat x) x),some (.own (.dT ps)),some (.own (.dT (fQ (K ++ ((bF r c p).take j).filter (dI r c K (K.take a)))))),some (.own (.lst (aG (K ++ ((bF r c p).take j).filter (dI r c K (K.take a)))))),y6,si (a:Nat),y8]/\
    k7 ps (hU r c (K.take a) ((bF r c p).take j))/\ps.length<=4 * a+j,⟨ps,y8,?_,?_,by omega⟩,?_,?_⟩
  ·rw [List.take_zero,List.filter_nil,aW2]
  ·have:hU r c (K.take a) ((bF r c p).take 0)=cR r c (K.take a):=by funext y; unfold hU; simp
   rw [this]; exact me
  ·rintro j y ρ hy ⟨ps2,y8,rfl,me2,pl2⟩
   obtain ⟨s,rfl,hs⟩:=jZ hy
   have jl:=(aS0.mp hs).1
   have nj:=o9 snd2 hs
   have tk:=o0 (p:=dI r c K (K.take a)) hs
   have ms:=me2 s
   have me3:=me2.put s (.int ((hU r c (K.take a) ((bF r c p).take j) s:Int)+1)) rfl
   rw [aD6 snd2 hs] at me3
   have fs:hU r c (K.take a) ((bF r c p).take j) s=cR r c (K.take a) s:=by unfold hU; rw [if_neg nj]; rfl
   rw [fs] at ms me3
   have vs:bS (dP ps2 (cQ s) (.int ((cR r c (K.take a) s:Int)+1))) (cQ s)=some (.int ((cR r c (K.take a) s:Int)+1)):=by rw [J4,if_pos rfl]
   have lp:=aw6 ps2 (cQ s) (.int ((cR r c (K.take a) s:Int)+1))
   refine⟨_,rfl,ps2,rfl,_,rfl,cQ s,rfl,by rw [ms]; rfl,_,_,ms,rfl,ps2,rfl,_,rfl,cQ s,rfl,trivial,by omega,?_⟩
   refine⟨_,rfl,_,rfl,_,.inr ⟨_,cQ s,rfl,rfl,vs.symm⟩,_,_,rfl,rfl,_,rfl,?_⟩
   show if decide ((cR r c (K.take a) s:Int)+1 > 1)=true then _ else _
   have tl:=List.length_take_le j (bF r c p)
   have fl:=bf6 (dI r c K (K.take a)) ((bF r c p).take j)
   by_cases h1:(cR r c (K.take a) s:Int)+1 > 1
   ·rw [aR3 h1]
    refine aX ⟨_,rfl,_,rfl,_,.inr ⟨_,cQ s,rfl,rfl,rfl⟩,_,rfl,?_⟩
    show if (!(bS (fQ (K ++ ((bF r c p).take j).filter (dI r c K (K.take a)))) (cQ s)).isSome)=true then _ else _
    rw [P5]
    by_cases h2:s ∈ K ++ ((bF r c p).take j).filter (dI r c K (K.take a))
    ·have sK:s ∈ K:=by
      rcases aV0.mp h2 with z | z
      ·exact z
      ·exact absurd (aV3.mp z).1 nj
     have nf:dI r c K (K.take a) s=false:=by unfold dI; rw [aR3 sK]; rfl
     rw [nf,if_neg (by decide),aW2] at tk
     rw [aR3 h2]
     refine aL ?_
     rw [<- tk]
     exact⟨dP ps2 (cQ s) (.int ((cR r c (K.take a) s:Int)+1)),_,rfl,me3,by omega⟩
    ·have sK:s ∉ K:=fun z=>h2 (aU6 _ z)
     have lo:=wk.low s sK
     have nf:dI r c K (K.take a) s=true:=by unfold dI; rw [aR2 sK,aR3 (by omega)]; rfl
     rw [nf,if_pos rfl] at tk
     rw [aR2 h2]
     refine aX ⟨_,rfl,_,rfl,cQ s,rfl,trivial,by rw [P4,aU4]; omega,?_⟩
     rw [P6 h2,aT1,<- tk]
     refine⟨_,rfl,_,rfl,trivial,by rw [dY,aU4]; omega,?_⟩
     have ap:aG (K ++ ((bF r c p).take j).filter (dI r c K (K.take a))) ++ [.tup [.int s.1,.int s.2]]=aG (K ++ ((bF r c p).take (j+1)).filter (dI r c K (K.take a))):=by
      rw [tk,<- aT1]
      unfold aG
      rw [aT9 (l₂:=[s])]; rfl
     refine⟨dP ps2 (cQ s) (.int ((cR r c (K.take a) s:Int)+1)),some (Slot.sh (pH Tg.fr (aG (bF r c p)) || flat (PV.tup [PV.int s.1,PV.int s.2])) (.tup [.int s.1,.int s.2])),?_,me3,by omega⟩
     show [_,_,_,_,_,some (Slot.own (PV.lst (aG (K ++ ((bF r c p).take j).filter (dI r c K (K.take a))) ++ [.tup [.int s.1,.int s.2]]))),_,_,_]=_
     rw [ap]
   ·rw [aR2 h1]
    have nf:dI r c K (K.take a) s=false:=by unfold dI; rw [aR2 (by omega : ¬ cR r c (K.take a) s=1),aU8]
    rw [nf,if_neg (by decide),aW2] at tk
    refine aL (aL ?_)
    rw [<- tk]
    exact⟨dP ps2 (cQ s) (.int ((cR r c (K.take a) s:Int)+1)),_,rfl,me3,by omega⟩
  ·rintro ρ ⟨ps2,y8,rfl,me2,pl2⟩
   rw [dY,aX7] at me2
   rw [dY] at pl2
   rw [dY,aX7]
   have fe:hU r c (K.take a) (bF r c p)=cR r c (K.take (a+1)):=by funext y; rw [t1,P9]; rfl
   rw [fe] at me2
   have k2:=vM ok wk2.nd wk2.bd
   have t2:(K ++ (bF r c p).filter (dI r c K (K.take a))).take (a+1)=K.take (a+1):=List.take_append_of_le_length (by omega)
   refine⟨_,rfl,_,_,rfl,rfl,trivial,n - 1,by omega,K ++ (bF r c p).filter (dI r c K (K.take a)),a+1,ps2,y8,rfl,by omega,by rw [aU4]; omega,?_,?_,by omega⟩
   ·rw [t2]; exact wk2
   ·rw [t2]; exact me2
 ·rw [aR2 lt]
  have ea:K.take a=K:=aZ5 (by omega)
  rw [ea] at wk
  refine aL ⟨_,rfl,K.map two,by rw [o6]; rfl,by rw [aS1]; omega,fun r hr=>by obtain ⟨l,_,rfl⟩:=aU0.mp hr; rfl,fun Z pz so=>?_⟩
  obtain ⟨l2,rfl,pp⟩:=K1 pz
  rw [show ((l2.map two).map fun r=>PV.tup (intz r))=aG l2 from (o6 _).symm]
  exact⟨⟨_,_,rfl,rfl,j5 _,trivial,q l2 (K2 so (pp.nodup_iff.mpr wk.nd)) (fun y=>pp.mem_iff.trans (wk.all (fun x hx=>hx) y)) (by rw [pp.length_eq]; exact kf)⟩,fun ns z=>by cases z⟩
def bA (x:Bx) (p:aT):Bool:=decide (x.t<=p.1) && (decide (p.1<=x.b) && (decide (x.l<=p.2) && decide (p.2<=x.r)))
theorem mQ {x:Bx}{p:aT}:bA x p=true ↔ aP x p:=by
 unfold bA aP
 simp only [aY6,aT6]
def kA (r c:Int) (ls:List aT) (x:Bx):Prop:=okX x/\0<=x.t/\0<=x.l/\x.b < r/\x.r < c/\∀ p,aP x p->dJ x (· ∈ ls.filter (bA x)) p
theorem cG.filter {r c:Int}{ls:List aT} (h:cG r c ls) (p:aT->Bool):cG r c (ls.filter p):=⟨h.1.sublist List.filter_sublist,fun l hl=>h.2 l ((aV3.mp hl).1)⟩
theorem cG.take {r c:Int}{ls:List aT} (h:cG r c ls) (n:Nat):cG r c (ls.take n):=⟨h.1.sublist (List.take_sublist _ _),fun l hl=>h.2 l (bg3 hl)⟩
theorem dU.nd {T:List Bx} (h:dU T) (ok:∀ x ∈ T,okX x):T.Nodup:=h.imp_of_mem fun {x y} hx _ n e=>by
 subst e
 rw [aH4 (ok x hx)] at n; cases n
theorem aL3 {T:List Bx}{x:Bx} (nd:T.Nodup) (h1:x ∈ T) (h2:∀ y ∈ T,y=x):T = [x]:=by
 match T,nd,h1,h2 with
 | [y],_,_,h2=>rw [h2 y (by simp)]
 | y :: z :: r,nd,_,h2=>
  have e1:=h2 y (by simp)
  have e2:=h2 z (by simp)
  subst e1 e2
  exact absurd (by simp) (bc0.mp nd).1
theorem aL4 {r c:Int}{ls:List aT}{x:Bx}{bs:List Bx} (st:cG r c ls) (g:w9 (ls.filter (bA x)) bs):bs = [x] ↔ kA r c ls x:=by
 have sf:=st.filter (bA x)
 constructor
 ·rintro rfl
  obtain ⟨f,e,h1,h2⟩:=g.own
  match f,e with
  | [ex],e=>
   cases e
   have sp:=h1 ex aS6
   have gs:∀ s ∈ ex.2,s ∈ ls.filter (bA ex.1):=fun s hs=>h2.mem_iff.mp (by simpa using hs)
   have okk:=sp.ok
   have a:=cI.on_board sf.2 gs sp (p:=(ex.1.t,ex.1.l)) (by unfold okX at okk; unfold aP; dsimp only; omega)
   have b:=cI.on_board sf.2 gs sp (p:=(ex.1.b,ex.1.r)) (by unfold okX at okk; unfold aP; dsimp only; omega)
   unfold aP at a b
   dsimp only at a b
   show kA r c ls ex.1
   exact⟨okk,by omega,by omega,by omega,by omega,fun p hp=>(sp.full p hp).mono (b9.refl _) gs⟩
 ·rintro ⟨ok,h1,h2,h3,h4,full⟩
  have okbs:∀ y ∈ bs,okX y:=fun y hy=>g.own.ok hy
  have far1:dU [x]:=aW0 _ _
  have ok1:∀ y ∈ [x],okX y:=fun y hy=>by rw [aR9.mp hy]; exact ok
  have sb:b9 x (k8 r c):=by unfold b9; dsimp only; omega
  have same:∀ p,(∃ y ∈ bs,aP y p) ↔ ∃ y ∈ [x],aP y p:=fun p=>by
   rw [g.own.burnt g.far sf.2,rO sf.2]
   constructor
   ·intro h
    refine h.least (S5 (fun a ha b hb _=>?_) _) fun s hs=>⟨x,aR9.mpr rfl,mQ.mp (aV3.mp hs).2⟩
    rw [aR9.mp ha,aR9.mp hb]
   ·rintro ⟨y,hy,hp⟩
    rw [aR9.mp hy] at hp
    exact (full p hp).mono sb fun _ h=>h
  exact aL3 (g.far.nd okbs) (S8 far1 g.far ok1 okbs (fun p=>(same p).symm) (aR9.mpr rfl)) fun y hy=>aR9.mp (S8 g.far far1 okbs ok1 same hy)
theorem aL5 {r c:Int}{ls:List aT}{bs:List Bx} (ok:bL r c) (st:cG r c ls) (g:w9 ls bs) {x:Bx} (hx:x ∈ bs):kA r c ls x/\hV x<=2 * ((ls.filter (bA x)).length:Int):=by
 obtain ⟨f,rfl,h1,h2⟩:=g.own
 obtain ⟨e,he,rfl⟩:=aU0.mp hx
 have sp:=h1 e he
 have insd:∀ s ∈ e.2,s ∈ ls:=fun s hs=>h2.mem_iff.mp (List.mem_flatten.mpr ⟨e.2,aU0.mpr ⟨e,he,rfl⟩,hs⟩)
 have gs:∀ s ∈ e.2,s ∈ ls.filter (bA e.1):=fun s hs=>aV3.mpr ⟨insd s hs,mQ.mpr (sp.ins s hs)⟩
 have okk:=sp.ok
 have a:=cI.on_board st.2 insd sp (p:=(e.1.t,e.1.l)) (by unfold okX at okk; unfold aP; dsimp only; omega)
 have b:=cI.on_board st.2 insd sp (p:=(e.1.b,e.1.r)) (by unfold okX at okk; unfold aP; dsimp only; omega)
 unfold aP at a b
 dsimp only at a b
 have nd:e.2.Nodup:=by
  have:((f.map (·.2)).flatten).Nodup:=h2.nodup_iff.mpr (mH st.1)
  obtain ⟨u,v,huv⟩:=List.append_of_mem (show e.2 ∈ f.map (·.2) from aU0.mpr ⟨e,he,rfl⟩)
  rw [huv,List.flatten_append,List.flatten_cons] at this
  exact (bb8.mp (bb8.mp this).2.1).1
 have:=nd.length_le_of_subset gs
 have few:=sp.few
 exact⟨⟨okk,by omega,by omega,by omega,by omega,fun p hp=>(sp.full p hp).mono (b9.refl _) gs⟩,by omega⟩
theorem dJ.shift {B B':Bx}{S S':aT->Prop}{a b:Int} (hB:∀ p,aP B p->aP B' (p.1+a,p.2+b)) (hS:∀ s,S s->S' (s.1+a,s.2+b)) {p:aT} (h:dJ B S p):dJ B' S' (p.1+a,p.2+b):=by
 induction h with
 | seed h=>exact .seed (hS _ h)
 | @kin x y z h1 h2 h3 h4 _ _ i1 i2=>
  refine .kin (hB _ h1) ?_ ?_ (fun e=>h4 ?_) i1 i2
  ·unfold gO at *; dsimp only; omega
  ·unfold gO at *; dsimp only; omega
  ·have e1:=congrArg Prod.fst e
   have e2:=congrArg Prod.snd e
   dsimp only at e1 e2
   exact bb5 (by omega) (by omega)
def shift (x:Bx) (p:aT):aT:=(p.1 - x.t,p.2 - x.l)
theorem aL6 {h w:Int} (h1:1<=h) (w1:1<=w) {K:List aT} (nd:K.Nodup) (bd:∀ p ∈ K,bG h w p=true):(K.length:Int)=h * w ↔ ∀ p,bG h w p=true->p ∈ K:=by
 have hp:0<=h * w:=Int.mul_nonneg (by omega) (by omega)
 let f:aT->Nat:=fun p=>(p.1 * w+p.2).toNat
 have fl:∀ {p:aT},bG h w p=true->0<=p.1 * w+p.2/\p.1 * w+p.2 < h * w:=fun {p} hp=>by
  obtain ⟨a,b,c,d⟩:=eO.mp hp
  have e1:0<=p.1 * w:=Int.mul_nonneg a (by omega)
  have e2:(p.1+1) * w<=h * w:=bb1 (by omega) (by omega)
  rw [Int.add_mul,Int.one_mul] at e2
  omega
 have inj:∀ {p q:aT},bG h w p=true->bG h w q=true->f p=f q->p=q:=fun {p q} hp hq e=>by
  have a:=fl hp
  have b:=fl hq
  have e:p.1 * w+p.2=q.1 * w+q.2:=by have:(p.1 * w+p.2).toNat=(q.1 * w+q.2).toNat:=e; omega
  obtain ⟨a1,a2,a3,a4⟩:=eO.mp hp
  obtain ⟨b1,b2,b3,b4⟩:=eO.mp hq
  have e1:p.1=q.1:=by
   rcases Int.lt_trichotomy p.1 q.1 with z | z | z
   ·have:=bb1 (show p.1+1<=q.1 by omega) (show 0<=w by omega)
    rw [Int.add_mul,Int.one_mul] at this
    omega
   ·exact z
   ·have:=bb1 (show q.1+1<=p.1 by omega) (show 0<=w by omega)
    rw [Int.add_mul,Int.one_mul] at this
    omega
  rw [e1] at e
  exact bb5 e1 (by omega)
 have ndf:(K.map f).Nodup:=ba4.mpr (nd.imp_of_mem fun {a b} ha hb ne e=>ne (inj (bd a ha) (bd b hb) e))
 have lt:∀ x ∈ K.map f,x < (h * w).toNat:=fun x hx=>by
  obtain ⟨p,hp2,rfl⟩:=aU0.mp hx
  have:=fl (bd p hp2)
  show (p.1 * w+p.2).toNat < _
  omega
 constructor
 ·intro e p hpb
  refine Classical.byContradiction fun no=>?_
  have:f p ∉ K.map f:=fun z=>by
   obtain ⟨q,hq,e2⟩:=aU0.mp z
   exact no (by rw [<- inj (bd q hq) hpb e2]; exact hq)
  have:=o7 (h * w).toNat (f p :: K.map f) (bc0.mpr ⟨this,ndf⟩) fun x hx=>by
   rcases aR7.mp hx with rfl | hx
   ·have:=fl hpb
    show (p.1 * w+p.2).toNat < _
    omega
   ·exact lt x hx
  rw [aV5,aS1] at this
  omega
 ·intro all
  have h1':=o7 (h * w).toNat (K.map f) ndf lt
  have h2':(List.range (h * w).toNat).length<=(K.map f).length:=List.nodup_range.length_le_of_subset fun n hn=>by
   have hn:=List.mem_range.mp hn
   have n1:((n:Int) / w) * w+(n:Int) % w=n:=Int.ediv_mul_add_emod ..
   have m0:=Int.emod_nonneg (n:Int) (show w ≠ 0 by omega)
   have m1:=Int.emod_lt_of_pos (n:Int) (show 0 < w by omega)
   have d0:0<=(n:Int) / w:=Int.ediv_nonneg (by omega) (by omega)
   have d1:(n:Int) / w < h:=Int.ediv_lt_of_lt_mul (by omega) (by omega)
   refine aU0.mpr ⟨((n:Int) / w,(n:Int) % w),all _ (eO.mpr ⟨d0,d1,m0,m1⟩),?_⟩
   show (((n:Int) / w) * w+(n:Int) % w).toNat=n
   rw [n1]; omega
  rw [aS1] at h1' h2'
  rw [List.length_range] at h2'
  omega
theorem aL7 {r c:Int}{ls K:List aT}{x:Bx} (ok:okX x) (h1:0<=x.t) (h2:0<=x.l) (h3:x.b < r) (h4:x.r < c) (nd:K.Nodup) (mem:∀ y,y ∈ K ↔ hJ (x.b - x.t+1) (x.r - x.l+1) ((ls.filter (bA x)).map (shift x)) y) :
  ((K.length:Int)=(x.b - x.t+1) * (x.r - x.l+1)) ↔ kA r c ls x:=by
 have okk:=ok
 unfold okX at okk
 have bd:∀ s ∈ (ls.filter (bA x)).map (shift x),bG (x.b - x.t+1) (x.r - x.l+1) s=true:=fun s hs=>by
  obtain ⟨p,hp,rfl⟩:=aU0.mp hs
  have:=mQ.mp (aV3.mp hp).2
  unfold aP at this
  unfold shift
  exact eO.mpr (by dsimp only; omega)
 rw [aL6 (by omega) (by omega) nd fun p hp=>aI5 bd ((mem p).mp hp)]
 constructor
 ·intro all
  refine⟨ok,h1,h2,h3,h4,fun p hp=>?_⟩
  have hp':=hp
  unfold aP at hp'
  have b:=(rO bd).mp ((mem _).mp (all (shift x p) (eO.mpr (by unfold shift; dsimp only; omega))))
  have:=b.shift (B':=x) (S':=(· ∈ ls.filter (bA x))) (a:=x.t) (b:=x.l) (fun q hq=>by unfold aP at *; dsimp only at *; omega) fun s hs=>by
   obtain ⟨q,hq,rfl⟩:=aU0.mp hs
   have:((shift x q).1+x.t,(shift x q).2+x.l)=q:=by unfold shift; exact bb5 (by dsimp only; omega) (by dsimp only; omega)
   rw [this]; exact hq
  have e:((shift x p).1+x.t,(shift x p).2+x.l)=p:=by unfold shift; exact bb5 (by dsimp only; omega) (by dsimp only; omega)
  rwa [e] at this
 ·rintro ⟨_,_,_,_,_,full⟩ p hp
  refine (mem p).mpr ((rO bd).mpr ?_)
  have ib:=eO.mp hp
  have b:=full (p.1+x.t,p.2+x.l) (by unfold aP; dsimp only; omega)
  have:=b.shift (B':=k8 (x.b - x.t+1) (x.r - x.l+1)) (S':=(· ∈ (ls.filter (bA x)).map (shift x))) (a:=-x.t) (b:=-x.l) (fun q hq=>by unfold aP at *; dsimp only at *; omega) fun s hs=>aU0.mpr ⟨s,hs,by unfold shift; exact bb5 (by dsimp only; omega) (by dsimp only; omega)⟩
  have e:(p.1+x.t + -x.t,p.2+x.l + -x.l)=p:=bb5 (by dsimp only; omega) (by dsimp only; omega)
  rwa [e] at this
def rX:bZ:=fun xs Q=>∃ (x:Bx) (p:aT),xs = [bV x,.tup [.int p.1,.int p.2]]/\Q (.bl (bA x p))
def V6:aV:=(bQ (iR (nL (bD (a7 0) (qC (.int 0))) (bD (a7 1) (qC (.int 0)))) (iR (nL (bD (a7 1) (qC (.int 0))) (bD (a7 0) (qC (.int 2)))) (iR (nL (bD (a7 0) (qC (.int 1))) (bD (a7 1) (qC (.int 1)))) (nL (bD (a7 1) (qC (.int 1))) (bD (a7 0) (qC (.int 3))))))))
theorem aL8:dS V6 ["box","cell"] rX:=by
 rintro xs Q ⟨x,p,rfl,q⟩
 unfold bA at q
 refine⟨_,rfl,_,_,_,rfl,rfl,rfl,_,rfl,_,_,_,rfl,rfl,rfl,x.t,p.1,rfl,rfl,_,rfl,?_⟩
 cases h1:decide (x.t<=p.1) with
 | false=>rw [h1] at q; exact aL ⟨trivial,q⟩
 | true=>
  rw [h1,be0] at q
  refine aX ⟨_,rfl,_,_,_,rfl,rfl,rfl,_,rfl,_,_,_,rfl,rfl,rfl,p.1,x.b,rfl,rfl,_,rfl,?_⟩
  cases h2:decide (p.1<=x.b) with
  | false=>rw [h2] at q; exact aL ⟨trivial,q⟩
  | true=>
   rw [h2,be0] at q
   refine aX ⟨_,rfl,_,_,_,rfl,rfl,rfl,_,rfl,_,_,_,rfl,rfl,rfl,x.l,p.2,rfl,rfl,_,rfl,?_⟩
   cases h3:decide (x.l<=p.2) with
   | false=>rw [h3] at q; exact aL ⟨trivial,q⟩
   | true=>
    rw [h3,be0] at q
    exact aX ⟨_,rfl,_,_,_,rfl,rfl,rfl,_,rfl,_,_,_,rfl,rfl,rfl,p.2,x.r,rfl,rfl,trivial,q⟩
def mR:eZ:=fun Ep xs Q=>∃ (r c:Int) (v:PV) (ls:List aT) (x:Bx),xs = [.int r,.int c,v,bV x]/\(v = .tup (aG ls) ∨ v = .lst (aG ls))/\ls.length<=4096/\(¬ bL r c->Ep "BadBoard")/\(bL r c->¬ cG r c ls->Ep "BadSet")/\
 (bL r c->cG r c ls->∀ b:Bool,(b=true ↔ kA r c ls x)->Q (.bl b))
def V7 (Ep:Str->Prop):aV:=(aI (bC 4 (gX (eJ (j9 Ep k6 (a8 (a7 0) (a8 (a7 1) (a8 (a7 2) aD))))) [none,some 3] (cY 0) (aZ (aM rX (a8 (a7 1) (a8 (a7 0) aD)))) (a7 0)))
 (bQ (q2 (u6 2 false) (j9 Ep mP (a8 (a7 0) (a8 (a7 1) (a8 (a7 4) aD)))) (i9 (a8 (a7 3) aD)))))
theorem aL9 {bs:List Bx}{x:Bx}:bs.map Bx.k = [x.k] ↔ bs = [x]:=by
 constructor
 ·intro h
  have hl:=congrArg List.length h
  rw [aS1] at hl
  obtain ⟨y,rfl⟩:=List.length_eq_one_iff.mp hl
  rw [Bx.k_inj (List.cons.inj h).1]
 ·rintro rfl; rfl
theorem aM0 {i j:Nat}{a b:Int}{g:Bool}{ρ:bH}{Q:bH->Prop} (q:Q ((ρ.set i (si a)).set j (si b))):gW i j (.tup [.int a,.int b]) g ρ Q:=by
 refine⟨_,_,rfl,?_⟩
 rw [show flat (.int a)=true from rfl,show flat (.int b)=true from rfl,Bool.or_true]
 exact q
theorem aM1:mF V7 ["rows","columns","seeds","box","own"] mR:=by
 rintro Ep xs Q ⟨r,c,v,ls,x,rfl,hv,hl,e1,e2,q⟩
 refine⟨_,rfl,_,rfl,_,rfl,r,c,v,ls,rfl,hv,hl,e1,e2,fun ok st=>?_⟩
 have q:=q ok st
 refine⟨aG ls,rfl,(fun z=>by cases z),by rw [dY]; omega,fun i acc=>acc=aG ((ls.take i).filter (bA x)),rfl,?_,?_⟩
 ·rintro i w acc hw rfl
  obtain ⟨l,rfl,h⟩:=jZ hw
  have tk:=o0 (p:=bA x) h
  refine lA rfl ?_
  refine⟨_,rfl,_,rfl,x,l,rfl,_,rfl,?_⟩
  cases hb:bA x l with
  | true=>
   rw [hb,if_pos rfl] at tk
   refine aX ⟨_,rfl,trivial,?_⟩
   dsimp only
   rw [tk]
   unfold aG
   rw [aT9]; rfl
  | false=>
   rw [hb,if_neg (by decide),aW2] at tk
   refine aL ?_
   dsimp only
   rw [tk]
 ·rintro acc rfl
  rw [dY,aX7]
  refine⟨trivial,?_⟩
  have fl:=bf6 (bA x) ls
  refine⟨_,rfl,_,rfl,_,rfl,r,c,_,ls.filter (bA x),rfl,.inr rfl,by omega,fun z=>absurd ok z,fun _ z=>absurd (st.filter _) z,fun _ _ bs g=>?_⟩
  refine⟨_,rfl,by show 1<=1000; decide,?_,.inr ⟨_,_,rfl,rfl⟩,M0 1 (bs.map Bx.k) [x.k],trivial,?_⟩
  ·show (flat (bV x) && true)=true
   rw [lB]; rfl
  show Q (.bl (cH 3 (.lst (bJ bs)) (.lst (bJ [x]))))
  rw [show cH 3 (.lst (bJ bs)) (.lst (bJ [x]))=decide (bs.map Bx.k = [x.k]) from aA2 1 (bs.map Bx.k) [x.k]]
  exact q _ (decide_eq_true_iff.trans (aL9.trans (aL4 st g)))
def mS:bZ:=fun xs Q=>∃ (r c:Int) (ls:List aT) (x:Bx),xs = [.int r,.int c,.tup (aG ls),bV x]/\bL r c/\cG r c ls/\ls.length<=4096/\∀ b:Bool,(b=true ↔ kA r c ls x)->Q (.bl b)
def V8:aV:=(aI (bC 8 (cK (eL (a7 6) (a7 4)) (qC (.int 1))))
 (aI (bC 9 (cK (eL (a7 7) (a7 5)) (qC (.int 1))))
 (aI (gL 10 (i9 aD))
 (aI (eC (eJ (a7 2)) (gW 11 12)
  (bY (iP (aZ (jA (fun i j=>decide (i<=j)) (fun i j=>decide (i<=j)) (a7 4) (a7 11) (a7 6))) (aZ (jA (fun i j=>decide (i<=j)) (fun i j=>decide (i<=j)) (a7 5) (a7 12) (a7 7)))) (iT 10 (cW (a8 (eL (a7 11) (a7 4)) (a8 (eL (a7 12) (a7 5)) aD)))) cB))
 (bQ (jR (aM gU (a8 (aM rW (a8 (a7 8) (a8 (a7 9) (a8 (a7 10) aD)))) aD)) (jQ (a7 8) (a7 9))))))))
def V9:aV:=(aI (l7 (rH 4 5 6 7) (a7 3))
 (aI (bY (fJ (aZ (gM (a7 4) (qC (.int 0)))) (fJ (aZ (gM (a7 5) (qC (.int 0)))) (fJ (aZ (kT (a7 4) (a7 6))) (fJ (aZ (kT (a7 5) (a7 7))) (fJ (aZ (pP (a7 6) (a7 0))) (aZ (pP (a7 7) (a7 1)))))))) (bQ (qC (.bl false))) cB)
 V8))
theorem aM2 {r c:Int}{ls:List aT} (st:cG r c ls) (x:Bx):cG (x.b - x.t+1) (x.r - x.l+1) ((ls.filter (bA x)).map (shift x)):=by
 refine⟨ba4.mpr ((st.1.sublist List.filter_sublist).imp fun {a b} h=>?_),fun l hl=>?_⟩
 ·unfold eY shift at *; dsimp only; omega
 ·obtain ⟨p,hp,rfl⟩:=aU0.mp hl
  have:=mQ.mp (aV3.mp hp).2
  unfold aP at this
  unfold shift
  exact eO.mpr (by dsimp only; omega)
theorem aM3 {r c:Int}{ls:List aT}{x:Bx}{Q:PV->Prop}{y3 y11 y12:Option Slot} (okb:bL r c) (st:cG r c ls) (hl:ls.length<=4096) (ok:okX x) (h1:0<=x.t) (h2:0<=x.l) (h3:x.b < r) (h4:x.r < c) (q:∀ b:Bool,(b=true ↔ kA r c ls x)->Q (.bl b)) :
  V8 { nx:=fun _=>Q .non,rt:=Q } [si r,si c,some (.sh (flat (.tup (aG ls))) (.tup (aG ls))),y3,si x.t,si x.l,si x.b,si x.r,none,none,none,none,none]:=by
 have okk:=ok
 unfold okX at okk
 unfold bL at okb
 refine⟨_,rfl,_,rfl,_,_,rfl,rfl,_,_,rfl,rfl,trivial,?_⟩
 refine⟨_,rfl,_,rfl,_,_,rfl,rfl,_,_,rfl,rfl,trivial,?_⟩
 refine⟨by show 0<=1000; decide,rfl,rfl,rfl,?_⟩
 refine⟨_,rfl,aG ls,rfl,mI,fun i ρ=>∃ y11 y12:Option Slot,ρ = [si r,si c,some (.sh (flat (.tup (aG ls))) (.tup (aG ls))),y3,si x.t,si x.l,si x.b,si x.r,si (x.b - x.t+1),si (x.r - x.l+1),some (.own (.lst (aG (((ls.take i).filter (bA x)).map (shift x))))),y11,y12],⟨none,none,rfl⟩,?_,?_⟩
 ·rintro i w ρ hw ⟨y11,y12,rfl⟩
  obtain ⟨l,rfl,h⟩:=jZ hw
  have il:=(aS0.mp h).1
  have tk:=o0 (p:=bA x) h
  have no:bA x l=false->aG (((ls.take i).filter (bA x)).map (shift x))=aG (((ls.take (i+1)).filter (bA x)).map (shift x)):=fun e=>by
   rw [e,if_neg (by decide),aW2] at tk
   rw [tk]
  have fl:=bf6 (bA x) (ls.take i)
  rw [bd5] at fl
  refine aM0 ?_
  refine⟨_,rfl,_,rfl,x.t,l.1,rfl,rfl,?_⟩
  show if decide (x.t<=l.1)=true then _ else _
  have go:bA x l=false->∃ u v:Option Slot,[si r,si c,some (.sh (flat (.tup (aG ls))) (.tup (aG ls))),y3,si x.t,si x.l,si x.b,si x.r,si (x.b - x.t+1),si (x.r - x.l+1),some (.own (.lst (aG (((ls.take i).filter (bA x)).map (shift x))))),si l.1,si l.2] = [si r,si c,some (.sh (flat (.tup (aG ls))) (.tup (aG ls))),y3,si x.t,si x.l,si x.b,si x.r,si (x.b - x.t+1),si (x.r - x.l+1),some (.own (.lst (aG (((ls.take (i+1)).filter (bA x)).map (shift x))))),u,v]:=fun e=>⟨_,_,by rw [no e]⟩
  by_cases a1:x.t<=l.1
  ·rw [aR3 a1]
   refine aX ⟨_,rfl,x.b,rfl,_,rfl,?_⟩
   show if decide (l.1<=x.b)=true then _ else _
   by_cases a2:l.1<=x.b
   ·rw [aR3 a2]
    refine aX ⟨_,rfl,_,rfl,x.l,l.2,rfl,rfl,?_⟩
    show if decide (x.l<=l.2)=true then _ else _
    by_cases a3:x.l<=l.2
    ·rw [aR3 a3]
     refine aX ⟨_,rfl,x.r,rfl,_,rfl,?_⟩
     show if decide (l.2<=x.r)=true then _ else _
     by_cases a4:l.2<=x.r
     ·rw [aR3 a4]
      have b:bA x l=true:=mQ.mpr ⟨a1,a2,a3,a4⟩
      rw [b,if_pos rfl] at tk
      refine aX ⟨_,rfl,_,rfl,_,rfl,_,_,rfl,rfl,_,rfl,_,rfl,_,_,rfl,rfl,by show 2<=1000; decide,rfl,trivial,by rw [dY,aS1]; omega,?_⟩
      refine⟨si l.1,si l.2,?_⟩
      rw [tk,aT9,<- V4]
      rfl
     ·rw [aR2 a4]
      exact aL (go (by unfold bA; rw [aR2 a4,aU8,aU8,aU8]))
    ·rw [aR2 a3]
     exact aL ⟨_,rfl,aL (go (by unfold bA; rw [aR2 a3,aW5,aU8,aU8]))⟩
   ·rw [aR2 a2]
    exact aL (aL (go (by unfold bA; rw [aR2 a2,aW5,aU8])))
  ·rw [aR2 a1]
   exact aL ⟨_,rfl,aL (aL (go (by unfold bA; rw [aR2 a1,aW5])))⟩
 ·rintro ρ ⟨y11,y12,rfl⟩
  rw [dY,aX7]
  have ok2:bL (x.b - x.t+1) (x.r - x.l+1):=by unfold bL; omega
  refine⟨_,rfl,_,rfl,_,rfl,_,_,_,_,rfl,.inr rfl,ok2,aM2 st x,fun K ord mem kl=>?_⟩
  refine⟨_,_,rfl,rfl,_,rfl,_,rfl,_,_,rfl,rfl,.inl ⟨by omega,by omega⟩,.inl ⟨_,_,rfl,rfl,trivial,?_⟩⟩
  refine q _ ?_
  show decide (((aG K).length:Int)=(x.b - x.t+1) * (x.r - x.l+1))=true ↔ _
  rw [dY,decide_eq_true_iff]
  exact aL7 ok h1 h2 h3 h4 (mH ord) mem
theorem aM4:dS V9 ["rows","columns","seeds","box","top","left","bottom","right","high","wide","mine","row","column"] mS:=by
 rintro xs Q ⟨r,c,ls,x,rfl,okb,st,hl,q⟩
 have nq : ¬ kA r c ls x->Q (.bl false):=fun n=>q false ⟨fun z=>(by cases z),fun z=>absurd z n⟩
 refine⟨_,rfl,trivial,_,_,_,_,rfl,?_⟩
 refine⟨_,rfl,x.t,0,rfl,rfl,_,rfl,?_⟩
 show if decide (x.t < 0)=true then _ else _
 by_cases a1:x.t < 0
 ·rw [aR3 a1]
  exact aX (aX ⟨trivial,nq fun z=>by have:=z.2.1; omega⟩)
 rw [aR2 a1]
 refine aL ⟨_,rfl,x.l,0,rfl,rfl,_,rfl,?_⟩
 show if decide (x.l < 0)=true then _ else _
 by_cases a2:x.l < 0
 ·rw [aR3 a2]
  exact aX (aX ⟨trivial,nq fun z=>by have:=z.2.2.1; omega⟩)
 rw [aR2 a2]
 refine aL ⟨_,rfl,_,rfl,x.t,x.b,rfl,rfl,_,rfl,?_⟩
 show if decide (x.b < x.t)=true then _ else _
 by_cases a3:x.b < x.t
 ·rw [aR3 a3]
  exact aX (aX ⟨trivial,nq fun z=>by have:=z.1; unfold okX at this; omega⟩)
 rw [aR2 a3]
 refine aL ⟨_,rfl,_,rfl,x.l,x.r,rfl,rfl,_,rfl,?_⟩
 show if decide (x.r < x.l)=true then _ else _
 by_cases a4:x.r < x.l
 ·rw [aR3 a4]
  exact aX (aX ⟨trivial,nq fun z=>by have:=z.1; unfold okX at this; omega⟩)
 rw [aR2 a4]
 refine aL ⟨_,rfl,_,rfl,x.b,r,rfl,rfl,_,rfl,?_⟩
 show if decide (r<=x.b)=true then _ else _
 by_cases a5:r<=x.b
 ·rw [aR3 a5]
  exact aX (aX ⟨trivial,nq fun z=>by have:=z.2.2.2.1; omega⟩)
 rw [aR2 a5]
 refine aL ⟨_,rfl,_,rfl,x.r,c,rfl,rfl,_,rfl,?_⟩
 show if decide (c<=x.r)=true then _ else _
 by_cases a6:c<=x.r
 ·rw [aR3 a6]
  exact aX ⟨trivial,nq fun z=>by have:=z.2.2.2.2.1; omega⟩
 rw [aR2 a6]
 exact aL (aM3 (y11:=none) (y12:=none) okb st hl ⟨by omega,by omega⟩ (by omega) (by omega) (by omega) (by omega) q)
def rY:bZ:=fun xs Q=>∃ (ns:List Int) (a r c z:Int),xs = [.scr ns,.int a,.int r,.int c,.int z]/\ns.length<=63/\0<=a/\a<=1000/\bL r c/\∀ x:Bx,Q (bV x)
def W0:aV:=(aI (bY (aZ (jR (c6 (dN (a7 4) (qC (.int 16))) (qC (.int 8))) (qC (.int 3)))) (bC 7 (cW (a8 (eL (A1 (qC (.int 1))) (c6 (dN (a7 4) (qC (.int 128))) (A3 (qC (.int 10)) (qC (.int 30))))) (a8 (a7 6) (a8 (a7 5) (a8 (a7 6) aD)))))) cB)
 (kO 7))
def W5:aV:=(aI (bY (aZ (jR (c6 (dN (a7 4) (qC (.int 16))) (qC (.int 8))) (qC (.int 2)))) (bC 7 (cW (a8 (a7 5) (a8 (a7 6) (a8 (cK (a7 2) (c6 (dN (a7 4) (qC (.int 128))) (A3 (qC (.int 10)) (qC (.int 30))))) (a8 (a7 6) aD)))))) cB)
 W0)
def W6:aV:=(aI (bY (aZ (jR (c6 (dN (a7 4) (qC (.int 16))) (qC (.int 8))) (qC (.int 1)))) (bC 7 (cW (a8 (cK (bD (a7 7) (qC (.int 2))) (qC (.int 1))) (a8 (a7 6) (a8 (a7 5) (a8 (a7 6) aD)))))) cB)
 W5)
def W7:aV:=(aI (bC 5 (c6 (aM jB (a8 (a7 0) (a8 (a7 1) aD))) (a7 2)))
 (aI (bC 6 (c6 (dN (aM jB (a8 (a7 0) (a8 (a7 1) aD))) (qC (.int 41))) (a7 3)))
 (aI (bC 7 (cW (a8 (a7 5) (a8 (a7 6) (a8 (cK (a7 5) (c6 (a7 4) (qC (.int 4)))) (a8 (cK (a7 6) (c6 (dN (a7 4) (qC (.int 4))) (qC (.int 4)))) aD))))))
 W6)))
section
variable {ns : List Int} {a r c z t l : Int} {Q : PV → Prop} (q : ∀ x : Bx, Q (bV x))
include q
theorem W8 (x:Bx):W0 { nx:=fun _=>Q .non,rt:=Q } [some (.sh true (.scr ns)),si a,si r,si c,si z,si t,si l,some (.sh true (bV x))]:=by
 refine⟨_,rfl,_,_,rfl,rfl,⟨by decide,by decide⟩,_,_,rfl,rfl,(by show (0:Int) < 8; decide),.inl ⟨_,_,rfl,rfl,_,rfl,?_⟩⟩
 generalize hd:decide (z / 16 % 8=3)=d
 show if d=true then _ else _
 cases d with
 | false=>exact aL ⟨_,rfl,trivial,q x⟩
 | true=>
  refine aX ⟨1,rfl,_,rfl,_,_,rfl,rfl,⟨by decide,by decide⟩,_,_,rfl,rfl,⟨by decide,by decide,by decide⟩,_,_,rfl,rfl,(by show (0:Int) < 10 ^ (30:Int).toNat; decide),_,_,rfl,rfl,_,rfl,_,rfl,_,rfl,by show 4<=1000; decide,rfl,trivial,?_⟩
  exact⟨_,rfl,trivial,q ⟨_,_,_,_⟩⟩
theorem W9 (x:Bx):W5 { nx:=fun _=>Q .non,rt:=Q } [some (.sh true (.scr ns)),si a,si r,si c,si z,si t,si l,some (.sh true (bV x))]:=by
 refine⟨_,rfl,_,_,rfl,rfl,⟨by decide,by decide⟩,_,_,rfl,rfl,(by show (0:Int) < 8; decide),.inl ⟨_,_,rfl,rfl,_,rfl,?_⟩⟩
 generalize hd:decide (z / 16 % 8=2)=d
 show if d=true then _ else _
 cases d with
 | false=>exact aL (W8 q x)
 | true=>
  refine aX ⟨_,rfl,_,rfl,_,rfl,_,rfl,_,_,rfl,rfl,⟨by decide,by decide⟩,_,_,rfl,rfl,⟨by decide,by decide,by decide⟩,_,_,rfl,rfl,(by show (0:Int) < 10 ^ (30:Int).toNat; decide),_,_,rfl,rfl,_,rfl,by show 4<=1000; decide,rfl,trivial,?_⟩
  exact W8 q ⟨t,l,r+z / 128 % 10 ^ (30:Int).toNat,l⟩
theorem aM5 (x:Bx):W6 { nx:=fun _=>Q .non,rt:=Q } [some (.sh true (.scr ns)),si a,si r,si c,si z,si t,si l,some (.sh true (bV x))]:=by
 refine⟨_,rfl,_,_,rfl,rfl,⟨by decide,by decide⟩,_,_,rfl,rfl,(by show (0:Int) < 8; decide),.inl ⟨_,_,rfl,rfl,_,rfl,?_⟩⟩
 generalize hd:decide (z / 16 % 8=1)=d
 show if d=true then _ else _
 cases d with
 | false=>exact aL (W9 q x)
 | true=>
  refine aX ⟨_,rfl,_,_,_,rfl,rfl,rfl,x.b,1,rfl,rfl,_,rfl,_,rfl,_,rfl,by show 4<=1000; decide,rfl,trivial,?_⟩
  exact W9 q ⟨x.b+1,l,t,l⟩
end
theorem aM6:dS W7 ["script","at","rows","columns","cell","top","left","box"] rY:=by
 rintro xs Q ⟨ns,a,r,c,z,rfl,hn,a0,a1,ok,q⟩
 unfold bL at ok
 refine⟨_,rfl,_,rfl,ns,a,rfl,hn,a0,a1,fun z1=>⟨_,rfl,z1,r,rfl,rfl,by omega,trivial,?_⟩⟩
 refine⟨_,rfl,_,rfl,ns,a,rfl,hn,a0,a1,fun z2=>⟨_,_,rfl,rfl,⟨by decide,by decide⟩,_,rfl,z2 / 41,c,rfl,rfl,by omega,trivial,?_⟩⟩
 refine⟨_,rfl,_,rfl,_,rfl,_,rfl,_,_,rfl,rfl,(by show (0:Int) < 4; decide),_,_,rfl,rfl,_,rfl,_,rfl,_,_,rfl,rfl,⟨by decide,by decide⟩,_,_,rfl,rfl,(by show (0:Int) < 4; decide),_,_,rfl,rfl,by show 4<=1000; decide,rfl,trivial,?_⟩
 exact aM5 q ⟨z1 % r,z2 / 41 % c,z1 % r+z % 4,z2 / 41 % c+z / 4 % 4⟩
def wB:bZ:=K3
def aM7 (K:PySem.W.Frag):aV:=(aI (bC 11 (aM (mR fun _=>False) (a8 (a7 1) (a8 (a7 2) (a8 (a7 3) (a8 (a7 10) aD))))))
   (bY (fJ (iQ (aZ (lT K "bool" (a7 11)))) (aZ (u7 (a7 11) (aM mS (a8 (a7 1) (a8 (a7 2) (a8 (a7 3) (a8 (a7 10) aD)))))))) (bQ (qC (.bl false))) cB))
def X0 (K:PySem.W.Frag):aV:=(aI (eC (nI (qC (.int 8))) (cY 12)
  (aI (bC 4 (aM rY (a8 (a7 0) (a8 (cK (qC (.int 1)) (a7 12)) (a8 (a7 1) (a8 (a7 2) (a8 (aM jB (a8 (a7 0) (a8 (cK (qC (.int 2)) (a7 12)) aD))) aD)))))))
  (aI (bC 11 (aM (mR fun _=>False) (a8 (a7 1) (a8 (a7 2) (a8 (aM pF (a8 (a7 3) aD)) (a8 (a7 4) aD))))))
  (bY (fJ (iQ (aZ (lT K "bool" (a7 11)))) (aZ (u7 (a7 11) (aM mS (a8 (a7 1) (a8 (a7 2) (a8 (a7 3) (a8 (a7 4) aD)))))))) (bQ (qC (.bl false))) cB))))
 (bQ (qC (.bl true))))
def X1 (K:PySem.W.Frag):aV:=(aI (eC (eJ (aM (mP fun _=>False) (a8 (a7 1) (a8 (a7 2) (a8 (a7 3) aD))))) (cY 4)
  (aI (l7 (rH 5 6 7 8) (a7 4))
  (aI (bC 9 (gX (eJ (a7 3)) [none,some 5,some 7,some 6,some 8] (cY 0) (iP (aZ (jA (fun i j=>decide (i<=j)) (fun i j=>decide (i<=j)) (a7 1) (bD (a7 0) (qC (.int 0))) (a7 2))) (aZ (jA (fun i j=>decide (i<=j)) (fun i j=>decide (i<=j)) (a7 3) (bD (a7 0) (qC (.int 1))) (a7 4)))) (a7 0)))
  (aI (bY (fJ (aZ (q2 wA (aM (mR fun _=>False) (a8 (a7 1) (a8 (a7 2) (a8 (a7 3) (a8 (a7 4) aD))))) (qC (.bl true)))) (aZ (gM (jQ (qC (.int 2)) (aM gU (a8 (a7 9) aD))) (cK (eL (cK (eL (a7 7) (a7 5)) (a7 8)) (a7 6)) (qC (.int 2)))))) (bQ (qC (.bl false))) cB)
  (aI (bY (iQ (aZ (aM mS (a8 (a7 1) (a8 (a7 2) (a8 (a7 3) (a8 (a7 4) aD))))))) (bQ (qC (.bl false))) cB)
  (eC (eJ (i9 (a8 (cW (a8 (a7 5) (a8 (a7 6) (a8 (a7 7) (a8 (cK (a7 8) (qC (.int 1))) aD))))) (a8 (cW (a8 (a7 5) (a8 (cK (a7 6) (qC (.int 1))) (a8 (a7 7) (a8 (a7 8) aD))))) (a8 (cW (a8 (a7 5) (a8 (a7 6) (a8 (eL (a7 7) (qC (.int 1))) (a8 (a7 8) aD))))) aD))))) (cY 10)
   (aM7 K)))))))
 (X0 K))
def X2 (K:PySem.W.Frag):aV:=(aI (l7 (gW 1 2) (aM rF (a8 (aM jY (a8 (a7 0) (a8 (qC (.int 0)) aD))) aD)))
 (aI (bC 3 (aM rG (a8 (a7 0) (a8 (qC (.int 2)) (a8 (a7 1) (a8 (a7 2) aD))))))
 (aI (bY (aZ (kT (jQ (a7 1) (a7 2)) (qC (.int 81)))) (bC 3 (pO (a7 3) pM (pN (qC (.int 24))))) cB)
 (X1 K))))
section
variable {K : PySem.W.Frag} {ns : List Int} {r c : Int} {ls : List aT} {Q : PV → Prop}
theorem aM8 (kb:PySem.W.kitOne K (.type "bool") (.type "bool")=some true) (hn:ns.length<=63) (ok:bL r c) (st:cG r c ls) (hl:ls.length<=200) (q:Q (.bl true)) (y4 y5 y6 y7 y8 y9 y10 y11:Option Slot) :
  X0 K { nx:=fun _=>Q .non,rt:=Q } [some (.sh true (.scr ns)),si r,si c,some (.sh true (.tup (aG ls))),y4,y5,y6,y7,y8,y9,y10,y11,none]:=by
 refine⟨8,rfl,by decide,by decide,fun i ρ=>∃ y4 y11 y12:Option Slot,ρ = [some (.sh true (.scr ns)),si r,si c,some (.sh true (.tup (aG ls))),y4,y5,y6,y7,y8,y9,y10,y11,y12],⟨y4,y11,none,rfl⟩,?_,?_⟩
 ·rintro i v ρ hv ⟨y4,y11,y12,rfl⟩
  obtain ⟨rfl,hi⟩:=uY hv
  have hi:i < 8:=hi
  rw [show (0:Int)+(i:Int)=(i:Int) by omega]
  refine az2 ?_
  refine⟨_,rfl,_,rfl,_,_,rfl,rfl,_,rfl,_,rfl,_,rfl,_,rfl,_,_,rfl,rfl,ns,2+(i:Int),rfl,hn,by omega,by omega,fun z=>⟨ns,1+(i:Int),r,c,z,rfl,hn,by omega,by omega,ok,fun x=>⟨trivial,?_⟩⟩⟩
  refine⟨_,rfl,_,rfl,_,rfl,_,_,rfl,rfl,j5 _,_,rfl,r,c,_,ls,x,rfl,.inr rfl,by omega,(fun z=>z ok),(fun _ z=>z st),fun _ _ b1 h1=>⟨trivial,?_⟩⟩
  refine⟨_,rfl,_,_,rfl,kb,_,rfl,aL ⟨_,rfl,_,rfl,_,rfl,_,rfl,_,rfl,r,c,ls,x,rfl,ok,st,by omega,fun b2 h2=>.inr ⟨b1,b2,rfl,rfl,_,rfl,?_⟩⟩⟩
  have e:b1=b2:=aX4.mpr (h1.trans h2.symm)
  show if (!decide (b1=b2))=true then _ else _
  rw [aR3 e]
  exact aL ⟨_,_,_,rfl⟩
 ·rintro ρ ⟨y4,y11,y12,rfl⟩
  exact⟨trivial,q⟩
theorem X3 (kb:PySem.W.kitOne K (.type "bool") (.type "bool")=some true) (hn:ns.length<=63) (ok:bL r c) (st:cG r c ls) (hl:ls.length<=200) (q:Q (.bl true)) :
  X1 K { nx:=fun _=>Q .non,rt:=Q } [some (.sh true (.scr ns)),si r,si c,some (.sh true (.tup (aG ls))),none,none,none,none,none,none,none,none,none]:=by
 refine⟨_,rfl,_,rfl,_,rfl,r,c,_,ls,rfl,.inl rfl,by omega,(fun z=>z ok),(fun _ z=>z st),fun _ _ bs g=>?_⟩
 refine⟨bJ bs,rfl,(fun z=>by cases z),fun i ρ=>∃ y4 y5 y6 y7 y8 y9 y10 y11:Option Slot,ρ = [some (.sh true (.scr ns)),si r,si c,some (.sh true (.tup (aG ls))),y4,y5,y6,y7,y8,y9,y10,y11,none],⟨none,none,none,none,none,none,none,none,rfl⟩,?_,?_⟩
 ·rintro i v ρ hv ⟨y4,y5,y6,y7,y8,y9,y10,y11,rfl⟩
  obtain ⟨x,rfl,hx⟩:=mJ hv
  obtain ⟨al,few⟩:=aL5 ok st g (bc4 hx)
  refine lA (lB x) ?_
  refine⟨_,rfl,trivial,_,_,_,_,rfl,?_⟩
  refine⟨_,rfl,aG ls,rfl,(fun z=>by cases z),by rw [dY]; omega,fun i acc=>acc=aG ((ls.take i).filter (bA x)),rfl,?_,?_⟩
  ·rintro i w acc hw rfl
   obtain ⟨l,rfl,h⟩:=jZ hw
   have tk:=o0 (p:=bA x) h
   have no:bA x l=false->aG ((ls.take i).filter (bA x))=aG ((ls.take (i+1)).filter (bA x)):=fun e=>by
    rw [e,if_neg (by decide),aW2] at tk
    rw [tk]
   refine lA rfl ?_
   refine⟨_,rfl,_,rfl,_,_,_,rfl,rfl,rfl,x.t,l.1,rfl,rfl,?_⟩
   show if decide (x.t<=l.1)=true then _ else _
   by_cases a1:x.t<=l.1
   ·rw [aR3 a1]
    refine aX ⟨_,rfl,x.b,rfl,_,rfl,?_⟩
    show if decide (l.1<=x.b)=true then _ else _
    by_cases a2:l.1<=x.b
    ·rw [aR3 a2]
     refine aX ⟨_,rfl,_,rfl,_,_,_,rfl,rfl,rfl,x.l,l.2,rfl,rfl,?_⟩
     show if decide (x.l<=l.2)=true then _ else _
     by_cases a3:x.l<=l.2
     ·rw [aR3 a3]
      refine aX ⟨_,rfl,x.r,rfl,_,rfl,?_⟩
      show if decide (l.2<=x.r)=true then _ else _
      by_cases a4:l.2<=x.r
      ·rw [aR3 a4]
       have b:bA x l=true:=mQ.mpr ⟨a1,a2,a3,a4⟩
       rw [b,if_pos rfl] at tk
       refine aX ⟨_,rfl,trivial,?_⟩
       dsimp only
       rw [tk,<- V4]
       rfl
      ·rw [aR2 a4]
       exact aL (no (by unfold bA; rw [aR2 a4,aU8,aU8,aU8]))
     ·rw [aR2 a3]
      exact aL ⟨_,rfl,aL (no (by unfold bA; rw [aR2 a3,aW5,aU8,aU8]))⟩
    ·rw [aR2 a2]
     exact aL (aL (no (by unfold bA; rw [aR2 a2,aW5,aU8])))
   ·rw [aR2 a1]
    exact aL ⟨_,rfl,aL (aL (no (by unfold bA; rw [aR2 a1,aW5])))⟩
  rintro acc rfl
  rw [dY,aX7]
  refine⟨trivial,?_⟩
  refine⟨_,rfl,_,rfl,_,rfl,_,rfl,r,c,_,ls,x,rfl,.inl rfl,by omega,(fun z=>z ok),(fun _ z=>z st),fun _ _ b hb=>⟨b,true,rfl,rfl,_,rfl,?_⟩⟩
  obtain rfl:b=true:=hb.mpr al
  refine aL ?_
  have fl:=bf6 (bA x) ls
  refine⟨_,rfl,_,_,rfl,rfl,_,_,rfl,rfl,.inl ⟨by decide,by decide⟩,_,rfl,_,rfl,x.b,x.t,rfl,rfl,_,rfl,_,x.r,rfl,rfl,_,rfl,_,x.l,rfl,rfl,_,_,rfl,rfl,_,_,rfl,rfl,_,rfl,?_⟩
  show if decide (2 * ((aG (ls.filter (bA x))).length:Int) < x.b - x.t+x.r - x.l+2)=true then _ else _
  rw [aR2 (by rw [dY]; unfold hV at few; omega)]
  refine aL ?_
  refine⟨_,rfl,_,rfl,_,rfl,_,rfl,r,c,ls,x,rfl,ok,st,by omega,fun b hb=>⟨_,rfl,?_⟩⟩
  obtain rfl:b=true:=hb.mpr al
  refine aL ?_
  refine⟨_,rfl,_,rfl,_,rfl,_,rfl,x.r,1,rfl,rfl,by show 4<=1000; decide,rfl,_,rfl,_,rfl,x.l,1,rfl,rfl,_,rfl,_,rfl,by show 4<=1000; decide,rfl,_,rfl,_,rfl,_,rfl,x.b,1,rfl,rfl,_,rfl,by show 4<=1000; decide,rfl,by show 3<=1000; decide,rfl,bJ [⟨x.t,x.l,x.b,x.r+1⟩,⟨x.t,x.l+1,x.b,x.r⟩,⟨x.t,x.l,x.b - 1,x.r⟩],rfl,(fun z=>by cases z),fun i ρ=>∃ y10 y11:Option Slot,ρ = [some (.sh true (.scr ns)),si r,si c,some (.sh true (.tup (aG ls))),some (.sh true (bV x)),si x.t,si x.l,si x.b,si x.r,some (.sh true (.lst (aG (ls.filter (bA x))))),y10,y11,none],⟨y10,y11,rfl⟩,?_,?_⟩
  ·rintro j v ρ hv ⟨y10,y11,rfl⟩
   obtain ⟨y,rfl,hy⟩:=mJ hv
   refine lA (lB y) ?_
   refine⟨_,rfl,_,rfl,_,rfl,_,rfl,r,c,_,ls,y,rfl,.inl rfl,by omega,(fun z=>z ok),(fun _ z=>z st),fun _ _ b1 h1=>⟨trivial,?_⟩⟩
   refine⟨_,rfl,_,_,rfl,kb,_,rfl,aL ⟨_,rfl,_,rfl,_,rfl,_,rfl,_,rfl,r,c,ls,y,rfl,ok,st,by omega,fun b2 h2=>.inr ⟨b1,b2,rfl,rfl,_,rfl,?_⟩⟩⟩
   have e:b1=b2:=aX4.mpr (h1.trans h2.symm)
   show if (!decide (b1=b2))=true then _ else _
   rw [aR3 e]
   exact aL ⟨_,_,rfl⟩
  ·rintro ρ ⟨y10,y11,rfl⟩
   exact⟨_,_,_,_,_,_,_,_,rfl⟩
 ·rintro ρ ⟨y4,y5,y6,y7,y8,y9,y10,y11,rfl⟩
  exact aM8 kb hn ok st hl q y4 y5 y6 y7 y8 y9 y10 y11
end
theorem aM9 (ls:List aT) (n:Nat):(aG ls).take n=aG (ls.take n):=by unfold aG; rw [List.map_take]
theorem aN0 {K:PySem.W.Frag} (kb:PySem.W.kitOne K (.type "bool") (.type "bool")=some true):dS (X2 K) ["script","rows","columns","seeds","box","top","left","bottom","right","mine","other","told","k"] wB:=by
 rintro xs Q ⟨ns,rfl,hn,q⟩
 refine⟨_,rfl,_,ns,0,rfl,.inl rfl,by decide,_,rfl,fun r c ok=>⟨trivial,_,_,rfl,?_⟩⟩
 refine⟨_,rfl,_,rfl,_,rfl,ns,2,r,c,rfl,hn,by decide,by decide,ok,fun ls st sl=>⟨trivial,?_⟩⟩
 obtain ⟨r1,r2,c1,c2⟩:=id ok
 refine⟨_,rfl,_,rfl,_,_,rfl,rfl,.inl ⟨by omega,by omega⟩,_,_,rfl,rfl,_,rfl,?_⟩
 generalize decide (r * c > 81)=d
 show if d=true then _ else _
 cases d with
 | false=>exact aL (X3 kb hn ok st sl q)
 | true=>
  refine aX ⟨_,rfl,24,rfl,aG ls,rfl,j5 _,trivial,?_⟩
  have e:iC (aG ls) none (some 24)=aG (ls.take 24):=by rw [K9 (by decide),aM9]; rfl
  dsimp only
  rw [e]
  exact X3 kb hn ok (st.take 24) (by rw [bd5]; omega) q
end Core
namespace K_k66
open PySem PySem.W L2 PP Core
theorem _root_.L2.FnScope.au {N P:List Str}{s:Scope} (a:s.kind=.function:=by rfl) (b:s.isCoroutine=false:=by rfl) (c:s.isGenerator=false:=by rfl) (d:N.Nodup:=by decide +kernel) (e:N.take P.length=P:=by rfl) (f:∀ x∈P,s.names.lookup x=some .local∨s.names.lookup x=some .cell:=by decide +kernel) (g:∀ y∈s.names,y.2≠.free:=by decide +kernel):FnScope N P s:=⟨a,b,c,d,e,f,g⟩
def bB (i:Nat):Stmt:=PySem.Challenge.pw_kindleweb_k66_whole_own_seeds.main.body.getD i (.Pass ⟨0,0,0,0⟩)
structure FK (K:Frag) (n:Str) (i:Nat) (f:Addr) (d:FuncData):Prop where
 a:nsIn K mainGlobals n=some (some (.ref f))
 F:fY K n n (bB i) f d
structure FM (K:Frag) (mg:Str->Option Value) (n:Str) (i:Nat) (f:Addr) (d:FuncData):Prop where
 F:fY K n n (bB i) f d
 m:mg n=some (.ref f)
theorem FK.M {K:Frag}{mg:Str->Option Value}{n:Str}{i:Nat}{f:Addr}{d:FuncData}{h:Heap} (z:FK K n i f d) (X:K.In h) (G:h.Ns mainGlobals mg):FM K mg n i f d:=⟨z.F,mg_of X G z.a⟩
abbrev Hb (x:Str) (ps:List Str) (i:Nat):Prop:=∀ (kV doc pm:Value) (an:Option Addr) (cdv ct:Value) (us:List Value),us.length=ps.length->bindArgs (fnOf x x (iM (bB i)) (eF (bB i)) (b7 (bB i)) .none kV doc pm an cdv ct) ⟨us,[]⟩=pure (ps.zip us)
theorem rZ {A:Around}{k:Nat} (hr:cD k A):A.units+3 < cLine:=by have:=hr.units; omega
section
variable {P : Program} {w : World} {K : Frag} {mg : Str → Option Value} {base : Heap} {f : Addr} {fd : FuncData} {k i : Nat} {x : Str} {ps N : List Str}
theorem Df.au {p:bZ} (F:FM K mg x i f fd) (S:FnScope N ps (b7 (bB i))) (body:∀ (cdv:Value) (A:Around) (outer:List Env) (s:Shared) (H:Hp) (E:XK),cD k (A.deeper (PyProof.Rows.envOfC x (b7 (bB i)) s.heap.objs.size f cdv))->∃ t,eV (dF eR P w K mg base N x (b7 (bB i)) f cdv A outer s H E).nox (eF (bB i)) t/\∀ xs Q,p xs Q->t { nx:=fun _=>Q .non,rt:=Q } (fM N xs)) (hb:Hb x ps i:=by intro _ _ _ _ _ _ us hl; first | (obtain ⟨_,rfl⟩:=vC hl; rfl) | (obtain ⟨_,_,rfl⟩:=vD hl; rfl) | (obtain ⟨_,_,_,rfl⟩:=vE hl; rfl) | (obtain ⟨_,_,_,_,rfl⟩:=vF hl; rfl) | (obtain ⟨_,_,_,_,_,rfl⟩:=L6 hl; rfl)) (len:∀ xs Q,p xs Q->xs.length=ps.length:=by intro xs Q h; repeat (first | (obtain ⟨rfl,_⟩:=h; rfl) | (obtain ⟨_,h⟩:=h))):Df P w K mg base (k+1) x ps p:=
 Df.of F.F F.m S hb len body
theorem cF.au {p:eZ} (F:FM K mg x i f fd) (S:FnScope N ps (b7 (bB i))) (t:(Str->Prop)->aV) (rd:∀ Ep xs Q,p Ep xs Q->t Ep { nx:=fun _=>Q .non,rt:=Q } (fM N xs)) (body:∀ (cdv:Value) (A:Around) (outer:List Env) (s:Shared) (H:Hp) (E:XK) (Ep:Str->Prop),cD k (A.deeper (PyProof.Rows.envOfC x (b7 (bB i)) s.heap.objs.size f cdv))->mC (dF (eN P w) P w K mg base N x (b7 (bB i)) f cdv A outer s H E) (EX K H Ep)->eV (dF (eN P w) P w K mg base N x (b7 (bB i)) f cdv A outer s H E) (eF (bB i)) (t Ep)) (hb:Hb x ps i:=by intro _ _ _ _ _ _ us hl; first | (obtain ⟨_,rfl⟩:=vC hl; rfl) | (obtain ⟨_,_,rfl⟩:=vD hl; rfl) | (obtain ⟨_,_,_,rfl⟩:=vE hl; rfl) | (obtain ⟨_,_,_,_,rfl⟩:=vF hl; rfl) | (obtain ⟨_,_,_,_,_,rfl⟩:=L6 hl; rfl)) (len:∀ Ep xs Q,p Ep xs Q->xs.length=ps.length:=by intro Ep xs Q h; repeat (first | (obtain ⟨rfl,_⟩:=h; rfl) | (obtain ⟨_,h⟩:=h))):cF P w K mg base (k+1) x ps p:=
 cF.of F.F F.m S hb t len rd body
end
section
variable {P : Program} {w : World} {K : Frag} {mg : Str → Option Value} {base : Heap} {f : Addr} {fd : FuncData}
theorem aN1:FnScope ["things"] ["things"] (b7 (bB 6)):=.au
theorem K0 (B:Bt mg) (F:FM K mg "rises" 6 f fd)  : Df P w K mg base 1 "rises" ["things"] r9:=
 Df.au F aN1 (fun cdv A outer s H E hr=>by
  have hu:=nB hr
  exact⟨(O2),(aY (c7 (B8 B rfl (a9 (K7 (N:=["ahead","behind"]) (fr:=[none,none]) (aC4 B (qv 0) (uI (qv 0) (uH aB) uG)) (fun _ _ _ _=>(aC0 hu (qv 0) (qv 1)))) aF)))),aC7⟩)
theorem X4:FnScope ["hearths","inside","hearth"] ["hearths"] (b7 (bB 7)):=.au
theorem aN2 (B:Bt mg) (F:FM K mg "marked" 7 f fd)  : Df P w K mg base 1 "marked" ["hearths"] rS:=
 Df.au F X4 (fun cdv A outer s H E hr=>by
  have nd:=X4.nd
  have hu:=nB hr
  exact⟨(U4),(aN (iD (i:=1) nd uC)
   (aN (gY 2 nd (fO (qv 0))
    (aY (nQ hu (i:=1) (qv 2) gB)))
   (aY (nO 1)))),aK0⟩)
theorem aN3:FnScope ["rows","columns"] ["rows","columns"] (b7 (bB 10)):=.au
theorem aN4 (B:Bt mg) (F:FM K mg "looked_through" 10 f fd) (x_BadBoard:Xc K mg base "BadBoard") {u_MOST_ROWS:Nat} (m_MOST_ROWS:mg "MOST_ROWS" = some (.int 40 u_MOST_ROWS)):cF P w K mg base 1 "looked_through" ["rows","columns"] rA:=
 cF.au F aN3 O3 aC8 (fun cdv A outer s H E Ep hr hX=>by
  exact (aY (cN (fN (gN (iV (uE B rfl (a9 (qv 0) (a9 (qv 1) aF))) aB) (jU (lX (pU B rfl (a9 (qv 0) (a9 (qv 1) aF))) (K8 rfl m_MOST_ROWS))))) (aY (qQ hX x_BadBoard (a9 pS aF))) cP)))
theorem aN5:FnScope ["rows","columns","cell"] ["rows","columns","cell"] (b7 (bB 11)):=.au
theorem aN6 (B:Bt mg) (F:FM K mg "is_cell" 11 f fd)  : Df P w K mg base 1 "is_cell" ["rows","columns","cell"] rB:=
 Df.au F aN5 (fun cdv A outer s H E hr=>by
  exact⟨(O4),(aY (c7 (kY (B0 (bE (qv 2) aB) aB) (kY (A9 (bE (qv 2) aB) (qv 0)) (kY (B0 (bE (qv 2) aB) aB) (uB (A9 (bE (qv 2) aB) (qv 1)))))))),aC9⟩)
theorem aN7:FnScope ["start","end","other_start","other_end"] ["start","end","other_start","other_end"] (b7 (bB 16)):=.au
theorem aN8 (B:Bt mg) (F:FM K mg "gap" 16 f fd)  : Df P w K mg base 1 "gap" ["start","end","other_start","other_end"] oC:=
 Df.au F aN7 (fun cdv A outer s H E hr=>by
  exact⟨(S9),(aY (c7 (aG2 B rfl (a9 aB (a9 (eW (qv 2) (qv 1)) (a9 (eW (qv 0) (qv 3)) aF)))))),aJ0⟩)
theorem aN9:FnScope ["one","other"] ["one","other"] (b7 (bB 17)):=.au
theorem aO0 (B:Bt mg) (F:FM K mg "hull_of" 17 f fd)  : Df P w K mg base 1 "hull_of" ["one","other"] mL:=
 Df.au F aN9 (fun cdv A outer s H E hr=>by
  exact⟨(T2),(aY (c7 (dR (a9 (uE B rfl (a9 (bE (qv 0) aB) (a9 (bE (qv 1) aB) aF))) (a9 (uE B rfl (a9 (bE (qv 0) aB) (a9 (bE (qv 1) aB) aF))) (a9 (pU B rfl (a9 (bE (qv 0) aB) (a9 (bE (qv 1) aB) aF))) (a9 (pU B rfl (a9 (bE (qv 0) aB) (a9 (bE (qv 1) aB) aF))) aF))))))),aJ2⟩)
theorem aO1:FnScope ["cells"] ["cells"] (b7 (bB 18)):=.au
theorem aO2 (B:Bt mg) (F:FM K mg "cell_boxes" 18 f fd)  : Df P w K mg base 1 "cell_boxes" ["cells"] mM:=
 Df.au F aO1 (fun cdv A outer s H E hr=>by
  exact⟨(T5),(aY (c7 (K7 (N:=["row","column"]) (fr:=[none,none]) (fO (qv 0)) (fun _ _ _ _=>(dR (a9 (qv 0) (a9 (qv 1) (a9 (qv 0) (a9 (qv 1) aF))))))))),aJ3⟩)
theorem aO3:FnScope ["box","cell"] ["box","cell"] (b7 (bB 25)):=.au
theorem aO4 (B:Bt mg) (F:FM K mg "has_cell" 25 f fd)  : Df P w K mg base 1 "has_cell" ["box","cell"] rX:=
 Df.au F aO3 (fun cdv A outer s H E hr=>by
  exact⟨(V6),(aY (c7 (kY (nN (bE (qv 0) aB) (bE (qv 1) aB)) (kY (nN (bE (qv 1) aB) (bE (qv 0) aB)) (kY (nN (bE (qv 0) aB) (bE (qv 1) aB)) (uB (nN (bE (qv 1) aB) (bE (qv 0) aB)))))))),aL8⟩)
theorem aO5:FnScope ["script","k"] ["script","k"] (b7 (bB 27)):=.au
theorem aO6 (B:Bt mg) (F:FM K mg "_law_cell" 27 f fd)  : Df P w K mg base 1 "_law_cell" ["script","k"] jY:=
 Df.au F aO5 (fun cdv A outer s H E hr=>by
  exact⟨(J7),(aN (cN (iV (qv 1) (jW B (a9 (qv 0) aF))) (aY (c7 (bE (qv 0) (qv 1)))) cP)
   (aY (c7 aB))),aw8⟩)
theorem X5:FnScope ["cell","rows","columns"] ["cell"] (b7 (bB 29)):=.au
theorem aO7 (B:Bt mg) (F:FM K mg "_law_lines" 29 f fd)  : Df P w K mg base 1 "_law_lines" ["cell"] rF:=
 Df.au F X5 (fun cdv A outer s H E hr=>by
  have nd:=X5.nd
  exact⟨(Q2),(aN (bI (i:=1) nd (cM aB (cC (qv 0) aB)))
   (aN (bI (i:=2) nd (cM aB (cC (dQ (qv 0) aB) aB)))
   (aN (cN (kW (cC (dQ (qv 0) aB) aB) aB) (aN (bI (i:=1) nd (cM aB (cC (dQ (qv 0) aB) aB)))
    (aY (bI (i:=2) nd (cM aB (cC (dQ (qv 0) aB) aB))))) cP)
   (aY (c7 (dR (a9 (qv 1) (a9 (qv 2) aF)))))))),aD8⟩)
theorem X6:FnScope ["rows","columns","cell","row","column","around"] ["rows","columns","cell"] (b7 (bB 31)):=.au
theorem aO8 (B:Bt mg) (F:FM K mg "_law_beside" 31 f fd)  : Df P w K mg base 1 "_law_beside" ["rows","columns","cell"] rE:=
 Df.au F X6 (fun cdv A outer s H E hr=>by
  have nd:=X6.nd
  exact⟨(Q0),(aN (L3 3 4 nd (qv 2))
   (aN (bI (i:=5) nd (jV (a9 (dR (a9 (eW (qv 3) aB) (a9 (qv 4) aF))) (a9 (dR (a9 (qv 3) (a9 (eW (qv 4) aB) aF))) (a9 (dR (a9 (qv 3) (a9 (cM (qv 4) aB) aF))) (a9 (dR (a9 (cM (qv 3) aB) (a9 (qv 4) aF))) aF))))))
   (aY (c7 (as9 (N:=["one","rows","columns"]) (fr:=[none,some 0,some 1]) (fO (qv 5)) (fun _ _ _ _=>(fN (lZ (P0 aB (bE (qv 0) aB) (qv 1)) (lY (P0 aB (bE (qv 0) aB) (qv 2)))))) (fun _ _ _ _=>(qv 0))))))),aD7⟩)
theorem aO9:FnScope ["rows","columns","cells"] ["rows","columns","cells"] (b7 (bB 12)):=.au
theorem aP0 (B:Bt mg) (F:FM K mg "made_cells" 12 f fd) (d_looked_through:cF P w K mg base 1 "looked_through" ["rows","columns"] rA) (d_rises:Df P w K mg base 1 "rises" ["things"] r9) (d_is_cell:Df P w K mg base 1 "is_cell" ["rows","columns","cell"] rB) (x_BadSet:Xc K mg base "BadSet"):cF P w K mg base 2 "made_cells" ["rows","columns","cells"] k6:=
 cF.au F aO9 O5 aD0 (fun cdv A outer s H E Ep hr hX=>by
  exact (aN (ar9 (l8 hX d_looked_through hr (a9 (qv 0) (a9 (qv 1) aF))))
   (aN (cN (fN (gN (kX (iW (bT d_rises hr (a9 (qv 2) aF)))) (jU (kX (iW (B8 B rfl (a9 (as8 (N:=["cell","rows","columns"]) (fr:=[none,some 0,some 1]) (fO (qv 2)) (fun _ _ _ _=>(bT d_is_cell hr (a9 (qv 1) (a9 (qv 2) (a9 (qv 0) aF)))))) aF))))))) (aY (qQ hX x_BadSet (a9 pS aF))) cP)
   (aY (c7 (pT B (a9 (qv 2) aF)))))))
theorem X7:FnScope ["one","other","between_rows","between_columns"] ["one","other"] (b7 (bB 15)):=.au
theorem aP1 (B:Bt mg) (F:FM K mg "near_boxes" 15 f fd) (d_gap:Df P w K mg base 1 "gap" ["start","end","other_start","other_end"] oC) {u_MOST_STEPS_APART:Nat} (m_MOST_STEPS_APART:mg "MOST_STEPS_APART" = some (.int 2 u_MOST_STEPS_APART)):Df P w K mg base 2 "near_boxes" ["one","other"] mK:=
 Df.au F X7 (fun cdv A outer s H E hr=>by
  have nd:=X7.nd
  exact⟨(T0),(aN (bI (i:=2) nd (bT d_gap hr (a9 (bE (qv 0) aB) (a9 (bE (qv 0) aB) (a9 (bE (qv 1) aB) (a9 (bE (qv 1) aB) aF))))))
   (aN (bI (i:=3) nd (bT d_gap hr (a9 (bE (qv 0) aB) (a9 (bE (qv 0) aB) (a9 (bE (qv 1) aB) (a9 (bE (qv 1) aB) aF))))))
   (aY (c7 (nN (cM (qv 2) (qv 3)) (K8 rfl m_MOST_STEPS_APART)))))),aJ1⟩)
theorem X8:FnScope ["script","k","stir"] ["script","k"] (b7 (bB 28)):=.au
theorem aP2 (B:Bt mg) (F:FM K mg "_law_number" 28 f fd) (d__law_cell:Df P w K mg base 1 "_law_cell" ["script","k"] jY):Df P w K mg base 2 "_law_number" ["script","k"] jB:=
 Df.au F X8 (fun cdv A outer s H E hr=>by
  have nd:=X8.nd
  exact⟨(Q3),(aN (cN (iV (qv 1) (jW B (a9 (qv 0) aF))) (aY (c7 (bE (qv 0) (qv 1)))) cP)
   (aN (bI (i:=2) nd (cC (jS (cM (cM (cC (bT d__law_cell hr (a9 (qv 0) (a9 (cC (qv 1) (pU B rfl (a9 aB (a9 (jW B (a9 (qv 0) aF)) aF)))) aF))) aB) (jS aB (qv 1))) aB) aB) aB))
   (aY (c7 (dQ (cC (jS (qv 2) (qv 2)) aB) aB))))),aD9⟩)
theorem X9:FnScope ["rows","columns","seeds","met","burning","line","seed","at","other"] ["rows","columns","seeds"] (b7 (bB 32)):=.au
theorem aP3 (B:Bt mg) (F:FM K mg "_law_burnt" 32 f fd) (d__law_beside:Df P w K mg base 1 "_law_beside" ["rows","columns","cell"] rE):Df P w K mg base 2 "_law_burnt" ["rows","columns","seeds"] rW:=
 Df.au F X9 (fun cdv A outer s H E hr=>by
  have nd:=X9.nd
  have hu:=nB hr
  exact⟨(V5),(aN (iD (i:=3) nd uC)
   (aN (iD (i:=4) nd uC)
   (aN (iD (i:=5) nd (B7 B (a9 (qv 2) aF)))
   (aN (gY 6 nd (fO (qv 2))
    (aY (nQ hu (i:=4) (qv 6) gB)))
   (aN (bI (i:=7) nd aB)
   (aN (B4 PassesOwn.never (iV (qv 7) (jW B (a9 (qv 5) aF)))
    (aN (gY 8 nd (fO (bT d__law_beside hr (a9 (qv 0) (a9 (qv 1) (a9 (bE (qv 5) (qv 7)) aF)))))
     (aN (nQ hu (i:=3) (qv 8) (cM (aD3 hu (qv 3) (qv 8) aB) aB))
     (aY (cN (fN (lZ (lX (ar8 hu (qv 3) (qv 8)) aB) (lY (uA hu (qv 8) (qv 4))))) (aN (nQ hu (i:=4) (qv 8) gB)
      (aY (m5 5 (qv 8)))) cP))))
    (aY (bI (i:=7) nd (cM (qv 7) aB)))))
   (aY (c7 (pT B (a9 (L8 B (a9 (qv 5) aF)) aF)))))))))),aL2⟩)
theorem Y0:FnScope ["boxes","box","other"] ["boxes","box"] (b7 (bB 21)):=.au
theorem aP4 (B:Bt mg) (F:FM K mg "first_near" 21 f fd) (d_near_boxes:Df P w K mg base 2 "near_boxes" ["one","other"] mK):Df P w K mg base 3 "first_near" ["boxes","box"] lC:=
 Df.au F Y0 (fun cdv A outer s H E hr=>by
  have nd:=Y0.nd
  exact⟨(T6),(aN (gY 2 nd (fO (qv 0))
    (aY (cN (iW (bT d_near_boxes hr (a9 (qv 2) (a9 (qv 1) aF)))) (aY (nO 2)) cP)))
   (aY (c7 u8))),aJ5⟩)
theorem aP5:FnScope ["there","step"] ["there","step"] (b7 (bB 23)):=.au
theorem aP6 (B:Bt mg) (F:FM K mg "may_be_done" 23 f fd) (d_near_boxes:Df P w K mg base 2 "near_boxes" ["one","other"] mK):Df P w K mg base 3 "may_be_done" ["there","step"] rR:=
 Df.au F aP5 (fun cdv A outer s H E hr=>by
  have hu:=nB hr
  have hu3:=rZ hr
  exact⟨(U3 K),(aN (cN (fN (gN (kX (iW (as4 B (qv 1)))) (jU (u9 (jW B (a9 (qv 1) aF)) aB)))) (aY (c7 gB)) cP)
   (aN (cN (fN (gN (uA hu (bE (qv 1) aB) (qv 0)) (jU (uA hu (bE (qv 1) aB) (qv 0))))) (aY (c7 gB)) cP)
   (aY (c7 (kY (aB7 hu3 (bE (qv 1) aB) (bE (qv 1) aB)) (uB (bT d_near_boxes hr (a9 (bE (qv 1) aB) (a9 (bE (qv 1) aB) aF))))))))),aJ9 (K4 K).tt⟩)
theorem Y1:FnScope ["script","at","rows","columns","cell","seeds","place","many","row","column","k"] ["script","at","rows","columns"] (b7 (bB 30)):=.au
theorem aP7 (B:Bt mg) (F:FM K mg "_law_seeds" 30 f fd) (d__law_cell:Df P w K mg base 1 "_law_cell" ["script","k"] jY) (d__law_number:Df P w K mg base 2 "_law_number" ["script","k"] jB):Df P w K mg base 3 "_law_seeds" ["script","at","rows","columns"] rG:=
 Df.au F Y1 (fun cdv A outer s H E hr=>by
  have nd:=Y1.nd
  have hu3:=rZ hr
  exact⟨(Q4),(aN (bI (i:=4) nd (bT d__law_cell hr (a9 (qv 0) (a9 (qv 1) aF))))
   (aN (cN (fN (lZ (kW (cC (qv 4) aB) aB) (lY (iV (jS (qv 2) (qv 3)) aB)))) (aN (iD (i:=5) nd (jV aF))
    (aN (gY 6 nd (uD rfl B.range (jS (qv 2) (qv 3)))
     (aN (bI (i:=4) nd (dQ (qv 4) aB))
     (aY (cN (kW (cC (qv 4) aB) aB) (aY (m5 5 (dR (a9 (dQ (qv 6) (qv 3)) (a9 (cC (qv 6) (qv 3)) aF))))) cP))))
    (aY (c7 (pT B (a9 (qv 5) aF)))))) cP)
   (aN (bI (i:=7) nd (eW (jW B (a9 (qv 0) aF)) (qv 1)))
   (aN (cN (iV (qv 7) aB) (aY (bI (i:=7) nd aB)) cP)
   (aN (iD (i:=5) nd (jV aF))
   (aN (bI (i:=8) nd aB)
   (aN (bI (i:=9) nd aB)
   (aN (gY 10 nd (uD rfl B.range (qv 7))
    (aN (bI (i:=4) nd (bT d__law_number hr (a9 (qv 0) (a9 (cM (qv 1) (qv 10)) aF))))
    (aN (cN (kW (cC (qv 4) aB) aB) (aN (bI (i:=8) nd (cC (dQ (qv 4) aB) (qv 2)))
     (aY (bI (i:=9) nd (cC (dQ (qv 4) aB) (qv 3))))) (aN (bI (i:=8) nd (cC (eW (cM (qv 8) (cC (dQ (qv 4) aB) aB)) aB) (qv 2)))
     (aY (bI (i:=9) nd (cC (eW (cM (qv 9) (cC (dQ (qv 4) aB) aB)) aB) (qv 3))))))
    (aY (cN (fN (lZ (aB6 hu3 (dR (a9 (qv 8) (a9 (qv 9) aF))) (qv 5)) (lY (lX (cC (dQ (qv 4) aB) aB) aB)))) (aY (m5 5 (dR (a9 (qv 8) (a9 (qv 9) aF))))) cP)))))
   (aY (c7 (pT B (a9 (L8 B (a9 (qv 5) aF)) aF)))))))))))),aE2⟩)
theorem Y2:FnScope ["rows","columns","seeds","box","top","left","bottom","right","high","wide","mine","row","column"] ["rows","columns","seeds","box"] (b7 (bB 33)):=.au
theorem aP8 (B:Bt mg) (F:FM K mg "_law_alone" 33 f fd) (d__law_burnt:Df P w K mg base 2 "_law_burnt" ["rows","columns","seeds"] rW):Df P w K mg base 3 "_law_alone" ["rows","columns","seeds","box"] mS:=
 Df.au F Y2 (fun cdv A outer s H E hr=>by
  have nd:=Y2.nd
  exact⟨(V9),(aN (R6 4 5 6 7 nd (qv 3))
   (aN (cN (fN (gN (iV (qv 4) aB) (gN (iV (qv 5) aB) (gN (lX (qv 4) (qv 6)) (gN (lX (qv 5) (qv 7)) (gN (B1 (qv 6) (qv 0)) (jU (B1 (qv 7) (qv 1))))))))) (aY (c7 gB)) cP)
   (aN (bI (i:=8) nd (cM (eW (qv 6) (qv 4)) aB))
   (aN (bI (i:=9) nd (cM (eW (qv 7) (qv 5)) aB))
   (aN (iD (i:=10) nd (jV aF))
   (aN (C3 11 12 nd (fO (qv 2))
    (aY (cN (fN (lZ (rC (qv 4) (qv 11) (qv 6)) (lY (rC (qv 5) (qv 12) (qv 7))))) (aY (m5 10 (dR (a9 (eW (qv 11) (qv 4)) (a9 (eW (qv 12) (qv 5)) aF))))) cP)))
   (aY (c7 (ar7 (jW B (a9 (bT d__law_burnt hr (a9 (qv 8) (a9 (qv 9) (a9 (qv 10) aF)))) aF)) (jS (qv 8) (qv 9))))))))))),aM4⟩)
theorem Y3:FnScope ["script","at","rows","columns","cell","top","left","box"] ["script","at","rows","columns","cell"] (b7 (bB 34)):=.au
theorem aP9 (B:Bt mg) (F:FM K mg "_law_box" 34 f fd) (d__law_number:Df P w K mg base 2 "_law_number" ["script","k"] jB):Df P w K mg base 3 "_law_box" ["script","at","rows","columns","cell"] rY:=
 Df.au F Y3 (fun cdv A outer s H E hr=>by
  have nd:=Y3.nd
  exact⟨(W7),(aN (bI (i:=5) nd (cC (bT d__law_number hr (a9 (qv 0) (a9 (qv 1) aF))) (qv 2)))
   (aN (bI (i:=6) nd (cC (dQ (bT d__law_number hr (a9 (qv 0) (a9 (qv 1) aF))) aB) (qv 3)))
   (aN (bI (i:=7) nd (dR (a9 (qv 5) (a9 (qv 6) (a9 (cM (qv 5) (cC (qv 4) aB)) (a9 (cM (qv 6) (cC (dQ (qv 4) aB) aB)) aF))))))
   (aN (cN (kW (cC (dQ (qv 4) aB) aB) aB) (aY (bI (i:=7) nd (dR (a9 (cM (bE (qv 7) aB) aB) (a9 (qv 6) (a9 (qv 5) (a9 (qv 6) aF))))))) cP)
   (aN (cN (kW (cC (dQ (qv 4) aB) aB) aB) (aY (bI (i:=7) nd (dR (a9 (qv 5) (a9 (qv 6) (a9 (cM (qv 2) (cC (dQ (qv 4) aB) (A8 aB aB))) (a9 (qv 6) aF))))))) cP)
   (aN (cN (kW (cC (dQ (qv 4) aB) aB) aB) (aY (bI (i:=7) nd (dR (a9 (eW (as1 aB) (cC (dQ (qv 4) aB) (A8 aB aB))) (a9 (qv 6) (a9 (qv 5) (a9 (qv 6) aF))))))) cP)
   (aY (nO 7)))))))),aM6⟩)
theorem Y4:FnScope ["rows","columns","seeds","settled","steps","box","growing","close"] ["rows","columns","seeds"] (b7 (bB 20)):=.au
theorem aQ0 (B:Bt mg) (F:FM K mg "growth" 20 f fd) (d_cell_boxes:Df P w K mg base 1 "cell_boxes" ["cells"] mM) (d_made_cells:cF P w K mg base 2 "made_cells" ["rows","columns","cells"] k6) (d_first_near:Df P w K mg base 3 "first_near" ["boxes","box"] lC) (d_hull_of:Df P w K mg base 1 "hull_of" ["one","other"] mL):cF P w K mg base 4 "growth" ["rows","columns","seeds"] rT:=
 cF.au F Y4 U8 aK6 (fun cdv A outer s H E Ep hr hX=>by
  have nd:=Y4.nd
  have hu3:=rZ hr
  exact (aN (iD (i:=3) nd (jV aF))
   (aN (iD (i:=4) nd (jV aF))
   (aN (gY 5 (hp:=hX.own) nd (fO (bT d_cell_boxes hr (a9 (l8 hX d_made_cells hr (a9 (qv 0) (a9 (qv 1) (a9 (qv 2) aF)))) aF)))
    (aN (bI (i:=6) nd (qv 5))
    (aN (bI (i:=7) nd (bT d_first_near hr (a9 (qv 3) (a9 (qv 6) aF))))
    (aN (B4 hX.own (B2 (qv 7) u8)
     (aN (m5 4 (dR (a9 (aG5 B rfl hu3 (a9 (qv 6) (a9 (qv 7) aF))) (a9 (aG6 B rfl hu3 (a9 (qv 6) (a9 (qv 7) aF))) aF))))
     (aN (bI (i:=6) nd (bT d_hull_of hr (a9 (qv 6) (a9 (qv 7) aF))))
     (aN (aH1 3 hu3 (qv 7))
     (aY (bI (i:=7) nd (bT d_first_near hr (a9 (qv 3) (a9 (qv 6) aF)))))))))
    (aY (m5 3 (qv 6)))))))
   (aY (nO 4))))))
theorem Y5:FnScope ["rows","columns","seeds","steps","there","step","boxes","turn","box"] ["rows","columns","seeds","steps"] (b7 (bB 22)):=.au
theorem aQ1 (B:Bt mg) (F:FM K mg "judged_growth" 22 f fd) (d_marked:Df P w K mg base 1 "marked" ["hearths"] rS) (d_cell_boxes:Df P w K mg base 1 "cell_boxes" ["cells"] mM) (d_made_cells:cF P w K mg base 2 "made_cells" ["rows","columns","cells"] k6) (d_may_be_done:Df P w K mg base 3 "may_be_done" ["there","step"] rR) (d_hull_of:Df P w K mg base 1 "hull_of" ["one","other"] mL) (d_first_near:Df P w K mg base 3 "first_near" ["boxes","box"] lC) (x_NoPaper:Xc K mg base "NoPaper"):cF P w K mg base 4 "judged_growth" ["rows","columns","seeds","steps"] rV:=
 cF.au F Y5 U9 aK7 (fun cdv A outer s H E Ep hr hX=>by
  have nd:=Y5.nd
  have hu:=nB hr
  exact (aN (iD (i:=4) nd (bT d_marked hr (a9 (bT d_cell_boxes hr (a9 (l8 hX d_made_cells hr (a9 (qv 0) (a9 (qv 1) (a9 (qv 2) aF)))) aF)) aF)))
   (aN (gY 5 (hp:=hX.own) nd (fO (qv 3))
    (aN (cN (kX (iW (bT d_may_be_done hr (a9 (qv 4) (a9 (qv 5) aF))))) (aY (qQ hX x_NoPaper (a9 pS aF))) cP)
    (aN (L7 4 hu (bE (qv 5) aB))
    (aN (L7 4 hu (bE (qv 5) aB))
    (aY (nQ hu (i:=4) (bT d_hull_of hr (a9 (bE (qv 5) aB) (a9 (bE (qv 5) aB) aF))) gB))))))
   (aN (bI (i:=6) nd (aF0 B rfl (a9 (qv 4) aF)))
   (aN (C3 7 8 (hp:=hX.own) nd (ay9 rfl B.enum (qv 6))
    (aY (cN (B2 (bT d_first_near hr (a9 (uI (qv 6) uG (uH (qv 7))) (a9 (qv 8) aF))) u8) (aY (qQ hX x_NoPaper (a9 pS aF))) cP)))
   (aY (nO 6)))))))
theorem aQ2:FnScope ["rows","columns","seeds"] ["rows","columns","seeds"] (b7 (bB 19)):=.au
theorem aQ3 (B:Bt mg) (F:FM K mg "grown_boxes" 19 f fd) (d_judged_growth:cF P w K mg base 4 "judged_growth" ["rows","columns","seeds","steps"] rV) (d_growth:cF P w K mg base 4 "growth" ["rows","columns","seeds"] rT):cF P w K mg base 5 "grown_boxes" ["rows","columns","seeds"] mP:=
 cF.au F aQ2 V3 aK8 (fun cdv A outer s H E Ep hr hX=>by
  exact (aY (c7 (l8 hX d_judged_growth hr (a9 (qv 0) (a9 (qv 1) (a9 (qv 2) (a9 (l8 hX d_growth hr (a9 (qv 0) (a9 (qv 1) (a9 (qv 2) aF)))) aF))))))))
theorem Y6:FnScope ["rows","columns","seeds","box","own"] ["rows","columns","seeds","box"] (b7 (bB 24)):=.au
theorem aQ4 (B:Bt mg) (F:FM K mg "grown_alone" 24 f fd) (d_made_cells:cF P w K mg base 2 "made_cells" ["rows","columns","cells"] k6) (d_has_cell:Df P w K mg base 1 "has_cell" ["box","cell"] rX) (d_grown_boxes:cF P w K mg base 5 "grown_boxes" ["rows","columns","seeds"] mP):cF P w K mg base 6 "grown_alone" ["rows","columns","seeds","box"] mR:=
 cF.au F Y6 V7 aM1 (fun cdv A outer s H E Ep hr hX=>by
  have nd:=Y6.nd
  have hu3:=rZ hr
  exact (aN (C5 (i:=4) nd (N:=["cell","box"]) (fr:=[none,some 3]) (fO (l8 hX d_made_cells hr (a9 (qv 0) (a9 (qv 1) (a9 (qv 2) aF))))) (fun _ _ _ _=>(iW (bT d_has_cell hr (a9 (qv 1) (a9 (qv 0) aF))))) (fun _ _ _ _=>(qv 0)))
   (aY (c7 (as7 hu3 (l8 hX d_grown_boxes hr (a9 (qv 0) (a9 (qv 1) (a9 (qv 4) aF)))) (jV (a9 (qv 3) aF)))))))
theorem Y7:FnScope ["script","rows","columns","seeds","box","top","left","bottom","right","mine","other","told","k"] ["script"] (b7 (bB 35)):=.au
theorem aQ5 (B:Bt mg) (F:fY K "law" "law" (bB 35) f fd) (d__law_lines:Df P w K mg base 1 "_law_lines" ["cell"] rF) (d__law_cell:Df P w K mg base 1 "_law_cell" ["script","k"] jY) (d__law_seeds:Df P w K mg base 3 "_law_seeds" ["script","at","rows","columns"] rG) (d_grown_boxes:cF P w K mg base 5 "grown_boxes" ["rows","columns","seeds"] mP) (d_grown_alone:cF P w K mg base 6 "grown_alone" ["rows","columns","seeds","box"] mR) (d__law_alone:Df P w K mg base 3 "_law_alone" ["rows","columns","seeds","box"] mS) (d__law_box:Df P w K mg base 3 "_law_box" ["script","at","rows","columns","cell"] rY) (d__law_number:Df P w K mg base 2 "_law_number" ["script","k"] jB):dO P w K mg base eR 7 f fd ["script"] (nH K wB):=
 ax2 F Y7 (fun xs Q h=>by unfold wB at h; repeat (first | (obtain ⟨rfl,_⟩:=h; rfl) | (obtain ⟨_,h⟩:=h))) (fun cdv A outer s H E hr=>by
  have nd:=Y7.nd
  exact⟨(X2 K),(aN (L3 1 2 nd (bT d__law_lines hr (a9 (bT d__law_cell hr (a9 (qv 0) (a9 aB aF))) aF)))
   (aN (bI (i:=3) nd (bT d__law_seeds hr (a9 (qv 0) (a9 aB (a9 (qv 1) (a9 (qv 2) aF))))))
   (aN (cN (lX (jS (qv 1) (qv 2)) aB) (aY (bI (i:=3) nd (uI (qv 3) uG (uH aB)))) cP)
   (aN (gY 4 nd (fO (qP d_grown_boxes hr (a9 (qv 1) (a9 (qv 2) (a9 (qv 3) aF)))))
    (aN (R6 5 6 7 8 nd (qv 4))
    (aN (C5 (i:=9) nd (N:=["seed","top","bottom","left","right"]) (fr:=[none,some 5,some 7,some 6,some 8]) (fO (qv 3)) (fun _ _ _ _=>(fN (lZ (rC (qv 1) (bE (qv 0) aB) (qv 2)) (lY (rC (qv 3) (bE (qv 0) aB) (qv 4)))))) (fun _ _ _ _=>(qv 0)))
    (aN (cN (fN (gN (aL1 (qP d_grown_alone hr (a9 (qv 1) (a9 (qv 2) (a9 (qv 3) (a9 (qv 4) aF))))) gB) (jU (iV (jS aB (jW B (a9 (qv 9) aF))) (cM (eW (cM (eW (qv 7) (qv 5)) (qv 8)) (qv 6)) aB))))) (aY (c7 gB)) cP)
    (aN (cN (kX (iW (bT d__law_alone hr (a9 (qv 1) (a9 (qv 2) (a9 (qv 3) (a9 (qv 4) aF))))))) (aY (c7 gB)) cP)
    (aY (gY 10 nd (fO (jV (a9 (dR (a9 (qv 5) (a9 (qv 6) (a9 (qv 7) (a9 (cM (qv 8) aB) aF))))) (a9 (dR (a9 (qv 5) (a9 (cM (qv 6) aB) (a9 (qv 7) (a9 (qv 8) aF))))) (a9 (dR (a9 (qv 5) (a9 (qv 6) (a9 (eW (qv 7) aB) (a9 (qv 8) aF))))) aF)))))
     (aN (bI (i:=11) nd (qP d_grown_alone hr (a9 (qv 1) (a9 (qv 2) (a9 (qv 3) (a9 (qv 10) aF))))))
     (aY (cN (fN (gN (kX (iW (C1 B (qv 11)))) (jU (u9 (qv 11) (bT d__law_alone hr (a9 (qv 1) (a9 (qv 2) (a9 (qv 3) (a9 (qv 10) aF))))))))) (aY (c7 gB)) cP))))))))))
   (aN (gY 12 nd (uD rfl B.range aB)
    (aN (bI (i:=4) nd (bT d__law_box hr (a9 (qv 0) (a9 (cM aB (qv 12)) (a9 (qv 1) (a9 (qv 2) (a9 (bT d__law_number hr (a9 (qv 0) (a9 (cM aB (qv 12)) aF))) aF)))))))
    (aN (bI (i:=11) nd (qP d_grown_alone hr (a9 (qv 1) (a9 (qv 2) (a9 (B7 B (a9 (qv 3) aF)) (a9 (qv 4) aF))))))
    (aY (cN (fN (gN (kX (iW (C1 B (qv 11)))) (jU (u9 (qv 11) (bT d__law_alone hr (a9 (qv 1) (a9 (qv 2) (a9 (qv 3) (a9 (qv 4) aF))))))))) (aY (c7 gB)) cP)))))
   (aY (c7 gB))))))),aN0 (K4 K).bb⟩)
end
set_option autoImplicit true in
theorem aQ6 {l:OpenLaw}{w:World}{K:Frag}{h:Heap}{mg:Str->Option Value} (X:K.In h) (G:h.Ns mainGlobals mg) (hfa:mg "law" = some (.ref fa))
  (h0:FK K "rises" 6 f0 d0)
  (h1:FK K "marked" 7 f1 d1)
  (h2:FK K "looked_through" 10 f2 d2)
  (h3:FK K "is_cell" 11 f3 d3)
  (h4:FK K "gap" 16 f4 d4)
  (h5:FK K "hull_of" 17 f5 d5)
  (h6:FK K "cell_boxes" 18 f6 d6)
  (h7:FK K "has_cell" 25 f7 d7)
  (h8:FK K "_law_cell" 27 f8 d8)
  (h9:FK K "_law_lines" 29 f9 d9)
  (h10:FK K "_law_beside" 31 f10 d10)
  (h11:FK K "made_cells" 12 f11 d11)
  (h12:FK K "near_boxes" 15 f12 d12)
  (h13:FK K "_law_number" 28 f13 d13)
  (h14:FK K "_law_burnt" 32 f14 d14)
  (h15:FK K "first_near" 21 f15 d15)
  (h16:FK K "may_be_done" 23 f16 d16)
  (h17:FK K "_law_seeds" 30 f17 d17)
  (h18:FK K "_law_alone" 33 f18 d18)
  (h19:FK K "_law_box" 34 f19 d19)
  (h20:FK K "growth" 20 f20 d20)
  (h21:FK K "judged_growth" 22 f21 d21)
  (h22:FK K "grown_boxes" 19 f22 d22)
  (h23:FK K "grown_alone" 24 f23 d23)
  (a24:nsIn K mainGlobals "law" = some (some (.ref f24))) (l24:K.lookup f24=some ⟨oc24,od24,.func (fnOf "law" "law" (iM (bB 35)) (eF (bB 35)) (b7 (bB 35)) .none kV24 dc24 pm24 an24 cd24 ct24),sl24⟩) (c24:codeIn K cd24 "law" = true) (k24:keepIn K (.ref f24)=true)
  (z_len:nsIn K mainGlobals "len" = some none)
  (z_range:nsIn K mainGlobals "range" = some none)
  (z_tuple:nsIn K mainGlobals "tuple" = some none)
  (z_list:nsIn K mainGlobals "list" = some none)
  (z_sorted:nsIn K mainGlobals "sorted" = some none)
  (z_all:nsIn K mainGlobals "all" = some none)
  (z_any:nsIn K mainGlobals "any" = some none)
  (z_zip:nsIn K mainGlobals "zip" = some none)
  (z_min:nsIn K mainGlobals "min" = some none)
  (z_max:nsIn K mainGlobals "max" = some none)
  (z_sum:nsIn K mainGlobals "sum" = some none)
  (z_isinstance:nsIn K mainGlobals "isinstance" = some none)
  (z_int:nsIn K mainGlobals "int" = some none)
  (z_bool:nsIn K mainGlobals "bool" = some none)
  (z_enumerate:nsIn K mainGlobals "enumerate" = some none)
  {u_MOST_ROWS:Nat} (z_MOST_ROWSx:nsIn K mainGlobals "MOST_ROWS" = some (some (.int 40 u_MOST_ROWS)))
  {u_MOST_STEPS_APART:Nat} (z_MOST_STEPS_APARTx:nsIn K mainGlobals "MOST_STEPS_APART" = some (some (.int 2 u_MOST_STEPS_APART)))
  {C_HearthError C_BadSet C_BadBoard C_NoPaper:Addr}
  (aX_HE:nsIn K mainGlobals "HearthError" = some (some (.ref C_HearthError)))
  (aX_BS:nsIn K mainGlobals "BadSet" = some (some (.ref C_BadSet)))
  (aX_BB:nsIn K mainGlobals "BadBoard" = some (some (.ref C_BadBoard)))
  (aX_NP:nsIn K mainGlobals "NoPaper" = some (some (.ref C_NoPaper)))
  (zX_BW:nsIn K mainGlobals "BadWeb" = some none)
  (zX_BO:nsIn K mainGlobals "BadOrder" = some none)
  (zX_BP:nsIn K mainGlobals "BadPrices" = some none)
  (zX_BD:nsIn K mainGlobals "BadDeed" = some none)
  (zX_NW:nsIn K mainGlobals "NotWood" = some none)
  (zX_NS:nsIn K mainGlobals "NoSuch" = some none)
  (zX_TM:nsIn K mainGlobals "TooMany" = some none)
  (zX_NT:nsIn K mainGlobals "NoText" = some none)
  (zX_OR:nsIn K mainGlobals "OddRound" = some none)
  (y_fg:specialIn K (.builtin "object.__class__") "__get__" = some (some (.builtin "getset_descriptor.__get__")))
  (y_ft:takesIn K (.builtin "object.__class__")=some true)
  (z_VE:nsIn K mainGlobals "ValueError" = some none)
  (y1_HE:isClsIn K C_HearthError=true)
  (y2_HE:typeIn K (.ref C_HearthError)=some (.type "type"))
  (y3_HE:findIn K (.ref C_HearthError) "__getattribute__" = some (some (.builtin "BaseException.__getattribute__")))
  (y4_HE:findIn K (.ref C_HearthError) "__getattr__" = some none)
  (y5_HE:findIn K (.ref C_HearthError) "__class__" = some (some (.builtin "object.__class__")))
  (y6_HE:mroIn K C_HearthError (.type "object")=some true)
  (y7_HE:mroIn K C_HearthError (.type "BaseException")=some true)
  (y1_BS:isClsIn K C_BadSet=true)
  (y2_BS:typeIn K (.ref C_BadSet)=some (.type "type"))
  (y3_BS:findIn K (.ref C_BadSet) "__getattribute__" = some (some (.builtin "BaseException.__getattribute__")))
  (y4_BS:findIn K (.ref C_BadSet) "__getattr__" = some none)
  (y5_BS:findIn K (.ref C_BadSet) "__class__" = some (some (.builtin "object.__class__")))
  (y6_BS:mroIn K C_BadSet (.type "object")=some true)
  (y7_BS:mroIn K C_BadSet (.type "BaseException")=some true)
  (y1_BB:isClsIn K C_BadBoard=true)
  (y2_BB:typeIn K (.ref C_BadBoard)=some (.type "type"))
  (y3_BB:findIn K (.ref C_BadBoard) "__getattribute__" = some (some (.builtin "BaseException.__getattribute__")))
  (y4_BB:findIn K (.ref C_BadBoard) "__getattr__" = some none)
  (y5_BB:findIn K (.ref C_BadBoard) "__class__" = some (some (.builtin "object.__class__")))
  (y6_BB:mroIn K C_BadBoard (.type "object")=some true)
  (y7_BB:mroIn K C_BadBoard (.type "BaseException")=some true)
  (y1_NP:isClsIn K C_NoPaper=true)
  (y2_NP:typeIn K (.ref C_NoPaper)=some (.type "type"))
  (y3_NP:findIn K (.ref C_NoPaper) "__getattribute__" = some (some (.builtin "BaseException.__getattribute__")))
  (y4_NP:findIn K (.ref C_NoPaper) "__getattr__" = some none)
  (y5_NP:findIn K (.ref C_NoPaper) "__class__" = some (some (.builtin "object.__class__")))
  (y6_NP:mroIn K C_NoPaper (.type "object")=some true)
  (y7_NP:mroIn K C_NoPaper (.type "BaseException")=some true)
  (q_BB:excIn K C_BadBoard [.type "ValueError",.type "Exception",.type "BaseException",.type "object"] "ValueError.__new__" = true)
  (q_BS:excIn K C_BadSet [.type "ValueError",.type "Exception",.type "BaseException",.type "object"] "ValueError.__new__" = true)
  (q_NP:excIn K C_NoPaper [.type "ValueError",.type "Exception",.type "BaseException",.type "object"] "ValueError.__new__" = true)
  : ∃ fd:FuncData,(∀ (s:Shared) (v:Value),BindsTo s fd ⟨[v],[]⟩ [("script",v)])/\∀ base:Heap,K.In base->base.Ns mainGlobals mg->dO l.prog w K mg base eR 7 fa fd ["script"] (qO K):=by
 have e:=hfa.symm.trans (mg_of X G a24)
 cases e
 have F24:=ak3 (st:=bB 35) l24 c24 k24
 have m24:=mg_of X G a24
 have B:Bt mg:=⟨mg_none_of X G z_len,mg_none_of X G z_range,mg_none_of X G z_tuple,mg_none_of X G z_list,mg_none_of X G z_sorted,mg_none_of X G z_all,mg_none_of X G z_any,mg_none_of X G z_zip,mg_none_of X G z_min,mg_none_of X G z_max,mg_none_of X G z_sum,mg_none_of X G z_isinstance,mg_none_of X G z_int,mg_none_of X G z_bool,mg_none_of X G z_enumerate⟩
 have m_MOST_ROWS:=mg_of X G z_MOST_ROWSx
 have m_MOST_STEPS_APART:=mg_of X G z_MOST_STEPS_APARTx
 refine⟨fnOf "law" "law" (iM (bB 35)) (eF (bB 35)) (b7 (bB 35)) .none kV24 dc24 pm24 an24 cd24 ct24,fun s v=>.of_eq rfl,fun base KB _=>?_⟩
 have XK_HearthError:qR K C_HearthError:=⟨y1_HE,y2_HE,y3_HE,y4_HE,y5_HE,y_fg,y_ft,y6_HE,y7_HE⟩
 have XK_BadSet:qR K C_BadSet:=⟨y1_BS,y2_BS,y3_BS,y4_BS,y5_BS,y_fg,y_ft,y6_BS,y7_BS⟩
 have XK_BadBoard:qR K C_BadBoard:=⟨y1_BB,y2_BB,y3_BB,y4_BB,y5_BB,y_fg,y_ft,y6_BB,y7_BB⟩
 have XK_NoPaper:qR K C_NoPaper:=⟨y1_NP,y2_NP,y3_NP,y4_NP,y5_NP,y_fg,y_ft,y6_NP,y7_NP⟩
 have x_BadBoard:Xc K mg base "BadBoard":=⟨C_BadBoard,_,_,_,_,vB KB (mg_of X G aX_BB) q_BB,PySem.F.excBase_ValueError,aX_BB⟩
 have x_BadSet:Xc K mg base "BadSet":=⟨C_BadSet,_,_,_,_,vB KB (mg_of X G aX_BS) q_BS,PySem.F.excBase_ValueError,aX_BS⟩
 have x_NoPaper:Xc K mg base "NoPaper":=⟨C_NoPaper,_,_,_,_,vB KB (mg_of X G aX_NP) q_NP,PySem.F.excBase_ValueError,aX_NP⟩
 have D0:=K0 (P:=l.prog) (w:=w) (base:=base) B (h0.M X G)
 have D1:=aN2 (P:=l.prog) (w:=w) (base:=base) B (h1.M X G)
 have D2:=aN4 (P:=l.prog) (w:=w) (base:=base) B (h2.M X G)  x_BadBoard m_MOST_ROWS
 have D3:=aN6 (P:=l.prog) (w:=w) (base:=base) B (h3.M X G)
 have D4:=aN8 (P:=l.prog) (w:=w) (base:=base) B (h4.M X G)
 have D5:=aO0 (P:=l.prog) (w:=w) (base:=base) B (h5.M X G)
 have D6:=aO2 (P:=l.prog) (w:=w) (base:=base) B (h6.M X G)
 have D7:=aO4 (P:=l.prog) (w:=w) (base:=base) B (h7.M X G)
 have D8:=aO6 (P:=l.prog) (w:=w) (base:=base) B (h8.M X G)
 have D9:=aO7 (P:=l.prog) (w:=w) (base:=base) B (h9.M X G)
 have D10:=aO8 (P:=l.prog) (w:=w) (base:=base) B (h10.M X G)
 have D11:=aP0 (P:=l.prog) (w:=w) (base:=base) B (h11.M X G) D2 D0 D3 x_BadSet
 have D12:=aP1 (P:=l.prog) (w:=w) (base:=base) B (h12.M X G) D4 m_MOST_STEPS_APART
 have D13:=aP2 (P:=l.prog) (w:=w) (base:=base) B (h13.M X G) D8
 have D14:=aP3 (P:=l.prog) (w:=w) (base:=base) B (h14.M X G) D10
 have D15:=aP4 (P:=l.prog) (w:=w) (base:=base) B (h15.M X G) D12
 have D16:=aP6 (P:=l.prog) (w:=w) (base:=base) B (h16.M X G) D12
 have D17:=aP7 (P:=l.prog) (w:=w) (base:=base) B (h17.M X G) D8 D13
 have D18:=aP8 (P:=l.prog) (w:=w) (base:=base) B (h18.M X G) D14
 have D19:=aP9 (P:=l.prog) (w:=w) (base:=base) B (h19.M X G) D13
 have D20:=aQ0 (P:=l.prog) (w:=w) (base:=base) B (h20.M X G) D6 D11 D15 D5
 have D21:=aQ1 (P:=l.prog) (w:=w) (base:=base) B (h21.M X G) D1 D6 D11 D16 D5 D15 x_NoPaper
 have D22:=aQ3 (P:=l.prog) (w:=w) (base:=base) B (h22.M X G) D21 D20
 have D23:=aQ4 (P:=l.prog) (w:=w) (base:=base) B (h23.M X G) D11 D7 D22
 exact ax3 (aQ5 B F24 D9 D8 D17 D22 D23 D18 D19 D13)
theorem aQ7 {l:OpenLaw}{q:Program}{loose:List Str}{XP:(Str->Option Value)->Heap->Prop}{YP:World->Heap->Prop}{d:DefRec}{K:Params->Frag} (hn:l.most=some 63) (hdf:d.params.defaults = [])
  (hY:∀ (w:World) (h:Heap),YP w h->(K w.params).In h)
  (F:∀ (w:World) (mg:Str->Option Value) (fa:Addr) (h:Heap),(K w.params).In h->h.Ns mainGlobals mg->mg d.name=some (.ref fa)->
   ∃ fd:FuncData,(∀ (s:Shared) (u:Value),BindsTo s fd ⟨[u],[]⟩ [("script",u)])/\∀ base:Heap,(K w.params).In base->base.Ns mainGlobals mg->dO l.prog w (K w.params) mg base eR 7 fa fd ["script"] (qO (K w.params))) :
  WalkO q loose XP YP l.row.toRowW d [] (fun f vs=>PySem.call f vs):=
 L2.ak1 (n:=63) (k:=7) (x:="script") (CX:=fun _=>eR) (sp:=fun w=>qO (K w.params)) hn (by decide) hdf ⟨rfl,by decide,by decide⟩ hY F (fun _ _ a ns hl hO hS=>⟨a,ns,rfl,ax4 hO hS,hl,fun _=>rfl⟩) fun _ _ _ _ _ z=>z
end K_k66
open PySem PySem.W PyProof.Rows
theorem PySem.W.Fast.te13052408679150730464 : True := trivial
theorem PySem.W.Fast.te16555476440528808052 : True := trivial
theorem PySem.W.Fast.te5369427470323729400 : True := trivial
set_option maxRecDepth 100000 in
set_option maxHeartbeats 0 in
theorem PySem.Challenge.cw_kindleweb_k66_whole_own_seeds_holds : PySem.Challenge.rw_kindleweb_k66_whole_own_seeds.Holds := by
 w_on; o_law; k_head; (case hw => w_witness2)
 k_fill
 refine K_k66.aQ7 (l := PySem.Challenge.rw_kindleweb_k66_whole_own_seeds) rfl rfl (fun w h Y => PySem.W.kIn_of Y) ?F
 case F =>
  intro w mg fa h KX G hmg
  refine' K_k66.aQ6 KX G hmg ?h0 ?h1 ?h2 ?h3 ?h4 ?h5 ?h6 ?h7 ?h8 ?h9 ?h10 ?h11 ?h12 ?h13 ?h14 ?h15 ?h16 ?h17 ?h18 ?h19 ?h20 ?h21 ?h22 ?h23 ?a24 ?l24 ?c24 ?k24 ?z_len ?z_range ?z_tuple ?z_list ?z_sorted ?z_all ?z_any ?z_zip ?z_min ?z_max ?z_sum ?z_isinstance ?z_int ?z_bool ?z_enumerate ?z_MOST_ROWSx ?z_MOST_STEPS_APARTx ?aX_HE ?aX_BS ?aX_BB ?aX_NP ?zX_BW ?zX_BO ?zX_BP ?zX_BD ?zX_NW ?zX_NS ?zX_TM ?zX_NT ?zX_OR ?y_fg ?y_ft ?z_VE ?y1_HE ?y2_HE ?y3_HE ?y4_HE ?y5_HE ?y6_HE ?y7_HE ?y1_BS ?y2_BS ?y3_BS ?y4_BS ?y5_BS ?y6_BS ?y7_BS ?y1_BB ?y2_BB ?y3_BB ?y4_BB ?y5_BB ?y6_BB ?y7_BB ?y1_NP ?y2_NP ?y3_NP ?y4_NP ?y5_NP ?y6_NP ?y7_NP ?q_BB ?q_BS ?q_NP
  (case h0 | h1 | h2 | h3 | h4 | h5 | h6 | h7 | h8 | h9 | h10 | h11 | h12 | h13 | h14 | h15 | h16 | h17 | h18 | h19 | h20 | h21 | h22 | h23 => exact ⟨by k_is, ⟨⟨_, _, _, _, _, _, _, _, _, rfl, by k_is, by k_is⟩, by k_is⟩⟩)
  (case a24|l24|c24|k24|z_len|z_range|z_tuple|z_list|z_sorted|z_all|z_any|z_zip|z_min|z_max|z_sum|z_isinstance|z_int|z_bool|z_enumerate|z_MOST_ROWSx|z_MOST_STEPS_APARTx|aX_HE|aX_BS|aX_BB|aX_NP|zX_BW|zX_BO|zX_BP|zX_BD|zX_NW|zX_NS|zX_TM|zX_NT|zX_OR|y_fg|y_ft|z_VE|y1_HE|y2_HE|y3_HE|y4_HE|y5_HE|y6_HE|y7_HE|y1_BS|y2_BS|y3_BS|y4_BS|y5_BS|y6_BS|y7_BS|y1_BB|y2_BB|y3_BB|y4_BB|y5_BB|y6_BB|y7_BB|y1_NP|y2_NP|y3_NP|y4_NP|y5_NP|y6_NP|y7_NP => k_is)
  (case q_BB|q_BS|q_NP => k_exc)


