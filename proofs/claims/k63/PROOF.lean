import PyProof.Rows.All
import Wide.All
import OpenK.AllK
import Wide.FinOn
import Lean
import PyProof.EqAt
import PyProof.EqKinds
import PyProof.TupleCall
import PyProof.NeKinds
import PyProof.Draws
import PyProof.ZipIter
import PyProof.DictUpdate
import PyProof.AutoSeq1
import PyProof.ListRange
import PyProof.ListMulRoad
import PyProof.FactsAll.tuple_2
import PyProof.Rows.SortShell
import PyProof.EnumFor
import PyProof.EnumMake
import PyProof.EnumStmt
import PyProof.Rows.SortWalk
import KE.KDictList
import PyProof.SumAny
import PyProof.ConsumeWalk
import PyProof.WalksMore
import PyProof.Rows.TupAssign
import PyProof.ExcArgsOwn
import PySem.Challenge.RW_kindleweb_k63_whole_growths
set_option Elab.async false
set_option linter.all false
set_option maxRecDepth 100000
set_option maxHeartbeats 4000000
section
open PySem PySem.Spec PyProof.Rows
def aN3:=@wpAny_bind
def aN5:=@Heap.get?_push_of_some
def aN6:=@List.getElem?_eq_getElem
def aN7:=@List.size_toArray
def aN8:=@wpAny_pure
def aN9:=@Int.le_refl
def aO0:=@List.mem_cons
def aO1:=@decide_eq_false
def aO2:=@List.length_map
def aO3:=@List.mem_cons_of_mem
def aO4:=@decide_eq_true
def aO5:=@wpS_bind
def aO6:=@Nat.le_refl
def aO7:=@List.getElem?_eq_some_iff
def aO8:=@Heap.lt_size
def aO9:=@List.mem_cons_self
def aP0:=@List.mem_singleton
def aP1:=@Heap.get?_push_size
def aP2:=@List.not_mem_nil
def aP3:=@wpS_pure
def aP4:=@List.getElem?_map
def aP5:=@Nat.lt_of_lt_of_le
def aP6:=@List.getD_eq_getElem?_getD
def aP8:=@List.append_assoc
def aP9:=@Bool.false_ne_true
def aQ0:=@Option.some.inj
def aQ1:=@Bool.false_eq_true
def aQ2:=@List.pairwise_append
def aQ3:=@decide_eq_true_eq
def aQ4:=@List.map_append
def aQ5:=@List.mem_append_right
def aQ6:=@Nat.ne_of_lt
def aQ7:=@Nat.le_trans
def aQ8:=@List.mem_map
def aQ9:=@List.take_append_drop
def aR3:=@List.length_append
def aR4:=@Array.getElem_mem
def aR5:=@List.getElem?_set_ne
def aR6:=@List.pairwise_iff_getElem
def aR7:=@List.map_map
def aR8:=@wpAny_newObj_type
def aR9:=@List.length_cons
def aS0:=@Array.length_toList
def aS1:=@or_false
def aS2:=@List.getElem?_cons_succ
def aS3:=@Nat.lt_or_ge
def aS4:=@List.pairwise_singleton
def aS5:=@Int.le_trans
def aS6:=@List.length_singleton
def aS7:=@List.mem_append
def aS9:=@PySem.mem_of_lookup
def aT1:=@List.pairwise_map
def aT2:=@wpAny_field
def aT3:=@wpAny_callSpecial?_slot
def aT4:=@List.map_cons
def aT6:=@wpAny_call_entry
def aT7:=@List.lookup_cons
def aT8:=@List.mem_append_left
def aT9:=@Around.under_plainId
def aU0:=@List.take_add_one
def aU1:=@List.zip_cons_cons
def aU2:=@wpAny_setField_rec
def aU3:=@List.perm_append_comm
def aU4:=@List.getElem_of_mem
def aU5:=@Array.toList_append
def aU7:=@beq_self_eq_true
def aU8:=@Heap.size_push
def aU9:=@wpAny_seqItems
def aV0:=@if_false
def aV2:=@wpS_forRange
def aV3:=@PySem.W.kia_one
def aV4:=@Nat.lt_irrefl
def aV5:=@wpAny_holding
def aV6:=@List.getElem_mem
def aV7:=@Nat.zero_le
def aW0:=@Array.getElem?_toList
def aW1:=@Heap.get?_update_self
def aW2:=@List.mem_of_getElem?
def aW5:=@Bool.eq_iff_iff
def aW6:=@wpAny_loadPart'
def aW7:=@List.getElem?_set_self
def aW8:=@Nat.ne_of_gt
def aW9:=@Bool.and_eq_true
def aX1:=@List.take_of_length_le
def aX2:=@Nat.le_add_right
def aX3:=@List.take_length
def aX4:=@PySem.F.plain_min_loop
def aX5:=@PySem.F.plain_max_loop
def aX7:=@List.Pairwise.nil
def aX8:=@List.Perm.refl
def aX9:=@List.find?_cons
def aY0:=@codeAny_builtin
def aY1:=@wpAny_mono
def aY2:=@List.all_eq_true
def aY3:=@decide_eq_false_iff_not
def aY4:=@plainId_quiet
def aY5:=@wpAny_truthy_bool
def aY7:=@Heap.SameBut.update
def aY8:=@List.append_nil
def aY9:=@wpAny_letGo
def aZ0:=@List.length_set
def aZ1:=@PyProof.Rows.slot_tuple_getitem
def aZ2:=@List.getElem?_append_left
def aZ3:=@List.drop_eq_getElem_cons
def aZ4:=@List.length_take
def aZ5:=@wpAny_pyIter_tuple
def aZ6:=@Nat.le_of_lt
def aZ9:=@List.mem_of_mem_take
def ba0:=@List.getElem?_of_mem
def ba1:=@List.length_erase_le
def ba2:=@List.take_sublist
def ba4:=@wpAny_rule
def ba5:=@PyProof.Rows.callWith_type1
def ba6:=@Heap.get?_update_other
def ba7:=@List.all_cons
def ba8:=@List.length_drop
def bb0:=@Bool.false_and
def bb1:=@List.getElem?_append_right
def bb2:=@Prod.ext
def bb3:=@of_decide_eq_false
def bb4:=@Nat.eq_or_lt_of_le
def bb5:=@wpAny_tryCatch
def bb7:=@List.Perm.append_left
def bb8:=@wpAny_passesOwn
def bb9:=@List.nodup_cons
def bc0:=@List.length_nil
def bc1:=@wpAny_updateSeq
def bc4:=@wpS_mono
def bc7:=@List.drop_take
def bc8:=@List.Perm.swap
def bd2:=@True.intro
end
namespace L2
open PySem PySem.Spec PyProof.Rows
abbrev aJ:=Sum Int Str
def kL:aJ->Value->Bool
 | .inl k,v=>Value.isInt k v
 | .inr x,v=>Value.isStrOf x v
def V1 (w:World):aJ->Int
 | .inl k=>hashInt k
 | .inr x=>hashStr w x
theorem i7:∀ {k:aJ}{v:Value},kL k v=true->(∃ i t,k=Sum.inl i/\v=Value.int i t) ∨ (∃ x t,k=Sum.inr x/\v=Value.str x t)
 | .inl i,v,h=>by
  obtain ⟨t,e⟩:=Value.isInt_shape (k:=i) (v:=v) h
  exact .inl ⟨i,t,rfl,e⟩
 | .inr x,v,h=>by
  obtain ⟨t,e⟩:=Value.isStrOf_shape (x:=x) (v:=v) h
  exact .inr ⟨x,t,rfl,e⟩
theorem V2 (i:Int) (t:Tok):kL (.inl i) (.int i t)=true:=by simp [kL,Value.isInt]
theorem V3 (x:Str) (t:Tok):kL (.inr x) (.str x t)=true:=by simp [kL,Value.isStrOf]
theorem V4 (a b:Int):decide ((Sum.inl a:aJ)=Sum.inl b)=(a == b):=by
 by_cases e:a=b
 ·subst e; simp
 ·have h : ¬ (Sum.inl a:aJ)=Sum.inl b:=fun q=>e (Sum.inl.inj q)
  rw [aO1 h]
  exact (beq_eq_false_iff_ne.mpr e).symm
theorem V5 (a b:Str):decide ((Sum.inr a:aJ)=Sum.inr b)=decide (a=b):=by
 by_cases e:a=b
 ·subst e; simp
 ·have h : ¬ (Sum.inr a:aJ)=Sum.inr b:=fun q=>e (Sum.inr.inj q)
  rw [aO1 h,aO1 e]
theorem V6 (a:Int) (b:Str):decide ((Sum.inl a:aJ)=Sum.inr b)=false:=aO1 (fun q=>nomatch q)
theorem V7 (a:Str) (b:Int):decide ((Sum.inr a:aJ)=Sum.inl b)=false:=aO1 (fun q=>nomatch q)
def eQ (prog:Program) (w:World):PySem.KeyKind prog w aJ where
 is:=kL
 hash:=V1 w
 inj:=fun v a b ha hb=>by
  rcases i7 ha with ⟨i,t,rfl,rfl⟩ | ⟨x,t,rfl,rfl⟩
  ·rcases i7 hb with ⟨j,u,rfl,e⟩ | ⟨y,u,rfl,e⟩
   ·injection e with e1 _; rw [e1]
   ·exact nomatch e
  ·rcases i7 hb with ⟨j,u,rfl,e⟩ | ⟨y,u,rfl,e⟩
   ·exact nomatch e
   ·injection e with e1 _; rw [e1]
 byValue:=fun k v h=>by
  rcases i7 h with ⟨i,t,rfl,rfl⟩ | ⟨x,t,rfl,rfl⟩ <;> rfl
 pyHash:=fun hv h=>by
  rcases i7 hv with ⟨i,t,rfl,rfl⟩ | ⟨x,t,rfl,rfl⟩
  ·exact wpAny_pyHash_int h
  ·exact wpAny_pyHash_str h
 eqBool:=fun hu hv h=>by
  rcases i7 hu with ⟨i,t,rfl,rfl⟩ | ⟨x,t,rfl,rfl⟩
  ·rcases i7 hv with ⟨j,u,rfl,rfl⟩ | ⟨y,u,rfl,rfl⟩
   ·rw [V4] at h; exact wpAny_eqBool_int h
   ·rw [V6] at h; exact SeqAt.EqAt.int_str i t y u _ _ _ _ h
  ·rcases i7 hv with ⟨j,u,rfl,rfl⟩ | ⟨y,u,rfl,rfl⟩
   ·rw [V7] at h; exact SeqAt.EqAt.str_int x t j u _ _ _ _ h
   ·rw [V5] at h; exact wpAny_eqBool_str h
 «strs»:=fun k x t v h=>by
  rcases i7 h with ⟨i,u,rfl,e⟩ | ⟨y,u,rfl,e⟩
  ·exact nomatch e
  ·injection e with e1 _
   subst e1
   cases v <;> rfl
theorem V8 (prog:Program) (w:World) (i:Int) (t:Tok):(eQ prog w).is (.inl i) (.int i t)=true:=V2 i t
theorem V9 (prog:Program) (w:World) (x:Str) (t:Tok):(eQ prog w).is (.inr x) (.str x t)=true:=V3 x t
inductive V where
 | non | bl (b:Bool) | int (i:Int) | str (x:Str) | byt (b:Array UInt8) | flt (b:UInt64) | ref (a:Addr) | ty (n:String)
 deriving DecidableEq
def aR:V->Value->Prop
 | .non,u=>u=Value.none
 | .bl b,u=>u=Value.bool b
 | .int i,u=>∃ t,u=Value.int i t
 | .str x,u=>∃ t,u=Value.str x t
 | .byt b,u=>∃ t,u=Value.bytes b t
 | .flt b,u=>∃ t,u=Value.float b t
 | .ref a,u=>u=Value.ref a
 | .ty n,u=>u=Value.type n
abbrev aK:List V->List Value->Prop:=Paired aR
theorem aK.length {xs:List V}{us:List Value} (r:aK xs us):xs.length=us.length:=Paired.length r
theorem aK.get:∀ {xs:List V}{us:List Value}{i:Nat}{x:V},aK xs us->xs[i]? = some x->∃ u,us[i]? = some u/\aR x u
 | _,_,_,_,.nil,e=>by simp at e
 | _,_,0,_,.cons r _,e=>by simp at e; subst e; exact⟨_,rfl,r⟩
 | _,_,i+1,x,.cons _ t,e=>by
  obtain ⟨u,h1,h2⟩:=aK.get (i:=i) (x:=x) t (by simpa using e)
  exact⟨u,by simpa using h1,h2⟩
theorem aK.append:∀ {xs ys:List V}{us ws:List Value},aK xs us->aK ys ws->aK (xs ++ ys) (us ++ ws)
 | _,_,_,_,.nil,s=>s
 | _,_,_,_,.cons r t,s=>.cons r (aK.append t s)
theorem aK.take:∀ {xs:List V}{us:List Value} (n:Nat),aK xs us->aK (xs.take n) (us.take n)
 | _,_,0,_=>.nil
 | _,_,_+1,.nil=>.nil
 | _,_,n+1,.cons r t=>.cons r (aK.take n t)
theorem aK.drop:∀ {xs:List V}{us:List Value} (n:Nat),aK xs us->aK (xs.drop n) (us.drop n)
 | _,_,0,r=>r
 | _,_,_+1,.nil=>.nil
 | _,_,n+1,.cons _ t=>aK.drop n t
def jJ:Option V->Option Value->Prop
 | some v,some u=>aR v u
 | none,none=>True
 | _,_=>False
def KV {κ:Type}:List (κ × V)->List (κ × Value)->Prop:=Paired fun (p:κ × V) (q:κ × Value)=>p.1=q.1/\aR p.2 q.2
def kV:aJ->V
 | .inl i=>.int i
 | .inr x=>.str x
inductive HO where
 | lst (xs:List V)
 | tup (xs:List V)
 | dK (kvs:List (aJ × V)) | dT (kvs:List (List aJ × V))
 | set (S:Int->Bool) (n:Nat)
 | ins (C dx:Addr) (fs:List (Str × V))
 | own (x:Addr)
 | xd (fs:List (Str × V))
 | met (f x:Addr)
 | rng (lo hi:Int)
 | frz (o:Obj) (u:HO)
 | tbl (ps:Array Value)
 | ext (φ:Heap->Prop)
abbrev Hp:=Addr->Option HO
def upd (H:Hp) (a:Addr) (o:HO):Hp:=fun b=>if b=a then some o else H b
theorem c9 {H:Hp}{a:Addr}{o:HO}:upd H a o a=some o:=by unfold upd; rw [if_pos rfl]
theorem aZ {H:Hp}{a b:Addr}{o:HO} (h:b ≠ a):upd H a o b=H b:=by unfold upd; rw [if_neg h]
theorem vZ {H:Hp}{a b:Addr}{o u:HO} (h:H a=some o) (h':H b=some u) (d:o ≠ u):a ≠ b:=by
 intro e; subst e; rw [h] at h'; exact d (aQ0 h')
theorem cR {H:Hp}{a b:Addr}{o:HO} (h:H a=some o) (h':H b=none):a ≠ b:=by
 intro e; subst e; rw [h] at h'; cases h'
def i8 (h:Heap) (a:Addr):Prop:=∀ o,h.get? a=some o->o.dict=none
theorem i8.new (h:Heap) (o:Obj) (d:o.dict=none) (s:o.isFreed=false:=by rfl):i8 (h.push o) h.objs.size:=fun u e=>by
 rw [aP1 h (o:=o) s] at e
 cases e; exact d
theorem i8.stay {h h':Heap}{a:Addr}{o:Obj} (n:i8 h a) (e:h.get? a=some o) (e':h'.get? a=some o):i8 h' a:=fun u hu=>by
 rw [e'] at hu; cases hu; exact n _ e
section
variable (P : Program) (w : World)
def bR (H:Hp) (h:Heap) (a:Addr):HO->Prop
 | .lst xs=>xs.length<=sizeLine/\∃ (its:List Value) (n:Nat),aK xs its/\h.get? a=some { cls:=.type "list",data:=.seq its.toArray n }
 | .tup xs=>xs.length<=sizeLine/\∃ its:List Value,aK xs its/\IsTup h a its.toArray/\i8 h a
 | .dK kvs=>kvs.length<=sizeLine/\(a == sysModules)=false/\∃ vs,KV kvs vs/\h.DictOf (eQ P w) a vs
 | .dT kvs=>kvs.length<=sizeLine/\(a == sysModules)=false/\∃ xs:List (List aJ × Addr × Value),
   Paired (fun (p:List aJ × V) (q:List aJ × Addr × Value)=>p.1=q.1/\H q.2.1=some (.tup (p.1.map kV))/\aR p.2 q.2.2) kvs xs/\
   ∃ o es ep,h.get? a=some o/\o.ExactDict/\o.data = .dict es ep/\es.toList=xs.map (entryOfKey (tupleKind (eQ P w)))/\(xs.map (·.1)).Nodup
 | .set S n=>h.SetOf (intKind P w) a S n
 | .ins C dx fs=>H dx=some (.own a)/\fs.length<=1000/\dx ≠ a/\h.get? a=some (PySem.W.instObj C dx)/\
   ∃ mA,h.Ns1 dx mA/\(∀ f,jJ (fs.lookup f) (mA f))/\PySem.Within mA (fs.map (·.1))
 | .own _=>∃ o,h.get? a=some o
 | .xd fs=>∃ mA,h.Ns1 a mA/\∀ f,jJ (fs.lookup f) (mA f)
 | .rng lo hi=>∃ t u v,h.get? a=some { cls:=.type "range",data:=.fields #[.int lo t,.int hi u,.int 1 v] }
 | .frz o u=>h.get? a=some o/\bR H h a u
 | .tbl ps=>h.get? a=some { cls:=.none,data:=.fields ps }
 | .met f x=>h.get? a=some (PySem.W.methodObj (.ref f) (.ref x))
 | .ext φ=>φ h/\(∃ o,h.get? a=some o)/\∀ h1 h2:Heap,φ h1->(∀ o,h1.get? a=some o->h2.get? a=some o)->φ h2
def bP (H:Hp) (h:Heap):Prop:=∀ a o,H a=some o->bR P w H h a o
end
section
variable {P : Program} {w : World} {H H' : Hp} {h h' : Heap} {a : Addr} {o : HO}
theorem bR.lt (x:bR P w H h a o):a < h.objs.size:=by
 cases o with
 | lst xs=>obtain ⟨_,_,_,_,e⟩:=x; exact aO8 e
 | tup xs=>obtain ⟨_,_,_,p,_⟩:=x; exact p.lt
 | dK kvs=>obtain ⟨_,_,_,_,o,_,_,e,_⟩:=x; exact aO8 e
 | dT kvs=>obtain ⟨_,_,_,_,o,_,_,e,_⟩:=x; exact aO8 e
 | set S n=>obtain ⟨o,_,_,_,e,_⟩:=x; exact aO8 e
 | ins C dx fs=>obtain ⟨_,_,_,e,_⟩:=x; exact aO8 e
 | own y=>obtain ⟨_,e⟩:=x; exact aO8 e
 | xd fs=>obtain ⟨_,⟨_,_,_,e,_⟩,_⟩:=x; exact aO8 e
 | rng lo hi=>obtain ⟨_,_,_,e⟩:=x; exact aO8 e
 | frz ob u=>obtain ⟨e,_⟩:=x; exact aO8 e
 | tbl ps=>exact aO8 (show h.get? a=some _ from x)
 | met f y=>exact aO8 (show h.get? a=some _ from x)
 | ext φ=>obtain ⟨_,⟨_,e⟩,_⟩:=x; exact aO8 e
theorem Paired.mapP {α β:Type}{F G:α->β->Prop}:∀ {l₁:List α}{l₂:List β},Paired F l₁ l₂->(∀ a b,F a b->G a b)->Paired G l₁ l₂
 | _,_,.nil,_=>.nil
 | _,_,.cons r t,f=>.cons (f _ _ r) (Paired.mapP t f)
theorem bR.stay (x:bR P w H h a o) (k:∀ b u,(b=a ∨ H b=some (.own a))->h.get? b=some u->h'.get? b=some u)
  (ho:∀ b,H b=some (.own a)->H' b=some (.own a)) (ht:∀ b xs,H b=some (.tup xs)->H' b=some (.tup xs)):bR P w H' h' a o:=by
 induction o with
 | lst xs=>obtain ⟨z,its,n,r,e⟩:=x; exact⟨z,its,n,r,k _ _ (.inl rfl) e⟩
 | tup xs=>obtain ⟨z,its,r,⟨ob,e,c⟩,nd⟩:=x; exact⟨z,its,r,⟨ob,k _ _ (.inl rfl) e,c⟩,nd.stay e (k _ _ (.inl rfl) e)⟩
 | dK kvs=>obtain ⟨z,y,vs,r,ob,es,ep,e,c⟩:=x; exact⟨z,y,vs,r,ob,es,ep,k _ _ (.inl rfl) e,c⟩
 | dT kvs=>
  obtain ⟨z,y,xs,r,ob,es,ep,e,c⟩:=x
  exact⟨z,y,xs,Paired.mapP r fun p q z=>⟨z.1,ht _ _ z.2.1,z.2.2⟩,ob,es,ep,k _ _ (.inl rfl) e,c⟩
 | set S n=>obtain ⟨ob,es,ep,t,e,c⟩:=x; exact⟨ob,es,ep,t,k _ _ (.inl rfl) e,c⟩
 | ins C dx fs=>
  obtain ⟨d,z,ne,e,mA,⟨od,es,ep,e2,c⟩,r⟩:=x
  exact⟨ho _ d,z,ne,k _ _ (.inl rfl) e,mA,⟨od,es,ep,k _ _ (.inr d) e2,c⟩,r⟩
 | own y=>obtain ⟨ob,e⟩:=x; exact⟨ob,k _ _ (.inl rfl) e⟩
 | xd fs=>obtain ⟨mA,⟨od,es,ep,e,c⟩,r⟩:=x; exact⟨mA,⟨od,es,ep,k _ _ (.inl rfl) e,c⟩,r⟩
 | rng lo hi=>obtain ⟨t,u,v,e⟩:=x; exact⟨t,u,v,k _ _ (.inl rfl) e⟩
 | frz ob u ih=>obtain ⟨e,q⟩:=x; exact⟨k _ _ (.inl rfl) e,ih q⟩
 | tbl ps=>
  have e:h.get? a=some { cls:=.none,data:=.fields ps }:=x
  show h'.get? a=some { cls:=.none,data:=.fields ps }
  exact k a _ (.inl rfl) e
 | met f y=>
  have e:h.get? a=some (PySem.W.methodObj (.ref f) (.ref y)):=x
  show h'.get? a=some (PySem.W.methodObj (.ref f) (.ref y))
  exact k a _ (.inl rfl) e
 | ext φ=>obtain ⟨p,⟨o,e⟩,st⟩:=x; exact⟨st _ _ p fun o q=>k _ _ (.inl rfl) q,⟨o,k _ _ (.inl rfl) e⟩,st⟩
theorem bP.lt (x:bP P w H h) (e:H a=some o):a < h.objs.size:=(x a o e).lt
theorem bP.fresh (x:bP P w H h) (e:h.objs.size<=a):H a=none:=by
 cases q:H a with
 | none=>rfl
 | some u=>exact absurd (aP5 (x.lt q) e) (aV4 _)
theorem bP.kept (x:bP P w H h) (k:∀ b u,h.get? b=some u->h'.get? b=some u):bP P w H h':=fun a o e=>
 (x a o e).stay (fun b u _ q=>k b u q) (fun _ q=>q) fun _ _ q=>q
theorem bP.laid (x:bP P w H h) (k:∀ b u,h.get? b=some u->h'.get? b=some u) (hp:h.objs.size<=a) (new:bR P w (upd H a o) h' a o):bP P w (upd H a o) h':=fun b u e=>by
 have hn:=x.fresh hp
 by_cases hb:b=a
 ·subst hb; rw [c9] at e; cases e; exact new
 ·rw [aZ hb] at e
  exact (x b u e).stay (fun c v _ q=>k c v q) (fun c q=>by rw [aZ (cR q hn)]; exact q) fun c xs q=>by rw [aZ (cR q hn)]; exact q
end
def Rd (H:Hp) (a:Addr) (u:HO):Prop:=H a=some u ∨ ∃ o,H a=some (.frz o u)
theorem Rd.ok {P:Program}{w:World}{H:Hp}{h:Heap}{a:Addr}{u:HO} (r:Rd H a u) (x:bP P w H h):bR P w H h a u:=by
 rcases r with r | ⟨o,r⟩
 ·exact x a u r
 ·obtain ⟨_,q⟩:=x a _ r
  exact q
def m8:Option HO->Prop
 | some (.lst _)=>True
 | some (.dK _)=>True
 | some (.dT _)=>True
 | some (.set _ _)=>True
 | some (.ins _ _ _)=>True
 | some (.ext _)=>True
 | _=>False
section
variable {P : Program} {w : World} {H : Hp} {h h' : Heap} {x e : Addr} {o' : HO}
theorem bP.write (ok:bP P w H h) (mu:m8 (H x)) (he:e=x ∨ H e=some (.own x)) (k:∀ b u,b ≠ e->h.get? b=some u->h'.get? b=some u) (heo:∃ u,h'.get? e=some u)
  (new:bR P w (upd H x o') h' x o'):bP P w (upd H x o') h':=fun b u q=>by
 have nown:∀ c y,H c=some (.own y)->c ≠ x:=fun c y r z=>by subst z; rw [r] at mu; exact mu
 have ntup:∀ c xs,H c=some (.tup xs)->c ≠ x:=fun c xs r z=>by subst z; rw [r] at mu; exact mu
 by_cases hb:b=x
 ·subst hb; rw [c9] at q; cases q; exact new
 ·rw [aZ hb] at q
  by_cases hbe:b=e
  ·have q':H b=some (.own x):=by
    rcases he with z | z
    ·exact absurd (hbe.trans z) hb
    ·rw [hbe]; exact z
   rw [q] at q'; cases q'
   obtain ⟨v,hv⟩:=heo
   exact⟨v,by rw [hbe]; exact hv⟩
  ·refine (ok b u q).stay (fun c v hc r=>k c v ?_ r) (fun c r=>by rw [aZ (nown c b r)]; exact r) fun c xs r=>by rw [aZ (ntup c xs r)]; exact r
   rcases hc with rfl | hc
   ·exact hbe
   ·rintro rfl
    rcases he with z | z
    ·exact nown c b hc z
    ·rw [hc] at z; cases z; exact hb rfl
end
structure Un (fs ex:List Addr) (H H':Hp) (h h':Heap):Prop where
 keep:∀ b o,h.get? b=some o->H b=none->b ∉ fs->b ∉ ex->h'.get? b=some o
 slot:∀ b o,h.get? b=some o->H b=none->b ∈ fs->b ∉ ex->∃ sl,h'.get? b=some { o with slots:=sl }
 free:∀ b o,h.get? b=some o->H b=none->b ∉ ex->H' b=none
 there:∀ b o,h.get? b=some o->b ∉ ex->∃ o',h'.get? b=some o'
 tups:∀ b xs,H b=some (.tup xs)->H' b=some (.tup xs)
 frzs:∀ b o u,H b=some (.frz o u)->H' b=some (.frz o u)
 tbls:∀ b ps,H b=some (.tbl ps)->∃ more,H' b=some (.tbl (ps ++ more))
section
variable {fs fs' ex ex' : List Addr} {H H1 H2 : Hp} {h h1 h2 h' : Heap} {a x e : Addr} {o : HO}
theorem Un.any (u:Un fs ex H H1 h h1) {b:Addr}{ob:Obj} (q:h.get? b=some ob) (n:H b=none) (hx:b ∉ ex):∃ sl,h1.get? b=some { ob with slots:=sl }:=by
 by_cases hb:b ∈ fs
 ·exact u.slot b ob q n hb hx
 ·exact⟨ob.slots,u.keep b ob q n hb hx⟩
theorem Un.kept (k:∀ b u,h.get? b=some u->h'.get? b=some u):Un fs ex H H h h':=
 ⟨fun b ob q _ _ _=>k b ob q,fun b ob q _ _ _=>⟨ob.slots,k b ob q⟩,fun _ _ _ n _=>n,fun b ob q _=>⟨ob,k b ob q⟩,fun _ _ q=>q,fun _ _ _ q=>q,fun _ ps q=>⟨#[],by rw [q]; simp⟩⟩
theorem Un.refl:Un fs ex H H h h:=Un.kept fun _ _ q=>q
theorem Un.laid (k:∀ b u,h.get? b=some u->h'.get? b=some u) (hp:h.objs.size<=a) (hn:H a=none):Un fs ex H (upd H a o) h h' where
 keep:=fun b u q _ _ _=>k b u q
 slot:=fun b u q _ _ _=>⟨u.slots,k b u q⟩
 free:=fun b u q n _=>by rw [aZ (aQ6 (aP5 (aO8 q) hp))]; exact n
 there:=fun b u q _=>⟨u,k b u q⟩
 tups:=fun b xs q=>by rw [aZ (cR q hn)]; exact q
 frzs:=fun b u xs q=>by rw [aZ (cR q hn)]; exact q
 tbls:=fun b ps q=>⟨#[],by rw [aZ (cR q hn),q]; simp⟩
theorem Un.write (mu:m8 (H x)) (he:e=x ∨ H e=some (.own x)) (k:∀ b u,b ≠ e->h.get? b=some u->h'.get? b=some u) (heo:∃ u,h'.get? e=some u):Un fs ex H (upd H x o) h h':=by
 have hx:∀ b,H b=none->b ≠ x:=fun b n z=>by subst z; rw [n] at mu; exact mu
 have hb:∀ b,H b=none->b ≠ e:=fun b n z=>by
  subst z
  rcases he with r | r
  ·exact hx b n r
  ·rw [n] at r; cases r
 have hm:∀ b u,H b=some u->¬ m8 (some u)->b ≠ x:=fun b u q nm z=>by subst z; rw [q] at mu; exact nm mu
 refine⟨fun b u q n _ _=>k b u (hb b n) q,fun b u q n _ _=>⟨u.slots,k b u (hb b n) q⟩,fun b u q n _=>by rw [aZ (hx b n)]; exact n,fun b u q _=>?_,
  fun b xs q=>by rw [aZ (hm b _ q fun z=>z)]; exact q,fun b u xs q=>by rw [aZ (hm b _ q fun z=>z)]; exact q,fun b ps q=>⟨#[],by rw [aZ (hm b _ q fun z=>z),q]; simp⟩⟩
 by_cases hbe:b=e
 ·subst hbe; exact heo
 ·exact⟨u,k b u hbe q⟩
end
def oB (h:Heap) (H:Hp):List Addr:=(List.range h.objs.size).filter fun a=>(H a).isSome
def i9 (h:Heap) (H:Hp):Heap:=PySem.W.hideAll h (oB h H)
theorem W0 (h:Heap) (H:Hp):(i9 h H).objs.size=h.objs.size:=PySem.W.hideAll_size _ _
theorem W5 {h:Heap}{H:Hp}{b:Addr}{o:Obj} (e:h.get? b=some o) (n:H b=none):(i9 h H).get? b=some o:=
 PySem.W.hideAll_get _ e fun hm=>by
  have q:(H b).isSome=true:=(List.mem_filter.mp hm).2
  rw [n] at q; simp at q
theorem W6 {h:Heap}{H:Hp}{b:Addr}{o:Obj} (e:(i9 h H).get? b=some o):h.get? b=some o/\H b=none:=by
 have e':h.get? b=some o:=PySem.W.of_hideAll (oB h H) e
 refine⟨e',?_⟩
 cases q:H b with
 | none=>rfl
 | some x=>
  have hm:b ∈ oB h H:=List.mem_filter.mpr ⟨List.mem_range.mpr (aO8 e'),by simp [q]⟩
  have z:(i9 h H).get? b=none:=PySem.W.hideAll_none (oB h H) hm
  rw [z] at e; cases e
def W7 (g h:Heap) (L:Addr):List (Addr × Obj):=(List.range h.objs.size).filterMap fun a=>if a=L ∨ (g.get? a).isSome=true then none else (h.get? a).map fun o=>(a,o)
def cB (g h:Heap) (L d:Addr):List (Addr × Obj):=(W7 g h L).filter fun p=>decide (p.1 ≠ d)
structure Mod (K:PySem.W.Frag) (mg:Str->Option Value) (base:Heap):Prop where
 kin:K.In base
 glob:base.Ns mainGlobals mg
 blt:∃ mb,base.Ns builtinsNs mb/\∀ x:Str,x ≠ "__name__"->mb x=bootBuiltins x
 nolimit:base.NoLimit
structure Cx where
 prog:Program
 w:World
 K:PySem.W.Frag
 mg:Str->Option Value
 base:Heap
 A:Around
 N:List Str
 s₀:Shared
 H₀:Hp
 env:Env
 outer:List Env
 stack:List Env
 ex:List Addr
 fn:Str->Bool
 calm:Bool
 pn:List (Addr × Obj)
 xe:Value->Shared->Prop
def bT (l:List Env):List Addr:=l.filterMap (·.frame)
abbrev Cx.fs (X:Cx):List Addr:=bT X.outer
def iA (sc:Scope) (x:Str):Prop:=sc.names.lookup x=some .local ∨ sc.names.lookup x=some .cell ∨ sc.names.lookup x=some .free
def gD (sc:Scope) (x:Str):Prop:=sc.names.lookup x=some .local ∨ sc.names.lookup x=some .cell
def W8 (env:Env) (h:Heap) (m:Str->Option Value) (x:Str) (u:Value):Prop:=
 (env.kindOf x=some .local/\m x=some u) ∨ ((env.kindOf x=some .cell ∨ env.kindOf x=some .free)/\∃ c,env.cells.lookup x=some c/\h.IsCell c (some u))
structure Cx.Ok (X:Cx):Prop where
 mod:Mod X.K X.mg X.base
 kind:X.env.scope.kind = .function
 glob:X.env.globals=mainGlobals
 blt:X.env.builtins=builtinsNs
 above:X.s₀.heap.objs.size<=X.env.locals
 inj:∀ x y c,X.env.cells.lookup x=some c->X.env.cells.lookup y=some c->x=y
 has:∀ x,(X.env.kindOf x=some .cell ∨ X.env.kindOf x=some .free)->∃ c,X.env.cells.lookup x=some c
 cab:∀ x c,X.fn x=true->X.env.cells.lookup x=some c->X.s₀.heap.objs.size<=c
 hd:X.calm=true->X.A.handled=none
 frames:X.A.frames=some X.stack
 stk:X.stack=X.outer ∨ (X.stack=X.env :: X.outer/\X.env.frame=some X.env.locals)
 exf:∀ b ∈ X.ex,b ≠ X.env.locals/\∀ x c,X.env.cells.lookup x=some c->c ≠ b
 bs:∀ b o,X.base.get? b=some o->X.s₀.heap.get? b=some o/\X.H₀ b=none
 bsz:X.base.objs.size<=X.s₀.heap.objs.size
 noex:∀ b o,X.base.get? b=some o->b ∉ X.ex
 exfs:∀ b ∈ X.ex,b ∉ X.fs
 funs:X.s₀.heap.FunFrames X.base X.outer
 frf:∀ b ∈ X.fs,X.H₀ b=none
structure a8 (X:Cx) (pins:List (Addr × Obj)) (σ:List (Option V)) (H:Hp) (s:Shared):Prop where
 ok:X.Ok
 os:s.os=X.s₀.os
 bare:AllBare s.gens
 base:Un X.fs X.ex X.H₀ H X.s₀.heap s.heap
 loc:∃ m,s.heap.Ns X.env.locals m/\∀ (i:Nat) (x:Str) (v:V),X.N[i]? = some x->σ[i]? = some (some v)->iA X.env.scope x->∃ u,aR v u/\W8 X.env s.heap m x u
 cell:∀ x c,X.env.cells.lookup x=some c->∃ v,s.heap.IsCell c v
 free:H X.env.locals=none
 freeC:∀ x c,X.env.cells.lookup x=some c->H c=none
 pin:∀ p ∈ X.pn ++ pins,s.heap.get? p.1=some p.2/\H p.1=none/\p.1 ≠ X.env.locals/\p.1 ∉ X.fs/\∀ v,p.2.data ≠ .cell v
 hok:bP X.prog X.w H s.heap
 len:σ.length=X.N.length
section
variable {X : Cx} {pins : List (Addr × Obj)} {σ : List (Option V)} {H H' : Hp} {s : Shared} {h' : Heap}
theorem Cx.Ok.nofr (ok:X.Ok) {b:Addr}{o:Obj} (e:X.base.get? b=some o):b ∉ X.fs:=fun hb=>by
 have:=(ok.funs.mem hb).1
 rw [e] at this; cases this
theorem a8.bs (I:a8 X pins σ H s):∀ b o,X.base.get? b=some o->s.heap.get? b=some o/\H b=none:=fun b o e=>
 ⟨I.base.keep b o (I.ok.bs b o e).1 (I.ok.bs b o e).2 (I.ok.nofr e) (I.ok.noex b o e),I.base.free b o (I.ok.bs b o e).1 (I.ok.bs b o e).2 (I.ok.noex b o e)⟩
theorem a8.bk (I:a8 X pins σ H s):∀ b o,X.base.get? b=some o->s.heap.get? b=some o:=fun b o e=>(I.bs b o e).1
theorem a8.mod (I:a8 X pins σ H s):Mod X.K X.mg X.base:=I.ok.mod
theorem a8.kIn (I:a8 X pins σ H s):X.K.In s.heap:=I.ok.mod.kin.keeps I.bk
theorem a8.fr (I:a8 X pins σ H s):∃ m,Fr X.base X.env.locals s.heap m:=
 let ⟨m,hn,_⟩:=I.loc
 ⟨m,hn,I.bk,aQ7 I.ok.bsz I.ok.above⟩
theorem a8.lt (I:a8 X pins σ H s):X.env.locals < s.heap.objs.size:=let ⟨_,hn,_⟩:=I.loc; hn.lt
theorem a8.sz (I:a8 X pins σ H s):X.s₀.heap.objs.size<=s.heap.objs.size:=aQ7 I.ok.above (aZ6 I.lt)
theorem a8.nofs (I:a8 X pins σ H s) {a:Addr} (h:s.heap.objs.size<=a):a ∉ X.fs:=fun hb=>by
 obtain ⟨_,o,ho,_⟩:=I.ok.funs.mem hb
 exact absurd (aP5 (aO8 ho) (aQ7 I.sz h)) (aV4 _)
theorem a8.cne (I:a8 X pins σ H s):∀ x c,X.env.cells.lookup x=some c->c ≠ X.env.locals:=fun x c e z=>by
 obtain ⟨v,o,ho,hd⟩:=I.cell x c e
 obtain ⟨m,⟨o',es,ep,ho',hd',_⟩,_⟩:=I.loc
 rw [z,ho'] at ho; cases ho; rw [hd'] at hd; cases hd
theorem a8.funs (I:a8 X pins σ H s):s.heap.FunFrames X.base X.outer:=by
 have all:∀ (l:List Env),(∀ b ∈ bT l,b ∈ X.fs)->X.s₀.heap.FunFrames X.base l->s.heap.FunFrames X.base l:=by
  intro l
  induction l with
  | nil=>intro _ _; trivial
  | cons env r ih=>
   intro hs hl
   obtain ⟨hk,⟨L,o,hf,hn,ho,hd⟩,hr⟩:=hl
   have hL:L ∈ X.fs:=hs L (by unfold bT; rw [List.filterMap_cons,hf]; exact aO9)
   obtain ⟨sl,e⟩:=I.base.slot L o ho (I.ok.frf L hL) hL fun z=>I.ok.exfs L z hL
   exact⟨hk,⟨L,_,hf,hn,e,hd⟩,ih (fun b hb=>hs b (by unfold bT; rw [List.filterMap_cons,hf]; exact aO3 _ hb)) hr⟩
 exact all X.outer (fun _ hb=>hb) I.ok.funs
theorem a8.stack (I:a8 X pins σ H s):s.heap.FunFrames X.base X.stack:=by
 rcases I.ok.stk with e | ⟨e,hf⟩
 ·rw [e]; exact I.funs
 ·rw [e]
  obtain ⟨m,hn,_⟩:=I.loc
  refine .cons (by rw [I.ok.kind]; decide) hf hn ?_ I.funs
  exact Heap.get?_none_of_le (aQ7 I.ok.bsz I.ok.above)
theorem a8.stkSub (I:a8 X pins σ H s):∀ b ∈ bT X.stack,b ∈ X.env.locals :: X.fs:=fun b hb=>by
 rcases I.ok.stk with e | ⟨e,hf⟩
 ·rw [e] at hb; exact aO3 _ hb
 ·rw [e] at hb
  unfold bT at hb
  rw [List.filterMap_cons,hf] at hb
  exact hb
theorem a8.stkFree (I:a8 X pins σ H s):∀ b ∈ bT X.stack,H b=none:=fun b hb=>by
 rcases aO0.mp (I.stkSub b hb) with e | hb
 ·rw [e]; exact I.free
 ·obtain ⟨_,o,ho,_⟩:=I.ok.funs.mem hb
  exact I.base.free b o ho (I.ok.frf b hb) fun z=>I.ok.exfs b z hb
theorem a8.step {g':Array GenState}{t':Nat}{d':Drawn}{ch:List Addr} (I:a8 X pins σ H s)
  (hch:∀ b ∈ ch,(b ∈ X.ex ∨ X.s₀.heap.objs.size<=b)/\b ≠ X.env.locals/\(∀ x c,X.env.cells.lookup x=some c->c ≠ b)/\∀ p ∈ X.pn ++ pins,p.1 ≠ b)
  (keep:∀ b o,b ≠ X.env.locals->b ∉ X.fs->b ∉ ch->s.heap.get? b=some o->H b=none->h'.get? b=some o)
  (slot:∀ b o,b ≠ X.env.locals->b ∈ X.fs->b ∉ ch->s.heap.get? b=some o->H b=none->∃ sl,h'.get? b=some { o with slots:=sl }) (free:∀ b o,b ∉ ch->s.heap.get? b=some o->H b=none->H' b=none)
  (there:∀ b o,b ∉ ch->s.heap.get? b=some o->∃ o',h'.get? b=some o')
  (tups:∀ b xs,H b=some (.tup xs)->H' b=some (.tup xs)) (frzs:∀ b o u,H b=some (.frz o u)->H' b=some (.frz o u)) (tbls:∀ b ps,H b=some (.tbl ps)->∃ more,H' b=some (.tbl (ps ++ more)))
  (ns:∀ m,s.heap.Ns X.env.locals m->h'.Ns X.env.locals m) (hok:bP X.prog X.w H' h') (hg:AllBare g') :
  a8 X pins σ H' { s with heap:=h',gens:=g',drawn:=d',toks:=t' }:=by
 have neL:∀ b o,X.s₀.heap.get? b=some o->b ≠ X.env.locals:=fun b o e=>aQ6 (aP5 (aO8 e) I.ok.above)
 have neC:∀ b o,X.s₀.heap.get? b=some o->b ∉ X.ex->b ∉ ch:=fun b o e hx hb=>by
  rcases (hch b hb).1 with z | z
  ·exact hx z
  ·exact absurd (aP5 (aO8 e) z) (aV4 _)
 have cellK:∀ x c,X.env.cells.lookup x=some c->∀ v,s.heap.IsCell c v->h'.IsCell c v:=fun x c e v ⟨o,ho,hd⟩=>by
  have nch:c ∉ ch:=fun z=>(hch c z).2.2.1 x c e rfl
  by_cases hc:c ∈ X.fs
  ·obtain ⟨sl,q⟩:=slot c o (I.cne x c e) hc nch ho (I.freeC x c e)
   exact⟨_,q,hd⟩
  ·exact⟨o,keep c o (I.cne x c e) hc nch ho (I.freeC x c e),hd⟩
 refine⟨I.ok,I.os,hg,⟨fun b o e n hb hx=>?_,fun b o e n hb hx=>?_,fun b o e n hx=>?_,fun b o e hx=>?_,fun b xs e=>tups b xs (I.base.tups b xs e),fun b o xs e=>frzs b o xs (I.base.frzs b o xs e),fun b ps e=>?_⟩,?_,fun x c e=>?_,?_,fun x c e=>?_,fun p hp=>?_,hok,I.len⟩
 ·exact keep b o (neL b o e) hb (neC b o e hx) (I.base.keep b o e n hb hx) (I.base.free b o e n hx)
 ·obtain ⟨sl,e1⟩:=I.base.slot b o e n hb hx
  obtain ⟨sl',e2⟩:=slot b _ (neL b o e) hb (neC b o e hx) e1 (I.base.free b o e n hx)
  exact⟨sl',e2⟩
 ·obtain ⟨o',e1⟩:=I.base.there b o e hx
  exact free b o' (neC b o e hx) e1 (I.base.free b o e n hx)
 ·obtain ⟨o',e1⟩:=I.base.there b o e hx
  exact there b o' (neC b o e hx) e1
 ·obtain ⟨m1,e1⟩:=I.base.tbls b ps e
  obtain ⟨m2,e2⟩:=tbls b _ e1
  exact⟨m1 ++ m2,by rw [e2,Array.append_assoc]⟩
 ·obtain ⟨m,hn,hl⟩:=I.loc
  refine⟨m,ns m hn,fun i x v e1 e2 e3=>?_⟩
  obtain ⟨u,r,l⟩:=hl i x v e1 e2 e3
  refine⟨u,r,?_⟩
  rcases l with l | ⟨k,c,e,z⟩
  ·exact .inl l
  ·exact .inr ⟨k,c,e,cellK x c e _ z⟩
 ·obtain ⟨v,z⟩:=I.cell x c e
  exact⟨v,cellK x c e v z⟩
 ·obtain ⟨m,⟨o,_,_,ho,_⟩,_⟩:=I.loc
  exact free _ o (fun z=>(hch _ z).2.1 rfl) ho I.free
 ·obtain ⟨v,o,ho,hd⟩:=I.cell x c e
  exact free c o (fun z=>(hch c z).2.2.1 x c e rfl) ho (I.freeC x c e)
 ·obtain ⟨e,n,ne,nf,d⟩:=I.pin p hp
  have nch:p.1 ∉ ch:=fun z=>(hch p.1 z).2.2.2 p hp rfl
  exact⟨keep p.1 p.2 ne nf nch e n,free p.1 p.2 nch e n,ne,nf,d⟩
theorem a8.un {t':Nat} (I:a8 X pins σ H s) (u:Un X.fs [] H H' s.heap h') (hok:bP X.prog X.w H' h'):a8 X pins σ H' { s with heap:=h',toks:=t' }:=by
 obtain ⟨m,⟨o,es,ep,ho,r⟩,_⟩:=id I.loc
 obtain ⟨sl,hL⟩:=u.any ho I.free (by simp)
 exact I.step (g':=s.gens) (d':=s.drawn) (ch:=[]) (fun _ z=>nomatch z) (fun b o _ hb _ e n=>u.keep b o e n hb (by simp)) (fun b o _ hb _ e n=>u.slot b o e n hb (by simp)) (fun b o _ e n=>u.free b o e n (by simp)) (fun b o _ e=>u.there b o e (by simp)) u.tups u.frzs u.tbls (fun m' hm=>by
  obtain ⟨o',es',ep',ho',r'⟩:=hm
  rw [ho] at ho'; cases ho'
  exact⟨_,es',ep',hL,r'⟩) hok I.bare
theorem a8.call {g':Array GenState}{t':Nat}{d':Drawn}{ch:List Addr} (I:a8 X pins σ H s) (u:Un (bT X.stack) ch H H' s.heap h') (hok:bP X.prog X.w H' h') (hg:AllBare g')
  (hch:∀ b ∈ ch,(b ∈ X.ex ∨ X.s₀.heap.objs.size<=b)/\b ≠ X.env.locals/\(∀ x c,X.env.cells.lookup x=some c->c ≠ b)/\∀ p ∈ X.pn ++ pins,p.1 ≠ b) :
  a8 X pins σ H' { s with heap:=h',gens:=g',drawn:=d',toks:=t' }:=by
 obtain ⟨m,⟨o,es,ep,ho,r⟩,_⟩:=id I.loc
 obtain ⟨sl,hL⟩:=u.any ho I.free fun z=>(hch _ z).2.1 rfl
 exact I.step (ch:=ch) hch (fun b o hL hb hc e n=>u.keep b o e n (fun z=>(aO0.mp (I.stkSub b z)).elim hL hb) hc) (fun b o _ _ hc e n=>u.any e n hc) (fun b o hc e n=>u.free b o e n hc) (fun b o hc e=>u.there b o e hc) u.tups u.frzs u.tbls (fun m' hm=>by
  obtain ⟨o',es',ep',ho',r'⟩:=hm
  rw [ho] at ho'; cases ho'
  exact⟨_,es',ep',hL,r'⟩) hok hg
theorem a8.turned {t':Nat}{it:Addr} (I:a8 X pins σ H s) (k:∀ b o,b ≠ it->s.heap.get? b=some o->h'.get? b=some o) (hn:H it=none) (hL:it ≠ X.env.locals)
  (h1:it ∈ X.ex ∨ X.s₀.heap.objs.size<=it) (h2:∀ x c,X.env.cells.lookup x=some c->c ≠ it) (h3:∀ p ∈ X.pn ++ pins,p.1 ≠ it):a8 X pins σ H { s with heap:=h',toks:=t' }:=by
 have nit:∀ b u,H b=some u->b ≠ it:=fun b u e z=>by rw [z,hn] at e; cases e
 refine I.step (g':=s.gens) (d':=s.drawn) (ch:=[it]) (fun b hb=>?_) (fun b o _ _ hc e _=>k b o (fun z=>hc (by simp [z])) e) (fun b o _ _ hc e _=>⟨o.slots,k b o (fun z=>hc (by simp [z])) e⟩) (fun _ _ _ _ n=>n)
  (fun b o hc e=>⟨o,k b o (fun z=>hc (by simp [z])) e⟩) (fun _ _ e=>e) (fun _ _ _ e=>e) (fun b ps e=>⟨#[],by rw [e]; simp⟩) (fun m hm=>?_) (fun b u e=>?_) I.bare
 ·have e:b=it:=by simpa using hb
  subst e
  exact⟨h1,hL,h2,h3⟩
 ·obtain ⟨o,es,ep,ho,r⟩:=hm
  exact⟨o,es,ep,k _ o (Ne.symm hL) ho,r⟩
 ·refine (I.hok b u e).stay (fun c v hc q=>k c v ?_ q) (fun _ q=>q) fun _ _ q=>q
  rcases hc with z | z
  ·rw [z]; exact nit b u e
  ·exact nit c _ z
theorem a8.tok (I:a8 X pins σ H s) (t:Nat):a8 X pins σ H { s with toks:=t }:=I.un (h':=s.heap) (t':=t) Un.refl I.hok
theorem a8.kept {t':Nat} (I:a8 X pins σ H s) (k:∀ b u,s.heap.get? b=some u->h'.get? b=some u):a8 X pins σ H { s with heap:=h',toks:=t' }:=I.un (Un.kept k) (I.hok.kept k)
theorem a8.laid {a:Addr}{o:HO}{t':Nat} (I:a8 X pins σ H s) (k:∀ b u,s.heap.get? b=some u->h'.get? b=some u) (hp:s.heap.objs.size<=a) (new:bR X.prog X.w (upd H a o) h' a o) :
  a8 X pins σ (upd H a o) { s with heap:=h',toks:=t' }:=I.un (Un.laid k hp (I.hok.fresh hp)) (I.hok.laid k hp new)
theorem a8.write {x e:Addr}{o:HO}{t':Nat} (I:a8 X pins σ H s) (mu:m8 (H x)) (he:e=x ∨ H e=some (.own x)) (k:∀ b u,b ≠ e->s.heap.get? b=some u->h'.get? b=some u) (heo:∃ u,h'.get? e=some u)
  (new:bR X.prog X.w (upd H x o) h' x o):a8 X pins σ (upd H x o) { s with heap:=h',toks:=t' }:=I.un (Un.write mu he k heo) (I.hok.write mu he k heo new)
theorem a8.weak {σ':List (Option V)} (I:a8 X pins σ H s) (hl:σ'.length=σ.length) (w:∀ (i:Nat) v,σ'[i]? = some (some v)->σ[i]? = some (some v)):a8 X pins σ' H s:=
 ⟨I.ok,I.os,I.bare,I.base,let ⟨m,hn,hl'⟩:=I.loc; ⟨m,hn,fun i x v e1 e2 e3=>hl' i x v e1 (w i v e2) e3⟩,I.cell,I.free,I.freeC,I.pin,I.hok,hl.trans I.len⟩
theorem a8.pins_of {pins':List (Addr × Obj)} (I:a8 X pins σ H s) (h:∀ p ∈ pins',s.heap.get? p.1=some p.2/\H p.1=none/\p.1 ≠ X.env.locals/\p.1 ∉ X.fs/\∀ v,p.2.data ≠ .cell v):a8 X pins' σ H s:=
 ⟨I.ok,I.os,I.bare,I.base,I.loc,I.cell,I.free,I.freeC,fun p hp=>(aS7.mp hp).elim (fun z=>I.pin p (aT8 _ z)) (h p),I.hok,I.len⟩
theorem w4 {N:List Str} (hN:N.Nodup) {i j:Nat}{x:Str} (a:N[i]? = some x) (b:N[j]? = some x):i=j:=by
 obtain ⟨h1,e1⟩:=aO7.mp a
 obtain ⟨h2,e2⟩:=aO7.mp b
 exact (List.getElem_inj hN).mp (e1.trans e2.symm)
theorem W9 {M:Model}{A:Around}{E:Value->Shared->Prop}{i:Nat}{x:Str}{v:V}{u:Value}{Q:Unit->Shared->Prop} (I:a8 X pins σ H s) (hN:X.N.Nodup) (hi:X.N[i]? = some x) (hx:gD X.env.scope x) (r:aR v u)
  (h:∀ s',a8 X pins (σ.set i (some v)) H s'->(∃ a,Heap.SameBut a s.heap s'.heap/\(a=X.env.locals ∨ X.env.cells.lookup x=some a))->Q () s') (hf:X.fn x=true ∨ X.env.scope.names.lookup x=some .local:=by first | exact .inl rfl | exact .inr rfl | assumption):wpAny M A (storeName X.env x u) Q E s:=by
 obtain ⟨m,hn,hl⟩:=id I.loc
 have hcls:(X.env.scope.kind == .class || (X.env.scope.kind == .module && X.env.locals != X.env.globals))=false:=by rw [I.ok.kind]; rfl
 have hiσ:i < σ.length:=by rw [I.len]; exact (aO7.mp hi).1
 have cne:=I.cne
 have tracked:∀ {a:Addr}{h':Heap},(∃ o,s.heap.get? a=some o/\H a=none)->Heap.SameBut a s.heap h'->bP X.prog X.w H h':=fun {a h'} ha hs b ob e=>by
  obtain ⟨_,_,hfree⟩:=ha
  refine (I.hok b ob e).stay (fun c w' hc q=>(hs.2 c ?_).trans q) (fun _ q=>q) fun _ _ q=>q
  rintro rfl
  rcases hc with rfl | hc
  ·rw [hfree] at e; cases e
  ·rw [hfree] at hc; cases hc
 rcases hx with hk | hk
 ·refine wpAny_storeName_local hk hn (fun h' hn' hs=>?_) hcls
  obtain ⟨oL,_,_,hoL,_⟩:=id hn
  refine h _ ⟨I.ok,I.os,I.bare,⟨fun b o e n hb hx=>?_,fun b o e n hb hx=>?_,I.base.free,fun b o e hx=>?_,I.base.tups,I.base.frzs,I.base.tbls⟩,⟨_,hn',fun j y v' e1 e2 e3=>?_⟩,fun y c e=>?_,I.free,I.freeC,fun p hp=>?_,tracked ⟨oL,hoL,I.free⟩ hs,by simpa using I.len⟩ ⟨_,hs,.inl rfl⟩
  ·exact (hs.2 b (aQ6 (aP5 (aO8 e) I.ok.above))).trans (I.base.keep b o e n hb hx)
  ·obtain ⟨sl,e1⟩:=I.base.slot b o e n hb hx
   exact⟨sl,(hs.2 b (aQ6 (aP5 (aO8 e) I.ok.above))).trans e1⟩
  ·obtain ⟨o',e1⟩:=I.base.there b o e hx
   exact⟨o',(hs.2 b (aQ6 (aP5 (aO8 e) I.ok.above))).trans e1⟩
  ·by_cases hj:j=i
   ·subst hj
    rw [hi] at e1; cases e1
    rw [aW7 hiσ] at e2
    cases e2
    exact⟨u,r,.inl ⟨hk,by simp⟩⟩
   ·rw [aR5 (Ne.symm hj)] at e2
    obtain ⟨u',r',q⟩:=hl j y v' e1 e2 e3
    refine⟨u',r',?_⟩
    rcases q with ⟨k,e⟩ | ⟨k,c,e,z⟩
    ·refine .inl ⟨k,?_⟩
     have:y ≠ x:=fun e=>hj (w4 hN e1 (e ▸ hi))
     simp [this,e]
    ·exact .inr ⟨k,c,e,z.sameBut hs (cne y c e)⟩
  ·obtain ⟨w',z⟩:=I.cell y c e
   exact⟨w',z.sameBut hs (cne y c e)⟩
  ·obtain ⟨e,n,ne,nf,d⟩:=I.pin p hp
   exact⟨(hs.2 p.1 ne).trans e,n,ne,nf,d⟩
 ·have hfn:X.fn x=true:=by
   rcases hf with z | z
   ·exact z
   ·rw [z] at hk; cases hk
  obtain ⟨c,hc⟩:=I.ok.has x (.inl hk)
  obtain ⟨w',z⟩:=I.cell x c hc
  refine wpAny_storeName_cell I.ok.kind hk hc z (fun h' hc' hs=>?_)
  obtain ⟨oc,hoc,hocd⟩:=id z
  refine h { s with heap:=h' } ⟨I.ok,I.os,I.bare,⟨fun b o e n hb hx=>?_,fun b o e n hb hx=>?_,I.base.free,fun b o e hx=>?_,I.base.tups,I.base.frzs,I.base.tbls⟩,⟨m,hn.sameBut hs (Ne.symm (cne x c hc)),fun j y v' e1 e2 e3=>?_⟩,fun y c' e=>?_,I.free,I.freeC,fun p hp=>?_,tracked ⟨oc,hoc,I.freeC x c hc⟩ hs,by simpa using I.len⟩ ⟨c,hs,.inr hc⟩
  ·exact (hs.2 b (aQ6 (aP5 (aO8 e) (I.ok.cab x c hfn hc)))).trans (I.base.keep b o e n hb hx)
  ·obtain ⟨sl,e1⟩:=I.base.slot b o e n hb hx
   exact⟨sl,(hs.2 b (aQ6 (aP5 (aO8 e) (I.ok.cab x c hfn hc)))).trans e1⟩
  ·obtain ⟨o',e1⟩:=I.base.there b o e hx
   exact⟨o',(hs.2 b (aQ6 (aP5 (aO8 e) (I.ok.cab x c hfn hc)))).trans e1⟩
  ·by_cases hj:j=i
   ·subst hj
    rw [hi] at e1; cases e1
    rw [aW7 hiσ] at e2
    cases e2
    exact⟨u,r,.inr ⟨.inl hk,c,hc,hc'⟩⟩
   ·rw [aR5 (Ne.symm hj)] at e2
    obtain ⟨u',r',q⟩:=hl j y v' e1 e2 e3
    refine⟨u',r',?_⟩
    rcases q with q | ⟨k,c',e,z'⟩
    ·exact .inl q
    ·refine .inr ⟨k,c',e,z'.sameBut hs ?_⟩
     rintro rfl
     exact hj (w4 hN e1 (I.ok.inj _ _ _ e hc ▸ hi))
  ·by_cases hcc:c'=c
   ·subst hcc; exact⟨_,hc'⟩
   ·obtain ⟨w2,z2⟩:=I.cell y c' e
    exact⟨w2,z2.sameBut hs hcc⟩
  ·obtain ⟨e,n,ne,nf,d⟩:=I.pin p hp
   refine⟨(hs.2 p.1 ?_).trans e,n,ne,nf,d⟩
   intro q
   rw [q,hoc] at e
   have q':oc=p.2:=aQ0 e
   exact d w' (by rw [<- q']; exact hocd)
theorem w5 {M:Model}{A:Around}{E:Value->Shared->Prop}{i:Nat}{x:Str}{v:V}{u:Value}{Q:Unit->Shared->Prop} (I:a8 X pins σ H s) (hN:X.N.Nodup) (hi:X.N[i]? = some x) (hx:gD X.env.scope x) (r:aR v u)
  (h:∀ s',a8 X pins (σ.set i (some v)) H s'->Q () s') (hf:X.fn x=true ∨ X.env.scope.names.lookup x=some .local:=by first | exact .inl rfl | exact .inr rfl | assumption):wpAny M A (storeName X.env x u) Q E s:=
 W9 I hN hi hx r (fun s' I' _=>h s' I') hf
theorem a8.call' {s':Shared}{ch:List Addr} (I:a8 X pins σ H s) (ho:s'.os=s.os) (u:Un (bT X.stack) ch H H' s.heap s'.heap) (hok:bP X.prog X.w H' s'.heap) (hg:AllBare s'.gens)
  (hch:∀ b ∈ ch,(b ∈ X.ex ∨ X.s₀.heap.objs.size<=b)/\b ≠ X.env.locals/\(∀ x c,X.env.cells.lookup x=some c->c ≠ b)/\∀ p ∈ X.pn ++ pins,p.1 ≠ b):a8 X pins σ H' s':=by
 obtain ⟨h',g',d',t',o'⟩:=s'
 have e:o'=s.os:=ho
 subst e
 exact I.call (g':=g') (t':=t') (d':=d') u hok hg hch
end
abbrev XK:=Value->Option Addr->Hp->Prop
abbrev St:=List (Option V)
abbrev VK:=V->Hp->Prop
abbrev TE:=St->Hp->VK->Prop
abbrev TT:=St->Hp->(Bool->Hp->Prop)->Prop
abbrev TA:=St->Hp->(List V->Hp->Prop)->Prop
structure dB where
 nx:St->Hp->Prop
 rt:VK
 bk:St->Hp->Prop:=fun _ _=>False
 ct:St->Hp->Prop:=fun _ _=>False
abbrev TS:=dB->St->Hp->Prop
def EP (X:Cx) (pins:List (Addr × Obj)) (σ:St) (Q:VK) (u:Value) (s':Shared):Prop:=∃ v H',a8 X pins σ H' s'/\aR v u/\Q v H'
def TP (X:Cx) (pins:List (Addr × Obj)) (σ:St) (Q:Bool->Hp->Prop) (b:Bool) (s':Shared):Prop:=∃ H',a8 X pins σ H' s'/\Q b H'
def AP (X:Cx) (pins:List (Addr × Obj)) (σ:St) (Q:List V->Hp->Prop) (us:List Value) (s':Shared):Prop:=∃ vs H',a8 X pins σ H' s'/\aK vs us/\Q vs H'
def SP (X:Cx) (pins:List (Addr × Obj)) (D:dB) (f:Flow) (s':Shared):Prop:=
 match f with
 | .next=>∃ σ' H',a8 X pins σ' H' s'/\D.nx σ' H'
 | .brk=>∃ σ' H',a8 X pins σ' H' s'/\D.bk σ' H'
 | .cont=>∃ σ' H',a8 X pins σ' H' s'/\D.ct σ' H'
 | .ret u=>∃ v σ' H',a8 X pins σ' H' s'/\aR v u/\D.rt v H'
def PE (X:Cx) (e:Expr) (t:TE):Prop:=
 ∀ (pins:List (Addr × Obj)) (s:Shared) (σ:St) (H:Hp) (Q:VK),a8 X pins σ H s->t σ H Q->wpAny (model X.prog X.w) X.A (eval e X.env) (EP X pins σ Q) X.xe s
def PT (X:Cx) (e:Expr) (t:TT):Prop:=
 ∀ (pins:List (Addr × Obj)) (s:Shared) (σ:St) (H:Hp) (Q:Bool->Hp->Prop),a8 X pins σ H s->t σ H Q->wpAny (model X.prog X.w) X.A (isTrue e X.env (eval e X.env)) (TP X pins σ Q) X.xe s
def PW (X:Cx) (e:Expr) (t:TT):Prop:=
 ∀ (whole:Sem Value) (pins:List (Addr × Obj)) (s:Shared) (σ:St) (H:Hp) (Q:Bool->Hp->Prop),a8 X pins σ H s->t σ H Q->wpAny (model X.prog X.w) X.A (isTrue e X.env whole) (TP X pins σ Q) X.xe s
theorem PW.pt {X:Cx}{e:Expr}{t:TT} (h:PW X e t):PT X e t:=h _
def PA (X:Cx) (es:List Expr) (t:TA):Prop:=
 ∀ (pos:Pos) (pins:List (Addr × Obj)) (s:Shared) (σ:St) (H:Hp) (Q:List V->Hp->Prop),a8 X pins σ H s->t σ H Q->wpAny (model X.prog X.w) X.A (spliced (backTo pos (starEach es X.env))) (AP X pins σ Q) X.xe s
def PS (X:Cx) (st:Stmt) (t:TS):Prop:=
 ∀ (pins:List (Addr × Obj)) (s:Shared) (σ:St) (H:Hp) (D:dB),a8 X pins σ H s->t D σ H->wpAny (model X.prog X.w) X.A (exec st X.env) (SP X pins D) X.xe s
def dE (X:Cx) (st:List Stmt) (t:TS):Prop:=
 ∀ (pins:List (Addr × Obj)) (s:Shared) (σ:St) (H:Hp) (D:dB),a8 X pins σ H s->t D σ H->wpAny (model X.prog X.w) X.A (execs st X.env) (SP X pins D) X.xe s
theorem aQ {α:Type}{t:Sem α}{Q Q':α->Shared->Prop}{M:Model}{A:Around}{E:Value->Shared->Prop}{s:Shared} (h:wpAny M A t Q E s) (hQ:∀ a s,Q a s->Q' a s):wpAny M A t Q' E s:=aY1 h hQ fun _ _ x=>x
section
variable {X : Cx}
theorem bin {a b:Expr}{ta tb:TE} (ha:PE X a ta) (hb:PE X b tb) {pins:List (Addr × Obj)}{s:Shared}{σ:St}{H:Hp}{R:V->V->Hp->Prop} (I:a8 X pins σ H s) (h:ta σ H fun x H1=>tb σ H1 fun y H2=>R x y H2)
  {α:Type}{Q:α->Shared->Prop}{f:Value->Value->Sem α}
  (hf:∀ v u s2 x y H2,a8 X pins σ H2 s2->aR x v->aR y u->R x y H2->wpAny (model X.prog X.w) X.A (f v u) Q X.xe s2) :
  wpAny (model X.prog X.w) X.A (eval a X.env) (fun v s₁=>wpAny (model X.prog X.w) X.A (eval b X.env) (fun u s₂=>wpAny (model X.prog X.w) X.A (f v u) Q X.xe s₂) X.xe s₁) X.xe s:=by
 refine aQ (ha pins s σ H _ I h) fun v s1 ⟨x,H1,I1,r1,q1⟩=>?_
 refine aQ (hb pins s1 σ H1 _ I1 q1) fun u s2 ⟨y,H2,I2,r2,q2⟩=>?_
 exact hf v u s2 x y H2 I2 r1 r2 q2
def jK (i:Nat):TE:=fun σ H Q=>∃ v,σ[i]? = some (some v)/\Q v H
def tC (v:V):TE:=fun _ H Q=>Q v H
theorem kN {i:Nat}{x:Str}{pos:Pos} (hN:X.N[i]? = some x) (hv:iA X.env.scope x) (hd:(x == ("__debug__" : Str))=false:=by decide) (hcd:(x == ("__classdict__" : Str))=false:=by decide):PE X (.Name x pos) (jK i):=by
 intro pins s σ H Q I h
 obtain ⟨v,e,h⟩:=h
 obtain ⟨m,hn,hl⟩:=I.loc
 obtain ⟨u,r,l⟩:=hl i x v hN e hv
 have fin:EP X pins σ Q u s:=⟨v,H,I,r,h⟩
 rcases l with ⟨hk,hm⟩ | ⟨hk,c,hc,hcell⟩
 ·exact wpAny_Name (wpAny_loadName_local I.ok.kind hk hn hm fin) hd
 ·rcases hk with hk | hk
  ·exact wpAny_Name (wpAny_loadName_cell I.ok.kind hk hc hcell fin) hd
  ·exact wpAny_Name (wpAny_loadName_free I.ok.kind hk hc hcell fin hcd) hd
theorem X0 {i j pos}:PE X (.Constant (.int i) j pos) (tC (.int i)):=fun _ _ _ H _ I h=>wpAny_Constant_int ⟨.int i,H,I.tok _,⟨_,rfl⟩,h⟩
theorem X1 {b j pos}:PE X (.Constant (.bool b) j pos) (tC (.bl b)):=fun _ _ _ H _ I h=>Constant_bool ⟨.bl b,H,I,rfl,h⟩
theorem X2 {j pos}:PE X (.Constant .none j pos) (tC .non):=fun _ _ _ H _ I h=>Constant_none ⟨.non,H,I,rfl,h⟩
theorem X3 {x j pos}:PE X (.Constant (.str x) j pos) (tC (.str x)):=fun _ _ _ H _ I h=>Calls.Constant_str ⟨.str x,H,I.tok _,⟨_,rfl⟩,h⟩
def Gl (X:Cx) (x:Str):Prop:=X.env.kindOf x=some .globalImplicit
theorem rR {E:Value->Shared->Prop}{pins:List (Addr × Obj)}{s:Shared}{σ:St}{H:Hp}{x:Str}{u:Value}{pos:Pos}{Q:Value->Shared->Prop} (I:a8 X pins σ H s) (hg:Gl X x) (hm:X.mg x=some u) (h:Q u s)
  (hd:(x == ("__debug__" : Str))=false:=by decide):wpAny (model X.prog X.w) X.A (eval (.Name x pos) X.env) Q E s:=
 Calls.Name_function_global I.ok.kind hg (Calls.loadGlobal_global (by rw [I.ok.glob]; exact I.mod.glob.keeps I.bk) hm h) hd
theorem kO {E:Value->Shared->Prop}{pins:List (Addr × Obj)}{s:Shared}{σ:St}{H:Hp}{x:Str}{u:Value}{pos:Pos}{Q:Value->Shared->Prop} (I:a8 X pins σ H s) (hg:Gl X x) (hm:X.mg x=none) (hv:bootBuiltins x=some u) (h:Q u s)
  (hn:x ≠ "__name__":=by decide) (hd:(x == ("__debug__" : Str))=false:=by decide):wpAny (model X.prog X.w) X.A (eval (.Name x pos) X.env) Q E s:=by
 obtain ⟨mb,h1,h2⟩:=I.mod.blt
 exact Calls.Name_function_global I.ok.kind hg (Calls.loadGlobal_builtin (by rw [I.ok.glob]; exact I.mod.glob.keeps I.bk) hm (by rw [I.ok.blt]; exact h1.keeps I.bk) ((h2 x hn).trans hv) h) hd
theorem X4 {x:Str}{v:V}{u:Value}{pos:Pos} (hg:Gl X x) (hm:X.mg x=some u) (r:aR v u) (hd:(x == ("__debug__" : Str))=false:=by decide):PE X (.Name x pos) (tC v):=
 fun _ _ _ H _ I h=>rR I hg hm ⟨v,H,I,r,h⟩ hd
theorem X5 {x:Str}{v:V}{u:Value}{pos:Pos} (hg:Gl X x) (hm:X.mg x=none) (hv:bootBuiltins x=some u) (r:aR v u) (hn:x ≠ "__name__":=by decide) (hd:(x == ("__debug__" : Str))=false:=by decide):PE X (.Name x pos) (tC v):=
 fun _ _ _ H _ I h=>kO I hg hm hv ⟨v,H,I,r,h⟩ hn hd
variable {a b : Expr} {ta tb : TE} {pos : Pos}
def PC (X:Cx) (op:CmpOp) (a b:Expr) (t:TE):Prop:=
 ∀ (pins:List (Addr × Obj)) (s:Shared) (σ:St) (H:Hp) (Q:VK),a8 X pins σ H s->t σ H Q->
  wpAny (model X.prog X.w) X.A (eval a X.env) (fun v s₁=>wpAny (model X.prog X.w) X.A (eval b X.env) (fun u s₂=>wpAny (model X.prog X.w) X.A (compareOp op v u) (EP X pins σ Q) X.xe s₂) X.xe s₁) X.xe s
def tB (t:TE):TT:=fun σ H Q=>t σ H fun x H1=>∃ c,x = .bl c/\Q c H1
theorem X6 {op:CmpOp}{t:TE} (h:PC X op a b t) (h1:behindInMarks op b=false:=by first | exact nobehind _ (by decide) (by decide) | rfl):PT X (.Compare a [op] [b] pos) (tB t):=by
 intro pins s σ H Q I hw
 refine wpAny_isTrue_Compare1 (aQ (h pins s σ H _ I hw) fun v s1 h1=>aQ h1 fun u s2 h2=>aQ h2 fun c s3 ⟨x,H1,I1,r1,q1⟩=>?_) h1
 obtain ⟨d,rfl,q⟩:=q1
 cases r1
 exact aY5 ⟨H1,I1,q⟩
theorem X7 {e:Expr}{t:TE} (h:PE X e t) (he:∀ whole,isTrue e X.env whole=(do let v <- whole; standAt e.pos; holding [v] (truthy v)):=by intro _; rfl):PT X e (tB t):=by
 intro pins s σ H Q I hw
 refine isTrue_plain (aQ (h pins s σ H _ I hw) fun v s1 ⟨x,H1,I1,r1,q1⟩=>?_) (he _)
 obtain ⟨d,rfl,q⟩:=q1
 cases r1
 exact aY5 ⟨H1,I1,q⟩
variable {tA tB' : TT} {cB : List Expr}
def w6 (t u:TT):TT:=fun σ H Q=>t σ H fun c H1=>if c=true then u σ H1 Q else Q false H1
def w9 (t u:TT):TT:=fun σ H Q=>t σ H fun c H1=>if c=true then Q true H1 else u σ H1 Q
def wA (t:TT):TT:=fun σ H Q=>t σ H fun c H1=>Q (!c) H1
theorem X8 (ha:PT X a tA):PW X (.BoolOp .And [a] pos) tA:=by
 intro wh pins s σ H Q I h
 refine isTrue_and (aQ (ha pins s σ H Q I h) fun c s1 e=>?_)
 cases c with
 | true=>exact isTrue_and_nil e
 | false=>exact e
theorem X9 (ha:PT X a tA):PW X (.BoolOp .Or [a] pos) tA:=by
 intro wh pins s σ H Q I h
 refine isTrue_or (aQ (ha pins s σ H Q I h) fun c s1 e=>?_)
 cases c with
 | false=>exact isTrue_or_nil e
 | true=>exact e
theorem Y0 (ha:PT X a tA) (hb:PW X (.BoolOp .And (b :: cB) pos) tB'):PW X (.BoolOp .And (a :: b :: cB) pos) (w6 tA tB'):=by
 intro wh pins s σ H Q I h
 refine isTrue_and (aQ (ha pins s σ H _ I h) fun c s1 ⟨H1,I1,q1⟩=>?_)
 cases c with
 | true=>exact hb wh pins s1 σ H1 Q I1 q1
 | false=>exact⟨H1,I1,q1⟩
theorem Y1 (ha:PT X a tA) (hb:PW X (.BoolOp .Or (b :: cB) pos) tB'):PW X (.BoolOp .Or (a :: b :: cB) pos) (w9 tA tB'):=by
 intro wh pins s σ H Q I h
 refine isTrue_or (aQ (ha pins s σ H _ I h) fun c s1 ⟨H1,I1,q1⟩=>?_)
 cases c with
 | true=>exact⟨H1,I1,q1⟩
 | false=>exact hb wh pins s1 σ H1 Q I1 q1
theorem Y2 (ha:PT X a tA):PT X (.UnaryOp .Not a pos) (wA tA):=by
 intro pins s σ H Q I h
 exact isTrue_not (ha pins s σ H (fun c H1=>Q (!c) H1) I h)
def wB (ta tb:TE):TE:=fun σ H Q=>ta σ H fun x H1=>∃ c,x = .bl c/\if c=true then tb σ H1 Q else Q (.bl false) H1
def wC (ta:TE):TE:=fun σ H Q=>ta σ H fun x H1=>∃ c,x = .bl c/\Q (.bl (!c)) H1
theorem Y3 {op}{t:TE} (h:PE X a t):PE X (.BoolOp op [a] pos) t:=fun pins s σ H Q I hw=>BoolOp_one (h pins s σ H Q I hw)
theorem Y4 (ha:PE X a ta) (hb:PE X (.BoolOp .And (b :: cB) pos) tb):PE X (.BoolOp .And (a :: b :: cB) pos) (wB ta tb):=by
 intro pins s σ H Q I h
 refine BoolOp_and (aQ (ha pins s σ H _ I h) fun v s1 ⟨x,H1,I1,r1,q1⟩=>?_)
 obtain ⟨c,rfl,q1⟩:=q1
 cases r1
 refine aY5 ?_
 cases c with
 | true=>exact hb pins s1 σ H1 Q I1 q1
 | false=>exact⟨.bl false,H1,I1,rfl,q1⟩
theorem Y5 (ha:PE X a ta):PE X (.UnaryOp .Not a pos) (wC ta):=by
 intro pins s σ H Q I h
 refine UnaryOp_ (aQ (ha pins s σ H _ I h) fun v s1 ⟨x,H1,I1,r1,q1⟩=>?_)
 obtain ⟨c,rfl,q1⟩:=q1
 cases r1
 exact not_of (aY5 ⟨.bl (!c),H1,I1,rfl,q1⟩)
end
def aM (K:PySem.W.Frag) (H:Hp) (a:Addr) (xs:List V):Prop:=
 Rd H a (.lst xs) ∨
  ∃ (o:Obj) (its:Array Value) (n:Nat),K.lookup a=some o/\o.cls = .type "list"/\o.dict=none/\o.data = .seq its n/\its.size<=sizeLine/\aK xs its.toList
def aL (K:PySem.W.Frag) (H:Hp) (a:Addr) (xs:List V):Prop:=
 Rd H a (.tup xs) ∨
  ∃ (o:Obj) (its:Array Value) (n:Nat),K.lookup a=some o/\o.cls = .type "tuple"/\o.data = .seq its n/\its.size<=sizeLine/\aK xs its.toList
def Y6:Value->Option V
 | .none=>some .non
 | .bool b=>some (.bl b)
 | .int i _=>some (.int i)
 | .str x _=>some (.str x)
 | .bytes b _=>some (.byt b)
 | .float b _=>some (.flt b)
 | .ref a=>some (.ref a)
 | .type n=>some (.ty n)
 | _=>none
theorem aR.abs {x:V}{u:Value} (r:aR x u):Y6 u=some x:=by
 cases x with
 | non=>cases r; rfl
 | bl _=>cases r; rfl
 | int _=>obtain ⟨t,rfl⟩:=r; rfl
 | str _=>obtain ⟨t,rfl⟩:=r; rfl
 | byt _=>obtain ⟨t,rfl⟩:=r; rfl
 | flt _=>obtain ⟨t,rfl⟩:=r; rfl
 | ref _=>cases r; rfl
 | ty _=>cases r; rfl
theorem aR.inj {x y:V}{u:Value} (r:aR x u) (q:aR y u):x=y:=aQ0 (r.abs.symm.trans q.abs)
theorem aK.inj:∀ {xs ys:List V}{us:List Value},aK xs us->aK ys us->xs=ys
 | _,_,_,.nil,.nil=>rfl
 | _,_,_,.cons r t,.cons r' t'=>by rw [r.inj r',aK.inj t t']
section
variable {X : Cx} {pins : List (Addr × Obj)} {σ : St} {H : Hp} {s : Shared} {a : Addr} {xs ys : List V}
theorem aM.of {K:PySem.W.Frag} (h:H a=some (.lst xs)):aM K H a xs:=.inl (.inl h)
theorem aL.of {K:PySem.W.Frag} (h:H a=some (.tup xs)):aL K H a xs:=.inl (.inl h)
theorem a8.list (I:a8 X pins σ H s) (h:aM X.K H a xs):∃ its:List Value,aK xs its/\PlainL s.heap a its.toArray/\xs.length<=sizeLine:=by
 rcases h with h | ⟨o,its,n,hk,hc,hd,hs,hz,r⟩
 ·obtain ⟨z,its,n,r,e⟩:=h.ok I.hok
  exact⟨its,r,⟨_,n,e,rfl,rfl,rfl⟩,z⟩
 ·refine⟨its.toList,r,⟨o,n,I.kIn a o hk,hc,hd,by simpa using hs⟩,?_⟩
  have e:=r.length
  simp only [aS0] at e
  omega
theorem a8.tuple (I:a8 X pins σ H s) (h:aL X.K H a xs):∃ its:List Value,aK xs its/\IsTup s.heap a its.toArray/\xs.length<=sizeLine:=by
 rcases h with h | ⟨o,its,n,hk,hc,hs,hz,r⟩
 ·obtain ⟨z,its,r,p,_⟩:=h.ok I.hok
  exact⟨its,r,p,z⟩
 ·refine⟨its.toList,r,⟨o,I.kIn a o hk,hc,n,by simpa using hs⟩,?_⟩
  have e:=r.length
  simp only [aS0] at e
  omega
theorem a8.list_inj (I:a8 X pins σ H s) (h:aM X.K H a xs) (h':aM X.K H a ys):xs=ys:=by
 obtain ⟨its,r,⟨o,n,e,_,_,d⟩,_⟩:=I.list h
 obtain ⟨its',r',⟨o',n',e',_,_,d'⟩,_⟩:=I.list h'
 rw [e] at e'; cases e'
 rw [d] at d'
 injection d' with d1 _
 have:its=its':=by simpa using congrArg Array.toList d1
 subst this
 exact r.inj r'
theorem a8.tuple_inj (I:a8 X pins σ H s) (h:aL X.K H a xs) (h':aL X.K H a ys):xs=ys:=by
 obtain ⟨its,r,⟨o,e,_,n,d⟩,_⟩:=I.tuple h
 obtain ⟨its',r',⟨o',e',_,n',d'⟩,_⟩:=I.tuple h'
 rw [e] at e'; cases e'
 rw [d] at d'
 injection d' with d1 _
 have:its=its':=by simpa using congrArg Array.toList d1
 subst this
 exact r.inj r'
end
abbrev Cx.wish (X:Cx) (E:Value->Shared->Prop):Cx:={ X with xe:=E }
abbrev Cx.nox (X:Cx):Cx:=X.wish fun _ _=>False
theorem Cx.Ok.wish {X:Cx} (ok:X.Ok) (E:Value->Shared->Prop):(X.wish E).Ok:=
 ⟨ok.mod,ok.kind,ok.glob,ok.blt,ok.above,ok.inj,ok.has,ok.cab,ok.hd,ok.frames,ok.stk,ok.exf,ok.bs,ok.bsz,ok.noex,ok.exfs,ok.funs,ok.frf⟩
theorem Cx.Ok.unwish {X:Cx}{E:Value->Shared->Prop} (ok:(X.wish E).Ok):X.Ok:=
 ⟨ok.mod,ok.kind,ok.glob,ok.blt,ok.above,ok.inj,ok.has,ok.cab,ok.hd,ok.frames,ok.stk,ok.exf,ok.bs,ok.bsz,ok.noex,ok.exfs,ok.funs,ok.frf⟩
section
variable {X : Cx} {pins : List (Addr × Obj)} {σ : St} {H : Hp} {s : Shared} {E : Value → Shared → Prop}
theorem a8.wish (I:a8 X pins σ H s) (E:Value->Shared->Prop):a8 (X.wish E) pins σ H s:=⟨I.ok.wish E,I.os,I.bare,I.base,I.loc,I.cell,I.free,I.freeC,I.pin,I.hok,I.len⟩
theorem a8.unwish (I:a8 (X.wish E) pins σ H s):a8 X pins σ H s:=⟨I.ok.unwish,I.os,I.bare,I.base,I.loc,I.cell,I.free,I.freeC,I.pin,I.hok,I.len⟩
theorem SP.unwish {D:dB}{f:Flow}{s':Shared} (h:SP (X.wish E) pins D f s'):SP X pins D f s':=by
 cases f with
 | next=>obtain ⟨σ',H',I,q⟩:=h; exact⟨σ',H',I.unwish,q⟩
 | brk=>obtain ⟨σ',H',I,q⟩:=h; exact⟨σ',H',I.unwish,q⟩
 | cont=>obtain ⟨σ',H',I,q⟩:=h; exact⟨σ',H',I.unwish,q⟩
 | ret u=>obtain ⟨v,σ',H',I,r,q⟩:=h; exact⟨v,σ',H',I.unwish,r,q⟩
theorem dE.nox {st:List Stmt}{t:TS} (h:dE X.nox st t):dE X st t:=fun pins s σ H D I hw=>
 aY1 (h pins s σ H D (I.wish _) hw) (fun _ _ q=>q.unwish) fun _ _ z=>False.elim z
end
section
variable {X : Cx} {st : Stmt} {cB : List Stmt} {t u : TS} {e : Expr} {te : TE} {pos : Pos}
def wD:TS:=fun D σ H=>D.nx σ H
def wE (t u:TS):TS:=fun D σ H=>t { D with nx:=u D } σ H
theorem Y7:dE X [] wD:=fun _ _ σ H _ I h=>wpAny_execs_nil ⟨σ,H,I,h⟩
theorem Y8 (h1:PS X st t) (h2:dE X cB u):dE X (st :: cB) (wE t u):=by
 intro pins s σ H D I h
 refine wpAny_execs_cons (aQ (h1 pins s σ H { D with nx:=u D } I h) fun f s1 q=>?_)
 cases f with
 | next=>
  obtain ⟨σ',H',I',q⟩:=q
  exact h2 pins s1 σ' H' D I' q
 | ret v=>exact q
 | brk=>exact q
 | cont=>exact q
theorem Y9 (h1:PS X st t):dE X [st] t:=by
 intro pins s σ H D I h
 refine wpAny_execs_cons (aQ (h1 pins s σ H D I h) fun f s1 q=>?_)
 cases f with
 | next=>exact wpAny_execs_nil q
 | ret v=>exact q
 | brk=>exact q
 | cont=>exact q
theorem a8.quiet {pins:List (Addr × Obj)}{σ:St}{H:Hp}{s:Shared} (I:a8 X pins σ H s):interactive X.env=false:=by simp [interactive,I.ok.kind]
def kQ (te:TE):TS:=fun D σ H=>te σ H fun _ H1=>D.nx σ H1
theorem m9 (he:PE X e te) (hs:swapsWith e none pos.line X.env=pure false:=by rfl):PS X (.Expr e pos) (kQ te):=by
 intro pins s σ H D I h
 exact wpAny_Expr_any (aQ (he pins s σ H _ I h) fun v s1 ⟨x,H1,I1,r1,q1⟩=>⟨σ,H1,I1,q1⟩) I.quiet hs
def rS (te:TE):TS:=fun D σ H=>te σ H D.rt
theorem wF (he:PE X e te):PS X (.Return (some e) pos) (rS te):=by
 intro pins s σ H D I h
 exact wpAny_Return_some (aQ (he pins s σ H _ I h) fun v s1 ⟨x,H1,I1,r1,q1⟩=>⟨x,σ,H1,I1,r1,q1⟩)
def wG (c:TT) (t u:TS):TS:=fun D σ H=>c σ H fun b H1=>if b=true then t D σ H1 else u D σ H1
theorem Z0 {c:Expr}{a b:List Stmt}{tc:TT} (hc:PT X c tc) (ha:dE X a t) (hb:dE X b u):PS X (.If c a b pos) (wG tc t u):=by
 intro pins s σ H D I h
 refine wpAny_If (aQ (hc pins s σ H _ I h) fun d s1 ⟨H1,I1,q1⟩=>?_)
 cases d with
 | true=>exact ha pins s1 σ H1 D I1 q1
 | false=>exact hb pins s1 σ H1 D I1 q1
end
abbrev TG:=V->St->Hp->(St->Hp->Prop)->Prop
abbrev jL:=List V->St->Hp->(St->Hp->Prop)->Prop
def PG (X:Cx) (target:Expr) (t:TG):Prop:=
 ∀ (pins:List (Addr × Obj)) (s:Shared) (σ:St) (H:Hp) (v:V) (u:Value) (Q:St->Hp->Prop),a8 X pins σ H s->aR v u->t v σ H Q->
  wpAny (model X.prog X.w) X.A (assign target X.env u) (fun _ s'=>∃ σ' H',a8 X pins σ' H' s'/\Q σ' H') X.xe s
def oC (X:Cx) (ts:List Expr) (t:jL):Prop:=
 ∀ (pins:List (Addr × Obj)) (s:Shared) (σ:St) (H:Hp) (vs:List V) (us:List Value) (Q:St->Hp->Prop),a8 X pins σ H s->aK vs us->t vs σ H Q->
  wpAny (model X.prog X.w) X.A (assignInOrder ((assignEach ts X.env).map (·.2)) us) (fun _ s'=>∃ σ' H',a8 X pins σ' H' s'/\Q σ' H') X.xe s
section
variable {X : Cx} {pos : Pos}
def e9 (i:Nat):TG:=fun v σ H Q=>Q (σ.set i (some v)) H
theorem iY {i:Nat}{x:Str} (hN:X.N.Nodup) (hi:X.N[i]? = some x) (hx:gD X.env.scope x) (hf:X.fn x=true ∨ X.env.scope.names.lookup x=some .local:=by first | exact .inl rfl | exact .inr rfl | assumption):PG X (.Name x pos) (e9 i):=by
 intro pins s σ H v u Q I r h
 exact wpAny_assign_Name (w5 I hN hi hx r (fun s' I'=>⟨_,H,I',h⟩) hf)
def mB:jL:=fun vs σ H Q=>vs = []/\Q σ H
def iB (t:TG) (u:jL):jL:=fun vs σ H Q=>∃ v r,vs=v :: r/\t v σ H fun σ' H'=>u r σ' H' Q
theorem rT:oC X [] mB:=by
 intro pins s σ H vs us Q I r h
 obtain ⟨e,h⟩:=h
 subst e
 cases r
 exact assignInOrder_nil ⟨σ,H,I,h⟩
theorem kR {e:Expr}{es:List Expr}{t:TG}{u:jL} (h1:PG X e t) (h2:oC X es u)
  (hs:(assignEach (e :: es) X.env).map (·.2)=assign e X.env :: (assignEach es X.env).map (·.2):=by rfl):oC X (e :: es) (iB t u):=by
 intro pins s σ H vs us Q I r h
 obtain ⟨v,vr,e1,h⟩:=h
 subst e1
 cases r with
 | cons r rr=>
  rw [hs]
  refine assignInOrder_cons (aQ (h1 pins s σ H _ _ _ I r h) fun _ s1 ⟨σ1,H1,I1,q1⟩=>?_)
  exact h2 pins s1 σ1 H1 _ _ Q I1 rr q1
def mC (K:PySem.W.Frag) (n:Nat) (t:jL):TG:=fun v σ H Q=>∃ a xs,v = .ref a/\aL K H a xs/\xs.length=n/\t xs σ H Q
theorem rU {es:List Expr}{k:Nat}{t:jL}{n:Nat} (hc:X.calm=true) (h:oC X es t)
  (hn:(assignEach es X.env).length=n:=by rfl) (hst:(assignEach es X.env).findIdx? (·.1)=none:=by rfl):PG X (.Tuple es k pos) (mC X.K n t):=by
 intro pins s σ H v u Q I r hw
 obtain ⟨a,xs,e1,hq,hl,hw⟩:=hw
 subst e1
 cases r
 obtain ⟨its,rv,ht,hz⟩:=I.tuple hq
 refine assign_Tuple_tuple (I.ok.hd hc) ht (by simp [hn,<- hl,rv.length]) hst fun h' hx=>?_
 have I1:a8 X pins σ H { s with heap:=h' }:=I.kept (t':=s.toks) fun b o e=>hx b o (aQ6 (aO8 e)) e
 exact h pins _ σ H xs _ Q I1 (by simpa using rv) hw
def mD (te:TE) (g:TG):TS:=fun D σ H=>te σ H fun x H1=>g x σ H1 D.nx
theorem Z1 {tg e:Expr}{te:TE}{g:TG} (he:PE X e te) (hg:PG X tg g) (hs:swapsWithSole [tg] e pos.line X.env=pure false:=by rfl) (hw:swappedStores [tg] e X.env=pure none:=by rfl)
  (h1:(assignEach [tg] X.env).map (·.2) = [assign tg X.env]:=by rfl):PS X (.Assign [tg] e pos) (mD te g):=by
 intro pins s σ H D I h
 refine wpAny_Assign_stores (aQ (he pins s σ H _ I h) fun v s1 ⟨x,H1,I1,r1,q1⟩=>?_) hs hw
 rw [h1]
 exact aQ (hg pins s1 σ H1 x v _ I1 r1 q1) fun _ s2 q=>q
theorem wH {i:Nat}{x:Str}{e:Expr}{te:TE}{pos':Pos} (hN:X.N.Nodup) (hi:X.N[i]? = some x) (hx:gD X.env.scope x) (he:PE X e te) (hs:swapsWith e (some (.Name x pos')) pos.line X.env=pure false:=by rfl) (hf:X.fn x=true ∨ X.env.scope.names.lookup x=some .local:=by first | exact .inl rfl | exact .inr rfl | assumption) :
  PS X (.Assign [.Name x pos'] e pos) (mD te (e9 i)):=by
 intro pins s σ H D I h
 refine wpAny_Assign_Name (aQ (he pins s σ H _ I h) fun v s1 ⟨y,H1,I1,r1,q1⟩=>?_) hs
 exact w5 I1 hN hi hx r1 (fun s2 I2=>⟨_,H1,I2,q1⟩) hf
end
section
variable {X : Cx} {pos : Pos}
def wI (c:TT) (tb:TS):TS:=fun D σ H=>∃ W:Nat->St->Hp->Prop,(∃ m,W m σ H)/\∀ m σ H,W m σ H->
 c σ H fun b H1=>if b=true then ∃ N:St->Hp->Prop,(∀ σ' H',N σ' H'->∃ m',m' < m/\W m' σ' H')/\tb { D with nx:=N,ct:=N,bk:=D.nx } σ H1 else D.nx σ H1
theorem Z2 {c:Expr}{body:List Stmt}{tc:TT}{tb:TS} (hp:PassesOwn (model X.prog X.w) X.A X.env X.xe) (hc:PT X c tc) (hb:dE X body tb):PS X (.While c body [] pos) (wI tc tb):=by
 intro pins s σ H D I h
 obtain ⟨W,⟨m0,w0⟩,turn⟩:=h
 refine wpAny_While (codeAny_whileLoop (fun n s'=>∃ σ' H',a8 X pins σ' H' s'/\W n σ' H') ?_ m0 ⟨σ,H,I,w0⟩)
 rintro n s1 ⟨σ1,H1,I1,w1⟩
 refine bb8 hp (aQ (hc pins s1 σ1 H1 _ I1 (turn n σ1 H1 w1)) fun b s2 ⟨H2,I2,q2⟩=>?_)
 cases b with
 | true=>
  obtain ⟨N,hN,q2⟩:=q2
  rw [if_pos rfl]
  refine bb8 hp (aQ (hb pins s2 σ1 H2 _ I2 q2) fun f s3 q3=>?_)
  cases f with
  | next=>
   obtain ⟨σ3,H3,I3,n3⟩:=q3
   obtain ⟨m',hm,w3⟩:=hN σ3 H3 n3
   exact⟨m',hm,σ3,H3,I3,w3⟩
  | cont=>
   obtain ⟨σ3,H3,I3,n3⟩:=q3
   obtain ⟨m',hm,w3⟩:=hN σ3 H3 n3
   exact⟨m',hm,σ3,H3,I3,w3⟩
  | brk=>exact q3
  | ret v=>exact q3
 | false=>
  rw [if_neg aP9]
  exact wpAny_execs_nil ⟨σ1,H2,I2,q2⟩
end
structure It where
 go:Nat->Hp->Prop
 yld:Nat->Hp->V->Hp->Prop
 stop:Nat->Hp->Prop
def fB (X:Cx) (pins:List (Addr × Obj)) (H:Hp) (b:Addr):Prop:=
 H b=none/\b ≠ X.env.locals/\b ∉ X.fs/\(b ∈ X.ex ∨ X.s₀.heap.objs.size<=b)/\(∀ x c,X.env.cells.lookup x=some c->c ≠ b)/\∀ p ∈ X.pn ++ pins,p.1 ≠ b
theorem a8.fpOk {X:Cx}{pins:List (Addr × Obj)}{σ:St}{H H':Hp}{s:Shared}{b:Addr} (I:a8 X pins σ H s) (hb:s.heap.objs.size<=b) (hn:H' b=none):fB X pins H' b:=by
 refine⟨hn,aW8 (aP5 I.lt hb),I.nofs hb,.inr (aQ7 I.sz hb),fun x c e z=>?_,fun p hp z=>?_⟩
 ·obtain ⟨v,q⟩:=I.cell x c e
  exact absurd (aP5 q.lt (by rw [z]; exact hb)) (aV4 _)
 ·exact absurd (aP5 (aO8 (I.pin p hp).1) (by rw [z]; exact hb)) (aV4 _)
structure gU (P:Program) (w:World) (K:PySem.W.Frag) (tg:Expr) (J:It) (fp:List Addr) (it:Addr) (tn:Nat->Heap->Prop):Prop where
 mem:it ∈ fp
 obj:∀ i h,tn i h->∀ b ∈ fp,∃ o,h.get? b=some o/\∀ v,o.data ≠ .cell v
 keep:∀ i h h',tn i h->(∀ b ∈ fp,∀ o,h.get? b=some o->h'.get? b=some o)->tn i h'
 item:∀ (X:Cx),X.prog=P->X.w=w->X.K=K->X.calm=true->∀ (i:Nat) (pins:List (Addr × Obj)) (s:Shared) (σ:St) (H:Hp) (E:Value->Shared->Prop),a8 X pins σ H s->(∀ b ∈ fp,fB X pins H b)->tn i s.heap->J.go i H->
  wpAny (model P w) X.A (pyNext (.ref it)) (fun r s1=>∃ u,r=some u/\
   wpAny (model P w) X.A (letOwnedTupleGo tg (.ref it) u) (fun _ s2=>∃ x H',a8 X pins σ H' s2/\aR x u/\J.yld i H x H'/\tn (i+1) s2.heap/\∀ b ∈ fp,H' b=none) E s1) E s
 done:∀ (X:Cx),X.prog=P->X.w=w->X.K=K->X.calm=true->∀ (i:Nat) (pins:List (Addr × Obj)) (s:Shared) (σ:St) (H:Hp) (E:Value->Shared->Prop),a8 X pins σ H s->(∀ b ∈ fp,fB X pins H b)->tn i s.heap->J.stop i H->
  wpAny (model P w) X.A (pyNext (.ref it)) (fun r s1=>r=none/\a8 X pins σ H s1) E s
 self:∀ (A:Around) (i:Nat) (s:Shared) (Q:Value->Shared->Prop) (E:Value->Shared->Prop),tn i s.heap->Q (.ref it) s->wpAny (model P w) A (pyIter (.ref it)) Q E s
abbrev TI:=St->Hp->(It->Hp->Prop)->Prop
def wJ (X:Cx) (pins:List (Addr × Obj)) (σ:St) (tg:Expr) (R:It->Hp->Prop) (itv:Value) (s2:Shared):Prop:=
 ∃ (it:Addr) (fp:List Addr) (tn:Nat->Heap->Prop) (J:It) (H':Hp),itv = .ref it/\a8 X pins σ H' s2/\gU X.prog X.w X.K tg J fp it tn/\tn 0 s2.heap/\(∀ b ∈ fp,fB X pins H' b)/\R J H'
def PI (X:Cx) (tg iter:Expr) (wi:TI):Prop:=
 ∀ (pins:List (Addr × Obj)) (s:Shared) (σ:St) (H:Hp) (R:It->Hp->Prop),a8 X pins σ H s->wi σ H R->
  wpAny (model X.prog X.w) X.A (eval iter X.env) (fun v s1=>wpAny (model X.prog X.w) X.A (pyIter v) (wJ X pins σ tg R) X.xe s1) X.xe s
theorem rV {M:Model}{A:Around}{E:Value->Shared->Prop}{s:Shared}{tg:Expr}{it:Addr}{u:Value}{o:Obj}{n:String}{vs:Array Value}{Q:Unit->Shared->Prop} (ho:s.heap.get? it=some o) (hc:o.cls = .type n) (hd:o.data = .fields vs)
    (hn : ["enumerate","zip","dict_itemiterator","dict_reverseitemiterator","odict_iterator","itertools.zip_longest","itertools.pairwise"].contains n=false) (hQ:Q () s):wpAny M A (letOwnedTupleGo tg (.ref it) u) Q E s:=by
  unfold letOwnedTupleGo
  cases tg <;> first
    | exact aN8 hQ
    | (cases u <;> first
        | exact aN8 hQ
        | (refine aN3 (wpAny_load ho ?_)
           rw [hc,hd]
           show wpAny M A (if (["enumerate","zip","dict_itemiterator","dict_reverseitemiterator","odict_iterator","itertools.zip_longest","itertools.pairwise"].contains n && vs[0]? == some (rawInt _))=true then _ else _) Q E s
           rw [if_neg (by intro h; rw [hn,bb0] at h; cases h)]
           exact aN8 hQ))
def rW (K:PySem.W.Frag) (a:Addr):It:=
 ⟨fun i H=>∃ xs x,aM K H a xs/\xs[i]? = some x,fun i H x H'=>H'=H/\∀ xs,aM K H a xs->xs[i]? = some x,fun i H=>∃ xs,aM K H a xs/\xs.length<=i⟩
def rX (K:PySem.W.Frag) (a:Addr):It:=
 ⟨fun i H=>∃ xs x,aL K H a xs/\xs[i]? = some x,fun i H x H'=>H'=H/\∀ xs,aL K H a xs->xs[i]? = some x,fun i H=>∃ xs,aL K H a xs/\xs.length<=i⟩
def oD (lo:Int) (n:Nat):It:=⟨fun i _=>i < n,fun i H x H'=>H'=H/\x = .int (lo+i),fun i _=>n<=i⟩
theorem Z3 {P:Program}{w:World}{K:PySem.W.Frag}{tg:Expr} (a it:Addr):gU P w K tg (rW K a) [it] it (fun i h=>h.IsListIter it a i) where
 mem:=by simp
 obj:=fun i h st b hb=>by
  have e:b=it:=by simpa using hb
  subst e
  obtain ⟨o,e,c,d⟩:=st
  exact⟨o,e,fun v z=>by rw [d] at z; cases z⟩
 keep:=fun i h h' st k=>st.at fun o e=>k it (by simp) o e
 item:=by
  intro X hP hw hK hc i pins s σ H E I hf st hg
  subst hP hw hK
  obtain ⟨xs,x,hq,hx⟩:=hg
  obtain ⟨its,rv,p,hz⟩:=I.list hq
  obtain ⟨u,hu,ru⟩:=rv.get hx
  obtain ⟨f0,f1,f2,f3,f4,f5⟩:=hf it (by simp)
  refine wpAny_pyNext_list_item st p.isList (x:=u) (by simpa using hu) fun h' st' sb=>?_
  have I1:a8 X pins σ H { s with heap:=h' }:=I.turned (t':=s.toks) (fun b o hb e=>(sb.2 b hb).trans e) f0 f1 f3 f4 f5
  obtain ⟨o,e,c,d⟩:=id st'
  exact⟨u,rfl,rV (s:={ s with heap:=h' }) e c d (by decide) ⟨x,H,I1,ru,⟨rfl,fun ys hy=>by rw [I.list_inj hy hq]; exact hx⟩,st',fun b hb=>(hf b hb).1⟩⟩
 done:=by
  intro X hP hw hK hc i pins s σ H E I hf st hg
  subst hP hw hK
  obtain ⟨xs,hq,hx⟩:=hg
  obtain ⟨its,rv,p,hz⟩:=I.list hq
  obtain ⟨f0,f1,f2,f3,f4,f5⟩:=hf it (by simp)
  have hl:=rv.length
  exact wpAny_pyNext_list_end (I.ok.hd hc) st p.isList (by simp; omega) fun h' eb=>⟨rfl,I.turned (t':=s.toks) (fun b o hb e=>eb b o hb e) f0 f1 f3 f4 f5⟩
 self:=fun _ _ _ _ _ st h=>wpAny_pyIter_listiter st h
theorem Z4 {P:Program}{w:World}{K:PySem.W.Frag}{tg:Expr} (a it:Addr):gU P w K tg (rX K a) [it] it (fun i h=>h.IsTupleIter it a i) where
 mem:=by simp
 obj:=fun i h st b hb=>by
  have e:b=it:=by simpa using hb
  subst e
  obtain ⟨o,e,c,d⟩:=st
  exact⟨o,e,fun v z=>by rw [d] at z; cases z⟩
 keep:=fun i h h' st k=>st.at fun o e=>k it (by simp) o e
 item:=by
  intro X hP hw hK hc i pins s σ H E I hf st hg
  subst hP hw hK
  obtain ⟨xs,x,hq,hx⟩:=hg
  obtain ⟨its,rv,p,hz⟩:=I.tuple hq
  obtain ⟨u,hu,ru⟩:=rv.get hx
  obtain ⟨f0,f1,f2,f3,f4,f5⟩:=hf it (by simp)
  refine wpAny_pyNext_tuple_item st (show s.heap.IsTuple a its.toArray from p) (x:=u) (by simpa using hu) fun h' st' sb=>?_
  have I1:a8 X pins σ H { s with heap:=h' }:=I.turned (t':=s.toks) (fun b o hb e=>(sb.2 b hb).trans e) f0 f1 f3 f4 f5
  obtain ⟨o,e,c,d⟩:=id st'
  exact⟨u,rfl,rV (s:={ s with heap:=h' }) e c d (by decide) ⟨x,H,I1,ru,⟨rfl,fun ys hy=>by rw [I.tuple_inj hy hq]; exact hx⟩,st',fun b hb=>(hf b hb).1⟩⟩
 done:=by
  intro X hP hw hK hc i pins s σ H E I hf st hg
  subst hP hw hK
  obtain ⟨xs,hq,hx⟩:=hg
  obtain ⟨its,rv,p,hz⟩:=I.tuple hq
  obtain ⟨f0,f1,f2,f3,f4,f5⟩:=hf it (by simp)
  have hl:=rv.length
  exact wpAny_pyNext_tuple_end (I.ok.hd hc) st (show s.heap.IsTuple a its.toArray from p) (by simp; omega) fun h' eb=>⟨rfl,I.turned (t':=s.toks) (fun b o hb e=>eb b o hb e) f0 f1 f3 f4 f5⟩
 self:=fun _ _ _ _ _ st h=>wpAny_pyIter_tupleiter st h
theorem Z5 {P:Program}{w:World}{K:PySem.W.Frag}{tg:Expr} (it:Addr) (lo:Int) (n:Nat):gU P w K tg (oD lo n) [it] it (fun i h=>IsRangeIter h it (lo+(i:Nat) * 1) ((n:Int) - (i:Nat)) 1) where
 mem:=by simp
 obj:=fun i h st b hb=>by
  have e:b=it:=by simpa using hb
  subst e
  exact⟨_,st,fun v z=>by
   have z':Data.fields _=Data.cell v:=z
   cases z'⟩
 keep:=fun i h h' st k=>k it (by simp) _ st
 item:=by
  intro X hP hw hK hc i pins s σ H E I hf st hg
  subst hP hw hK
  obtain ⟨f0,f1,f2,f3,f4,f5⟩:=hf it (by simp)
  have W:=Walks.range (prog:=X.prog) (w:=X.w) (I.ok.hd hc) it lo 1 n
  refine W.item i s _ _ hg st fun v h' tk hv st' kk=>?_
  obtain ⟨t,rfl⟩:=hv
  have I1:a8 X pins σ H { s with heap:=h',toks:=tk }:=I.turned (fun b o hb e=>kk b o (by simpa using hb) e) f0 f1 f3 f4 f5
  refine⟨_,rfl,rV (s:={ s with heap:=h',toks:=tk }) (n:="range_iterator") st' rfl rfl (by decide) ⟨.int (lo+i),H,I1,⟨t,?_⟩,⟨rfl,rfl⟩,st',fun b hb=>(hf b hb).1⟩⟩
  rw [Int.mul_one]
 done:=by
  intro X hP hw hK hc i pins s σ H E I hf st hg
  subst hP hw hK
  obtain ⟨f0,f1,f2,f3,f4,f5⟩:=hf it (by simp)
  exact wpAny_pyNext_range_end (I.ok.hd hc) st (by have:n<=i:=hg; omega) fun h' eb=>⟨rfl,I.turned (t':=s.toks) (fun b o hb e=>eb b o hb e) f0 f1 f3 f4 f5⟩
 self:=fun _ _ _ _ _ st h=>wpAny_pyIter_rangeiter st h
section
variable {X : Cx} {tg : Expr}
theorem Z6 {pins:List (Addr × Obj)}{σ:St}{H:Hp}{s:Shared}{R:It->Hp->Prop}{E:Value->Shared->Prop}{lo hi:Int}{t u v:Tok}{tk:Nat} (I:a8 X pins σ H s) (h1 : -(2 ^ 62)<=lo) (h2:lo < 2 ^ 62) (h3 : -(2 ^ 62)<=hi) (h4:hi < 2 ^ 62)
  (q:R (oD lo (hi - lo).toNat) H):wpAny (model X.prog X.w) X.A (pyIter (.ref s.heap.objs.size)) (wJ X pins σ tg R) E { s with heap:=s.heap.push { cls:=.type "range",data:=.fields #[.int lo t,.int hi u,.int 1 v] },toks:=tk }:=by
 refine wpAny_pyIter_range (IsRange.new ..) (small_one h1 h2 h3 h4) ?_
 have I1:a8 X pins σ H { s with heap:=s.heap.push { cls:=.type "range",data:=.fields #[.int lo t,.int hi u,.int 1 v] },toks:=tk }:=I.kept fun b o e=>aN5 _ e
 refine⟨(s.heap.push { cls:=.type "range",data:=.fields #[.int lo t,.int hi u,.int 1 v] }).objs.size,[(s.heap.push { cls:=.type "range",data:=.fields #[.int lo t,.int hi u,.int 1 v] }).objs.size],_,_,H,rfl,
  I1.kept (t':=tk) fun b o e=>aN5 _ e,Z5 _ lo (hi - lo).toNat,?_,fun b hb=>?_,q⟩
 ·have e1:lo+((0:Nat):Int) * 1=lo:=by simp
  have e2:(((hi - lo).toNat:Nat):Int) - ((0:Nat):Int)=Builtin.Range.rangeSize lo hi 1:=by rw [rangeSize_one]; split <;> omega
  show IsRangeIter _ _ (lo+((0:Nat):Int) * 1) ((((hi - lo).toNat:Nat):Int) - ((0:Nat):Int)) 1
  rw [e1,e2]
  exact aP1 _ rfl
 ·have e:b=(s.heap.push { cls:=.type "range",data:=.fields #[.int lo t,.int hi u,.int 1 v] }).objs.size:=by simpa using hb
  subst e
  exact I1.fpOk (aO6 _) (I1.hok.fresh (aO6 _))
def wK (ta:TA):TI:=fun σ H R=>ta σ H fun vs H1=>∃ j:Int,vs = [.int j]/\-(2 ^ 62)<=j/\j < 2 ^ 62/\R (oD 0 j.toNat) H1
theorem Z7 {a:Expr}{ta:TA}{p pos:Pos} (hg:Gl X "range") (hm:X.mg "range" = none) (ha:PA X [a] ta) (hs:starEach [a] X.env = [(false,eval a X.env)]:=by rfl):PI X tg (.Call (.Name "range" p) [a] [] pos) (wK ta):=by
 intro pins s σ H R I h
 refine Call_ (kO I hg hm boot_range (ba5 (aQ (ha pos pins s σ H _ I h) fun us s1 ⟨vs,H1,I1,r1,q1⟩=>?_) hs rfl))
 obtain ⟨j,e,q1,q2,q⟩:=q1
 subst e
 cases r1 with
 | cons r rr=>
  cases rr
  obtain ⟨t,rfl⟩:=r
  exact call_range_1 (Z6 I1 (by omega) (by omega) q1 q2 (by simpa using q))
def wL (wi:TI) (g:TG) (tb:TS):TS:=fun D σ H=>wi σ H fun J H1=>∃ W:Nat->Nat->St->Hp->Prop,(∃ m,W 0 m σ H1)/\∀ i m σ H,W i m σ H->
 (J.stop i H/\D.nx σ H) ∨ (J.go i H/\∃ N:St->Hp->Prop,(∀ σ' H',N σ' H'->∃ m',m' < m/\W (i+1) m' σ' H')/\∀ x H',J.yld i H x H'->g x σ H' fun σ2 H2=>tb { D with nx:=N,ct:=N,bk:=D.nx } σ2 H2)
def mE (fp:List Addr) (h:Heap):List (Addr × Obj):=fp.filterMap fun b=>(h.get? b).map fun o=>(b,o)
theorem oE {fp:List Addr}{h:Heap}{b:Addr}{o:Obj} (hb:b ∈ fp) (e:h.get? b=some o):(b,o) ∈ mE fp h:=List.mem_filterMap.mpr ⟨b,hb,by rw [e]; rfl⟩
theorem Z8 {fp:List Addr}{h:Heap}{p:Addr × Obj} (hp:p ∈ mE fp h):p.1 ∈ fp/\h.get? p.1=some p.2:=by
 obtain ⟨b,hb,e⟩:=List.mem_filterMap.mp hp
 cases q:h.get? b with
 | none=>rw [q] at e; cases e
 | some o=>
  rw [q] at e
  have e':(b,o)=p:=aQ0 e
  subst e'
  exact⟨hb,q⟩
theorem a8.pinned {pins:List (Addr × Obj)}{σ:St}{H:Hp}{s:Shared}{fp:List Addr} (I:a8 X pins σ H s) (hf:∀ b ∈ fp,fB X pins H b) (ho:∀ b ∈ fp,∃ o,s.heap.get? b=some o/\∀ v,o.data ≠ .cell v):a8 X (pins ++ mE fp s.heap) σ H s:=
 I.pins_of fun p hp=>(aS7.mp hp).elim (fun z=>I.pin p (aQ5 _ z)) fun z=>by
  obtain ⟨hb,e⟩:=Z8 z
  obtain ⟨f0,f1,f2,_⟩:=hf p.1 hb
  obtain ⟨o,e',d⟩:=ho p.1 hb
  rw [e] at e'; cases e'
  exact⟨e,f0,f1,f2,d⟩
theorem a8.unpinned {pins pl:List (Addr × Obj)}{σ:St}{H:Hp}{s:Shared} (I:a8 X (pins ++ pl) σ H s):a8 X pins σ H s:=I.pins_of fun p hp=>I.pin p (aQ5 _ (aT8 _ hp))
theorem Z9 {iter:Expr}{body:List Stmt}{wi:TI}{g:TG}{tb:TS}{pos:Pos} (hp:PassesOwn (model X.prog X.w) X.A X.env X.xe) (hc:X.calm=true) (hi:PI X tg iter wi) (hg:PG X tg g) (hb:dE X body tb)
  (hs:∀ x,foldedSetIterable iter X.env x=pure x:=by intro _; rfl):PS X (.For tg iter body [] pos) (wL wi g tb):=by
 intro pins s σ H D I h
 refine wpAny_For (aQ (hi pins s σ H _ I h) fun v s1 h1=>aQ h1 fun itv s2 h2=>?_) hs
 obtain ⟨it,fp,tn,J,H2,e,I2,T,st2,f2,W,⟨m0,w0⟩,turn⟩:=h2
 subst e
 have stat:∀ {H':Hp},(∀ b ∈ fp,H' b=none)->∀ b ∈ fp,fB X pins H' b:=fun hn b hb=>⟨hn b hb,(f2 b hb).2⟩
 refine codeAny_forLoop_any (fun n s'=>∃ i σ' H',a8 X pins σ' H' s'/\tn i s'.heap/\(∀ b ∈ fp,H' b=none)/\W i n σ' H') ?_ m0 ⟨0,σ,H2,I2,st2,fun b hb=>(f2 b hb).1,w0⟩
 rintro n s3 ⟨i,σ3,H3,I3,st3,fr3,w3⟩
 rcases turn i n σ3 H3 w3 with ⟨stop,qn⟩ | ⟨go,N,hN,step⟩
 ·refine bb8 hp (aQ (T.done X rfl rfl rfl hc i pins s3 σ3 H3 X.xe I3 (stat fr3) st3 stop) fun r s4 ⟨hr,I4⟩=>?_)
  subst hr
  exact wpAny_execs_nil ⟨σ3,H3,I4,qn⟩
 ·refine bb8 hp (aQ (T.item X rfl rfl rfl hc i pins s3 σ3 H3 X.xe I3 (stat fr3) st3 go) fun r s4 ⟨u,hr,h4⟩=>?_)
  subst hr
  refine bb8 hp (aQ h4 fun _ s5 ⟨x,H5,I5,r5,y5,st5,fr5⟩=>?_)
  have I5':=I5.pinned (stat fr5) (T.obj _ _ st5)
  refine bb8 hp (aQ (hg _ s5 σ3 H5 x u _ I5' r5 (step x H5 y5)) fun _ s6 ⟨σ6,H6,I6,q6⟩=>?_)
  refine bb8 hp (aQ (hb _ s6 σ6 H6 _ I6 q6) fun f s7 q7=>?_)
  have again:∀ {σ7:St}{H7:Hp},a8 X (pins ++ mE fp s5.heap) σ7 H7 s7->N σ7 H7->∃ m,m < n/\∃ i σ' H',a8 X pins σ' H' s7/\tn i s7.heap/\(∀ b ∈ fp,H' b=none)/\W i m σ' H':=fun {σ7 H7} I7 n7=>by
   obtain ⟨m',hm,w7⟩:=hN σ7 H7 n7
   refine⟨m',hm,i+1,σ7,H7,I7.unpinned,T.keep _ _ _ st5 fun b hb o e=>(I7.pin (b,o) (aQ5 _ (aQ5 _ (oE hb e)))).1,fun b hb=>?_,w7⟩
   obtain ⟨o,e,d⟩:=T.obj _ _ st5 b hb
   exact (I7.pin (b,o) (aQ5 _ (aQ5 _ (oE hb e)))).2.1
  cases f with
  | next=>obtain ⟨σ7,H7,I7,n7⟩:=q7; exact again I7 n7
  | cont=>obtain ⟨σ7,H7,I7,n7⟩:=q7; exact again I7 n7
  | brk=>obtain ⟨σ7,H7,I7,q7⟩:=q7; exact⟨σ7,H7,I7.unpinned,q7⟩
  | ret v=>obtain ⟨x7,σ7,H7,I7,r7,q7⟩:=q7; exact⟨x7,σ7,H7,I7.unpinned,r7,q7⟩
end
abbrev R2:=V->V->Hp->VK->Prop
def c7 (X:Cx) (f:Value->Value->Sem Value) (r:R2):Prop:=
 ∀ (pins:List (Addr × Obj)) (s:Shared) (σ:St) (H:Hp) (x y:V) (v u:Value) (Q:VK),a8 X pins σ H s->aR x v->aR y u->r x y H Q->
  wpAny (model X.prog X.w) X.A (f v u) (EP X pins σ Q) X.xe s
def cG (X:Cx) (f:Value) (r:List V->Hp->VK->Prop):Prop:=
 ∀ (pins:List (Addr × Obj)) (s:Shared) (σ:St) (H:Hp) (xs:List V) (us:List Value) (Q:VK),a8 X pins σ H s->aK xs us->r xs H Q->
  wpAny (model X.prog X.w) X.A (call f us) (EP X pins σ Q) X.xe s
def mF (r:R2) (ta tb:TE):TE:=fun σ H Q=>ta σ H fun x H1=>tb σ H1 fun y H2=>r x y H2 Q
def rI (C:Int->Int->Prop) (g:Int->Int->V):R2:=fun x y H Q=>∃ i j,x = .int i/\y = .int j/\C i j/\Q (g i j) H
def gE (g:Int->Int->V):R2:=fun x y H Q=>∃ i j,x = .int i/\y = .int j/\Q (g i j) H
section
variable {X : Cx} {a b c : Expr} {ta tb tc : TE} {pos : Pos}
theorem rY (ha:PE X a ta) (hb:PE X b tb) {pins:List (Addr × Obj)}{s:Shared}{σ:St}{H:Hp}{R:V->V->Hp->Prop} (I:a8 X pins σ H s)
  (h:ta σ H fun x H1=>tb σ H1 fun y H2=>R x y H2) {Q:Value->Shared->Prop}{f:Value->Value->Sem Value}
  (hf:∀ v u s2 x y H2,a8 X pins σ H2 s2->aR x v->aR y u->R x y H2->wpAny (model X.prog X.w) X.A (f v u) Q X.xe s2) :
  wpAny (model X.prog X.w) X.A (eval a X.env) (fun v s₁=>wpAny (model X.prog X.w) X.A (eval b X.env) (fun u s₂=>wpAny (model X.prog X.w) X.A (f v u) Q X.xe s₂) X.xe s₁) X.xe s:=by
 refine aQ (ha pins s σ H _ I h) fun v s1 ⟨x,H1,I1,r1,q1⟩=>?_
 refine aQ (hb pins s1 σ H1 _ I1 q1) fun u s2 ⟨y,H2,I2,r2,q2⟩=>?_
 exact hf v u s2 x y H2 I2 r1 r2 q2
theorem aa0 {op:Operator}{r:R2} (ho:c7 X (binaryOp op) r) (ha:PE X a ta) (hb:PE X b tb):PE X (.BinOp a op b pos) (mF r ta tb):=by
 intro pins s σ H Q I h
 exact wpAny_BinOp (rY ha hb I h fun v u s2 x y H2 I2 rx ry q=>ho pins s2 σ H2 x y v u Q I2 rx ry q)
theorem rZ {f:Value->Value->Sem Value}{C:Int->Int->Prop}{g:Int->Int->Int}
  (rule:∀ (i j:Int) (t u:Tok) (s:Shared) (Q:Value->Shared->Prop) (E:Value->Shared->Prop),C i j->Q (.int (g i j) s.toks) { s with toks:=s.toks+1 }->wpAny (model X.prog X.w) X.A (f (.int i t) (.int j u)) Q E s) :
  c7 X f (rI C fun i j=>.int (g i j)):=by
 intro pins s σ H x y v u Q I rx ry h
 obtain ⟨i,j,rfl,rfl,hc,q⟩:=h
 obtain ⟨t,rfl⟩:=rx
 obtain ⟨t',rfl⟩:=ry
 exact rule i j t t' s _ _ hc ⟨.int (g i j),H,I.tok _,⟨_,rfl⟩,q⟩
theorem wM {f:Value->Value->Sem Value}{g:Int->Int->Int}
  (rule:∀ (i j:Int) (t u:Tok) (s:Shared) (Q:Value->Shared->Prop) (E:Value->Shared->Prop),Q (.int (g i j) s.toks) { s with toks:=s.toks+1 }->wpAny (model X.prog X.w) X.A (f (.int i t) (.int j u)) Q E s) :
  c7 X f (gE fun i j=>.int (g i j)):=by
 intro pins s σ H x y v u Q I rx ry h
 obtain ⟨i,j,rfl,rfl,q⟩:=h
 obtain ⟨t,rfl⟩:=rx
 obtain ⟨t',rfl⟩:=ry
 exact rule i j t t' s _ _ ⟨.int (g i j),H,I.tok _,⟨_,rfl⟩,q⟩
theorem oF {f:Value->Value->Sem Value}{g:Int->Int->Bool}
  (rule:∀ (i j:Int) (t u:Tok) (s:Shared) (Q:Value->Shared->Prop) (E:Value->Shared->Prop),Q (.bool (g i j)) s->wpAny (model X.prog X.w) X.A (f (.int i t) (.int j u)) Q E s) :
  c7 X f (gE fun i j=>.bl (g i j)):=by
 intro pins s σ H x y v u Q I rx ry h
 obtain ⟨i,j,rfl,rfl,q⟩:=h
 obtain ⟨t,rfl⟩:=rx
 obtain ⟨t',rfl⟩:=ry
 exact rule i j t t' s _ _ ⟨.bl (g i j),H,I,rfl,q⟩
def sA (i j:Int):Prop:=0 < j/\j < 1073741824
def mG (i j:Int):Prop:=(-(2 ^ 64) < i/\i < 2 ^ 64) ∨ (-(2 ^ 64) < j/\j < 2 ^ 64)
theorem mG.ok {i j:Int} (h:mG i j):IntMulOk i j:=by
 rcases h with ⟨h1,h2⟩ | ⟨h1,h2⟩
 ·exact .of_left (intBits_le_64 h1 h2)
 ·exact .of_right (intBits_le_64 h1 h2)
theorem aa1:c7 X (binaryOp .Add) (gE fun i j=>.int (i+j)):=wM fun _ _ _ _ _ _ _ q=>add_int q
theorem aa2:c7 X (binaryOp .Sub) (gE fun i j=>.int (i - j)):=wM fun _ _ _ _ _ _ _ q=>sub_int q
theorem aa3:c7 X (binaryOp .Mult) (rI mG fun i j=>.int (i * j)):=rZ fun _ _ _ _ _ _ _ hc q=>mul_int q hc.ok
theorem aa4:c7 X (binaryOp .FloorDiv) (rI sA fun i j=>.int (i / j)):=rZ fun i j _ _ _ _ _ hc q=>by
 have h1:(0:Int) < j:=hc.1
 have h2:j < 1073741824:=hc.2
 exact floordiv_int (by omega) (by rw [Int.fdiv_eq_ediv_of_nonneg i (by omega)]; exact q) (.inl (PyProof.noPylong_small (by omega)))
theorem aa5:c7 X (binaryOp .Mod) (rI (fun _ j=>0 < j) fun i j=>.int (i % j)):=rZ fun i j _ _ _ _ _ hc q=>by
 have h1:(0:Int) < j:=hc
 exact mod_int' (by omega) (by rw [Int.fmod_eq_emod_of_nonneg i (by omega)]; exact q)
end
def wN:V->V->Bool
 | .non,.non=>true | .non,.int _=>true | .int _,.non=>true | .non,.bl _=>true | .bl _,.non=>true | .non,.str _=>true | .str _,.non=>true
 | .int _,.int _=>true | .bl _,.bl _=>true | .str _,.str _=>true | .byt _,.byt _=>true
 | .int _,.str _=>true | .str _,.int _=>true | .bl _,.str _=>true | .str _,.bl _=>true
 | _,_=>false
def wO:R2:=fun x y H Q=>wN x y=true/\Q (.bl (decide (x=y))) H
def wP:R2:=fun x y H Q=>wN x y=true/\Q (.bl (!decide (x=y))) H
theorem wQ {i j:Int}:decide (V.int i=V.int j)=(i == j):=by
 rw [aW5]
 simp
theorem wR {i j:Bool}:decide (V.bl i=V.bl j)=(i == j):=by
 rw [aW5]
 simp
theorem wS {i j:Str}:decide (V.str i=V.str j)=(i == j):=by
 rw [aW5]
 simp
theorem wT {i j:Array UInt8}:decide (V.byt i=V.byt j)=(i.toList == j.toList):=by
 rw [aW5]
 cases i
 cases j
 simp
section
variable {X : Cx} {a b c : Expr} {ta tb tc : TE} {pos : Pos}
theorem bQ {pins:List (Addr × Obj)}{σ:St}{H:Hp}{s:Shared}{Q:VK}{k k':Bool} (I:a8 X pins σ H s) (q:Q (.bl k) H) (e:k=k'):EP X pins σ Q (.bool k') s:=by
 subst e
 exact⟨.bl k,H,I,rfl,q⟩
theorem aa6:c7 X (compareOp .Eq) wO:=by
 intro pins s σ H x y v u Q I rx ry h
 obtain ⟨hs,q⟩:=h
 cases x with
 | non=>
  cases rx
  cases y with
  | non=>cases ry; exact PySem.EqNone.eq_none_none (bQ I q (by simp))
  | bl j=>cases ry; exact PySem.EqNone.eq_none_bool (bQ I q (by simp))
  | int j=>obtain ⟨t',rfl⟩:=ry; exact PySem.EqNone.eq_none_int (bQ I q (by simp))
  | str j=>obtain ⟨t',rfl⟩:=ry; exact PySem.EqNone.eq_none_str (bQ I q (by simp))
  | _=>exact absurd (show false=true from hs) aP9
 | bl i=>
  cases rx
  cases y with
  | non=>cases ry; exact PySem.EqNone.eq_bool_none (bQ I q (by simp))
  | bl j=>cases ry; exact eq_bool (bQ I q wR)
  | str j=>obtain ⟨t',rfl⟩:=ry; exact PySem.EqMixed.eq_bool_str (bQ I q (by simp))
  | _=>exact absurd (show false=true from hs) aP9
 | int i=>
  obtain ⟨t,rfl⟩:=rx
  cases y with
  | non=>cases ry; exact PySem.EqNone.eq_int_none (bQ I q (by simp))
  | int j=>obtain ⟨t',rfl⟩:=ry; exact eq_int (bQ I q wQ)
  | str j=>obtain ⟨t',rfl⟩:=ry; exact PySem.EqMixed.eq_int_str (bQ I q (by simp))
  | _=>exact absurd (show false=true from hs) aP9
 | str i=>
  obtain ⟨t,rfl⟩:=rx
  cases y with
  | non=>cases ry; exact PySem.EqNone.eq_str_none (bQ I q (by simp))
  | bl j=>cases ry; exact PySem.EqMixed.eq_str_bool (bQ I q (by simp))
  | int j=>obtain ⟨t',rfl⟩:=ry; exact PySem.EqMixed.eq_str_int (bQ I q (by simp))
  | str j=>obtain ⟨t',rfl⟩:=ry; exact eq_str (bQ I q wS)
  | _=>exact absurd (show false=true from hs) aP9
 | byt i=>
  obtain ⟨t,rfl⟩:=rx
  cases y with
  | byt j=>obtain ⟨t',rfl⟩:=ry; exact PySem.W.eq_bytes (bQ I q wT)
  | _=>exact absurd (show false=true from hs) aP9
 | _=>cases y <;> exact absurd (show false=true from hs) aP9
theorem aa7:c7 X (compareOp .NotEq) wP:=by
 intro pins s σ H x y v u Q I rx ry h
 obtain ⟨hs,q⟩:=h
 cases x with
 | non=>
  cases rx
  cases y with
  | non=>cases ry; exact PySem.EqNone.ne_none_none (bQ I q (by simp))
  | bl j=>cases ry; exact PySem.EqNone.ne_none_bool (bQ I q (by simp))
  | int j=>obtain ⟨t',rfl⟩:=ry; exact PySem.EqNone.ne_none_int (bQ I q (by simp))
  | str j=>obtain ⟨t',rfl⟩:=ry; exact PySem.EqNone.ne_none_str (bQ I q (by simp))
  | _=>exact absurd (show false=true from hs) aP9
 | bl i=>
  cases rx
  cases y with
  | non=>cases ry; exact PySem.EqNone.ne_bool_none (bQ I q (by simp))
  | bl j=>cases ry; exact ne_bool (bQ I q (congrArg not wR))
  | str j=>obtain ⟨t',rfl⟩:=ry; exact PySem.EqMixed.ne_bool_str (bQ I q (by simp))
  | _=>exact absurd (show false=true from hs) aP9
 | int i=>
  obtain ⟨t,rfl⟩:=rx
  cases y with
  | non=>cases ry; exact PySem.EqNone.ne_int_none (bQ I q (by simp))
  | int j=>obtain ⟨t',rfl⟩:=ry; exact ne_int (bQ I q (congrArg not wQ))
  | str j=>obtain ⟨t',rfl⟩:=ry; exact PySem.EqMixed.ne_int_str (bQ I q (by simp))
  | _=>exact absurd (show false=true from hs) aP9
 | str i=>
  obtain ⟨t,rfl⟩:=rx
  cases y with
  | non=>cases ry; exact PySem.EqNone.ne_str_none (bQ I q (by simp))
  | bl j=>cases ry; exact PySem.EqMixed.ne_str_bool (bQ I q (by simp))
  | int j=>obtain ⟨t',rfl⟩:=ry; exact PySem.EqMixed.ne_str_int (bQ I q (by simp))
  | str j=>obtain ⟨t',rfl⟩:=ry; exact ne_str (bQ I q (congrArg not wS))
  | _=>exact absurd (show false=true from hs) aP9
 | byt i=>
  obtain ⟨t,rfl⟩:=rx
  cases y with
  | byt j=>obtain ⟨t',rfl⟩:=ry; exact PySem.W.ne_bytes (bQ I q (congrArg not wT))
  | _=>exact absurd (show false=true from hs) aP9
 | _=>cases y <;> exact absurd (show false=true from hs) aP9
theorem sB:c7 X (compareOp .Lt) (gE fun i j=>.bl (decide (i < j))):=oF fun _ _ _ _ _ _ _ q=>lt_int q
theorem aa8:c7 X (compareOp .LtE) (gE fun i j=>.bl (decide (i<=j))):=oF fun _ _ _ _ _ _ _ q=>le_int q
theorem aa9:c7 X (compareOp .Gt) (gE fun i j=>.bl (decide (j < i))):=oF fun _ _ _ _ _ _ _ q=>gt_int q
theorem ab0:c7 X (compareOp .GtE) (gE fun i j=>.bl (decide (j<=i))):=oF fun _ _ _ _ _ _ _ q=>ge_int q
theorem ab1:c7 X (compareOp .Is) (fun x y H Q=>y = .non/\Q (.bl (decide (x = .non))) H):=by
 intro pins s σ H x y v u Q I rx ry h
 obtain ⟨rfl,q⟩:=h
 cases ry
 refine is_none_gen (bQ I q ?_)
 cases x <;> first
  | (cases rx; rfl)
  | (obtain ⟨t,rfl⟩:=rx; rfl)
theorem ab2:c7 X (compareOp .IsNot) (fun x y H Q=>y = .non/\Q (.bl (!decide (x = .non))) H):=by
 intro pins s σ H x y v u Q I rx ry h
 obtain ⟨rfl,q⟩:=h
 cases ry
 refine isnot_none_gen (bQ I q ?_)
 cases x <;> first
  | (cases rx; rfl)
  | (obtain ⟨t,rfl⟩:=rx; rfl)
theorem eR (b:Expr) {op:CmpOp} (h:op ≠ .In:=by decide) (h2:op ≠ .NotIn:=by decide):behindInMarks op b=false:=by
 have e1:(op == CmpOp.In)=false:=by cases op <;> first | rfl | exact absurd rfl h
 have e2:(op == CmpOp.NotIn)=false:=by cases op <;> first | rfl | exact absurd rfl h2
 cases b <;> simp [behindInMarks,e1,e2]
theorem ab3 {op:CmpOp}{r:R2} (ho:c7 X (compareOp op) r) (ha:PE X a ta) (hb:PE X b tb) (hm:behindInMarks op b=false):PE X (.Compare a [op] [b] pos) (mF r ta tb):=by
 intro pins s σ H Q I h
 exact wpAny_Compare1 (rY ha hb I h fun v u s2 x y H2 I2 rx ry q=>ho pins s2 σ H2 x y v u Q I2 rx ry q) hm
def ab4 (t:TE):TT:=fun σ H Q=>t σ H fun x H'=>∃ k,x = .bl k/\Q k H'
theorem ab5 {op:CmpOp}{r:R2} (ho:c7 X (compareOp op) r) (ha:PE X a ta) (hb:PE X b tb) (hm:behindInMarks op b=false):PT X (.Compare a [op] [b] pos) (ab4 (mF r ta tb)):=by
 intro pins s σ H Q I h
 refine wpAny_isTrue_Compare1 (aQ (ha pins s σ H _ I h) fun v s1 ⟨x,H1,I1,r1,q1⟩=>aQ (hb pins s1 σ H1 _ I1 q1) fun u s2 ⟨y,H2,I2,r2,q2⟩=>
  aQ (ho pins s2 σ H2 x y v u _ I2 r1 r2 q2) fun c s3 ⟨z,H3,I3,r3,k,e,q3⟩=>?_) hm
 subst e
 cases r3
 exact aY5 ⟨H3,I3,q3⟩
theorem oG:(sizeLine:Nat) < 2 ^ 63:=by rw [sizeLine_eq]; decide
theorem gV {x:V}{us:List Value} (r:aK [x] us):∃ u,us = [u]/\aR x u:=by
 cases r with
 | cons r1 r2=>cases r2; exact⟨_,rfl,r1⟩
theorem jM {x y:V}{us:List Value} (r:aK [x,y] us):∃ u w',us = [u,w']/\aR x u/\aR y w':=by
 cases r with
 | cons r1 r2=>
  cases r2 with
  | cons r3 r4=>cases r4; exact⟨_,_,rfl,r1,r3⟩
theorem ab6 (hc:X.calm=true):cG X (.builtin "max") (fun xs H Q=>∃ i j,xs = [.int i,.int j]/\Q (.int (if j > i then j else i)) H):=by
 intro pins s σ H xs us Q I r h
 obtain ⟨i,j,rfl,q⟩:=h
 obtain ⟨u,w',rfl,⟨t,rfl⟩,⟨t',rfl⟩⟩:=jM r
 refine max_two_ints (I.ok.hd hc) fun h' tk k=>⟨_,H,I.kept k,?_,q⟩
 by_cases hj:j > i
 ·rw [if_pos hj,if_pos hj]; exact⟨_,rfl⟩
 ·rw [if_neg hj,if_neg hj]; exact⟨_,rfl⟩
theorem ab7 (hc:X.calm=true):cG X (.builtin "min") (fun xs H Q=>∃ i j,xs = [.int i,.int j]/\Q (.int (if j < i then j else i)) H):=by
 intro pins s σ H xs us Q I r h
 obtain ⟨i,j,rfl,q⟩:=h
 obtain ⟨u,w',rfl,⟨t,rfl⟩,⟨t',rfl⟩⟩:=jM r
 refine min_two_ints (I.ok.hd hc) fun h' tk k=>⟨_,H,I.kept k,?_,q⟩
 by_cases hj:j < i
 ·rw [if_pos hj,if_pos hj]; exact⟨_,rfl⟩
 ·rw [if_neg hj,if_neg hj]; exact⟨_,rfl⟩
end
structure sD (h:Heap) (x dx C:Addr) (mA:Str->Option Value):Prop where
 obj:h.get? x=some (PySem.W.instObj C dx)
 ns:h.Ns1 dx mA
 ne:dx ≠ x
theorem ab8 {h:Heap}{dx:Addr}{mA:Str->Option Value} (n:h.Ns1 dx mA):∃ od,h.get? dx=some od/\∀ name,PySem.W.lookIn name od=some (mA name):=by
 obtain ⟨o,es,ep,ho,hd,hk,_,hm⟩:=n
 refine⟨o,ho,fun name=>?_⟩
 have e:=hm name
 unfold nsFind findBy at e
 rw [<- Array.find?_toList] at e
 unfold PySem.W.lookIn
 rw [hd]
 dsimp only
 split
 ·rename_i y q
  rw [q] at e
  exact congrArg some e
 ·rename_i q
  rw [q] at e
  have a:es.toList.any (·.refKey)=false:=by
   rw [List.any_eq_false]
   intro y hy
   obtain ⟨z,t,hkey⟩:=hk y (Array.mem_toList_iff.mp hy)
   simp [DictEntry.refKey,hkey]
  have a' : ¬ es.toList.any (·.refKey)=true:=by rw [a]; exact aP9
  rw [if_neg a']
  exact congrArg some e
theorem sD.look {h:Heap}{x dx C:Addr}{mA:Str->Option Value} (I:sD h x dx C mA):∃ od,PySem.W.InstAt h x (PySem.W.instObj C dx) C (some od)/\∀ name,PySem.W.lookIn name od=some (mA name):=
 let ⟨od,ho,hl⟩:=ab8 I.ns
 ⟨od,⟨I.obj,rfl,rfl,ho⟩,hl⟩
section
variable {P : Program} {w : World} {H H' : Hp} {h h' : Heap} {a C dx : Addr} {fs fs' : List (Str × V)}
theorem ab9 (hok:bP P w H h) (e:H a=some (.ins C dx fs)):∃ mA,sD h a dx C mA/\(∀ f,jJ (fs.lookup f) (mA f))/\PySem.Within mA (fs.map (·.1))/\fs.length<=1000/\H dx=some (.own a):=by
 obtain ⟨d,z,ne,ob,mA,n,r,q⟩:=(show bR P w H h a (.ins C dx fs) from hok a _ e)
 exact⟨mA,⟨ob,n,ne⟩,r,q,z,d⟩
end
structure sE (K:PySem.W.Frag) (C:Addr):Prop where
 pg:PySem.W.plainGet K C Str.empty=true
 hd:PySem.W.hasDictIn K C=true
 po:PySem.W.plainOver K C=true
 sa:PySem.W.findIn K (.ref C) "__setattr__" = some (some (.builtin "object.__setattr__"))
theorem sE.get {K:PySem.W.Frag}{C:Addr} (c:sE K C) (f:Str):PySem.W.plainGet K C f=true:=c.pg
section
variable {X : Cx} {pins : List (Addr × Obj)} {σ : St} {H : Hp} {s : Shared} {A : Around} {E : Value → Shared → Prop} {Q : Value → Shared → Prop} {c : Value} {b : Bool}
inductive eU (K:PySem.W.Frag) (H:Hp):V->Value->Prop where
 | non:eU K H .non (.type "NoneType")
 | bl (x:Bool):eU K H (.bl x) (.type "bool")
 | int (i:Int):eU K H (.int i) (.type "int")
 | str (x:Str):eU K H (.str x) (.type "str")
 | flt (x:UInt64):eU K H (.flt x) (.type "float")
 | lst {a:Addr}{xs:List V} (e:H a=some (.lst xs)):eU K H (.ref a) (.type "list")
 | frz {a:Addr}{o:Obj}{xs:List V} (e:H a=some (.frz o (.lst xs))):eU K H (.ref a) (.type "list")
 | tup {a:Addr}{xs:List V} (e:H a=some (.tup xs)):eU K H (.ref a) (.type "tuple")
 | dK {a:Addr}{kvs:List (aJ × V)} (e:H a=some (.dK kvs)):eU K H (.ref a) (.type "dict")
 | dT {a:Addr}{kvs:List (List aJ × V)} (e:H a=some (.dT kvs)):eU K H (.ref a) (.type "dict")
 | ins {a C dx:Addr}{fs:List (Str × V)} (e:H a=some (.ins C dx fs)) (cl:sE K C) (ha:PySem.W.findIn K (.ref C) "__class__" = some (some (.builtin "object.__class__")))
   (hn:PySem.W.specialIn K (.builtin "object.__class__") "__get__" = some (some (.builtin "getset_descriptor.__get__"))) (htk:PySem.W.takesIn K (.builtin "object.__class__")=some true)
   (hm:PySem.W.mroIn K C (.type "object")=some true):eU K H (.ref a) (.ref C)
theorem ac0 {x:V}{u t:Value} (I:a8 X pins σ H s) (rx:aR x u) (ty:eU X.K H x t) (e:PySem.W.kitOne X.K t c=some b) (h:∀ tk,Q (.bool b) { s with toks:=tk }) :
  wpAny (model X.prog X.w) A (call (.builtin "isinstance") [u,c]) Q E s:=by
 cases ty with
 | non=>cases (show u=Value.none from rx); exact aV3 PySem.W.kitx_none I.kIn bd2 e (fun z=>nomatch z) h
 | bl y=>cases (show u=Value.bool y from rx); exact aV3 PySem.W.kitx_bool I.kIn bd2 e (fun z=>nomatch z) h
 | int i=>obtain ⟨t,q⟩:=(show ∃ t,u=Value.int i t from rx); cases q; exact aV3 PySem.W.kitx_int I.kIn bd2 e (fun z=>nomatch z) h
 | str y=>obtain ⟨t,q⟩:=(show ∃ t,u=Value.str y t from rx); cases q; exact aV3 PySem.W.kitx_str I.kIn bd2 e (fun z=>nomatch z) h
 | flt y=>obtain ⟨t,q⟩:=(show ∃ t,u=Value.float y t from rx); cases q; exact aV3 PySem.W.kitx_float I.kIn bd2 e (fun z=>nomatch z) h
 | @lst a xs ea=>
  cases (show u=Value.ref a from rx)
  obtain ⟨_,_,n,_,h1⟩:=(show bR X.prog X.w H s.heap a (.lst xs) from I.hok a _ ea)
  exact aV3 PySem.W.kitx_list I.kIn ⟨_,h1,rfl⟩ e (fun z=>nomatch z) h
 | @frz a ob xs ea=>
  cases (show u=Value.ref a from rx)
  obtain ⟨_,_,_,n,_,h1⟩:=(show bR X.prog X.w H s.heap a (.frz ob (.lst xs)) from I.hok a _ ea)
  exact aV3 PySem.W.kitx_list I.kIn ⟨_,h1,rfl⟩ e (fun z=>nomatch z) h
 | @tup a xs ea=>
  cases (show u=Value.ref a from rx)
  obtain ⟨_,_,_,p,_⟩:=(show bR X.prog X.w H s.heap a (.tup xs) from I.hok a _ ea)
  obtain ⟨o,h1,h2,_⟩:=p
  exact aV3 PySem.W.kitx_tuple I.kIn ⟨o,h1,h2⟩ e (fun z=>nomatch z) h
 | @dK a kvs ea=>
  cases (show u=Value.ref a from rx)
  obtain ⟨_,_,vs,_,p⟩:=(show bR X.prog X.w H s.heap a (.dK kvs) from I.hok a _ ea)
  obtain ⟨o,es,ep,h1,h2,_⟩:=p
  exact aV3 PySem.W.kitx_dict I.kIn ⟨o,h1,h2.1⟩ e (fun z=>nomatch z) h
 | @dT a kvs ea=>
  cases (show u=Value.ref a from rx)
  obtain ⟨_,_,xs,_,o,es,ep,h1,h2,_⟩:=(show bR X.prog X.w H s.heap a (.dT kvs) from I.hok a _ ea)
  exact aV3 PySem.W.kitx_dict I.kIn ⟨o,h1,h2.1⟩ e (fun z=>nomatch z) h
 | @ins a C dx fs ea cl ha hn htk hm=>
  cases (show u=Value.ref a from rx)
  obtain ⟨mA,O,_⟩:=ab9 I.hok ea
  obtain ⟨od,J,_⟩:=O.look
  exact aV3 (PySem.W.kitx_own (cl.get _) cl.hd ha hn htk hm) I.kIn J e (fun z=>nomatch z) h
end
structure bX (k:Nat) (A:Around):Prop where
 hd:A.handled=none
 dp:A.depth+3 * k+5 < recursionLimit
 un:A.units+16 * k+200 < cLine
theorem bX.mono {j k:Nat}{A:Around} (r:bX k A) (h:j<=k):bX j A:=⟨r.hd,by have:=r.dp; omega,by have:=r.un; omega⟩
theorem bX.deeper {k:Nat}{A:Around} (r:bX (k+1) A) (env:Env):bX k (A.deeper env):=
 ⟨r.hd,by have:=r.dp; show A.depth+1+3 * k+5 < _; omega,by have:=r.un; show A.units+3+16 * k+200 < _; omega⟩
theorem bX.depth {k:Nat}{A:Around} (r:bX k A):A.depth < recursionLimit:=by have:=r.dp; omega
theorem bX.units {k:Nat}{A:Around} (r:bX k A):A.units+64 < cLine:=by have:=r.un; omega
def jN:TA:=fun _ H Q=>Q [] H
def iZ (ta:TE) (tr:TA):TA:=fun σ H Q=>ta σ H fun x H1=>tr σ H1 fun xs H2=>Q (x :: xs) H2
section
variable {X : Cx} {e : Expr} {es : List Expr} {te : TE} {t : TA} {pos : Pos}
theorem jO:PA X [] jN:=fun _ _ _ _ H Q I h=>Calls.spliced_nil ⟨[],H,I,.nil,h⟩
theorem iC (ha:PE X e te) (hr:PA X es t) (hs:starEach (e :: es) X.env=(false,eval e X.env) :: starEach es X.env:=by rfl):PA X (e :: es) (iZ te t):=by
 intro pos pins s σ H Q I h
 rw [hs]
 show wpAny _ _ (spliced ((false,eval e X.env) :: backTo pos (starEach es X.env))) _ _ s
 refine Calls.spliced_cons (aQ (ha pins s σ H _ I h) fun u s1 ⟨x,H1,I1,r1,q1⟩=>?_)
 exact aQ (hr pos pins s1 σ H1 _ I1 q1) fun us s2 ⟨xs,H2,I2,r2,q2⟩=>⟨x :: xs,H2,I2,.cons r1 r2,q2⟩
def wU (t:TA):TE:=fun σ H Q=>t σ H fun xs H1=>xs.length<=sizeLine/\∀ p,H1 p=none->Q (.ref p) (upd H1 p (.tup xs))
def wV (t:TA):TE:=fun σ H Q=>t σ H fun xs H1=>xs.length<=sizeLine/\∀ p,H1 p=none->Q (.ref p) (upd H1 p (.lst xs))
theorem ac1 {x1} (h:PA X es t):PE X (.Tuple es x1 pos) (wU t):=by
 intro pins s σ H Q I hq
 refine wpAny_Tuple_spliced (aQ (h pos pins s σ H _ I hq) fun us s1 ⟨xs,H1,I1,r,z,q⟩=>⟨by rw [<- r.length]; exact z,?_⟩)
 have hf:H1 s1.heap.objs.size=none:=I1.hok.fresh (aO6 _)
 refine⟨.ref s1.heap.objs.size,upd H1 s1.heap.objs.size (.tup xs),I1.laid (t':=s1.toks) (fun b u e=>aN5 _ e) (aO6 _) ?_,rfl,q _ hf⟩
 exact⟨z,us,r,⟨_,aP1 _ rfl,rfl,_,rfl⟩,i8.new _ _ rfl⟩
theorem ac2 (h:PA X es t):PE X (.List es pos) (wV t):=by
 intro pins s σ H Q I hq
 refine wpAny_List_spliced (aQ (h pos pins s σ H _ I hq) fun us s1 ⟨xs,H1,I1,r,z,q⟩=>⟨by rw [<- r.length]; exact z,?_⟩)
 have hf:H1 s1.heap.objs.size=none:=I1.hok.fresh (aO6 _)
 refine⟨.ref s1.heap.objs.size,upd H1 s1.heap.objs.size (.lst xs),I1.laid (t':=s1.toks) (fun b u e=>aN5 _ e) (aO6 _) ?_,rfl,q _ hf⟩
 exact⟨z,us,0,r,aP1 _ rfl⟩
end
abbrev Sp:=List V->Hp->VK->XK->Prop
abbrev fQ:=List Env->Hp->Shared->XK->Value->Shared->Prop
structure oH (P:Program) (w:World) (K:PySem.W.Frag) (mg:Str->Option Value) (base:Heap) (A:Around) (outer:List Env) (s:Shared) (H:Hp):Prop where
 frames:A.frames=some outer
 mod:Mod K mg base
 bs:∀ b o,base.get? b=some o->s.heap.get? b=some o/\H b=none
 bsz:base.objs.size<=s.heap.objs.size
 funs:s.heap.FunFrames base outer
 frf:∀ b ∈ bT outer,H b=none
 hok:bP P w H s.heap
 bare:AllBare s.gens
def CE (outer:List Env) (P:Program) (w:World) (H:Hp) (s:Shared) (Q:VK) (u:Value) (s':Shared):Prop:=
 ∃ v H',s'.os=s.os/\AllBare s'.gens/\Un (bT outer) [] H H' s.heap s'.heap/\bP P w H' s'.heap/\aR v u/\Q v H'
def CR (CX:fQ) (outer:List Env) (P:Program) (w:World) (H:Hp) (s:Shared) (Q:VK) (E:XK) (r:Result) (s':Shared):Prop:=
 match r with
 | .ok (.ret u)=>CE outer P w H s Q u s'
 | .ok _=>False
 | .error e=>CX outer H s E e s'
structure dA (P:Program) (w:World) (K:PySem.W.Frag) (mg:Str->Option Value) (base:Heap) (CX:fQ) (k:Nat) (f:Addr) (fd:FuncData) (ps:List Str) (sp:Sp):Prop where
 len:∀ vs H Q E,sp vs H Q E->vs.length=ps.length
 run:∀ (A:Around) (outer:List Env) (s:Shared) (H:Hp) (args:Args) (us:List Value) (vs:List V) (Q:VK) (E:XK),bX k A->oH P w K mg base A outer s H->BindsTo s fd args (ps.zip us)->aK vs us->sp vs H Q E->
  codeAny (model P w) A (.call (.ref f) args) (CR CX outer P w H s Q E) s
theorem dA.imp {P:Program}{w:World}{K:PySem.W.Frag}{mg:Str->Option Value}{base:Heap}{CX:fQ}{k:Nat}{f:Addr}{fd:FuncData}{ps:List Str}{sp sp':Sp} (F:dA P w K mg base CX k f fd ps sp)
  (h:∀ vs H Q E,sp' vs H Q E->sp vs H Q E):dA P w K mg base CX k f fd ps sp':=
 ⟨fun vs H Q E q=>F.len vs H Q E (h _ _ _ _ q),fun A outer s H args us vs Q E hr he hb hv hs=>F.run A outer s H args us vs Q E hr he hb hv (h _ _ _ _ hs)⟩
section
variable {X : Cx} {pins : List (Addr × Obj)} {σ : St} {H : Hp} {s s' : Shared}
theorem a8.env0 (I:a8 X pins σ H s):oH X.prog X.w X.K X.mg X.base X.A X.stack s H:=
 ⟨I.ok.frames,I.ok.mod,I.bs,aQ7 I.ok.bsz I.sz,I.stack,I.stkFree,I.hok,I.bare⟩
theorem a8.after {Q:VK}{u:Value} (I:a8 X pins σ H s) (h:CE X.stack X.prog X.w H s Q u s'):EP X pins σ Q u s':=by
 obtain ⟨v,H',os,bare,un,hok,r,q⟩:=h
 obtain ⟨hh,g,d,t,os'⟩:=s'
 obtain rfl:os'=s.os:=os
 exact⟨v,H',I.call (h':=hh) (g':=g) (d':=d) (t':=t) (ch:=[]) un hok bare (fun b z=>absurd z (by simp)),r,q⟩
end
def sF (sp:Sp) (dvs:List V) (E:XK) (t:TA):TE:=fun σ H Q=>t σ H fun vs H1=>sp (vs ++ dvs) H1 Q E
def j5 (K:PySem.W.Frag) (fd:FuncData) (ps:List Str) (ds:List Value):Prop:=
 ∀ (s:Shared) (us:List Value),K.In s.heap->(us ++ ds).length=ps.length->BindsTo s fd ⟨us,[]⟩ (ps.zip (us ++ ds))
theorem j5.all {K:PySem.W.Frag}{fd:FuncData}{ps:List Str} (h:∀ us:List Value,us.length=ps.length->bindArgs fd ⟨us,[]⟩=pure (ps.zip us)):j5 K fd ps []:=fun s us _ hl=>by
 rw [aY8] at hl ⊢
 exact .of_eq (h us hl)
def mH (CX:fQ) (X:Cx) (E:XK):Prop:=∀ (pins:List (Addr × Obj)) (σ:St) (H:Hp) (s:Shared) (e:Value) (s':Shared),a8 X pins σ H s->CX X.stack H s E e s'->X.xe e s'
section
variable {X : Cx} {CX : fQ} {k : Nat} {f C : Addr} {fd : FuncData} {ps : List Str} {sp : Sp} {dvs : List V} {ds : List Value} {E : XK} {x m : Str} {p pos apos : Pos} {e o : Expr} {es : List Expr} {ta : TE} {t : TA}
theorem ac3 {pins:List (Addr × Obj)}{σ:St}{H:Hp}{s:Shared}{Q:VK}{us:List Value}{vs:List V} (F:dA X.prog X.w X.K X.mg X.base CX k f fd ps sp) (hr:bX k X.A) (hb:j5 X.K fd ps ds) (hd:aK dvs ds) (hx:mH CX X E)
  (I:a8 X pins σ H s) (r:aK vs us) (h:sp (vs ++ dvs) H Q E):wpAny (model X.prog X.w) X.A (call (.ref f) us) (EP X pins σ Q) X.xe s:=by
 have r2:aK (vs ++ dvs) (us ++ ds):=r.append hd
 have hl:(us ++ ds).length=ps.length:=by rw [<- r2.length]; exact F.len _ _ _ _ h
 refine wpAny_call (codeAny_mono (F.run X.A X.stack s H ⟨us,[]⟩ (us ++ ds) (vs ++ dvs) Q E hr I.env0 (hb s us I.kIn hl) r2 h) fun r s' hq=>?_)
 cases r with
 | error e=>exact hx pins σ H s e s' I hq
 | ok fl=>
  cases fl with
  | ret u=>exact I.after hq
  | next=>exact False.elim hq
  | brk=>exact False.elim hq
  | cont=>exact False.elim hq
theorem sG (F:dA X.prog X.w X.K X.mg X.base CX k f fd ps sp) (hr:bX k X.A) (hg:Gl X x) (hm:X.mg x=some (.ref f)) (hk:PySem.W.keepIn X.K (.ref f)=true) (hb:j5 X.K fd ps ds) (hd:aK dvs ds) (hx:mH CX X E)
  (ha:PA X (e :: es) t) (hdb:(x == ("__debug__" : Str))=false:=by decide) (he:starEach (e :: es) X.env=(false,eval e X.env) :: starEach es X.env:=by rfl) (hpl:(backTo pos (starEach es X.env)).any (·.1)=false:=by rfl) :
  PE X (.Call (.Name x p) (e :: es) [] pos) (sF sp dvs E t):=by
 intro pins s σ H Q I h
 refine wpAny_Call_Name_kw (rR I hg hm ?_ hdb)
 refine PySem.W.callWith_K (h₀:=X.base) I.ok.mod.kin hk (aQ (ha pos pins s σ H _ I h) fun us s1 ⟨vs,H1,I1,r,q⟩=>⟨I1.kIn,?_⟩) he hpl
 exact ac3 F hr hb hd hx I1 r q
end
def PK (X:Cx) (kws:List Keyword) (t:TA):Prop:=
 ∀ (pos:Pos) (pins:List (Addr × Obj)) (s:Shared) (σ:St) (H:Hp) (Q:List V->Hp->Prop),a8 X pins σ H s->t σ H Q->wpAny (model X.prog X.w) X.A (evalAll ((backToKw pos (keywordEach kws X.env)).map (·.2))) (AP X pins σ Q) X.xe s
structure FnScope (N P:List Str) (sc:Scope):Prop where
 kind:sc.kind = .function
 co:sc.isCoroutine=false
 gen:sc.isGenerator=false
 nd:N.Nodup
 pre:N.take P.length=P
 par:∀ x ∈ P,sc.names.lookup x=some .local ∨ sc.names.lookup x=some .cell
 nofree:∀ y ∈ sc.names,y.2 ≠ .free
theorem wW {kindOf:Str->Option NameKind}{x:Str}:∀ {binds:List (Str × Value)}{m:Str->Option Value},(∀ v,(x,v) ∉ binds)->bindL kindOf binds m x=m x
 | [],_,_=>rfl
 | (n,v) :: r,m,h=>by
  unfold bindL
  rw [wW fun w hw=>h w (aO3 _ hw)]
  split
  ·have:x ≠ n:=by rintro rfl; exact h v aO9
   simp [this]
  ·rfl
theorem wX {kindOf:Str->Option NameKind}{x:Str}:∀ {binds:List (Str × Value)}{m:Str->Option Value},(∀ v,(x,v) ∉ binds)->bindC kindOf binds m x=m x
 | [],_,_=>rfl
 | (n,v) :: r,m,h=>by
  unfold bindC
  rw [wX fun w hw=>h w (aO3 _ hw)]
  split
  ·rfl
  ·have:x ≠ n:=by rintro rfl; exact h v aO9
   simp [this]
theorem wY {kindOf:Str->Option NameKind}{x:Str}{v:Value}:∀ {P:List Str}{vs:List Value}{i:Nat}{m:Str->Option Value},P.Nodup->P[i]? = some x->vs[i]? = some v->kindOf x=some .local->
  bindL kindOf (P.zip vs) m x=some v
 | [],_,_,_,_,h,_,_=>by simp at h
 | _ :: _,[],_,_,_,_,h,_=>by simp at h
 | p :: P,w :: vs,0,m,nd,h1,h2,hk=>by
  simp at h1 h2; subst h1; subst h2
  show bindL kindOf ((p,w) :: P.zip vs) m p=_
  unfold bindL
  rw [wW fun v hv=>(bb9.mp nd).1 (List.of_mem_zip hv).1,if_pos hk]
  simp
 | p :: P,w :: vs,i+1,m,nd,h1,h2,hk=>by
  show bindL kindOf ((p,w) :: P.zip vs) m x=_
  unfold bindL
  exact wY (i:=i) (bb9.mp nd).2 (by simpa using h1) (by simpa using h2) hk
theorem wZ {kindOf:Str->Option NameKind}{x:Str}{v:Value}:∀ {P:List Str}{vs:List Value}{i:Nat}{m:Str->Option Value},P.Nodup->P[i]? = some x->vs[i]? = some v->kindOf x ≠ some .local->
  bindC kindOf (P.zip vs) m x=some v
 | [],_,_,_,_,h,_,_=>by simp at h
 | _ :: _,[],_,_,_,_,h,_=>by simp at h
 | p :: P,w :: vs,0,m,nd,h1,h2,hk=>by
  simp at h1 h2; subst h1; subst h2
  show bindC kindOf ((p,w) :: P.zip vs) m p=_
  unfold bindC
  rw [wX fun v hv=>(bb9.mp nd).1 (List.of_mem_zip hv).1,if_neg hk]
  simp
 | p :: P,w :: vs,i+1,m,nd,h1,h2,hk=>by
  show bindC kindOf ((p,w) :: P.zip vs) m x=_
  unfold bindC
  exact wZ (i:=i) (bb9.mp nd).2 (by simpa using h1) (by simpa using h2) hk
def fR (N:List Str) (vs:List V):St:=vs.map some ++ List.replicate (N.length - vs.length) none
def cS (CX:fQ) (P:Program) (w:World) (K:PySem.W.Frag) (mg:Str->Option Value) (base:Heap) (N:List Str) (qual:Str) (scope:Scope) (f:Addr) (cd:Value) (A:Around) (outer:List Env) (s:Shared) (H:Hp) (E:XK):Cx where
 prog:=P
 w:=w
 K:=K
 mg:=mg
 base:=base
 A:=A.deeper (envOfC qual scope s.heap.objs.size f cd)
 N:=N
 s₀:=s
 H₀:=H
 env:=envOfC qual scope s.heap.objs.size f cd
 outer:=outer
 stack:=envOfC qual scope s.heap.objs.size f cd :: outer
 ex:=[]
 calm:=true
 fn:=fun _=>true
 pn:=[]
 xe:=fun e s'=>wpAny (model P w) (A.deeper (envOfC qual scope s.heap.objs.size f cd)) (leaving (envOfC qual scope s.heap.objs.size f cd) e) (fun _ s''=>CX outer H s E e s'') (fun e' s''=>CX outer H s E e' s'') s'
theorem x3 {sc:Scope}{n:Nat}{x:Str} (h:sc.names.lookup x=some .cell):∃ c,(cellsFrom n sc.names []).lookup x=some c:=by
 have q:=PySem.W.cellsFrom_some sc.names n [] (.inl h)
 exact Option.isSome_iff_exists.mp q
theorem ac4 {CX:fQ}{P:Program}{w:World}{K:PySem.W.Frag}{mg:Str->Option Value}{base:Heap}{N ps:List Str}{qual:Str}{scope:Scope}{f:Addr}{cd:Value}{A:Around}{outer:List Env}{s s1:Shared}{H:Hp}{E:XK}{us:List Value}{vs:List V}
  (S:FnScope N ps scope) (hd:A.handled=none) (e0:oH P w K mg base A outer s H) (hl:vs.length=ps.length) (r:aK vs us)
  (x:InCallC s s.heap.objs.size (bindL (envOfC qual scope s.heap.objs.size f cd).kindOf (ps.zip us) fun _=>none) (cellsFrom (s.heap.objs.size+1) scope.names []) (bindC (envOfC qual scope s.heap.objs.size f cd).kindOf (ps.zip us) fun _=>none) s1) :
  a8 (cS CX P w K mg base N qual scope f cd A outer s H E) [] (fR N vs) H s1:=by
 have hpl:ps.length<=N.length:=by have:=congrArg List.length S.pre; rw [aZ4] at this; omega
 obtain ⟨h1,tk,rfl,hk⟩:=x.done
 have noA:∀ b:Addr,b ∉ (cS CX P w K mg base N qual scope f cd A outer s H E).ex:=fun b z=>absurd (show b ∈ ([]:List Addr) from z) (by simp)
 refine⟨⟨e0.mod,S.kind,rfl,rfl,aO6 _,fun y z c h1 h2=>?_,fun y hy=>?_,fun y c _ h=>?_,fun _=>hd,Around.frames_deeper e0.frames,.inr ⟨rfl,rfl⟩,fun b z=>absurd z (noA b),e0.bs,e0.bsz,fun b _ _=>noA b,fun b z=>absurd z (noA b),e0.funs,e0.frf⟩,
  rfl,e0.bare,Un.kept hk,⟨_,x.toInCall.ns,fun i y v h1 h2 h3=>?_⟩,fun y c h=>⟨_,x.cell y c h⟩,e0.hok.fresh (aO6 _),fun y c h=>?_,fun p hp=>absurd (show p ∈ ([]:List (Addr × Obj)) from hp) (by simp),e0.hok.kept hk,?_⟩
 ·exact name_of_addr x.apart (aS9 h1) (aS9 h2)
 ·have hy:scope.names.lookup y=some .cell ∨ scope.names.lookup y=some .free:=hy
  rcases hy with hy | hy
  ·exact x3 hy
  ·exact absurd rfl (S.nofree _ (aS9 hy))
 ·exact aZ6 (x.above y c (aS9 h))
 ·have hi:i < vs.length:=by
   unfold fR at h2
   by_cases hi:i < vs.length
   ·exact hi
   ·rw [bb1 (by simpa using hi)] at h2
    rw [List.getElem?_replicate] at h2
    split at h2 <;> cases h2
  have ha:vs[i]? = some v:=by
   unfold fR at h2
   rw [aZ2 (by simpa using hi),aP4] at h2
   cases e:vs[i]? with
   | none=>rw [e] at h2; cases h2
   | some a=>rw [e] at h2; cases h2; rfl
  obtain ⟨u,hu,rv⟩:=r.get ha
  have hp:ps[i]? = some y:=by
   rw [<- S.pre,List.getElem?_take_of_lt (by omega)]; exact h1
  have ndP:ps.Nodup:=by rw [<- S.pre]; exact S.nd.sublist (ba2 _ _)
  refine⟨u,rv,?_⟩
  rcases S.par y (aW2 hp) with k | k
  ·exact .inl ⟨k,wY ndP hp hu k⟩
  ·obtain ⟨c,e⟩:=x3 (n:=s.heap.objs.size+1) k
   refine .inr ⟨.inl k,c,e,?_⟩
   have q:=x.cell y c e
   rw [wZ ndP hp hu (by show scope.names.lookup y ≠ _; rw [k]; decide)] at q
   exact q
 ·exact e0.hok.fresh (aZ6 (x.above y c (aS9 h)))
 ·unfold fR
  show _=N.length
  rw [aR3,aO2,List.length_replicate]
  omega
theorem x4 {CX:fQ}{P:Program}{w:World}{K:PySem.W.Frag}{mg:Str->Option Value}{base:Heap}{k:Nat}{f:Addr}{name qual:Str}{params:Arguments}{body:List Stmt}{scope:Scope}{dV kV doc pm cdv ct oc:Value}{an od:Option Addr}
  {osl:Array (Option Value)}{N ps:List Str}{sp:Sp} (lk:K.lookup f=some ⟨oc,od,.func (PySem.W.fnOf name qual params body scope dV kV doc pm an cdv ct),osl⟩) (hcd:PySem.W.codeIn K cdv qual=true) (S:FnScope N ps scope)
  (len:∀ vs H Q E,sp vs H Q E->vs.length=ps.length)
  (hbody:∀ (A:Around) (outer:List Env) (s:Shared) (H:Hp) (vs:List V) (Q:VK) (E:XK),bX k (A.deeper (envOfC qual scope s.heap.objs.size f cdv))->sp vs H Q E->
   ∃ t,dE (cS CX P w K mg base N qual scope f cdv A outer s H E) body t/\t { nx:=fun _ H'=>Q .non H',rt:=Q } (fR N vs) H) :
  dA P w K mg base CX (k+1) f (PySem.W.fnOf name qual params body scope dV kV doc pm an cdv ct) ps sp:=by
 refine⟨len,fun A outer s H args us vs Q E hr e0 hb r hsp=>?_⟩
 have hl:=len _ _ _ _ hsp
 have KX:K.In s.heap:=e0.mod.kin.keeps fun b o e=>(e0.bs b o e).1
 have lim:s.heap.NoLimit:=e0.mod.nolimit.keeps fun b o e=>(e0.bs b o e).1
 have hkind:∀ y ∈ ps.zip us,scope.names.lookup y.1=some .local ∨ (scope.names.lookup y.1=some .cell/\((cellsFrom (s.heap.objs.size+1) scope.names []).lookup y.1).isSome=true):=fun ⟨n,v⟩ hy=>by
  rcases S.par n (List.of_mem_zip hy).1 with q | q
  ·exact .inl q
  ·exact .inr ⟨q,PySem.W.cellsFrom_some _ _ _ (.inl q)⟩
 refine codeAny_call_function hr.depth (KX _ _ lk) rfl S.co S.gen rfl (PySem.W.codeRec_of KX hcd) (hb _ _ _ _ ?_)
 refine wpAny_newFunctionEnv_cells S.kind hkind fun env he s1 x=>?_
 subst he
 refine⟨lim.keeps x.toInCall.keep,codeAny_func ?_⟩
 obtain ⟨t,ht,hq⟩:=hbody A outer s H vs Q E (hr.deeper _) hsp
 have I:a8 (cS CX P w K mg base N qual scope f cdv A outer s H E) [] (fR N vs) H s1:=ac4 S hr.hd e0 hl r x
 refine aY1 (ht [] s1 (fR N vs) H _ I hq) (fun fl s' hs=>?_) fun e s' hs=>hs
 have fin:∀ {σ':St}{H':Hp}{v:V}{u:Value},a8 (cS CX P w K mg base N qual scope f cdv A outer s H E) [] σ' H' s'->aR v u->Q v H'->CE outer P w H s Q u s':=
  fun {σ' H' v u} J rv q=>⟨v,H',J.os,J.bare,J.base,J.hok,rv,q⟩
 cases fl with
 | ret u=>
  obtain ⟨v,σ',H',J,rv,q⟩:=hs
  exact fin J rv q
 | next=>
  obtain ⟨σ',H',J,q⟩:=hs
  exact fin (v:=V.non) (u:=Value.none) J rfl q
 | brk=>
  obtain ⟨_,_,_,q⟩:=hs
  exact False.elim q
 | cont=>
  obtain ⟨_,_,_,q⟩:=hs
  exact False.elim q
section
variable {X : Cx} {x : Str} {p pos : Pos} {e : Expr} {es : List Expr} {t : TA} {id T : String} {r : List V → Hp → VK → Prop}
def sH (r:List V->Hp->VK->Prop) (t:TA):TE:=fun σ H Q=>t σ H fun vs H1=>r vs H1 Q
theorem x5 (hc:cG X (.builtin id) r) (hg:Gl X x) (hm:X.mg x=none) (hv:bootBuiltins x=some (.builtin id)) (ha:PA X (e :: es) t) (hn:x ≠ "__name__":=by decide) (hdb:(x == ("__debug__" : Str))=false:=by decide)
  (he:starEach (e :: es) X.env=(false,eval e X.env) :: starEach es X.env:=by rfl) (hpl:(backTo pos (starEach es X.env)).any (·.1)=false:=by rfl):PE X (.Call (.Name x p) (e :: es) [] pos) (sH r t):=by
 intro pins s σ H Q I h
 refine wpAny_Call_Name_kw (kO I hg hm hv ?_ hn hdb)
 exact PyProof.Rows.callWith_builtin1 (aQ (ha pos pins s σ H _ I h) fun us s1 ⟨vs,H1,I1,r1,q1⟩=>hc pins s1 σ H1 vs us Q I1 r1 q1) he hpl
theorem ac5 (hc:cG X (.type T) r) (hg:Gl X x) (hm:X.mg x=none) (hv:bootBuiltins x=some (.type T)) (ha:PA X (e :: es) t) (hn:x ≠ "__name__":=by decide) (hdb:(x == ("__debug__" : Str))=false:=by decide)
  (he:starEach (e :: es) X.env=(false,eval e X.env) :: starEach es X.env:=by rfl) (hpl:(backTo pos (starEach es X.env)).any (·.1)=false:=by rfl):PE X (.Call (.Name x p) (e :: es) [] pos) (sH r t):=by
 intro pins s σ H Q I h
 refine wpAny_Call_Name_kw (kO I hg hm hv ?_ hn hdb)
 exact ba5 (aQ (ha pos pins s σ H _ I h) fun us s1 ⟨vs,H1,I1,r1,q1⟩=>hc pins s1 σ H1 vs us Q I1 r1 q1) he hpl
end
end L2
namespace HT
open PySem PyProof.Rows
def aH:List Int->List Int->Bool
 | [],[]=>false
 | [],_ :: _=>true
 | _ :: _,[]=>false
 | x :: xs,y :: ys=>if x=y then aH xs ys else decide (x < y)
theorem fU (x y:Int) (xs ys:List Int):aH (x :: xs) (y :: ys)=if x=y then aH xs ys else decide (x < y):=rfl
theorem oI:aH [] []=false:=rfl
theorem x6 (y:Int) (ys:List Int):aH [] (y :: ys)=true:=rfl
theorem x8 (x:Int) (xs:List Int):aH (x :: xs) []=false:=rfl
theorem x9 (A:Around) (s:Shared) (a:Int) (t:Tok) (c:Int) (u:Tok):∃ e,SeqAt.EqAt A s (.int a t) (.int c u) e/\(e=true ↔ a=c):=
 ⟨(a == c),SeqAt.EqAt.int_int a t c u,by simp⟩
theorem ac6 (A:Around) (s:Shared) (a:Int) (t:Tok) (c:Int) (u:Tok) (prog:Program) (w:World) (E:Value->Shared->Prop) (Q:Value->Shared->Prop) (h:Q (.bool (decide (a < c))) s) :
  wpAny (model prog w) A (richCompare .Lt (.int a t) (.int c u)) Q E s:=
 (PyProof.Rows.lt_int h:wpAny (model prog w) A (compareOp .Lt (.int a t) (.int c u)) Q E s)
section
open PySem.SeqAt
open PySem.MeetsSeq PySem.MeetsSeq2 PySem.MeetsSeq3
theorem ac7 (l b:Addr) (items items2:Array Value) (n n2:Nat) (dd dd2:Option Addr) (sl sl2:Array (Option Value)) (ns ms:List Int) (hi:IntsAre items.toList ns) (hj:IntsAre items2.toList ms) :
  Meets (Builtin.«tuple.__lt__» ⟨[.ref l,.ref b],[]⟩)
   (fun _ R s=>s.heap.get? l=some { cls:=.type "tuple",dict:=dd,data:=.seq items n,slots:=sl }/\s.heap.get? b=some { cls:=.type "tuple",dict:=dd2,data:=.seq items2 n2,slots:=sl2 }/\
    R (.ok (.ret (.bool (aH ns ms)))) s):=
 .of_wp fun prog w A R s h=>by
  obtain ⟨hp,g,d,tk,os⟩:=s; obtain ⟨hl,hb,h⟩:=h
  have f2:=AutoSeq1.sub_tuple_tuple
  have z1:items.size=ns.length:=by rw [<- hi.length]; simp
  have z2:items2.size=ms.length:=by rw [<- hj.length]; simp
  wp_walk using aW6 hl,aW6 hb,wpAny_forIn_list _ (fun cB b s'=>b.1=none/\s'=⟨hp,g,d,tk,os⟩/\∃ (vs ws:List Value) (ns' ms':List Int),cB=vs.zip ws/\
   IntsAre vs ns'/\IntsAre ws ms'/\ns'.length+items2.size=ms'.length+items.size/\R (.ok (.ret (.bool (aH ns' ms')))) ⟨hp,g,d,tk,os⟩) _
  case turn=>
   rintro ⟨y,x⟩ cB b s' ⟨hb',rfl,vs,ws,ns',ms',hz,hvi,hwi,hlen,hR⟩
   cases hvi with
   | nil=>rw [List.zip_nil_left] at hz; cases hz
   | cons a t hvi'=>
    cases hwi with
    | nil=>rw [List.zip_nil_right] at hz; cases hz
    | cons c u hwi'=>
     rw [aU1] at hz
     injection hz with hyx hrest
     injection hyx with hy hx
     subst hy hx
     rw [fU] at hR
     simp only [aR9] at hlen
     obtain ⟨e,he,hiff⟩:=x9 A.in1 ⟨hp,g,d,tk,os⟩ a t c u
     refine aN3 (he prog w _ _ ?_)
     cases e with
     | true=>
      rw [if_pos (hiff.mp rfl)] at hR
      wp_walk
      exact⟨rfl,rfl,_,_,_,_,hrest,hvi',hwi',by omega,hR⟩
     | false=>
      rw [if_neg (fun q=>absurd (hiff.mpr q) aP9)] at hR
      have hri:=ac6 A.in1 ⟨hp,g,d,tk,os⟩ a t c u prog w
      wp_walk using hri
      exact⟨_,rfl,by simpa using hR⟩
  case fin=>
   rintro ⟨b1,b2⟩ s' ⟨hb',rfl,vs,ws,ns',ms',hz,hvi,hwi,hlen,hR⟩
   simp only at hb'
   subst hb'
   have hv:aH ns' ms'=decide (items.size < items2.size):=by
    cases hvi with
    | nil=>
     cases hwi with
     | nil=>
      simp only [bc0] at hlen
      rw [oI]
      exact (aO1 (by omega)).symm
     | cons c u hw=>
      simp only [bc0,aR9] at hlen
      rw [x6]
      exact (aO4 (by omega)).symm
    | cons a t hv=>
     cases hwi with
     | nil=>
      simp only [bc0,aR9] at hlen
      rw [x8]
      exact (aO1 (by omega)).symm
     | cons c u hw=>
      rw [aU1] at hz
      cases hz
   rw [hv] at hR
   wp_walk
   exact⟨_,rfl,by simpa [Builtin.Tuple.tupleCompareSizes] using hR⟩
  case h=>
   exact⟨rfl,rfl,items.toList,items2.toList,ns,ms,rfl,hi,hj,by omega,h⟩
end
section
variable {prog : Program} {w : World} {A : Around} {E : Value → Shared → Prop} {s : Shared}
theorem xA {l b:Addr}{items items2:Array Value}{ns ms:List Int}{Q:Value->Shared->Prop} (hl:IsTup s.heap l items) (hb:IsTup s.heap b items2) (hi:IntsAre items.toList ns) (hj:IntsAre items2.toList ms)
  (hu:A.units < cLine) (h:Q (.bool (aH ns ms)) s):wpAny (model prog w) A (compareOp .Lt (.ref l) (.ref b)) Q E s:=by
 obtain ⟨⟨cls,dd,data,sl⟩,ho,hc,n,hd⟩:=id hl
 obtain ⟨⟨cls2,dd2,data2,sl2⟩,ho2,hc2,n2,hd2⟩:=id hb
 simp only at hc hd hc2 hd2
 subst hc hd hc2 hd2
 exact richCompare_meets_room (op:=.Lt) ⟨_,ho,rfl⟩ ⟨_,ho2,rfl⟩ PySem.F.slot_tuple_lt PySem.F.entry_tuple_lt (PySem.F.args_tuple_lt_2 _ _) (ac7 l b items items2 n n2 dd dd2 sl sl2 ns ms hi hj)
  ⟨ho,ho2,show Value.bool (aH ns ms) ≠ Value.notImplemented/\Q (.bool (aH ns ms)) s from ⟨(fun x=>nomatch x),h⟩⟩ hu
def aS (n d:Nat):Option Int->Nat
 | none=>d
 | some v=>if v < 0 then (v+(n:Int)).toNat else min v.toNat n
theorem ac8 (n d:Nat):aS n d none=d:=rfl
theorem ac9 (n d:Nat) (hd:d<=n) (o:Option Int):aS n d o<=n:=by
 cases o with
 | none=>exact hd
 | some v=>
  show (if v < 0 then (v+(n:Int)).toNat else min v.toNat n)<=n
  by_cases hv:v < 0
  ·rw [if_pos hv]; omega
  ·rw [if_neg hv]; exact Nat.min_le_right _ _
theorem xB (v:Int) (n d:Nat):(if v < 0 then max (v+(n:Int)) 0 else min v (n:Int))=((aS n d (some v):Nat):Int):=by
 show (if v < 0 then max (v+(n:Int)) 0 else min v (n:Int))=(((if v < 0 then (v+(n:Int)).toNat else min v.toNat n):Nat):Int)
 by_cases hv:v < 0
 ·simp only [if_pos hv]; omega
 ·simp only [if_neg hv]; omega
theorem ad0 (lo hi:Option Int) (n:Nat):Builtin.Slice.sliceAdjust lo hi 1 (n:Int)=(((aS n 0 lo:Nat):Int),((aS n n hi:Nat):Int)):=by
 have h1 : ¬ ((1:Int) < 0):=by omega
 unfold Builtin.Slice.sliceAdjust
 simp only [h1,aV0]
 refine bb2 ?_ ?_
 ·cases lo with
  | none=>rfl
  | some v=>exact xB v n 0
 ·cases hi with
  | none=>rfl
  | some v=>exact xB v n n
theorem ad1 (i j:Nat):Builtin.Slice.slicePlaces (i:Int) (j:Int) 1=j - i:=by
 unfold Builtin.Slice.slicePlaces
 have h1:(1:Int) > 0:=by omega
 simp only [h1,if_true,Int.ediv_one]
 split <;> omega
theorem xC {v:Value}{o:Option Int}{Q:Option Int->Shared->Prop} (p:IsPart v o) (h:Q o s):wpAny (model prog w) A (Builtin.Slice.slicePartIndex v) Q E s:=by
 cases p with
 | none=>exact slicePart_none h
 | int i t=>exact slicePart_int h
theorem xD {sl:Addr}{vl vu:Value}{lo hi:Option Int}{n:Nat}{Q:Int × Int × Nat->Shared->Prop} (hs:s.heap.IsSliceOf sl vl vu .none) (pl:IsPart vl lo) (pu:IsPart vu hi)
  (h:Q (((aS n 0 lo:Nat):Int),1,aS n n hi - aS n 0 lo) s):wpAny (model prog w) A (Builtin.Slice.sliceApplied (.ref sl) (pure (n:Int))) Q E s:=by
 obtain ⟨os,hos,hcs,hds⟩:=id hs
 unfold Builtin.Slice.sliceApplied Builtin.Slice.sliceFields
 refine aN3 (aN3 (aT2 hos hds (x:=vl) rfl (aN3 (aT2 hos hds (x:=vu) rfl (aN3 (aT2 hos hds (x:=.none) rfl (aN8 ?_)))))))
 refine aN3 (slicePart_none ?_)
 show wpAny _ _ (if ((1:Int) == 0)=true then _ else _) _ _ s
 rw [if_neg (by decide)]
 refine aN3 (xC pl (aN3 (xC pu (aN3 (aN8 ?_)))))
 show wpAny _ _ (match Builtin.Slice.sliceAdjust lo hi 1 (n:Int) with | (lo,hi)=>pure (lo,(1:Int),Builtin.Slice.slicePlaces lo hi 1)) _ _ s
 rw [ad0 lo hi n]
 show wpAny _ _ (pure (((aS n 0 lo:Nat):Int),(1:Int),Builtin.Slice.slicePlaces ((aS n 0 lo:Nat):Int) ((aS n n hi:Nat):Int) 1)) _ _ s
 rw [ad1]
 exact aN8 h
theorem ad2 (xs:Array Value) (i k:Nat):((List.range k).filterMap fun (m:Nat)=>xs[((i:Int)+(m:Int) * 1).toNat]?).toArray=((xs.toList.drop i).take k).toArray:=by
 have e:(fun (m:Nat)=>xs[((i:Int)+(m:Int) * 1).toNat]?)=fun m=>xs[i+m]?:=by
  funext m
  have:((i:Int)+(m:Int) * 1).toNat=i+m:=by omega
  rw [this]
 rw [e]
 have:=pick_run xs i k
 rw [List.filterMap_map] at this
 have e2:((fun x=>xs[x]?) ∘ fun x=>i+x)=fun m=>xs[i+m]?:=rfl
 rw [e2] at this
 rw [this]
theorem ad3 {t sl:Addr}{items:Array Value}{vl vu:Value}{lo hi:Option Int}{Q:Value->Shared->Prop} (ht:IsTup s.heap t items) (hs:s.heap.IsSliceOf sl vl vu .none) (pl:IsPart vl lo) (pu:IsPart vu hi)
  (hw : ¬ (aS items.size 0 lo=0/\aS items.size items.size hi=items.size))
  (h:Q (.ref s.heap.objs.size) { s with heap:=s.heap.push { cls:=.type "tuple",data:=.seq ((items.toList.drop (aS items.size 0 lo)).take (aS items.size items.size hi - aS items.size 0 lo)).toArray } })
  (hsz:items.size<=sizeLine):wpAny (model prog w) A (getItem (.ref t) (.ref sl)) Q E s:=by
 have htake:sizeOk (.seq ((items.toList.drop (aS items.size 0 lo)).take (aS items.size items.size hi - aS items.size 0 lo)).toArray):=by
  show ((items.toList.drop (aS items.size 0 lo)).take (aS items.size items.size hi - aS items.size 0 lo)).toArray.size<=sizeLine
  rw [aN7,aZ4,ba8,aS0]
  omega
 have hj:aS items.size items.size hi<=items.size:=ac9 _ _ (aO6 _) hi
 obtain ⟨os,hos,hcs,hds⟩:=id hs
 have hTs:s.TypeIs (.ref sl) "slice":=⟨os,hos,hcs⟩
 unfold getItem
 try with_reducible refine aV5 ?_
 first | refine aN3 (aN8 ?_) | skip
 refine aN3 (wpAny_sequenceKey ht.typeIs (by decide) ?_)
 refine aN3 (aT3 (name:=Str.ofString "__getitem__") ht.typeIs aZ1
  (aT6 aZ1 ht.typeIs entry_tuple_getitem ?_ (args_tuple_getitem _ _)))
 show wpAny _ _ (Builtin.Tuple.tupleItemsOf (.ref t) >>= _) _ _ s
 refine aN3 (tupleItemsOf_ ht ?_)
 refine aN3 (wpAny_typeOf hTs ?_)
 rw [if_pos (by decide)]
 refine aN3 (xD hs pl pu ?_)
 have hno : ¬ ((((aS items.size 0 lo:Nat):Int) == 0 && (1:Int) == 1 && (aS items.size items.size hi - aS items.size 0 lo) == items.size)=true):=by
  intro q
  rw [aW9,aW9] at q
  have q1:((aS items.size 0 lo:Nat):Int)=0:=eq_of_beq q.1.1
  have q2:aS items.size items.size hi - aS items.size 0 lo=items.size:=eq_of_beq q.2
  exact hw ⟨by omega,by omega⟩
 show wpAny _ _ (if (((aS items.size 0 lo:Nat):Int) == 0 && (1:Int) == 1 && (aS items.size items.size hi - aS items.size 0 lo) == items.size)=true then _ else _) _ _ s
 rw [if_neg hno,ad2]
 first
  | exact aN3 (m:=Builtin.Tuple.tupleExact _) (aR8 (aN8 ⟨_,rfl,aN8 h⟩) htake)
  | exact aN3 (m:=Builtin.Tuple.tupleExact _) (aR8 (aN3 (aN8 (aN8 ⟨_,rfl,aN8 h⟩))) htake)
  | exact aN3 (aN3 (m:=Builtin.Tuple.tupleExact _) (aR8 (aN8 (aN8 ⟨_,rfl,aN8 h⟩)) htake))
  | exact aN3 (aN3 (m:=Builtin.Tuple.tupleExact _) (aR8 (aN8 ⟨_,rfl,aN8 h⟩) htake))
end
end HT
namespace L2
open PySem PySem.Spec PyProof.Rows
abbrev TO:=St->Hp->(Option Int->Hp->Prop)->Prop
def PO (X:Cx) (e:Option Expr) (t:TO):Prop:=
 ∀ (pins:List (Addr × Obj)) (s:Shared) (σ:St) (H:Hp) (Q:Option Int->Hp->Prop),a8 X pins σ H s->t σ H Q->
  wpAny (model X.prog X.w) X.A (evalPart e X.env) (fun u s'=>∃ o H',a8 X pins σ H' s'/\IsPart u o/\Q o H') X.xe s
def ad4:TO:=fun _ H Q=>Q none H
def ad5 (t:TE):TO:=fun σ H Q=>t σ H fun x H1=>∃ i,x = .int i/\Q (some i) H1
theorem iD {ns:List Int}:∀ {us:List Value},aK (ns.map V.int) us->IntsAre us ns:=by
 induction ns with
 | nil=>intro us r; rw [List.map_nil] at r; cases r; exact .nil
 | cons n ns ih=>
  intro us r
  rw [aT4] at r
  cases r with
  | cons r1 r2=>
   obtain ⟨t,e⟩:=r1
   subst e
   exact .cons n t (ih r2)
section
variable {X : Cx} {e : Expr} {te : TE} {lo hi : Option Expr} {tl th : TO} {pos p2 : Pos}
theorem ad6:PO X none ad4:=by
 intro pins s σ H Q I h
 rw [evalPart_none]
 exact aN8 ⟨none,H,I,.none,h⟩
theorem ad7 (h:PE X e te):PO X (some e) (ad5 te):=by
 intro pins s σ H Q I hw
 rw [evalPart_some]
 refine aQ (h pins s σ H _ I hw) fun u s1 ⟨x,H1,I1,r1,q1⟩=>?_
 obtain ⟨i,rfl,q⟩:=q1
 obtain ⟨t,rfl⟩:=r1
 exact⟨some i,H1,I1,.int i t,q⟩
def j6 (X:Cx) (r:V->Option Int->Option Int->Hp->VK->Prop):Prop:=
 ∀ (pins:List (Addr × Obj)) (s:Shared) (σ:St) (H:Hp) (x:V) (v vl vu:Value) (lo hi:Option Int) (sl:Addr) (Q:VK),a8 X pins σ H s->aR x v->s.heap.IsSliceOf sl vl vu .none->IsPart vl lo->IsPart vu hi->r x lo hi H Q->
  ∃ T id,typeLookup (.type T) "__getitem__" = pure (some (.builtin id))/\s.TypeIs v T/\wpAny (model X.prog X.w) X.A (getItem v (.ref sl)) (EP X pins σ Q) X.xe s
theorem j6.or {r r':V->Option Int->Option Int->Hp->VK->Prop} (h:j6 X r) (h':j6 X r'):j6 X (fun x lo hi H Q=>r x lo hi H Q ∨ r' x lo hi H Q):=by
 intro pins s σ H x v vl vu lo hi sl Q I rx hs pl pu q
 rcases q with q | q
 ·exact h pins s σ H x v vl vu lo hi sl Q I rx hs pl pu q
 ·exact h' pins s σ H x v vl vu lo hi sl Q I rx hs pl pu q
def tSl (r:V->Option Int->Option Int->Hp->VK->Prop) (te:TE) (tl th:TO):TE:=fun σ H Q=>te σ H fun x H1=>tl σ H1 fun l H2=>th σ H2 fun u H3=>r x l u H3 Q
theorem ad8 {r:V->Option Int->Option Int->Hp->VK->Prop} (hr:j6 X r) (he:PE X e te) (hl:PO X lo tl) (hu:PO X hi th):PE X (.Subscript e (.Slice lo hi none p2) pos) (tSl r te tl th):=by
 intro pins s σ H Q I h
 refine Subscript_ (aQ (he pins s σ H _ I h) fun v s1 ⟨x,H1,I1,r1,q1⟩=>?_)
 refine wpAny_Slice (aQ (hl pins s1 σ H1 _ I1 q1) fun vl s2 ⟨l,H2,I2,pl,q2⟩=>aQ (hu pins s2 σ H2 _ I2 q2) fun vu s3 ⟨u,H3,I3,pu,q3⟩=>?_)
 rw [evalPart_none]
 refine aN8 ?_
 have I4:a8 X pins σ H3 { s3 with heap:=s3.heap.push { cls:=.type "slice",data:=.fields #[vl,vu,.none] } }:=I3.kept (t':=s3.toks) fun b ob q=>aN5 _ q
 obtain ⟨T,id,hT,ht,hg⟩:=hr pins { s3 with heap:=s3.heap.push { cls:=.type "slice",data:=.fields #[vl,vu,.none] } } σ H3 x v vl vu l u s3.heap.objs.size Q I4 r1 (Heap.IsSliceOf.new ..) pl pu q3
 show wpAny (model X.prog X.w) X.A (subscriptTail e (.Slice lo hi none p2) v (.ref s3.heap.objs.size)) (EP X pins σ Q) X.xe { s3 with heap:=s3.heap.push { cls:=.type "slice",data:=.fields #[vl,vu,.none] } }
 exact tail_any (ops:=[.ref s3.heap.objs.size,v]) ht hT hg (by with_unfolding_all rfl)
def gF (xs:List V) (lo hi:Option Int):List V:=(xs.drop (HT.aS xs.length 0 lo)).take (HT.aS xs.length xs.length hi - HT.aS xs.length 0 lo)
theorem xE (xs:List V) (lo hi:Option Int):(gF xs lo hi).length<=xs.length:=by
 unfold gF
 rw [aZ4,ba8]
 omega
def ad9 (K:PySem.W.Frag):V->Option Int->Option Int->Hp->VK->Prop:=fun x lo hi H Q=>∃ a xs,x = .ref a/\aL K H a xs/\
 ¬ (HT.aS xs.length 0 lo=0/\HT.aS xs.length xs.length hi=xs.length)/\∀ p,H p=none->Q (.ref p) (upd H p (.tup (gF xs lo hi)))
theorem ae0:j6 X (ad9 X.K):=by
 intro pins s σ H x v vl vu lo hi sl Q I rx hs pl pu h
 obtain ⟨a,xs,rfl,hx,hw,q⟩:=h
 cases rx
 obtain ⟨its,r,ht,hz⟩:=I.tuple hx
 have hlen:its.toArray.size=xs.length:=by rw [aN7]; exact r.length.symm
 refine⟨"tuple",_,PyProof.Rows.slot_tuple_getitem.lookup,ht.typeIs,?_⟩
 refine HT.ad3 ht hs pl pu (by rw [hlen]; exact hw) ?_ (by rw [hlen]; exact hz)
 rw [hlen]
 refine⟨.ref s.heap.objs.size,_,I.laid (t':=s.toks) (o:=.tup (gF xs lo hi)) (fun b ob q=>aN5 _ q) (aO6 _) ?_,rfl,q _ (I.hok.fresh (aO6 _))⟩
 exact⟨aQ7 (xE xs lo hi) hz,_,(r.drop (HT.aS xs.length 0 lo)).take (HT.aS xs.length xs.length hi - HT.aS xs.length 0 lo),IsTup.new _ _,i8.new _ _ rfl⟩
def sJ (K:PySem.W.Frag):R2:=fun x y H Q=>∃ a b ns ms,x = .ref a/\y = .ref b/\aL K H a (ns.map V.int)/\aL K H b (ms.map V.int)/\Q (.bl (HT.aH ns ms)) H
theorem sK (hu:X.A.units < cLine):c7 X (compareOp .Lt) (sJ X.K):=by
 intro pins s σ H x y v u Q I rx ry h
 obtain ⟨a,b,ns,ms,rfl,rfl,ha,hb,q⟩:=h
 cases rx
 cases ry
 obtain ⟨its,r1,p1,_⟩:=I.tuple ha
 obtain ⟨its2,r2,p2,_⟩:=I.tuple hb
 have i1:IntsAre its.toArray.toList ns:=iD r1
 have i2:IntsAre its2.toArray.toList ms:=iD r2
 exact HT.xA p1 p2 i1 i2 hu ⟨.bl (HT.aH ns ms),H,I,rfl,q⟩
end
def jP (n:Nat) (i:Int):Option Nat:=if 0<=i then (if i < n then some i.toNat else none) else if -(n:Int)<=i then some (i+n).toNat else none
def atI {α:Type} (xs:List α) (i:Int):Option α:=(jP xs.length i).bind fun j=>xs[j]?
theorem ae1 {n:Nat}{i:Int}{j:Nat} (h:jP n i=some j):seqIndex? i n=some j/\j < n/\-(n:Int)<=i/\i < n:=by
 unfold jP at h
 by_cases h0:0<=i
 ·rw [if_pos h0] at h
  by_cases h1:i < n
  ·rw [if_pos h1] at h
   have e:i.toNat=j:=aQ0 h
   exact⟨by rw [seqIndex_of h0 h1,e],by omega,by omega,h1⟩
  ·rw [if_neg h1] at h; cases h
 ·rw [if_neg h0] at h
  by_cases h1 : -(n:Int)<=i
  ·rw [if_pos h1] at h
   have e:(i+n).toNat=j:=aQ0 h
   exact⟨by rw [seqIndex_neg (by omega) h1,e],by omega,h1,by omega⟩
  ·rw [if_neg h1] at h; cases h
theorem sM {α:Type}{xs:List α}{i:Int}{v:α} (h:atI xs i=some v):∃ j,seqIndex? i xs.length=some j/\xs[j]? = some v/\j < xs.length/\-(xs.length:Int)<=i/\i < xs.length:=by
 unfold atI at h
 cases e:jP xs.length i with
 | none=>rw [e] at h; cases h
 | some j=>
  rw [e] at h
  obtain ⟨h1,h2,h3,h4⟩:=ae1 e
  exact⟨j,h1,h,h2,h3,h4⟩
theorem oJ {α:Type}{xs:List α}{j:Nat}{v:α} (h:xs[j]? = some v):atI xs (j:Int)=some v:=by
 have hj:j < xs.length:=(aO7.mp h).1
 have e:jP xs.length (j:Int)=some j:=by
  unfold jP
  rw [if_pos (by omega),if_pos (by omega)]; simp
 unfold atI; rw [e]; exact h
def xF (b:Expr):Prop:=∀ o i,subscripted b false o i=operate [o,i] (getItem o i)
def iE (X:Cx) (r:R2):Prop:=
 ∀ (value slice:Expr) (pins:List (Addr × Obj)) (s:Shared) (σ:St) (H:Hp) (x y:V) (v u:Value) (Q:VK),a8 X pins σ H s->aR x v->aR y u->r x y H Q->
  subscripted slice false v u=operate [v,u] (getItem v u)->wpAny (model X.prog X.w) X.A (subscriptTail value slice v u) (EP X pins σ Q) X.xe s
def xG (X:Cx) (id:String) (r:V->List V->Hp->VK->Prop):Prop:=
 ∀ (pins:List (Addr × Obj)) (s:Shared) (σ:St) (H:Hp) (x:V) (xs:List V) (v:Value) (us:List Value) (Q:VK),a8 X pins σ H s->aR x v->aK xs us->r x xs H Q->
  wpAny (model X.prog X.w) X.A (call (.builtin id) (v :: us)) (EP X pins σ Q) X.xe s
section
variable {X : Cx} {a b : Expr} {ta tb : TE} {pos : Pos}
theorem iE.or {r r':R2} (h:iE X r) (h':iE X r'):iE X (fun x y H Q=>r x y H Q ∨ r' x y H Q):=by
 intro value slice pins s σ H x y v u Q I rx ry q hs
 rcases q with q | q
 ·exact h value slice pins s σ H x y v u Q I rx ry q hs
 ·exact h' value slice pins s σ H x y v u Q I rx ry q hs
theorem ae2 {r:R2} (hr:iE X r) (ha:PE X a ta) (hb:PE X b tb) (hs:xF b):PE X (.Subscript a b pos) (mF r ta tb):=by
 intro pins s σ H Q I h
 exact Subscript_ (rY ha hb I h fun v u s2 x y H2 I2 rx ry q=>hr a b pins s2 σ H2 x y v u Q I2 rx ry q (hs _ _))
def xH (K:PySem.W.Frag):R2:=fun x y H Q=>∃ p xs i v,x = .ref p/\y = .int i/\aM K H p xs/\atI xs i=some v/\Q v H
def xI (K:PySem.W.Frag):R2:=fun x y H Q=>∃ p xs i v,x = .ref p/\y = .int i/\aL K H p xs/\atI xs i=some v/\Q v H
def xJ:R2:=fun x y H Q=>∃ z i c,x = .str z/\y = .int i/\z.length<=sizeLine/\atI z.cps.toList i=some c/\Q (.str ⟨#[c]⟩) H
theorem ae3:iE X (xH X.K):=by
 intro value slice pins s σ H x y v u Q I rx ry h hs
 obtain ⟨p,xs,i,z,rfl,rfl,hq,he,q⟩:=h
 cases rx
 obtain ⟨t,rfl⟩:=ry
 obtain ⟨its,r,pl,hz⟩:=I.list hq
 obtain ⟨j,h1,h2,h3,h4,h5⟩:=sM he
 obtain ⟨w,ew,rw'⟩:=r.get h2
 have hl:=r.length
 have hn:=oG
 have fin:EP X pins σ Q w s:=⟨z,H,I,rw',q⟩
 by_cases h0:0<=i
 ·have hj:i.toNat=j:=by
   rw [seqIndex_of h0 h5] at h1
   exact aQ0 h1
  exact item_listR pl.isList h0 (by omega) (by rw [hj]; simpa using ew) fin hs
 ·have hj:(i+(its.toArray.size:Int)).toNat=j:=by
   rw [seqIndex_neg (by omega) h4] at h1
   rw [aN7,<- hl]
   exact aQ0 h1
  exact subscriptTail_builtinR (x:=w) pl.isList.typeIs slot_list_getitem.lookup
   (wpAny_getItem_list_neg (Q:=fun r s'=>r=w/\EP X pins σ Q r s') pl.isList (by omega) (by rw [aN7] <;> omega) (by omega) (by rw [hj]; simpa using ew) ⟨rfl,fin⟩) hs
theorem ae4:iE X (xI X.K):=by
 intro value slice pins s σ H x y v u Q I rx ry h hs
 obtain ⟨p,xs,i,z,rfl,rfl,hq,he,q⟩:=h
 cases rx
 obtain ⟨t,rfl⟩:=ry
 obtain ⟨its,r,pl,hz⟩:=I.tuple hq
 obtain ⟨j,h1,h2,h3,h4,h5⟩:=sM he
 obtain ⟨w,ew,rw'⟩:=r.get h2
 have hl:=r.length
 have hn:=oG
 have fin:EP X pins σ Q w s:=⟨z,H,I,rw',q⟩
 exact subscriptTail_builtinR (x:=w) pl.typeIs slot_tuple_getitem.lookup
  (getItem_tuple (j:=j) (Q:=fun r s'=>r=w/\EP X pins σ Q r s') pl (by omega) (by omega) (by rw [aN7,<- hl]; exact h1) (by simpa using ew) ⟨rfl,fin⟩) hs
theorem ae5:iE X xJ:=by
 intro value slice pins s σ H x y v u Q I rx ry h hs
 obtain ⟨z,i,c,rfl,rfl,hz,he,q⟩:=h
 obtain ⟨t,rfl⟩:=rx
 obtain ⟨t',rfl⟩:=ry
 obtain ⟨j,h1,h2,h3,h4,h5⟩:=sM he
 have hl:z.cps.toList.length=z.length:=by simp [Str.length]
 rw [hl] at h1 h4 h5
 have hn:=oG
 exact tail_any (typeIs_str s z t) slot_str_getitem.lookup (getItem_str (c:=c) (by
  have e1:decide (i < -(2 ^ 63:Int))=false:=aO1 (by omega)
  have e2:decide (i >= 2 ^ 63)=false:=aO1 (by omega)
  rw [e1,e2,Bool.or_false]) (by rw [h1]; simpa using h2) ⟨.str ⟨#[c]⟩,H,I.tok _,⟨_,rfl⟩,q⟩) hs
def xK (K:PySem.W.Frag):R2:=fun x y H Q=>xH K x y H Q ∨ xI K x y H Q ∨ xJ x y H Q
theorem ae6:iE X (xK X.K):=ae3.or (ae4.or ae5)
theorem ae7 (lo hi:Option Int) (n:Nat):(sliceBounds lo hi none n).1=((HT.aS n 0 lo:Nat):Int)/\(sliceBounds lo hi none n).2.1=((HT.aS n n hi:Nat):Int)/\(sliceBounds lo hi none n).2.2=1:=by
 refine⟨?_,?_,rfl⟩
 ·cases lo with
  | none=>simp [sliceBounds,HT.aS]
  | some i=>
   simp only [sliceBounds,HT.aS,Option.getD_none,show (1:Int) > 0 by decide,if_true]
   by_cases h:i < 0
   ·simp only [h,if_true] <;> omega
   ·simp only [h,aV0] <;> omega
 ·cases hi with
  | none=>simp [sliceBounds,HT.aS]
  | some i=>
   simp only [sliceBounds,HT.aS,Option.getD_none,show (1:Int) > 0 by decide,if_true]
   by_cases h:i < 0
   ·simp only [h,if_true] <;> omega
   ·simp only [h,aV0] <;> omega
theorem ae8 (its:List Value) (lo hi:Option Int):slicePick its.toArray lo hi none=((its.drop (HT.aS its.length 0 lo)).take (HT.aS its.length its.length hi - HT.aS its.length 0 lo)).toArray:=by
 obtain ⟨h1,h2,h3⟩:=ae7 lo hi its.toArray.size
 unfold slicePick
 rw [h1,h2,h3]
 simp only [sliceRange_one,pick_run,aN7] <;> rfl
def ae9 (K:PySem.W.Frag):V->Option Int->Option Int->Hp->VK->Prop:=fun x lo hi H Q=>∃ a xs,x = .ref a/\aM K H a xs/\∀ p,H p=none->Q (.ref p) (upd H p (.lst (gF xs lo hi)))
theorem af0:j6 X (ae9 X.K):=by
 intro pins s σ H x v vl vu lo hi sl Q I rx hs pl pu h
 obtain ⟨a,xs,rfl,hx,q⟩:=h
 cases rx
 obtain ⟨its,r,ht,hz⟩:=I.list hx
 have hlen:=r.length
 refine⟨"list",_,slot_list_getitem.lookup,ht.isList.typeIs,?_⟩
 refine wpAny_getItem_list_slice ht.isList hs pl pu .none (by simp) ?_ (by rw [aN7] <;> omega)
 rw [ae8,<- hlen]
 refine⟨.ref s.heap.objs.size,_,I.laid (t':=s.toks) (o:=.lst (gF xs lo hi)) (fun b ob q=>aN5 _ q) (aO6 _) ?_,rfl,q _ (I.hok.fresh (aO6 _))⟩
 exact⟨aQ7 (xE xs lo hi) hz,_,0,(r.drop (HT.aS xs.length 0 lo)).take (HT.aS xs.length xs.length hi - HT.aS xs.length 0 lo),aP1 _ rfl⟩
theorem af1:cG X (.builtin "len") (fun xs H Q=>∃ p ys,xs = [.ref p]/\(aM X.K H p ys ∨ aL X.K H p ys)/\Q (.int ys.length) H):=by
 intro pins s σ H xs us Q I r h
 obtain ⟨p,ys,rfl,hq,q⟩:=h
 obtain ⟨u,rfl,rx⟩:=gV r
 cases rx
 have hn:=oG
 rcases hq with hq | hq
 ·obtain ⟨its,r',pl,hz⟩:=I.list hq
  have hlen:=r'.length
  exact Calls.call_len_list pl.isList (by simp only [aN7] <;> omega) ⟨.int ys.length,H,I.tok _,⟨s.toks+1,by rw [aN7,hlen]⟩,q⟩
 ·obtain ⟨its,r',pl,hz⟩:=I.tuple hq
  have hlen:=r'.length
  exact len_tuple pl (by simp only [aN7] <;> omega) ⟨.int ys.length,H,I.tok _,⟨s.toks+1,by rw [aN7,hlen]⟩,q⟩
theorem cG.or {f:Value}{r r':List V->Hp->VK->Prop} (h:cG X f r) (h':cG X f r'):cG X f (fun xs H Q=>r xs H Q ∨ r' xs H Q):=by
 intro pins s σ H xs us Q I rs q
 rcases q with q | q
 ·exact h pins s σ H xs us Q I rs q
 ·exact h' pins s σ H xs us Q I rs q
theorem af2:cG X (.type "list") (fun xs H Q=>∃ p ys,xs = [.ref p]/\(aM X.K H p ys ∨ aL X.K H p ys)/\∀ l,H l=none->Q (.ref l) (upd H l (.lst ys))):=by
 intro pins s σ H xs us Q I r h
 obtain ⟨p,ys,rfl,hq,q⟩:=h
 obtain ⟨u,rfl,rx⟩:=gV r
 cases rx
 have fin:∀ (its:List Value),aK ys its->ys.length<=sizeLine->∀ (h':Heap) (c':Nat),(∀ b o',s.heap.get? b=some o'->h'.get? b=some o')->
   h'.get? s.heap.objs.size=some { cls:=.type "list",dict:=none,data:=.seq its.toArray c',slots:=#[] }->EP X pins σ Q (.ref s.heap.objs.size) { s with heap:=h' }:=fun its r' hz h' c' kp e=>
  ⟨.ref s.heap.objs.size,_,I.laid (t':=s.toks) kp (aO6 _) (show bR X.prog X.w _ h' _ (.lst ys) from ⟨hz,its,c',r',e⟩),rfl,q _ (I.hok.fresh (aO6 _))⟩
 rcases hq with hq | hq
 ·obtain ⟨its,r',pl,hz⟩:=I.list hq
  have hlen:=r'.length
  obtain ⟨o,ho,hc,n,hd⟩:=pl.isList
  exact call_list_seq p (.inl rfl) ho hc hd (fun h' c' kp e=>fin its r' hz h' c' kp e) (by simp only [aN7] <;> omega)
 ·obtain ⟨its,r',pl,hz⟩:=I.tuple hq
  have hlen:=r'.length
  obtain ⟨o,ho,hc,n,hd⟩:=pl
  exact call_list_seq p (.inr rfl) ho hc hd (fun h' c' kp e=>fin its r' hz h' c' kp e) (by simp only [aN7] <;> omega)
theorem af3:cG X (.type "tuple") (fun xs H Q=>∃ p ys,xs = [.ref p]/\((aM X.K H p ys/\∀ l,H l=none->Q (.ref l) (upd H l (.tup ys))) ∨ (aL X.K H p ys/\Q (.ref p) H))):=by
 intro pins s σ H xs us Q I r h
 obtain ⟨p,ys,rfl,h⟩:=h
 obtain ⟨u,rfl,rx⟩:=gV r
 cases rx
 rcases h with ⟨hq,q⟩ | ⟨hq,q⟩
 ·obtain ⟨its,r',pl,hz⟩:=I.list hq
  have hlen:=r'.length
  refine call_tuple_list pl.isList (fun h' kp=>?_) (by simp only [aN7] <;> omega)
  have I1:a8 X pins σ H { s with heap:=h' }:=I.kept (t':=s.toks) kp
  have I2:a8 X pins σ (upd H h'.objs.size (.tup ys)) { s with heap:=h'.push { cls:=.type "tuple",data:=.seq its.toArray } }:=
   I1.laid (t':=s.toks) (fun b o e=>aN5 _ e) (aO6 _) (show bR X.prog X.w _ _ _ (.tup ys) from ⟨hz,its,r',IsTup.new _ _,i8.new _ _ rfl⟩)
  exact⟨.ref h'.objs.size,_,I2,rfl,q _ (I1.hok.fresh (aO6 _))⟩
 ·obtain ⟨its,r',pl,hz⟩:=I.tuple hq
  exact call_tuple_same pl ⟨.ref p,H,I,rfl,q⟩
def mI (K:PySem.W.Frag) (T:String) (x:V) (H:Hp):Prop:=match x with
 | .str _=>T="str"
 | .int _=>T="int"
 | .ref p=>(T="list"/\∃ xs,aM K H p xs) ∨ (T="tuple"/\∃ o,K.lookup p=some o/\o.cls = .type "tuple"/\o.dict=none) ∨
   (T="dict"/\((∃ kvs,H p=some (.dK kvs)) ∨ ∃ kvs,H p=some (.dT kvs))) ∨ (T="set"/\∃ S n,H p=some (.set S n))
 | _=>False
theorem xL {pins:List (Addr × Obj)}{σ:St}{H:Hp}{s:Shared}{T:String}{x:V}{v:Value} (I:a8 X pins σ H s) (r:aR x v) (ty:mI X.K T x H) :
  s.TypeIs v T/\∀ a,v = .ref a->∃ ob,s.heap.get? a=some ob/\ob.dict=none:=by
 cases x with
 | str z=>
  obtain ⟨t,rfl⟩:=r
  cases (show T="str" from ty)
  exact⟨typeIs_str s z t,fun _ e=>nomatch e⟩
 | int i=>
  obtain ⟨t,rfl⟩:=r
  cases (show T="int" from ty)
  exact⟨typeIs_int s i t,fun _ e=>nomatch e⟩
 | ref p=>
  cases r
  rcases ty with ⟨rfl,xs,hq⟩ | ⟨rfl,o,hk,hc,hd⟩ | ⟨rfl,hk⟩ | ⟨rfl,S,n,hk⟩
  ·obtain ⟨its,_,pl,_⟩:=I.list hq
   refine⟨pl.isList.typeIs,fun a e=>?_⟩
   cases e
   obtain ⟨o,n,e,c,hd,_⟩:=pl
   exact⟨o,e,hd⟩
  ·refine⟨⟨o,I.kIn p o hk,hc⟩,fun a e=>?_⟩
   cases e
   exact⟨o,I.kIn _ o hk,hd⟩
  ·have z:∃ o,s.heap.get? p=some o/\o.ExactDict:=by
    rcases hk with ⟨kvs,hk⟩ | ⟨kvs,hk⟩
    ·obtain ⟨_,_,_,_,o,_,_,e,ex,_⟩:=I.hok p _ hk
     exact⟨o,e,ex⟩
    ·obtain ⟨_,_,_,_,o,_,_,e,ex,_⟩:=I.hok p _ hk
     exact⟨o,e,ex⟩
   obtain ⟨o,e,ex⟩:=z
   refine⟨⟨o,e,ex.1⟩,fun a e2=>?_⟩
   cases e2
   exact⟨o,e,ex.2.1⟩
  ·obtain ⟨o,_,_,_,e,ex,_⟩:=I.hok p _ hk
   refine⟨⟨o,e,ex.1⟩,fun a e2=>?_⟩
   cases e2
   exact⟨o,e,ex.2.1⟩
 | _=>exact False.elim ty
def xM (K:PySem.W.Frag) (T:String) (r:V->List V->Hp->VK->Prop) (to:TE):TE:=fun σ H Q=>to σ H fun x H1=>mI K T x H1/\r x [] H1 Q
def sN (K:PySem.W.Frag) (T:String) (r:V->List V->Hp->VK->Prop) (to:TE) (t:TA):TE:=fun σ H Q=>to σ H fun x H1=>mI K T x H1/\t σ H1 fun xs H2=>r x xs H2 Q
variable {o e : Expr} {es : List Expr} {to : TE} {t : TA} {name : Str} {apos cpos : Pos} {T id : String} {r : V → List V → Hp → VK → Prop}
theorem af4 (pa:PlainAttrs T) (slot:Slot T name id) (hty:typeOf (.builtin id)=pure (.type "method_descriptor")) (hm:xG X id r) (ho:PE X o to)
  (hbase:attributeBase o name X.env (eval o X.env)=eval o X.env:=by rfl) (hline:(apos.endLine == cpos.line)=true:=by rfl):PE X (.Call (.Attribute o name apos) [] [] cpos) (xM X.K T r to):=by
 intro pins s σ H Q I h
 refine wpAny_Call_method0_late hbase hline (aQ (ho pins s σ H _ I h) fun v s1 ⟨x,H1,I1,r1,ty,q1⟩=>?_)
 obtain ⟨h1,h2⟩:=xL I1 r1 ty
 exact⟨T,id,pa,slot,hty,h1,h2,Calls.callWith_builtin rfl (PySem.evalArgs_none (hm pins s1 σ H1 x [] v [] Q I1 r1 .nil q1))⟩
theorem xN (pa:PlainAttrs T) (slot:Slot T name id) (hty:typeOf (.builtin id)=pure (.type "method_descriptor")) (hm:xG X id r) (ho:PE X o to) (ha:PA X (e :: es) t)
  (hbase:attributeBase o name X.env (eval o X.env)=eval o X.env:=by rfl)
  (hfew:((backTo cpos (starEach (e :: es) X.env)).all (fun x=>!x.1) && (backToKw cpos (keywordEach [] X.env)).all (fun x=>x.1.isSome)
   && decide ((e :: es).length+([]:List Keyword).length+(if ([]:List Keyword).isEmpty then 0 else 1) < 30))=true:=by rfl)
  (hline:(apos.endLine == cpos.line)=true:=by rfl) (hs:starEach (e :: es) X.env=(false,eval e X.env) :: starEach es X.env:=by rfl) (hplain:(backTo cpos (starEach es X.env)).any (·.1)=false:=by rfl) :
  PE X (.Call (.Attribute o name apos) (e :: es) [] cpos) (sN X.K T r to t):=by
 intro pins s σ H Q I h
 refine wpAny_Call_method_late hbase hfew hline rfl (aQ (ho pins s σ H _ I h) fun v s1 ⟨x,H1,I1,r1,ty,q1⟩=>?_)
 obtain ⟨h1,h2⟩:=xL I1 r1 ty
 refine⟨T,id,pa,slot,hty,h1,h2,?_⟩
 have hA:=ha cpos pins s1 σ H1 _ I1 q1
 rw [hs] at hA ⊢
 refine Calls.callWith_builtin (by show (false || (backTo cpos (starEach es X.env)).any (·.1))=false; rw [hplain] <;> rfl) (Calls.evalArgs_plain ?_)
 exact aQ hA fun us s2 ⟨vs,H2,I2,r2,q2⟩=>hm pins s2 σ H2 x vs v us Q I2 r1 r2 q2
end
def oK (X:Cx) (id:String) (r:V->List V->Hp->VK->Prop):Prop:=
 ∀ (pins:List (Addr × Obj)) (s:Shared) (σ:St) (H:Hp) (x:V) (xs:List V) (v:Value) (us:List Value) (Q:VK),a8 X pins σ H s->aR x v->aK xs us->r x xs H Q->
  wpAny (model X.prog X.w) X.A (call (.builtin id) (v :: us)) (EP X pins σ Q) X.xe s
theorem aK.one {x:V}{us:List Value} (h:aK [x] us):∃ u,us = [u]/\aR x u:=by
 cases h with
 | cons r t=>
  cases t
  exact⟨_,rfl,r⟩
theorem aK.two {x y:V}{us:List Value} (h:aK [x,y] us):∃ u v,us = [u,v]/\aR x u/\aR y v:=by
 cases h with
 | cons r t=>
  cases t with
  | cons q t=>
   cases t
   exact⟨_,_,rfl,r,q⟩
theorem aK.zero:∀ {us:List Value},aK [] us->us = []
 | _,.nil=>rfl
theorem aK.dropLast {xs:List V}{us:List Value} (h:aK xs us):aK xs.dropLast us.dropLast:=by
 induction h with
 | nil=>exact .nil
 | cons r t ih=>
  cases t with
  | nil=>exact .nil
  | cons q t'=>exact .cons r ih
theorem aK.eraseIdx:∀ {xs:List V}{us:List Value} (i:Nat),aK xs us->aK (xs.eraseIdx i) (us.eraseIdx i)
 | _,_,_,.nil=>.nil
 | _,_,0,.cons _ t=>t
 | _,_,i+1,.cons r t=>.cons r (aK.eraseIdx i t)
theorem af5 {α:Type} (l:List α):l.eraseIdx (l.length - 1)=l.dropLast:=by
 induction l with
 | nil=>rfl
 | cons a r ih=>
  cases r with
  | nil=>rfl
  | cons b r=>
   have e:(a :: b :: r).length - 1=((b :: r).length - 1)+1:=by
    have h1:(a :: b :: r).length=r.length+2:=rfl
    have h2:(b :: r).length=r.length+1:=rfl
    omega
   rw [e,List.eraseIdx_cons_succ,ih]
   all_goals rfl
section
variable {X : Cx} {pins : List (Addr × Obj)} {σ : St} {H : Hp} {s : Shared} {l b : Addr} {xs ys zs : List V}
theorem a8.lset {its its':List Value}{n:Nat}{f:Array Value->Array Value}{t':Nat} (I:a8 X pins σ H s) (hH:H l=some (.lst xs))
  (e:s.heap.get? l=some { cls:=.type "list",data:=.seq its.toArray n }) (hf:f its.toArray=its'.toArray) (hv:aK ys its') (hz:ys.length<=sizeLine) :
  a8 X pins σ (upd H l (.lst ys)) { s with heap:=s.heap.update l (Obj.mapSeq f),toks:=t' }:=by
 have q:=PySem.IsL.update e f
 rw [hf] at q
 refine I.write (x:=l) (e:=l) (by rw [hH]; exact trivial) (.inl rfl) (fun b' u hb hu=>(ba6 s.heap (Obj.mapSeq f) (Ne.symm hb)).trans hu) ⟨_,q⟩ ?_
 exact⟨hz,its',_,hv,q⟩
theorem a8.lstM (I:a8 X pins σ H s) (hH:H l=some (.lst xs)):xs.length<=sizeLine/\∃ (its:List Value) (n:Nat),aK xs its/\xs.length=its.length/\s.heap.get? l=some { cls:=.type "list",data:=.seq its.toArray n }:=by
 obtain ⟨z,its,n,r,e⟩:=I.hok l _ hH
 exact⟨z,its,n,r,r.length,e⟩
end
section
variable {X : Cx}
def xO:V->List V->Hp->VK->Prop:=fun x vs H Q=>∃ l xs y,x = .ref l/\vs = [y]/\H l=some (.lst xs)/\xs.length < sizeLine/\Q .non (upd H l (.lst (xs ++ [y])))
theorem xP:oK X "list.append" xO:=by
 intro pins s σ H x vs v us Q I rx rv h
 obtain ⟨l,xs,y,rfl,rfl,hH,hz,q⟩:=h
 cases rx
 obtain ⟨u,rfl,ru⟩:=rv.one
 obtain ⟨z,its,n,r,hl,e⟩:=I.lstM hH
 refine call_meets F.slot_list_append ⟨_,e,rfl⟩ F.entry_list_append (F.args_list_append_2 _ _) (PySem.list_append l its.toArray n u (by rw [aN7]; omega)) ⟨e,?_⟩
 refine⟨.non,_,I.lset (its':=its ++ [u]) hH e (by simp) (r.append (.cons ru .nil)) ?_,rfl,q⟩
 rw [aR3,aS6]
 omega
def af6:V->List V->Hp->VK->Prop:=fun x vs H Q=>∃ l xs y,x = .ref l/\vs = []/\H l=some (.lst xs)/\xs[xs.length - 1]? = some y/\Q y (upd H l (.lst xs.dropLast))
theorem aN1:oK X "list.pop" af6:=by
 intro pins s σ H x vs v us Q I rx rv h
 obtain ⟨l,xs,y,rfl,rfl,hH,hy,q⟩:=h
 cases rx
 have hus:=rv.zero
 subst hus
 obtain ⟨z,its,n,r,hl,e⟩:=I.lstM hH
 obtain ⟨u,hu,ru⟩:=r.get hy
 have hy':its.toArray[its.toArray.size - 1]? = some u:=by
  show its.toArray[its.length - 1]? = some u
  rw [<- aW0,<- hl]
  exact hu
 refine call_meets F.slot_list_pop ⟨_,e,rfl⟩ F.entry_list_pop (F.args_list_pop_1 _) (MeetsSeq.list_pop_last l its.toArray n u hy' (by rw [aN7]; omega)) ⟨e,?_⟩
 refine⟨y,_,I.lset (its':=its.dropLast) hH e ?_ r.dropLast ?_,ru,q⟩
 ·show its.toArray.eraseIdxIfInBounds (its.toArray.size - 1)=its.dropLast.toArray
  rw [aN7,List.eraseIdxIfInBounds_toArray,af5]
 ·rw [List.length_dropLast]
  omega
def xQ:V->List V->Hp->VK->Prop:=fun x vs H Q=>∃ l xs,x = .ref l/\vs = []/\H l=some (.lst xs)/\Q .non (upd H l (.lst []))
theorem af7:oK X "list.clear" xQ:=by
 intro pins s σ H x vs v us Q I rx rv h
 obtain ⟨l,xs,rfl,rfl,hH,q⟩:=h
 cases rx
 have hus:=rv.zero
 subst hus
 obtain ⟨z,its,n,r,hl,e⟩:=I.lstM hH
 refine call_meets F.slot_list_clear ⟨_,e,rfl⟩ F.entry_list_clear (F.args_list_clear_1 _) (AutoSeq1.list_clear_list_0 l its.toArray n (by rw [aN7]; omega)) ⟨e,?_⟩
 exact⟨.non,_,I.lset (its':=[]) (ys:=[]) hH e rfl .nil (aV7 _),rfl,q⟩
end
section
variable {κ : Type} [DecidableEq κ]
def eB (kvs:List (κ × V)) (k:κ):Option V:=(kvs.find? fun kv=>decide (kv.1=k)).map (·.2)
def eV (kvs:List (κ × V)) (k:κ) (v:V):List (κ × V):=
 if (kvs.any fun kv=>decide (kv.1=k))=true then kvs.map (fun kv=>if kv.1=k then (kv.1,v) else kv) else kvs ++ [(k,v)]
theorem sO {p:κ × V}{r:List (κ × V)}{k:κ} (e:p.1=k):eB (p :: r) k=some p.2:=by simp [eB,aX9,e]
theorem sP {p:κ × V}{r:List (κ × V)}{k:κ} (e : ¬ p.1=k):eB (p :: r) k=eB r k:=by simp [eB,aX9,e]
theorem xR (k:κ):∀ kvs:List (κ × V),(kvs.any fun kv=>decide (kv.1=k))=(eB kvs k).isSome
 | []=>rfl
 | p :: r=>by
  rw [List.any_cons]
  by_cases e:p.1=k
  ·simp only [sO e,aO4 e,Bool.true_or,Option.isSome_some]
  ·rw [sP e,aO1 e,Bool.false_or]; exact xR k r
theorem xS (kvs:List (κ × V)) (k:κ) (v:V):(eV kvs k v).length<=kvs.length+1:=by
 unfold eV
 split
 ·rw [aO2]; omega
 ·rw [aR3,aR9,bc0]; omega
theorem jJ.isSome_eq {o:Option V}{u:Option Value} (r:jJ o u):o.isSome=u.isSome:=by
 cases o with
 | none=>cases u with
  | none=>rfl
  | some _=>exact (show False from r).elim
 | some _=>cases u with
  | none=>exact (show False from r).elim
  | some _=>rfl
theorem KV.val {kvs:List (κ × V)}{vs:List (κ × Value)} (r:KV kvs vs) (k:κ):jJ (eB kvs k) (valueAt vs k):=by
 unfold KV at r
 induction r with
 | nil=>exact bd2
 | @cons p q ps qs h t ih=>
  obtain ⟨h1,h2⟩:=h
  by_cases e:p.1=k
  ·have e':q.1=k:=h1.symm.trans e
   have b:valueAt (q :: qs) k=some q.2:=by simp [valueAt,aX9,e']
   rw [sO e,b]; exact h2
  ·have e' : ¬ q.1=k:=fun z=>e (h1.trans z)
   have b:valueAt (q :: qs) k=valueAt qs k:=by simp [valueAt,aX9,e']
   rw [sP e,b]; exact ih
theorem KV.any {kvs:List (κ × V)}{vs:List (κ × Value)} (r:KV kvs vs) (k:κ):(kvs.any fun kv=>decide (kv.1=k))=vs.any fun kv=>decide (kv.1=k):=by
 unfold KV at r
 induction r with
 | nil=>rfl
 | cons h t ih=>rw [List.any_cons,List.any_cons,ih,h.1]
theorem KV.repl {kvs:List (κ × V)}{vs:List (κ × Value)} (r:KV kvs vs) (k:κ) {y:V}{u:Value} (ry:aR y u) :
  KV (kvs.map fun kv=>if kv.1=k then (kv.1,y) else kv) (vs.map fun kv=>if kv.1=k then (kv.1,u) else kv):=by
 unfold KV at r ⊢
 induction r with
 | nil=>exact .nil
 | @cons p q ps qs h t ih=>
  rw [aT4,aT4]
  refine .cons ?_ ih
  obtain ⟨h1,h2⟩:=h
  by_cases e:p.1=k
  ·rw [if_pos e,if_pos (h1.symm.trans e)]; exact⟨h1,ry⟩
  ·rw [if_neg e,if_neg (fun z=>e (h1.trans z))]; exact⟨h1,h2⟩
theorem KV.put {kvs:List (κ × V)}{vs:List (κ × Value)} (r:KV kvs vs) (k:κ) {y:V}{u:Value} (ry:aR y u):KV (eV kvs k y) (stored vs k u):=by
 unfold eV stored
 rw [r.any k]
 by_cases e:(vs.any fun kv=>decide (kv.1=k))=true
 ·rw [if_pos e,if_pos e]; exact r.repl k ry
 ·rw [if_neg e,if_neg e]; exact Paired.snoc r ⟨rfl,ry⟩
theorem KV.length {kvs:List (κ × V)}{vs:List (κ × Value)} (r:KV kvs vs):kvs.length=vs.length:=Paired.length r
end
theorem sQ {P:Program}{w:World}{k:aJ}{u:Value} (r:aR (kV k) u):(eQ P w).is k u=true:=by
 cases k with
 | inl i=>obtain ⟨t,e⟩:=(show ∃ t,u=Value.int i t from r); subst e; exact V8 P w i t
 | inr x=>obtain ⟨t,e⟩:=(show ∃ t,u=Value.str x t from r); subst e; exact V9 P w x t
theorem xT {P:Program}{w:World}:∀ {ks:List aJ}{us:List Value},aK (ks.map kV) us->ItemsAre (eQ P w) ks us
 | [],_,r=>by rw [List.map_nil] at r; cases r; exact .nil
 | k :: ks,_,r=>by
  rw [aT4] at r
  cases r with
  | cons h t=>exact .cons (sQ h) (xT t)
abbrev KT (H:Hp):List (List aJ × V)->List (List aJ × Addr × Value)->Prop:=Paired fun p q=>p.1=q.1/\H q.2.1=some (.tup (p.1.map kV))/\aR p.2 q.2.2
theorem KT.val {H:Hp}{kvs:List (List aJ × V)}{xs:List (List aJ × Addr × Value)} (r:KT H kvs xs) (k:List aJ):jJ (eB kvs k) ((atKey xs k).map (·.2)):=by
 induction r with
 | nil=>exact bd2
 | @cons p q ps qs h t ih=>
  obtain ⟨h1,_,h2⟩:=h
  by_cases e:p.1=k
  ·have e':q.1=k:=h1.symm.trans e
   have b:atKey (q :: qs) k=some q.2:=by simp [atKey,aX9,e']
   rw [sO e,b]; exact h2
  ·have e' : ¬ q.1=k:=fun z=>e (h1.trans z)
   have b:atKey (q :: qs) k=atKey qs k:=by simp [atKey,aX9,e']
   rw [sP e,b]; exact ih
theorem KT.repl {H:Hp}{kvs:List (List aJ × V)}{xs:List (List aJ × Addr × Value)} (r:KT H kvs xs) (k:List aJ) {y:V}{u:Value} (ry:aR y u) :
  KT H (kvs.map fun kv=>if kv.1=k then (kv.1,y) else kv) (xs.map (putAt k u)):=by
 induction r with
 | nil=>exact .nil
 | @cons p q ps qs h t ih=>
  rw [aT4,aT4]
  refine .cons ?_ ih
  obtain ⟨h1,h2,h3⟩:=h
  unfold putAt
  by_cases e:p.1=k
  ·rw [if_pos e,if_pos (h1.symm.trans e)]; exact⟨h1,h2,ry⟩
  ·rw [if_neg e,if_neg (fun z=>e (h1.trans z))]; exact⟨h1,h2,h3⟩
theorem KT.put {H:Hp}{kvs:List (List aJ × V)}{xs:List (List aJ × Addr × Value)} (r:KT H kvs xs) (k:List aJ) {b:Addr}{y:V}{u:Value} (hb:H b=some (.tup (k.map kV))) (ry:aR y u) :
  KT H (eV kvs k y) (storedH xs k b u):=by
 have e:(kvs.any fun kv=>decide (kv.1=k))=(atKey xs k).isSome:=by
  rw [xR,(r.val k).isSome_eq,Option.isSome_map]
 unfold eV storedH
 rw [e]
 by_cases q:(atKey xs k).isSome=true
 ·rw [if_pos q,if_pos q]; exact r.repl k ry
 ·rw [if_neg q,if_neg q]; exact Paired.snoc r ⟨rfl,hb,ry⟩
theorem KT.keeps {H H':Hp}{kvs:List (List aJ × V)}{xs:List (List aJ × Addr × Value)} (r:KT H kvs xs) (ht:∀ b ys,H b=some (.tup ys)->H' b=some (.tup ys)):KT H' kvs xs:=
 Paired.mapP r fun _ _ z=>⟨z.1,ht _ _ z.2.1,z.2.2⟩
section
variable {P : Program} {w : World} {H : Hp} {h : Heap} {a : Addr}
theorem xU {u:HO} (ok:bP P w H h) (e:Rd H a u):bR P w H h a u:=e.ok ok
theorem oM {kvs:List (aJ × V)} (ok:bP P w H h) (e:Rd H a (.dK kvs)):kvs.length<=sizeLine/\(a == sysModules)=false/\∃ vs,KV kvs vs/\h.DictOf (eQ P w) a vs:=
 show bR P w H h a (.dK kvs) from xU ok e
theorem af8 {kvs:List (aJ × V)} (ok:bP P w H h) (e:H a=some (.dK kvs)):kvs.length<=sizeLine/\(a == sysModules)=false/\∃ vs,KV kvs vs/\h.DictOf (eQ P w) a vs:=oM ok (.inl e)
theorem oN {ks:List aJ} (ok:bP P w H h) (e:H a=some (.tup (ks.map kV))):(tupleKind (eQ P w)).is h ks a:=by
 obtain ⟨_,its,r,⟨o,h1,h2,n,h3⟩,_⟩:=(show bR P w H h a (.tup (ks.map kV)) from ok a _ e)
 exact⟨o,its.toArray,n,h1,h2,h3,by simpa using xT r⟩
theorem sR {kvs:List (List aJ × V)} (ok:bP P w H h) (e:Rd H a (.dT kvs)):kvs.length<=sizeLine/\(a == sysModules)=false/\
  ∃ xs,KT H kvs xs/\h.DictOfH (tupleKind (eQ P w)) a xs:=by
 obtain ⟨z,y,xs,r,o,es,ep,h1,h2,h3,h4,h5⟩:=(show bR P w H h a (.dT kvs) from xU ok e)
 refine⟨z,y,xs,r,o,es,ep,h1,h2,h3,h4,fun x hx=>?_,h5⟩
 have all:∀ {l:List (List aJ × V)}{m:List (List aJ × Addr × Value)},KT H l m->∀ x ∈ m,(tupleKind (eQ P w)).is h x.1 x.2.1:=by
  intro l m q
  induction q with
  | nil=>intro x hx; exact nomatch hx
  | @cons p q ps qs hq t ih=>
   intro x hx
   rcases aO0.mp hx with e | hx
   ·subst e
    exact oN ok (by rw [<- hq.1]; exact hq.2.1)
   ·exact ih x hx
 exact all r x hx
theorem xV {kvs:List (List aJ × V)} (ok:bP P w H h) (e:H a=some (.dT kvs)):kvs.length<=sizeLine/\(a == sysModules)=false/\
  ∃ xs,KT H kvs xs/\h.DictOfH (tupleKind (eQ P w)) a xs:=sR ok (.inl e)
end
def iF (H:Hp) (a:Addr) (y:V) (r:Option V):Prop:=
 (∃ kvs k,Rd H a (.dK kvs)/\y=kV k/\r=eB kvs k) ∨ ∃ kvs k b,Rd H a (.dT kvs)/\y = .ref b/\H b=some (.tup (k.map kV))/\r=eB kvs k
def mJ (H:Hp) (a:Addr) (y v:V) (H':Hp):Prop:=
 (∃ kvs k,H a=some (.dK kvs)/\y=kV k/\kvs.length < sizeLine/\H'=upd H a (.dK (eV kvs k v))) ∨
 ∃ kvs k b,H a=some (.dT kvs)/\y = .ref b/\H b=some (.tup (k.map kV))/\kvs.length < sizeLine/\H'=upd H a (.dT (eV kvs k v))
theorem iF.k {H:Hp}{a:Addr}{kvs:List (aJ × V)}{k:aJ} (e:H a=some (.dK kvs)):iF H a (kV k) (eB kvs k):=.inl ⟨kvs,k,.inl e,rfl,rfl⟩
theorem iF.t {H:Hp}{a b:Addr}{kvs:List (List aJ × V)}{k:List aJ} (e:H a=some (.dT kvs)) (eb:H b=some (.tup (k.map kV))):iF H a (.ref b) (eB kvs k):=.inr ⟨kvs,k,b,.inl e,rfl,eb,rfl⟩
theorem mJ.t {H:Hp}{a b:Addr}{kvs:List (List aJ × V)}{k:List aJ}{v:V} (e:H a=some (.dT kvs)) (eb:H b=some (.tup (k.map kV))) (hl:kvs.length < sizeLine) :
  mJ H a (.ref b) v (upd H a (.dT (eV kvs k v))):=.inr ⟨kvs,k,b,e,rfl,eb,hl,rfl⟩
section
variable {X : Cx} {pins : List (Addr × Obj)} {σ : St} {H : Hp} {s : Shared} {a : Addr} {y v : V} {u r : Value} {o : Option V} {A : Around} {E : Value → Shared → Prop}
theorem a8.big (I:a8 X pins σ H s):sysModules < s.heap.objs.size:=by
 have h:mainGlobals < s.heap.objs.size:=(I.mod.glob.keeps I.bk).lt
 exact Nat.lt_trans (by decide) h
theorem af9 {Q:Value->Shared->Prop} (hu:A.units+1 < cLine) (I:a8 X pins σ H s) (g:iF H a y o) (ry:aR y u) (h:∀ s',a8 X pins σ H s'->Q (.bool (!o.isSome)) s') :
  wpAny (model X.prog X.w) A (compareOp .NotIn u (.ref a)) Q E s:=by
 rcases g with ⟨kvs,k,e,ey,l⟩ | ⟨kvs,k,b,e,ey,eb,l⟩
 ·subst ey
  obtain ⟨z,hd,vs,rel,dd⟩:=oM I.hok e
  refine wpAny_notIn_of (sQ ry) hd dd.mapOf ?_
  rw [<- (rel.val k).isSome_eq,<- l]
  exact h _ (I.tok _)
 ·subst ey
  cases (show u=Value.ref b from ry)
  obtain ⟨z,hd,xs,rel,dd⟩:=sR I.hok e
  refine wpAny_notIn_heap (tupleKind_room_in1 hu) (oN I.hok eb) hd dd ?_
  have q:=(rel.val k).isSome_eq
  rw [Option.isSome_map] at q
  rw [<- q,<- l]
  exact h _ (I.tok _)
theorem sS {h':Heap}{t':Nat}{ob:HO} (I:a8 X pins σ H s) (mu:m8 (H a)) (hs:Heap.SameBut a s.heap h') (he:∃ q,h'.get? a=some q) (new:bR X.prog X.w (upd H a ob) h' a ob) :
  a8 X pins σ (upd H a ob) { s with heap:=h',toks:=t' }:=
 I.write (x:=a) (e:=a) mu (.inl rfl) (fun b q hb z=>(hs.2 b hb).trans z) he new
theorem ag0 {P:Program}{w:World}{H':Hp}{h':Heap}{kvs:List (aJ × V)}{vs:List (aJ × Value)} (z:kvs.length<=sizeLine) (hd:(a == sysModules)=false) (rel:KV kvs vs) (dd:h'.DictOf (eQ P w) a vs) :
  bR P w H' h' a (.dK kvs):=⟨z,hd,vs,rel,dd⟩
theorem ag1 {H':Hp}{Q:Unit->Shared->Prop} (hu:A.units+1 < cLine) (I:a8 X pins σ H s) (g:mJ H a y v H') (ry:aR y u) (rv:aR v r) (h:∀ s',a8 X pins σ H' s'->Q () s') :
  wpAny (model X.prog X.w) A (setItem (.ref a) u r) Q E s:=by
 rcases g with ⟨kvs,k,e,ey,l,eH⟩ | ⟨kvs,k,b,e,ey,eb,l,eH⟩
 ·subst ey eH
  obtain ⟨z,hd,vs,rel,dd⟩:=af8 I.hok e
  have hz:vs.length<=sizeLine:=by rw [<- rel.length]; exact z
  have hl:(eV kvs k v).length<=sizeLine:=by have:=xS kvs k v; omega
  refine wpAny_setItem_pairs (hsz:=hz) (sQ ry) dd fun h' dd' hs=>h _ ?_
  have he:∃ q,h'.get? a=some q:=let ⟨q,_,_,hq,_⟩:=dd'; ⟨q,hq⟩
  exact sS I (by rw [e]; exact bd2) hs he (ag0 hl hd (rel.put k rv) dd')
 ·subst ey eH
  cases (show u=Value.ref b from ry)
  obtain ⟨z,hd,xs,rel,dd⟩:=xV I.hok e
  have hz:xs.length<=sizeLine:=by rw [<- Paired.length rel]; exact z
  have hl:(eV kvs k v).length<=sizeLine:=by have:=xS kvs k v; omega
  refine wpAny_setItem_heap (hsz:=hz) (tupleKind_room_in1 hu) (oN I.hok eb) dd fun h' dd' hs=>h _ ?_
  obtain ⟨q,es,ep,hq,h2,h3,h4,_,h5⟩:=dd'
  refine sS I (by rw [e]; exact bd2) hs ⟨q,hq⟩ ⟨hl,hd,_,(rel.put k eb rv).keeps fun c ys ec=>?_,q,es,ep,hq,h2,h3,h4,h5⟩
  rw [aZ (vZ ec e (fun z=>nomatch z))]
  exact ec
end
section
variable {X : Cx} {pins : List (Addr × Obj)} {σ : St} {H : Hp} {s : Shared} {a : Addr} {kvs : List (aJ × V)} {k : aJ} {u : Value} {A : Around} {E : Value → Shared → Prop}
theorem ag2 {Q:Value->Shared->Prop} (I:a8 X pins σ H s) (e:Rd H a (.dK kvs)) (h:∀ t s',a8 X pins σ H s'->Q (.int kvs.length t) s'):wpAny (model X.prog X.w) A (call (.builtin "len") [.ref a]) Q E s:=by
 obtain ⟨z,hd,vs,rel,dd⟩:=oM I.hok e
 refine call_len_dict hd dd (by rw [<- rel.length]; rw [sizeLine_eq] at z; omega) ?_
 rw [<- rel.length]
 exact h _ _ (I.tok _)
end
def xW (ty td:TE):TE:=fun σ H Q=>ty σ H fun y H1=>td σ H1 fun x H2=>∃ a o,x = .ref a/\iF H2 a y o/\Q (.bl (!o.isSome)) H2
def xX (td ty tv:TE):TS:=fun D σ H=>tv σ H fun v H1=>td σ H1 fun x H2=>ty σ H2 fun y H3=>∃ a H4,x = .ref a/\mJ H3 a y v H4/\D.nx σ H4
section
variable {X : Cx} {o i e value : Expr} {pos pos' tpos : Pos} {td ty tv : TE}
theorem ag3 (hu:X.A.units+1 < cLine) (hi:PE X i ty) (ho:PE X o td):PC X .NotIn i o (xW ty td):=by
 intro pins s σ H Q I h
 refine aQ (hi pins s σ H _ I h) fun iv s1 ⟨y,H1,I1,ry,q1⟩=>aQ (ho pins s1 σ H1 _ I1 q1) fun u s2 ⟨x,H2,I2,rx,a,ov,ex,g,q2⟩=>?_
 subst ex
 obtain rfl:u=Value.ref a:=rx
 exact af9 hu I2 g ry fun s3 I3=>⟨.bl (!ov.isSome),H2,I3,rfl,q2⟩
theorem ag4 (hu:X.A.units+1 < cLine) (ho:PE X o td) (hi:PE X i ty) (hv:PE X value tv) (hs:swapsWith value (some (.Subscript o i pos')) pos.line X.env=pure false) :
  PS X (.Assign [.Subscript o i pos'] value pos) (xX td ty tv):=by
 intro pins s σ H D I h
 refine wpAny_Assign_Subscript (aQ (hv pins s σ H _ I h) fun r s1 ⟨v,H1,I1,rv,q1⟩=>aQ (ho pins s1 σ H1 _ I1 q1) fun u s2 ⟨x,H2,I2,rx,q2⟩=>aQ (hi pins s2 σ H2 _ I2 q2) fun iv s3 ⟨y,H3,I3,ry,a,H4,ex,g,q3⟩=>?_) hs
 subst ex
 obtain rfl:u=Value.ref a:=rx
 exact ag1 hu I3 g ry rv fun s4 I4=>⟨σ,H4,I4,q3⟩
end
theorem ag5 {P:Program}{w:World}{H:Hp} (h:Heap) (hb:sysModules < h.objs.size):bR P w H (h.push { cls:=.type "dict",data:=.dict #[] }) h.objs.size (.dT []):=
 ⟨aV7 _,beq_eq_false_iff_ne.mpr (Ne.symm (aQ6 hb)),[],.nil,_,#[],0,aP1 _ rfl,⟨rfl,rfl,rfl⟩,rfl,rfl,List.nodup_nil⟩
def xY:TE:=fun _ H Q=>∀ p,H p=none->Q (.ref p) (upd H p (.dT []))
section
variable {X : Cx} {pos : Pos}
theorem ag6:PE X (.Dict [] [] pos) xY:=fun pins s σ H Q I h=>
 wpAny_Dict_empty ⟨.ref s.heap.objs.size,_,I.laid (a:=s.heap.objs.size) (o:=.dT []) (t':=s.toks) (fun _ _ q=>aN5 _ q) (aO6 _) (ag5 s.heap I.big),rfl,h _ (I.hok.fresh (aO6 _))⟩
end
structure M1 (X:Cx) (o:Expr) (m:Str) (apos:Pos) (e:Expr) (cpos:Pos):Prop where
 base:attributeBase o m X.env (eval o X.env)=eval o X.env
 few:((backTo cpos (starEach [e] X.env)).all (fun x=>!x.1) && (backToKw cpos (keywordEach [] X.env)).all (fun x=>x.1.isSome)
  && decide (([e]:List Expr).length+([]:List Keyword).length+(if ([]:List Keyword).isEmpty then 0 else 1) < 30))=true
 line:(apos.endLine == cpos.line)=true
 trees:backTo cpos (starEach [e] X.env) = [(false,eval e X.env)]
structure M2 (X:Cx) (o:Expr) (m:Str) (apos:Pos) (e f:Expr) (cpos:Pos):Prop where
 base:attributeBase o m X.env (eval o X.env)=eval o X.env
 few:((backTo cpos (starEach [e,f] X.env)).all (fun x=>!x.1) && (backToKw cpos (keywordEach [] X.env)).all (fun x=>x.1.isSome)
  && decide (([e,f]:List Expr).length+([]:List Keyword).length+(if ([]:List Keyword).isEmpty then 0 else 1) < 30))=true
 line:(apos.endLine == cpos.line)=true
 trees:backTo cpos (starEach [e,f] X.env) = [(false,eval e X.env),(false,eval f X.env)]
def xZ (H:Hp) (a:Addr):Prop:=(∃ kvs,Rd H a (.dK kvs)) ∨ ∃ kvs,Rd H a (.dT kvs)
theorem ag7 {X:Cx}{pins:List (Addr × Obj)}{σ:St}{H:Hp}{s:Shared}{a:Addr} (I:a8 X pins σ H s) (d:xZ H a) :
  s.TypeIs (.ref a) "dict"/\(∀ b,Value.ref a = .ref b->∃ ob,s.heap.get? b=some ob/\ob.dict=none)/\(a == sysModules)=false:=by
 rcases d with ⟨kvs,e⟩ | ⟨kvs,e⟩
 ·obtain ⟨_,hd,vs,_,dd⟩:=oM I.hok e
  refine⟨dd.typeIs,fun b q=>?_,hd⟩
  cases q
  obtain ⟨ob,_,_,h1,h2,_⟩:=dd
  exact⟨ob,h1,h2.2.1⟩
 ·obtain ⟨_,hd,xs,_,dd⟩:=sR I.hok e
  refine⟨dd.typeIs,fun b q=>?_,hd⟩
  cases q
  obtain ⟨ob,_,_,h1,h2,_⟩:=dd
  exact⟨ob,h1,h2.2.1⟩
end L2
namespace Att
open PySem PySem.W PySem.Calls PyProof.Rows
theorem ag8 {P:Params}{h:Heap}:∀ (ns:List Int) (vs:List Value),WellAll P h vs (ns.map WData.int)->IntsAre vs ns:=by
 intro ns
 induction ns with
 | nil=>
  intro vs w
  rw [List.map_nil] at w
  cases w
  exact .nil
 | cons n ns ih=>
  intro vs w
  rw [aT4] at w
  cases w with
  | cons a b=>
   cases a
   exact .cons _ _ (ih _ b)
theorem y8 {l:OpenLaw}{n:Nat} (hn:l.most=some n) {P:Params}{h:Heap}{args:List WData}{vals:List Value}
  (hpre:l.row.toRowW.claim.pre args=true) (hwl:WellAll P h vals args) :
  ∃ a vs ns,vals = [Value.ref a]/\args = [WData.list (ns.map WData.int)]/\h.get? a=some { cls:=.type "list",data:=.seq vs.toArray }/\IntsAre vs ns/\ns.length<=n:=by
 have hsh:WShape.hasAll [] args [.list .int]=true:=(pre_splitW hpre).1
 have hc:l.pre.holds [] { args:=args }=true:=(pre_splitW hpre).2
 obtain ⟨d,r,rfl,h1,h2⟩:=hasAllW_cons hsh
 obtain rfl:=hasAllW_nil h2
 obtain ⟨xs,rfl,h3⟩:=hasW_list h1
 obtain ⟨ns,rfl⟩:=items_int h3
 have hlen:ns.length<=n:=by
  unfold OpenLaw.pre at hc
  have h4:(WTm.not (.lt (.lit (.int (n:Int))) (.len (.arg 0)))).holds [] { args:=[.list (ns.map .int)] }=true:=by
   have h4:=(holds_andW hc).1
   rw [hn] at h4
   exact h4
  have h5:=condW_of h4 (w_not (w_lt w_lit (w_len_list (w_arg rfl))))
  rw [aO2] at h5
  refine Nat.le_of_not_lt fun q=>?_
  have q':(n:Int) < ((ns.length:Nat):Int):=by omega
  first
   | (rw [aO4 q'] at h5; exact absurd h5 (by decide))
   | (simp at h5; omega)
 cases hwl with
 | cons w1 w2=>
  cases w2
  cases w1 with
  | list ho hall=>exact⟨_,_,ns,rfl,rfl,ho,ag8 ns _ hall,hlen⟩
theorem y9 (l:OpenLaw) (args:List WData):l.row.toRowW.claim.post args (.bool true) args=true:=
 postW_of (r:=l.row.toRowW) (X:=(true == true))
  (show WShape.has [] (.bool true) .bool=true by first | rfl | decide | simp [WShape.has,WShape.arms,WShape.armsAll])
  (show (WTm.eq .res (.lit (.bool true))).value [] { args:=args,res:=some (.bool true),after:=args }=some (.bool (true == true)) from w_eq_bool (w_res rfl) w_lit) rfl
theorem aN2 {l:OpenLaw}{n:Nat}{q:Program}{loose:List Str}{XP:(Str->Option Value)->Heap->Prop}{YP:World->Heap->Prop}{d:DefRec}{x:Str}
  (hn:l.most=some n) (hdf:d.params.defaults = [])
  (hbind:∀ pm cd doc v:Value,bindArgs (docDef d.name d.params d.body d.scope pm cd doc) ⟨[v],[]⟩=pure [(x,v)])
  (hx:d.scope.names.lookup x=some .local ∨ d.scope.names.lookup x=some .cell)
  (hk:d.scope.kind = .function) (hco:d.scope.isCoroutine=false) (hgen:d.scope.isGenerator=false)
  (body:∀ (w:World) (s₀ s₁ s:Shared) (mg mb:Str->Option Value) (fa:Addr) (o:Obj) (pm cd doc:Value) (a:Addr) (vs:List Value) (ns:List Int),
   Ground q loose [] XP w s₀ mg mb s₁.heap->YP w s₁.heap->
   s₁.heap.get? fa=some o->o.data = .func (docDef d.name d.params d.body d.scope pm cd doc)->s₁.heap.CodeRec cd d.name->mg d.name=some (.ref fa)->
   s₁.heap.get? a=some { cls:=.type "list",data:=.seq vs.toArray }->IntsAre vs ns->ns.length<=n->
   s.gens = #[]->s.os=s₁.os->
   Fr s₁.heap s₁.heap.objs.size s.heap (bindL (envOfC d.name d.scope s₁.heap.objs.size fa cd).kindOf [(x,.ref a)] fun _=>none)->
   Cl s₁.heap.objs.size (cellsFrom (s₁.heap.objs.size+1) d.scope.names []) s.heap (bindC (envOfC d.name d.scope s₁.heap.objs.size fa cd).kindOf [(x,.ref a)] fun _=>none)->
   wpAny (model l.prog w) (callerA.deeper (envOfC d.name d.scope s₁.heap.objs.size fa cd)) (execs d.body (envOfC d.name d.scope s₁.heap.objs.size fa cd))
    (fun f s'=>f = .ret (.bool true)/\OldK s₁.heap s'.heap/\s'.os=s₁.os/\AllBare s'.gens) (fun _ _=>False) s) :
  WalkO q loose XP YP l.row.toRowW d [] (fun f vs=>PySem.call f vs):=by
 intro w s₀ s₁ mg mb G Y fa o pm cd doc dV kV ho hd hcd hD hmg hg args vals as hpre hlay hrd hwl hlo
 obtain rfl:dV = .none:=Dflts.none hD hdf
 obtain rfl:kV = .none:=Dflts.noKw hD
 obtain ⟨a,vs,ns,rfl,rfl,hobj,hints,hlen⟩:=y8 hn hpre hwl
 refine enter_call ?_
 refine call_cells_ret (o:=o) (by rw [depth_caller]; decide) ho (fd_plain hd) G.T.nolimit hcd (hbind pm cd doc (.ref a)) (fun y hy=>?_) (fun h₁ tk F X=>?_) hco hgen hk
 ·obtain rfl:y=(x,Value.ref a):=aP0.mp hy
  rcases hx with e | e
  ·exact .inl e
  ·exact .inr ⟨e,cellsFrom_some _ _ _ (.inl e)⟩
 ·refine aY1 (body w s₀ s₁ { s₁ with heap:=h₁,toks:=tk } mg mb fa o pm cd doc a vs ns G Y ho (fd_plain hd) hcd hmg hobj hints hlen hg rfl F X) (fun f s' hq=>?_) (fun _ _ hq=>hq)
  obtain ⟨rfl,h2,h3,h4⟩:=hq
  exact⟨.inl ⟨.bool true,.bool true,[],rfl,fun _=>rfl,.bool true,y9 l _,fun _=>⟨aX7,fun _ hm=>(nomatch hm)⟩⟩,h2,h3,h4⟩
theorem ag9 {l:OpenLaw}{n:Nat}{q:Program}{loose:List Str}{XP:(Str->Option Value)->Heap->Prop}{YP:World->Heap->Prop}{d:DefRec}
  (hn:l.most=some n) (hdf:d.params.defaults = [])
  (call:∀ (w:World) (s₀ s₁:Shared) (mg mb:Str->Option Value) (fa:Addr) (o:Obj) (pm cd doc:Value) (a:Addr) (vs:List Value) (ns:List Int),
   Ground q loose [] XP w s₀ mg mb s₁.heap->YP w s₁.heap->
   s₁.heap.get? fa=some o->o.data = .func (docDef d.name d.params d.body d.scope pm cd doc)->s₁.heap.CodeRec cd d.name->mg d.name=some (.ref fa)->
   s₁.heap.get? a=some { cls:=.type "list",data:=.seq vs.toArray }->IntsAre vs ns->ns.length<=n->s₁.gens = #[]->
   codeAny (model l.prog w) callerA (.call (.ref fa) ⟨[.ref a],[]⟩) (fun r s'=>r = .ok (.ret (.bool true))/\OldK s₁.heap s'.heap/\s'.os=s₁.os/\AllBare s'.gens) s₁) :
  WalkO q loose XP YP l.row.toRowW d [] (fun f vs=>PySem.call f vs):=by
 intro w s₀ s₁ mg mb G Y fa o pm cd doc dV kV ho hd hcd hD hmg hg args vals as hpre hlay hrd hwl hlo
 obtain rfl:dV = .none:=Dflts.none hD hdf
 obtain rfl:kV = .none:=Dflts.noKw hD
 obtain ⟨a,vs,ns,rfl,rfl,hobj,hints,hlen⟩:=y8 hn hpre hwl
 refine enter_call (codeAny_mono (call w s₀ s₁ mg mb fa o pm cd doc a vs ns G Y ho (fd_plain hd) hcd hmg hobj hints hlen hg) fun r s' hq=>?_)
 obtain ⟨rfl,h2,h3,h4⟩:=hq
 exact⟨.inl ⟨.bool true,.bool true,[],rfl,fun _=>rfl,.bool true,y9 l _,fun _=>⟨aX7,fun _ hm=>(nomatch hm)⟩⟩,h2,h3,h4⟩
end Att
namespace L2
open PySem PySem.Spec PyProof.Rows
theorem yA:∀ {vs:List Value}{ns:List Int},IntsAre vs ns->aK (ns.map V.int) vs
 | _,_,.nil=>.nil
 | _,_,.cons n t h=>.cons ⟨t,rfl⟩ (yA h)
def oO (H:Hp):Prop:=∀ b,H b=none ∨ ∃ o xs,H b=some (.frz o (.lst xs))
theorem ah0 {P:Program}{w:World}{K:PySem.W.Frag}{mg mb:Str->Option Value}{CX:fQ}{k:Nat}{fa a:Addr}{fd:FuncData}{x:Str}{sp:Sp}{s₁:Shared}{vs:List Value}{ns:List Int}
  (KX:K.In s₁.heap) (hns:s₁.heap.Ns mainGlobals mg) (hb:s₁.heap.Ns builtinsNs mb) (hbb:∀ x:Str,x ≠ "__name__"->mb x=bootBuiltins x) (hlim:s₁.heap.NoLimit) (hg:s₁.gens = #[])
  (ha:s₁.heap.get? a=some { cls:=.type "list",data:=.seq vs.toArray }) (hi:IntsAre vs ns) (hl:ns.length<=sizeLine) (hr:bX k callerA)
  (F:∀ base:Heap,K.In base->base.Ns mainGlobals mg->dA P w K mg base CX k fa fd [x] sp) (hbind:∀ (s:Shared) (u:Value),BindsTo s fd ⟨[u],[]⟩ [(x,u)])
  (hsp:∀ H:Hp,oO H->aM K H a (ns.map V.int)->sp [.ref a] H (fun v _=>v = .bl true) fun _ _ _=>False)
  (hCX:∀ H e s',CX [] H s₁ (fun _ _ _=>False) e s'->False) :
  codeAny (model P w) callerA (.call (.ref fa) ⟨[.ref a],[]⟩) (fun r s'=>r = .ok (.ret (.bool true))/\OldK s₁.heap s'.heap/\s'.os=s₁.os/\AllBare s'.gens) s₁:=by
 have rv:=yA hi
 have lenV:=hi.length
 have core:∀ H:Hp,oO H->aM K H a (ns.map V.int)->bP P w H s₁.heap->(∀ b,H b ≠ none->b=a)->(H a ≠ none->K.lookup a=none)->
   codeAny (model P w) callerA (.call (.ref fa) ⟨[.ref a],[]⟩) (fun r s'=>r = .ok (.ret (.bool true))/\OldK s₁.heap s'.heap/\s'.os=s₁.os/\AllBare s'.gens) s₁:=by
  intro H hO hS hok hA hK
  have base_of:∀ {b:Addr}{o:Obj},s₁.heap.get? b=some o->H b=none->(i9 s₁.heap H).get? b=some o:=fun e n=>W5 e n
  have noA:∀ {b:Addr}{o:Obj}{es:Array DictEntry}{ep:Nat},s₁.heap.get? b=some o->o.data = .dict es ep->H b=none:=fun {b o es ep} e d=>by
   cases q:H b with
   | none=>rfl
   | some u=>
    have e':b=a:=hA b (by rw [q]; simp)
    subst e'
    rw [ha] at e; cases e
    have d':Data.seq vs.toArray _=Data.dict es ep:=d
    cases d'
  have nsK:∀ {b:Addr}{m:Str->Option Value},s₁.heap.Ns b m->(i9 s₁.heap H).Ns b m:=fun {b m} ⟨o,es,ep,e,d,r⟩=>⟨o,es,ep,base_of e (noA e d),d,r⟩
  have hKb:K.In (i9 s₁.heap H):=fun b o e=>base_of (KX b o e) (by
   cases q:H b with
   | none=>rfl
   | some u=>
    have e':b=a:=hA b (by rw [q]; simp)
    subst e'
    rw [hK (by rw [q]; simp)] at e; cases e)
  have hM:Mod K mg (i9 s₁.heap H):=⟨hKb,nsK hns,⟨mb,nsK hb,hbb⟩,let ⟨mc,h1,h2⟩:=hlim; ⟨mc,nsK h1,h2⟩⟩
  have e0:oH P w K mg (i9 s₁.heap H) callerA [] s₁ H:=⟨rfl,hM,fun b o e=>W6 e,Nat.le_of_eq (W0 _ _),trivial,fun b hb=>absurd (show b ∈ ([]:List Addr) from hb) (by simp),hok,.of_eq hg⟩
  refine codeAny_mono ((F _ hKb (nsK hns)).run callerA [] s₁ H ⟨[.ref a],[]⟩ [.ref a] [.ref a] _ _ hr e0 (hbind s₁ (.ref a)) (.cons rfl .nil) (hsp H hO hS)) fun r s' h=>?_
  cases r with
  | error e=>exact (hCX H e s' h).elim
  | ok fl=>
   cases fl with
   | next=>exact False.elim h
   | brk=>exact False.elim h
   | cont=>exact False.elim h
   | ret u=>
    obtain ⟨v,H',os,bare,un,hok',r',q⟩:=h
    have q':v = .bl true:=q
    subst q'
    obtain rfl:u=Value.bool true:=r'
    refine⟨rfl,OldK.of_keep fun b o e=>?_,os,bare⟩
    cases q:H b with
    | none=>exact un.keep b o e q (by intro z; exact absurd (show b ∈ ([]:List Addr) from z) (by simp)) (by simp)
    | some u=>
     rcases hO b with z | ⟨ob,xs,z⟩
     ·rw [q] at z; cases z
     ·have z2:=un.frzs b ob _ z
      obtain ⟨e1,_⟩:=hok b _ z
      obtain ⟨e2,_⟩:=hok' b _ z2
      rw [e] at e1; cases e1
      exact e2
 cases hk:K.lookup a with
 | some o=>
  have e:=KX a o hk
  rw [ha] at e
  cases e
  refine core (fun _=>none) (fun _=>.inl rfl) (.inr ⟨_,vs.toArray,_,hk,rfl,rfl,rfl,by rw [aN7,lenV]; exact hl,by simpa using rv⟩) (fun b u z=>by have z':(none:Option HO)=some u:=z; cases z') (fun b z=>absurd rfl z) fun z=>absurd rfl z
 | none=>
  refine core (fun b=>if b=a then some (.frz { cls:=.type "list",data:=.seq vs.toArray } (.lst (ns.map V.int))) else none) (fun b=>?_) (.inl (.inr ⟨{ cls:=.type "list",data:=.seq vs.toArray },if_pos rfl⟩)) (fun b u z=>?_) (fun b z=>?_) fun _=>hk
  ·by_cases hb:b=a
   ·exact .inr ⟨_,_,if_pos hb⟩
   ·exact .inl (if_neg hb)
  ·by_cases hb:b=a
   ·have z':=(if_pos hb).symm.trans z
    cases z'
    subst hb
    exact⟨ha,by rw [aO2]; exact hl,vs,_,rv,ha⟩
   ·have z':=(if_neg hb).symm.trans z
    cases z'
  ·by_cases hb:b=a
   ·exact hb
   ·exact absurd (if_neg hb) z
theorem ah1 {l:PySem.W.OpenLaw}{n k:Nat}{q:Program}{loose:List Str}{XP:(Str->Option Value)->Heap->Prop}{YP:World->Heap->Prop}{d:DefRec}{K:Params->PySem.W.Frag}{CX:World->fQ}{sp:World->Sp}{x:Str}
  (hn:l.most=some n) (hn2:n<=sizeLine) (hdf:d.params.defaults = []) (hr:bX k callerA)
  (hY:∀ (w:World) (h:Heap),YP w h->(K w.params).In h)
  (F:∀ (w:World) (mg:Str->Option Value) (fa:Addr) (h:Heap),(K w.params).In h->h.Ns mainGlobals mg->mg d.name=some (.ref fa)->
   ∃ fd:FuncData,(∀ (s:Shared) (u:Value),BindsTo s fd ⟨[u],[]⟩ [(x,u)])/\
    ∀ base:Heap,(K w.params).In base->base.Ns mainGlobals mg->dA l.prog w (K w.params) mg base (CX w) k fa fd [x] (sp w))
  (hsp:∀ (w:World) (H:Hp) (a:Addr) (ns:List Int),ns.length<=n->oO H->aM (K w.params) H a (ns.map V.int)->sp w [.ref a] H (fun v _=>v = .bl true) fun _ _ _=>False)
  (hCX:∀ (w:World) (H:Hp) (s:Shared) (e:Value) (s':Shared),CX w [] H s (fun _ _ _=>False) e s'->False) :
  PySem.W.WalkO q loose XP YP l.row.toRowW d [] (fun f vs=>PySem.call f vs):=by
 refine Att.ag9 hn hdf fun w s₀ s₁ mg mb fa o pm cd doc a vs ns G Y ho hd hcd hmg hobj hints hlen hg=>?_
 have KX:=hY w _ Y
 obtain ⟨fd,hb,hF⟩:=F w mg fa _ KX G.T.g hmg
 exact ah0 KX G.T.g G.T.b G.T.builtins G.T.nolimit hg hobj hints (aQ7 hlen hn2) hr hF hb (fun H hO hS=>hsp w H a ns hlen hO hS) fun H e s'=>hCX w H s₁ e s'
def iG (s:Stmt):Arguments:=match s with
 | .FunctionDef _ a _ _ _ _ _ _ _ _=>a
 | _=>{ posonlyargs:=[],args:=[],vararg:=none,kwonlyargs:=[],kw_defaults:=[],kwarg:=none,defaults:=[] }
def dO (s:Stmt):List Stmt:=match s with
 | .FunctionDef _ _ b _ _ _ _ _ _ _=>b
 | _=>[]
def aV (s:Stmt):Scope:=match s with
 | .FunctionDef _ _ _ _ _ _ sc _ _ _=>sc
 | _=>{ kind:=.function,names:=[],isGenerator:=false,isCoroutine:=false }
abbrev eC:fQ:=fun _ _ _ _ _ _=>False
abbrev E0:XK:=fun _ _ _=>False
theorem ah2 {X:Cx}:mH eC X E0:=fun _ _ _ _ _ _ _ h=>h.elim
structure fD (K:PySem.W.Frag) (x qual:Str) (st:Stmt) (f:Addr) (fd:FuncData):Prop where
 ex:∃ (oc:Value) (od:Option Addr) (kV doc pm:Value) (an:Option Addr) (cdv ct:Value) (osl:Array (Option Value)),
  fd=PySem.W.fnOf x qual (iG st) (dO st) (aV st) .none kV doc pm an cdv ct/\K.lookup f=some ⟨oc,od,.func fd,osl⟩/\PySem.W.codeIn K cdv qual=true
 kp:PySem.W.keepIn K (.ref f)=true
section
variable {P : Program} {w : World} {K : PySem.W.Frag} {mg : Str → Option Value} {base : Heap}
theorem fD.ok {x qual:Str}{st:Stmt}{f:Addr}{fd:FuncData}{N ps:List Str}{k:Nat}{sp:Sp} (F:fD K x qual st f fd) (S:FnScope N ps (aV st)) (len:∀ vs H Q E,sp vs H Q E->vs.length=ps.length)
  (hbody:∀ (cdv:Value) (A:Around) (outer:List Env) (s:Shared) (H:Hp) (vs:List V) (Q:VK) (E:XK),bX k (A.deeper (envOfC qual (aV st) s.heap.objs.size f cdv))->sp vs H Q E->
   ∃ t,dE (cS eC P w K mg base N qual (aV st) f cdv A outer s H E).nox (dO st) t/\t { nx:=fun _ H'=>Q .non H',rt:=Q } (fR N vs) H):dA P w K mg base eC (k+1) f fd ps sp:=by
 obtain ⟨oc,od,kV,doc,pm,an,cdv,ct,osl,rfl,lk,hcd⟩:=F.ex
 refine x4 lk hcd S len fun A outer s H vs Q E hr hsp=>?_
 obtain ⟨t,h,q⟩:=hbody cdv A outer s H vs Q E hr hsp
 exact⟨t,h.nox,q⟩
theorem fD.binds {x qual:Str}{st:Stmt}{f:Addr}{fd:FuncData}{ps:List Str} (F:fD K x qual st f fd)
  (h:∀ (kV doc pm:Value) (an:Option Addr) (cdv ct:Value) (us:List Value),us.length=ps.length->bindArgs (PySem.W.fnOf x qual (iG st) (dO st) (aV st) .none kV doc pm an cdv ct) ⟨us,[]⟩=pure (ps.zip us)):j5 K fd ps []:=by
 obtain ⟨oc,od,kV,doc,pm,an,cdv,ct,osl,rfl,lk,hcd⟩:=F.ex
 exact .all (h kV doc pm an cdv ct)
theorem ah3 {x qual:Str}{st:Stmt}{f:Addr}{oc:Value}{od an:Option Addr}{osl:Array (Option Value)}{kV doc pm cdv ct:Value} (l:K.lookup f=some ⟨oc,od,.func (PySem.W.fnOf x qual (iG st) (dO st) (aV st) .none kV doc pm an cdv ct),osl⟩)
  (c:PySem.W.codeIn K cdv qual=true) (k:PySem.W.keepIn K (.ref f)=true):fD K x qual st f (PySem.W.fnOf x qual (iG st) (dO st) (aV st) .none kV doc pm an cdv ct):=⟨⟨oc,od,kV,doc,pm,an,cdv,ct,osl,rfl,l,c⟩,k⟩
end
theorem jQ {A:Around}{k:Nat} (hr:bX k A):A.units+1 < cLine:=Nat.lt_of_le_of_lt (Nat.add_le_add_left (by decide:1<=64) _) hr.units
theorem ah4 {n:Nat} (h:n<=1000):n < sizeLine:=Nat.lt_of_le_of_lt h (by decide)
section
variable {X : Cx}
theorem ah5:cG X (.builtin "len") (fun xs H Q=>∃ a kvs,xs = [V.ref a]/\H a=some (.dK kvs)/\Q (.int kvs.length) H):=by
 intro pins s σ H xs us Q I r h
 obtain ⟨a,kvs,rfl,ha,q⟩:=h
 obtain ⟨u,rfl,ru⟩:=gV r
 cases ru
 exact ag2 I (.inl ha) fun t s' I'=>⟨.int kvs.length,H,I',⟨t,rfl⟩,q⟩
end
theorem b6 {A B:Prop} (h:B):if false=true then A else B:=by
 rw [if_neg aP9]
 exact h
theorem bI {A B:Prop} (h:A):if true=true then A else B:=by
 rw [if_pos rfl]
 exact h
def aE (H H':Hp):Prop:=∀ b o,H b=some o->H' b=some o
theorem aE.refl (H:Hp):aE H H:=fun _ _ h=>h
theorem aE.trans {H H1 H2:Hp} (a:aE H H1) (b:aE H1 H2):aE H H2:=fun c o h=>b c o (a c o h)
theorem aE.free {H H':Hp} (e:aE H H') {l:Addr} (h:H' l=Option.none):H l=Option.none:=by
 cases q:H l with
 | none=>rfl
 | some o=>
  rw [e l o q] at h
  cases h
def dF (cells:List (Str × Addr)):List (Str × NameKind)->List (Str × Addr)->List (Str × Addr)
 | [],cs=>cs
 | (n,k) :: r,cs=>dF cells r (if k == .free then (n,(cells.lookup n).getD 0) :: cs else cs)
theorem sU {env:Env}:∀ (ns:List (Str × NameKind)) (cs:List (Str × Addr)),(∀ x ∈ ns,x.2 = .free->∃ c,env.cells.lookup x.1=some c)->
  (forIn ns cs (fun (x:Str × NameKind) r=>(match x with
   | (name,kind)=>if (kind == .free)=true then (do let y <- cellOf env name; pure (ForInStep.yield ((name,y) :: r))) else pure (ForInStep.yield r)):_->_->Sem _))=(pure (dF env.cells ns cs):Sem (List (Str × Addr)))
 | [],cs,_=>by rw [List.forIn_nil]; rfl
 | (n,k) :: r,cs,h=>by
  rw [List.forIn_cons]
  have hr:∀ x ∈ r,x.2 = .free->∃ c,env.cells.lookup x.1=some c:=fun x hx=>h x (aO3 _ hx)
  cases hk:(k == NameKind.free) with
  | true=>
   have e:k = .free:=by simpa using hk
   obtain ⟨c,hc⟩:=h (n,k) aO9 e
   simp only [hk,if_true]
   have e1:cellOf env n=pure c:=by unfold cellOf; rw [hc]
   rw [e1]
   show ((pure c >>= fun y=>pure (ForInStep.yield ((n,y) :: cs))) >>= _:Sem _)=_
   rw [pure_bind,pure_bind]
   have:=sU (env:=env) r ((n,c) :: cs) hr
   refine this.trans ?_
   unfold dF
   simp only [hk,if_true,hc,Option.getD_some]
   cases r <;> rfl
  | false=>
   simp only [hk,aQ1,aV0]
   rw [pure_bind]
   have:=sU (env:=env) r cs hr
   refine this.trans ?_
   conv=>rhs; unfold dF
   simp only [hk,aQ1,aV0]
theorem ah6 {scope:Scope}{env:Env} (h:∀ x ∈ scope.names,x.2 = .free->∃ c,env.cells.lookup x.1=some c):closureFor scope env=pure (dF env.cells scope.names []):=by
 have e:=sU (env:=env) scope.names [] h
 unfold closureFor
 rw [show (pure (dF env.cells scope.names []):Sem (List (Str × Addr)))=(pure (dF env.cells scope.names []) >>= pure) by rw [pure_bind]]
 rw [<- e]
theorem oP {cells:List (Str × Addr)}:∀ (ns:List (Str × NameKind)) (cs:List (Str × Addr)) {x:Str}{c:Addr},(∀ y ∈ ns,y.2 = .free->∃ c,cells.lookup y.1=some c)->
  (∀ x c,cs.lookup x=some c->cells.lookup x=some c)->(dF cells ns cs).lookup x=some c->cells.lookup x=some c
 | [],cs,x,c,_,hc,h=>hc x c h
 | (n,k) :: r,cs,x,c,hn,hc,h=>by
  unfold dF at h
  have hr:∀ y ∈ r,y.2 = .free->∃ c,cells.lookup y.1=some c:=fun y hy=>hn y (aO3 _ hy)
  cases hk:(k == NameKind.free) with
  | false=>
   simp only [hk,aQ1,aV0] at h
   exact oP r cs hr hc h
  | true=>
   simp only [hk,if_true] at h
   refine oP r _ hr (fun y d e=>?_) h
   obtain ⟨c0,h0⟩:=hn (n,k) aO9 (by simpa using hk)
   have h0:cells.lookup n=some c0:=h0
   rw [h0] at e
   rw [aT7] at e
   by_cases hyn:y=n
   ·subst hyn
    simp only [aU7,Option.getD_some] at e
    rw [h0]; exact e
   ·have:(y == n)=false:=beq_eq_false_iff_ne.mpr hyn
    simp only [this] at e
    exact hc y d e
theorem sV {cells:List (Str × Addr)}:∀ (ns:List (Str × NameKind)) (cs:List (Str × Addr)) {x:Str},((x,NameKind.free) ∈ ns ∨ ∃ c,cs.lookup x=some c)->∃ c,(dF cells ns cs).lookup x=some c
 | [],cs,x,h=>by
  rcases h with h | h
  ·simp at h
  ·exact h
 | (n,k) :: r,cs,x,h=>by
  unfold dF
  refine sV r _ ?_
  rcases h with h | ⟨c,h⟩
  ·rcases aO0.mp h with e | e
   ·cases e
    exact .inr ⟨_,by simp [aT7]; rfl⟩
   ·exact .inl e
  ·right
   cases hk:(k == NameKind.free) with
   | false=>exact⟨c,by simpa [hk] using h⟩
   | true=>
    simp only [if_true]
    rw [aT7]
    by_cases hxn:(x == n)=true
    ·simp only [hxn]; exact⟨_,rfl⟩
    ·simp only [Bool.eq_false_iff.mpr hxn]; exact⟨c,h⟩
theorem oQ {env:Env}:∀ {names:List (Str × NameKind)}{x:Str}{k:NameKind},(names.map fun (n,k)=>if (k == NameKind.free && env.scope.kind == .function && env.kindOf n == some .cell) then (n,NameKind.cell) else (n,k)).lookup x=some k->
  names.lookup x=some k ∨ (names.lookup x=some .free/\k = .cell)
 | [],_,_,h=>by simp at h
 | (n,q) :: r,x,k,h=>by
  have ih:=@oQ env r x k
  rw [aT4] at h
  by_cases hx:(x == n)=true
  ·have e:x=n:=by simpa using hx
   subst e
   by_cases hc:(q == NameKind.free && env.scope.kind == .function && env.kindOf x == some .cell)=true
   ·simp only [hc,if_true,aT7,aU7] at h
    have hq:q = .free:=by simp at hc; exact hc.1.1
    exact .inr ⟨by simp [aT7,hq],(aQ0 h).symm⟩
   ·simp only [hc,aQ1,aV0,aT7,aU7] at h
    exact .inl (by simp [aT7]; exact aQ0 h)
  ·have hx':(x == n)=false:=Bool.eq_false_iff.mpr hx
   have h':(r.map fun (n,k)=>if (k == NameKind.free && env.scope.kind == .function && env.kindOf n == some .cell) then (n,NameKind.cell) else (n,k)).lookup x=some k:=by
    by_cases hc:(q == NameKind.free && env.scope.kind == .function && env.kindOf n == some .cell)=true
    ·simp only [hc,if_true,aT7,hx'] at h; exact h
    ·simp only [hc,aQ1,aV0,aT7,hx'] at h; exact h
   simp only [aT7,hx']
   exact ih h'
def fE (fr:List (Option Nat)) (σ:St):St:=fr.map fun o=>o.bind fun j=>(σ[j]?).join
def Wk (σ₁ σ₂:St):Prop:=σ₁.length=σ₂.length/\∀ (i:Nat) v,σ₁[i]? = some (some v)->σ₂[i]? = some (some v)
theorem iH:∀ (ns:List (Str × NameKind)) (n:Nat) (cs:List (Str × Addr)),cellsFrom n ns cs=cellsFrom n ns [] ++ cs
 | [],_,_=>rfl
 | (x,k) :: r,n,cs=>by
  unfold cellsFrom
  split
  ·rw [iH r (n+1) ((x,n) :: cs),iH r (n+1) [(x,n)]]; simp
  ·exact iH r n cs
theorem sW:∀ (ns:List (Str × NameKind)) (n:Nat) {x:Str}{c:Addr},(x,c) ∈ cellsFrom n ns []->(x,NameKind.cell) ∈ ns
 | [],_,_,_,h=>by simp [cellsFrom] at h
 | (y,k) :: r,n,x,c,h=>by
  unfold cellsFrom at h
  split at h
  ·rename_i hk
   rw [iH] at h
   rcases aS7.mp h with z | z
   ·exact aO3 _ (sW r _ z)
   ·rw [aP0] at z
    cases z
    have:k = .cell:=by simpa using hk
    rw [this]; exact aO9
  ·exact aO3 _ (sW r _ h)
theorem oR:∀ (ns:List (Str × NameKind)) (n:Nat) {x:Str},(x,NameKind.cell) ∈ ns->∃ c,(x,c) ∈ cellsFrom n ns []
 | (y,k) :: r,n,x,h=>by
  unfold cellsFrom
  rcases aO0.mp h with z | z
  ·cases z
   rw [if_pos (by rfl),iH]
   exact⟨n,aQ5 _ (by simp)⟩
  ·split
   ·obtain ⟨c,hc⟩:=oR r (n+1) z
    rw [iH]
    exact⟨c,aT8 _ hc⟩
   ·exact oR r n z
theorem sX {α:Type}:∀ {l:List (Str × α)}{x:Str}{c:α},(x,c) ∈ l->∃ d,l.lookup x=some d
 | (y,v) :: r,x,c,h=>by
  rw [aT7]
  cases hb:x == y with
  | true=>exact⟨v,rfl⟩
  | false=>
   rcases aO0.mp h with z | z
   ·cases z; simp at hb
   ·exact sX z
theorem oS {α:Type}{x:Str}:∀ (l r:List (Str × α)),(l ++ r).lookup x=(match l.lookup x with | some v=>some v | none=>r.lookup x)
 | [],_=>rfl
 | (y,v) :: l,r=>by
  rw [List.cons_append,aT7,aT7]
  cases hb:x == y with
  | true=>rfl
  | false=>exact oS l r
def fV (X:Cx) (scope:Scope) (C:Addr):List (Str × Addr):=cellsFrom (C+1) scope.names (dF X.env.cells scope.names [])
theorem jR {X:Cx}{scope:Scope}{C:Addr}{x:Str}{c:Addr} (h:(fV X scope C).lookup x=some c) :
  (x,c) ∈ cellsFrom (C+1) scope.names [] ∨ ((∀ d,(x,d) ∉ cellsFrom (C+1) scope.names [])/\(dF X.env.cells scope.names []).lookup x=some c):=by
 unfold fV at h
 rw [iH,oS] at h
 cases e:(cellsFrom (C+1) scope.names []).lookup x with
 | some v=>rw [e] at h; cases h; exact .inl (aS9 e)
 | none=>
  rw [e] at h
  refine .inr ⟨fun d hd=>?_,h⟩
  obtain ⟨d',z⟩:=sX hd
  rw [e] at z; cases z
theorem ah7 {X:Cx}{scope:Scope}{C:Addr}{x:Str}{c:Addr} (hn:(x,NameKind.cell) ∉ scope.names) (h:(dF X.env.cells scope.names []).lookup x=some c):(fV X scope C).lookup x=some c:=by
 unfold fV
 rw [iH,oS]
 cases e:(cellsFrom (C+1) scope.names []).lookup x with
 | some v=>exact absurd (sW _ _ (aS9 e)) hn
 | none=>exact h
theorem yB {X:Cx}{scope:Scope}{C:Addr}{x:Str} (h:(x,NameKind.cell) ∈ scope.names ∨ ∃ c,(dF X.env.cells scope.names []).lookup x=some c):∃ c,(fV X scope C).lookup x=some c:=by
 unfold fV
 rw [iH,oS]
 cases e:(cellsFrom (C+1) scope.names []).lookup x with
 | some v=>exact⟨v,rfl⟩
 | none=>
  rcases h with h | h
  ·obtain ⟨c,hc⟩:=oR scope.names (C+1) h
   obtain ⟨d,hd⟩:=sX hc
   rw [e] at hd; cases hd
  ·exact h
def cI (X:Cx) (scope:Scope) (N:List Str) (s:Shared) (H:Hp) (C:Addr) (fp:List Addr) (E:Value->Shared->Prop):Cx:=
 { X with N:=N,s₀:=s,H₀:=H,env:=compEnvC scope (fV X scope C) C X.env,outer:=X.stack,ex:=fp,fn:=fun x=>scope.names.lookup x == some .cell,pn:=[],xe:=E }
structure gG (X:Cx) (scope:Scope) (N:List Str) (fr:List (Option Nat)):Prop where
 kind:scope.kind = .function
 own:∀ y ∈ scope.names,y.2 = .cell->scope.names.lookup y.1=some .cell
 names:∀ y ∈ scope.names,y.2 = .local->scope.names.lookup y.1=some .local
 free:∀ y ∈ scope.names,y.2 = .free->X.env.scope.names.lookup y.1=some .cell ∨ X.env.scope.names.lookup y.1=some .free
 len:fr.length=N.length
 from_:∀ (i j:Nat),fr[i]? = some (some j)->∃ x,N[i]? = some x/\X.N[j]? = some x/\scope.names.lookup x=some .free
section
variable {X : Cx} {pins : List (Addr × Obj)} {σ : St} {H : Hp} {s : Shared} {scope : Scope} {N : List Str} {fr : List (Option Nat)}
theorem gG.cells (S:gG X scope N fr) (I:a8 X pins σ H s):∀ y ∈ scope.names,y.2 = .free->∃ c,X.env.cells.lookup y.1=some c:=fun y hy hk=>I.ok.has y.1 (S.free y hy hk)
theorem ah8 {C D:Addr}{fp:List Addr}{E:Value->Shared->Prop}{h1:Heap}{tk:Nat}{m:Str->Option Value} (S:gG X scope N fr) (I:a8 X pins σ H s)
  (hf:∀ b ∈ fp,fB X pins H b) (hfl:∀ b ∈ fp,b < s.heap.objs.size) (hD:s.heap.objs.size<=D) (hC:s.heap.objs.size<=C) (hDC:D < C)
  (old:∀ b o,s.heap.get? b=some o->h1.get? b=some o) (hns:h1.Ns C m) (hacc:h1.get? D=some { cls:=.type "list",data:=.seq #[] 0 }) (hco:CellsOk h1 (C+1) (cellsFrom (C+1) scope.names [])) :
  a8 (cI X scope N s H C fp E) [] (fE fr σ) (upd H D (.lst [])) { s with heap:=h1,toks:=tk }:=by
 have hHD:H D=none:=I.hok.fresh hD
 have cl:=S.cells I
 have cs:∀ {x:Str}{c:Addr},(dF X.env.cells scope.names []).lookup x=some c->X.env.cells.lookup x=some c:=fun {x c} h=>oP scope.names [] cl (fun _ _ z=>by simp at z) h
 have clt:∀ {x:Str}{c:Addr},X.env.cells.lookup x=some c->c < s.heap.objs.size:=fun {x c} h=>by obtain ⟨v,z⟩:=I.cell x c h; exact z.lt
 have nge:∀ {x:Str}{c:Addr},(x,c) ∈ cellsFrom (C+1) scope.names []->C < c:=fun {x c} h=>(hco.empty x c h).2
 refine⟨⟨I.ok.mod,?_,I.ok.glob,I.ok.blt,hC,?_,?_,?_,I.ok.hd,I.ok.frames,.inl rfl,?_,I.bs,aQ7 I.ok.bsz I.sz,?_,?_,I.stack,I.stkFree⟩,rfl,I.bare,Un.laid old hD hHD,⟨m,hns,?_⟩,?_,?_,?_,fun p hp=>absurd (show p ∈ ([]:List (Addr × Obj)) from hp) (by simp),?_,?_⟩
 ·exact S.kind
 ·intro x y c h1 h2
  rcases jR h1 with a | ⟨_,a⟩ <;> rcases jR h2 with b | ⟨_,b⟩
  ·exact name_of_addr hco.apart a b
  ·exact absurd (aP5 (Nat.lt_trans (nge a) (clt (cs b))) hC) (aV4 _)
  ·exact absurd (aP5 (Nat.lt_trans (nge b) (clt (cs a))) hC) (aV4 _)
  ·exact I.ok.inj x y c (cs a) (cs b)
 ·intro x hx
  have hx:(relabel scope X.env).names.lookup x=some .cell ∨ (relabel scope X.env).names.lookup x=some .free:=hx
  have fin:(x,NameKind.free) ∈ scope.names->∃ c,(fV X scope C).lookup x=some c:=fun z=>yB (.inr (sV scope.names [] (.inl z)))
  rcases hx with hx | hx
  ·rcases oQ hx with z | z
   ·exact yB (.inl (aS9 z))
   ·exact fin (aS9 z.1)
  ·rcases oQ hx with z | z
   ·exact fin (aS9 z)
   ·exact absurd z.2 (by decide)
 ·intro x c hx h
  have hx:(scope.names.lookup x == some NameKind.cell)=true:=hx
  have hx:scope.names.lookup x=some .cell:=by simpa using hx
  rcases jR h with a | ⟨a,_⟩
  ·exact aQ7 hC (aZ6 (nge a))
  ·obtain ⟨d,hd⟩:=oR scope.names (C+1) (aS9 hx)
   exact absurd hd (a d)
 ·intro b hb
  refine⟨aQ6 (aP5 (hfl b hb) hC),fun x c e=>?_⟩
  rcases jR e with a | ⟨_,a⟩
  ·exact aW8 (Nat.lt_trans (aP5 (hfl b hb) hC) (nge a))
  ·exact (hf b hb).2.2.2.2.1 x c (cs a)
 ·intro b o e hb
  rcases (hf b hb).2.2.2.1 with z | z
  ·exact I.ok.noex b o e z
  ·exact absurd (aP5 (aO8 e) (aQ7 I.ok.bsz z)) (aV4 _)
 ·intro b hb z
  rcases aO0.mp (I.stkSub b z) with e | e
  ·exact (hf b hb).2.1 e
  ·exact (hf b hb).2.2.1 e
 ·intro i x v e1 e2 e3
  have e2:(fr.map fun o=>o.bind fun j=>(σ[j]?).join)[i]? = some (some v):=e2
  rw [aP4] at e2
  cases ef:fr[i]? with
  | none=>rw [ef] at e2; cases e2
  | some o=>
   rw [ef] at e2
   cases o with
   | none=>cases e2
   | some j=>
    have e2:some ((σ[j]?).join)=some (some v):=e2
    have ej:σ[j]? = some (some v):=by
     cases q:σ[j]? with
     | none=>rw [q] at e2; cases e2
     | some w=>rw [q] at e2; cases w with
      | none=>cases e2
      | some w=>cases e2; rfl
    obtain ⟨y,a1,a2,a4⟩:=S.from_ i j ef
    have e1:N[i]? = some x:=e1
    rw [e1] at a1
    cases a1
    have a3:(x,NameKind.free) ∈ scope.names:=aS9 a4
    have vis:iA X.env.scope x:=(S.free _ a3 rfl).elim (fun z=>.inr (.inl z)) fun z=>.inr (.inr z)
    obtain ⟨m0,hn0,hl0⟩:=I.loc
    obtain ⟨u,r,l⟩:=hl0 j x v a2 ej vis
    refine⟨u,r,.inr ⟨?_,?_⟩⟩
    ·have e3:(relabel scope X.env).names.lookup x=some .local ∨ (relabel scope X.env).names.lookup x=some .cell ∨ (relabel scope X.env).names.lookup x=some .free:=e3
     rcases e3 with z | z | z
     ·rcases oQ z with y | y
      ·rw [a4] at y; cases y
      ·exact absurd y.2 (by decide)
     ·exact .inl z
     ·exact .inr z
    ·obtain ⟨c,hc⟩:=sV (cells:=X.env.cells) scope.names [] (x:=x) (.inl a3)
     refine⟨c,ah7 (fun z=>by have:=S.own _ z rfl; rw [a4] at this; cases this) hc,?_⟩
     have hc':=cs hc
     have S1:=S.free (x,.free) a3 rfl
     rcases l with ⟨k,_⟩ | ⟨_,c2,hc2,z⟩
     ·have k:X.env.scope.names.lookup x=some .local:=k
      rcases S1 with q | q <;> (have q:X.env.scope.names.lookup x=_:=q; rw [k] at q; cases q)
     ·rw [hc'] at hc2; cases hc2
      obtain ⟨oc,ho,hd⟩:=z
      exact⟨oc,old c oc ho,hd⟩
 ·intro x c e
  rcases jR e with a | ⟨_,a⟩
  ·exact⟨_,(hco.empty x c a).1⟩
  ·obtain ⟨v,oc,ho,hd⟩:=I.cell x c (cs a)
   exact⟨v,oc,old c oc ho,hd⟩
 ·show upd H D (.lst []) C=none
  rw [aZ (aW8 hDC)]; exact I.hok.fresh hC
 ·intro x c e
  show upd H D (.lst []) c=none
  rcases jR e with a | ⟨_,a⟩
  ·rw [aZ (aW8 (Nat.lt_trans hDC (nge a)))]; exact I.hok.fresh (aQ7 hC (aZ6 (nge a)))
  ·have q:=cs a
   rw [aZ (aQ6 (aP5 (clt q) hD))]
   exact I.freeC x c q
 ·exact I.hok.laid old hD ⟨aV7 _,[],0,.nil,hacc⟩
 ·show (fE fr σ).length=N.length
  unfold fE; rw [aO2]; exact S.len
end
def kS (X:Cx) (ifs:List Expr) (t:TT):Prop:=
 ∀ (pins:List (Addr × Obj)) (s:Shared) (σ:St) (H:Hp) (Q:Bool->Hp->Prop),a8 X pins σ H s->t σ H Q->
  wpAny (model X.prog X.w) X.A (forIn ifs true fun c r=>if r=true then do let ok <- isTrue c X.env (eval c X.env); pure (ForInStep.yield ok) else pure (ForInStep.yield r)) (TP X pins σ Q) X.xe s
def yC:TT:=fun _ H Q=>Q true H
theorem ah9 {X:Cx}:kS X [] yC:=fun _ _ _ H _ I h=>wpAny_tests_nil ⟨H,I,h⟩
section
variable {prog : Program} {w : World} {A : Around}
def sY (prog:Program) (w:World) (A:Around) (elt tg:Expr) (ifs:List Expr) (it acc:Value) (env:Env) (lost:Value->Shared->Prop) (stop next:Shared->Prop) (s:Shared):Prop:=
 let M:=model prog w
 let tests:Sem Bool:=forIn ifs true fun c r=>if r=true then do let ok <- isTrue c env (eval c env); pure (ForInStep.yield ok) else pure (ForInStep.yield r)
 let put:Shared->Prop:=wpAny M A (eval elt env) (fun x=>wpAny M A (call (.builtin "list.append") [acc,x]) (fun _=>next) lost) lost
 let taken:Value->Shared->Prop:=fun v=>wpAny M A (letOwnedTupleGo tg it v) (fun _=>wpAny M A (assign tg env v) (fun _=>wpAny M A tests (fun ok s'=>if ok=true then put s' else next s') lost) lost) lost
 wpAny M A (pyNext it) (fun r s'=>match r with
  | none=>stop s'
  | some v=>taken v s') lost s
theorem ai0 {R:Result->Shared->Prop}{s:Shared}{elt tg iter:Expr}{ifs:List Expr}{scope:Scope}{pos:Pos}{it acc:Value}{env:Env} (I:Nat->Shared->Prop)
  (turn:∀ n s,I n s->sY prog w A elt tg ifs it acc env (notedBy (model prog w) A env fun e=>R (.error e)) (R (.ok .next)) (fun s'=>∃ m,m < n/\I m s') s) (n:Nat) (h:I n s) :
  codeAny (model prog w) A (.compLoop (.ListComp elt [⟨tg,iter,ifs,0⟩] scope pos) 0 it acc env) R s:=by
 apply codeAny_loop rfl I _ n h
 intro k s1 h1
 change wpAny _ A ((compTurn _ 0 it acc env).onRaise (fun x=>do noteFrame x env; theTreesLotGoes x)) _ _ s1
 apply wpAny_noted
 rw [compTurn_list]
 have t:=turn k s1 h1
 unfold sY at t
 apply aN3
 apply wpAny_standAt
 apply aN3
 refine aY1 t (fun r s2 h2=>?_) fun _ _ z=>z
 cases r with
 | none=>exact aN8 h2
 | some v=>
  apply aN3
  refine aY1 h2 (fun _ s3 h3=>?_) fun _ _ z=>z
  apply aN3
  refine aY1 h3 (fun _ s4 h4=>?_) fun _ _ z=>z
  apply aN3
  refine aY1 h4 (fun ok s5 h5=>?_) fun _ _ z=>z
  cases ok with
  | false=>exact aN8 ⟨rfl,h5⟩
  | true=>
   apply aN3
   apply aN3
   refine aY1 h5 (fun x s6 h6=>?_) fun _ _ z=>z
   apply aN3
   exact aY1 h6 (fun _ s7 h7=>aN8 (aN8 ⟨rfl,h7⟩)) fun _ _ z=>z
end
def yD (g:TG) (tc:TT) (te:TE) (σ0:St) (J:It) (D:Addr) (Q:VK) (W:Nat->Nat->List V->Hp->Prop):Prop:=
 ∀ i m acc H',W i m acc H'->H' D=some (.lst acc)/\((J.stop i H'/\Q (.ref D) H') ∨ (J.go i H'/\∀ x H2,J.yld i H' x H2->g x σ0 H2 fun σ2 H3=>Wk σ0 σ2/\tc σ2 H3 fun b H4=>
  if b=true then te σ2 H4 fun v H5=>H5 D=some (.lst acc)/\acc.length < sizeLine/\∃ m',m' < m/\W (i+1) m' (acc ++ [v]) (upd H5 D (.lst (acc ++ [v]))) else ∃ m',m' < m/\W (i+1) m' acc H4))
section
variable {M : Model} {A : Around} {E : Value → Shared → Prop} {s : Shared}
theorem ai1 {scope:Scope}{globals:Addr}{cl:List (Str × Addr)}{qual:Str}{func:Option Addr}{code:Value}{builtins:Addr}{outer:Env}{Q:Env->Shared->Prop}
  (hQ:∀ h',h'.Ns s.heap.objs.size (fun _=>none)->(∀ b o,s.heap.get? b=some o->h'.get? b=some o)->CellsOk h' (s.heap.objs.size+1) (cellsFrom (s.heap.objs.size+1) scope.names [])->
   Q (newEnv scope s.heap.objs.size globals (cellsFrom (s.heap.objs.size+1) scope.names cl) qual func code (some outer) builtins) { s with heap:=h' }) :
  wpAny M A (newFunctionEnv scope globals cl [] qual func code (some outer) builtins) Q E s:=by
 simp only [newFunctionEnv,Option.isSome_some,if_true]
 refine aN3 (wpAny_alloc ?_)
 refine aN3 (wpAny_layCells _ (fun name kind cells=>by cases hkc:kind == NameKind.cell <;> simp [hkc]) _ _ _ _ ?_)
 have ok:=cellsFrom_ok scope.names (s.heap.push { cls:=.type "dict",data:=.dict #[] }) (s.heap.objs.size+1) [] ⟨fun _ _ hm=>(nomatch hm),aX7⟩ (by rw [aU8]; exact aO6 _)
 rw [aU8] at ok
 rw [show ({ s with heap:=s.heap.push { cls:=.type "dict",data:=.dict #[] } }:Shared).heap.objs.size=s.heap.objs.size+1 from aU8 ..]
 rw [List.forIn_nil]
 refine aN3 (aN8 (aN8 (hQ _ ((Heap.Ns.new s.heap (.type "dict")).keeps (pushCells_keeps _ _)) (fun b o e=>pushCells_keeps _ _ b o (aN5 _ e)) ok)))
end
section
variable {X : Cx} {pins : List (Addr × Obj)} {σ : St} {H : Hp} {s : Shared} {scope : Scope} {N : List Str} {fr : List (Option Nat)} {tg iter elt : Expr} {ifs : List Expr} {pos : Pos} {wi : TI} {g : TG} {tc : TT} {te : TE}
structure oT (X:Cx) (scope:Scope) (N:List Str) (tg:Expr) (ifs:List Expr) (elt:Expr) (s:Shared) (H:Hp) (g:TG) (tc:TT) (te:TE):Prop where
 tg:∀ (C:Addr) (fp:List Addr),PG (cI X scope N s H C fp fun _ _=>False) tg g
 ifs:∀ (C:Addr) (fp:List Addr),kS (cI X scope N s H C fp fun _ _=>False) ifs tc
 elt:∀ (C:Addr) (fp:List Addr),PE (cI X scope N s H C fp fun _ _=>False) elt te
theorem ai2 {C:Addr}{fp:List Addr}{E:Value->Shared->Prop}{pins':List (Addr × Obj)}{σ':St}{H':Hp}{s':Shared} (I:a8 X pins σ H s) (hf:∀ b ∈ fp,fB X pins H b) (I':a8 (cI X scope N s H C fp E) pins' σ' H' s'):a8 X pins σ H' s':=
 I.call' (ch:=fp) I'.os I'.base I'.hok I'.bare fun b hb=>⟨(hf b hb).2.2.2.1,(hf b hb).2.1,(hf b hb).2.2.2.2.1,(hf b hb).2.2.2.2.2⟩
theorem ai3 {Rr:Value->Addr->Result->Shared->Prop}{J:It}{fp:List Addr}{it:Addr}{tn:Nat->Heap->Prop}{Q:VK}
  (hc:X.calm=true) (S:gG X scope N fr) (B:oT X scope N tg ifs elt s H g tc te) (I:a8 X pins σ H s) (T:gU X.prog X.w X.K tg J fp it tn) (hst:tn 0 s.heap) (hf:∀ b ∈ fp,fB X pins H b)
  (h:∀ D,H D=none->∃ W:Nat->Nat->List V->Hp->Prop,(∃ m,W 0 m [] (upd H D (.lst [])))/\yD g tc te (fE fr σ) J D Q W)
  (hend:∀ (D C:Addr) (s':Shared) (H':Hp) (m:Str->Option Value),s.heap.objs.size<=C->s.heap.objs.size<=D->a8 X pins σ H' s'->s'.heap.Ns C m->H' C=none->Q (.ref D) H'->Rr (.ref D) C (.ok .next) s') :
  wpAny (model X.prog X.w) X.A (newList []) (fun acc s₃=>wpAny (model X.prog X.w) X.A (newFunctionEnv scope X.env.globals (dF X.env.cells scope.names []) [] X.env.qual none .none (some X.env)) (fun cenv s₄=>
   codeAny (model X.prog X.w) X.A (.compStart (.ListComp elt [⟨tg,iter,ifs,0⟩] scope pos) 0 (.ref it) acc { cenv with scope:=relabel scope X.env }) (Rr acc cenv.locals) s₄) X.xe s₃) X.xe s:=by
 refine aR8 (ai1 (fun h₁ hns₁ keep₁ hco₁=>?_))
 dsimp only at hns₁ keep₁ hco₁ ⊢
 generalize hH2:s.heap.push { cls:=.type "list",dict:=none,data:=.seq ([]:List Value).toArray }=H2 at hns₁ keep₁ hco₁ ⊢
 have hC:H2.objs.size=s.heap.objs.size+1:=by rw [<- hH2,aU8]
 have hDC:s.heap.objs.size < H2.objs.size:=by rw [hC]; exact Nat.lt_succ_self _
 have hCle:s.heap.objs.size<=H2.objs.size:=by rw [hC]; exact Nat.le_succ _
 have old:∀ b o,s.heap.get? b=some o->h₁.get? b=some o:=fun b o e=>keep₁ b o (hH2 ▸ aN5 _ e)
 have hacc:h₁.get? s.heap.objs.size=some { cls:=.type "list",data:=.seq #[] 0 }:=keep₁ _ _ (hH2 ▸ aP1 _ rfl)
 have hfl:∀ b ∈ fp,b < s.heap.objs.size:=fun b hb=>by obtain ⟨o,e,_⟩:=T.obj _ _ hst b hb; exact aO8 e
 obtain ⟨W,⟨m0,w0⟩,turn⟩:=h s.heap.objs.size (I.hok.fresh (aO6 _))
 have st1:tn 0 h₁:=T.keep _ _ _ hst fun b _ o e=>old b o e
 have fr0:∀ b ∈ fp,upd H s.heap.objs.size (.lst []) b=none:=fun b hb=>by rw [aZ (aQ6 (hfl b hb))]; exact (hf b hb).1
 have stat:∀ {H':Hp},(∀ b ∈ fp,H' b=none)->∀ b ∈ fp,fB (cI X scope N s H H2.objs.size fp fun _ _=>False) [] H' b:=fun {H'} hn b hb=>by
  have f:=hf b hb
  refine⟨hn b hb,aQ6 (aP5 (hfl b hb) hCle),fun z=>?_,.inl hb,fun x c e=>(jR e).elim (fun z=>aW8 (Nat.lt_trans (aP5 (hfl b hb) hCle) (hco₁.empty x c z).2)) fun z=>f.2.2.2.2.1 x c (oP scope.names [] (S.cells I) (fun _ _ z=>by simp at z) z.2),fun p hp=>absurd (show p ∈ ([]:List (Addr × Obj)) from hp) (by simp)⟩
  rcases aO0.mp (I.stkSub b z) with e | e
  ·exact f.2.1 e
  ·exact f.2.2.1 e
 generalize hX:cI X scope N s H H2.objs.size fp (fun _ _=>False)=Y at stat
 have I0:a8 Y [] (fE fr σ) (upd H s.heap.objs.size (.lst [])) { s with heap:=h₁ }:=hX ▸ ah8 S I hf hfl (aO6 _) hCle hDC old hns₁ hacc hco₁
 have bt:PG Y tg g:=hX ▸ B.tg H2.objs.size fp
 have bi:kS Y ifs tc:=hX ▸ B.ifs H2.objs.size fp
 have be:PE Y elt te:=hX ▸ B.elt H2.objs.size fp
 have eP:Y.prog=X.prog:=by rw [<- hX]; rfl
 have ew:Y.w=X.w:=by rw [<- hX]; rfl
 have eK:Y.K=X.K:=by rw [<- hX]; rfl
 have eA:Y.A=X.A:=by rw [<- hX]; rfl
 have eE:Y.env=compEnvC scope (fV X scope H2.objs.size) H2.objs.size X.env:=by rw [<- hX]; rfl
 have eX:Y.xe=fun _ _=>False:=by rw [<- hX]; rfl
 have ec:Y.calm=true:=by rw [<- hX]; exact hc
 have never:∀ {E:Value->Shared->Prop} (e:Value) (s':Shared),Y.xe e s'->E e s':=fun {E} e s' z=>by rw [eX] at z; exact z.elim
 have out:∀ {pins' σ' H' s'},a8 Y pins' σ' H' s'->a8 X pins σ H' s':=fun {_ _ _ _} I'=>ai2 (C:=H2.objs.size) (E:=fun _ _=>False) (scope:=scope) (N:=N) I hf (hX ▸ I')
 have loop:codeAny (model X.prog X.w) X.A (.compLoop (.ListComp elt [⟨tg,iter,ifs,0⟩] scope pos) 0 (.ref it) (.ref s.heap.objs.size) (compEnvC scope (fV X scope H2.objs.size) H2.objs.size X.env))
   (Rr (.ref s.heap.objs.size) H2.objs.size) { s with heap:=h₁ }:=by
  refine ai0 (fun n s'=>∃ i acc H',a8 Y [] (fE fr σ) H' s'/\tn i s'.heap/\(∀ b ∈ fp,H' b=none)/\W i n acc H') ?_ m0 ⟨0,[],_,I0,st1,fr0,w0⟩
  rintro n s3 ⟨i,acc,H3,I3,st3,fr3,w3⟩
  unfold sY
  dsimp only
  obtain ⟨hD3,step⟩:=turn i n acc H3 w3
  rcases step with ⟨stop,qn⟩ | ⟨go,step⟩
  ·have z:=T.done Y eP ew eK ec i [] s3 _ H3 (notedBy (model X.prog X.w) X.A (compEnvC scope (fV X scope H2.objs.size) H2.objs.size X.env) fun e s'=>Rr (.ref s.heap.objs.size) H2.objs.size (.error e) s') I3 (stat fr3) st3 stop
   rw [eA] at z
   refine aQ z fun r s4 ⟨hr,I4⟩=>?_
   subst hr
   obtain ⟨m4,hn4,_⟩:=I4.loc
   rw [eE] at hn4
   have f4:=I4.free
   rw [eE] at f4
   exact hend _ _ s4 H3 m4 hCle (aO6 _) (out I4) hn4 f4 qn
  ·have z:=T.item Y eP ew eK ec i [] s3 _ H3 (notedBy (model X.prog X.w) X.A (compEnvC scope (fV X scope H2.objs.size) H2.objs.size X.env) fun e s'=>Rr (.ref s.heap.objs.size) H2.objs.size (.error e) s') I3 (stat fr3) st3 go
   rw [eA] at z
   refine aQ z fun r s4 ⟨u,hr,h4⟩=>?_
   subst hr
   refine aQ h4 fun _ s5 ⟨x,H5,I5,r5,y5,st5,fr5⟩=>?_
   have I5':=I5.pinned (stat fr5) (T.obj _ _ st5)
   have q1:=bt _ s5 _ H5 x u _ I5' r5 (step x H5 y5)
   rw [eP,ew,eA,eE] at q1
   refine aY1 q1 (fun _ s6 ⟨σ6,H6,I6,wk,q6⟩=>?_) never
   have q2:=bi _ s6 σ6 H6 _ I6 q6
   rw [eP,ew,eA,eE] at q2
   refine aY1 q2 (fun b s7 ⟨H7,I7,q7⟩=>?_) never
   have again:∀ {H8:Hp}{s8:Shared}{acc':List V},a8 Y ([] ++ mE fp s5.heap) σ6 H8 s8->(∃ m',m' < n/\W (i+1) m' acc' H8)->∃ m,m < n/\∃ i acc H',a8 Y [] (fE fr σ) H' s8/\tn i s8.heap/\(∀ b ∈ fp,H' b=none)/\W i m acc H':=fun {H8 s8 acc'} I8 n8=>by
    obtain ⟨m',hm,w8⟩:=n8
    refine⟨m',hm,i+1,acc',H8,(I8.unpinned).weak wk.1 wk.2,T.keep _ _ _ st5 fun b hb o e=>(I8.pin (b,o) (aQ5 _ (aQ5 _ (oE hb e)))).1,fun b hb=>?_,w8⟩
    obtain ⟨o,e,d⟩:=T.obj _ _ st5 b hb
    exact (I8.pin (b,o) (aQ5 _ (aQ5 _ (oE hb e)))).2.1
   cases b with
   | false=>
    rw [if_neg aP9] at q7 ⊢
    exact again I7 q7
   | true=>
    rw [if_pos rfl] at q7 ⊢
    have q3:=be _ s7 σ6 H7 _ I7 q7
    rw [eP,ew,eA,eE] at q3
    refine aY1 q3 (fun v s8 ⟨y,H8,I8,r8,hD8,hz8,q8⟩=>?_) never
    have q4:=xP _ s8 σ6 H8 (.ref s.heap.objs.size) [y] (.ref s.heap.objs.size) [v] (fun _ H9=>∃ m',m' < n/\W (i+1) m' (acc ++ [y]) H9) I8 rfl (.cons r8 .nil) ⟨_,_,_,rfl,rfl,hD8,hz8,q8⟩
    rw [eP,ew,eA] at q4
    exact aY1 q4 (fun _ s9 ⟨_,H9,I9,_,q9⟩=>again I9 q9) never
 exact codeAny_compStart_list loop (T.self _ 0 _ _ _ st1 loop)
end
section
variable {X : Cx} {scope : Scope} {N : List Str} {fr : List (Option Nat)} {tg iter elt : Expr} {ifs : List Expr} {pos : Pos} {wi : TI} {g : TG} {tc : TT} {te : TE}
theorem a8.drop {pins:List (Addr × Obj)}{σ:St}{H H':Hp}{s s':Shared}{C:Addr}{h':Heap} (I0:a8 X pins σ H s) (hC:s.heap.objs.size<=C) {σ':St} (I:a8 X pins σ' H' s') (hn:H' C=none) (sb:Heap.SameBut C s'.heap h'):a8 X pins σ' H' { s' with heap:=h' }:=by
 refine I.turned (t':=s'.toks) (it:=C) (fun b o hb e=>(sb.2 b hb).trans e) hn (aW8 (aP5 I0.lt hC)) (.inr (aQ7 I0.sz hC)) (fun x c e z=>?_) fun p hp z=>?_
 ·obtain ⟨v,q⟩:=I0.cell x c e
  exact absurd (aP5 q.lt (by rw [z]; exact hC)) (aV4 _)
 ·exact absurd (aP5 (aO8 (I0.pin p hp).1) (by rw [z]; exact hC)) (aV4 _)
variable {gh : Hp → TG} {tch : Hp → TT} {teh : Hp → TE}
def yE (wi:TI) (fr:List (Option Nat)) (gh:Hp->TG) (tch:Hp->TT) (teh:Hp->TE):TE:=fun σ H Q=>wi σ H fun J H1=>∀ D,H1 D=none->
 ∃ W:Nat->Nat->List V->Hp->Prop,(∃ m,W 0 m [] (upd H1 D (.lst [])))/\yD (gh H1) (tch H1) (teh H1) (fE fr σ) J D Q W
theorem yF (hc:X.calm=true) (S:gG X scope N fr) (hi:PI X tg iter wi) (B:∀ (s:Shared) (H:Hp),oT X scope N tg ifs elt s H (gh H) (tch H) (teh H))
  (hs:∀ x,foldedSetIterable iter X.env x=pure x:=by intro _; rfl):PE X (.ListComp elt [⟨tg,iter,ifs,0⟩] scope pos) (yE wi fr gh tch teh):=by
 intro pins s σ H Q I h
 rw [eval_ListComp]
 refine wpAny_comprehension_free (use:=none) rfl hs (ah6 (S.cells I)) S.kind S.names (aQ (hi pins s σ H _ I h) fun v s1 h1=>aQ h1 fun itv s2 h2=>?_)
 obtain ⟨it,fp,tn,J,H2,e,I2,T,st2,f2,hW⟩:=h2
 subst e
 refine ai3 (Rr:=fun acc C=>compPost (model X.prog X.w) X.A X.xe none (EP X pins σ Q) acc C) hc S (B _ _) I2 T st2 f2 hW ?_
 intro D C s' H' m hC hD I' hns hHC q
 exact⟨m,hns,fun h' sb=>⟨.ref D,H',I2.drop hC I' hHC sb,rfl,q⟩⟩
end
theorem bY {H:Hp}{p:Addr} (h:H p=none) (o:HO):aE H (upd H p o):=fun b u q=>by rw [aZ (cR q h)]; exact q
end L2
namespace Srt
open PySem PySem.W PyProof.Rows
abbrev G (p:Array Nat) (i:Nat):Nat:=p.getD i 0
def PP (n:Nat) (p:Array Nat):Prop:=p.toList.Perm (List.range n)
structure yG (c:Nat->Nat->Bool):Prop where
 asym:∀ {i j},c i j=true->c j i=false
 ntr:∀ {i j k},c i j=false->c j k=false->c i k=false
section
variable {c : Nat → Nat → Bool} (O : yG c)
def Le (c:Nat->Nat->Bool) (i j:Nat):Prop:=c j i=false
include O
theorem le_refl (i:Nat):Le c i i:=by
 unfold Le
 cases h:c i i with
 | false=>rfl
 | true=>have:=O.asym h; rw [h] at this; exact this
theorem le_trans {i j k:Nat} (h1:Le c i j) (h2:Le c j k):Le c i k:=O.ntr h2 h1
end
end Srt
namespace L2
open PySem PySem.Spec PyProof.Rows
theorem mK:∀ {xs:List V}{us:List Value} (i:Nat),i < xs.length->aK xs us->aR (xs.getD i .non) (us.getD i Value.none)
 | _,_,_,h,.nil=>by simp at h
 | _,_,0,_,.cons r _=>by simpa using r
 | _,_,i+1,h,.cons _ t=>by
  have:=mK i (by simpa using h) t
  simpa using this
theorem oU {α:Type}:∀ l:List α,(l.zip l).map (·.2)=l
 | []=>rfl
 | a :: l=>by
  show a :: ((l.zip l).map (·.2))=a :: l
  rw [oU l]
theorem yH {prog:Program}{w:World}{A:Around}{E:Value->Shared->Prop}{s:Shared}{a:Addr}{vs:List Value}{n:Nat}{P:PySem.Fin->Shared->Prop} (e:s.heap.get? a=some (seqObj "list" vs.toArray n)) (few:vs.length < 2)
  (q:P (.done (.ret .none)) { s with heap:=sortedHeap s.heap a vs vs.toArray }):wpAny (model prog w) A (Builtin.«list.sort» ⟨[.ref a],[]⟩) P E s:=by
 have big:vs.length<=sizeLine:=aQ7 (aZ6 few) (by decide)
 have la:=aO8 e
 have c:vs.toArray.size < 2:=by simpa using few
 have same:(arrOf (SortSt.mk' general' (vs.toArray.zip vs.toArray) #[] 7 none)).map (·.2)=vs.toArray:=by
  change (vs.toArray.zip vs.toArray).map (·.2)=vs.toArray
  apply Array.ext'
  simpa using oU vs
 obtain ⟨k,ek⟩:∃ k,(s.heap.update a (Obj.mapSeq fun _=>#[])).get? a=some (seqObj "list" #[] k):=⟨_,get?_update_seq e fun _=>#[]⟩
 have there:(((s.heap.update a (Obj.mapSeq fun _=>#[])).push (seqObj "tuple" vs.toArray 0)).push (seqObj "list" #[] 0)).get? a=some (seqObj "list" #[] k):=
  aN5 _ (aN5 _ ek)
 rw [list_sort_plain]
 apply aN3
 apply listItems_at e rfl
 apply aN3
 refine listUpdate_at e rfl ?_ (by simpa using big) (aV7 _)
 apply aN3
 apply seqEpoch_at ek rfl
 apply aN3
 refine wpAny_newTuple ?_ big
 apply aN3
 refine wpAny_newList ?_ (aV7 _)
 apply aV5
 simp only [c,if_true,StateT.run_pure]
 apply aN3
 apply aN8
 apply aN3
 apply aN8
 apply aN3
 apply seqEpoch_at there rfl
 apply aN3
 refine listUpdate_at there rfl ?_ (aV7 _) (by rw [same,aN7]; exact Nat.le_succ_of_le big)
 rw [same]
 simp only [bne_self_eq_false,aQ1,aV0]
 exact aN8 q
theorem yI {prog:Program}{w:World}{A:Around}{E:Value->Shared->Prop}{s:Shared}{l:Addr}{vs:List Value}{Q:Value->Shared->Prop} (hl:s.heap.IsList l vs.toArray) (few:vs.length < 2)
  (q:Q (.ref (s.heap.objs.size+1)) { s with heap:=sortedAll s.heap vs vs.toArray }):wpAny (model prog w) A (call (.builtin "sorted") [.ref l]) Q E s:=by
 have big:vs.length<=sizeLine:=aQ7 (aZ6 few) (by decide)
 apply Calls.call_function_entry kind_sorted plain_sorted entry_sorted (args_sorted1 _)
 simp only [Builtin.«sorted»]
 apply aN3 (m:=checkCount "sorted" 1 1 _)
 apply aN8
 apply aN3
 refine collect_list hl ?_ big
 apply aN3
 refine wpAny_newList ?_ big
 have one:((s.heap.push (seqObj "list" #[] 0)).update s.heap.objs.size (Obj.mapSeq (· ++ vs.toArray))).objs.size=s.heap.objs.size+1:=(Heap.size_update _ _ _).trans (size_push' _ _)
 have at1:(((s.heap.push (seqObj "list" #[] 0)).update s.heap.objs.size (Obj.mapSeq (· ++ vs.toArray))).push (seqObj "list" vs.toArray 0)).get? (s.heap.objs.size+1)=some (seqObj "list" vs.toArray 0):=one ▸ aP1 _ rfl
 change wpAny _ _ _ _ _ { s with heap:=((s.heap.push (seqObj "list" #[] 0)).update s.heap.objs.size (Obj.mapSeq (· ++ vs.toArray))).push (seqObj "list" vs.toArray 0) }
 rw [one]
 apply aN3
 apply aV5
 refine aT6 slot_list_sort ⟨_,at1,rfl⟩ entry_list_sort ?_ (args_list_sort _)
 refine yH at1 few ⟨_,rfl,?_⟩
 exact aN8 ⟨_,rfl,q⟩
theorem jS:∀ {a b:List Int},HT.aH a b=true->HT.aH b a=false
 | [],[],h=>by cases h
 | [],_ :: _,_=>rfl
 | _ :: _,[],h=>by cases h
 | x :: xs,y :: ys,h=>by
  rw [HT.fU] at h ⊢
  by_cases e:x=y
  ·rw [if_pos e] at h; rw [if_pos e.symm]; exact jS h
  ·rw [if_neg e] at h; rw [if_neg (Ne.symm e)]
   have:=of_decide_eq_true h
   exact aO1 (by omega)
theorem sZ:∀ {a b c:List Int},HT.aH a b=false->HT.aH b c=false->HT.aH a c=false
 | [],[],c,_,h=>h
 | [],_ :: _,_,h,_=>by cases h
 | _ :: _,[],[],_,_=>rfl
 | _ :: _,[],_ :: _,_,h=>by cases h
 | _ :: _,_ :: _,[],_,_=>rfl
 | x :: xs,y :: ys,z :: zs,h1,h2=>by
  rw [HT.fU] at h1 h2 ⊢
  by_cases e1:x=y
  ·rw [if_pos e1] at h1
   by_cases e2:y=z
   ·rw [if_pos e2] at h2; rw [if_pos (e1.trans e2)]; exact sZ h1 h2
   ·rw [if_neg e2] at h2; rw [if_neg (by rw [e1]; exact e2)]; rw [e1]; exact h2
  ·rw [if_neg e1] at h1
   have k1:=bb3 h1
   by_cases e2:y=z
   ·rw [<- e2,if_neg e1]; exact h1
   ·rw [if_neg e2] at h2
    have k2:=bb3 h2
    rw [if_neg (by omega)]
    exact aO1 (by omega)
theorem oV:∀ {a b:List Int},HT.aH a b=false->HT.aH b a=false->a=b
 | [],[],_,_=>rfl
 | [],_ :: _,h,_=>by cases h
 | _ :: _,[],_,h=>by cases h
 | x :: xs,y :: ys,h1,h2=>by
  rw [HT.fU] at h1 h2
  by_cases e:x=y
  ·rw [if_pos e] at h1; rw [if_pos e.symm] at h2; rw [e,oV h1 h2]
  ·rw [if_neg e] at h1; rw [if_neg (Ne.symm e)] at h2
   have:=bb3 h1
   have:=bb3 h2
   omega
section
variable {prog : Program} {w : World} {A : Around} {s : Shared} {Q : Bool → Shared → Prop}
theorem t0:∀ {us ws:List Value}{xs ys:List Int} (i:Nat),IntsAre us xs->IntsAre ws ys->Q (HT.aH xs ys) s->PySem.W.KatLex prog w A true (decide (us.length < ws.length)) Q (us.zip ws) i s
 | _,_,_,_,_,.nil,.nil,h=>h
 | _,_,_,_,_,.nil,.cons _ _ _,h=>h
 | _,_,_,_,_,.cons _ _ _,.nil,h=>h
 | _,_,_,_,i,.cons (vs:=us) x t hx,.cons (vs:=ws) y u hy,h=>by
  refine PySem.W.kat_cons (wpAny_eqBool_int ?_)
  rw [HT.fU] at h
  by_cases e:x=y
  ·rw [if_pos e] at h
   have eb:(x == y)=true:=by simpa using e
   rw [eb]
   refine PySem.W.kat_yes ?_
   have e2:decide ((Value.int x t :: us).length < (Value.int y u :: ws).length)=decide (us.length < ws.length):=by simp
   rw [e2]
   exact t0 (i+1) hx hy h
  ·rw [if_neg e] at h
   have eb:(x == y)=false:=by simpa using e
   rw [eb]
   refine PySem.W.kat_no ?_
   cases hi:(true && i == 0) with
   | true=>exact PySem.W.kat_lt_int h
   | false=>exact PySem.W.kat_one _ _ (lt_int h)
end
end L2
namespace Raw
open PySem PySem.W PySem.Calls PyProof.Rows
def fW (h:Heap) (d:Addr) (es:Array DictEntry) (ep:Nat):Prop:=∃ o,h.get? d=some o/\o.ExactDict/\o.data = .dict es ep
theorem fW.ty {s:Shared}{d:Addr}{es:Array DictEntry}{ep:Nat} (x:fW s.heap d es ep):s.TypeIs (.ref d) "dict":=x.elim fun o y=>⟨o,y.1,y.2.1.1⟩
theorem fW.lt {h:Heap}{d:Addr}{es:Array DictEntry}{ep:Nat} (x:fW h d es ep):d < h.objs.size:=x.elim fun _ y=>aO8 y.1
theorem fW.keep {h h':Heap}{d:Addr}{es:Array DictEntry}{ep:Nat} (x:fW h d es ep) (k:∀ o,h.get? d=some o->h'.get? d=some o):fW h' d es ep:=x.elim fun o y=>⟨o,k o y.1,y.2⟩
section
variable {prog : Program} {w : World} {A : Around} {E : Value → Shared → Prop} {s : Shared} {d it : Addr} {es : Array DictEntry} {ep i : Nat}
theorem made (far:(d == sysModules)=false) (x:fW s.heap d es ep) {Q:Value->Shared->Prop}
  (q:Q (.ref s.heap.objs.size) { s with heap:=s.heap.push { cls:=.type "dict_keyiterator",data:=.fields #[.ref d,.int 0 0,.int es.size 0,.int ep 0] } }):wpAny (model prog w) A (pyIter (.ref d)) Q E s:=by
 have T:=x.ty
 obtain ⟨o,e1,e2,e3⟩:=x
 apply wpAny_pyIter_slot T PySem.F.slot_dict_iter
 apply aT6 PySem.F.slot_dict_iter T PySem.F.entry_dict_iter _ (PySem.F.args_dict_iter_1 _)
 simp only [Builtin.«dict.__iter__»,Builtin.Dict.dictSlotNone]
 apply aN3
 apply aN3
 apply wpAny_notOrdered_dict T
 apply aN8
 change wpAny _ _ (Builtin.Dict.showsAll d >>= _) _ _ s
 have far':Builtin.Dict.showsAll d=pure ():=by
  unfold Builtin.Dict.showsAll
  simp only [far,aQ1,aV0]
 rw [far',pure_bind]
 apply aN3
 apply wpAny_dictEntries e1 e3
 apply aN3
 apply wpAny_dictEpoch e1 e3
 apply aN3
 refine aR8 (aN8 ?_)
 refine⟨.ref s.heap.objs.size,rfl,"dict_keyiterator",_,⟨_,aP1 _ rfl,rfl⟩,PySem.F.slot_dict_keyiterator_next.lookup,?_⟩
 simpa only [rawInt] using q
theorem turn (hh:A.handled=none) (hi:s.heap.IsKeyIter it d i es.size ep) (x:fW s.heap d es ep) {Q:Option Value->Shared->Prop}
  (yes:∀ (lt:i < es.size) h',h'.IsKeyIter it d (i+1) es.size ep->Heap.SameBut it s.heap h'->Q (some es[i].key) { s with heap:=h' })
  (no:es.size<=i->∀ h',Heap.ExtBut it s.heap h'->Q none { s with heap:=h' }):wpAny (model prog w) A (pyNext (.ref it)) Q E s:=by
 have T:=hi.typeIs
 obtain ⟨oi,f1,f2,f3⟩:=hi
 obtain ⟨o,e1,e2,e3⟩:=x
 have slot:=PySem.F.slot_dict_keyiterator_next
 have plain:Builtin.Dict_items.ownsTuple "dict_keyiterator" = false:=by decide
 have isref:(Value.ref d == Value.none)=false:=rfl
 have nn : ¬ (i:Int) < 0:=by omega
 unfold pyNext
 apply aN3
 apply wpAny_attempt
 apply aT3 (name:=Str.ofString "__next__") T slot
 apply aT6 slot T PySem.F.entry_dict_keyiterator_next _ (PySem.F.args_dict_keyiterator_next_1 _)
 apply aN3
 apply aN8
 apply aN3
 apply aN3
 apply aN3
 first
  | apply wpAny_typeNameOfWhole_keyiter T
  | apply wpAny_typeNameOf_keyiter T
 apply aN8
 apply aN3
 apply wpAny_fieldsOf f1 f3
 simp only [plain,aQ1,aV0]
 change wpAny _ _ (if (Value.ref d == Value.none)=true then _ else _) _ _ s
 have adr:Builtin.Dict_items.addrOf (Value.ref d)=pure d:=rfl
 simp only [isref,aQ1,aV0,adr,pure_bind]
 apply aN3
 apply wpAny_dictEntries e1 e3
 simp only [bne_self_eq_false,aQ1,aV0]
 apply aN3
 apply wpAny_dictEpoch e1 e3
 simp only [bne_self_eq_false,aQ1,aV0]
 apply aN8
 simp only [nn,aV0,Int.toNat_natCast]
 by_cases lt:i < es.size
 ·simp only [Array.getElem?_eq_getElem lt]
  apply aN3
  apply aN3
  first
   | apply wpAny_typeNameOfWhole_keyiter T
   | apply wpAny_typeNameOf_keyiter T
  apply aN8
  apply aN3
  apply wpAny_isOneOf_keyiter T
  change wpAny _ _ (setField (.ref it) 1 (rawInt ((i:Int)+1)) >>= _) _ _ s
  apply aN3
  refine wpAny_setField f1 f3 (by simp) ?_
  have again:(s.heap.update it (Obj.mapFields (·.setIfInBounds 1 (rawInt ((i:Int)+1))))).IsKeyIter it d (i+1) es.size ep:=by
   refine⟨_,aW1 _ f1 (Obj.isFreed_of_fields (Obj.data_mapFields f3 _)),?_,?_⟩
   ·rw [Obj.cls_mapFields]; exact f2
   ·rw [Obj.data_mapFields f3]; simp [rawInt]
  apply aN3
  apply aV5
  apply aN3
  refine wpAny_isOneOf_keyiter (s:={ s with heap:=s.heap.update it (Obj.mapFields (·.setIfInBounds 1 (rawInt ((i:Int)+1)))) }) again.typeIs ?_
  change wpAny _ _ (pure es[i].key) _ _ _
  apply aN8
  apply aN8
  exact⟨es[i].key,rfl,aN8 (yes lt _ again (aY7 ..))⟩
 ·have ge:es.size<=i:=Nat.le_of_not_lt lt
  simp only [Array.getElem?_eq_none ge]
  apply aN3
  apply aN3
  first
   | apply wpAny_typeNameOfWhole_keyiter T
   | apply wpAny_typeNameOf_keyiter T
  apply aN8
  change wpAny _ _ (setField (.ref it) 0 .none >>= _) _ _ s
  apply aN3
  refine wpAny_setField f1 f3 (by simp) ?_
  apply aN3
  simp only [newExc,newTuple]
  apply aN3
  refine aR8 ?_ (by size_fits)
  apply aN3
  refine wpAny_of_eq (a:=Value.none) (by first | rfl | (simp only [firstArgMember]; rfl)) ?_
  refine aR8 ?_ (by size_fits)
  unfold raiseNew
  apply aN3
  apply wpAny_handled
  have quiet:A.in1.handled=none:=hh
  rw [quiet]
  refine wpAny_throw ?_
  apply aN3
  refine wpAny_isInstance (T:="StopIteration") (b:=true) ⟨_,aP1 _ rfl,rfl⟩ isSubtype_stop ?_
  exact aN8 (no ge _ (((aY7 ..).extBut.push _).push _))
theorem ai4 (hh:A.handled=none) (ne:d ≠ it):Walks prog w A it [it,d] [it] es.size (fun i v=>∃ lt:i < es.size,es[i].key=v) (fun i h=>h.IsKeyIter it d i es.size ep/\fW h d es ep) where
 sub:=by intro b hb; rw [aP0.mp hb]; exact aO9
 frame:=by
  intro i h h' st hk
  exact⟨st.1.at (hk it aO9),st.2.keep (hk d (aO3 _ aO9))⟩
 item:=by
  intro i s Q E lt st hQ
  refine turn hh st.1 st.2 (fun lt' h' again sb=>?_) fun ge=>absurd lt (Nat.not_lt.mpr ge)
  exact hQ _ h' s.toks ⟨lt',rfl⟩ ⟨again,st.2.keep fun o e=>sb.extBut d o ne e⟩ fun b o hb e=>sb.extBut b o (fun z=>hb (aP0.mpr z)) e
 done:=by
  intro s Q E st hQ
  refine turn hh st.1 st.2 (fun lt=>absurd lt (aV4 _)) fun _ h' eb=>?_
  exact hQ h' s.toks fun b o hb e=>eb b o (fun z=>hb (aP0.mpr z)) e
 self:=by intro i s Q E st hQ; exact wpAny_pyIter_keyiter st.1 hQ
theorem yJ (far:(d == sysModules)=false):KdlSrc prog w "dict" d d es.size (fun i v=>∃ lt:i < es.size,es[i].key=v) (fun h=>fW h d es ep) where
 type:=fun _ x=>x.ty
 there:=fun _ x=>⟨x.lt,x.lt⟩
 keep:=fun _ _ x k=>x.keep (k d (.inl rfl))
 notList:=by decide
 notTuple:=by decide
 hint:=fun _ _ _ _ x q=>kdl_hint_dict x.ty q
 iter:=fun _ _ hh x=>⟨_,_,fun _ _ q=>made far x q,ai4 hh (aQ6 x.lt),⟨_,aP1 _ rfl,rfl,rfl⟩,x.keep fun o e=>aN5 _ e⟩
end
end Raw
namespace L2
open PySem PySem.Spec PyProof.Rows
section
variable {X : Cx} {pins : List (Addr × Obj)} {σ : St} {H : Hp} {s : Shared} {a : Addr}
def gH (H:Hp) (y:V) (k:List aJ):Prop:=∃ q,y = .ref q/\H q=some (.tup (k.map kV))
theorem yK {kvs:List (List aJ × V)} (I:a8 X pins σ H s) (h:H a=some (.dT kvs)):∃ es ep ys,Raw.fW s.heap a es ep/\(a == sysModules)=false/\Paired (gH H) ys (kvs.map (·.1))/\aK ys (es.toList.map (·.key))/\kvs.length<=sizeLine:=by
 obtain ⟨z,far,xs,rel,o,es,ep,e1,e2,e3,e4,nd⟩:=(show bR X.prog X.w H s.heap a (.dT kvs) from I.hok a _ h)
 refine⟨es,ep,xs.map fun q=>V.ref q.2.1,⟨o,e1,e2,e3⟩,far,?_,?_,z⟩
 ·clear e4 nd h z
  induction rel with
  | nil=>exact .nil
  | cons r rs ih=>exact .cons ⟨_,rfl,r.2.1⟩ ih
 ·rw [e4]
  clear rel e4 nd
  induction xs with
  | nil=>exact .nil
  | cons q qs ih=>exact .cons rfl ih
theorem t5 {es:Array DictEntry}{acc:Array Value} (h:ItemsOf (fun i v=>∃ lt:i < es.size,es[i].key=v) acc es.size):acc.toList=es.toList.map (·.key):=by
 apply List.ext_getElem?
 intro j
 have h1:=h.1
 by_cases hj:j < es.size
 ·have hj':j < acc.size:=by rw [h1]; exact hj
  obtain ⟨_,e⟩:=h.2 j acc[j] (by simp [hj'])
  rw [aP4]
  simp [hj,hj',e]
 ·have hj' : ¬ j < acc.size:=by rw [h1]; exact hj
  rw [aP4]
  simp [Nat.le_of_not_lt hj,Nat.le_of_not_lt hj']
theorem ai5 (hc:X.calm=true):cG X (.type "list") (fun xs H Q=>∃ a kvs,xs = [.ref a]/\H a=some (.dT kvs)/\∀ l ys,H l=none->Paired (gH H) ys (kvs.map (·.1))->Q (.ref l) (upd H l (.lst ys))):=by
 intro pins s σ H xs us Q I r h
 obtain ⟨a,kvs,rfl,ha,q⟩:=h
 obtain ⟨u,rfl,ru⟩:=gV r
 cases ru
 obtain ⟨es,ep,ys,rd,far,pk,vk,z⟩:=yK I ha
 have hl:=vk.length
 have hl2:=pk.length
 rw [aO2] at hl hl2
 have hsz:es.toList.length=es.size:=aS0
 refine PySem.W.kdl_call (Raw.yJ far) (I.ok.hd hc) rd (by omega) fun h' tk acc c kp e it=>?_
 refine⟨.ref s.heap.objs.size,_,I.laid (t':=tk) kp (aO6 _) (show bR X.prog X.w _ h' _ (.lst ys) from ⟨by omega,acc.toList,c,by rw [t5 it]; exact vk,by simpa using e⟩),rfl,q _ ys (I.hok.fresh (aO6 _)) pk⟩
end
section
variable {X : Cx}
theorem ai6:cG X (.builtin "isinstance") (fun xs H Q=>∃ x t n b,xs = [x,.ty n]/\eU X.K H x t/\PySem.W.kitOne X.K t (.type n)=some b/\Q (.bl b) H):=by
 intro pins s σ H xs us Q I r h
 obtain ⟨x,t,n,b,rfl,ty,e,q⟩:=h
 obtain ⟨u,u',rfl,ru,ru'⟩:=jM r
 cases ru'
 exact ac0 I ru ty e fun tk=>⟨.bl b,H,I.tok tk,rfl,q⟩
end
def yL (outer:List (Str × NameKind)) (XN:List Str) (names:List (Str × NameKind)) (N:List Str) (fr:List (Option Nat)):Bool:=
 names.all (fun y=>!(y.2 == .cell) || names.lookup y.1 == some .cell) && names.all (fun y=>!(y.2 == .local) || names.lookup y.1 == some .local) &&
 names.all (fun y=>!(y.2 == .free) || (outer.lookup y.1 == some .cell || outer.lookup y.1 == some .free)) && fr.length == N.length &&
 (fr.zip N).all (fun p=>match p.1 with
  | none=>true
  | some j=>XN[j]? == some p.2 && names.lookup p.2 == some .free)
theorem gG.of {X:Cx}{scope:Scope}{N:List Str}{fr:List (Option Nat)} (hk:scope.kind = .function) (h:yL X.env.scope.names X.N scope.names N fr=true):gG X scope N fr:=by
 unfold yL at h
 simp only [aW9] at h
 obtain ⟨⟨⟨⟨h1,h2⟩,h3⟩,h4⟩,h5⟩:=h
 refine⟨hk,fun y hy e=>?_,fun y hy e=>?_,fun y hy e=>?_,by simpa using h4,fun i j e=>?_⟩
 ·have:=aY2.mp h1 y hy
  rw [e] at this; simpa using this
 ·have:=aY2.mp h2 y hy
  rw [e] at this; simpa using this
 ·have:=aY2.mp h3 y hy
  rw [e] at this; simpa using this
 ·have hl:fr.length=N.length:=by simpa using h4
  have hi:i < fr.length:=(aO7.mp e).1
  have m:(some j,N[i]'(by omega)) ∈ fr.zip N:=by
   have:(fr.zip N)[i]? = some (some j,N[i]'(by omega)):=by
    rw [List.getElem?_zip_eq_some]
    exact⟨e,by simp⟩
   exact aW2 this
  have:=aY2.mp h5 _ m
  simp only [aW9,beq_iff_eq] at this
  exact⟨N[i]'(by omega),by simp,this.1,this.2⟩
def t6 (ls:List (Int × Int)) (k:Int):List Int:=ls.flatMap fun l=>(if l.1=k then [l.2] else []) ++ (if l.2=k then [l.1] else [])
theorem ai7 {α:Type}{xs:List α}{i:Int}{v:α} (h0:0<=i) (h:xs[i.toNat]? = some v):atI xs i=some v:=by
 have:=oJ h
 rwa [show ((i.toNat:Nat):Int)=i by omega] at this
theorem t7 {n:Nat} (h:n<=16000000):n < sizeLine:=by rw [sizeLine_eq]; omega
theorem t8 {K:PySem.W.Frag}{H:Hp}{p:Addr}{xs:List V} (h:aM K H p xs):mI K "list" (.ref p) H:=.inl ⟨rfl,xs,h⟩
end L2
namespace Zp
open PySem PyProof.Rows
section
variable {prog : Program} {w : World} {A : Around} {E : Value → Shared → Prop} {s : Shared}
theorem yM {it t:Addr}{i:Nat}{items:Array Value}{x:Value}{Q:Value->Shared->Prop} (hi:s.heap.IsTupleIter it t i) (ht:s.heap.IsTuple t items) (hx:items[i]? = some x)
  (q:∀ h',h'.IsTupleIter it t (i+1)->Heap.SameBut it s.heap h'->Q x { s with heap:=h' }):wpAny (model prog w) A (Builtin.SmallTypes.nextOf (.ref it)) Q E s:=by
 have T:=hi.typeIs
 obtain ⟨o,e1,e2,e3⟩:=hi
 obtain ⟨u,f1,_,k,f3⟩:=ht
 have slot:=PySem.F.slot_tuple_iterator_next
 have isref:(Value.ref t == Value.none)=false:=rfl
 unfold Builtin.SmallTypes.nextOf
 apply aN3
 apply aT3 (name:=Str.ofString "__next__") T slot
 apply aT6 slot T PySem.F.entry_tuple_iterator_next _ (PySem.F.args_tuple_iterator_next_1 _)
 change wpAny _ _ (field (.ref it) 0 >>= _) _ _ s
 apply aN3
 refine aT2 e1 e3 (x:=.ref t) rfl ?_
 change wpAny _ _ (if (Value.ref t == Value.none)=true then _ else _) _ _ s
 simp only [isref,aQ1,aV0]
 change wpAny _ _ (field (.ref it) 1 >>= _) _ _ s
 apply aN3
 refine aT2 e1 e3 (x:=.int i 0) rfl ?_
 change wpAny _ _ (seqItems? (.ref t) >>= _) _ _ s
 apply aN3
 apply aU9 f1 f3
 simp only [Int.toNat_natCast,hx]
 apply aN3
 refine wpAny_setField e1 e3 (by simp) ?_
 apply aN8
 refine⟨x,rfl,aN8 (q _ ⟨_,aW1 _ e1 (Obj.isFreed_of_fields (Obj.data_mapFields e3 _)),?_,?_⟩ (aY7 ..))⟩
 ·rw [Obj.cls_mapFields]; exact e2
 ·rw [Obj.data_mapFields e3]; simp [rawInt]
theorem yN {it t:Addr}{i:Nat}{items:Array Value}{Q:Value->Shared->Prop} (hh:A.handled=none) (hi:s.heap.IsTupleIter it t i) (ht:s.heap.IsTuple t items) (hx:items[i]? = none)
  (q:∀ h' e,Heap.ExtBut it s.heap h'->(∃ o,h'.get? e=some o/\o.cls = .type "StopIteration")->E (.ref e) { s with heap:=h' }):wpAny (model prog w) A (Builtin.SmallTypes.nextOf (.ref it)) Q E s:=by
 have T:=hi.typeIs
 obtain ⟨o,e1,e2,e3⟩:=hi
 obtain ⟨u,f1,_,k,f3⟩:=ht
 have slot:=PySem.F.slot_tuple_iterator_next
 have isref:(Value.ref t == Value.none)=false:=rfl
 unfold Builtin.SmallTypes.nextOf
 apply aN3
 apply aT3 (name:=Str.ofString "__next__") T slot
 apply aT6 slot T PySem.F.entry_tuple_iterator_next _ (PySem.F.args_tuple_iterator_next_1 _)
 change wpAny _ _ (field (.ref it) 0 >>= _) _ _ s
 apply aN3
 refine aT2 e1 e3 (x:=.ref t) rfl ?_
 change wpAny _ _ (if (Value.ref t == Value.none)=true then _ else _) _ _ s
 simp only [isref,aQ1,aV0]
 change wpAny _ _ (field (.ref it) 1 >>= _) _ _ s
 apply aN3
 refine aT2 e1 e3 (x:=.int i 0) rfl ?_
 change wpAny _ _ (seqItems? (.ref t) >>= _) _ _ s
 apply aN3
 apply aU9 f1 f3
 simp only [Int.toNat_natCast,hx]
 apply aN3
 apply ba4
 apply aN3
 refine wpAny_setField e1 e3 (by simp) ?_
 apply aN3
 simp only [newExc,newTuple]
 apply aN3
 refine aR8 ?_ (by size_fits)
 apply aN3
 refine wpAny_of_eq (a:=Value.none) (by first | rfl | (simp only [firstArgMember]; rfl)) ?_
 refine aR8 ?_ (by size_fits)
 unfold raiseNew
 apply aN3
 apply wpAny_handled
 have quiet:A.in1.handled=none:=hh
 rw [quiet]
 refine wpAny_throw ?_
 exact q _ _ (((aY7 ..).extBut.push _).push _) ⟨_,aP1 _ rfl,rfl⟩
theorem ai8 (hh:A.handled=none) (it t:Addr) (ne:t ≠ it) (items:Array Value):Draws prog w A it [it,t] items.size (fun i v=>items[i]? = some v) (fun i h=>h.IsTupleIter it t i/\h.IsTuple t items) where
 live:=fun _ _ st=>st.1.elim fun o y=>⟨o,y.1⟩
 frame:=fun _ _ _ st k=>⟨st.1.at fun o e=>k it aO9 o e,st.2.elim fun o y=>⟨o,k t (aO3 _ aO9) o y.1,y.2⟩⟩
 item:=fun i s Q E lt st q=>yM st.1 st.2 (Array.getElem?_eq_getElem lt) fun h' again sb=>q _ h' s.toks (Array.getElem?_eq_getElem lt) ⟨again,st.2.elim fun o y=>⟨o,sb.extBut t o ne y.1,y.2⟩⟩ sb
 done:=fun s Q E st q=>yN hh st.1 st.2 (Array.getElem?_eq_none (aO6 _)) q
end
structure Ap (z TI TO i1 i2:Addr) (fp1 fp2:List Addr):Prop where
 TIz:TI ≠ z
 TOz:TO ≠ z
 TITO:TI ≠ TO
 z1:z ∉ fp1
 z2:z ∉ fp2
 o1:TO ∉ fp1
 o2:TO ∉ fp2
 t1:TI ∉ fp1
 t2:TI ∉ fp2
 m1:i1 ∈ fp1
 m2:i2 ∈ fp2
 n1:i1 ∉ fp2
 n2:i2 ∉ fp1
structure t9 (z TI TO i1 i2:Addr) (St1 St2:Nat->Heap->Prop) (f0:Value) (i j:Nat) (h:Heap):Prop where
 zz:IsZip h z TI TO f0
 ti:IsPair h TI (.ref i1) (.ref i2)
 to_:∃ a b,IsPair h TO a b
 s1:St1 i h
 s2:St2 j h
section
variable {prog : Program} {w : World} {A : Around} {E : Value → Shared → Prop} {s : Shared} {z TI TO i1 i2 : Addr} {fp1 fp2 : List Addr} {n1 n2 : Nat} {P1 P2 : Nat → Value → Prop} {St1 St2 : Nat → Heap → Prop}
theorem kT (ap:Ap z TI TO i1 i2 fp1 fp2) {b:Addr} (h:b ∉ fp1):b ≠ i1:=fun e=>h (e ▸ ap.m1)
theorem oW (ap:Ap z TI TO i1 i2 fp1 fp2) {b:Addr} (h:b ∉ fp2):b ≠ i2:=fun e=>h (e ▸ ap.m2)
theorem item (D1:Draws prog w A.in1 i1 fp1 n1 P1 St1) (D2:Draws prog w A.in1 i2 fp2 n2 P2 St2) (ap:Ap z TI TO i1 i2 fp1 fp2) {i:Nat} (l1:i < n1) (l2:i < n2) (st:t9 z TI TO i1 i2 St1 St2 .none i i s.heap) {Q:Option Value->Shared->Prop}
  (q:∀ x y h' tk,P1 i x->P2 i y->t9 z TI TO i1 i2 St1 St2 (rawInt s.heap.objs.size) (i+1) (i+1) h'->IsPair h' s.heap.objs.size x y->(∀ c o,c ≠ z->c ≠ TO->c ≠ i1->c ≠ i2->s.heap.get? c=some o->h'.get? c=some o)->
   h'.objs.size=s.heap.objs.size+1->Q (some (.ref s.heap.objs.size)) { s with heap:=h',toks:=tk }):wpAny (model prog w) A (pyNext (.ref z)) Q E s:=by
 obtain ⟨hz,hti,⟨a,b,hto⟩,h1,h2⟩:=st
 have T:s.TypeIs (.ref z) "zip":=⟨_,hz,rfl⟩
 have slot:=PySem.F.slot_zip_next
 unfold pyNext
 apply aN3
 apply wpAny_attempt
 apply aT3 (name:=Str.ofString "__next__") T slot
 apply aT6 slot T PySem.F.entry_zip_next _ (PySem.F.args_zip_next_1 _)
 change wpAny _ _ (field (.ref z) 2 >>= _) _ _ _
 apply aN3
 refine aT2 hz rfl (x:=.bool false) rfl ?_
 change wpAny _ _ (field (.ref z) 3 >>= _) _ _ _
 apply aN3
 refine aT2 hz rfl (x:=.ref TI) rfl ?_
 apply aN3
 apply aU9 hti rfl
 change wpAny _ _ (Builtin.SmallTypes.ownedTupleIsFree (.ref z) >>= _) _ _ _
 apply aN3
 unfold Builtin.SmallTypes.ownedTupleIsFree
 apply aN3
 refine aT2 hz rfl (x:=.none) rfl (aN8 ?_)
 simp only [if_true]
 apply aN3
 apply ba4
 apply aN3
 refine aT2 hz rfl (x:=.ref TO) rfl ?_
 apply aN3
 refine aU2 hz (by simp) fun g1 hz1 sb1=>?_
 have k1:∀ c o,c ≠ z->s.heap.get? c=some o->g1.get? c=some o:=fun c o c1 e=>sb1.extBut c o c1 e
 apply aN3
 simp only [List.zipIdx_cons,List.zipIdx_nil,List.forIn_cons,List.forIn_nil]
 apply aN3
 apply aN3
 apply wpAny_onRaise
 change wpAny _ _ (Builtin.SmallTypes.nextOf (.ref i1) >>= _) _ _ _
 apply aN3
 refine D1.item i { s with heap:=g1 } _ _ l1 (D1.frame _ _ _ h1 fun c hc o e=>k1 c o (fun y=>ap.z1 (y ▸ hc)) e) fun x g2 tk2 px st1 sb2=>aN8 ?_
 have k2:∀ c o,c ≠ z->c ≠ i1->s.heap.get? c=some o->g2.get? c=some o:=fun c o c1 c2 e=>sb2.extBut c o c2 (k1 c o c1 e)
 have to2:IsPair g2 TO a b:=k2 _ _ ap.TOz (kT ap ap.o1) hto
 apply aN3
 apply aU9 to2 rfl
 apply aN3
 refine wpAny_updateSeq_pair to2 fun g3 to3 sb3=>?_
 have to3:IsPair g3 TO x b:=to3
 apply aN3
 apply aY9
 apply aN8
 apply aN3
 apply aN3
 apply wpAny_onRaise
 change wpAny _ _ (Builtin.SmallTypes.nextOf (.ref i2) >>= _) _ _ _
 apply aN3
 have k3:∀ c o,c ≠ z->c ≠ i1->c ≠ TO->s.heap.get? c=some o->g3.get? c=some o:=fun c o c1 c2 c3 e=>sb3.extBut c o c3 (k2 c o c1 c2 e)
 refine D2.item i { s with heap:=g3,toks:=tk2 } _ _ l2 (D2.frame _ _ _ h2 fun c hc o e=>k3 c o (fun y=>ap.z2 (y ▸ hc)) (fun y=>ap.n1 (y ▸ hc)) (fun y=>ap.o2 (y ▸ hc)) e) fun y g4 tk4 py st2 sb4=>aN8 ?_
 have to4:IsPair g4 TO x b:=sb4.extBut _ _ (oW ap ap.o2) to3
 apply aN3
 apply aU9 to4 rfl
 apply aN3
 refine wpAny_updateSeq_pair to4 fun g5 to5 sb5=>?_
 have to5:IsPair g5 TO x y:=to5
 apply aN3
 apply aY9
 apply aN8
 apply aN8
 apply aN3
 apply aU9 to5 rfl
 apply aN3
 refine wpAny_newTuple ?_ (by show 2<=sizeLine; decide)
 have size:g5.objs.size=s.heap.objs.size:=by rw [sb5.1,sb4.1,sb3.1,sb2.1,sb1.1]
 have k5:∀ c o,c ≠ z->c ≠ TO->c ≠ i1->c ≠ i2->s.heap.get? c=some o->g5.get? c=some o:=fun c o c1 c2 c3 c4 e=>sb5.extBut c o c2 (sb4.extBut c o c4 (k3 c o c1 c3 c2 e))
 have z5:IsZip g5 z TI TO .ellipsis:=sb5.extBut _ _ (Ne.symm ap.TOz) (sb4.extBut _ _ (oW ap ap.z2) (sb3.extBut _ _ (Ne.symm ap.TOz) (sb2.extBut _ _ (kT ap ap.z1) hz1)))
 change wpAny _ _ (Builtin.SmallTypes.ownedTupleHandOut (.ref z) (.ref g5.objs.size) >>= _) _ _ _
 apply aN3
 unfold Builtin.SmallTypes.ownedTupleHandOut
 apply aN3
 have z6:IsZip (g5.push { cls:=.type "tuple",data:=.seq #[x,y] }) z TI TO .ellipsis:=aN5 _ z5
 refine aU2 z6 (by simp) fun g7 z7 sb7=>?_
 have z7:IsZip g7 z TI TO (rawInt g5.objs.size):=z7
 refine aU2 z7 (by simp) fun g8 z8 sb8=>?_
 have z8:IsZip g8 z TI TO (rawInt g5.objs.size):=z8
 have zlt:z < g5.objs.size:=aO8 z5
 have up:∀ c o,c ≠ z->g5.get? c=some o->g8.get? c=some o:=fun c o c1 e=>sb8.extBut c o c1 (sb7.extBut c o c1 (aN5 _ e))
 have p8:IsPair g8 g5.objs.size x y:=sb8.extBut _ _ (aW8 zlt) (sb7.extBut _ _ (aW8 zlt) (aP1 _ rfl))
 have s8:g8.objs.size=g5.objs.size+1:=by rw [sb8.1,sb7.1,aU8]
 have f1:St1 (i+1) g8:=D1.frame _ _ _ st1 fun c hc o e=>up c o (fun y=>ap.z1 (y ▸ hc)) (sb5.extBut c o (fun y=>ap.o1 (y ▸ hc)) (sb4.extBut c o (fun y=>ap.n2 (y ▸ hc)) (sb3.extBut c o (fun y=>ap.o1 (y ▸ hc)) e)))
 have f2:St2 (i+1) g8:=D2.frame _ _ _ st2 fun c hc o e=>up c o (fun y=>ap.z2 (y ▸ hc)) (sb5.extBut c o (fun y=>ap.o2 (y ▸ hc)) e)
 have ti8:IsPair g8 TI (.ref i1) (.ref i2):=up _ _ ap.TIz (k5 _ _ ap.TIz ap.TITO (kT ap ap.t1) (oW ap ap.t2) hti)
 rw [size] at z8 p8 s8
 apply aN8
 refine⟨_,rfl,aN8 ?_⟩
 change Q (some (.ref g5.objs.size)) _
 rw [size]
 exact q x y g8 tk4 px py ⟨z8,ti8,⟨x,y,up _ _ ap.TOz to5⟩,f1,f2⟩ p8 (fun c o c1 c2 c3 c4 e=>up c o c1 (k5 c o c1 c2 c3 c4 e)) s8
theorem fin (D1:Draws prog w A.in1 i1 fp1 n1 P1 St1) (D2:Draws prog w A.in1 i2 fp2 n2 P2 St2) (ap:Ap z TI TO i1 i2 fp1 fp2) {i:Nat} (le:i=n1 ∨ (i < n1/\i=n2)) (st:t9 z TI TO i1 i2 St1 St2 .none i i s.heap) {Q:Option Value->Shared->Prop}
  (q:∀ h' tk,(∀ c o,c ≠ z->c ≠ TO->c ≠ i1->c ≠ i2->s.heap.get? c=some o->h'.get? c=some o)->Q none { s with heap:=h',toks:=tk }):wpAny (model prog w) A (pyNext (.ref z)) Q E s:=by
 obtain ⟨hz,hti,⟨a,b,hto⟩,h1,h2⟩:=st
 have T:s.TypeIs (.ref z) "zip":=⟨_,hz,rfl⟩
 have slot:=PySem.F.slot_zip_next
 unfold pyNext
 apply aN3
 apply wpAny_attempt
 apply aT3 (name:=Str.ofString "__next__") T slot
 apply aT6 slot T PySem.F.entry_zip_next _ (PySem.F.args_zip_next_1 _)
 change wpAny _ _ (field (.ref z) 2 >>= _) _ _ _
 apply aN3
 refine aT2 hz rfl (x:=.bool false) rfl ?_
 change wpAny _ _ (field (.ref z) 3 >>= _) _ _ _
 apply aN3
 refine aT2 hz rfl (x:=.ref TI) rfl ?_
 apply aN3
 apply aU9 hti rfl
 change wpAny _ _ (Builtin.SmallTypes.ownedTupleIsFree (.ref z) >>= _) _ _ _
 apply aN3
 unfold Builtin.SmallTypes.ownedTupleIsFree
 apply aN3
 refine aT2 hz rfl (x:=.none) rfl (aN8 ?_)
 simp only [if_true]
 apply aN3
 apply ba4
 apply aN3
 refine aT2 hz rfl (x:=.ref TO) rfl ?_
 apply aN3
 refine aU2 hz (by simp) fun g1 hz1 sb1=>?_
 have k1:∀ c o,c ≠ z->s.heap.get? c=some o->g1.get? c=some o:=fun c o c1 e=>sb1.extBut c o c1 e
 apply aN3
 simp only [List.zipIdx_cons,List.zipIdx_nil,List.forIn_cons,List.forIn_nil]
 apply aN3
 apply aN3
 apply wpAny_onRaise
 change wpAny _ _ (Builtin.SmallTypes.nextOf (.ref i1) >>= _) _ _ _
 apply aN3
 have z1:IsZip g1 z TI TO .ellipsis:=hz1
 rcases le with rfl | ⟨lt,rfl⟩
 ·refine D1.done { s with heap:=g1 } _ _ (D1.frame _ _ _ h1 fun c hc o e=>k1 c o (fun y=>ap.z1 (y ▸ hc)) e) fun g2 e eb ex=>?_
  have z2:IsZip g2 z TI TO .ellipsis:=eb _ _ (kT ap ap.z1) z1
  refine aU2 z2 (by simp) fun g3 z3 sb3=>?_
  obtain ⟨oe,eo,co⟩:=ex
  have ne:e ≠ z:=fun y=>by
   rw [y,z2] at eo
   have:=aQ0 eo
   rw [<- this] at co; exact absurd (show Value.type "zip" = Value.type "StopIteration" from co) (by decide)
  apply aN3
  refine wpAny_isInstance (T:="StopIteration") (b:=true) ⟨oe,sb3.extBut _ _ ne eo,co⟩ isSubtype_stop ?_
  exact aN8 (q g3 s.toks fun c o c1 _ c3 _ e=>sb3.extBut c o c1 (eb c o c3 (k1 c o c1 e)))
 ·refine D1.item i { s with heap:=g1 } _ _ lt (D1.frame _ _ _ h1 fun c hc o e=>k1 c o (fun y=>ap.z1 (y ▸ hc)) e) fun x g2 tk2 px st1 sb2=>aN8 ?_
  have k2:∀ c o,c ≠ z->c ≠ i1->s.heap.get? c=some o->g2.get? c=some o:=fun c o c1 c2 e=>sb2.extBut c o c2 (k1 c o c1 e)
  have to2:IsPair g2 TO a b:=k2 _ _ ap.TOz (kT ap ap.o1) hto
  apply aN3
  apply aU9 to2 rfl
  apply aN3
  refine wpAny_updateSeq_pair to2 fun g3 to3 sb3=>?_
  apply aN3
  apply aY9
  apply aN8
  apply aN3
  apply aN3
  apply wpAny_onRaise
  change wpAny _ _ (Builtin.SmallTypes.nextOf (.ref i2) >>= _) _ _ _
  apply aN3
  have k3:∀ c o,c ≠ z->c ≠ i1->c ≠ TO->s.heap.get? c=some o->g3.get? c=some o:=fun c o c1 c2 c3 e=>sb3.extBut c o c3 (k2 c o c1 c2 e)
  refine D2.done { s with heap:=g3,toks:=tk2 } _ _ (D2.frame _ _ _ h2 fun c hc o e=>k3 c o (fun y=>ap.z2 (y ▸ hc)) (fun y=>ap.n1 (y ▸ hc)) (fun y=>ap.o2 (y ▸ hc)) e) fun g4 e eb ex=>?_
  have z4:IsZip g4 z TI TO .ellipsis:=eb _ _ (oW ap ap.z2) (sb3.extBut _ _ (Ne.symm ap.TOz) (sb2.extBut _ _ (kT ap ap.z1) z1))
  refine aU2 z4 (by simp) fun g5 z5 sb5=>?_
  obtain ⟨oe,eo,co⟩:=ex
  have ne:e ≠ z:=fun y=>by
   rw [y,z4] at eo
   have:=aQ0 eo
   rw [<- this] at co; exact absurd (show Value.type "zip" = Value.type "StopIteration" from co) (by decide)
  apply aN3
  refine wpAny_isInstance (T:="StopIteration") (b:=true) ⟨oe,sb5.extBut _ _ ne eo,co⟩ isSubtype_stop ?_
  exact aN8 (q g5 tk2 fun c o c1 c2 c3 c4 e=>sb5.extBut c o c1 (eb c o c4 (k3 c o c1 c3 c2 e)))
end
def fF (h:Heap) (t u:Addr):Heap:=
 ((((h.push { cls:=.type "tuple_iterator",data:=.fields #[.ref t,.int 0 0] }).push { cls:=.type "tuple_iterator",data:=.fields #[.ref u,.int 0 0] }).push { cls:=.type "tuple",data:=.seq #[.ref h.objs.size,.ref (h.objs.size+1)] }).push
  { cls:=.type "tuple",data:=.seq #[.none,.none] }).push { cls:=.type "zip",data:=.fields #[.none,.bool false,.bool false,.ref (h.objs.size+2),.ref (h.objs.size+3)] }
theorem ai9 (t u:Addr) (xs ys:Array Value):Meets (Builtin.«zip.__new__» ⟨[.type "zip",.ref t,.ref u],[]⟩) (fun _ R s=>s.heap.IsTuple t xs/\s.heap.IsTuple u ys/\R (.ok (.ret (.ref (s.heap.objs.size+4)))) { s with heap:=fF s.heap t u }):=
 .of_wp fun prog w A R s h=>by
  obtain ⟨hp,g,d,tk,os⟩:=s
  obtain ⟨ht,hu,h⟩:=h
  have sub:=sub_zip
  have a1:Heap.IsTuple (Shared.heap ⟨hp,g,d,tk,os⟩) t xs:=ht
  have a2:Heap.IsTuple (Shared.heap ⟨hp.push { cls:=.type "tuple_iterator",data:=.fields #[.ref t,.int 0 0] },g,d,tk,os⟩) u ys:=hu.elim fun o y=>⟨o,aN5 _ y.1,y.2⟩
  wp_walk using aZ5 a1,aZ5 a2
  have e:∀ (o:Obj) (k:Heap),(k.push o).objs.size=k.objs.size+1:=fun o k=>aU8 ..
  refine⟨_,rfl,?_⟩
  simp only [fF,e] at h ⊢
  exact h
section
variable {prog : Program} {w : World} {A : Around} {E : Value → Shared → Prop} {s : Shared}
theorem aj0 {t u:Addr}{xs ys:Array Value}{Q:Value->Shared->Prop} (ht:s.heap.IsTuple t xs) (hu:s.heap.IsTuple u ys)
  (q:∀ h',IsZip h' (s.heap.objs.size+4) (s.heap.objs.size+2) (s.heap.objs.size+3) .none->IsPair h' (s.heap.objs.size+2) (.ref s.heap.objs.size) (.ref (s.heap.objs.size+1))->
   IsPair h' (s.heap.objs.size+3) .none .none->h'.IsTupleIter s.heap.objs.size t 0->h'.IsTupleIter (s.heap.objs.size+1) u 0->(∀ c o,s.heap.get? c=some o->h'.get? c=some o)->Q (.ref (s.heap.objs.size+4)) { s with heap:=h' }) :
  wpAny (model prog w) A (call (.type "zip") [.ref t,.ref u]) Q E s:=by
 refine callType_new PySem.F.called_zip (by decide) (PySem.F.typeCall_zip_2 _ _) (PySem.F.newCall_zip_2 _ _) (fun obj=>PySem.F.args_object_init_3 obj _ _) PySem.F.entry_zip_new (ai9 t u xs ys) ⟨ht,hu,?_⟩
 have e:∀ (o:Obj) (k:Heap),(k.push o).objs.size=k.objs.size+1:=fun o k=>aU8 ..
 have p0:∀ (k:Heap) (o:Obj) (m:Nat),o.isFreed=false->m=k.objs.size->(k.push o).get? m=some o:=fun k o m f z=>by rw [z]; exact aP1 _ f
 have g0:(fF s.heap t u).get? s.heap.objs.size=some { cls:=.type "tuple_iterator",data:=.fields #[.ref t,.int 0 0] }:=by
  unfold fF
  exact aN5 _ (aN5 _ (aN5 _ (aN5 _ (p0 _ _ _ rfl rfl))))
 have g1:(fF s.heap t u).get? (s.heap.objs.size+1)=some { cls:=.type "tuple_iterator",data:=.fields #[.ref u,.int 0 0] }:=by
  unfold fF
  exact aN5 _ (aN5 _ (aN5 _ (p0 _ _ _ rfl (by simp only [e]))))
 have g2:(fF s.heap t u).get? (s.heap.objs.size+2)=some { cls:=.type "tuple",data:=.seq #[.ref s.heap.objs.size,.ref (s.heap.objs.size+1)] }:=by
  unfold fF
  exact aN5 _ (aN5 _ (p0 _ _ _ rfl (by simp only [e])))
 have g3:(fF s.heap t u).get? (s.heap.objs.size+3)=some { cls:=.type "tuple",data:=.seq #[.none,.none] }:=by
  unfold fF
  exact aN5 _ (p0 _ _ _ rfl (by simp only [e]))
 have g4:(fF s.heap t u).get? (s.heap.objs.size+4)=some { cls:=.type "zip",data:=.fields #[.none,.bool false,.bool false,.ref (s.heap.objs.size+2),.ref (s.heap.objs.size+3)] }:=by
  unfold fF
  exact p0 _ _ _ rfl (by simp only [e])
 refine⟨⟨_,g4,rfl⟩,q _ g4 g2 g3 ⟨_,g0,rfl,rfl⟩ ⟨_,g1,rfl,rfl⟩ fun c o z=>?_⟩
 unfold fF
 exact aN5 _ (aN5 _ (aN5 _ (aN5 _ (aN5 _ z))))
end
end Zp
namespace L2
open PySem PySem.Spec PyProof.Rows
def tD (K:PySem.W.Frag) (a b:Addr):It:=
  ⟨fun i H=>∃ xs ys x y,aL K H a xs/\aL K H b ys/\xs[i]? = some x/\ys[i]? = some y,
   fun i H v H'=>∃ T x y,H T=none/\v = .ref T/\H'=upd H T (.tup [x,y])/\∀ xs ys,aL K H a xs->aL K H b ys->xs[i]? = some x/\ys[i]? = some y,
   fun i H=>∃ xs ys,aL K H a xs/\aL K H b ys/\(i=xs.length ∨ (i < xs.length/\i=ys.length))⟩
def Sq (t:Bool) (K:PySem.W.Frag) (H:Hp) (a:Addr) (xs:List V):Prop:=match t with
 | true=>aL K H a xs
 | false=>aM K H a xs
def fG (t:Bool) (h:Heap) (i a:Addr) (n:Nat):Prop:=match t with
 | true=>h.IsTupleIter i a n
 | false=>h.IsListIter i a n
def yO (t:Bool) (h:Heap) (a:Addr) (xs:Array Value):Prop:=match t with
 | true=>h.IsTuple a xs
 | false=>h.IsList a xs
theorem fG.at {h h':Heap}{i a:Addr}{n:Nat}:∀ {t:Bool},fG t h i a n->(∀ o,h.get? i=some o->h'.get? i=some o)->fG t h' i a n
 | true,x,k=>Heap.IsTupleIter.at x k
 | false,x,k=>Heap.IsListIter.at x k
theorem fG.ob {h:Heap}{i a:Addr}{n:Nat}:∀ {t:Bool},fG t h i a n->∃ o,h.get? i=some o/\∀ v,o.data ≠ .cell v
 | true,⟨o,f,_,d⟩=>⟨o,f,fun v q=>by rw [d] at q; cases q⟩
 | false,⟨o,f,_,d⟩=>⟨o,f,fun v q=>by rw [d] at q; cases q⟩
theorem fG.draws {prog:Program}{w:World}{A:Around}:∀ (t:Bool) (hh:A.handled=none) (it a:Addr) (ne:a ≠ it) (items:Array Value),Draws prog w A it [it,a] items.size (fun i v=>items[i]? = some v) (fun i h=>fG t h it a i/\yO t h a items)
 | true,hh,it,a,ne,items=>Zp.ai8 hh it a ne items
 | false,hh,it,a,ne,items=>Draws.list hh it a ne items
section
variable {X : Cx} {pins : List (Addr × Obj)} {σ : St} {H : Hp} {s : Shared} {a : Addr} {xs ys : List V}
theorem Sq.get (I:a8 X pins σ H s):∀ {t:Bool},Sq t X.K H a xs->∃ us,aK xs us/\yO t s.heap a us.toArray
 | true,h=>by obtain ⟨us,r,p,_⟩:=I.tuple h; exact⟨us,r,p⟩
 | false,h=>by obtain ⟨us,r,p,_⟩:=I.list h; exact⟨us,r,p.isList⟩
theorem Sq.inj (I:a8 X pins σ H s):∀ {t:Bool},Sq t X.K H a xs->Sq t X.K H a ys->xs=ys
 | true,h,g=>I.tuple_inj h g
 | false,h,g=>I.list_inj h g
theorem Sq.off (I:a8 X pins σ H s) (he:H a=none) (hb:X.base.get? a=none):∀ {t:Bool},Sq t X.K H a xs->False
 | true,h=>by
  rcases h with (h | ⟨_,h⟩) | ⟨o,_,_,h,_⟩
  ·rw [he] at h; cases h
  ·rw [he] at h; cases h
  ·have:=I.ok.mod.kin a o h
   rw [hb] at this; cases this
 | false,h=>by
  rcases h with (h | ⟨_,h⟩) | ⟨o,_,_,h,_⟩
  ·rw [he] at h; cases h
  ·rw [he] at h; cases h
  ·have:=I.ok.mod.kin a o h
   rw [hb] at this; cases this
end
def aj1 (t1 t2:Bool) (K:PySem.W.Frag) (a b:Addr):It:=
  ⟨fun i H=>∃ xs ys x y,Sq t1 K H a xs/\Sq t2 K H b ys/\xs[i]? = some x/\ys[i]? = some y,
   fun i H v H'=>∃ T x y,H T=none/\v = .ref T/\H'=upd H T (.tup [x,y])/\∀ xs ys,Sq t1 K H a xs->Sq t2 K H b ys->xs[i]? = some x/\ys[i]? = some y,
   fun i H=>∃ xs ys,Sq t1 K H a xs/\Sq t2 K H b ys/\(i=xs.length ∨ (i < xs.length/\i=ys.length))⟩
structure tE (t1 t2:Bool) (z TI TO i1 i2 a b:Addr) (i:Nat) (h:Heap):Prop where
 zz:IsZip h z TI TO .none
 ti:IsPair h TI (.ref i1) (.ref i2)
 to_:∃ x y,IsPair h TO x y
 s1:fG t1 h i1 a i
 s2:fG t2 h i2 b i
theorem yP (t1 t2:Bool) {P:Program}{w:World}{K:PySem.W.Frag}{elts:List Expr}{k:Nat}{pos:Pos} (a b z TI TO i1 i2:Addr) (d : [z,TI,TO,i1,i2].Nodup) :
  gU P w K (.Tuple elts k pos) (aj1 t1 t2 K a b) [z,TI,TO,i1,i2] z (tE t1 t2 z TI TO i1 i2 a b):=by
 have nd:z ≠ TI/\z ≠ TO/\z ≠ i1/\z ≠ i2/\TI ≠ TO/\TI ≠ i1/\TI ≠ i2/\TO ≠ i1/\TO ≠ i2/\i1 ≠ i2:=by
  simp only [bb9,aO0,aP2,aS1,not_or] at d
  obtain ⟨⟨a1,a2,a3,a4⟩,⟨b1,b2,b3⟩,⟨c1,c2⟩,e1,_⟩:=d
  exact⟨a1,a2,a3,a4,b1,b2,b3,c1,c2,e1⟩
 obtain ⟨n1,n2,n3,n4,n5,n6,n7,n8,n9,n10⟩:=nd
 have offBase:∀ {X:Cx}{pins:List (Addr × Obj)}{σ:St}{H:Hp}{s:Shared},a8 X pins σ H s->(∀ c ∈ [z,TI,TO,i1,i2],fB X pins H c)->∀ c ∈ [z,TI,TO,i1,i2],X.base.get? c=none:=by
  intro X pins σ H s I hf c hc
  cases q:X.base.get? c with
  | none=>rfl
  | some o=>
   rcases (hf c hc).2.2.2.1 with h | h
   ·exact absurd h (I.ok.noex c o q)
   ·exact absurd (aP5 (aO8 q) (aQ7 I.ok.bsz h)) (aV4 _)
 have off:∀ {t:Bool}{X:Cx}{pins:List (Addr × Obj)}{σ:St}{H:Hp}{s:Shared}{c:Addr}{zs:List V},a8 X pins σ H s->(∀ c ∈ [z,TI,TO,i1,i2],fB X pins H c)->Sq t X.K H c zs->c ∉ [z,TI,TO,i1,i2]:=by
  intro t X pins σ H s c zs I hf hc hm
  exact Sq.off I (hf c hm).1 (offBase I hf c hm) hc
 have ap:∀ {c e:Addr},c ∉ [z,TI,TO,i1,i2]->e ∉ [z,TI,TO,i1,i2]->Zp.Ap z TI TO i1 i2 [i1,c] [i2,e]:=fun {c e} hc he=>by
  simp only [aO0,aP2,aS1,not_or] at hc he
  obtain ⟨c1,c2,c3,c4,c5⟩:=hc
  obtain ⟨e1,e2,e3,e4,e5⟩:=he
  have two:∀ {q u v:Addr},q ≠ u->q ≠ v->q ∉ [u,v]:=fun {q u v} h1 h2 hm=>by
   simp only [aO0,aP2,aS1] at hm
   exact hm.elim h1 h2
  exact⟨n1.symm,n2.symm,n5,two n3 (Ne.symm c1),two n4 (Ne.symm e1),two n8 (Ne.symm c3),two n9 (Ne.symm e3),two n6 (Ne.symm c2),two n7 (Ne.symm e2),aO9,aO9,two n10 (Ne.symm e4),two n10.symm (Ne.symm c5)⟩
 refine⟨by simp,fun i h st c hc=>?_,fun i h h' st kp=>?_,?_,?_,fun A i s Q E st q=>wpAny_pyIter_zip st.zz q⟩
 ·simp only [aO0,aP2,aS1] at hc
  obtain ⟨x,y,to⟩:=st.to_
  rcases hc with rfl | rfl | rfl | rfl | rfl
  ·exact⟨_,st.zz,fun v q=>by cases q⟩
  ·exact⟨_,st.ti,fun v q=>by cases q⟩
  ·exact⟨_,to,fun v q=>by cases q⟩
  ·exact st.s1.ob
  ·exact st.s2.ob
 ·obtain ⟨x,y,to⟩:=st.to_
  exact⟨kp z (by simp) _ st.zz,kp TI (by simp) _ st.ti,⟨x,y,kp TO (by simp) _ to⟩,st.s1.at fun o e=>kp i1 (by simp) o e,st.s2.at fun o e=>kp i2 (by simp) o e⟩
 ·
  intro X hP hw hK hc i pins s σ H E I hf st hg
  subst hP hw hK
  obtain ⟨xs,ys,x,y,ha,hb,hx,hy⟩:=hg
  obtain ⟨us,ru,pu⟩:=Sq.get I ha
  obtain ⟨vs,rv,pv'⟩:=Sq.get I hb
  obtain ⟨ux,eux,rux⟩:=ru.get hx
  obtain ⟨vy,evy,rvy⟩:=rv.get hy
  have fa:=off I hf ha
  have fb:=off I hf hb
  have hh:X.A.in1.handled=none:=I.ok.hd hc
  have l1:i < us.toArray.size:=by simpa using (aO7.mp eux).1
  have l2:i < vs.toArray.size:=by simpa using (aO7.mp evy).1
  have fa':a ≠ i1:=fun q=>fa (by rw [q]; simp)
  have fb':b ≠ i2:=fun q=>fb (by rw [q]; simp)
  have D1:=fG.draws t1 (prog:=X.prog) (w:=X.w) hh i1 a fa' us.toArray
  have D2:=fG.draws t2 (prog:=X.prog) (w:=X.w) hh i2 b fb' vs.toArray
  refine Zp.item D1 D2 (ap fa fb) l1 l2 ⟨st.zz,st.ti,st.to_,⟨st.s1,pu⟩,⟨st.s2,pv'⟩⟩ fun p q h' tk hp hq st' pr kp sz=>⟨_,rfl,?_⟩
  obtain rfl:p=ux:=by
   have:us.toArray[i]? = some ux:=by simpa using eux
   rw [this] at hp; exact (aQ0 hp).symm
  obtain rfl:q=vy:=by
   have:vs.toArray[i]? = some vy:=by simpa using evy
   rw [this] at hq; exact (aQ0 hq).symm
  refine wpAny_letOwnedTupleGo_zip (s:={ s with heap:=h',toks:=tk }) st'.zz fun g zz sb=>?_
  have hzl:z < s.heap.objs.size:=aO8 st.zz
  have up:∀ c o,c ≠ z->c ≠ TO->c ≠ i1->c ≠ i2->s.heap.get? c=some o->g.get? c=some o:=fun c o c1 c2 c3 c4 e=>sb.extBut c o c1 (kp c o c1 c2 c3 c4 e)
  have hT:H s.heap.objs.size=none:=I.hok.fresh (aO6 _)
  have prG:IsPair g s.heap.objs.size p q:=sb.extBut _ _ (aW8 hzl) pr
  have fpn:∀ c u,H c=some u->c ∉ [z,TI,TO,i1,i2]:=fun c u e hm=>by rw [(hf c hm).1] at e; cases e
  have upH:∀ c o u,H c=some u->s.heap.get? c=some o->g.get? c=some o:=fun c o u e z=>by
   have:=fpn c u e
   simp only [aO0,aP2,aS1,not_or] at this
   exact up c o this.1 this.2.2.1 this.2.2.2.1 this.2.2.2.2 z
  have ns:∀ m,s.heap.Ns X.env.locals m->g.Ns X.env.locals m:=fun m hm=>by
   obtain ⟨o,es,ep,e1,e2⟩:=hm
   exact⟨o,es,ep,up _ o (Ne.symm (hf z (by simp)).2.1) (Ne.symm (hf TO (by simp)).2.1) (Ne.symm (hf i1 (by simp)).2.1) (Ne.symm (hf i2 (by simp)).2.1) e1,e2⟩
  have I2:a8 X pins σ (upd H s.heap.objs.size (.tup [x,y])) { s with heap:=g,toks:=tk }:=by
   refine I.step (g':=s.gens) (d':=s.drawn) (ch:=[z,TO,i1,i2]) (fun c hc'=>?_) (fun c o _ _ hc' e _=>?_) (fun c o _ _ hc' e _=>⟨o.slots,?_⟩) (fun c o _ e n=>?_) (fun c o hc' e=>⟨o,?_⟩)
    (fun c zs e=>by rw [aZ (cR e hT)]; exact e) (fun c u zs e=>by rw [aZ (cR e hT)]; exact e) (fun c ps e=>⟨#[],by rw [aZ (cR e hT),e]; simp⟩) ns (fun c u e=>?_) I.bare
   ·have hm:c ∈ [z,TI,TO,i1,i2]:=by
     simp only [aO0,aP2,aS1] at hc' ⊢
     rcases hc' with h | h | h | h <;> simp [h]
    exact⟨(hf c hm).2.2.2.1,(hf c hm).2.1,(hf c hm).2.2.2.2.1,(hf c hm).2.2.2.2.2⟩
   ·simp only [aO0,aP2,aS1,not_or] at hc'
    exact up c o hc'.1 hc'.2.1 hc'.2.2.1 hc'.2.2.2 e
   ·simp only [aO0,aP2,aS1,not_or] at hc'
    exact up c o hc'.1 hc'.2.1 hc'.2.2.1 hc'.2.2.2 e
   ·rw [aZ (aQ6 (aO8 e))]; exact n
   ·simp only [aO0,aP2,aS1,not_or] at hc'
    exact up c o hc'.1 hc'.2.1 hc'.2.2.1 hc'.2.2.2 e
   ·by_cases hcT:c=s.heap.objs.size
    ·subst hcT
     rw [c9] at e; cases e
     exact⟨by show 2<=sizeLine; decide,[p,q],.cons rux (.cons rvy .nil),⟨_,prG,rfl,_,rfl⟩,fun u e=>by rw [prG] at e; cases e; rfl⟩
    ·rw [aZ hcT] at e
     refine (I.hok c u e).stay (fun c' o' hc2 q'=>?_) (fun c' q'=>by rw [aZ (cR q' hT)]; exact q') fun c' zs q'=>by rw [aZ (cR q' hT)]; exact q'
     rcases hc2 with rfl | hc2
     ·exact upH _ _ _ e q'
     ·exact upH _ _ _ hc2 q'
  obtain ⟨x',y',to'⟩:=st'.to_
  refine⟨.ref s.heap.objs.size,_,I2,rfl,⟨_,x,y,hT,rfl,rfl,fun xs' ys' ha' hb'=>?_⟩,⟨zz,sb.extBut _ _ n1.symm st'.ti,⟨x',y',sb.extBut _ _ n2.symm to'⟩,st'.s1.1.at fun o e=>sb.extBut _ o n3.symm e,st'.s2.1.at fun o e=>sb.extBut _ o n4.symm e⟩,fun c hc'=>?_⟩
  ·rw [Sq.inj I ha' ha,Sq.inj I hb' hb]; exact⟨hx,hy⟩
  ·obtain ⟨o,e,_⟩:∃ o,s.heap.get? c=some o/\True:=by
    simp only [aO0,aP2,aS1] at hc'
    obtain ⟨x2,y2,to2⟩:=st.to_
    obtain ⟨o1,f1,_⟩:=st.s1.ob
    obtain ⟨o2,f2,_⟩:=st.s2.ob
    rcases hc' with rfl | rfl | rfl | rfl | rfl
    ·exact⟨_,st.zz,trivial⟩
    ·exact⟨_,st.ti,trivial⟩
    ·exact⟨_,to2,trivial⟩
    ·exact⟨_,f1,trivial⟩
    ·exact⟨_,f2,trivial⟩
   rw [aZ (aQ6 (aO8 e))]; exact (hf c hc').1
 ·
  intro X hP hw hK hc i pins s σ H E I hf st hg
  subst hP hw hK
  obtain ⟨xs,ys,ha,hb,hi⟩:=hg
  obtain ⟨us,ru,pu⟩:=Sq.get I ha
  obtain ⟨vs,rv,pv'⟩:=Sq.get I hb
  have fa:=off I hf ha
  have fb:=off I hf hb
  have hh:X.A.in1.handled=none:=I.ok.hd hc
  have fa':a ≠ i1:=fun q=>fa (by rw [q]; simp)
  have fb':b ≠ i2:=fun q=>fb (by rw [q]; simp)
  have D1:=fG.draws t1 (prog:=X.prog) (w:=X.w) hh i1 a fa' us.toArray
  have D2:=fG.draws t2 (prog:=X.prog) (w:=X.w) hh i2 b fb' vs.toArray
  have e1:=ru.length
  have e2:=rv.length
  refine Zp.fin D1 D2 (ap fa fb) (by simp only [aN7]; omega) ⟨st.zz,st.ti,st.to_,⟨st.s1,pu⟩,⟨st.s2,pv'⟩⟩ fun g tk kp=>⟨rfl,?_⟩
  have fpn:∀ c u,H c=some u->c ∉ [z,TI,TO,i1,i2]:=fun c u e hm=>by rw [(hf c hm).1] at e; cases e
  have upH:∀ c o u,H c=some u->s.heap.get? c=some o->g.get? c=some o:=fun c o u e z=>by
   have:=fpn c u e
   simp only [aO0,aP2,aS1,not_or] at this
   exact kp c o this.1 this.2.2.1 this.2.2.2.1 this.2.2.2.2 z
  have ns:∀ m,s.heap.Ns X.env.locals m->g.Ns X.env.locals m:=fun m hm=>by
   obtain ⟨o,es,ep,e1,e2⟩:=hm
   exact⟨o,es,ep,kp _ o (Ne.symm (hf z (by simp)).2.1) (Ne.symm (hf TO (by simp)).2.1) (Ne.symm (hf i1 (by simp)).2.1) (Ne.symm (hf i2 (by simp)).2.1) e1,e2⟩
  refine I.step (g':=s.gens) (d':=s.drawn) (ch:=[z,TO,i1,i2]) (fun c hc'=>?_) (fun c o _ _ hc' e _=>?_) (fun c o _ _ hc' e _=>⟨o.slots,?_⟩) (fun c o _ e n=>n) (fun c o hc' e=>⟨o,?_⟩)
   (fun c zs e=>e) (fun c u zs e=>e) (fun c ps e=>⟨#[],by rw [e]; simp⟩) ns (fun c u e=>?_) I.bare
  ·have hm:c ∈ [z,TI,TO,i1,i2]:=by
    simp only [aO0,aP2,aS1] at hc' ⊢
    rcases hc' with h | h | h | h <;> simp [h]
   exact⟨(hf c hm).2.2.2.1,(hf c hm).2.1,(hf c hm).2.2.2.2.1,(hf c hm).2.2.2.2.2⟩
  ·simp only [aO0,aP2,aS1,not_or] at hc'
   exact kp c o hc'.1 hc'.2.1 hc'.2.2.1 hc'.2.2.2 e
  ·simp only [aO0,aP2,aS1,not_or] at hc'
   exact kp c o hc'.1 hc'.2.1 hc'.2.2.1 hc'.2.2.2 e
  ·simp only [aO0,aP2,aS1,not_or] at hc'
   exact kp c o hc'.1 hc'.2.1 hc'.2.2.1 hc'.2.2.2 e
  ·refine (I.hok c u e).stay (fun c' o' hc2 q'=>?_) (fun _ q'=>q') fun _ _ q'=>q'
   rcases hc2 with rfl | hc2
   ·exact upH _ _ _ e q'
   ·exact upH _ _ _ hc2 q'
abbrev aj2:=tE true true
theorem aj3 {P:Program}{w:World}{K:PySem.W.Frag}{elts:List Expr}{k:Nat}{pos:Pos} (a b z TI TO i1 i2:Addr) (d : [z,TI,TO,i1,i2].Nodup) :
  gU P w K (.Tuple elts k pos) (tD K a b) [z,TI,TO,i1,i2] z (aj2 z TI TO i1 i2 a b):=yP true true a b z TI TO i1 i2 d
section
variable {X : Cx}
theorem aj4 (hc:X.calm=true):cG X (.builtin "all") (fun xs H Q=>∃ (a:Addr) (bs:List Bool),xs = [.ref a]/\aM X.K H a (bs.map V.bl)/\Q (.bl (bs.all id)) H):=by
 intro pins s σ H xs us Q I r h
 obtain ⟨a,bs,rfl,hq,q⟩:=h
 obtain ⟨u,rfl,ru⟩:=gV r
 cases ru
 obtain ⟨its,rv,p,hz⟩:=I.list hq
 have hl:=rv.length
 rw [aO2] at hl
 have hlt:a < s.heap.objs.size:=by obtain ⟨o,e,_⟩:=p.isList; exact aO8 e
 refine call_all_walk (wpAny_pyIter_list p.isList ?_)
 have hh:X.A.in1.handled=none:=I.ok.hd hc
 refine⟨s.heap.objs.size,_,_,_,_,_,fun i=>bs.getD i false,rfl,Walks.list hh s.heap.objs.size a (aQ6 hlt) its.toArray,⟨⟨_,aP1 _ rfl,rfl,rfl⟩,p.isList.push _⟩,?_,fun h' tk kp=>?_⟩
 ·intro i v s' Q' E' hP hQ'
  have hi:its[i]? = some v:=by simpa using hP
  have hil:i < bs.length:=by rw [hl]; exact (aO7.mp hi).1
  obtain ⟨u,e1,e2⟩:=rv.get (i:=i) (x:=.bl bs[i]) (by simp [hil])
  rw [hi] at e1; cases e1
  cases e2
  have:bs.getD i false=bs[i]:=by rw [aP6,aN6 hil]; rfl
  have hQ2:Q' (bs.getD i false) s':=hQ'
  rw [this] at hQ2
  exact aY5 hQ2
 ·have all_eq:(List.range its.toArray.size).all (fun i=>bs.getD i false)=bs.all id:=by
   rw [aN7,<- hl]
   clear q rv hz hl hq hlt p hh kp
   induction bs with
   | nil=>rfl
   | cons b r ih=>
    rw [aR9,List.range_succ_eq_map,ba7,List.all_map,ba7,<- ih]
    rfl
  rw [all_eq]
  refine⟨.bl (bs.all id),H,I.kept (t':=tk) (h':=h') fun b o e=>kp b o (fun z=>?_) (aN5 _ e),rfl,q⟩
  rw [aP0.mp z] at e
  exact absurd (aO8 e) (aV4 _)
end
end L2
namespace HT
open PySem PyProof.Rows
section
variable {prog : Program} {w : World} {A : Around} {E : Value → Shared → Prop} {s : Shared}
theorem aj5 {t sl:Addr}{items:Array Value}{vl vu:Value}{lo hi:Option Int}{Q:Value->Shared->Prop} (ht:IsTup s.heap t items) (hs:s.heap.IsSliceOf sl vl vu .none) (pl:IsPart vl lo) (pu:IsPart vu hi)
  (h1:aS items.size 0 lo=0) (h2:aS items.size items.size hi=items.size) (h:Q (.ref t) s):wpAny (model prog w) A (getItem (.ref t) (.ref sl)) Q E s:=by
 obtain ⟨o,e1,e2,e3⟩:=id hs
 have T:s.TypeIs (.ref sl) "slice":=⟨o,e1,e2⟩
 unfold getItem
 try with_reducible refine aV5 ?_
 first | refine aN3 (aN8 ?_) | skip
 apply aN3
 apply wpAny_sequenceKey ht.typeIs (by decide)
 apply aN3
 apply aT3 (name:=Str.ofString "__getitem__") ht.typeIs aZ1
 apply aT6 aZ1 ht.typeIs entry_tuple_getitem _ (args_tuple_getitem _ _)
 change wpAny _ _ (Builtin.Tuple.tupleItemsOf (.ref t) >>= _) _ _ s
 apply aN3
 apply tupleItemsOf_ ht
 apply aN3
 apply wpAny_typeOf T
 rw [if_pos (by decide)]
 apply aN3
 apply xD hs pl pu
 rw [h1,h2]
 have yes:((((0:Nat):Int) == 0 && (1:Int) == 1 && (items.size - 0) == items.size)=true):=by simp
 change wpAny _ _ (if ((((0:Nat):Int) == 0 && (1:Int) == 1 && (items.size - 0) == items.size)=true) then _ else _) _ _ s
 rw [if_pos yes]
 apply aN3
 unfold Builtin.Tuple.tupleIsExact
 apply aN3
 apply wpAny_typeOf ht.typeIs
 apply aN8
 change wpAny _ _ (rule "tuple.getitem.whole" >>= fun _=>ret (Value.ref t)) _ _ s
 apply aN3
 apply ba4
 exact aN8 ⟨_,rfl,aN8 h⟩
end
end HT
namespace L2
open PySem PySem.Spec PyProof.Rows
section
variable {X : Cx}
def aj6 (K:PySem.W.Frag):V->Option Int->Option Int->Hp->VK->Prop:=fun x lo hi H Q=>∃ a xs,x = .ref a/\aL K H a xs/\(∀ p,H p=none->Q (.ref p) (upd H p (.tup (gF xs lo hi))))/\(gF xs lo hi=xs->Q (.ref a) H)
theorem aj7:j6 X (aj6 X.K):=by
 intro pins s σ H x v vl vu lo hi sl Q I rx hs pl pu h
 obtain ⟨a,xs,ex,hx,q1,q2⟩:=h
 by_cases hw:HT.aS xs.length 0 lo=0/\HT.aS xs.length xs.length hi=xs.length
 ·subst ex
  cases rx
  obtain ⟨its,r,ht,hz⟩:=I.tuple hx
  have hlen:its.toArray.size=xs.length:=by rw [aN7]; exact r.length.symm
  refine⟨"tuple",_,PyProof.Rows.slot_tuple_getitem.lookup,ht.typeIs,?_⟩
  refine HT.aj5 ht hs pl pu (by rw [hlen]; exact hw.1) (by rw [hlen]; exact hw.2) ⟨.ref a,H,I,rfl,q2 ?_⟩
  unfold gF
  rw [hw.1,hw.2]
  simp
 ·exact ae0 pins s σ H x v vl vu lo hi sl Q I rx hs pl pu ⟨a,xs,ex,hx,hw,q1⟩
end
def tF (K:PySem.W.Frag) (a b:Addr):It:=
  ⟨fun i H=>∃ xs ys x y,aM K H a xs/\aM K H b ys/\xs[i]? = some x/\ys[i]? = some y,
   fun i H v H'=>∃ T x y,H T=none/\v = .ref T/\H'=upd H T (.tup [x,y])/\∀ xs ys,aM K H a xs->aM K H b ys->xs[i]? = some x/\ys[i]? = some y,
   fun i H=>∃ xs ys,aM K H a xs/\aM K H b ys/\(i=xs.length ∨ (i < xs.length/\i=ys.length))⟩
abbrev aj8:=tE false false
theorem aj9 {P:Program}{w:World}{K:PySem.W.Frag}{elts:List Expr}{k:Nat}{pos:Pos} (a b z TI TO i1 i2:Addr) (d : [z,TI,TO,i1,i2].Nodup) :
  gU P w K (.Tuple elts k pos) (tF K a b) [z,TI,TO,i1,i2] z (aj8 z TI TO i1 i2 a b):=yP false false a b z TI TO i1 i2 d
end L2
namespace PP
open PySem L2
inductive PV where
 | non | bl (b:Bool) | int (i:Int) | str (x:Str) | tup (xs:List PV) | lst (xs:List PV)
 | dK (kvs:List (aJ × PV)) | dT (kvs:List (List aJ × PV)) | scr (ns:List Int) | kt (xs:List PV) | exc (c:Str) | fK (kvs:List (aJ × PV)) | fT (kvs:List (List aJ × PV))
mutual
def flat:PV->Bool
 | .tup xs=>flats xs
 | .lst _=>false
 | .dK _=>false
 | .dT _=>false
 | .non=>true
 | .bl _=>true
 | .int _=>true
 | .str _=>true
 | .scr _=>true
 | .kt xs=>flats xs
 | .exc _=>true
 | .fK _=>false
 | .fT _=>false
def flats:List PV->Bool
 | []=>true
 | x :: r=>flat x && flats r
end
def iI (K:PySem.W.Frag) (H:Hp) (a:Addr) (ns:List Int):Prop:=(∃ o,H a=some (.frz o (.lst (ns.map V.int)))) ∨
  ∃ (o:Obj) (its:Array Value) (n:Nat),K.lookup a=some o/\o.cls = .type "list"/\o.dict=none/\o.data = .seq its n/\its.size<=sizeLine/\aK (ns.map V.int) its.toList
def kU (K:PySem.W.Frag) (a:Addr) (us:List V):Prop:=∃ (o:Obj) (its:Array Value) (n:Nat),K.lookup a=some o/\o.cls = .type "tuple"/\o.data = .seq its n/\its.size<=sizeLine/\aK us its.toList
mutual
inductive aD (K:PySem.W.Frag) (M:Addr->Prop) (H:Hp):V->PV->Prop
 | non:aD K M H .non .non
 | bl (b:Bool):aD K M H (.bl b) (.bl b)
 | int (i:Int):aD K M H (.int i) (.int i)
 | str (x:Str):aD K M H (.str x) (.str x)
 | tup {a:Addr}{us:List V}{xs:List PV}:H a=some (.tup us)->Reps K M H us xs->aD K M H (.ref a) (.tup xs)
 | lst {a:Addr}{us:List V}{xs:List PV}:M a->H a=some (.lst us)->Reps K M H us xs->aD K M H (.ref a) (.lst xs)
 | dK {a:Addr}{kvs:List (aJ × V)}{ps:List (aJ × PV)}:M a->H a=some (.dK kvs)->kvs.map (·.1)=ps.map (·.1)->Reps K M H (kvs.map (·.2)) (ps.map (·.2))->aD K M H (.ref a) (.dK ps)
 | dT {a:Addr}{kvs:List (List aJ × V)}{ps:List (List aJ × PV)}:M a->H a=some (.dT kvs)->kvs.map (·.1)=ps.map (·.1)->Reps K M H (kvs.map (·.2)) (ps.map (·.2))->aD K M H (.ref a) (.dT ps)
 | scr {a:Addr}{ns:List Int}:iI K H a ns->aD K M H (.ref a) (.scr ns)
 | kt {a:Addr}{us:List V}{xs:List PV}:kU K a us->Reps K M H us xs->aD K M H (.ref a) (.kt xs)
 | exc {a C:Addr}{o:Obj}{c:Str}:H a=some (.frz o (.own a))->PySem.W.nsIn K mainGlobals c=some (some (.ref C))->o.cls = .ref C->aD K M H (.ref a) (.exc c)
 | fK {a:Addr}{o:Obj}{kvs:List (aJ × V)}{ps:List (aJ × PV)}:H a=some (.frz o (.dK kvs))->kvs.map (·.1)=ps.map (·.1)->Reps K M H (kvs.map (·.2)) (ps.map (·.2))->aD K M H (.ref a) (.fK ps)
 | fT {a:Addr}{o:Obj}{kvs:List (List aJ × V)}{ps:List (List aJ × PV)}:H a=some (.frz o (.dT kvs))->kvs.map (·.1)=ps.map (·.1)->Reps K M H (kvs.map (·.2)) (ps.map (·.2))->aD K M H (.ref a) (.fT ps)
inductive Reps (K:PySem.W.Frag) (M:Addr->Prop) (H:Hp):List V->List PV->Prop
 | nil:Reps K M H [] []
 | cons {v:V}{x:PV}{vs:List V}{xs:List PV}:aD K M H v x->Reps K M H vs xs->Reps K M H (v :: vs) (x :: xs)
end
structure gW (M M':Addr->Prop) (H H':Hp):Prop where
 lst:∀ a us,M a->H a=some (.lst us)->M' a/\H' a=some (.lst us)
 dK:∀ a kvs,M a->H a=some (.dK kvs)->M' a/\H' a=some (.dK kvs)
 dT:∀ a kvs,M a->H a=some (.dT kvs)->M' a/\H' a=some (.dT kvs)
 tup:∀ a us,H a=some (.tup us)->H' a=some (.tup us)
 frz:∀ a o u,H a=some (.frz o u)->H' a=some (.frz o u)
theorem iI.keep {K:PySem.W.Frag}{H H':Hp}{a:Addr}{ns:List Int} (k:∀ a o u,H a=some (.frz o u)->H' a=some (.frz o u)) (h:iI K H a ns):iI K H' a ns:=
 h.elim (fun ⟨o,e⟩=>.inl ⟨o,k _ _ _ e⟩) .inr
mutual
theorem aD.keep {K:PySem.W.Frag}{M M':Addr->Prop}{H H':Hp} (k:gW M M' H H'):∀ {v:V}{x:PV},aD K M H v x->aD K M' H' v x
 | _,_,.non=>.non
 | _,_,.bl b=>.bl b
 | _,_,.int i=>.int i
 | _,_,.str x=>.str x
 | _,_,.tup h r=>.tup (k.tup _ _ h) (Reps.keep k r)
 | _,_,.lst m h r=>.lst (k.lst _ _ m h).1 (k.lst _ _ m h).2 (Reps.keep k r)
 | _,_,.dK m h e r=>.dK (k.dK _ _ m h).1 (k.dK _ _ m h).2 e (Reps.keep k r)
 | _,_,.dT m h e r=>.dT (k.dT _ _ m h).1 (k.dT _ _ m h).2 e (Reps.keep k r)
 | _,_,.scr h=>.scr (h.keep k.frz)
 | _,_,.kt h r=>.kt h (Reps.keep k r)
 | _,_,.exc h e c=>.exc (k.frz _ _ _ h) e c
 | _,_,.fK h e r=>.fK (k.frz _ _ _ h) e (Reps.keep k r)
 | _,_,.fT h e r=>.fT (k.frz _ _ _ h) e (Reps.keep k r)
theorem Reps.keep {K:PySem.W.Frag}{M M':Addr->Prop}{H H':Hp} (k:gW M M' H H'):∀ {vs:List V}{xs:List PV},Reps K M H vs xs->Reps K M' H' vs xs
 | _,_,.nil=>.nil
 | _,_,.cons r t=>.cons (aD.keep k r) (Reps.keep k t)
end
mutual
theorem aD.flat {K:PySem.W.Frag}{M M':Addr->Prop}{H:Hp}{v:V}{x:PV} (f:flat x=true) (r:aD K M H v x):aD K M' H v x:=by
 cases r with
 | non=>exact .non
 | bl b=>exact .bl b
 | int i=>exact .int i
 | str x=>exact .str x
 | tup h r=>exact .tup h (Reps.flat (by unfold PP.flat at f; exact f) r)
 | lst m h r=>unfold PP.flat at f; cases f
 | dK m h e r=>unfold PP.flat at f; cases f
 | dT m h e r=>unfold PP.flat at f; cases f
 | scr h=>exact .scr h
 | kt h r=>exact .kt h (Reps.flat (by unfold PP.flat at f; exact f) r)
 | exc h e c=>exact .exc h e c
 | fK h e r=>unfold PP.flat at f; cases f
 | fT h e r=>unfold PP.flat at f; cases f
theorem Reps.flat {K:PySem.W.Frag}{M M':Addr->Prop}{H:Hp}{vs:List V}{xs:List PV} (f:flats xs=true) (r:Reps K M H vs xs):Reps K M' H vs xs:=by
 cases r with
 | nil=>exact .nil
 | cons r t=>
  unfold PP.flats at f
  rw [aW9] at f
  exact .cons (aD.flat f.1 r) (Reps.flat f.2 t)
end
theorem gW.same {M M':Addr->Prop}{H H':Hp} (s:aE H H') (m:∀ a,M a->M' a):gW M M' H H':=
 ⟨fun a _ h e=>⟨m a h,s _ _ e⟩,fun a _ h e=>⟨m a h,s _ _ e⟩,fun a _ h e=>⟨m a h,s _ _ e⟩,fun _ _ e=>s _ _ e,fun _ _ _ e=>s _ _ e⟩
theorem aD.same {K:PySem.W.Frag}{M M':Addr->Prop}{H H':Hp}{v:V}{x:PV} (r:aD K M H v x) (s:aE H H') (m:∀ a,M a->M' a):aD K M' H' v x:=r.keep (.same s m)
theorem Reps.same {K:PySem.W.Frag}{M M':Addr->Prop}{H H':Hp}{v:List V}{x:List PV} (r:Reps K M H v x) (s:aE H H') (m:∀ a,M a->M' a):Reps K M' H' v x:=r.keep (.same s m)
def eW:HO->Bool
 | .lst _=>true
 | .dK _=>true
 | .dT _=>true
 | _=>false
theorem gW.upd {M M':Addr->Prop}{H:Hp}{a:Addr}{o o':HO} (h:H a=some o') (mu:eW o'=true) (m:∀ b,M b->b ≠ a/\M' b):gW M M' H (upd H a o):=
 ⟨fun b _ hb e=>⟨(m b hb).2,by rw [aZ (m b hb).1]; exact e⟩,fun b _ hb e=>⟨(m b hb).2,by rw [aZ (m b hb).1]; exact e⟩,fun b _ hb e=>⟨(m b hb).2,by rw [aZ (m b hb).1]; exact e⟩,
  fun b _ e=>by rw [aZ (fun z=>by rw [z,h] at e; cases e; cases mu)]; exact e,
  fun b _ _ e=>by rw [aZ (fun z=>by rw [z,h] at e; cases e; cases mu)]; exact e⟩
theorem Reps.length {K:PySem.W.Frag}{M:Addr->Prop}{H:Hp}:∀ {vs:List V}{xs:List PV},Reps K M H vs xs->vs.length=xs.length
 | _,_,.nil=>rfl
 | _,_,.cons _ t=>congrArg (· + 1) t.length
theorem Reps.get {K:PySem.W.Frag}{M:Addr->Prop}{H:Hp}:∀ {vs:List V}{xs:List PV}{i:Nat}{v:V},Reps K M H vs xs->vs[i]? = some v->∃ x,xs[i]? = some x/\aD K M H v x
 | _,_,_,_,.nil,e=>by simp at e
 | _,_,0,_,.cons r _,e=>by simp at e; subst e; exact⟨_,rfl,r⟩
 | _,_,i+1,v,.cons _ t,e=>by
  rw [aS2] at e
  obtain ⟨x,h1,h2⟩:=t.get e
  exact⟨x,by rw [aS2]; exact h1,h2⟩
theorem Reps.at {K:PySem.W.Frag}{M:Addr->Prop}{H:Hp}:∀ {vs:List V}{xs:List PV}{i:Nat}{x:PV},Reps K M H vs xs->xs[i]? = some x->∃ v,vs[i]? = some v/\aD K M H v x
 | _,_,_,_,.nil,e=>by simp at e
 | _,_,0,_,.cons r _,e=>by simp at e; subst e; exact⟨_,rfl,r⟩
 | _,_,i+1,v,.cons _ t,e=>by
  rw [aS2] at e
  obtain ⟨x,h1,h2⟩:=t.at e
  exact⟨x,by rw [aS2]; exact h1,h2⟩
theorem Reps.append {K:PySem.W.Frag}{M:Addr->Prop}{H:Hp}:∀ {vs:List V}{xs:List PV}{us:List V}{ys:List PV},Reps K M H vs xs->Reps K M H us ys->Reps K M H (vs ++ us) (xs ++ ys)
 | _,_,_,_,.nil,s=>s
 | _,_,_,_,.cons r t,s=>.cons r (t.append s)
theorem Reps.set {K:PySem.W.Frag}{M:Addr->Prop}{H:Hp}{v:V}{x:PV} (q:aD K M H v x):∀ (i:Nat) {vs:List V}{xs:List PV},Reps K M H vs xs->Reps K M H (vs.set i v) (xs.set i x)
 | _,_,_,.nil=>.nil
 | 0,_,_,.cons r t=>.cons q t
 | i+1,_,_,.cons r t=>.cons r (Reps.set q i t)
theorem Reps.take {K:PySem.W.Frag}{M:Addr->Prop}{H:Hp}:∀ (n:Nat) {vs:List V}{xs:List PV},Reps K M H vs xs->Reps K M H (vs.take n) (xs.take n)
 | 0,_,_,_=>by simp; exact .nil
 | _+1,_,_,.nil=>.nil
 | n+1,_,_,.cons r t=>.cons r (Reps.take n t)
theorem Reps.drop {K:PySem.W.Frag}{M:Addr->Prop}{H:Hp}:∀ (n:Nat) {vs:List V}{xs:List PV},Reps K M H vs xs->Reps K M H (vs.drop n) (xs.drop n)
 | 0,_,_,r=>r
 | _+1,_,_,.nil=>.nil
 | n+1,_,_,.cons _ t=>Reps.drop n t
theorem Reps.eraseIdx {K:PySem.W.Frag}{M:Addr->Prop}{H:Hp}:∀ (n:Nat) {vs:List V}{xs:List PV},Reps K M H vs xs->Reps K M H (vs.eraseIdx n) (xs.eraseIdx n)
 | _,_,_,.nil=>.nil
 | 0,_,_,.cons _ t=>t
 | n+1,_,_,.cons r t=>.cons r (Reps.eraseIdx n t)
abbrev intz (ns:List Int):List PV:=ns.map PV.int
theorem Reps.intz {K:PySem.W.Frag}{M:Addr->Prop}{H:Hp}:∀ (ns:List Int),Reps K M H (ns.map V.int) (intz ns)
 | []=>.nil
 | n :: r=>.cons (.int n) (Reps.intz r)
theorem Reps.ofInts {K:PySem.W.Frag}{M:Addr->Prop}{H:Hp}:∀ {ns:List Int}{us:List V},Reps K M H us (PP.intz ns)->us=ns.map V.int
 | [],_,.nil=>rfl
 | n :: r,_,.cons q t=>by
  cases q
  rw [Reps.ofInts t]; rfl
theorem tG:∀ (ns:List Int),flats (intz ns)=true
 | []=>rfl
 | n :: r=>by show (flat (.int n) && flats (intz r))=true; rw [tG r]; rfl
inductive Tg | rd | sh | nw | fr
inductive Slot | sh (g:Bool) (x:PV) | own (x:PV)
def Slot.val:Slot->PV
 | .sh _ x=>x
 | .own x=>x
def Slot.tag:Slot->Tg
 | .sh true _=>.nw
 | .sh false _=>.sh
 | .own _=>.rd
abbrev bD:=List (Option Slot)
def Ms (H0:Hp) (W:Addr->Prop):Bool->Addr->Prop
 | false,a=>¬ W a
 | true,a=>¬ W a/\H0 a=none
def Mg (H0:Hp) (W:Addr->Prop) (Hs:Hp):Tg->Addr->Prop
 | .rd,_=>True
 | .sh,a=>¬ W a
 | .nw,a=>¬ W a/\H0 a=none
 | .fr,a=>Hs a=none
def gI (K:PySem.W.Frag) (M:Addr->Prop) (H:Hp) (a:Addr):PV->Prop
 | .lst xs=>∃ us,H a=some (.lst us)/\Reps K M H us xs
 | .dK ps=>∃ kvs,H a=some (.dK kvs)/\kvs.map (·.1)=ps.map (·.1)/\Reps K M H (kvs.map (·.2)) (ps.map (·.2))
 | .dT ps=>∃ kvs,H a=some (.dT kvs)/\kvs.map (·.1)=ps.map (·.1)/\Reps K M H (kvs.map (·.2)) (ps.map (·.2))
 | _=>False
def yQ (K:PySem.W.Frag) (H0:Hp) (W:Addr->Prop) (H:Hp) (v:V):Slot->Prop
 | .sh g x=>aD K (Ms H0 W g) H v x
 | .own x=>∃ a,v = .ref a/\W a/\gI K (Ms H0 W true) H a x
structure PX (K:PySem.W.Frag) (H0:Hp) (W:Addr->Prop) (σ:St) (ρ:bD) (H:Hp):Prop where
 len:ρ.length=σ.length
 same:aE H0 H
 wm:∀ a,W a->H0 a=none/\∃ o,H a=some o/\eW o=true
 sl:∀ (i:Nat) (m:Slot),ρ[i]? = some (some m)->∃ v,σ[i]? = some (some v)/\yQ K H0 W H v m
 dis:∀ (i j:Nat) (x y:PV) (a:Addr),ρ[i]? = some (some (.own x))->ρ[j]? = some (some (.own y))->σ[i]? = some (some (.ref a))->σ[j]? = some (some (.ref a))->i=j
theorem gI.keep {K:PySem.W.Frag}{M M':Addr->Prop}{H H':Hp}{a:Addr} (k:gW M M' H H') (ha:∀ o,H a=some o->H' a=some o):∀ {x:PV},gI K M H a x->gI K M' H' a x
 | .lst _,⟨us,e,r⟩=>⟨us,ha _ e,r.keep k⟩
 | .dK _,⟨us,e,q,r⟩=>⟨us,ha _ e,q,r.keep k⟩
 | .dT _,⟨us,e,q,r⟩=>⟨us,ha _ e,q,r.keep k⟩
theorem gI.at {K:PySem.W.Frag}{M:Addr->Prop}{H:Hp}{a:Addr}:∀ {x:PV},gI K M H a x->∃ o,H a=some o/\eW o=true
 | .lst _,⟨us,e,r⟩=>⟨_,e,rfl⟩
 | .dK _,⟨us,e,q,r⟩=>⟨_,e,rfl⟩
 | .dT _,⟨us,e,q,r⟩=>⟨_,e,rfl⟩
theorem gI.rep {K:PySem.W.Frag}{M M':Addr->Prop}{H:Hp}{a:Addr} (m:∀ b,M b->M' b) (ha:M' a):∀ {x:PV},gI K M H a x->aD K M' H (.ref a) x
 | .lst _,⟨us,e,r⟩=>.lst ha e (r.same (aE.refl _) m)
 | .dK _,⟨us,e,q,r⟩=>.dK ha e q (r.same (aE.refl _) m)
 | .dT _,⟨us,e,q,r⟩=>.dT ha e q (r.same (aE.refl _) m)
section
variable {K : PySem.W.Frag} {H0 : Hp} {W W' : Addr → Prop} {σ : St} {ρ : bD} {H H' : Hp}
theorem PX.mono (p:PX K H0 W σ ρ H) (s:aE H H'):PX K H0 W σ ρ H':=by
 refine⟨p.len,p.same.trans s,fun a h=>⟨(p.wm a h).1,let ⟨o,e,m⟩:=(p.wm a h).2; ⟨o,s _ _ e,m⟩⟩,fun i m h=>?_,p.dis⟩
 obtain ⟨v,e,r⟩:=p.sl i m h
 refine⟨v,e,?_⟩
 cases m with
 | sh g x=>exact aD.same r s fun _ z=>z
 | own x=>
  obtain ⟨a,e1,e2,r⟩:=r
  exact⟨a,e1,e2,r.keep (.same s fun _ z=>z) fun _ z=>s _ _ z⟩
theorem PX.new (p:PX K H0 W σ ρ H) {a:Addr} (h:H a=none) : ¬ W a/\H0 a=none:=
 ⟨fun z=>(by obtain ⟨_,o,e,_⟩:=p.wm a z; rw [h] at e; cases e),p.same.free h⟩
theorem Mg.back {g:Tg}{H1:Hp} (s:aE H H1) {a:Addr} (h:Mg H0 W H1 g a):Mg H0 W H g a:=by
 cases g with
 | fr=>exact s.free h
 | rd=>exact h
 | sh=>exact h
 | nw=>exact h
end
abbrev PK:=PV->Tg->Prop
abbrev aF:=bD->PK->Prop
abbrev cH:=bD->(Bool->Prop)->Prop
abbrev cJ:=bD->(List (PV × Tg)->Prop)->Prop
inductive gJ (K:PySem.W.Frag) (H0:Hp) (W:Addr->Prop) (Hs H:Hp):List V->List (PV × Tg)->Prop
 | nil:gJ K H0 W Hs H [] []
 | cons {v:V}{x:PV}{g:Tg}{vs:List V}{xs:List (PV × Tg)}:aD K (Mg H0 W Hs g) H v x->gJ K H0 W Hs H vs xs->gJ K H0 W Hs H (v :: vs) ((x,g) :: xs)
def oX (K:PySem.W.Frag) (H0:Hp) (W:Addr->Prop) (H:Hp) (Q:PK) (Q':VK):Prop:=∀ v H' x g,aE H H'->aD K (Mg H0 W H g) H' v x->Q x g->Q' v H'
def LE (X:Cx) (t:aF):TE:=fun σ H Q'=>∃ (W:Addr->Prop) (ρ:bD) (Q:PK),PX X.K X.H₀ W σ ρ H/\t ρ Q/\oX X.K X.H₀ W H Q Q'
def LT (X:Cx) (t:cH):TT:=fun σ H Q'=>∃ (W:Addr->Prop) (ρ:bD) (Q:Bool->Prop),PX X.K X.H₀ W σ ρ H/\t ρ Q/\∀ b H',aE H H'->Q b->Q' b H'
def LA (X:Cx) (t:cJ):TA:=fun σ H Q'=>∃ (W:Addr->Prop) (ρ:bD) (Q:List (PV × Tg)->Prop),PX X.K X.H₀ W σ ρ H/\t ρ Q/\∀ vs H' xs,aE H H'->gJ X.K X.H₀ W H H' vs xs->Q xs->Q' vs H'
theorem gJ.same {K:PySem.W.Frag}{H0:Hp}{W:Addr->Prop}{Hs Hs' H H':Hp} (s:aE H H') (b:aE Hs' Hs):∀ {vs:List V}{xs:List (PV × Tg)},gJ K H0 W Hs H vs xs->gJ K H0 W Hs' H' vs xs
 | _,_,.nil=>.nil
 | _,_,.cons r t=>.cons (r.same s fun _ z=>Mg.back b z) (t.same s b)
theorem gJ.any {K:PySem.W.Frag}{H0:Hp}{W:Addr->Prop}{Hs H:Hp}:∀ {vs:List V}{xs:List (PV × Tg)},gJ K H0 W Hs H vs xs->Reps K (fun _=>True) H vs (xs.map (·.1))
 | _,_,.nil=>.nil
 | _,_,.cons r t=>.cons (r.same (aE.refl _) fun _ _=>trivial) t.any
def Nw:Tg->PV->Prop
 | .fr,_=>True
 | .nw,_=>True
 | _,x=>flat x=true
section
variable {K : PySem.W.Frag} {H0 Hs H : Hp} {W : Addr → Prop} {σ : St} {ρ : bD}
theorem Nw.rep {g:Tg}{x:PV}{v:V} (px:PX K H0 W σ ρ Hs) (n:Nw g x) (r:aD K (Mg H0 W Hs g) H v x):aD K (Ms H0 W true) H v x:=by
 cases g with
 | fr=>exact r.same (aE.refl _) fun a z=>px.new z
 | nw=>exact r.same (aE.refl _) fun a z=>z
 | sh=>exact r.flat n
 | rd=>exact r.flat n
theorem yR {v:V}{m:Slot} (r:yQ K H0 W H v m):aD K (Mg H0 W Hs m.tag) H v m.val:=by
 cases m with
 | sh g x=>
  cases g with
  | true=>exact aD.same r (aE.refl _) fun _ z=>z
  | false=>exact aD.same r (aE.refl _) fun _ z=>z
 | own x=>
  obtain ⟨a,rfl,_,r⟩:=r
  exact r.rep (fun _ _=>trivial) trivial
end
section
variable {X : Cx} {σ : St} {H : Hp} {Q' : VK} {ta tb : aF}
def a5 (i:Nat):aF:=fun ρ Q=>∃ m,ρ[i]? = some (some m)/\Q m.val m.tag
def qC (x:PV):aF:=fun _ Q=>Q x .fr
theorem ak0 {i:Nat} (h:LE X (a5 i) σ H Q'):jK i σ H Q':=by
 obtain ⟨W,ρ,Q,px,⟨m,e,q⟩,k⟩:=h
 obtain ⟨v,ev,r⟩:=px.sl i m e
 exact⟨v,ev,k v H _ _ (aE.refl _) (yR r) q⟩
theorem mL {x:PV}{v:V} (hr:∀ M,aD X.K M H v x) (h:LE X (qC x) σ H Q'):tC v σ H Q':=by
 obtain ⟨W,ρ,Q,px,q,k⟩:=h
 exact k v H _ _ (aE.refl _) (hr _) q
def dP (X:Cx) (R:PV->Tg->PV->Tg->PK->Prop) (r:R2):Prop:=∀ (W:Addr->Prop) (Hs H:Hp) (u v:V) (x y:PV) (g g':Tg) (Q:PK) (Q':VK),aE Hs H->
 (∀ a,Hs a=none->¬ W a/\X.H₀ a=none)->aD X.K (Mg X.H₀ W Hs g) H u x->aD X.K (Mg X.H₀ W Hs g') H v y->R x g y g' Q->(∀ w H' z gz,aE H H'->aD X.K (Mg X.H₀ W Hs gz) H' w z->Q z gz->Q' w H')->r u v H Q'
def q2 (R:PV->Tg->PV->Tg->PK->Prop) (ta tb:aF):aF:=fun ρ Q=>ta ρ fun x g=>tb ρ fun y g'=>R x g y g' Q
theorem oY {R:PV->Tg->PV->Tg->PK->Prop}{r:R2} (c:dP X R r) (h:LE X (q2 R ta tb) σ H Q'):mF r (LE X ta) (LE X tb) σ H Q':=by
 obtain ⟨W,ρ,Q,px,q,k⟩:=h
 refine⟨W,ρ,_,px,q,fun u H1 x g s1 r1 q1=>⟨W,ρ,_,px.mono s1,q1,fun v H2 y g' s2 r2 q2=>?_⟩⟩
 exact c W H H2 u v x y g g' Q Q' (s1.trans s2) (fun a z=>px.new z) (r1.same s2 fun _ z=>z) (r2.same (aE.refl _) fun _ z=>Mg.back s1 z) q2 fun w H' z gz s3 r3 q3=>k w H' z gz ((s1.trans s2).trans s3) r3 q3
def RI (C:Int->Int->Prop) (f:Int->Int->PV):PV->Tg->PV->Tg->PK->Prop:=fun x _ y _ Q=>∃ i j,x = .int i/\y = .int j/\C i j/\Q (f i j) .fr
def dQ (f:Int->Int->PV):PV->Tg->PV->Tg->PK->Prop:=fun x _ y _ Q=>∃ i j,x = .int i/\y = .int j/\Q (f i j) .fr
theorem tH {C:Int->Int->Prop}{f:Int->Int->Int}:dP X (RI C fun i j=>.int (f i j)) (rI C fun i j=>.int (f i j)):=by
 rintro W Hs H u v x y g g' Q Q' s n r1 r2 ⟨i,j,rfl,rfl,c,q⟩ k
 cases r1; cases r2
 exact⟨i,j,rfl,rfl,c,k _ _ _ _ (aE.refl _) (.int _) q⟩
theorem yS {f:Int->Int->Int}:dP X (dQ fun i j=>.int (f i j)) (gE fun i j=>.int (f i j)):=by
 rintro W Hs H u v x y g g' Q Q' s n r1 r2 ⟨i,j,rfl,rfl,q⟩ k
 cases r1; cases r2
 exact⟨i,j,rfl,rfl,k _ _ _ _ (aE.refl _) (.int _) q⟩
theorem kW {f:Int->Int->Bool}:dP X (dQ fun i j=>.bl (f i j)) (gE fun i j=>.bl (f i j)):=by
 rintro W Hs H u v x y g g' Q Q' s n r1 r2 ⟨i,j,rfl,rfl,q⟩ k
 cases r1; cases r2
 exact⟨i,j,rfl,rfl,k _ _ _ _ (aE.refl _) (.bl _) q⟩
def kX (neg:Bool):PV->Tg->PV->Tg->PK->Prop:=fun x _ y _ Q=>(∃ i j,x = .int i/\y = .int j/\Q (.bl (if neg=true then !decide (i=j) else decide (i=j))) .fr) ∨ (∃ i j,x = .bl i/\y = .bl j/\Q (.bl (if neg=true then !decide (i=j) else decide (i=j))) .fr)
theorem yU (i j:Int):decide (V.int i=V.int j)=decide (i=j):=by
 rw [aW5,aQ3,aQ3]; exact⟨fun z=>V.int.inj z,fun z=>congrArg V.int z⟩
theorem yV (i j:Bool):decide (V.bl i=V.bl j)=decide (i=j):=by
 rw [aW5,aQ3,aQ3]; exact⟨fun z=>V.bl.inj z,fun z=>congrArg V.bl z⟩
theorem ak1:dP X (kX false) wO:=by
 rintro W Hs H u v x y g g' Q Q' s n r1 r2 (⟨i,j,rfl,rfl,q⟩ | ⟨i,j,rfl,rfl,q⟩) k
 ·cases r1; cases r2
  exact⟨rfl,by rw [yU]; exact k _ _ _ _ (aE.refl _) (.bl _) q⟩
 ·cases r1; cases r2
  exact⟨rfl,by rw [yV]; exact k _ _ _ _ (aE.refl _) (.bl _) q⟩
theorem ak2:dP X (kX true) wP:=by
 rintro W Hs H u v x y g g' Q Q' s n r1 r2 (⟨i,j,rfl,rfl,q⟩ | ⟨i,j,rfl,rfl,q⟩) k
 ·cases r1; cases r2
  exact⟨rfl,by rw [yU]; exact k _ _ _ _ (aE.refl _) (.bl _) q⟩
 ·cases r1; cases r2
  exact⟨rfl,by rw [yV]; exact k _ _ _ _ (aE.refl _) (.bl _) q⟩
def aX (t:aF):cH:=fun ρ Q=>t ρ fun x _=>∃ b,x = .bl b/\Q b
theorem tI {t:aF}{Q':Bool->Hp->Prop} (h:LT X (aX t) σ H Q'):LE X t σ H fun x H'=>∃ k,x = .bl k/\Q' k H':=by
 obtain ⟨W,ρ,Q,px,q,k⟩:=h
 refine⟨W,ρ,_,px,q,?_⟩
 rintro v H1 x g s r ⟨b,rfl,q⟩
 cases r
 exact⟨b,rfl,k _ _ s q⟩
def mM (t u:cH):cH:=fun ρ Q=>t ρ fun c=>if c=true then u ρ Q else Q false
def eD (t u:cH):cH:=fun ρ Q=>t ρ fun c=>if c=true then Q true else u ρ Q
def eF (t:cH):cH:=fun ρ Q=>t ρ fun c=>Q (!c)
variable {t u : cH} {Qb : Bool → Hp → Prop}
theorem ak3 (h:LT X (mM t u) σ H Qb):w6 (LT X t) (LT X u) σ H Qb:=by
 obtain ⟨W,ρ,Q,px,q,k⟩:=h
 refine⟨W,ρ,_,px,q,fun b H1 s1 q1=>?_⟩
 cases b with
 | true=>exact bI ⟨W,ρ,Q,px.mono s1,by simpa using q1,fun b H2 s2 q2=>k _ _ (s1.trans s2) q2⟩
 | false=>exact b6 (k _ _ s1 (by simpa using q1))
theorem ak4 (h:LT X (eD t u) σ H Qb):w9 (LT X t) (LT X u) σ H Qb:=by
 obtain ⟨W,ρ,Q,px,q,k⟩:=h
 refine⟨W,ρ,_,px,q,fun b H1 s1 q1=>?_⟩
 cases b with
 | false=>exact b6 ⟨W,ρ,Q,px.mono s1,by simpa using q1,fun b H2 s2 q2=>k _ _ (s1.trans s2) q2⟩
 | true=>exact bI (k _ _ s1 (by simpa using q1))
theorem ak5 (h:LT X (eF t) σ H Qb):wA (LT X t) σ H Qb:=by
 obtain ⟨W,ρ,Q,px,q,k⟩:=h
 exact⟨W,ρ,_,px,q,fun b H1 s1 q1=>k _ _ s1 q1⟩
def jT (ta tb:aF):aF:=fun ρ Q=>ta ρ fun x _=>∃ c,x = .bl c/\if c=true then tb ρ Q else Q (.bl false) .fr
def tJ (ta:aF):aF:=fun ρ Q=>ta ρ fun x _=>∃ c,x = .bl c/\Q (.bl (!c)) .fr
theorem oX.back {K:PySem.W.Frag}{H0:Hp}{W:Addr->Prop}{H H1:Hp}{Q:PK} (k:oX K H0 W H Q Q') (s:aE H H1):oX K H0 W H1 Q Q':=fun v H' x g s' r q=>k v H' x g (s.trans s') (r.same (aE.refl _) fun _ z=>Mg.back s z) q
theorem ak6 (h:LE X (jT ta tb) σ H Q'):wB (LE X ta) (LE X tb) σ H Q':=by
 obtain ⟨W,ρ,Q,px,q,k⟩:=h
 refine⟨W,ρ,_,px,q,?_⟩
 rintro v H1 x g s1 r ⟨c,rfl,q⟩
 cases r
 refine⟨c,rfl,?_⟩
 cases c with
 | true=>exact bI ⟨W,ρ,Q,px.mono s1,by simpa using q,k.back s1⟩
 | false=>exact b6 (k _ _ _ _ s1 (.bl _) (by simpa using q))
theorem ak7 (h:LE X (tJ ta) σ H Q'):wC (LE X ta) σ H Q':=by
 obtain ⟨W,ρ,Q,px,q,k⟩:=h
 refine⟨W,ρ,_,px,q,?_⟩
 rintro v H1 x g s1 r ⟨c,rfl,q⟩
 cases r
 exact⟨c,rfl,k _ _ _ _ s1 (.bl _) q⟩
def a9:cJ:=fun _ Q=>Q []
def a6 (te:aF) (tr:cJ):cJ:=fun ρ Q=>te ρ fun x g=>tr ρ fun xs=>Q ((x,g) :: xs)
variable {Qa : List V → Hp → Prop} {tr : cJ}
theorem ak8 (h:LA X a9 σ H Qa):jN σ H Qa:=by
 obtain ⟨W,ρ,Q,px,q,k⟩:=h
 exact k _ _ _ (aE.refl _) .nil q
theorem ak9 (h:LA X (a6 ta tr) σ H Qa):iZ (LE X ta) (LA X tr) σ H Qa:=by
 obtain ⟨W,ρ,Q,px,q,k⟩:=h
 refine⟨W,ρ,_,px,q,fun v H1 x g s1 r1 q1=>⟨W,ρ,_,px.mono s1,q1,fun vs H2 xs s2 r2 q2=>?_⟩⟩
 exact k _ _ _ (s1.trans s2) (.cons (r1.same s2 fun _ z=>z) (r2.same (aE.refl _) s1)) q2
def eY (t:cJ):aF:=fun ρ Q=>t ρ fun xs=>xs.length<=1000/\flats (xs.map (·.1))=true/\Q (.tup (xs.map (·.1))) .fr
def gX (t:cJ):aF:=fun ρ Q=>t ρ fun xs=>xs.length<=1000/\flats (xs.map (·.1))=true/\Q (.lst (xs.map (·.1))) .fr
theorem gJ.length {K:PySem.W.Frag}{H0:Hp}{W:Addr->Prop}{Hs H:Hp}:∀ {vs:List V}{xs:List (PV × Tg)},gJ K H0 W Hs H vs xs->vs.length=xs.length
 | _,_,.nil=>rfl
 | _,_,.cons _ t=>congrArg (· + 1) t.length
theorem tK {n:Nat} (h:n<=1000):n<=sizeLine:=aZ6 (ah4 h)
theorem al0 (h:LE X (eY tr) σ H Q'):wU (LA X tr) σ H Q':=by
 obtain ⟨W,ρ,Q,px,q,k⟩:=h
 refine⟨W,ρ,_,px,q,?_⟩
 rintro vs H1 xs s1 r ⟨hl,n,q⟩
 refine⟨by rw [r.length]; exact tK hl,fun p hp=>k _ _ _ .fr (s1.trans (bY hp _)) (.tup c9 ?_) q⟩
 exact (r.any.flat n).same (bY hp _) fun _ z=>z
theorem al1 (h:LE X (gX tr) σ H Q'):wV (LA X tr) σ H Q':=by
 obtain ⟨W,ρ,Q,px,q,k⟩:=h
 refine⟨W,ρ,_,px,q,?_⟩
 rintro vs H1 xs s1 r ⟨hl,n,q⟩
 refine⟨by rw [r.length]; exact tK hl,fun p hp=>k _ _ _ .fr (s1.trans (bY hp _)) (.lst (s1.free hp) c9 ?_) q⟩
 exact (r.any.flat n).same (bY hp _) fun _ z=>z
def dR (X:Cx) (R:List PV->(PV->Prop)->Prop) (r:List V->Hp->VK->Prop):Prop:=∀ (H:Hp) (vs:List V) (xs:List PV) (Q:PV->Prop) (Q':VK),Reps X.K (fun _=>True) H vs xs->R xs Q->
 (∀ w H' z,aE H H'->aD X.K (fun a=>H a=none) H' w z->Q z->Q' w H')->r vs H Q'
def aC (R:List PV->(PV->Prop)->Prop) (t:cJ):aF:=fun ρ Q=>t ρ fun xs=>R (xs.map (·.1)) fun z=>Q z .fr
theorem yW {R:List PV->(PV->Prop)->Prop}{r:List V->Hp->VK->Prop} (c:dR X R r) (h:LE X (aC R tr) σ H Q'):sH r (LA X tr) σ H Q':=by
 obtain ⟨W,ρ,Q,px,q,k⟩:=h
 refine⟨W,ρ,_,px,q,fun vs H1 xs s1 r1 q1=>c H1 vs _ _ Q' r1.any q1 fun w H' z s2 r2 q2=>k w H' z .fr (s1.trans s2) (r2.same (aE.refl _) fun _ z=>s1.free z) q2⟩
end
structure oZ where
 nx:bD->Prop
 rt:PV->Prop
 bk:bD->Prop:=fun _=>False
 ct:bD->Prop:=fun _=>False
abbrev aP:=oZ->bD->Prop
def Ev (W:Addr->Prop) (H:Hp) (W':Addr->Prop) (H':Hp):Prop:=∀ b o,H b=some o->¬ W b->H' b=some o/\¬ W' b
theorem Ev.trans {W W1 W2:Addr->Prop}{H H1 H2:Hp} (a:Ev W H W1 H1) (b:Ev W1 H1 W2 H2):Ev W H W2 H2:=fun c o h n=>let ⟨h1,n1⟩:=a c o h n; b c o h1 n1
theorem Ev.same {W:Addr->Prop}{H H':Hp} (s:aE H H'):Ev W H W H':=fun c o h n=>⟨s _ _ h,n⟩
theorem Ev.refl (W:Addr->Prop) (H:Hp):Ev W H W H:=Ev.same (aE.refl _)
structure p5 (X:Cx) (W:Addr->Prop) (H:Hp) (D':oZ) (D:dB):Prop where
 nx:∀ W' σ' H' ρ',Ev W H W' H'->PX X.K X.H₀ W' σ' ρ' H'->D'.nx ρ'->D.nx σ' H'
 rt:∀ v H' x,aE X.H₀ H'->aD X.K (fun a=>X.H₀ a=none) H' v x->D'.rt x->D.rt v H'
 bk:∀ W' σ' H' ρ',Ev W H W' H'->PX X.K X.H₀ W' σ' ρ' H'->D'.bk ρ'->D.bk σ' H'
 ct:∀ W' σ' H' ρ',Ev W H W' H'->PX X.K X.H₀ W' σ' ρ' H'->D'.ct ρ'->D.ct σ' H'
theorem p5.step {X:Cx}{W W1:Addr->Prop}{H H1:Hp}{D':oZ}{D:dB} (k:p5 X W H D' D) (e:Ev W H W1 H1):p5 X W1 H1 D' D:=
 ⟨fun W' σ' H' ρ' e'=>k.nx W' σ' H' ρ' (e.trans e'),k.rt,fun W' σ' H' ρ' e'=>k.bk W' σ' H' ρ' (e.trans e'),fun W' σ' H' ρ' e'=>k.ct W' σ' H' ρ' (e.trans e')⟩
def LS (X:Cx) (t:aP):TS:=fun D σ H=>∃ (W:Addr->Prop) (ρ:bD) (D':oZ),PX X.K X.H₀ W σ ρ H/\t D' ρ/\p5 X W H D' D
theorem gY {α:Type}{l:List α}{i j:Nat}{a b:α} (h:(l.set i a)[j]? = some b):(j=i/\i < l.length/\b=a) ∨ (j ≠ i/\l[j]? = some b):=by
 by_cases e:j=i
 ·subst e
  have hl:j < (l.set j a).length:=(aO7.mp h).1
  rw [aZ0] at hl
  rw [aW7 hl] at h
  exact .inl ⟨rfl,hl,(aQ0 h).symm⟩
 ·rw [aR5 (Ne.symm e)] at h
  exact .inr ⟨e,h⟩
section
variable {K : PySem.W.Frag} {H0 : Hp} {W W' : Addr → Prop} {σ : St} {ρ : bD} {H H' Hs : Hp}
theorem PX.setSh {i:Nat}{v:V}{g:Bool}{x:PV} (p:PX K H0 W σ ρ H) (r:aD K (Ms H0 W g) H v x):PX K H0 W (σ.set i (some v)) (ρ.set i (some (.sh g x))) H:=by
 refine⟨by rw [aZ0,aZ0]; exact p.len,p.same,p.wm,fun j m h=>?_,fun j k y z a h1 h2 h3 h4=>?_⟩
 ·rcases gY h with ⟨rfl,hl,e⟩ | ⟨hne,h⟩
  ·cases e
   rw [p.len] at hl
   exact⟨v,aW7 hl,r⟩
  ·obtain ⟨u,e,q⟩:=p.sl j m h
   exact⟨u,by rw [aR5 (Ne.symm hne)]; exact e,q⟩
 ·rcases gY h1 with ⟨_,_,e⟩ | ⟨n1,h1⟩
  ·cases e
  ·rcases gY h2 with ⟨_,_,e⟩ | ⟨n2,h2⟩
   ·cases e
   ·rw [aR5 (Ne.symm n1)] at h3
    rw [aR5 (Ne.symm n2)] at h4
    exact p.dis j k y z a h1 h2 h3 h4
def kY (W:Addr->Prop) (a:Addr):Addr->Prop:=fun b=>W b ∨ b=a
theorem tL {g:Bool}{a b:Addr} (n:b ≠ a) (h:Ms H0 W g b):Ms H0 (kY W a) g b:=by
 cases g with
 | true=>exact⟨fun z=>z.elim h.1 n,h.2⟩
 | false=>exact fun z=>z.elim h n
theorem PX.setOwn {i:Nat}{a:Addr}{x:PV} (p:PX K H0 W σ ρ Hs) (s:aE Hs H) (ha:Hs a=none) (r:gI K (Ms H0 (kY W a) true) H a x):PX K H0 (kY W a) (σ.set i (some (.ref a))) (ρ.set i (some (.own x))) H:=by
 have old:∀ b o,Hs b=some o->b ≠ a:=fun b o e z=>by rw [z,ha] at e; cases e
 have kp:∀ g,gW (Ms H0 W g) (Ms H0 (kY W a) g) Hs H:=fun g=>⟨fun b _ m e=>⟨tL (old _ _ e) m,s _ _ e⟩,fun b _ m e=>⟨tL (old _ _ e) m,s _ _ e⟩,fun b _ m e=>⟨tL (old _ _ e) m,s _ _ e⟩,fun _ _ e=>s _ _ e,fun _ _ _ e=>s _ _ e⟩
 have wa : ¬ W a:=(p.new ha).1
 refine⟨by rw [aZ0,aZ0]; exact p.len,p.same.trans s,fun b z=>?_,fun j m h=>?_,fun j k y z b h1 h2 h3 h4=>?_⟩
 ·rcases z with z | rfl
  ·obtain ⟨h1,o,h2,h3⟩:=p.wm b z
   exact⟨h1,o,s _ _ h2,h3⟩
  ·exact⟨(p.new ha).2,r.at⟩
 ·rcases gY h with ⟨rfl,hl,e⟩ | ⟨hne,h⟩
  ·cases e
   rw [p.len] at hl
   exact⟨_,aW7 hl,a,rfl,.inr rfl,r⟩
  ·obtain ⟨u,e,q⟩:=p.sl j m h
   refine⟨u,by rw [aR5 (Ne.symm hne)]; exact e,?_⟩
   cases m with
   | sh g y=>exact aD.keep (kp g) q
   | own y=>
    obtain ⟨b,e1,e2,q⟩:=q
    exact⟨b,e1,.inl e2,q.keep (kp true) fun o z=>s _ _ z⟩
 ·have ne:∀ {j:Nat}{y:PV},ρ[j]? = some (some (.own y))->σ[j]? ≠ some (some (.ref a)):=fun {j y} h1 h2=>by
   obtain ⟨u,e,c,e1,e2,_⟩:=p.sl j _ h1
   rw [h2] at e
   cases e
   cases e1
   exact wa e2
  rcases gY h1 with ⟨e1,l1,_⟩ | ⟨n1,h1⟩
  ·rcases gY h2 with ⟨e2,_,_⟩ | ⟨n2,h2⟩
   ·rw [e1,e2]
   ·rw [e1,aW7 (by rw [<- p.len]; exact l1)] at h3
    rw [aR5 (Ne.symm n2)] at h4
    cases h3
    exact absurd h4 (ne h2)
  ·rw [aR5 (Ne.symm n1)] at h3
   rcases gY h2 with ⟨e2,l2,_⟩ | ⟨n2,h2⟩
   ·rw [e2,aW7 (by rw [<- p.len]; exact l2)] at h4
    cases h4
    exact absurd h3 (ne h1)
   ·rw [aR5 (Ne.symm n2)] at h4
    exact p.dis j k y z b h1 h2 h3 h4
theorem Ev.own {a:Addr} (s:aE Hs H) (ha:Hs a=none):Ev W Hs (kY W a) H:=fun b o e n=>⟨s _ _ e,fun z=>z.elim n fun z=>by rw [z,ha] at e; cases e⟩
theorem mO {g:Bool}{a b:Addr} (wa:W a) (h:Ms H0 W g b):b ≠ a:=by
 cases g with
 | true=>exact fun z=>h.1 (by rw [z]; exact wa)
 | false=>exact fun z=>h (by rw [z]; exact wa)
theorem PX.updOwn {i:Nat}{a:Addr}{x y:PV}{o:HO} (p:PX K H0 W σ ρ H) (hi:ρ[i]? = some (some (.own x))) (ha:σ[i]? = some (some (.ref a))) (wa:W a) (mu:eW o=true) (r:gI K (Ms H0 W true) (upd H a o) a y) :
  PX K H0 W σ (ρ.set i (some (.own y))) (upd H a o):=by
 obtain ⟨w0,o',e',mu'⟩:=p.wm a wa
 have kp:∀ g,gW (Ms H0 W g) (Ms H0 W g) H (upd H a o):=fun g=>.upd e' mu' fun b m=>⟨mO wa m,m⟩
 refine⟨by rw [aZ0]; exact p.len,fun b u e=>by rw [aZ (fun z=>by rw [z,w0] at e; cases e)]; exact p.same _ _ e,fun b z=>?_,fun j m h=>?_,fun j k y' z b h1 h2 h3 h4=>?_⟩
 ·by_cases e:b=a
  ·subst e; exact⟨w0,o,c9,mu⟩
  ·obtain ⟨h1,o2,h2,h3⟩:=p.wm b z
   exact⟨h1,o2,by rw [aZ e]; exact h2,h3⟩
 ·rcases gY h with ⟨rfl,hl,e⟩ | ⟨hne,h⟩
  ·cases e
   exact⟨_,ha,a,rfl,wa,r⟩
  ·obtain ⟨u,e,q⟩:=p.sl j m h
   refine⟨u,e,?_⟩
   cases m with
   | sh g y=>exact aD.keep (kp g) q
   | own y=>
    obtain ⟨b,e1,e2,q⟩:=q
    have hb:b ≠ a:=fun z=>by
     subst e1
     rw [z] at e
     exact hne (p.dis j i _ _ a h hi e ha)
    exact⟨b,e1,e2,q.keep (kp true) fun o z=>by rw [aZ hb]; exact z⟩
 ·have g1:∃ y,ρ[j]? = some (some (.own y)):=by
   rcases gY h1 with ⟨e,_,_⟩ | ⟨_,h⟩
   ·exact⟨x,by rw [e]; exact hi⟩
   ·exact⟨_,h⟩
  have g2:∃ y,ρ[k]? = some (some (.own y)):=by
   rcases gY h2 with ⟨e,_,_⟩ | ⟨_,h⟩
   ·exact⟨x,by rw [e]; exact hi⟩
   ·exact⟨_,h⟩
  obtain ⟨y1,g1⟩:=g1
  obtain ⟨y2,g2⟩:=g2
  exact p.dis j k y1 y2 b g1 g2 h3 h4
theorem Ev.upd {a:Addr}{o:HO} (wa:W a):Ev W H W (upd H a o):=fun b u e n=>⟨by rw [aZ (fun z=>n (by rw [z]; exact wa))]; exact e,n⟩
end
section
variable {X : Cx} {σ : St} {H : Hp} {D : dB} {te : aF} {t u : aP}
def bZ:aP:=fun D ρ=>D.nx ρ
def aG (t u:aP):aP:=fun D ρ=>t { D with nx:=u D } ρ
theorem al2 (h:LS X bZ D σ H):wD D σ H:=by
 obtain ⟨W,ρ,D',px,q,k⟩:=h
 exact k.nx W σ H ρ (Ev.refl _ _) px q
theorem al3 (h:LS X (aG t u) D σ H):wE (LS X t) (LS X u) D σ H:=by
 obtain ⟨W,ρ,D',px,q,k⟩:=h
 exact⟨W,ρ,_,px,q,fun W' σ' H' ρ' e px' q'=>⟨W',ρ',D',px',q',k.step e⟩,k.rt,k.bk,k.ct⟩
def tM:Tg->PV->Bool
 | .fr,_=>true
 | .nw,_=>true
 | _,x=>flat x
def tN:Tg->PV->Prop
 | .rd,x=>flat x=true
 | _,_=>True
theorem yX {K:PySem.W.Frag}{H0 Hs H:Hp}{W:Addr->Prop}{σ:St}{ρ:bD}{g:Tg}{x:PV}{v:V} (px:PX K H0 W σ ρ Hs) (n:tN g x) (r:aD K (Mg H0 W Hs g) H v x):aD K (Ms H0 W (tM g x)) H v x:=by
 cases g with
 | fr=>exact Nw.rep (g:=.fr) px trivial r
 | nw=>exact Nw.rep (g:=.nw) px trivial r
 | sh=>
  show aD K (Ms H0 W (flat x)) H v x
  cases e:flat x with
  | true=>exact r.flat e
  | false=>exact r.same (aE.refl _) fun _ z=>z
 | rd=>exact r.flat n
def bF (i:Nat) (te:aF):aP:=fun D ρ=>te ρ fun x g=>tN g x/\D.nx (ρ.set i (some (.sh (tM g x) x)))
theorem al4 {i:Nat} (h:LS X (bF i te) D σ H):mD (LE X te) (e9 i) D σ H:=by
 obtain ⟨W,ρ,D',px,q,k⟩:=h
 refine⟨W,ρ,_,px,q,?_⟩
 rintro v H1 x g s r ⟨n,q⟩
 exact k.nx W _ H1 _ (Ev.same s) ((px.mono s).setSh (yX px n r)) q
def yY:PV->Bool
 | .lst xs=>flats xs
 | .dK ps=>flats (ps.map (·.2))
 | .dT ps=>flats (ps.map (·.2))
 | _=>false
theorem al5 {K:PySem.W.Frag}{M:Addr->Prop}{H:Hp}{v:V}{x:PV} (r:aD K M H v x) (o:yY x=true):∃ a,v = .ref a/\M a/\∀ M',gI K M' H a x:=by
 cases r with
 | lst m e r=>exact⟨_,rfl,m,fun _=>⟨_,e,r.flat o⟩⟩
 | dK m e q r=>exact⟨_,rfl,m,fun _=>⟨_,e,q,r.flat o⟩⟩
 | dT m e q r=>exact⟨_,rfl,m,fun _=>⟨_,e,q,r.flat o⟩⟩
 | _=>cases o
def fH (i:Nat) (te:aF):aP:=fun D ρ=>te ρ fun x g=>g = .fr/\yY x=true/\D.nx (ρ.set i (some (.own x)))
theorem al6 {i:Nat} (h:LS X (fH i te) D σ H):mD (LE X te) (e9 i) D σ H:=by
 obtain ⟨W,ρ,D',px,q,k⟩:=h
 refine⟨W,ρ,_,px,q,?_⟩
 rintro v H1 x g s r ⟨rfl,o,q⟩
 obtain ⟨a,rfl,m,w⟩:=al5 r o
 exact k.nx _ _ H1 _ (Ev.own s m) (px.setOwn s m (w _)) q
def tO (te:aF):aP:=fun D ρ=>te ρ fun _ _=>D.nx ρ
theorem al7 (h:LS X (tO te) D σ H):kQ (LE X te) D σ H:=by
 obtain ⟨W,ρ,D',px,q,k⟩:=h
 exact⟨W,ρ,_,px,q,fun v H1 x g s r q=>k.nx W σ H1 ρ (Ev.same s) (px.mono s) q⟩
def bJ (te:aF):aP:=fun D ρ=>te ρ fun x g=>Nw g x/\D.rt x
theorem al8 (h:LS X (bJ te) D σ H):rS (LE X te) D σ H:=by
 obtain ⟨W,ρ,D',px,q,k⟩:=h
 refine⟨W,ρ,_,px,q,?_⟩
 rintro v H1 x g s r ⟨n,q⟩
 exact k.rt v H1 x (px.same.trans s) ((Nw.rep px n r).same (aE.refl _) fun _ z=>z.2) q
def Slot.nw:Slot->Prop
 | .own _=>True
 | .sh true _=>True
 | .sh false x=>flat x=true
def iJ (i:Nat):aP:=fun D ρ=>∃ m,ρ[i]? = some (some m)/\m.nw/\D.rt m.val
theorem al9 {i:Nat} (h:LS X (iJ i) D σ H):rS (jK i) D σ H:=by
 obtain ⟨W,ρ,D',px,⟨m,hi,n,q⟩,k⟩:=h
 obtain ⟨v,ev,r⟩:=px.sl i _ hi
 refine⟨v,ev,k.rt v H _ px.same ?_ q⟩
 cases m with
 | own x=>
  obtain ⟨a,rfl,wa,r⟩:=r
  exact r.rep (fun _ z=>z.2) (px.wm a wa).1
 | sh g x=>
  cases g with
  | true=>exact aD.same r (aE.refl _) fun _ z=>z.2
  | false=>exact aD.flat n r
def bV (c:cH) (t u:aP):aP:=fun D ρ=>c ρ fun b=>if b=true then t D ρ else u D ρ
theorem am0 {c:cH} (h:LS X (bV c t u) D σ H):wG (LT X c) (LS X t) (LS X u) D σ H:=by
 obtain ⟨W,ρ,D',px,q,k⟩:=h
 refine⟨W,ρ,_,px,q,fun b H1 s q1=>?_⟩
 cases b with
 | true=>exact bI ⟨W,ρ,D',px.mono s,by simpa using q1,k.step (Ev.same s)⟩
 | false=>exact b6 ⟨W,ρ,D',px.mono s,by simpa using q1,k.step (Ev.same s)⟩
def p6 (c:cH) (tb:aP):aP:=fun D ρ=>∃ I:Nat->bD->Prop,(∃ m,I m ρ)/\∀ m ρ',I m ρ'->c ρ' fun b=>if b=true then tb { D with nx:=fun ρ2=>∃ m',m' < m/\I m' ρ2,ct:=fun ρ2=>∃ m',m' < m/\I m' ρ2,bk:=D.nx } ρ' else D.nx ρ'
theorem am1 {c:cH}{tb:aP} (h:LS X (p6 c tb) D σ H):wI (LT X c) (LS X tb) D σ H:=by
 obtain ⟨W,ρ,D',px,⟨I,⟨m0,i0⟩,turn⟩,k⟩:=h
 refine⟨fun m σ2 H2=>∃ W2 ρ2,PX X.K X.H₀ W2 σ2 ρ2 H2/\Ev W H W2 H2/\I m ρ2,⟨m0,W,ρ,px,Ev.refl _ _,i0⟩,?_⟩
 rintro m σ2 H2 ⟨W2,ρ2,px2,e2,i2⟩
 refine⟨W2,ρ2,_,px2,turn m ρ2 i2,fun b H3 s3 q3=>?_⟩
 cases b with
 | true=>
  refine bI ⟨fun σ4 H4=>∃ W4 ρ4,PX X.K X.H₀ W4 σ4 ρ4 H4/\Ev W H W4 H4/\∃ m',m' < m/\I m' ρ4,fun σ4 H4 ⟨W4,ρ4,a,b,m',c,d⟩=>⟨m',c,W4,ρ4,a,b,d⟩,W2,ρ2,_,px2.mono s3,by simpa using q3,?_⟩
  have e3:Ev W H W2 H3:=e2.trans (Ev.same s3)
  exact⟨fun W' σ' H' ρ' e p q=>⟨W',ρ',p,e3.trans e,q⟩,k.rt,fun W' σ' H' ρ' e p q=>k.nx W' σ' H' ρ' (e3.trans e) p q,fun W' σ' H' ρ' e p q=>⟨W',ρ',p,e3.trans e,q⟩⟩
 | false=>exact b6 (k.nx W2 σ2 H3 ρ2 (e2.trans (Ev.same s3)) (px2.mono s3) (by simpa using q3))
end
theorem aD.sqT {K:PySem.W.Frag}{M:Addr->Prop}{H:Hp}{v:V}{xs:List PV} (r:aD K M H v (.tup xs)):∃ a us,v = .ref a/\H a=some (.tup us)/\Reps K M H us xs:=by
 cases r with
 | tup e r=>exact⟨_,_,rfl,e,r⟩
theorem aD.sqL {K:PySem.W.Frag}{M:Addr->Prop}{H:Hp}{v:V}{xs:List PV} (r:aD K M H v (.lst xs)):∃ a us,v = .ref a/\M a/\H a=some (.lst us)/\Reps K M H us xs:=by
 cases r with
 | lst m e r=>exact⟨_,_,rfl,m,e,r⟩
theorem iI.sqL {K:PySem.W.Frag}{H:Hp}{a:Addr}{ns:List Int} (h:iI K H a ns):aM K H a (ns.map V.int):=h.elim (fun z=>.inl (.inr z)) .inr
def j7:PV->Option (List PV)
 | .tup xs=>some xs
 | .lst xs=>some xs
 | .scr ns=>some (intz ns)
 | .kt xs=>some xs
 | _=>none
theorem aD.seq {K:PySem.W.Frag}{M:Addr->Prop}{H:Hp}{v:V}{x:PV}{xs:List PV} (r:aD K M H v x) (e:j7 x=some xs):∃ a us,v = .ref a/\(aM K H a us ∨ aL K H a us)/\Reps K M H us xs:=by
 cases r with
 | tup h r=>cases e; exact⟨_,_,rfl,.inr (aL.of h),r⟩
 | lst m h r=>cases e; exact⟨_,_,rfl,.inl (aM.of h),r⟩
 | scr h=>cases e; exact⟨_,_,rfl,.inl h.sqL,Reps.intz _⟩
 | kt h r=>cases e; exact⟨_,_,rfl,.inr (.inr h),r⟩
 | _=>cases e
section
variable {X : Cx} {σ : St} {H : Hp} {D : dB} {te ti to : aF} {t u : aP} {Q' : VK}
theorem _root_.PP.PX.updL {K:PySem.W.Frag}{H0:Hp}{W:Addr->Prop}{σ:St}{ρ:bD}{H:Hp}{i:Nat}{a:Addr}{x:PV}{us:List V}{ys:List PV} (p:PX K H0 W σ ρ H) (hi:ρ[i]? = some (some (.own x))) (ha:σ[i]? = some (some (.ref a))) (wa:W a) (r:Reps K (Ms H0 W true) (upd H a (.lst us)) us ys) :
  PX K H0 W σ (ρ.set i (some (.own (.lst ys)))) (upd H a (.lst us)):=p.updOwn hi ha wa rfl (y:=.lst ys) ⟨us,c9,r⟩
def iK (i:Nat) (te:aF):aP:=fun D ρ=>∃ xs,ρ[i]? = some (some (.own (.lst xs)))/\te ρ fun x g=>Nw g x/\xs.length < 16000000/\D.nx (ρ.set i (some (.own (.lst (xs ++ [x])))))
theorem am2 {i:Nat} (h:LS X (iK i te) D σ H):kQ (sN X.K "list" xO (jK i) (iZ (LE X te) jN)) D σ H:=by
 obtain ⟨W,ρ,D',px,⟨xs,hi,q⟩,k⟩:=h
 obtain ⟨v,ev,a,rfl,wa,us,ea,r⟩:=px.sl i _ hi
 refine⟨_,ev,t8 (aM.of ea),W,ρ,_,px,q,?_⟩
 rintro w H1 x g s rx ⟨n,hl,q⟩
 have ea1:=s _ _ ea
 refine⟨a,us,w,rfl,rfl,ea1,t7 (by rw [r.length]; omega),?_⟩
 refine k.nx W σ _ _ ((Ev.same s).trans (Ev.upd wa)) ((px.mono s).updL hi ev wa ?_) q
 exact ((r.same s fun _ z=>z).append (.cons (Nw.rep px n rx) .nil)).keep (.upd ea1 rfl fun b m=>⟨mO wa m,m⟩)
end
theorem Reps.atI {K:PySem.W.Frag}{M:Addr->Prop}{H:Hp}{us:List V}{xs:List PV}{i:Int}{z:PV} (r:Reps K M H us xs) (h:L2.atI xs i=some z):∃ v,L2.atI us i=some v/\aD K M H v z:=by
 unfold L2.atI at h ⊢
 rw [r.length]
 cases e:jP xs.length i with
 | none=>rw [e] at h; cases h
 | some j=>rw [e] at h; exact r.at h
section
variable {X : Cx} {σ : St} {H : Hp} {Q' : VK} {ta tb te : aF} {tr : cJ}
def tP:PV->Tg->PV->Tg->PK->Prop:=fun x g y _ Q=>∃ xs i z,j7 x=some xs/\y = .int i/\L2.atI xs i=some z/\Q z g
theorem am3:dP X tP (xK X.K):=by
 rintro W Hs H u v x y g g' Q Q' s n r1 r2 ⟨xs,i,z,e,rfl,hz,q⟩ k
 cases r2
 obtain ⟨a,us,rfl,hs,r⟩:=r1.seq e
 obtain ⟨v,hv,rv⟩:=r.atI hz
 rcases hs with hs | hs
 ·exact .inl ⟨a,us,i,v,rfl,rfl,hs,hv,k v H z g (aE.refl _) rv q⟩
 ·exact .inr (.inl ⟨a,us,i,v,rfl,rfl,hs,hv,k v H z g (aE.refl _) rv q⟩)
def yZ:PV->Option Nat
 | .tup xs=>some xs.length
 | .lst xs=>some xs.length
 | .scr ns=>some ns.length
 | .dK ps=>some ps.length
 | .kt xs=>some xs.length
 | _=>none
def dG:List PV->(PV->Prop)->Prop:=fun xs Q=>∃ x n,xs = [x]/\yZ x=some n/\Q (.int n)
theorem Reps.one {K:PySem.W.Frag}{M:Addr->Prop}{H:Hp}{vs:List V}{x:PV} (r:Reps K M H vs [x]):∃ v,vs = [v]/\aD K M H v x:=by
 cases r with
 | cons r t=>cases t; exact⟨_,rfl,r⟩
theorem Reps.two {K:PySem.W.Frag}{M:Addr->Prop}{H:Hp}{vs:List V}{x y:PV} (r:Reps K M H vs [x,y]):∃ v w,vs = [v,w]/\aD K M H v x/\aD K M H w y:=by
 cases r with
 | cons r t=>
  obtain ⟨w,rfl,q⟩:=t.one
  exact⟨_,_,rfl,r,q⟩
theorem am4:dR X dG (fun xs H Q=>(∃ p ys,xs = [.ref p]/\(aM X.K H p ys ∨ aL X.K H p ys)/\Q (.int ys.length) H) ∨ ∃ a kvs,xs = [V.ref a]/\H a=some (.dK kvs)/\Q (.int kvs.length) H):=by
 rintro H vs xs Q Q' r ⟨x,n,rfl,e,q⟩ k
 obtain ⟨v,rfl,r1⟩:=r.one
 have fin:∀ {m:Nat},m=n->Q' (.int m) H:=fun {m} z=>by rw [z]; exact k _ _ _ (aE.refl _) (.int _) q
 cases r1 with
 | tup h r2=>cases e; exact .inl ⟨_,_,rfl,.inr (aL.of h),fin r2.length⟩
 | lst m h r2=>cases e; exact .inl ⟨_,_,rfl,.inl (aM.of h),fin r2.length⟩
 | scr h=>cases e; exact .inl ⟨_,_,rfl,.inl h.sqL,fin (by rw [aO2])⟩
 | kt h r2=>cases e; exact .inl ⟨_,_,rfl,.inr (.inr h),fin r2.length⟩
 | dK m h e' r=>
  cases e
  refine .inr ⟨_,_,rfl,h,fin ?_⟩
  have:=congrArg List.length e'
  rw [aO2,aO2] at this
  exact this
 | _=>cases e
def p9:PV->Option (List PV)
 | .kt _=>none
 | x=>j7 x
def z9:List PV->(PV->Prop)->Prop:=fun xs Q=>∃ x ys,xs = [x]/\p9 x=some ys/\flats ys=true/\Q (.tup ys)
def kZ:List PV->(PV->Prop)->Prop:=fun xs Q=>∃ x ys,xs = [x]/\j7 x=some ys/\flats ys=true/\Q (.lst ys)
theorem am5:dR X (fun xs Q=>z9 xs Q/\∀ ns,xs ≠ [.scr ns]) (fun xs H Q=>∃ p ys,xs = [.ref p]/\((aM X.K H p ys/\∀ l,H l=none->Q (.ref l) (upd H l (.tup ys))) ∨ (aL X.K H p ys/\Q (.ref p) H))):=by
 rintro H vs xs Q Q' r ⟨⟨x,ys,rfl,e,f,q⟩,nsc⟩ k
 obtain ⟨v,rfl,r1⟩:=r.one
 cases r1 with
 | tup h r2=>cases e; exact⟨_,_,rfl,.inr ⟨aL.of h,k _ _ _ (aE.refl _) (.tup h (r2.flat f)) q⟩⟩
 | lst m h r2=>cases e; exact⟨_,_,rfl,.inl ⟨aM.of h,fun l hl=>k _ _ _ (bY hl _) (.tup c9 ((r2.flat f).same (bY hl _) fun _ z=>z)) q⟩⟩
 | scr h=>exact absurd rfl (nsc _)
 | _=>cases e
theorem am6:dR X kZ (fun xs H Q=>∃ p ys,xs = [.ref p]/\(aM X.K H p ys ∨ aL X.K H p ys)/\∀ l,H l=none->Q (.ref l) (upd H l (.lst ys))):=by
 rintro H vs xs Q Q' r ⟨x,ys,rfl,e,f,q⟩ k
 obtain ⟨v,rfl,r1⟩:=r.one
 obtain ⟨a,us,rfl,hs,r2⟩:=r1.seq e
 exact⟨_,_,rfl,hs,fun l hl=>k _ _ _ (bY hl _) (.lst hl c9 ((r2.flat f).same (bY hl _) fun _ z=>z)) q⟩
def pA:List PV->(PV->Prop)->Prop:=fun xs Q=>∃ bs:List Bool,xs = [.lst (bs.map PV.bl)]/\Q (.bl (bs.all id))
theorem Reps.ofBls {K:PySem.W.Frag}{M:Addr->Prop}{H:Hp}:∀ {ns:List Bool}{us:List V},Reps K M H us (ns.map PV.bl)->us=ns.map V.bl
 | [],_,.nil=>rfl
 | n :: r,_,.cons q t=>by
  cases q
  rw [Reps.ofBls t]; rfl
theorem am7:dR X pA (fun xs H Q=>∃ (a:Addr) (bs:List Bool),xs = [.ref a]/\aM X.K H a (bs.map V.bl)/\Q (.bl (bs.all id)) H):=by
 rintro H vs xs Q Q' r ⟨bs,rfl,q⟩ k
 obtain ⟨v,rfl,r1⟩:=r.one
 obtain ⟨a,us,rfl,_,h,r2⟩:=r1.sqL
 obtain rfl:=r2.ofBls
 exact⟨a,bs,rfl,aM.of h,k _ _ _ (aE.refl _) (.bl _) q⟩
def jU:List PV->(PV->Prop)->Prop:=fun xs Q=>∃ i j,xs = [.int i,.int j]/\Q (.int (if j < i then j else i))
def j8:List PV->(PV->Prop)->Prop:=fun xs Q=>∃ i j,xs = [.int i,.int j]/\Q (.int (if j > i then j else i))
theorem am8:dR X jU (fun xs H Q=>∃ i j,xs = [.int i,.int j]/\Q (.int (if j < i then j else i)) H):=by
 rintro H vs xs Q Q' r ⟨i,j,rfl,q⟩ k
 obtain ⟨v,w,rfl,r1,r2⟩:=r.two
 cases r1; cases r2
 exact⟨i,j,rfl,k _ _ _ (aE.refl _) (.int _) q⟩
theorem am9:dR X j8 (fun xs H Q=>∃ i j,xs = [.int i,.int j]/\Q (.int (if j > i then j else i)) H):=by
 rintro H vs xs Q Q' r ⟨i,j,rfl,q⟩ k
 obtain ⟨v,w,rfl,r1,r2⟩:=r.two
 cases r1; cases r2
 exact⟨i,j,rfl,k _ _ _ (aE.refl _) (.int _) q⟩
abbrev bN:=List PV->(PV->Prop)->Prop
def mP (K:PySem.W.Frag) (p:bN):Sp:=fun vs H Q _=>∃ xs Qp,Reps K (fun _=>True) H vs xs/\p xs Qp/\∀ v H' x,aE H H'->aD K (fun a=>H a=none) H' v x->Qp x->Q v H'
theorem an0 {p:bN}{E:XK} (h:LE X (aC p tr) σ H Q'):sF (mP X.K p) [] E (LA X tr) σ H Q':=by
 obtain ⟨W,ρ,Q,px,q,k⟩:=h
 refine⟨W,ρ,_,px,q,fun vs H1 xs s1 r1 q1=>⟨_,_,by rw [aY8]; exact r1.any,q1,fun v H' x s2 r2 q2=>k v H' x .fr (s1.trans s2) (r2.same (aE.refl _) fun _ z=>s1.free z) q2⟩⟩
def tQ:PV->Bool
 | .non=>true
 | _=>false
def l0 (neg:Bool):PV->Tg->PV->Tg->PK->Prop:=fun x _ y _ Q=>y = .non/\Q (.bl (if neg=true then !tQ x else tQ x)) .fr
theorem zA {K:PySem.W.Frag}{M:Addr->Prop}{H:Hp}{v:V}{x:PV} (r:aD K M H v x):decide (v = .non)=tQ x:=by
 cases r <;> rfl
theorem an1:dP X (l0 false) (fun x y H Q=>y = .non/\Q (.bl (decide (x = .non))) H):=by
 rintro W Hs H u v x y g g' Q Q' s n r1 r2 ⟨rfl,q⟩ k
 cases r2
 exact⟨rfl,by rw [zA r1]; exact k _ _ _ _ (aE.refl _) (.bl _) q⟩
theorem an2:dP X (l0 true) (fun x y H Q=>y = .non/\Q (.bl (!decide (x = .non))) H):=by
 rintro W Hs H u v x y g g' Q Q' s n r1 r2 ⟨rfl,q⟩ k
 cases r2
 exact⟨rfl,by rw [zA r1]; exact k _ _ _ _ (aE.refl _) (.bl _) q⟩
end
structure j9 (K:PySem.W.Frag) (H0:Hp) (W:Addr->Prop) (g:Bool) (H1:Hp) (J:It) (xs:List PV):Prop where
 go:∀ W' H' i,Ev W H1 W' H'->i < xs.length->J.go i H'
 yld:∀ W' H' i v H2,Ev W H1 W' H'->J.yld i H' v H2->i < xs.length->aE H' H2/\∃ x,xs[i]? = some x/\aD K (Ms H0 W' g) H2 v x
 stop:∀ W' H',Ev W H1 W' H'->J.stop xs.length H'
abbrev eG:=bD->(List PV->Bool->Prop)->Prop
def LI (X:Cx) (t:eG):TI:=fun σ H R=>∃ (W:Addr->Prop) (ρ:bD) (Q:List PV->Bool->Prop),PX X.K X.H₀ W σ ρ H/\t ρ Q/\∀ J H1 xs g,aE H H1->j9 X.K X.H₀ W g H1 J xs->Q xs g->R J H1
theorem Ev.keep {H0:Hp}{W W':Addr->Prop}{H H':Hp}{g:Bool} (e:Ev W H W' H') (tw:∀ a,W a->∃ o,H a=some o/\eW o=true):gW (Ms H0 W g) (Ms H0 W' g) H H':=by
 have m:∀ {a:Addr}{o:HO},Ms H0 W g a->H a=some o->Ms H0 W' g a/\H' a=some o:=fun {a o} z h=>by
  cases g with
  | true=>
   obtain ⟨h1,h2⟩:=e a _ h z.1
   exact⟨⟨h2,z.2⟩,h1⟩
  | false=>
   obtain ⟨h1,h2⟩:=e a _ h z
   exact⟨h2,h1⟩
 refine⟨fun a _ z h=>m z h,fun a _ z h=>m z h,fun a _ z h=>m z h,fun a _ h=>(e a _ h fun z=>?_).1,fun a _ _ h=>(e a _ h fun z=>?_).1⟩
 ·obtain ⟨o,h',mu⟩:=tw a z; rw [h] at h'; cases h'; cases mu
 ·obtain ⟨o,h',mu⟩:=tw a z; rw [h] at h'; cases h'; cases mu
section
variable {X : Cx} {σ : St} {H : Hp} {te : aF} {tr : cJ} {R : It → Hp → Prop}
def zB (K:PySem.W.Frag) (tl:TE):TI:=fun σ H R=>tl σ H fun x H1=>∃ a,x = .ref a/\((∃ xs,aM K H1 a xs/\R (rW K a) H1) ∨ (∃ xs,aL K H1 a xs/\R (rX K a) H1))
def tR:Tg->List PV->Bool
 | .fr,_=>true
 | .nw,_=>true
 | _,xs=>flats xs
def fX (te:aF):eG:=fun ρ Q=>te ρ fun x g=>∃ xs,j7 x=some xs/\(g = .rd->flat x=true)/\Q xs (tR g xs)
theorem zC {K:PySem.W.Frag}{H0:Hp}{W:Addr->Prop}{g:Bool}{H1:Hp}{a:Addr}{us:List V}{xs:List PV} (tw:∀ a,W a->∃ o,H1 a=some o/\eW o=true) (ha:∀ W' H',Ev W H1 W' H'->aM K H' a us) (r:Reps K (Ms H0 W g) H1 us xs):j9 K H0 W g H1 (rW K a) xs:=by
 have lr:=r.length
 refine⟨fun W' H' i e hi=>⟨us,us[i]'(by omega),ha W' H' e,by simp⟩,fun W' H' i v H2 e y hi=>?_,fun W' H' e=>⟨us,ha W' H' e,by omega⟩⟩
 obtain ⟨rfl,y⟩:=y
 obtain ⟨x,hx,rx⟩:=r.get (y us (ha W' _ e))
 exact⟨aE.refl _,x,hx,rx.keep (e.keep tw)⟩
theorem zD {K:PySem.W.Frag}{H0:Hp}{W:Addr->Prop}{g:Bool}{H1:Hp}{a:Addr}{us:List V}{xs:List PV} (tw:∀ a,W a->∃ o,H1 a=some o/\eW o=true) (ha:∀ W' H',Ev W H1 W' H'->aL K H' a us) (r:Reps K (Ms H0 W g) H1 us xs):j9 K H0 W g H1 (rX K a) xs:=by
 have lr:=r.length
 refine⟨fun W' H' i e hi=>⟨us,us[i]'(by omega),ha W' H' e,by simp⟩,fun W' H' i v H2 e y hi=>?_,fun W' H' e=>⟨us,ha W' H' e,by omega⟩⟩
 obtain ⟨rfl,y⟩:=y
 obtain ⟨x,hx,rx⟩:=r.get (y us (ha W' _ e))
 exact⟨aE.refl _,x,hx,rx.keep (e.keep tw)⟩
theorem l4 {K:PySem.W.Frag}{H0 Hs H:Hp}{W:Addr->Prop}{σ:St}{ρ:bD}{g:Tg}{us:List V}{xs:List PV} (px:PX K H0 W σ ρ Hs) (hg:g = .rd->flats xs=true) (r:Reps K (Mg H0 W Hs g) H us xs):Reps K (Ms H0 W (tR g xs)) H us xs:=by
 cases g with
 | fr=>exact r.same (aE.refl _) fun _ z=>px.new z
 | nw=>exact r.same (aE.refl _) fun _ z=>z
 | sh=>
  show Reps K (Ms H0 W (flats xs)) H us xs
  cases e:flats xs with
  | true=>exact r.flat e
  | false=>exact r.same (aE.refl _) fun _ z=>z
 | rd=>exact r.flat (hg rfl)
theorem an3 (h:LI X (fX te) σ H R):zB X.K (LE X te) σ H R:=by
 obtain ⟨W,ρ,Q,px,q,k⟩:=h
 refine⟨W,ρ,_,px,q,?_⟩
 rintro v H1 x g s r ⟨xs,e,hg,q⟩
 have px1:=px.mono s
 have tw:∀ a,W a->∃ o,H1 a=some o/\eW o=true:=fun a z=>(px1.wm a z).2
 cases r with
 | tup h r=>
  cases e
  refine⟨_,rfl,.inr ⟨_,aL.of h,k _ _ _ _ s (zD tw (fun W' H' e=>aL.of (e _ _ h fun z=>?_).1) (l4 px (fun z=>by have:=hg z; unfold flat at this; exact this) r)) q⟩⟩
  obtain ⟨o,h',mu⟩:=tw _ z; rw [h] at h'; cases h'; cases mu
 | @lst a us xs' m h r=>
  cases e
  have wa : ¬ W a:=by
   cases g with
   | fr=>exact (px.new m).1
   | nw=>exact m.1
   | sh=>exact m
   | rd=>have:=hg rfl; unfold flat at this; cases this
  exact⟨_,rfl,.inl ⟨_,aM.of h,k _ _ _ _ s (zC tw (fun W' H' e=>aM.of (e _ _ h wa).1) (l4 px (fun z=>by have:=hg z; unfold flat at this; cases this) r)) q⟩⟩
 | scr h=>
  cases e
  refine⟨_,rfl,.inl ⟨_,h.sqL,k _ _ _ _ s (zC tw (fun W' H' e=>(iI.keep (fun a o u hz=>(e _ _ hz fun z=>?_).1) h).sqL) (l4 (g:=g) px (fun z=>tG _) (Reps.intz _))) q⟩⟩
  obtain ⟨o,h',mu⟩:=tw _ z; rw [hz] at h'; cases h'; cases mu
 | kt h r=>
  cases e
  exact⟨_,rfl,.inr ⟨_,.inr h,k _ _ _ _ s (zD tw (fun W' H' e=>.inr h) (l4 px (fun z=>by have:=hg z; unfold flat at this; exact this) r)) q⟩⟩
 | _=>cases e
def jA (lo:Int) (n:Nat):List PV:=(List.range n).map fun (i:Nat)=>PV.int (lo+(i:Int))
theorem jV (lo:Int) (n:Nat):(jA lo n).length=n:=by unfold jA; rw [aO2,List.length_range]
theorem zE {lo:Int}{n i:Nat} (h:i < n):(jA lo n)[i]? = some (.int (lo+i)):=by unfold jA; rw [aP4,List.getElem?_range h]; rfl
def l5 (te:aF):eG:=fun ρ Q=>te ρ fun x _=>∃ j:Int,x = .int j/\-1000000<=j/\j<=1000000/\Q (jA 0 j.toNat) true
theorem an4 {K:PySem.W.Frag}{H0:Hp}{W:Addr->Prop}{H1:Hp} (lo:Int) (n:Nat):j9 K H0 W true H1 (oD lo n) (jA lo n):=by
 refine⟨fun W' H' i e hi=>by rw [jV] at hi; exact hi,fun W' H' i v H2 e y hi=>?_,fun W' H' e=>by show n<=(jA lo n).length; rw [jV]; exact aO6 _⟩
 rw [jV] at hi
 obtain ⟨rfl,rfl⟩:=y
 exact⟨aE.refl _,_,zE hi,.int _⟩
theorem an5 (h:LI X (l5 te) σ H R):wK (iZ (LE X te) jN) σ H R:=by
 obtain ⟨W,ρ,Q,px,q,k⟩:=h
 refine⟨W,ρ,_,px,q,?_⟩
 rintro v H1 x g s r ⟨j,rfl,h1,h2,q⟩
 cases r
 exact⟨j,rfl,by omega,by omega,k _ _ _ _ s (an4 0 j.toNat) q⟩
end
abbrev gZ:=PV->Bool->bD->(bD->Prop)->Prop
def l6 (K:PySem.W.Frag) (own:Nat->Prop) (p:gZ) (t:TG):Prop:=∀ (H0:Hp) (W:Addr->Prop) (σ:St) (ρ:bD) (H:Hp) (v:V) (x:PV) (g:Bool) (Q:bD->Prop) (Q':St->Hp->Prop),
 PX K H0 W σ ρ H->aD K (Ms H0 W g) H v x->p x g ρ Q->(∀ σ' ρ',PX K H0 W σ' ρ' H->(∀ i,¬ own i->σ'[i]? = σ[i]?)->σ'.length=σ.length->Q ρ'->Q' σ' H)->t v σ H Q'
def dC (i:Nat):gZ:=fun x g ρ Q=>Q (ρ.set i (some (.sh (g || flat x) x)))
theorem pB {K:PySem.W.Frag}{H0 H:Hp}{W:Addr->Prop}{v:V}{x:PV}{g:Bool} (r:aD K (Ms H0 W g) H v x):aD K (Ms H0 W (g || flat x)) H v x:=by
 cases g with
 | true=>exact r
 | false=>
  show aD K (Ms H0 W (flat x)) H v x
  cases e:flat x with
  | true=>exact r.flat e
  | false=>exact r
theorem zF (K:PySem.W.Frag) (i:Nat):l6 K (· = i) (dC i) (e9 i):=by
 intro H0 W σ ρ H v x g Q Q' px r q k
 exact k _ _ (px.setSh (pB r)) (fun j hj=>by rw [aR5 (Ne.symm hj)]) (aZ0 ..) q
def gK (i j:Nat):gZ:=fun x g ρ Q=>∃ y z,x = .tup [y,z]/\Q ((ρ.set i (some (.sh (g || flat y) y))).set j (some (.sh (g || flat z) z)))
theorem tS (K:PySem.W.Frag) (i j:Nat):l6 K (fun k=>k=i ∨ k=j) (gK i j) (mC K 2 (iB (e9 i) (iB (e9 j) mB))):=by
 intro H0 W σ ρ H v x g Q Q' px r q k
 obtain ⟨y,z,rfl,q⟩:=q
 obtain ⟨a,us,rfl,h,r⟩:=r.sqT
 obtain ⟨u1,u2,rfl,r1,r2⟩:=r.two
 refine⟨a,_,rfl,aL.of h,rfl,u1,_,rfl,u2,_,rfl,rfl,k _ _ ((px.setSh (pB r1)).setSh (pB r2)) (fun k hk=>?_) (by rw [aZ0,aZ0]) q⟩
 rw [aR5 (fun e=>hk (.inr e.symm)),aR5 (fun e=>hk (.inl e.symm))]
section
variable {X : Cx} {σ : St} {H : Hp} {D : dB}
def dH (ti:eG) (p:gZ) (tb:aP):aP:=fun D ρ=>ti ρ fun xs g=>∃ I:Nat->bD->Prop,I 0 ρ/\(∀ i x ρ',xs[i]? = some x->I i ρ'->p x g ρ' fun ρ2=>tb { D with nx:=I (i+1),ct:=I (i+1),bk:=D.nx } ρ2)/\∀ ρ',I xs.length ρ'->D.nx ρ'
theorem an6 {ti:eG}{p:gZ}{g:TG}{tb:aP}{own:Nat->Prop} (hg:l6 X.K own p g) (h:LS X (dH ti p tb) D σ H):wL (LI X ti) g (LS X tb) D σ H:=by
 obtain ⟨W,ρ,D',px,q,k⟩:=h
 refine⟨W,ρ,_,px,q,?_⟩
 rintro J H1 xs gb s it ⟨I,i0,turn,fin⟩
 refine⟨fun i m σ2 H2=>m=xs.length - i/\i<=xs.length/\∃ W2 ρ2,PX X.K X.H₀ W2 σ2 ρ2 H2/\Ev W H1 W2 H2/\I i ρ2,⟨xs.length,by omega,aV7 _,W,ρ,px.mono s,Ev.refl _ _,i0⟩,?_⟩
 rintro i m σ2 H2 ⟨rfl,hi,W2,ρ2,px2,e2,i2⟩
 have e0:Ev W H W2 H2:=(Ev.same s).trans e2
 by_cases hlt:i < xs.length
 ·refine .inr ⟨it.go W2 H2 i e2 hlt,fun σ3 H3=>∃ W3 ρ3,PX X.K X.H₀ W3 σ3 ρ3 H3/\Ev W H1 W3 H3/\I (i+1) ρ3,fun σ3 H3 ⟨W3,ρ3,a,b,c⟩=>⟨xs.length - (i+1),by omega,rfl,hlt,W3,ρ3,a,b,c⟩,fun v H3 y=>?_⟩
  obtain ⟨s3,x,hx,rx⟩:=it.yld W2 H2 i v H3 e2 y hlt
  refine hg X.H₀ W2 σ2 ρ2 H3 v x gb _ _ (px2.mono s3) rx (turn i x ρ2 hx i2) fun σ4 ρ4 px4 _ _ q4=>?_
  have e3:Ev W H1 W2 H3:=e2.trans (Ev.same s3)
  have e3':Ev W H W2 H3:=e0.trans (Ev.same s3)
  exact⟨W2,ρ4,_,px4,q4,fun W' σ' H' ρ' e p q=>⟨W',ρ',p,e3.trans e,q⟩,k.rt,fun W' σ' H' ρ' e p q=>k.nx W' σ' H' ρ' (e3'.trans e) p q,fun W' σ' H' ρ' e p q=>⟨W',ρ',p,e3.trans e,q⟩⟩
 ·have e:i=xs.length:=by omega
  subst e
  exact .inl ⟨it.stop W2 H2 e2,k.nx W2 σ2 H2 ρ2 e0 px2 (fin ρ2 i2)⟩
end
def l7 (fr:List (Option Nat)) (ρ:bD):bD:=fr.map fun o=>o.bind fun j=>(ρ[j]?).join.map fun m=>Slot.sh false m.val
def jW (D:Addr):Addr->Prop:=fun a=>a=D
theorem an7 {K:PySem.W.Frag}{H0:Hp}{W:Addr->Prop}{σ:St}{ρ:bD}{H1 H':Hp}{D:Addr}{acc:List V}{fr:List (Option Nat)} (px:PX K H0 W σ ρ H1) (hD:H1 D=none) (s:aE H1 H') (ha:H' D=some (.lst acc)) :
  PX K H1 (jW D) (fE fr σ) (l7 fr ρ) H':=by
 have old:∀ {a:Addr}{o:HO},H1 a=some o->a ≠ D:=fun {a o} e z=>by rw [z,hD] at e; cases e
 refine⟨by unfold fE l7; rw [aO2,aO2],s,fun a z=>by cases z; exact⟨hD,_,ha,rfl⟩,fun i m h=>?_,fun i j x y a h1=>?_⟩
 ·unfold l7 at h
  rw [aP4] at h
  cases ef:fr[i]? with
  | none=>rw [ef] at h; cases h
  | some o=>
   rw [ef] at h
   cases o with
   | none=>cases h
   | some j=>
    have h:some ((ρ[j]?).join.map fun m=>Slot.sh false m.val)=some (some m):=h
    cases er:ρ[j]? with
    | none=>rw [er] at h; cases h
    | some o=>
     rw [er] at h
     cases o with
     | none=>cases h
     | some m0=>
      cases h
      obtain ⟨v,ev,r⟩:=px.sl j m0 er
      refine⟨v,?_,?_⟩
      ·unfold fE
       rw [aP4,ef]
       show some ((σ[j]?).join)=_
       rw [ev]; rfl
      ·have r':aD K (fun _=>True) H1 v m0.val:=(yR (Hs:=H1) r).same (aE.refl _) fun _ _=>trivial
       exact r'.keep ⟨fun a _ _ e=>⟨old e,s _ _ e⟩,fun a _ _ e=>⟨old e,s _ _ e⟩,fun a _ _ e=>⟨old e,s _ _ e⟩,fun _ _ e=>s _ _ e,fun _ _ _ e=>s _ _ e⟩
 ·unfold l7 at h1
  rw [aP4] at h1
  cases ef:fr[i]? with
  | none=>rw [ef] at h1; cases h1
  | some o=>
   rw [ef] at h1
   cases o with
   | none=>cases h1
   | some j=>
    have h1:some ((ρ[j]?).join.map fun m=>Slot.sh false m.val)=some (some (Slot.own x)):=h1
    cases er:ρ[j]? with
    | none=>rw [er] at h1; cases h1
    | some o=>
     rw [er] at h1
     cases o with
     | none=>cases h1
     | some m0=>cases h1
section
variable {X : Cx} {σ : St} {H : Hp} {Q' : VK}
abbrev _root_.L2.Cx.frm (X:Cx) (H1:Hp):Cx:={ X with H₀:=H1 }
def l8 (ti:eG) (fr:List (Option Nat)) (p:gZ) (tc:cH) (te:aF):aF:=fun ρ Q=>ti ρ fun xs g=>xs.length<=16000000/\∃ I:Nat->List PV->Prop,I 0 []/\
 (∀ i x acc,xs[i]? = some x->I i acc->p x false (l7 fr ρ) fun ρ2=>tc ρ2 fun b=>if b=true then te ρ2 fun y gy=>Nw gy y/\I (i+1) (acc ++ [y]) else I (i+1) acc)/\∀ acc,I xs.length acc->Q (.lst acc) .fr
theorem zG {ti:eG}{fr:List (Option Nat)}{p:gZ}{g:TG}{tc:cH}{te:aF}{own:Nat->Prop} (hg:l6 X.K own p g) (ho:∀ i,own i->fr[i]? = some none) (h:LE X (l8 ti fr p tc te) σ H Q') :
  yE (LI X ti) fr (fun _=>g) (fun H1=>LT (X.frm H1) tc) (fun H1=>LE (X.frm H1) te) σ H Q':=by
 obtain ⟨W,ρ,Q,px,q,k⟩:=h
 refine⟨W,ρ,_,px,q,?_⟩
 rintro J H1 xs gb s it ⟨hl,I,i0,turn,fin⟩ D hD
 have px1:=px.mono s
 refine⟨fun i m acc H'=>m=xs.length - i/\i<=xs.length/\aE H1 H'/\H' D=some (.lst acc)/\∃ ys,Reps X.K (Ms H1 (jW D) true) H' acc ys/\ys.length<=i/\I i ys,⟨xs.length,by omega,aV7 _,bY hD _,c9,[],.nil,aO6 _,i0⟩,?_⟩
 rintro i m acc H' ⟨rfl,hi,sm,ha,ys,ry,hy,iy⟩
 refine⟨ha,?_⟩
 have ev:Ev W H1 (kY W D) H':=Ev.own sm hD
 by_cases hlt:i < xs.length
 ·refine .inr ⟨it.go _ H' i ev hlt,fun v H2 y=>?_⟩
  obtain ⟨s2,x,hx,rx⟩:=it.yld _ H' i v H2 ev y hlt
  have ha2:=s2 _ _ ha
  have pxb:PX X.K H1 (jW D) (fE fr σ) (l7 fr ρ) H2:=an7 px1 hD (sm.trans s2) ha2
  have rx':aD X.K (Ms H1 (jW D) false) H2 v x:=rx.same (aE.refl _) fun a z=>by
   cases gb with
   | true=>exact fun e=>z.1 (.inr e)
   | false=>exact fun e=>z (.inr e)
  refine hg H1 (jW D) _ _ H2 v x false _ _ pxb rx' (turn i x ys hx iy) fun σ2 ρ2 px2 hown hlen q2=>⟨⟨hlen.symm,fun j w e=>?_⟩,?_⟩
  ·by_cases oj:own j
   ·have:=ho j oj
    unfold fE at e
    rw [aP4,this] at e
    cases e
   ·rw [hown j oj]; exact e
  ·refine⟨jW D,ρ2,_,px2,q2,fun b H4 s4 q4=>?_⟩
   have ha4:=s4 _ _ ha2
   have sm4:=(sm.trans s2).trans s4
   cases b with
   | false=>
    refine b6 ⟨xs.length - (i+1),by omega,rfl,hlt,sm4,ha4,ys,ry.same (s2.trans s4) fun _ z=>z,by omega,by simpa using q4⟩
   | true=>
    refine bI ⟨jW D,ρ2,_,px2.mono s4,by simpa using q4,?_⟩
    rintro w H5 y gy s5 ryy ⟨nw,q5⟩
    have ha5:=s5 _ _ ha4
    have lr:=ry.length
    refine⟨ha5,t7 (by omega),xs.length - (i+1),by omega,rfl,hlt,fun b o e=>?_,c9,ys ++ [y],?_,by rw [aR3,aS6]; omega,q5⟩
    ·rw [aZ (fun z=>by rw [z,hD] at e; cases e)]
     exact s5 _ _ (sm4 _ _ e)
    ·exact ((ry.same ((s2.trans s4).trans s5) fun _ z=>z).append (.cons (Nw.rep (px2.mono s4) nw ryy) .nil)).keep (.upd ha5 rfl fun b m=>⟨m.1,m⟩)
 ·have e:i=xs.length:=by omega
  subst e
  refine .inl ⟨it.stop _ H' ev,k _ H' _ .fr (s.trans sm) (.lst (s.free hD) ha (ry.same (aE.refl _) fun _ z=>s.free z.2)) (fin ys iy)⟩
def hB:cH:=fun _ Q=>Q true
theorem an8 {Qb:Bool->Hp->Prop} (h:LT X hB σ H Qb):yC σ H Qb:=by
 obtain ⟨W,ρ,Q,px,q,k⟩:=h
 exact k _ _ (aE.refl _) q
end
section
variable {κ : Type} [DecidableEq κ]
def dI (ps:List (κ × PV)) (k:κ):Option PV:=(ps.find? fun p=>decide (p.1=k)).map (·.2)
def jB (ps:List (κ × PV)) (k:κ) (x:PV):List (κ × PV):=if (ps.any fun p=>decide (p.1=k))=true then ps.map (fun p=>if p.1=k then (p.1,x) else p) else ps ++ [(k,x)]
variable {K : PySem.W.Frag} {M : Addr → Prop} {H : Hp}
theorem iL (k:κ):∀ {kvs:List (κ × V)}{ps:List (κ × PV)},kvs.map (·.1)=ps.map (·.1)->Reps K M H (kvs.map (·.2)) (ps.map (·.2))->(dI ps k=none->eB kvs k=none)/\∀ x,dI ps k=some x->∃ v,eB kvs k=some v/\aD K M H v x
 | [],[],_,_=>⟨fun _=>rfl,fun x h=>by cases h⟩
 | [],_ :: _,e,_=>by cases e
 | _ :: _,[],e,_=>by cases e
 | (k1,v) :: kvs,(k2,x) :: ps,e,r=>by
  injection e with e1 e2
  have e1:k1=k2:=e1
  subst e1
  cases r with
  | cons r t=>
   obtain ⟨h1,h2⟩:=iL k e2 t
   unfold dI eB at h1 h2 ⊢
   by_cases e:k1=k
   ·simp only [aX9,e,decide_true,Option.map_some]
    exact⟨fun z=>(by cases z),fun y z=>(by cases z; exact⟨v,rfl,r⟩)⟩
   ·simp only [aX9,e,decide_false]
    exact⟨h1,h2⟩
theorem an9 (k:κ) {kvs:List (κ × V)}{ps:List (κ × PV)} (e:kvs.map (·.1)=ps.map (·.1)):(kvs.any fun p=>decide (p.1=k))=ps.any fun p=>decide (p.1=k):=by
 have h1:(kvs.any fun p=>decide (p.1=k))=(kvs.map (·.1)).any fun z=>decide (z=k):=by rw [List.any_map]; rfl
 have h2:(ps.any fun p=>decide (p.1=k))=(ps.map (·.1)).any fun z=>decide (z=k):=by rw [List.any_map]; rfl
 rw [h1,h2,e]
theorem zH (k:κ) {w:V}{y:PV} (q:aD K M H w y):∀ {kvs:List (κ × V)}{ps:List (κ × PV)},kvs.map (·.1)=ps.map (·.1)->Reps K M H (kvs.map (·.2)) (ps.map (·.2))->
  (kvs.map fun kv=>if kv.1=k then (kv.1,w) else kv).map (·.1)=(ps.map fun kv=>if kv.1=k then (kv.1,y) else kv).map (·.1)/\Reps K M H ((kvs.map fun kv=>if kv.1=k then (kv.1,w) else kv).map (·.2)) ((ps.map fun kv=>if kv.1=k then (kv.1,y) else kv).map (·.2))
 | [],[],_,_=>⟨rfl,.nil⟩
 | [],_ :: _,e,_=>by cases e
 | _ :: _,[],e,_=>by cases e
 | (k1,v) :: kvs,(k2,x) :: ps,e,r=>by
  injection e with e1 e2
  have e1:k1=k2:=e1
  subst e1
  cases r with
  | cons r t=>
   obtain ⟨h1,h2⟩:=zH k q e2 t
   by_cases e:k1=k
   ·simp only [aT4,e,if_true]
    exact⟨by rw [h1],.cons q h2⟩
   ·simp only [aT4,e,aV0]
    exact⟨by rw [h1],.cons r h2⟩
theorem ao0 (k:κ) {w:V}{y:PV} (q:aD K M H w y) {kvs:List (κ × V)}{ps:List (κ × PV)} (e:kvs.map (·.1)=ps.map (·.1)) (r:Reps K M H (kvs.map (·.2)) (ps.map (·.2))) :
  (eV kvs k w).map (·.1)=(jB ps k y).map (·.1)/\Reps K M H ((eV kvs k w).map (·.2)) ((jB ps k y).map (·.2)):=by
 unfold eV jB
 rw [an9 k e]
 split
 ·exact zH k q e r
 ·rw [aQ4,aQ4,aQ4,aQ4,e]
  exact⟨rfl,r.append (.cons q .nil)⟩
end
def kP:aJ->PV
 | .inl i=>.int i
 | .inr x=>.str x
theorem zI {K:PySem.W.Frag}{M:Addr->Prop}{H:Hp}{v:V}{k:aJ} (r:aD K M H v (kP k)):v=kV k:=by
 cases k with
 | inl i=>cases r; rfl
 | inr x=>cases r; rfl
theorem pD {K:PySem.W.Frag}{M:Addr->Prop}{H:Hp}:∀ {ks:List aJ}{us:List V},Reps K M H us (ks.map kP)->us=ks.map kV
 | [],_,.nil=>rfl
 | k :: r,_,.cons q t=>by rw [zI q,pD t]; rfl
def zJ:PV->PV
 | .fK ps=>.dK ps
 | .fT ps=>.dT ps
 | x=>x
def zK (x y:PV) (o:Option PV):Prop:=(∃ ps k,zJ x = .dK ps/\y=kP k/\o=dI ps k) ∨ (∃ ps k,zJ x = .dT ps/\y = .tup (k.map kP)/\o=dI ps k)
theorem ao1 {K:PySem.W.Frag}{M M2:Addr->Prop}{H:Hp}{v w:V}{x y:PV}{o:Option PV} (h:zK x y o) (rx:aD K M H v x) (ry:aD K M2 H w y):∃ a o',v = .ref a/\iF H a w o'/\(o=none->o'=none)/\∀ z,o=some z->∃ u,o'=some u/\aD K M H u z:=by
 rcases h with ⟨ps,k,ex,rfl,rfl⟩ | ⟨ps,k,ex,rfl,rfl⟩
 ·obtain rfl:=zI ry
  cases rx with
  | dK m h e r=>cases ex; exact⟨_,_,rfl,iF.k h,(iL k e r).1,(iL k e r).2⟩
  | fK h e r=>cases ex; exact⟨_,_,rfl,.inl ⟨_,k,.inr ⟨_,h⟩,rfl,rfl⟩,(iL k e r).1,(iL k e r).2⟩
  | _=>cases ex
 ·obtain ⟨b,us,rfl,hb,rb⟩:=ry.sqT
  obtain rfl:=pD rb
  cases rx with
  | dT m h e r=>cases ex; exact⟨_,_,rfl,iF.t h hb,(iL k e r).1,(iL k e r).2⟩
  | fT h e r=>cases ex; exact⟨_,_,rfl,.inr ⟨_,k,b,.inr ⟨_,h⟩,rfl,hb,rfl⟩,(iL k e r).1,(iL k e r).2⟩
  | _=>cases ex
section
variable {X : Cx} {σ : St} {H : Hp} {D : dB} {tk td te : aF} {Q' : VK}
def l9 (neg:Bool) (tk td:aF):aF:=fun ρ Q=>tk ρ fun y _=>td ρ fun x _=>∃ o,zK x y o/\Q (.bl (if neg=true then !o.isSome else o.isSome)) .fr
theorem ao2 {α β:Type}{o:Option α}{o':Option β}{P:β->α->Prop} (h1:o=none->o'=none) (h2:∀ z,o=some z->∃ u,o'=some u/\P u z):o'.isSome=o.isSome:=by
 cases o with
 | none=>rw [h1 rfl]; rfl
 | some z=>obtain ⟨u,e,_⟩:=h2 z rfl; rw [e]; rfl
theorem ao3 (h:LE X (l9 true tk td) σ H Q'):xW (LE X tk) (LE X td) σ H Q':=by
 obtain ⟨W,ρ,Q,px,q,k⟩:=h
 refine⟨W,ρ,_,px,q,fun w H1 y g s r q=>⟨W,ρ,_,px.mono s,q,?_⟩⟩
 rintro v H2 x g' s2 r2 ⟨o,ak,q⟩
 obtain ⟨a,o',rfl,dg,h1,h2⟩:=ao1 ak r2 (r.same s2 fun _ z=>z)
 refine⟨a,o',rfl,dg,?_⟩
 rw [ao2 h1 h2]
 exact k _ _ _ .fr (s.trans s2) (.bl _) q
theorem PX.updT {K:PySem.W.Frag}{H0:Hp}{W:Addr->Prop}{σ:St}{ρ:bD}{H:Hp}{i:Nat}{a:Addr}{x:PV}{kvs:List (List aJ × V)}{ps:List (List aJ × PV)} (p:PX K H0 W σ ρ H) (hi:ρ[i]? = some (some (.own x))) (ha:σ[i]? = some (some (.ref a))) (wa:W a)
  (r:kvs.map (·.1)=ps.map (·.1)/\Reps K (Ms H0 W true) (upd H a (.dT kvs)) (kvs.map (·.2)) (ps.map (·.2))):PX K H0 W σ (ρ.set i (some (.own (.dT ps)))) (upd H a (.dT kvs)):=p.updOwn hi ha wa rfl (y:=.dT ps) ⟨kvs,c9,r⟩
theorem ao4 {κ α β:Type}{l:List (κ × α)}{m:List (κ × β)} (e:l.map (·.1)=m.map (·.1)):l.length=m.length:=by
 have:=congrArg List.length e
 rw [aO2,aO2] at this
 exact this
def jX (i:Nat) (tk te:aF):aP:=fun D ρ=>te ρ fun z g=>∃ ps,ρ[i]? = some (some (.own (.dT ps)))/\tk ρ fun y _=>∃ k,y = .tup (k.map kP)/\Nw g z/\ps.length < 16000000/\D.nx (ρ.set i (some (.own (.dT (jB ps k z)))))
theorem ao5 {i:Nat} (h:LS X (jX i tk te) D σ H):xX (jK i) (LE X tk) (LE X te) D σ H:=by
 obtain ⟨W,ρ,D',px,q,k⟩:=h
 refine⟨W,ρ,_,px,q,?_⟩
 rintro w H1 z g s rz ⟨ps,hi,q⟩
 obtain ⟨v,ev,a,rfl,wa,kvs,ea,e1,r⟩:=(px.mono s).sl i _ hi
 refine⟨_,ev,W,ρ,_,px.mono s,q,?_⟩
 rintro kv H2 y g' s2 ry ⟨kk,rfl,nw,hl,q⟩
 obtain ⟨b,us,rfl,hb,rb⟩:=ry.sqT
 obtain rfl:=pD rb
 have ea2:=s2 _ _ ea
 refine⟨a,_,rfl,mJ.t ea2 hb (t7 (by rw [ao4 e1]; omega)),?_⟩
 refine k.nx W σ _ _ ((Ev.same (s.trans s2)).trans (Ev.upd wa)) ((px.mono (s.trans s2)).updT hi ev wa ?_) q
 obtain ⟨h1,h2⟩:=ao0 kk ((Nw.rep px nw rz).same s2 fun _ z=>z) e1 (r.same s2 fun _ z=>z)
 exact⟨h1,h2.keep (.upd ea2 rfl fun b m=>⟨mO wa m,m⟩)⟩
theorem ao6 (h:LE X (qC (.dT [])) σ H Q'):xY σ H Q':=by
 obtain ⟨W,ρ,Q,px,q,k⟩:=h
 exact fun p hp=>k _ _ _ .fr (bY hp _) (.dT hp c9 rfl .nil) q
end
def bG:Nat->PV->PV->Bool
 | _,.non,.non=>true
 | _,.bl a,.bl b=>a == b
 | _,.int a,.int b=>a == b
 | _,.str a,.str b=>a == b
 | n+1,.tup xs,.tup ys=>(xs.zip ys).all (fun p=>bG n p.1 p.2) && xs.length == ys.length
 | n+1,.lst xs,.lst ys=>(xs.zip ys).all (fun p=>bG n p.1 p.2) && xs.length == ys.length
 | n+1,.kt xs,.kt ys=>(xs.zip ys).all (fun p=>bG n p.1 p.2) && xs.length == ys.length
 | _,_,_=>false
def cC:Nat->PV->PV->Bool
 | _,.non,.non=>true
 | _,.bl _,.bl _=>true
 | _,.int _,.int _=>true
 | _,.str _,.str _=>true
 | _,.non,.int _=>true
 | _,.int _,.non=>true
 | n+1,.tup xs,.tup ys=>(xs.zip ys).all (fun p=>cC n p.1 p.2)
 | n+1,.lst xs,.lst ys=>(xs.zip ys).all (fun p=>cC n p.1 p.2)
 | n+1,.kt xs,.kt ys=>(xs.zip ys).all (fun p=>cC n p.1 p.2)
 | _+1,.non,.tup _=>true
 | _+1,.tup _,.non=>true
 | _,_,_=>false
theorem ao7 (n:Nat) (a b:Int):bG n (.int a) (.int b)=(a == b):=by cases n <;> rfl
theorem zL (n:Nat):∀ (a b:List Int),((((intz a).zip (intz b)).all fun p=>bG n p.1 p.2) && (intz a).length == (intz b).length)=decide (a=b)
 | [],[]=>rfl
 | [],_ :: _=>by simp
 | _ :: _,[]=>by simp
 | x :: a,y :: b=>by
  have ih:=zL n a b
  simp only [aT4,aU1,ba7,aR9,ao7] at ih ⊢
  by_cases e:x=y
  ·subst e
   have:((intz a).length+1 == (intz b).length+1)=((intz a).length == (intz b).length):=by simp
   rw [this,aU7,Bool.true_and,ih]
   simp
  ·have:(x == y)=false:=beq_eq_false_iff_ne.mpr e
   rw [this,bb0,bb0]
   simp [e]
theorem mQ (n:Nat) (a b:List Int):bG (n+1) (.tup (intz a)) (.tup (intz b))=decide (a=b):=zL n a b
theorem zM (n:Nat):∀ (a b:List Int),(((intz a).zip (intz b)).all fun p=>cC n p.1 p.2)=true
 | [],_=>by simp
 | _ :: _,[]=>by simp
 | x :: a,y :: b=>by
  simp only [aT4,aU1,ba7,zM n a b,Bool.and_true]
  cases n <;> rfl
theorem mR (n:Nat) (a b:List Int):cC (n+1) (.tup (intz a)) (.tup (intz b))=true:=zM n a b
def zN:PV->Option String
 | .non=>some "NoneType"
 | .bl _=>some "bool"
 | .int _=>some "int"
 | .str _=>some "str"
 | .tup _=>some "tuple"
 | .kt _=>some "tuple"
 | .lst _=>some "list"
 | _=>none
def fY (K:PySem.W.Frag) (n:String) (te:aF):aF:=fun ρ Q=>te ρ fun x _=>∃ T b,zN x=some T/\PySem.W.kitOne K (.type T) (.type n)=some b/\Q (.bl b) .fr
def jY (n:Nat) (neg:Bool):PV->Tg->PV->Tg->PK->Prop:=fun x _ y _ Q=>((∃ xs ys,x = .tup xs/\y = .tup ys) ∨ (∃ xs ys,x = .lst xs/\y = .lst ys))/\cC (n+1) x y=true/\Q (.bl (if neg=true then !bG (n+1) x y else bG (n+1) x y)) .fr
abbrev lA:=bD->(Option Int->Prop)->Prop
def gL (xs:List PV) (lo hi:Option Int):List PV:=(xs.drop (HT.aS xs.length 0 lo)).take (HT.aS xs.length xs.length hi - HT.aS xs.length 0 lo)
def ao8:PV->List PV->PV
 | .tup _,ys=>.tup ys
 | .kt _,ys=>.tup ys
 | _,ys=>.lst ys
def mS:lA:=fun _ Q=>Q none
def mT (te:aF):lA:=fun ρ Q=>te ρ fun x _=>∃ i,x = .int i/\Q (some i)
def mU (te:aF) (tl th:lA):aF:=fun ρ Q=>te ρ fun x _=>tl ρ fun lo=>th ρ fun hi=>∃ xs,p9 x=some xs/\flats xs=true/\Q (ao8 x (gL xs lo hi)) .fr
def dS (N:List Str) (xs:List PV):bD:=xs.map (fun x=>some (.sh (flat x) x)) ++ List.replicate (N.length - xs.length) none
abbrev gM (ta tb:aF):aF:=q2 (dQ fun i j=>.int (i+j)) ta tb
abbrev hG (ta tb:aF):aF:=q2 (dQ fun i j=>.int (i - j)) ta tb
abbrev mV (ta tb:aF):aF:=q2 (RI mG fun i j=>.int (i * j)) ta tb
abbrev fJ (ta tb:aF):aF:=q2 (RI sA fun i j=>.int (i / j)) ta tb
abbrev cP (ta tb:aF):aF:=q2 (RI (fun _ j=>0 < j) fun i j=>.int (i % j)) ta tb
abbrev iM (ta tb:aF):aF:=q2 (dQ fun i j=>.bl (decide (i < j))) ta tb
abbrev qLe (ta tb:aF):aF:=q2 (dQ fun i j=>.bl (decide (i<=j))) ta tb
abbrev mW (ta tb:aF):aF:=q2 (dQ fun i j=>.bl (decide (j < i))) ta tb
abbrev zO (ta tb:aF):aF:=q2 (dQ fun i j=>.bl (decide (j<=i))) ta tb
abbrev pE (ta tb:aF):aF:=q2 (kX false) ta tb
abbrev tT (ta tb:aF):aF:=q2 (kX true) ta tb
abbrev ao9 (ta tb:aF):aF:=q2 (l0 false) ta tb
abbrev zP (ta tb:aF):aF:=q2 (l0 true) ta tb
abbrev aW (ta tb:aF):aF:=q2 tP ta tb
def pF:List PV->(PV->Prop)->Prop:=fun xs Q=>z9 xs Q/\∀ ns,xs ≠ [.scr ns]
def QE (X:Cx) (e:Expr) (t:aF):Prop:=PE X e (LE X t)
def QT (X:Cx) (e:Expr) (t:cH):Prop:=PT X e (LT X t)
def QW (X:Cx) (e:Expr) (t:cH):Prop:=PW X e (LT X t)
def QA (X:Cx) (es:List Expr) (t:cJ):Prop:=PA X es (LA X t)
def QS (X:Cx) (st:Stmt) (t:aP):Prop:=PS X st (LS X t)
def eI (X:Cx) (st:List Stmt) (t:aP):Prop:=dE X st (LS X t)
def QI (X:Cx) (tg iter:Expr) (t:eG):Prop:=PI X tg iter (LI X t)
section
variable {X : Cx}
theorem cK {e:Expr}{t t':TE} (h:PE X e t) (m:∀ σ H Q,t' σ H Q->t σ H Q):PE X e t':=fun pins s σ H Q I q=>h pins s σ H Q I (m σ H Q q)
theorem pG {e:Expr}{t t':TT} (h:PT X e t) (m:∀ σ H Q,t' σ H Q->t σ H Q):PT X e t':=fun pins s σ H Q I q=>h pins s σ H Q I (m σ H Q q)
theorem zQ {e:Expr}{t t':TT} (h:PW X e t) (m:∀ σ H Q,t' σ H Q->t σ H Q):PW X e t':=fun wh pins s σ H Q I q=>h wh pins s σ H Q I (m σ H Q q)
theorem zR {e:List Expr}{t t':TA} (h:PA X e t) (m:∀ σ H Q,t' σ H Q->t σ H Q):PA X e t':=fun pos pins s σ H Q I q=>h pos pins s σ H Q I (m σ H Q q)
theorem eJ {e:Stmt}{t t':TS} (h:PS X e t) (m:∀ D σ H,t' D σ H->t D σ H):PS X e t':=fun pins s σ H D I q=>h pins s σ H D I (m D σ H q)
theorem zS {e:List Stmt}{t t':TS} (h:dE X e t) (m:∀ D σ H,t' D σ H->t D σ H):dE X e t':=fun pins s σ H D I q=>h pins s σ H D I (m D σ H q)
theorem pH {tg e:Expr}{t t':TI} (h:PI X tg e t) (m:∀ σ H R,t' σ H R->t σ H R):PI X tg e t':=fun pins s σ H R I q=>h pins s σ H R I (m σ H R q)
variable {a b c e o : Expr} {es cB : List Expr} {ta tb te to tk : aF} {tr : cJ} {tA tB' tc : cH} {pos p2 px : Pos} {st : Stmt} {sts : List Stmt} {t u : aP}
theorem qv (i:Nat) {x:Str}{pos:Pos} (hN:X.N[i]? = some x:=by rfl) (hv:iA X.env.scope x:=by first | exact Or.inl rfl | exact Or.inr (Or.inl rfl) | exact Or.inr (Or.inr rfl)) (hd:(x == ("__debug__" : Str))=false:=by decide)
  (hcd:(x == ("__classdict__" : Str))=false:=by decide):QE X (.Name x pos) (a5 i):=cK (kN hN hv hd hcd) fun _ _ _=>ak0
theorem aB {i j}:QE X (.Constant (.int i) j pos) (qC (.int i)):=cK X0 fun _ _ _=>mL fun _=>.int i
theorem fL {i j}:QE X (.Constant (.bool i) j pos) (qC (.bl i)):=cK X1 fun _ _ _=>mL fun _=>.bl i
theorem jC {j}:QE X (.Constant .none j pos) (qC .non):=cK X2 fun _ _ _=>mL fun _=>.non
theorem pI {i j}:QE X (.Constant (.str i) j pos) (qC (.str i)):=cK X3 fun _ _ _=>mL fun _=>.str i
theorem mX {op:Operator}{R:PV->Tg->PV->Tg->PK->Prop}{r:R2} (ho:c7 X (binaryOp op) r) (cv:dP X R r) (ha:QE X a ta) (hb:QE X b tb):QE X (.BinOp a op b pos) (q2 R ta tb):=cK (aa0 ho ha hb) fun _ _ _=>oY cv
theorem gN (ha:QE X a ta) (hb:QE X b tb):QE X (.BinOp a .Add b pos) (q2 (dQ fun i j=>.int (i+j)) ta tb):=mX aa1 yS ha hb
theorem iN (ha:QE X a ta) (hb:QE X b tb):QE X (.BinOp a .Sub b pos) (q2 (dQ fun i j=>.int (i - j)) ta tb):=mX aa2 yS ha hb
theorem mY (ha:QE X a ta) (hb:QE X b tb):QE X (.BinOp a .Mult b pos) (q2 (RI mG fun i j=>.int (i * j)) ta tb):=mX aa3 tH ha hb
theorem fZ (ha:QE X a ta) (hb:QE X b tb):QE X (.BinOp a .FloorDiv b pos) (q2 (RI sA fun i j=>.int (i / j)) ta tb):=mX aa4 tH ha hb
theorem cU (ha:QE X a ta) (hb:QE X b tb):QE X (.BinOp a .Mod b pos) (q2 (RI (fun _ j=>0 < j) fun i j=>.int (i % j)) ta tb):=mX aa5 tH ha hb
theorem lB {op:CmpOp}{R:PV->Tg->PV->Tg->PK->Prop}{r:R2} (ho:c7 X (compareOp op) r) (cv:dP X R r) (ha:QE X a ta) (hb:QE X b tb) (hm:behindInMarks op b=false):QE X (.Compare a [op] [b] pos) (q2 R ta tb):=cK (ab3 ho ha hb hm) fun _ _ _=>oY cv
theorem iO {op:CmpOp}{R:PV->Tg->PV->Tg->PK->Prop}{r:R2} (ho:c7 X (compareOp op) r) (cv:dP X R r) (ha:QE X a ta) (hb:QE X b tb) (hm:behindInMarks op b=false):QT X (.Compare a [op] [b] pos) (aX (q2 R ta tb)):=pG (ab5 ho ha hb hm) fun _ _ _ h=>oY cv (tI h)
theorem tU (ha:QE X a ta) (hb:QE X b tb):QE X (.Compare a [.Lt] [b] pos) (q2 (dQ fun i j=>.bl (decide (i < j))) ta tb):=lB sB kW ha hb (eR _)
theorem ap0 (ha:QE X a ta) (hb:QE X b tb):QE X (.Compare a [.LtE] [b] pos) (q2 (dQ fun i j=>.bl (decide (i<=j))) ta tb):=lB aa8 kW ha hb (eR _)
theorem zT (ha:QE X a ta) (hb:QE X b tb):QE X (.Compare a [.GtE] [b] pos) (q2 (dQ fun i j=>.bl (decide (j<=i))) ta tb):=lB ab0 kW ha hb (eR _)
theorem mZ (ha:QE X a ta) (hb:QE X b tb):QT X (.Compare a [.Lt] [b] pos) (aX (q2 (dQ fun i j=>.bl (decide (i < j))) ta tb)):=iO sB kW ha hb (eR _)
theorem pJ (ha:QE X a ta) (hb:QE X b tb):QT X (.Compare a [.Gt] [b] pos) (aX (q2 (dQ fun i j=>.bl (decide (j < i))) ta tb)):=iO aa9 kW ha hb (eR _)
theorem pK (ha:QE X a ta) (hb:QE X b tb):QT X (.Compare a [.Eq] [b] pos) (aX (q2 (kX false) ta tb)):=iO aa6 ak1 ha hb (eR _)
theorem tV (ha:QE X a ta) (hb:QE X b tb):QT X (.Compare a [.NotEq] [b] pos) (aX (q2 (kX true) ta tb)):=iO aa7 ak2 ha hb (eR _)
theorem ap1 (ha:QE X a ta) (hb:QE X b tb):QT X (.Compare a [.Is] [b] pos) (aX (q2 (l0 false) ta tb)):=iO ab1 an1 ha hb (eR _)
theorem zU (ha:QE X a ta) (hb:QE X b tb):QT X (.Compare a [.IsNot] [b] pos) (aX (q2 (l0 true) ta tb)):=iO ab2 an2 ha hb (eR _)
theorem pL (hu:X.A.units+1 < cLine) (hk:QE X a tk) (hd:QE X b te) (hm:behindInMarks .NotIn b=false:=by rfl):QT X (.Compare a [.NotIn] [b] pos) (aX (l9 true tk te)):=pG (X6 (ag3 hu hk hd) hm) fun _ _ _ h=>ao3 (tI h)
theorem eL (h:QE X e te) (he:∀ whole,isTrue e X.env whole=(do let v <- whole; standAt e.pos; holding [v] (truthy v)):=by intro _; rfl):QT X e (aX te):=pG (X7 h he) fun _ _ _ h=>tI h
theorem zV (ha:QT X a tA):QW X (.BoolOp .And [a] pos) tA:=X8 ha
theorem hJ (ha:QT X a tA):QW X (.BoolOp .Or [a] pos) tA:=X9 ha
theorem zW (ha:QT X a tA) (hb:QW X (.BoolOp .And (b :: cB) pos) tB'):QW X (.BoolOp .And (a :: b :: cB) pos) (mM tA tB'):=zQ (Y0 ha hb) fun _ _ _=>ak3
theorem fM (ha:QT X a tA) (hb:QW X (.BoolOp .Or (b :: cB) pos) tB'):QW X (.BoolOp .Or (a :: b :: cB) pos) (eD tA tB'):=zQ (Y1 ha hb) fun _ _ _=>ak4
theorem g9 (h:QW X e tA):QT X e tA:=PW.pt h
theorem fN (ha:QT X a tA):QT X (.UnaryOp .Not a pos) (eF tA):=pG (Y2 ha) fun _ _ _=>ak5
theorem tW {op} (h:QE X a ta):QE X (.BoolOp op [a] pos) ta:=Y3 h
theorem nA (ha:QE X a ta) (hb:QE X (.BoolOp .And (b :: cB) pos) tb):QE X (.BoolOp .And (a :: b :: cB) pos) (jT ta tb):=cK (Y4 ha hb) fun _ _ _=>ak6
theorem ap2 (ha:QE X a ta):QE X (.UnaryOp .Not a pos) (tJ ta):=cK (Y5 ha) fun _ _ _=>ak7
theorem aA:QA X [] a9:=zR jO fun _ _ _=>ak8
theorem a7 (ha:QE X e te) (hr:QA X es tr) (hs:starEach (e :: es) X.env=(false,eval e X.env) :: starEach es X.env:=by rfl):QA X (e :: es) (a6 te tr):=zR (iC ha hr hs) fun _ _ _=>ak9
theorem gO {x1} (h:QA X es tr):QE X (.Tuple es x1 pos) (eY tr):=cK (ac1 h) fun _ _ _=>al0
theorem iP (h:QA X es tr):QE X (.List es pos) (gX tr):=cK (ac2 h) fun _ _ _=>al1
theorem aT (ha:QE X a ta) (hb:QE X b tb) (hs:xF b:=by exact fun _ _=>rfl):QE X (.Subscript a b pos) (q2 tP ta tb):=cK (ae2 ae6 ha hb hs) fun _ _ _=>oY am3
theorem zX:QE X (.Dict [] [] pos) (qC (.dT [])):=cK ag6 fun _ _ _=>ao6
theorem hU {x:Str}{id:String}{R:List PV->(PV->Prop)->Prop}{r:List V->Hp->VK->Prop} (hc:cG X (.builtin id) r) (cv:dR X R r) (hg:Gl X x) (hm:X.mg x=none) (hv:bootBuiltins x=some (.builtin id)) (ha:QA X (e :: es) tr) (hn:x ≠ "__name__":=by decide) (hdb:(x == ("__debug__" : Str))=false:=by decide)
  (he:starEach (e :: es) X.env=(false,eval e X.env) :: starEach es X.env:=by rfl) (hpl:(backTo pos (starEach es X.env)).any (·.1)=false:=by rfl):QE X (.Call (.Name x p2) (e :: es) [] pos) (aC R tr):=cK (x5 hc hg hm hv ha hn hdb he hpl) fun _ _ _=>yW cv
theorem tX {x:Str}{T:String}{R:List PV->(PV->Prop)->Prop}{r:List V->Hp->VK->Prop} (hc:cG X (.type T) r) (cv:dR X R r) (hg:Gl X x) (hm:X.mg x=none) (hv:bootBuiltins x=some (.type T)) (ha:QA X (e :: es) tr) (hn:x ≠ "__name__":=by decide) (hdb:(x == ("__debug__" : Str))=false:=by decide)
  (he:starEach (e :: es) X.env=(false,eval e X.env) :: starEach es X.env:=by rfl) (hpl:(backTo pos (starEach es X.env)).any (·.1)=false:=by rfl):QE X (.Call (.Name x p2) (e :: es) [] pos) (aC R tr):=cK (ac5 hc hg hm hv ha hn hdb he hpl) fun _ _ _=>yW cv
theorem cD:eI X [] bZ:=zS Y7 fun _ _ _=>al2
theorem aI (h1:QS X st t) (h2:eI X sts u):eI X (st :: sts) (aG t u):=zS (Y8 h1 h2) fun _ _ _=>al3
theorem aO (h1:QS X st t):eI X [st] t:=Y9 h1
theorem bL {i:Nat}{x:Str} (hN:X.N.Nodup) (he:QE X e te) (hi:X.N[i]? = some x:=by rfl) (hx:gD X.env.scope x:=by first | exact Or.inl rfl | exact Or.inr rfl) (hs:swapsWith e (some (.Name x p2)) pos.line X.env=pure false:=by rfl) (hf:X.fn x=true ∨ X.env.scope.names.lookup x=some .local:=by first | exact .inl rfl | exact .inr rfl) :
  QS X (.Assign [.Name x p2] e pos) (bF i te):=eJ (wH hN hi hx he hs hf) fun _ _ _=>al4
theorem gA {i:Nat}{x:Str} (hN:X.N.Nodup) (he:QE X e te) (hi:X.N[i]? = some x:=by rfl) (hx:gD X.env.scope x:=by first | exact Or.inl rfl | exact Or.inr rfl) (hs:swapsWith e (some (.Name x p2)) pos.line X.env=pure false:=by rfl) (hf:X.fn x=true ∨ X.env.scope.names.lookup x=some .local:=by first | exact .inl rfl | exact .inr rfl) :
  QS X (.Assign [.Name x p2] e pos) (fH i te):=eJ (wH hN hi hx he hs hf) fun _ _ _=>al6
theorem ap3 (he:QE X e te) (hs:swapsWith e none pos.line X.env=pure false:=by rfl):QS X (.Expr e pos) (tO te):=eJ (m9 he hs) fun _ _ _=>al7
theorem bO (he:QE X e te):QS X (.Return (some e) pos) (bJ te):=eJ (wF he) fun _ _ _=>al8
theorem jD (i:Nat) {x:Str} (hN:X.N[i]? = some x:=by rfl) (hv:iA X.env.scope x:=by first | exact Or.inl rfl | exact Or.inr (Or.inl rfl) | exact Or.inr (Or.inr rfl)) (hd:(x == ("__debug__" : Str))=false:=by decide) (hcd:(x == ("__classdict__" : Str))=false:=by decide) :
  QS X (.Return (some (.Name x p2)) pos) (iJ i):=eJ (wF (kN hN hv hd hcd)) fun _ _ _=>al9
theorem cA {sa sb:List Stmt} (hc:QT X c tc) (ha:eI X sa t) (hb:eI X sb u):QS X (.If c sa sb pos) (bV tc t u):=eJ (Z0 hc ha hb) fun _ _ _=>am0
theorem zY {body:List Stmt} (hp:PassesOwn (model X.prog X.w) X.A X.env X.xe) (hc:QT X c tc) (hb:eI X body t):QS X (.While c body [] pos) (p6 tc t):=eJ (Z2 hp hc hb) fun _ _ _=>am1
theorem jZ (i:Nat) {x:Str}{apos cpos xpos:Pos} (he:QE X e te) (hN:X.N[i]? = some x:=by rfl) (hv:iA X.env.scope x:=by first | exact Or.inl rfl | exact Or.inr (Or.inl rfl) | exact Or.inr (Or.inr rfl)) (hd:(x == ("__debug__" : Str))=false:=by decide) (hcd:(x == ("__classdict__" : Str))=false:=by decide)
  (hbase:attributeBase (.Name x xpos) "append" X.env (eval (.Name x xpos) X.env)=eval (.Name x xpos) X.env:=by rfl)
  (hfew:((backTo cpos (starEach [e] X.env)).all (fun x=>!x.1) && (backToKw cpos (keywordEach [] X.env)).all (fun x=>x.1.isSome) && decide (([e]:List Expr).length+([]:List Keyword).length+(if ([]:List Keyword).isEmpty then 0 else 1) < 30))=true:=by rfl)
  (hline:(apos.endLine == cpos.line)=true:=by rfl) (hs:starEach [e] X.env=(false,eval e X.env) :: starEach [] X.env:=by rfl) (hplain:(backTo cpos (starEach [] X.env)).any (·.1)=false:=by rfl)
  (hsw:swapsWith (.Call (.Attribute (.Name x xpos) "append" apos) [e] [] cpos) none pos.line X.env=pure false:=by rfl) :
  QS X (.Expr (.Call (.Attribute (.Name x xpos) "append" apos) [e] [] cpos) pos) (iK i te):=
 eJ (m9 (xN PySem.F.plainAttrs_list PySem.F.slot_list_append PySem.F.type_list_append xP (kN hN hv hd hcd) (iC he jO hs) hbase hfew hline hs hplain) hsw) fun _ _ _=>am2
theorem nB {i:Nat}{x:Str}{xpos tpos:Pos} (hu:X.A.units+1 < cLine) (hk:QE X a tk) (he:QE X e te) (hN:X.N[i]? = some x:=by rfl) (hv:iA X.env.scope x:=by first | exact Or.inl rfl | exact Or.inr (Or.inl rfl) | exact Or.inr (Or.inr rfl)) (hd:(x == ("__debug__" : Str))=false:=by decide) (hcd:(x == ("__classdict__" : Str))=false:=by decide)
  (hs:swapsWith e (some (.Subscript (.Name x xpos) a tpos)) pos.line X.env=pure false:=by rfl):QS X (.Assign [.Subscript (.Name x xpos) a tpos] e pos) (jX i tk te):=eJ (ag4 hu (kN hN hv hd hcd) hk he hs) fun _ _ _=>ao5
theorem ap4 {tg l:Expr}{tl:TE} (hl:PE X l tl):PI X tg l (zB X.K tl):=by
 intro pins s σ H R I h
 refine aQ (hl pins s σ H _ I h) fun v s1 ⟨x,H1,I1,r1,q1⟩=>?_
 obtain ⟨a,e,q⟩:=q1
 subst e
 cases r1
 rcases q with ⟨xs,hq,q⟩ | ⟨xs,hq,q⟩
 ·obtain ⟨its,rv,p,hz⟩:=I1.list hq
  refine wpAny_pyIter_list p.isList ?_
  refine⟨s1.heap.objs.size,[s1.heap.objs.size],_,_,H1,rfl,I1.kept (t':=s1.toks) fun b o e=>aN5 _ e,Z3 a _,⟨_,aP1 _ rfl,rfl,rfl⟩,fun b hb=>?_,q⟩
  have e:b=s1.heap.objs.size:=by simpa using hb
  subst e
  exact I1.fpOk (aO6 _) (I1.hok.fresh (aO6 _))
 ·obtain ⟨its,rv,p,hz⟩:=I1.tuple hq
  refine aZ5 (show s1.heap.IsTuple a its.toArray from p) ?_
  refine⟨s1.heap.objs.size,[s1.heap.objs.size],_,_,H1,rfl,I1.kept (t':=s1.toks) fun b o e=>aN5 _ e,Z4 a _,⟨_,aP1 _ rfl,rfl,rfl⟩,fun b hb=>?_,q⟩
  have e:b=s1.heap.objs.size:=by simpa using hb
  subst e
  exact I1.fpOk (aO6 _) (I1.hok.fresh (aO6 _))
theorem gP {tg l:Expr} (hl:QE X l te):QI X tg l (fX te):=pH (ap4 hl) fun _ _ _=>an3
theorem nC {tg:Expr} (hg:Gl X "range") (hm:X.mg "range" = none) (ha:QE X a ta) (hs:starEach [a] X.env = [(false,eval a X.env)]:=by rfl):QI X tg (.Call (.Name "range" p2) [a] [] pos) (l5 ta):=pH (Z7 hg hm (iC ha jO hs) hs) fun _ _ _=>an5
theorem zZ {tg:Expr}{body:List Stmt}{ti:eG}{p:gZ}{g:TG}{own:Nat->Prop} (hp:PassesOwn (model X.prog X.w) X.A X.env X.xe) (hc:X.calm=true) (hi:QI X tg e ti) (hg:PG X tg g) (ht:l6 X.K own p g) (hb:eI X body t)
  (hs:∀ x,foldedSetIterable e X.env x=pure x:=by intro _; rfl):QS X (.For tg e body [] pos) (dH ti p t):=eJ (Z9 hp hc hi hg hb hs) fun _ _ _=>an6 ht
end
section
variable {X : Cx} {pins : List (Addr × Obj)} {σ : St} {H : Hp} {s : Shared} {K : PySem.W.Frag} {M M' : Addr → Prop}
theorem kU.inj {a:Addr}{us ws:List V} (h:kU K a us) (h':kU K a ws):us=ws:=by
 obtain ⟨o,its,n,e1,_,e2,_,v⟩:=h
 obtain ⟨o',its',n',e1',_,e2',_,v'⟩:=h'
 rw [e1] at e1'; cases e1'
 rw [e2] at e2'; cases e2'
 exact v.inj v'
theorem Reps.self_of {n:Nat} (ih:∀ {v:V}{x y:PV},aD K M H v x->aD K M' H v y->cC n x y=true->bG n x y=true):∀ {vs:List V}{xs ys:List PV},Reps K M H vs xs->Reps K M' H vs ys->((xs.zip ys).all fun p=>cC n p.1 p.2)=true->(((xs.zip ys).all fun p=>bG n p.1 p.2) && xs.length == ys.length)=true
 | _,_,_,.nil,.nil,_=>rfl
 | _,_,_,.cons r t,.cons r' t',o=>by
  simp only [aU1,ba7,aW9] at o
  have h1:=ih r r' o.1
  have h2:=Reps.self_of ih t t' o.2
  simp only [aU1,ba7,h1,Bool.true_and,aR9] at h2 ⊢
  rw [<- h2]
  congr 1
  simp
theorem aD.self:∀ (n:Nat) {v:V}{x y:PV},aD K M H v x->aD K M' H v y->cC n x y=true->bG n x y=true:=by
 intro n
 induction n with
 | zero=>
  intro v x y r r' o
  cases r with
  | non=>cases r'; rfl
  | bl b=>cases r'; exact aU7 b
  | int i=>cases r'; exact aU7 i
  | str z=>cases r'; exact aU7 z
  | _=>cases o
 | succ n ih=>
  intro v x y r r' o
  cases r with
  | non=>cases r'; rfl
  | bl b=>cases r'; exact aU7 b
  | int i=>cases r'; exact aU7 i
  | str z=>cases r'; exact aU7 z
  | tup h rr=>
   cases r' with
   | tup h' rr'=>rw [h] at h'; cases h'; exact Reps.self_of ih rr rr' o
   | _=>cases o
  | lst _ h rr=>
   cases r' with
   | lst _ h' rr'=>rw [h] at h'; cases h'; exact Reps.self_of ih rr rr' o
   | _=>cases o
  | kt h rr=>
   cases r' with
   | kt h' rr'=>cases kU.inj h h'; exact Reps.self_of ih rr rr' o
   | _=>cases o
  | _=>cases o
theorem Reps.self (n:Nat) {vs:List V}{xs ys:List PV} (r:Reps K M H vs xs) (r':Reps K M' H vs ys) (o:((xs.zip ys).all fun p=>cC n p.1 p.2)=true):(((xs.zip ys).all fun p=>bG n p.1 p.2) && xs.length == ys.length)=true:=Reps.self_of (aD.self n) r r' o
theorem iQ (n:Nat) (xs ys:List PV):(List.range (min xs.length ys.length)).all (fun j=>bG n (xs.getD j .non) (ys.getD j .non))=(xs.zip ys).all fun p=>bG n p.1 p.2:=by
 rw [aW5]
 simp only [aY2,List.mem_range]
 constructor
 ·intro h p hp
  obtain ⟨j,hj,e⟩:=aU4 hp
  have hj':j < min xs.length ys.length:=by simpa using hj
  have:=h j hj'
  rw [List.getElem_zip] at e
  subst e
  have h1:j < xs.length:=by omega
  have h2:j < ys.length:=by omega
  simpa [aP6,h1,h2] using this
 ·intro h j hj
  have h1:j < xs.length:=by omega
  have h2:j < ys.length:=by omega
  have hz:j < (xs.zip ys).length:=by simp; omega
  have:=h _ (aV6 hz)
  rw [List.getElem_zip] at this
  simpa [aP6,h1,h2] using this
theorem A0 (I:a8 X pins σ H s):∀ (n:Nat) {A:Around}{v w:V}{x y:PV}{a b:Value},A.units+n < cLine->aD X.K M H v x->aD X.K M' H w y->aR v a->aR w b->cC n x y=true->SeqAt.EqAt A s a b (bG n x y):=by
 intro n
 induction n with
 | zero=>
  intro A v w x y a b hu rx ry ra rb o
  cases rx with
  | non=>
   cases ra
   cases ry with
   | non=>cases rb; exact SeqAt.EqAt.same _
   | int i=>obtain ⟨t',rfl⟩:=rb; exact SeqAt.EqAt.none_int _ _
   | _=>cases o
  | bl i=>
   cases ra
   cases ry with
   | bl j=>cases rb; exact SeqAt.EqAt.bool_bool _ _
   | _=>cases o
  | int i=>
   obtain ⟨t,rfl⟩:=ra
   cases ry with
   | int j=>obtain ⟨t',rfl⟩:=rb; exact SeqAt.EqAt.int_int _ _ _ _
   | non=>cases rb; exact SeqAt.EqAt.int_none _ _
   | _=>cases o
  | str i=>
   obtain ⟨t,rfl⟩:=ra
   cases ry with
   | str j=>obtain ⟨t',rfl⟩:=rb; exact SeqAt.EqAt.str_str _ _ _ _
   | _=>cases o
  | _=>cases o
 | succ n ih=>
  intro A v w x y a b hu rx ry ra rb o
  have items:∀ {us ws:List V}{xs ys:List PV}{its its2:List Value},Reps X.K M H us xs->Reps X.K M' H ws ys->aK us its->aK ws its2->((xs.zip ys).all fun p=>cC n p.1 p.2)=true->
    ∀ j (h1:j < its.toArray.size) (h2:j < its2.toArray.size),SeqAt.EqAt A.in1 s its.toArray[j] its2.toArray[j] (bG n (xs.getD j .non) (ys.getD j .non)):=fun {us ws xs ys its its2} r1 r2 v1 v2 ok j h1 h2=>by
   have l1:=v1.length
   have l2:=v2.length
   have m1:=r1.length
   have m2:=r2.length
   have k1:j < its.length:=by simpa using h1
   have k2:j < its2.length:=by simpa using h2
   have j1:j < us.length:=by omega
   have j2:j < ws.length:=by omega
   have i1:j < xs.length:=by omega
   have i2:j < ys.length:=by omega
   obtain ⟨u,hu',ru⟩:=v1.get (aN6 j1)
   obtain ⟨u2,hu2',ru2⟩:=v2.get (aN6 j2)
   obtain ⟨x,hx,rx⟩:=r1.get (aN6 j1)
   obtain ⟨y,hy,ry⟩:=r2.get (aN6 j2)
   have e1:its.toArray[j]=u:=by
    rw [aN6 k1] at hu'
    simpa using hu'
   have e2:its2.toArray[j]=u2:=by
    rw [aN6 k2] at hu2'
    simpa using hu2'
   have ok':cC n x y=true:=by
    rw [aY2] at ok
    have hz:j < (xs.zip ys).length:=by simp; omega
    have:=ok _ (aV6 hz)
    rw [List.getElem_zip] at this
    rw [aN6 i1] at hx
    rw [aN6 i2] at hy
    cases hx; cases hy
    exact this
   rw [e1,e2]
   have g1:xs.getD j .non=x:=by rw [aP6,hx]; rfl
   have g2:ys.getD j .non=y:=by rw [aP6,hy]; rfl
   rw [g1,g2]
   exact ih (by show A.units+1+n < cLine; omega) rx ry ru ru2 ok'
  have huA:A.units < cLine:=by omega
  cases rx with
  | @kt p us xs h1 r1=>
   obtain ⟨its,v1,p1,_⟩:=I.tuple (.inr h1)
   cases (show a=Value.ref p from ra)
   cases ry with
   | @kt p2 ws ys h2 r2=>
    obtain ⟨its2,v2,p2',_⟩:=I.tuple (.inr h2)
    cases (show b=Value.ref p2 from rb)
    by_cases e:p=p2
    ·subst e
     have:=aD.self (K:=X.K) (M:=M) (M':=M') (n+1) (.kt h1 r1) (.kt h2 r2) o
     rw [this]
     exact SeqAt.EqAt.same _
    ·have:=SeqAt.RcAt.tuples p1 p2' huA (items r1 r2 v1 v2 o)
     refine .of_refs e ?_
     have l1:=v1.length
     have l2:=v2.length
     have m1:=r1.length
     have m2:=r2.length
     rw [aN7,aN7,<- l1,<- l2,m1,m2,iQ] at this
     exact this
   | _=>cases o
  | @tup p us xs h1 r1=>
   obtain ⟨its,v1,p1,_⟩:=I.tuple (aL.of (K:=X.K) h1)
   cases (show a=Value.ref p from ra)
   cases ry with
   | @tup p2 ws ys h2 r2=>
    obtain ⟨its2,v2,p2',_⟩:=I.tuple (aL.of (K:=X.K) h2)
    cases (show b=Value.ref p2 from rb)
    by_cases e:p=p2
    ·subst e
     have:=aD.self (K:=X.K) (M:=M) (M':=M') (n+1) (.tup h1 r1) (.tup h2 r2) o
     rw [this]
     exact SeqAt.EqAt.same _
    ·have:=SeqAt.RcAt.tuples p1 p2' huA (items r1 r2 v1 v2 o)
     refine .of_refs e ?_
     have l1:=v1.length
     have l2:=v2.length
     have m1:=r1.length
     have m2:=r2.length
     rw [aN7,aN7,<- l1,<- l2,m1,m2,iQ] at this
     exact this
   | non=>cases rb; exact SeqAt.EqAt.tuple_none p1 huA
   | _=>cases o
  | @lst p us xs _ h1 r1=>
   obtain ⟨its,v1,p1,_⟩:=I.list (aM.of (K:=X.K) h1)
   cases (show a=Value.ref p from ra)
   cases ry with
   | @lst p2 ws ys _ h2 r2=>
    obtain ⟨its2,v2,p2',_⟩:=I.list (aM.of (K:=X.K) h2)
    cases (show b=Value.ref p2 from rb)
    have l1:=v1.length
    have l2:=v2.length
    have m1:=r1.length
    have m2:=r2.length
    by_cases e:p=p2
    ·subst e
     rw [h1] at h2; cases h2
     have:=Reps.self n r1 r2 o
     show SeqAt.EqAt A s _ _ ((xs.zip ys).all (fun p=>bG n p.1 p.2) && xs.length == ys.length)
     rw [this]
     exact SeqAt.EqAt.same _
    ·refine .of_refs e ?_
     by_cases hl:xs.length=ys.length
     ·have:=SeqAt.RcAt.lists p1.isList p2'.isList (by rw [aN7,aN7]; omega) huA (items r1 r2 v1 v2 o)
      have hm:min xs.length ys.length=its.length:=by omega
      rw [aN7,<- hm,iQ] at this
      show SeqAt.RcAt A s _ _ ((xs.zip ys).all (fun p=>bG n p.1 p.2) && xs.length == ys.length)
      rw [show (xs.length == ys.length)=true by simpa using hl,Bool.and_true]
      exact this
     ·have:=SeqAt.RcAt.lists_lengths (A:=A) p1.isList p2'.isList (by rw [aN7,aN7]; simp; omega) huA
      show SeqAt.RcAt A s _ _ ((xs.zip ys).all (fun p=>bG n p.1 p.2) && xs.length == ys.length)
      rw [show (xs.length == ys.length)=false by simpa using hl,Bool.and_false]
      exact this
   | _=>cases o
  | non=>
   cases ra
   cases ry with
   | non=>cases rb; exact SeqAt.EqAt.same _
   | int i=>obtain ⟨t',rfl⟩:=rb; exact SeqAt.EqAt.none_int _ _
   | @tup p2 ws ys h2 r2=>
    obtain ⟨its2,v2,p2',_⟩:=I.tuple (aL.of (K:=X.K) h2)
    cases (show b=Value.ref p2 from rb)
    exact SeqAt.EqAt.none_tuple p2' huA
   | _=>cases o
  | bl i=>
   cases ra
   cases ry with
   | bl j=>cases rb; exact SeqAt.EqAt.bool_bool _ _
   | _=>cases o
  | int i=>
   obtain ⟨t,rfl⟩:=ra
   cases ry with
   | int j=>obtain ⟨t',rfl⟩:=rb; exact SeqAt.EqAt.int_int _ _ _ _
   | non=>cases rb; exact SeqAt.EqAt.int_none _ _
   | _=>cases o
  | str i=>
   obtain ⟨t,rfl⟩:=ra
   cases ry with
   | str j=>obtain ⟨t',rfl⟩:=rb; exact SeqAt.EqAt.str_str _ _ _ _
   | _=>cases o
  | _=>cases o
end
structure Bt (mg:Str->Option Value):Prop where
 len:mg "len" = none
 range:mg "range" = none
 tuple:mg "tuple" = none
 list:mg "list" = none
 sorted:mg "sorted" = none
 all:mg "all" = none
 any:mg "any" = none
 zip:mg "zip" = none
 min:mg "min" = none
 max:mg "max" = none
 sum:mg "sum" = none
 isinst:mg "isinstance" = none
 int:mg "int" = none
 bool:mg "bool" = none
 enum:mg "enumerate" = none
section
variable {X : Cx} {a b c e o : Expr} {es cB : List Expr} {ta tb te to tk : aF} {tr : cJ} {tA tB' tc : cH} {pos p2 px : Pos} {st : Stmt} {sts : List Stmt} {t u : aP}
theorem eM (B:Bt X.mg) (ha:QA X [e] tr) (hg:Gl X "len":=by rfl) (he:starEach [e] X.env=(false,eval e X.env) :: starEach [] X.env:=by rfl) (hpl:(backTo pos (starEach [] X.env)).any (·.1)=false:=by rfl):QE X (.Call (.Name "len" p2) [e] [] pos) (aC dG tr):=
 hU (af1.or ah5) am4 hg B.len PySem.boot_len ha (he:=he) (hpl:=hpl)
theorem tY (B:Bt X.mg) (ha:QA X [e] tr) (hg:Gl X "tuple":=by rfl) (he:starEach [e] X.env=(false,eval e X.env) :: starEach [] X.env:=by rfl) (hpl:(backTo pos (starEach [] X.env)).any (·.1)=false:=by rfl):QE X (.Call (.Name "tuple" p2) [e] [] pos) (aC pF tr):=
 tX af3 am5 hg B.tuple PyProof.Rows.boot_tuple ha (he:=he) (hpl:=hpl)
theorem pM (B:Bt X.mg) (ha:QA X [e] tr) (hg:Gl X "list":=by rfl) (he:starEach [e] X.env=(false,eval e X.env) :: starEach [] X.env:=by rfl) (hpl:(backTo pos (starEach [] X.env)).any (·.1)=false:=by rfl):QE X (.Call (.Name "list" p2) [e] [] pos) (aC kZ tr):=
 tX af2 am6 hg B.list PyProof.Rows.boot_list ha (he:=he) (hpl:=hpl)
theorem A1 (B:Bt X.mg) (hc:X.calm=true) (ha:QA X [e] tr) (hg:Gl X "all":=by rfl) (he:starEach [e] X.env=(false,eval e X.env) :: starEach [] X.env:=by rfl) (hpl:(backTo pos (starEach [] X.env)).any (·.1)=false:=by rfl):QE X (.Call (.Name "all" p2) [e] [] pos) (aC pA tr):=
 hU (aj4 hc) am7 hg B.all PyProof.Rows.boot_all ha (he:=he) (hpl:=hpl)
theorem nD (B:Bt X.mg) (hc:X.calm=true) (ha:QA X [a,b] tr) (hg:Gl X "min":=by rfl) (he:starEach [a,b] X.env=(false,eval a X.env) :: starEach [b] X.env:=by rfl) (hpl:(backTo pos (starEach [b] X.env)).any (·.1)=false:=by rfl):QE X (.Call (.Name "min" p2) [a,b] [] pos) (aC jU tr):=
 hU (ab7 hc) am8 hg B.min PyProof.Rows.boot_min ha (he:=he) (hpl:=hpl)
theorem lC (B:Bt X.mg) (hc:X.calm=true) (ha:QA X [a,b] tr) (hg:Gl X "max":=by rfl) (he:starEach [a,b] X.env=(false,eval a X.env) :: starEach [b] X.env:=by rfl) (hpl:(backTo pos (starEach [b] X.env)).any (·.1)=false:=by rfl):QE X (.Call (.Name "max" p2) [a,b] [] pos) (aC j8 tr):=
 hU (ab6 hc) am9 hg B.max PyProof.Rows.boot_max ha (he:=he) (hpl:=hpl)
theorem aD.kt_ {K:PySem.W.Frag}{M:Addr->Prop}{H:Hp}{v:V}{xs:List PV} (r:aD K M H v (.kt xs)):∃ a us,v = .ref a/\kU K a us/\Reps K M H us xs:=by
 cases r with
 | kt h r=>exact⟨_,_,rfl,h,r⟩
def A2 (K:PySem.W.Frag) (H:Hp) (x:V) (t:Value):Prop:=eU K H x t ∨ ∃ a us,x = .ref a/\aL K H a us/\t = .type "tuple"
theorem ap5:cG X (.builtin "isinstance") (fun xs H Q=>∃ x t n b,xs = [x,.ty n]/\A2 X.K H x t/\PySem.W.kitOne X.K t (.type n)=some b/\Q (.bl b) H):=by
 intro pins s σ H xs us Q I r h
 obtain ⟨x,t,n,b,rfl,ty,e,q⟩:=h
 rcases ty with ty | ⟨a,ws,rfl,hs,rfl⟩
 ·exact ai6 pins s σ H _ us Q I r ⟨x,t,n,b,rfl,ty,e,q⟩
 obtain ⟨u,u',rfl,ru,ru'⟩:=jM r
 cases ru'
 cases (show u=Value.ref a from ru)
 obtain ⟨its,_,⟨o,h1,h2,_⟩,_⟩:=I.tuple hs
 exact aV3 PySem.W.kitx_tuple I.kIn ⟨o,h1,h2⟩ e (fun z=>nomatch z) fun tk=>⟨.bl b,H,I.tok tk,rfl,q⟩
theorem ap6 {K:PySem.W.Frag}{M:Addr->Prop}{H:Hp}{v:V}{x:PV}{T:String} (r:aD K M H v x) (e:zN x=some T):A2 K H v (.type T):=by
 cases r with
 | non=>cases e; exact .inl .non
 | bl b=>cases e; exact .inl (.bl b)
 | int i=>cases e; exact .inl (.int i)
 | str i=>cases e; exact .inl (.str i)
 | tup h _=>cases e; exact .inl (.tup h)
 | lst _ h _=>cases e; exact .inl (.lst h)
 | kt h _=>cases e; exact .inr ⟨_,_,rfl,.inr h,rfl⟩
 | _=>cases e
theorem pN {x:Str}{n:String} (B:Bt X.mg) (hn:bootBuiltins x=some (.type n)) (hm:X.mg x=none) (ha:QE X a ta) (hg:Gl X "isinstance":=by rfl) (hgx:Gl X x:=by rfl) (hx:x ≠ "__name__":=by decide) (hdx:(x == ("__debug__" : Str))=false:=by decide)
  (he:starEach [a,.Name x px] X.env=(false,eval a X.env) :: starEach [.Name x px] X.env:=by rfl) (he2:starEach [.Name x px] X.env=(false,eval (.Name x px) X.env) :: starEach [] X.env:=by rfl) (hpl:(backTo pos (starEach [.Name x px] X.env)).any (·.1)=false:=by rfl):QE X (.Call (.Name "isinstance" p2) [a,.Name x px] [] pos) (fY X.K n ta):=
 cK (x5 ap5 hg B.isinst PyProof.Rows.boot_isinstance (iC ha (iC (X5 (v:=.ty n) hgx hm hn rfl hx hdx) jO he2) he) (he:=he) (hpl:=hpl)) fun σ H Q' h=>by
  obtain ⟨W,ρ,Q,px,q,k⟩:=h
  refine⟨W,ρ,_,px,q,?_⟩
  rintro v H1 x g s r ⟨T,b,e,kt,q⟩
  exact⟨v,_,n,b,rfl,ap6 r e,kt,k _ _ _ .fr s (.bl _) q⟩
theorem ap7 (B:Bt X.mg) (ha:QE X a ta) (hg:Gl X "isinstance":=by rfl) (hgx:Gl X "int":=by rfl)
  (he:starEach [a,.Name "int" px] X.env=(false,eval a X.env) :: starEach [.Name "int" px] X.env:=by rfl) (he2:starEach [.Name "int" px] X.env=(false,eval (.Name "int" px) X.env) :: starEach [] X.env:=by rfl) (hpl:(backTo pos (starEach [.Name "int" px] X.env)).any (·.1)=false:=by rfl):QE X (.Call (.Name "isinstance" p2) [a,.Name "int" px] [] pos) (fY X.K "int" ta):=pN B PyProof.Rows.boot_int B.int ha (hg:=hg) (hgx:=hgx) (he:=he) (he2:=he2) (hpl:=hpl)
theorem ap8 (B:Bt X.mg) (ha:QE X a ta) (hg:Gl X "isinstance":=by rfl) (hgx:Gl X "bool":=by rfl)
  (he:starEach [a,.Name "bool" px] X.env=(false,eval a X.env) :: starEach [.Name "bool" px] X.env:=by rfl) (he2:starEach [.Name "bool" px] X.env=(false,eval (.Name "bool" px) X.env) :: starEach [] X.env:=by rfl) (hpl:(backTo pos (starEach [.Name "bool" px] X.env)).any (·.1)=false:=by rfl):QE X (.Call (.Name "isinstance" p2) [a,.Name "bool" px] [] pos) (fY X.K "bool" ta):=pN B PyProof.Rows.boot_bool B.bool ha (hg:=hg) (hgx:=hgx) (he:=he) (he2:=he2) (hpl:=hpl)
theorem tZ (B:Bt X.mg) (ha:QE X a ta) (hg:Gl X "isinstance":=by rfl) (hgx:Gl X "tuple":=by rfl)
  (he:starEach [a,.Name "tuple" px] X.env=(false,eval a X.env) :: starEach [.Name "tuple" px] X.env:=by rfl) (he2:starEach [.Name "tuple" px] X.env=(false,eval (.Name "tuple" px) X.env) :: starEach [] X.env:=by rfl) (hpl:(backTo pos (starEach [.Name "tuple" px] X.env)).any (·.1)=false:=by rfl):QE X (.Call (.Name "isinstance" p2) [a,.Name "tuple" px] [] pos) (fY X.K "tuple" ta):=pN B PyProof.Rows.boot_tuple B.tuple ha (hg:=hg) (hgx:=hgx) (he:=he) (he2:=he2) (hpl:=hpl)
theorem A3 (B:Bt X.mg) (ha:QE X a ta) (hg:Gl X "isinstance":=by rfl) (hgx:Gl X "list":=by rfl)
  (he:starEach [a,.Name "list" px] X.env=(false,eval a X.env) :: starEach [.Name "list" px] X.env:=by rfl) (he2:starEach [.Name "list" px] X.env=(false,eval (.Name "list" px) X.env) :: starEach [] X.env:=by rfl) (hpl:(backTo pos (starEach [.Name "list" px] X.env)).any (·.1)=false:=by rfl):QE X (.Call (.Name "isinstance" p2) [a,.Name "list" px] [] pos) (fY X.K "list" ta):=pN B PyProof.Rows.boot_list B.list ha (hg:=hg) (hgx:=hgx) (he:=he) (he2:=he2) (hpl:=hpl)
def u5 (K:PySem.W.Frag) (n:Nat) (neg:Bool):R2:=fun v w H Q=>∃ x y,aD K (fun _=>True) H v x/\aD K (fun _=>True) H w y/\((∃ xs ys,x = .tup xs/\y = .tup ys) ∨ (∃ xs ys,x = .lst xs/\y = .lst ys) ∨ (∃ xs ys,x = .kt xs/\y = .kt ys))/\cC (n+1) x y=true/\Q (.bl (if neg=true then !bG (n+1) x y else bG (n+1) x y)) H
theorem lD {pins:List (Addr × Obj)}{σ:St}{H:Hp}{s:Shared}{M M':Addr->Prop} (I:a8 X pins σ H s) {n:Nat}{A:Around} (hu:A.units+(n+1) < cLine) {us ws:List V}{xs ys:List PV}{its its2:List Value} (r1:Reps X.K M H us xs) (r2:Reps X.K M' H ws ys) (v1:aK us its) (v2:aK ws its2)
  (ok:((xs.zip ys).all fun p=>cC n p.1 p.2)=true):∀ j (h1:j < its.toArray.size) (h2:j < its2.toArray.size),SeqAt.EqAt A.in1 s its.toArray[j] its2.toArray[j] (bG n (xs.getD j .non) (ys.getD j .non)):=by
 intro j h1 h2
 have l1:=v1.length
 have l2:=v2.length
 have m1:=r1.length
 have m2:=r2.length
 have k1:j < its.length:=by simpa using h1
 have k2:j < its2.length:=by simpa using h2
 have j1:j < us.length:=by omega
 have j2:j < ws.length:=by omega
 have i1:j < xs.length:=by omega
 have i2:j < ys.length:=by omega
 obtain ⟨u,hu',ru⟩:=v1.get (aN6 j1)
 obtain ⟨u2,hu2',ru2⟩:=v2.get (aN6 j2)
 obtain ⟨x,hx,rx⟩:=r1.get (aN6 j1)
 obtain ⟨y,hy,ry⟩:=r2.get (aN6 j2)
 have e1:its.toArray[j]=u:=by
  rw [aN6 k1] at hu'
  simpa using hu'
 have e2:its2.toArray[j]=u2:=by
  rw [aN6 k2] at hu2'
  simpa using hu2'
 have ok':cC n x y=true:=by
  rw [aY2] at ok
  have hz:j < (xs.zip ys).length:=by simp; omega
  have:=ok _ (aV6 hz)
  rw [List.getElem_zip] at this
  rw [aN6 i1] at hx
  rw [aN6 i2] at hy
  cases hx; cases hy
  exact this
 rw [e1,e2]
 have g1:xs.getD j .non=x:=by rw [aP6,hx]; rfl
 have g2:ys.getD j .non=y:=by rw [aP6,hy]; rfl
 rw [g1,g2]
 exact A0 I n (by show A.units+1+n < cLine; omega) rx ry ru ru2 ok'
theorem ap9 (n:Nat) (hu:X.A.units+(n+1) < cLine):c7 X (compareOp .Eq) (u5 X.K n false):=by
 intro pins s σ H v w a b Q I ra rb h
 obtain ⟨x,y,rx,ry,kd,o,q⟩:=h
 have hu0:X.A.units < cLine:=by omega
 rcases kd with ⟨xs,ys,rfl,rfl⟩ | ⟨xs,ys,rfl,rfl⟩ | ⟨xs,ys,rfl,rfl⟩
 ·obtain ⟨p,us,rfl,h1,r1⟩:=rx.sqT
  obtain ⟨p2,ws,rfl,h2,r2⟩:=ry.sqT
  cases ra; cases rb
  obtain ⟨its,v1,p1,_⟩:=I.tuple (aL.of (K:=X.K) h1)
  obtain ⟨its2,v2,p2',_⟩:=I.tuple (aL.of (K:=X.K) h2)
  have l1:=v1.length
  have l2:=v2.length
  have m1:=r1.length
  have m2:=r2.length
  have:=SeqAt.RcAt.tuples p1 p2' hu0 (lD I hu r1 r2 v1 v2 o)
  rw [aN7,aN7,<- l1,<- l2,m1,m2,iQ] at this
  exact this _ _ _ _ ⟨.bl _,H,I,rfl,q⟩
 ·obtain ⟨p,us,rfl,_,h1,r1⟩:=rx.sqL
  obtain ⟨p2,ws,rfl,_,h2,r2⟩:=ry.sqL
  cases ra; cases rb
  obtain ⟨its,v1,p1,_⟩:=I.list (aM.of (K:=X.K) h1)
  obtain ⟨its2,v2,p2',_⟩:=I.list (aM.of (K:=X.K) h2)
  have l1:=v1.length
  have l2:=v2.length
  have m1:=r1.length
  have m2:=r2.length
  have q:Q (.bl ((xs.zip ys).all (fun p=>bG n p.1 p.2) && xs.length == ys.length)) H:=q
  by_cases hl:xs.length=ys.length
  ·have:=SeqAt.RcAt.lists p1.isList p2'.isList (by rw [aN7,aN7]; omega) hu0 (lD I hu r1 r2 v1 v2 o)
   have hm:min xs.length ys.length=its.length:=by omega
   rw [aN7,<- hm,iQ] at this
   rw [show (xs.length == ys.length)=true by simpa using hl,Bool.and_true] at q
   exact this _ _ _ _ ⟨.bl _,H,I,rfl,q⟩
  ·have:=SeqAt.RcAt.lists_lengths (A:=X.A) p1.isList p2'.isList (by rw [aN7,aN7]; simp; omega) hu0
   rw [show (xs.length == ys.length)=false by simpa using hl,Bool.and_false] at q
   exact this _ _ _ _ ⟨.bl _,H,I,rfl,q⟩
 ·obtain ⟨p,us,rfl,h1,r1⟩:=rx.kt_
  obtain ⟨p2,ws,rfl,h2,r2⟩:=ry.kt_
  cases ra; cases rb
  obtain ⟨its,v1,p1,_⟩:=I.tuple (.inr h1)
  obtain ⟨its2,v2,p2',_⟩:=I.tuple (.inr h2)
  have l1:=v1.length
  have l2:=v2.length
  have m1:=r1.length
  have m2:=r2.length
  have:=SeqAt.RcAt.tuples p1 p2' hu0 (lD I hu r1 r2 v1 v2 o)
  rw [aN7,aN7,<- l1,<- l2,m1,m2,iQ] at this
  exact this _ _ _ _ ⟨.bl _,H,I,rfl,q⟩
theorem aq0 (n:Nat) (hu:X.A.units+(n+1) < cLine):c7 X (compareOp .NotEq) (u5 X.K n true):=by
 intro pins s σ H v w a b Q I ra rb h
 obtain ⟨x,y,rx,ry,kd,o,q⟩:=h
 have hu0:X.A.units < cLine:=by omega
 rcases kd with ⟨xs,ys,rfl,rfl⟩ | ⟨xs,ys,rfl,rfl⟩ | ⟨xs,ys,rfl,rfl⟩
 ·obtain ⟨p,us,rfl,h1,r1⟩:=rx.sqT
  obtain ⟨p2,ws,rfl,h2,r2⟩:=ry.sqT
  cases ra; cases rb
  obtain ⟨its,v1,p1,_⟩:=I.tuple (aL.of (K:=X.K) h1)
  obtain ⟨its2,v2,p2',_⟩:=I.tuple (aL.of (K:=X.K) h2)
  have l1:=v1.length
  have l2:=v2.length
  have m1:=r1.length
  have m2:=r2.length
  have:=SeqAt.RcNeAt.tuples p1 p2' hu0 (lD I hu r1 r2 v1 v2 o)
  rw [aN7,aN7,<- l1,<- l2,m1,m2,iQ] at this
  exact this _ _ _ _ ⟨.bl _,H,I,rfl,q⟩
 ·obtain ⟨p,us,rfl,_,h1,r1⟩:=rx.sqL
  obtain ⟨p2,ws,rfl,_,h2,r2⟩:=ry.sqL
  cases ra; cases rb
  obtain ⟨its,v1,p1,_⟩:=I.list (aM.of (K:=X.K) h1)
  obtain ⟨its2,v2,p2',_⟩:=I.list (aM.of (K:=X.K) h2)
  have l1:=v1.length
  have l2:=v2.length
  have m1:=r1.length
  have m2:=r2.length
  have q:Q (.bl (!((xs.zip ys).all (fun p=>bG n p.1 p.2) && xs.length == ys.length))) H:=q
  by_cases hl:xs.length=ys.length
  ·have:=SeqAt.RcNeAt.lists p1.isList p2'.isList (by rw [aN7,aN7]; omega) hu0 (lD I hu r1 r2 v1 v2 o)
   have hm:min xs.length ys.length=its.length:=by omega
   rw [aN7,<- hm,iQ] at this
   rw [show (xs.length == ys.length)=true by simpa using hl,Bool.and_true] at q
   exact this _ _ _ _ ⟨.bl _,H,I,rfl,q⟩
  ·have:=SeqAt.RcNeAt.lists_lengths (A:=X.A) p1.isList p2'.isList (by rw [aN7,aN7]; simp; omega) hu0
   rw [show (xs.length == ys.length)=false by simpa using hl,Bool.and_false] at q
   exact this _ _ _ _ ⟨.bl _,H,I,rfl,q⟩
 ·obtain ⟨p,us,rfl,h1,r1⟩:=rx.kt_
  obtain ⟨p2,ws,rfl,h2,r2⟩:=ry.kt_
  cases ra; cases rb
  obtain ⟨its,v1,p1,_⟩:=I.tuple (.inr h1)
  obtain ⟨its2,v2,p2',_⟩:=I.tuple (.inr h2)
  have l1:=v1.length
  have l2:=v2.length
  have m1:=r1.length
  have m2:=r2.length
  have:=SeqAt.RcNeAt.tuples p1 p2' hu0 (lD I hu r1 r2 v1 v2 o)
  rw [aN7,aN7,<- l1,<- l2,m1,m2,iQ] at this
  exact this _ _ _ _ ⟨.bl _,H,I,rfl,q⟩
theorem A4 {n:Nat}{neg:Bool}:dP X (jY n neg) (u5 X.K n neg):=by
 rintro W Hs H u v x y g g' Q Q' s n r1 r2 ⟨kd,o,q⟩ k
 exact⟨x,y,r1.same (aE.refl _) fun _ _=>trivial,r2.same (aE.refl _) fun _ _=>trivial,kd.elim .inl fun z=>.inr (.inl z),o,k _ _ _ .fr (aE.refl _) (.bl _) q⟩
theorem u6 (hu:X.A.units+3 < cLine) (ha:QE X a ta) (hb:QE X b tb):QT X (.Compare a [.NotEq] [b] pos) (aX (q2 (jY 2 true) ta tb)):=iO (aq0 2 hu) A4 ha hb (eR _)
theorem aq1 (hu:X.A.units+3 < cLine) (ha:QE X a ta) (hb:QE X b tb):QE X (.Compare a [.Eq] [b] pos) (q2 (jY 2 false) ta tb):=lB (ap9 2 hu) A4 ha hb (eR _)
end
end PP
namespace PP
open PySem L2 PyProof.Rows
def LO (X:Cx) (t:lA):TO:=fun σ H Q'=>∃ (W:Addr->Prop) (ρ:bD) (Q:Option Int->Prop),PX X.K X.H₀ W σ ρ H/\t ρ Q/\∀ o H',aE H H'->Q o->Q' o H'
def QO (X:Cx) (e:Option Expr) (t:lA):Prop:=PO X e (LO X t)
theorem Reps.cut {K:PySem.W.Frag}{M:Addr->Prop}{H:Hp}{us:List V}{xs:List PV} (r:Reps K M H us xs) (lo hi:Option Int):Reps K M H (gF us lo hi) (gL xs lo hi):=by
 unfold gF gL
 rw [r.length]
 exact (r.drop _).take _
section
variable {X : Cx} {a b c e o : Expr} {es cB : List Expr} {ta tb te to tk : aF} {tr : cJ} {tA tB' tc : cH} {pos p2 px : Pos} {st : Stmt} {sts : List Stmt} {t u : aP}
theorem nE:QO X none mS:=fun pins s σ H Q I h=>ad6 pins s σ H Q I (by
 obtain ⟨W,ρ,Q1,px,q,k⟩:=h
 exact k _ _ (aE.refl _) q)
theorem nF (h:QE X e te):QO X (some e) (mT te):=fun pins s σ H Q I hq=>ad7 h pins s σ H Q I (by
 obtain ⟨W,ρ,Q1,px,q,k⟩:=hq
 refine⟨W,ρ,_,px,q,?_⟩
 rintro v H1 x g s r ⟨i,rfl,q⟩
 cases r
 exact⟨i,rfl,k _ _ s q⟩)
theorem nG {lo hi:Option Expr}{tl th:lA}{sp:Pos} (he:QE X e te) (hl:QO X lo tl) (hh:QO X hi th):QE X (.Subscript e (.Slice lo hi none sp) pos) (mU te tl th):=cK (ad8 (af0.or aj7) he hl hh) fun σ H Q' h=>by
 obtain ⟨W,ρ,Q,px,q,k⟩:=h
 refine⟨W,ρ,_,px,q,fun v H1 x g s1 r1 q1=>⟨W,ρ,_,px.mono s1,q1,fun lo H2 s2 q2=>⟨W,ρ,_,px.mono (s1.trans s2),q2,?_⟩⟩⟩
 rintro hi H3 s3 ⟨xs,e,f,q3⟩
 have S:=(s1.trans s2).trans s3
 have r3:=r1.same (M':=Mg X.H₀ W H g) (s2.trans s3) fun _ z=>z
 cases r3 with
 | tup h r=>
  cases e
  refine .inr ⟨_,_,rfl,aL.of h,fun p hp=>k _ _ _ .fr (S.trans (bY hp _)) (.tup c9 (((r.flat f).cut lo hi).same (bY hp _) fun _ z=>z)) q3,fun ec=>k _ _ _ .fr S (.tup h ?_) q3⟩
  have:=(r.flat (M':=Mg X.H₀ W H .fr) f).cut lo hi
  rw [ec] at this
  exact this
 | lst m h r=>
  cases e
  exact .inl ⟨_,_,rfl,aM.of h,fun p hp=>k _ _ _ .fr (S.trans (bY hp _)) (.lst (S.free hp) c9 (((r.flat f).cut lo hi).same (bY hp _) fun _ z=>z)) q3⟩
 | scr h=>
  cases e
  exact .inl ⟨_,_,rfl,h.sqL,fun p hp=>k _ _ _ .fr (S.trans (bY hp _)) (.lst (S.free hp) c9 (((Reps.intz _).cut lo hi).same (bY hp _) fun _ z=>z)) q3⟩
 | _=>cases e
structure Df (P:Program) (w:World) (K:PySem.W.Frag) (mg:Str->Option Value) (base:Heap) (k:Nat) (x:Str) (ps:List Str) (p:bN):Prop where
 ex:∃ f fd,dA P w K mg base eC k f fd ps (mP K p)/\j5 K fd ps []/\PySem.W.keepIn K (.ref f)=true/\mg x=some (.ref f)
theorem bH {k j:Nat}{x:Str}{ps:List Str}{p:bN} (d:Df X.prog X.w X.K X.mg X.base k x ps p) (hr:bX j X.A) (ha:QA X (e :: es) tr) (hkj:k<=j:=by decide) (hg:Gl X x:=by rfl) (hdb:(x == ("__debug__" : Str))=false:=by decide)
  (he:starEach (e :: es) X.env=(false,eval e X.env) :: starEach es X.env:=by rfl) (hpl:(backTo pos (starEach es X.env)).any (·.1)=false:=by rfl):QE X (.Call (.Name x p2) (e :: es) [] pos) (aC p tr):=by
 obtain ⟨f,fd,F,b,kp,m⟩:=d.ex
 exact cK (sG F (hr.mono hkj) hg m kp b .nil ah2 ha hdb he hpl) fun _ _ _=>an0
theorem u7 {K:PySem.W.Frag}{H:Hp}{N:List Str}{vs:List V}{xs:List PV} (r:Reps K (fun _=>True) H vs xs):PX K H (fun _=>False) (L2.fR N vs) (dS N xs) H:=by
 have lr:=r.length
 have own:∀ {i:Nat}{m:Slot},(dS N xs)[i]? = some (some m)->∃ x,xs[i]? = some x/\m = .sh (flat x) x:=fun {i m} h=>by
  unfold dS at h
  by_cases hi:i < xs.length
  ·rw [aZ2 (by simpa using hi),aP4] at h
   rw [aN6 hi] at h ⊢
   cases h
   exact⟨_,rfl,rfl⟩
  ·rw [bb1 (by simpa using hi),List.getElem?_replicate] at h
   split at h <;> cases h
 refine⟨by unfold L2.fR dS; simp [lr],aE.refl _,fun a z=>z.elim,fun i m h=>?_,fun i j x y a h1=>?_⟩
 ·obtain ⟨x,hx,rfl⟩:=own h
  obtain ⟨v,hv,rx⟩:=r.at hx
  refine⟨v,?_,pB (g:=false) (rx.same (aE.refl _) fun _ _ z=>z)⟩
  have hi:i < vs.length:=(aO7.mp hv).1
  unfold L2.fR
  rw [aZ2 (by simpa using hi),aP4,hv]; rfl
 ·obtain ⟨x,_,e⟩:=own h1
  cases e
theorem Df.of {P:Program}{w:World}{K:PySem.W.Frag}{mg:Str->Option Value}{base:Heap}{k:Nat}{x:Str}{ps N:List Str}{p:bN}{st:Stmt}{f:Addr}{fd:FuncData} (F:fD K x x st f fd) (m:mg x=some (.ref f)) (S:FnScope N ps (aV st))
  (hb:∀ (kV doc pm:Value) (an:Option Addr) (cdv ct:Value) (us:List Value),us.length=ps.length->bindArgs (PySem.W.fnOf x x (iG st) (dO st) (aV st) .none kV doc pm an cdv ct) ⟨us,[]⟩=pure (ps.zip us))
  (len:∀ xs Q,p xs Q->xs.length=ps.length)
  (body:∀ (cdv:Value) (A:Around) (outer:List Env) (s:Shared) (H:Hp) (E:XK),bX k (A.deeper (envOfC x (aV st) s.heap.objs.size f cdv))->
   ∃ t,eI (cS eC P w K mg base N x (aV st) f cdv A outer s H E).nox (dO st) t/\∀ xs Q,p xs Q->t { nx:=fun _=>Q .non,rt:=Q } (dS N xs)):Df P w K mg base (k+1) x ps p:=by
 refine⟨f,fd,F.ok S (fun vs H Q E h=>?_) (fun cdv A outer s H vs Q E hr h=>?_),F.binds hb,F.kp,m⟩
 ·obtain ⟨xs,Qp,r,q,_⟩:=h
  rw [r.length]; exact len xs Qp q
 ·obtain ⟨xs,Qp,r,q,k⟩:=h
  obtain ⟨t,ht,hq⟩:=body cdv A outer s H E hr
  refine⟨_,ht,fun _=>False,dS N xs,_,u7 r,hq xs Qp q,?_,?_,?_,?_⟩
  ·exact fun W' σ' H' ρ' e px q=>k _ _ _ px.same .non q
  ·exact fun v H' x s r q=>k _ _ _ s r q
  ·exact fun W' σ' H' ρ' e px q=>q
  ·exact fun W' σ' H' ρ' e px q=>q
theorem fO (i:Nat) {x:Str}{tp:Pos}{body:List Stmt}{ti:eG} (hN:X.N.Nodup) (hi:QI X (.Name x tp) e ti) (hb:eI X body t) (hx:X.N[i]? = some x:=by rfl) (hl:gD X.env.scope x:=by first | exact Or.inl rfl | exact Or.inr rfl) (hf:X.fn x=true ∨ X.env.scope.names.lookup x=some .local:=by first | exact .inl rfl | exact .inr rfl)
  (hp:PassesOwn (model X.prog X.w) X.A X.env X.xe:=by exact PassesOwn.never) (hc:X.calm=true:=by rfl) (hs:∀ x,foldedSetIterable e X.env x=pure x:=by intro _; rfl):QS X (.For (.Name x tp) e body [] pos) (dH ti (dC i) t):=
 zZ hp hc hi (iY hN hx hl hf) (zF _ i) hb hs
theorem A5 (i j:Nat) {x y:Str}{tp xp yp:Pos}{kt:Nat}{body:List Stmt}{ti:eG} (hN:X.N.Nodup) (hi:QI X (.Tuple [.Name x xp,.Name y yp] kt tp) e ti) (hb:eI X body t) (hx:X.N[i]? = some x:=by rfl) (hy:X.N[j]? = some y:=by rfl) (hlx:gD X.env.scope x:=by first | exact Or.inl rfl | exact Or.inr rfl) (hly:gD X.env.scope y:=by first | exact Or.inl rfl | exact Or.inr rfl)
  (hfx:X.fn x=true ∨ X.env.scope.names.lookup x=some .local:=by first | exact .inl rfl | exact .inr rfl) (hfy:X.fn y=true ∨ X.env.scope.names.lookup y=some .local:=by first | exact .inl rfl | exact .inr rfl)
  (hp:PassesOwn (model X.prog X.w) X.A X.env X.xe:=by exact PassesOwn.never) (hc:X.calm=true:=by rfl) (hs:∀ x,foldedSetIterable e X.env x=pure x:=by intro _; rfl):QS X (.For (.Tuple [.Name x xp,.Name y yp] kt tp) e body [] pos) (dH ti (gK i j) t):=
 zZ hp hc hi (rU hc (kR (iY hN hx hlx hfx) (kR (iY hN hy hly hfy) rT))) (tS _ i j) hb hs
abbrev dU:Value->Shared->Prop:=fun _ _=>False
section
variable {scope : Scope} {N : List Str} {fr : List (Option Nat)} {x y : Str} {tp xp yp : Pos} {kt : Nat} {iter elt : Expr} {ti : eG}
theorem aq2 {ifs:List Expr}{tcs:cH} (he:∀ (s:Shared) (H:Hp) (C:Addr) (fp:List Addr),QE (cI X scope N s H C fp dU) elt te) (hi:∀ (s:Shared) (H:Hp) (C:Addr) (fp:List Addr),kS (cI X scope N s H C fp dU) ifs (LT (cI X scope N s H C fp dU) tcs))
  (hN:N.Nodup) (h0:N[0]? = some x) (hl:∀ (s:Shared) (H:Hp) (C:Addr) (fp:List Addr),(cI X scope N s H C fp dU).env.scope.names.lookup x=some .local) (s:Shared) (H:Hp) :
  oT X scope N (.Name x tp) ifs elt s H (e9 0) (LT (X.frm H) tcs) (LE (X.frm H) te):=
 ⟨fun C fp=>iY (X:=cI X scope N s H C fp dU) hN h0 (.inl (hl s H C fp)) (.inr (hl s H C fp)),fun C fp=>hi s H C fp,fun C fp=>he s H C fp⟩
theorem A6 {Y:Cx}:kS Y [] (LT Y hB):=fun pins s σ H Q I h=>ah9 pins s σ H Q I (an8 h)
theorem aq3 (hi:QI X (.Name x tp) iter ti) (he:∀ (s:Shared) (H:Hp) (C:Addr) (fp:List Addr),QE (cI X scope N s H C fp dU) elt te)
  (hc:X.calm=true:=by rfl) (S:gG X scope N fr:=by exact gG.of rfl rfl) (hN:N.Nodup:=by decide +kernel) (h0:N[0]? = some x:=by rfl) (hl:∀ (s:Shared) (H:Hp) (C:Addr) (fp:List Addr),(cI X scope N s H C fp dU).env.scope.names.lookup x=some .local:=by intro _ _ _ _; rfl) (hf:fr[0]? = some none:=by rfl)
  (hs:∀ x,foldedSetIterable iter X.env x=pure x:=by intro _; rfl):QE X (.ListComp elt [⟨.Name x tp,iter,[],0⟩] scope pos) (l8 ti fr (dC 0) hB te):=
 cK (yF (gh:=fun _=>e9 0) (tch:=fun H=>LT (X.frm H) hB) (teh:=fun H=>LE (X.frm H) te) hc S hi (aq2 he (fun _ _ _ _=>A6) hN h0 hl) hs) fun _ _ _=>zG (zF _ 0) (fun i e=>by subst e; exact hf)
end
end
end PP
namespace SO
open PySem PyProof.Rows
section
variable (rk : Keyed → Int)
def Kr (xs:Array Keyed) (i:Nat):Int:=((xs[i]?).map rk).getD 0
def Up (xs:Array Keyed) (lo hi:Nat):Prop:=∀ i j,lo<=i->i<=j->j < hi->Kr rk xs i<=Kr rk xs j
def Dn (xs:Array Keyed) (lo hi:Nat):Prop:=∀ i j,lo<=i->i<=j->j < hi->Kr rk xs j<=Kr rk xs i
end
variable {rk : Keyed → Int}
theorem k6 {xs ys:Array Keyed}{i j:Nat} (h:xs[i]? = ys[j]?):Kr rk xs i=Kr rk ys j:=by unfold Kr; rw [h]
theorem pO {xs:Array Keyed}{i j:Nat} (hj:j<=xs.size) (k:Nat):Kr rk (mirror xs i j ((j - i) / 2)) k=Kr rk xs (if i<=k/\k < j then i+j - 1 - k else k):=by
 refine k6 ?_
 rw [getElem?_mirror_all hj]
 split <;> rfl
theorem u8 {xs:Array Keyed}{i j:Nat} (hj:j<=xs.size) (e:∀ k,i<=k->k < j->Kr rk xs k=Kr rk xs (j - 1)) (k:Nat):Kr rk (mirror xs i j ((j - i) / 2)) k=Kr rk xs k:=by
 rw [pO hj]
 split
 ·rename_i h; rw [e k h.1 h.2,e _ (by omega) (by omega)]
 ·rfl
theorem aq4 {xs:Array Keyed}{src d:Nat} (hs:src < xs.size) (hd:d<=src) (k:Nat):Kr rk (bubble xs src d) k=Kr rk xs (if k=src - d then src else if src - d < k/\k<=src then k - 1 else k):=by
 refine k6 ?_
 rw [getElem?_bubble hs d hd]
 repeat' split
 all_goals rfl
structure SB (κ:SortKind) (a0:Array Keyed) (pd:Array (Nat × Nat × Nat)) (st:SortSt):Prop where
 pm:(arrOf st).Perm a0
 kd:kindOf st=κ
 ok:failedOf st=none
 pd:pendingOf st=pd
section
variable {κ : SortKind} {a0 : Array Keyed} {pd : Array (Nat × Nat × Nat)} {st : SortSt} {prog : Program} {w : World} {A : Around} {E : Value → Shared → Prop} {s : Shared} {Ok : Keyed → Prop}
theorem SB.sz (h:SB κ a0 pd st):(arrOf st).size=a0.size:=h.pm.size_eq
theorem SB.put (h:SB κ a0 pd st) {xs:Array Keyed} (hp:xs.Perm (arrOf st)):SB κ a0 pd (setArr st xs):=⟨hp.trans h.pm,h.kd,h.ok,h.pd⟩
def c6 (prog:Program) (w:World) (A:Around) (E:Value->Shared->Prop) (s:Shared) (κ:SortKind) (Ok:Keyed->Prop) (rk:Keyed->Int):Prop:=
 ∀ (x y:Keyed),Ok x->Ok y->∀ (st:SortSt) (Q:Option Bool->SortSt->Prop),kindOf st=κ->Q (some (decide (rk x < rk y))) st->wpS (model prog w) A E s (lt' x y) Q st
def bK (Ok:Keyed->Prop) (xs:Array Keyed):Prop:=∀ x ∈ xs,Ok x
theorem SB.all (h:SB κ a0 pd st) (o:bK Ok a0):bK Ok (arrOf st):=fun x hx=>o x (h.pm.mem_iff.mp hx)
theorem cL {xs:Array Keyed}{i:Nat}{Q:Keyed->SortSt->Prop} (hi:i < xs.size) (h:Q xs[i] st):wpS (model prog w) A E s (elem' xs i) Q st:=by
 rw [elem'_eq,getElem?_pos xs i hi]; exact aP3 h
theorem bU {xs:Array Keyed}{i:Nat} (hi:i < xs.size):Kr rk xs i=rk xs[i]:=by unfold Kr; rw [getElem?_pos xs i hi]; rfl
theorem nH (c:c6 prog w A E s κ Ok rk) (o:bK Ok a0) (b:SB κ a0 pd st) {i j:Nat}{Q:Option Bool->SortSt->Prop} (hi:i < a0.size) (hj:j < a0.size)
  (h:Q (some (decide (Kr rk (arrOf st) i < Kr rk (arrOf st) j))) st):wpS (model prog w) A E s (ltAt' i j) Q st:=by
 have hi':i < (arrOf st).size:=by rw [b.sz]; exact hi
 have hj':j < (arrOf st).size:=by rw [b.sz]; exact hj
 rw [ltAt'_eq]
 refine aO5 (wpS_get (aO5 (cL hi' (aO5 (cL hj' ?_)))))
 refine c _ _ (b.all o _ (aR4 hi')) (b.all o _ (aR4 hj')) st Q b.kd ?_
 rw [<- bU (rk:=rk) hi',<- bU (rk:=rk) hj']; exact h
theorem pP {i j:Nat}{Q:Unit->SortSt->Prop} (h:Q () (setArr st (mirror (arrOf st) i j ((j - i) / 2)))):wpS (model prog w) A E s (reverseSlice' i j) Q st:=by
 rw [reverseSlice'_eq]; exact wpS_modify h
abbrev CS:=Option (Option Nat) × Nat
abbrev DS:=Option (Option Nat) × Nat × Nat
def nI (lo b nrem:Nat):StateT SortSt Sem CS:=forIn [b:nrem] ((none,b):CS) fun _ r=>do
 match <- ltAt' (lo+r.2) (lo+r.2 - 1) with
 | some q=>if q=true then pure (ForInStep.done (none,r.2)) else pure (ForInStep.yield (none,r.2+1))
 | _=>pure (ForInStep.done (some none,r.2))
def u9 (lo b nrem:Nat):StateT SortSt Sem DS:=forIn [b:nrem] ((none,b,0):DS) fun _ r=>do
 match <- ltAt' (lo+r.2.1) (lo+r.2.1 - 1) with
 | some q=>
  if q=true then (if r.2.2 > 0 then do reverseSlice' (lo+r.2.1 - (r.2.2+1)) (lo+r.2.1); pure (ForInStep.yield (none,r.2.1+1,0)) else pure (ForInStep.yield (none,r.2.1+1,0)))
  else do
   match <- ltAt' (lo+r.2.1 - 1) (lo+r.2.1) with
   | some q=>if q=true then pure (ForInStep.done (none,r.2.1,r.2.2)) else pure (ForInStep.yield (none,r.2.1+1,r.2.2+1))
   | _=>pure (ForInStep.done (some none,r.2.1,r.2.2))
 | _=>pure (ForInStep.done (some none,r.2.1,r.2.2))
theorem A7 (c:c6 prog w A E s κ Ok rk) (o:bK Ok a0) (b:SB κ a0 pd st) {lo n nrem:Nat}{Q:CS->SortSt->Prop} (hz:lo+nrem<=a0.size) (h1:1<=n) (hn:n<=nrem) (u:Up rk (arrOf st) lo (lo+n))
  (h:∀ m,n<=m->m<=nrem->Up rk (arrOf st) lo (lo+m)->(m=nrem ∨ Kr rk (arrOf st) (lo+m) < Kr rk (arrOf st) (lo+m - 1))->Q (none,m) st):wpS (model prog w) A E s (nI lo n nrem) Q st:=by
 unfold nI
 refine aV2 (I:=fun x r st'=>st'=st/\r=(none,x)/\Up rk (arrOf st) lo (lo+x)) ?_ ?_ ⟨rfl,rfl,u⟩
 ·rintro x r st' hx hx' ⟨rfl,rfl,u'⟩
  refine aO5 (nH c o b (by omega) (by omega) ?_)
  by_cases hq:Kr rk (arrOf st') (lo+x) < Kr rk (arrOf st') (lo+x - 1)
  ·rw [aO4 hq]
   exact aP3 (h x hx (by omega) u' (.inr hq))
  ·rw [aO1 hq]
   refine aP3 ⟨rfl,rfl,fun i j hi hij hj=>?_⟩
   rcases aS3 j (lo+x) with z | z
   ·exact u' i j hi hij z
   ·have ej:j=lo+x:=by omega
    subst ej
    rcases bb4 hij with z | z
    ·rw [z]; exact aN9 _
    ·have:=u' i (lo+x - 1) hi (by omega) (by omega)
     omega
 ·rintro r st' ⟨rfl,rfl,u'⟩
  have em:max n nrem=nrem:=by omega
  rw [em] at u' ⊢
  exact h nrem hn (aO6 _) u' (.inl rfl)
structure nJ (rk:Keyed->Int) (xs ys:Array Keyed) (lo m q:Nat):Prop where
 dn:Dn rk ys lo (lo+m)
 le:q+1<=m
 eq:∀ i,lo+m - (q+1)<=i->i < lo+m->Kr rk ys i=Kr rk ys (lo+m - 1)
 low:∀ i,i < lo->Kr rk ys i=Kr rk xs i
theorem aq5 (c:c6 prog w A E s κ Ok rk) (o:bK Ok a0) (b:SB κ a0 pd st) {lo n nrem:Nat}{xs:Array Keyed}{Q:DS->SortSt->Prop} (hz:lo+nrem<=a0.size) (h1:1<=n) (hn:n<=nrem) (u:nJ rk xs (arrOf st) lo n 0)
  (h:∀ m q st',SB κ a0 pd st'->n<=m->m<=nrem->nJ rk xs (arrOf st') lo m q->Q (none,m,q) st'):wpS (model prog w) A E s (u9 lo n nrem) Q st:=by
 unfold u9
 refine aV2 (I:=fun x r st'=>∃ q,r=(none,x,q)/\SB κ a0 pd st'/\nJ rk xs (arrOf st') lo x q) ?_ ?_ ⟨0,rfl,b,u⟩
 ·rintro x r st' hx hx' ⟨q,rfl,b',f⟩
  have sz:=b'.sz
  dsimp only
  refine aO5 (nH c o b' (by omega) (by omega) ?_)
  by_cases hq:Kr rk (arrOf st') (lo+x) < Kr rk (arrOf st') (lo+x - 1)
  ·rw [aO4 hq]
   have nx:∀ ys:Array Keyed,(∀ k,Kr rk ys k=Kr rk (arrOf st') k)->nJ rk xs ys lo (x+1) 0:=fun ys e=>by
    refine⟨fun i j hi hij hj=>?_,by omega,fun i h1 h2=>by rw [show i=lo+(x+1) - 1 by omega],fun i hi=>(e i).trans (f.low i hi)⟩
    rw [e,e]
    rcases aS3 j (lo+x) with z | z
    ·exact f.dn i j hi hij z
    ·have ej:j=lo+x:=by omega
     subst ej
     rcases bb4 hij with z | z
     ·rw [z]; exact aN9 _
     ·have:=f.dn i (lo+x - 1) hi (by omega) (by omega)
      omega
   dsimp only
   rw [if_pos rfl]
   by_cases hp:q > 0
   ·rw [if_pos hp]
    exact aO5 (pP (aP3 ⟨0,rfl,b'.put (mirror_perm _ _ _ _),nx _ (u8 (by omega) f.eq)⟩))
   ·rw [if_neg hp]
    exact aP3 ⟨0,rfl,b',nx _ fun _=>rfl⟩
  ·rw [aO1 hq]
   dsimp only
   rw [if_neg aP9]
   refine aO5 (nH c o b' (by omega) (by omega) ?_)
   by_cases hl:Kr rk (arrOf st') (lo+x - 1) < Kr rk (arrOf st') (lo+x)
   ·rw [aO4 hl]
    exact aP3 (h x q st' b' hx (by omega) f)
   ·rw [aO1 hl]
    have ex:Kr rk (arrOf st') (lo+x)=Kr rk (arrOf st') (lo+x - 1):=by omega
    refine aP3 ⟨q+1,rfl,b',fun i j hi hij hj=>?_,by have:=f.le; omega,fun i h1 h2=>?_,f.low⟩
    ·rcases aS3 j (lo+x) with z | z
     ·exact f.dn i j hi hij z
     ·have ej:j=lo+x:=by omega
      subst ej
      rcases bb4 hij with z | z
      ·rw [z]; exact aN9 _
      ·rw [ex]; exact f.dn i (lo+x - 1) hi (by omega) (by omega)
    ·rw [show lo+(x+1) - 1=lo+x by omega]
     rcases aS3 i (lo+x) with z | z
     ·rw [ex]; exact f.eq i (by omega) z
     ·rw [show i=lo+x by omega]
 ·rintro r st' ⟨q,rfl,b',f⟩
  have em:max n nrem=nrem:=by omega
  rw [em] at f ⊢
  exact h nrem q st' b' hn (aO6 _) f
theorem A8 (c:c6 prog w A E s κ Ok rk) (o:bK Ok a0) (b:SB κ a0 pd st) {lo nrem:Nat} (n:Nat) {xs:Array Keyed}{Q:Option Nat->SortSt->Prop}{K:DS->StateT SortSt Sem (Option Nat)}{k:CS->StateT SortSt Sem (Option Nat)} (hz:lo+nrem<=a0.size) (hn:n+1<=nrem)
  (hK:∀ m q,K (none,m,q)=if q > 0 then reverseSlice' (lo+m - (q+1)) (lo+m) >>= fun _=>reverseSlice' lo (lo+m) >>= fun _=>nI lo m nrem >>= k else reverseSlice' lo (lo+m) >>= fun _=>nI lo m nrem >>= k)
  (hk:∀ m,k (none,m)=pure (some m)) (u:nJ rk xs (arrOf st) lo (n+1) 0)
  (h:∀ m st',SB κ a0 pd st'->1<=m->m<=nrem->Up rk (arrOf st') lo (lo+m)->(∀ i,i < lo->Kr rk (arrOf st') i=Kr rk xs i)->Q (some m) st'):wpS (model prog w) A E s (liftM (rule "list.sort.descending-run") >>= fun _=>u9 lo (n+1) nrem >>= K) Q st:=by
 refine aO5 (wpS_lift (ba4 ⟨rfl,?_⟩))
 refine aO5 (aq5 c o b hz (by omega) hn u fun m q st1 b1 m1 m2 f=>?_)
 have fin:∀ st2:SortSt,SB κ a0 pd st2->(∀ k,Kr rk (arrOf st2) k=Kr rk (arrOf st1) k)->
   wpS (model prog w) A E s (reverseSlice' lo (lo+m) >>= fun _=>nI lo m nrem >>= k) Q st2:=fun st2 b2 e=>by
  have sz:=b2.sz
  have low:∀ i,i < lo->Kr rk (mirror (arrOf st2) lo (lo+m) ((lo+m - lo) / 2)) i=Kr rk xs i:=fun i hi=>by
   rw [pO (by omega),if_neg (by omega),e]
   exact f.low i hi
  refine aO5 (pP (aO5 (A7 (κ:=κ) c o (b2.put (mirror_perm _ _ _ _)) hz (by omega) m2 ?_ fun m' h1 h2 up _=>by rw [hk]; exact aP3 (h m' _ (b2.put (mirror_perm _ _ _ _)) (by omega) h2 up low))))
  ·intro i j hi hij hj
   show Kr rk (mirror (arrOf st2) lo (lo+m) _) i<=Kr rk (mirror (arrOf st2) lo (lo+m) _) j
   rw [pO (by omega),pO (by omega),if_pos (by omega),if_pos (by omega),e,e]
   exact f.dn _ _ (by omega) (by omega) (by omega)
 rw [hK]
 by_cases hp:q > 0
 ·rw [if_pos hp]
  have sz:=b1.sz
  exact aO5 (pP (fin _ (b1.put (mirror_perm _ _ _ _)) (u8 (by omega) f.eq)))
 ·rw [if_neg hp]
  exact fin st1 b1 fun _=>rfl
theorem aq6 (c:c6 prog w A E s κ Ok rk) (o:bK Ok a0) (b:SB κ a0 pd st) {lo nrem:Nat}{Q:Option Nat->SortSt->Prop} (hz:lo+nrem<=a0.size) (h1:1<=nrem)
  (h:∀ m st',SB κ a0 pd st'->1<=m->m<=nrem->Up rk (arrOf st') lo (lo+m)->(∀ i,i < lo->Kr rk (arrOf st') i=Kr rk (arrOf st) i)->Q (some m) st'):wpS (model prog w) A E s (countRun' lo nrem) Q st:=by
 rw [countRun'_eq]
 refine aO5 (A7 (n:=1) c o b hz (aO6 _) h1 (fun i j hi hij hj=>by rw [show i=j by omega]; exact aN9 _) fun n n1 n2 un on=>?_)
 dsimp only
 by_cases en:(n == nrem)=true
 ·rw [if_pos en]
  exact aP3 (h n st b n1 n2 un fun _ _=>rfl)
 ·rw [if_neg en]
  have en':n ≠ nrem:=by simpa using en
  have lt:=on.resolve_left en'
  have sz:=b.sz
  by_cases g:n > 1
  ·rw [if_pos g]
   refine aO5 (nH c o b (by omega) (by omega) ?_)
   by_cases hq:Kr rk (arrOf st) lo < Kr rk (arrOf st) (lo+n - 1)
   ·rw [aO4 hq]
    exact aP3 (h n st b n1 n2 un fun _ _=>rfl)
   ·rw [aO1 hq]
    dsimp only
    rw [if_neg aP9]
    have all:∀ k,lo<=k->k < lo+n->Kr rk (arrOf st) k=Kr rk (arrOf st) (lo+n - 1):=fun k k1 k2=>by
     have a1:=un lo k (aO6 _) k1 k2
     have a2:=un k (lo+n - 1) k1 (by omega) (by omega)
     omega
    have sm:=u8 (rk:=rk) (xs:=arrOf st) (i:=lo) (j:=lo+n) (by omega) all
    refine aO5 (pP (A8 (xs:=arrOf st) (κ:=κ) c o (b.put (mirror_perm _ _ _ _)) n hz (by omega) (fun _ _=>rfl) (fun _=>rfl) ⟨fun i j hi hij hj=>?_,by omega,fun i h1 h2=>by rw [show i=lo+(n+1) - 1 by omega],fun i _=>sm i⟩ h))
    show Kr rk (mirror (arrOf st) lo (lo+n) _) j<=Kr rk (mirror (arrOf st) lo (lo+n) _) i
    rw [sm,sm]
    rcases aS3 j (lo+n) with z | z
    ·rw [all i hi (by omega),all j (by omega) z]; exact aN9 _
    ·have ej:j=lo+n:=by omega
     subst ej
     rcases bb4 hij with z | z
     ·rw [z]; exact aN9 _
     ·rw [all i hi (by omega)]; exact Int.le_of_lt lt
  ·rw [if_neg g]
   have e1:n=1:=by omega
   subst e1
   refine A8 (xs:=arrOf st) c o b 1 hz (by omega) (fun _ _=>rfl) (fun _=>rfl) ⟨fun i j hi hij hj=>?_,by omega,fun i h1 h2=>by rw [show i=lo+(1+1) - 1 by omega],fun i _=>rfl⟩ h
   rcases bb4 hij with z | z
   ·rw [z]; exact aN9 _
   ·have ei:i=lo+1 - 1:=by omega
    have ej:j=lo+1:=by omega
    rw [ei,ej]; exact Int.le_of_lt lt
theorem aq7 (c:c6 prog w A E s κ Ok rk) (o:bK Ok a0) (b:SB κ a0 pd st) {lo n q:Nat}{Q:Bool->SortSt->Prop} (hz:lo+n<=a0.size) (hq:q<=n) (u:Up rk (arrOf st) lo (lo+q))
  (h:∀ st',SB κ a0 pd st'->Up rk (arrOf st') lo (lo+n)->(∀ i,i < lo->Kr rk (arrOf st') i=Kr rk (arrOf st) i)->Q true st'):wpS (model prog w) A E s (binarySort' lo n q) Q st:=by
 rw [binarySort'_eq]
 refine aO5 (bc4 (aV2 (I:=fun k r st'=>r=(none,())/\SB κ a0 pd st'/\Up rk (arrOf st') lo (lo+min k n)/\∀ i,i < lo->Kr rk (arrOf st') i=Kr rk (arrOf st) i)
  (Q:=fun r st'=>r=(none,())/\SB κ a0 pd st'/\Up rk (arrOf st') lo (lo+n)/\∀ i,i < lo->Kr rk (arrOf st') i=Kr rk (arrOf st) i) ?_ ?_ ?_) ?_)
 ·rintro k r st1 hk hkn ⟨rfl,b1,u1,l1⟩
  rw [show min k n=k by omega] at u1
  have hk0:lo+k < a0.size:=by omega
  have sz:=b1.sz
  refine aO5 (bc4 (aV2 (I:=fun x r st'=>st'=st1/\∃ l g,r=(none,l,g)/\l<=g/\g<=k/\g - l<=k - x/\(∀ i,i < l->Kr rk (arrOf st1) (lo+i)<=Kr rk (arrOf st1) (lo+k))/\∀ i,g<=i->i < k->Kr rk (arrOf st1) (lo+k) < Kr rk (arrOf st1) (lo+i))
   (Q:=fun r st'=>st'=st1/\∃ l g,r=(none,l,g)/\l<=k/\(∀ i,i < l->Kr rk (arrOf st1) (lo+i)<=Kr rk (arrOf st1) (lo+k))/\∀ i,l<=i->i < k->Kr rk (arrOf st1) (lo+k) < Kr rk (arrOf st1) (lo+i)) ?_ ?_ ?_) ?_)
  ·rintro x r st2 _ hx ⟨rfl,l,g,rfl,d1,d2,d3,f1,f2⟩
   dsimp only
   by_cases hlg:l >= g
   ·rw [if_pos hlg]
    have e:g=l:=by omega
    subst e
    exact aP3 ⟨rfl,g,g,rfl,d2,f1,f2⟩
   ·rw [if_neg hlg]
    refine aO5 (nH c o b1 hk0 (by omega) ?_)
    by_cases hc:Kr rk (arrOf st2) (lo+k) < Kr rk (arrOf st2) (lo+(l+g) / 2)
    ·rw [aO4 hc]
     refine aP3 ⟨rfl,l,(l+g) / 2,rfl,by omega,by omega,by omega,f1,fun i i1 i2=>?_⟩
     have:=u1 (lo+(l+g) / 2) (lo+i) (by omega) (by omega) (by omega)
     omega
    ·rw [aO1 hc]
     refine aP3 ⟨rfl,(l+g) / 2+1,g,rfl,by omega,d2,by omega,fun i i1=>?_,f2⟩
     have:=u1 (lo+i) (lo+(l+g) / 2) (by omega) (by omega) (by omega)
     omega
  ·rintro r st2 ⟨rfl,l,g,rfl,d1,d2,d3,f1,f2⟩
   have e:g=l:=by omega
   subst e
   exact⟨rfl,g,g,rfl,d2,f1,f2⟩
  ·exact⟨rfl,0,k,rfl,by omega,by omega,by omega,fun i hi=>absurd hi (by omega),fun i i1 i2=>absurd i1 (by omega)⟩
  ·rintro r st2 ⟨rfl,l,g,rfl,d,f1,f2⟩
   dsimp only
   rw [moveDown'_eq]
   have kb:∀ i,Kr rk (bubble (arrOf st2) (lo+k) (lo+k - (lo+l))) i=Kr rk (arrOf st2) (if i=lo+l then lo+k else if lo+l < i/\i<=lo+k then i - 1 else i):=fun i=>by
    rw [aq4 (by omega) (by omega),show lo+k - (lo+k - (lo+l))=lo+l by omega]
   refine aO5 (wpS_modify (aP3 ⟨rfl,b1.put (bubble_perm _ _ _),fun i j hi hij hj=>?_,fun i hi=>?_⟩))
   ·show Kr rk (bubble (arrOf st2) (lo+k) (lo+k - (lo+l))) i<=Kr rk (bubble (arrOf st2) (lo+k) (lo+k - (lo+l))) j
    rw [kb,kb]
    rw [show min (k+1) n=k+1 by omega] at hj
    have v1:∀ p,lo<=p->p < lo+l->Kr rk (arrOf st2) p<=Kr rk (arrOf st2) (lo+k):=fun p p1 p2=>by have:=f1 (p - lo) (by omega); rwa [show lo+(p - lo)=p by omega] at this
    have v2:∀ p,lo+l<=p->p < lo+k->Kr rk (arrOf st2) (lo+k) < Kr rk (arrOf st2) p:=fun p p1 p2=>by have:=f2 (p - lo) (by omega) (by omega); rwa [show lo+(p - lo)=p by omega] at this
    repeat' split
    all_goals first
     | (exfalso; omega)
     | exact aN9 _
     | exact v1 _ (by omega) (by omega)
     | exact Int.le_of_lt (v2 _ (by omega) (by omega))
     | exact u1 _ _ (by omega) (by omega) (by omega)
   ·show Kr rk (bubble (arrOf st2) (lo+k) (lo+k - (lo+l))) i=_
    rw [kb,if_neg (by omega),if_neg (by omega)]
    exact l1 i hi
 ·rintro r st1 ⟨rfl,b1,u1,l1⟩
  rw [show min (max (max q 1) n) n=n by omega] at u1
  exact⟨rfl,b1,u1,l1⟩
 ·refine⟨rfl,b,fun i j hi hij hj=>?_,fun _ _=>rfl⟩
  rcases aS3 j (lo+q) with z | z
  ·exact u i j hi hij z
  ·rw [show i=j by omega]; exact aN9 _
 ·rintro r st1 ⟨rfl,b1,u1,l1⟩
  exact aP3 (h st1 b1 u1 l1)
end
def jE:Bool->Keyed->Array Keyed->Nat->Nat->Nat->StateT SortSt Sem (Option Nat):=sortPriv% PySem.Builtin.gallop
def k7 (lf:Bool) (key:Keyed) (xs:Array Keyed) (bs i:Nat):StateT SortSt Sem (Option Bool):=do
 let z <- elem' xs (bs+i)
 if lf then lt' z key else return (<- lt' key z).map (!·)
theorem aq8 (lf:Bool) (key:Keyed) (xs:Array Keyed) (bs n h:Nat):jE lf key xs bs n h=(do
 let mut la:=0
 let mut of:=1
 let mut l:=0
 let mut g:=0
 let some rt <- k7 lf key xs bs h | return none
 if rt then
  let mx:=n - h
  for _ in [0:n] do
   if of >= mx then break
   let some mr <- k7 lf key xs bs (h+of) | return none
   if !mr then break
   la:=of
   of:=2 * of+1
  l:=h+la+1
  g:=h+min of mx
 else
  let mx:=h+1
  for _ in [0:n] do
   if of >= mx then break
   let some fd <- k7 lf key xs bs (h - of) | return none
   if fd then break
   la:=of
   of:=2 * of+1
  l:=h+1 - min of mx
  g:=h - la
 for _ in [0:n] do
  if l >= g then break
  let m:=l+(g - l) / 2
  let some mr <- k7 lf key xs bs m | return none
  if mr then l:=m+1 else g:=m
 return some g):=rfl
section
variable {rk : Keyed → Int} {κ : SortKind} {st : SortSt} {prog : Program} {w : World} {A : Around} {E : Value → Shared → Prop} {s : Shared} {Ok : Keyed → Prop}
def bS (rk:Keyed->Int) (lf:Bool) (key:Keyed) (xs:Array Keyed) (bs i:Nat):Bool:=if lf then decide (Kr rk xs (bs+i) < rk key) else decide (Kr rk xs (bs+i)<=rk key)
theorem pQ (c:c6 prog w A E s κ Ok rk) (hk:kindOf st=κ) {lf:Bool}{key:Keyed}{xs:Array Keyed}{bs i:Nat}{Q:Option Bool->SortSt->Prop} (ok:Ok key) (o:bK Ok xs) (hi:bs+i < xs.size)
  (h:Q (some (bS rk lf key xs bs i)) st):wpS (model prog w) A E s (k7 lf key xs bs i) Q st:=by
 unfold k7
 refine aO5 (cL hi ?_)
 unfold bS at h
 rw [bU hi] at h
 cases lf with
 | true=>
  simp only [if_true] at h ⊢
  exact c _ _ (o _ (aR4 hi)) ok st Q hk h
 | false=>
  simp only [aQ1,aV0] at h ⊢
  refine aO5 (c _ _ ok (o _ (aR4 hi)) st _ hk (aP3 ?_))
  have e:(!decide (rk key < rk xs[bs+i]))=decide (rk xs[bs+i]<=rk key):=by
   by_cases z:rk xs[bs+i]<=rk key
   ·rw [aO4 z,aO1 (by omega)]; rfl
   ·rw [aO1 z,aO4 (by omega)]; rfl
  show Q (some (!decide (rk key < rk xs[bs+i]))) st
  rw [e]; exact h
abbrev GS:=Option (Option Nat) × Nat × Nat
def A9 (lf:Bool) (key:Keyed) (xs:Array Keyed) (bs n l g:Nat):StateT SortSt Sem GS:=forIn [0:n] ((none,l,g):GS) fun _ r=>
 if r.2.1 >= r.2.2 then pure (ForInStep.done (none,r.2.1,r.2.2)) else do
  match <- k7 lf key xs bs (r.2.1+(r.2.2 - r.2.1) / 2) with
  | some q=>if q=true then pure (ForInStep.yield (none,r.2.1+(r.2.2 - r.2.1) / 2+1,r.2.2)) else pure (ForInStep.yield (none,r.2.1,r.2.1+(r.2.2 - r.2.1) / 2))
  | _=>pure (ForInStep.done (some none,r.2.1,r.2.2))
theorem B0 (c:c6 prog w A E s κ Ok rk) (hk:kindOf st=κ) {lf:Bool}{key:Keyed}{xs:Array Keyed}{bs n l g:Nat}{Q:GS->SortSt->Prop} (ok:Ok key) (o:bK Ok xs) (hz:bs+n<=xs.size)
  (mono:∀ i j,i<=j->j < n->bS rk lf key xs bs j=true->bS rk lf key xs bs i=true) (hlg:l<=g) (hg:g<=n) (h1:∀ i,i < l->bS rk lf key xs bs i=true) (h2:∀ i,g<=i->i < n->bS rk lf key xs bs i=false)
  (hq:∀ k,k<=n->(∀ i,i < k->bS rk lf key xs bs i=true)->(∀ i,k<=i->i < n->bS rk lf key xs bs i=false)->Q (none,k,k) st):wpS (model prog w) A E s (A9 lf key xs bs n l g) Q st:=by
 unfold A9
 refine aV2 (I:=fun x r st'=>st'=st/\∃ l g,r=(none,l,g)/\l<=g/\g<=n/\g - l<=n - x/\(∀ i,i < l->bS rk lf key xs bs i=true)/\∀ i,g<=i->i < n->bS rk lf key xs bs i=false) ?_ ?_ ⟨rfl,l,g,rfl,hlg,hg,by omega,h1,h2⟩
 ·rintro x r st' _ hx ⟨rfl,l,g,rfl,d1,d2,d3,f1,f2⟩
  dsimp only
  by_cases hc:l >= g
  ·rw [if_pos hc]
   have e:g=l:=by omega
   subst e
   exact aP3 (hq g d2 f1 f2)
  ·rw [if_neg hc]
   refine aO5 (pQ c hk ok o (by omega) ?_)
   cases z:bS rk lf key xs bs (l+(g - l) / 2) with
   | true=>exact aP3 ⟨rfl,_,_,rfl,by omega,d2,by omega,fun i hi=>mono i (l+(g - l) / 2) (by omega) (by omega) z,f2⟩
   | false=>
    refine aP3 ⟨rfl,_,_,rfl,by omega,by omega,by omega,f1,fun i i1 i2=>?_⟩
    cases y:bS rk lf key xs bs i with
    | false=>rfl
    | true=>rw [mono _ i i1 i2 y] at z; cases z
 ·rintro r st' ⟨rfl,l,g,rfl,d1,d2,d3,f1,f2⟩
  have e:g=l:=by omega
  subst e
  exact hq g d2 f1 f2
theorem lE (c:c6 prog w A E s κ Ok rk) (hk:kindOf st=κ) {lf:Bool}{key:Keyed}{xs:Array Keyed}{bs n h:Nat}{Q:Option Nat->SortSt->Prop} (ok:Ok key) (o:bK Ok xs) (hh:h < n) (hz:bs+n<=xs.size) (u:Up rk xs bs (bs+n))
  (hq:∀ k,k<=n->(∀ i,i < k->bS rk lf key xs bs i=true)->(∀ i,k<=i->i < n->bS rk lf key xs bs i=false)->Q (some k) st):wpS (model prog w) A E s (jE lf key xs bs n h) Q st:=by
 have mono:∀ i j,i<=j->j < n->bS rk lf key xs bs j=true->bS rk lf key xs bs i=true:=fun i j hij hj e=>by
  have:=u (bs+i) (bs+j) (by omega) (by omega) (by omega)
  unfold bS at e ⊢
  cases lf with
  | true=>simp only [if_true,aQ3] at e ⊢; omega
  | false=>simp only [aQ1,aV0,aQ3] at e ⊢; omega
 have monf:∀ i j,i<=j->j < n->bS rk lf key xs bs i=false->bS rk lf key xs bs j=false:=fun i j hij hj e=>by
  cases z:bS rk lf key xs bs j with
  | false=>rfl
  | true=>rw [mono i j hij hj z] at e; cases e
 rw [aq8]
 refine aO5 (pQ c hk ok o (by omega) ?_)
 dsimp only
 cases z:bS rk lf key xs bs h with
 | true=>
  rw [if_pos rfl]
  refine aO5 (bc4 (aV2 (I:=fun x r st'=>st'=st/\∃ la of,r=(none,la,of)/\la < of/\x < of/\h+la < n/\bS rk lf key xs bs (h+la)=true)
   (Q:=fun r st'=>st'=st/\∃ la of,r=(none,la,of)/\la < of/\h+la < n/\bS rk lf key xs bs (h+la)=true/\(of < n - h->bS rk lf key xs bs (h+of)=false)) ?_ ?_ ⟨rfl,0,1,rfl,by omega,by omega,by omega,z⟩) ?_)
  ·rintro x r st' _ hx ⟨rfl,la,of,rfl,d1,d2,d3,f⟩
   dsimp only
   by_cases hc:of >= n - h
   ·rw [if_pos hc]
    exact aP3 ⟨rfl,la,of,rfl,d1,d3,f,fun y=>absurd y (by omega)⟩
   ·rw [if_neg hc]
    refine aO5 (pQ c hk ok o (by omega) ?_)
    cases y:bS rk lf key xs bs (h+of) with
    | true=>exact aP3 ⟨rfl,of,2 * of+1,rfl,by omega,by omega,by omega,y⟩
    | false=>exact aP3 ⟨rfl,la,of,rfl,d1,d3,f,fun _=>y⟩
  ·rintro r st' ⟨rfl,la,of,rfl,d1,d2,d3,f⟩
   exact⟨rfl,la,of,rfl,d1,d3,f,fun y=>absurd y (by omega)⟩
  ·rintro r st' ⟨rfl,la,of,rfl,d1,d3,f,ft⟩
   dsimp only
   refine aO5 (B0 (l:=h+la+1) (g:=h+min of (n - h)) c hk ok o hz mono (by omega) (by omega) (fun i hi=>mono i (h+la) (by omega) d3 f) (fun i i1 i2=>?_) fun k k1 k2 k3=>aP3 (hq k k1 k2 k3))
   rcases aS3 of (n - h) with y | y
   ·exact monf (h+of) i (by omega) i2 (ft y)
   ·exact absurd i1 (by omega)
 | false=>
  rw [if_neg aP9]
  refine aO5 (bc4 (aV2 (I:=fun x r st'=>st'=st/\∃ la of,r=(none,la,of)/\la < of/\x < of/\la<=h/\bS rk lf key xs bs (h - la)=false)
   (Q:=fun r st'=>st'=st/\∃ la of,r=(none,la,of)/\la < of/\la<=h/\bS rk lf key xs bs (h - la)=false/\(of < h+1->bS rk lf key xs bs (h - of)=true)) ?_ ?_ ⟨rfl,0,1,rfl,by omega,by omega,by omega,z⟩) ?_)
  ·rintro x r st' _ hx ⟨rfl,la,of,rfl,d1,d2,d3,f⟩
   dsimp only
   by_cases hc:of >= h+1
   ·rw [if_pos hc]
    exact aP3 ⟨rfl,la,of,rfl,d1,d3,f,fun y=>absurd y (by omega)⟩
   ·rw [if_neg hc]
    refine aO5 (pQ c hk ok o (by omega) ?_)
    cases y:bS rk lf key xs bs (h - of) with
    | false=>exact aP3 ⟨rfl,of,2 * of+1,rfl,by omega,by omega,by omega,y⟩
    | true=>exact aP3 ⟨rfl,la,of,rfl,d1,d3,f,fun _=>y⟩
  ·rintro r st' ⟨rfl,la,of,rfl,d1,d2,d3,f⟩
   exact⟨rfl,la,of,rfl,d1,d3,f,fun y=>absurd y (by omega)⟩
  ·rintro r st' ⟨rfl,la,of,rfl,d1,d3,f,ft⟩
   dsimp only
   refine aO5 (B0 (l:=h+1 - min of (h+1)) (g:=h - la) c hk ok o hz mono (by omega) (by omega) (fun i hi=>?_) (fun i i1 i2=>monf (h - la) i i1 i2 f) fun k k1 k2 k3=>aP3 (hq k k1 k2 k3))
   rcases aS3 of (h+1) with y | y
   ·exact mono i (h - of) (by omega) (by omega) (ft y)
   ·exact absurd hi (by omega)
end
def lF:Nat->StateT SortSt Sem Unit:=sortPriv% PySem.Builtin.setMinGallop
def uA:Array Keyed->Array Keyed->StateT SortSt Sem (Array Keyed):=sortPriv% PySem.Builtin.mergeLo
theorem aq9 (g:Nat):lF g=modify (fun st=>SortSt.mk' (kindOf st) (arrOf st) (pendingOf st) g (failedOf st)):=rfl
abbrev LS:=Option (Array Keyed) × Array Keyed × Nat × Nat × Nat × Nat × Nat
abbrev uB:=Option (Array Keyed) × Array Keyed × Nat × Nat × Nat × Nat
abbrev LO:=Option (Array Keyed) × Array Keyed × Nat × Nat × Nat
def pS (x y o:Array Keyed) (i j mg p q:Nat):StateT SortSt Sem (ForInStep LS):=do
 let v <- elem' x i
 if (i+1+1 == x.size)=true then pure (.done (some (o.push v ++ y.extract j y.size ++ x.extract (i+1) x.size),o.push v,i+1,j,mg,p,q))
 else if (decide (p < 7) && decide (q < 7))=true then pure (.done (none,o.push v,i+1,j,mg,p,q)) else pure (.yield (none,o.push v,i+1,j,mg,p,q))
def pT (x y o:Array Keyed) (i j mg p q:Nat):StateT SortSt Sem (ForInStep LS):=do
 let v <- elem' y j
 if (j+1 == y.size)=true then pure (.done (some (o.push v ++ x.extract i x.size ++ y.extract (j+1) y.size),o.push v,i,j+1,mg,p,q)) else do
  let u <- elem' x i
  match <- jE true u y (j+1) (y.size - (j+1)) 0 with
  | some k=>
   if k > 0 then
    if (j+1+k == y.size)=true then pure (.done (some (o.push v ++ y.extract (j+1) (j+1+k) ++ x.extract i x.size ++ y.extract (j+1+k) y.size),o.push v ++ y.extract (j+1) (j+1+k),i,j+1+k,mg,p,k))
    else pS x y (o.push v ++ y.extract (j+1) (j+1+k)) i (j+1+k) mg p k
   else pS x y (o.push v) i (j+1) mg p k
  | _=>pure (.done (some (o.push v ++ x.extract i x.size ++ y.extract (j+1) y.size),o.push v,i,j+1,mg,p,q))
def pU (x y o:Array Keyed) (i j mg p q:Nat):StateT SortSt Sem (ForInStep LS):=do
 lF mg
 let v <- elem' y j
 match <- jE false v x i (x.size - i) 0 with
 | some k=>
  if k > 0 then
   if (i+k+1 == x.size)=true then pure (.done (some (o ++ x.extract i (i+k) ++ y.extract j y.size ++ x.extract (i+k) x.size),o ++ x.extract i (i+k),i+k,j,mg,k,q))
   else if (i+k == x.size)=true then pure (.done (some (o ++ x.extract i (i+k) ++ x.extract (i+k) x.size ++ y.extract j y.size),o ++ x.extract i (i+k),i+k,j,mg,k,q))
   else pT x y (o ++ x.extract i (i+k)) (i+k) j mg k q
  else pT x y o i j mg k q
 | _=>pure (.done (some (o ++ x.extract i x.size ++ y.extract j y.size),o,i,j,mg,p,q))
def uC (x y o:Array Keyed) (i j mg p q:Nat):StateT SortSt Sem LS:=forIn [0:x.size+y.size] ((none,o,i,j,mg,p,q):LS) fun _ r=>
 if r.2.2.2.2.1 > 1 then pU x y r.2.1 r.2.2.1 r.2.2.2.1 (r.2.2.2.2.1 - 1) r.2.2.2.2.2.1 r.2.2.2.2.2.2 else pU x y r.2.1 r.2.2.1 r.2.2.2.1 r.2.2.2.2.1 r.2.2.2.2.2.1 r.2.2.2.2.2.2
def uD (x y o:Array Keyed) (i j mg:Nat):StateT SortSt Sem uB:=forIn [0:x.size+y.size] ((none,o,i,j,0,0):uB) fun _ r=>do
 let v <- elem' y r.2.2.2.1
 let u <- elem' x r.2.2.1
 match <- lt' v u with
 | some q=>
  if q=true then do
   let v <- elem' y r.2.2.2.1
   if (r.2.2.2.1+1 == y.size)=true then pure (.done (some (r.2.1.push v ++ x.extract r.2.2.1 x.size ++ y.extract (r.2.2.2.1+1) y.size),r.2.1.push v,r.2.2.1,r.2.2.2.1+1,0,r.2.2.2.2.2+1))
   else if r.2.2.2.2.2+1 >= mg then pure (.done (none,r.2.1.push v,r.2.2.1,r.2.2.2.1+1,0,r.2.2.2.2.2+1)) else pure (.yield (none,r.2.1.push v,r.2.2.1,r.2.2.2.1+1,0,r.2.2.2.2.2+1))
  else do
   let u <- elem' x r.2.2.1
   if (r.2.2.1+1+1 == x.size)=true then pure (.done (some (r.2.1.push u ++ y.extract r.2.2.2.1 y.size ++ x.extract (r.2.2.1+1) x.size),r.2.1.push u,r.2.2.1+1,r.2.2.2.1,r.2.2.2.2.1+1,0))
   else if r.2.2.2.2.1+1 >= mg then pure (.done (none,r.2.1.push u,r.2.2.1+1,r.2.2.2.1,r.2.2.2.2.1+1,0)) else pure (.yield (none,r.2.1.push u,r.2.2.1+1,r.2.2.2.1,r.2.2.2.2.1+1,0))
 | _=>pure (.done (some (r.2.1 ++ x.extract r.2.2.1 x.size ++ y.extract r.2.2.2.1 y.size),r.2.1,r.2.2.1,r.2.2.2.1,r.2.2.2.2.1,r.2.2.2.2.2))
def B1 (x y o:Array Keyed) (i j mg:Nat):StateT SortSt Sem LO:=forIn [0:x.size+y.size] ((none,o,i,j,mg):LO) fun _ r=>do
 let u <- uD x y r.2.1 r.2.2.1 r.2.2.2.1 r.2.2.2.2
 match u.1 with
 | some z=>pure (.done (some z,u.2.1,u.2.2.1,u.2.2.2.1,r.2.2.2.2))
 | none=>do
  liftM (rule "list.sort.gallop")
  let v <- uC x y u.2.1 u.2.2.1 u.2.2.2.1 (r.2.2.2.2+1) u.2.2.2.2.1 u.2.2.2.2.2
  match v.1 with
  | some z=>pure (.done (some z,v.2.1,v.2.2.1,v.2.2.2.1,v.2.2.2.2.1))
  | none=>do
   lF (v.2.2.2.2.1+1)
   pure (.yield (none,v.2.1,v.2.2.1,v.2.2.2.1,v.2.2.2.2.1+1))
theorem ar0 (x y:Array Keyed):uA x y=(do
 liftM (rule "list.sort.merge-lo")
 let v <- elem' y 0
 if (1 == y.size)=true then pure (#[v] ++ x.extract 0 x.size ++ y.extract 1 y.size)
 else if (0+1 == x.size)=true then pure (#[v] ++ y.extract 1 y.size ++ x.extract 0 x.size)
 else do
  let z <- get
  let r <- B1 x y #[v] 0 1 (gallopOf z)
  match r.1 with
  | some z=>pure z
  | none=>unsupported "internal:list.sort.merge-bound"):=by kernel_rfl
section
variable (rk : Keyed → Int)
def Sd (l:List Keyed):Prop:=l.Pairwise fun a b=>rk a<=rk b
structure MI (xs ys o:List Keyed) (i j:Nat):Prop where
 pm:o.Perm (xs.take i ++ ys.take j)
 sx:Sd rk (o ++ xs.drop i)
 sy:Sd rk (o ++ ys.drop j)
end
variable {rk : Keyed → Int} {xs ys o : List Keyed} {i j : Nat}
theorem Sd.ins {o a b d:List Keyed} (h1:Sd rk (o ++ a)) (h2:Sd rk (o ++ (b ++ d))) (h:∀ u ∈ b,∀ t ∈ a,rk u<=rk t):Sd rk ((o ++ b) ++ a):=by
 unfold Sd at *
 rw [aP8]
 obtain ⟨p1,p2,p3⟩:=aQ2.mp h1
 obtain ⟨q1,q2,q3⟩:=aQ2.mp h2
 obtain ⟨r1,r2,r3⟩:=aQ2.mp q2
 refine aQ2.mpr ⟨p1,aQ2.mpr ⟨r1,p2,h⟩,fun u hu t ht=>?_⟩
 rcases aS7.mp ht with z | z
 ·exact q3 u hu t (aT8 _ z)
 ·exact p3 u hu t z
theorem MI.ofy (m:MI rk xs ys o i j) (k:Nat) (h:∀ u ∈ (ys.drop j).take k,∀ t ∈ xs.drop i,rk u<=rk t):MI rk xs ys (o ++ (ys.drop j).take k) i (j+k):=by
 have e:(ys.drop j).take k ++ ys.drop (j+k)=ys.drop j:=by rw [<- List.drop_drop]; exact aQ9 k _
 refine⟨?_,Sd.ins m.sx (d:=ys.drop (j+k)) (by rw [e]; exact m.sy) h,by rw [aP8,e]; exact m.sy⟩
 rw [List.take_add,<- aP8]
 exact m.pm.append_right _
theorem MI.ofx (m:MI rk xs ys o i j) (k:Nat) (h:∀ u ∈ (xs.drop i).take k,∀ t ∈ ys.drop j,rk u<=rk t):MI rk xs ys (o ++ (xs.drop i).take k) (i+k) j:=by
 have e:(xs.drop i).take k ++ xs.drop (i+k)=xs.drop i:=by rw [<- List.drop_drop]; exact aQ9 k _
 refine⟨?_,by rw [aP8,e]; exact m.sx,Sd.ins m.sy (d:=xs.drop (i+k)) (by rw [e]; exact m.sx) h⟩
 rw [List.take_add]
 refine (m.pm.append_right _).trans ?_
 rw [aP8,aP8]
 exact (aU3).append_left _
theorem MI.fin (m:MI rk xs ys o i j) (h:xs.length<=i ∨ ys.length<=j):(o ++ xs.drop i ++ ys.drop j).Perm (xs ++ ys)/\Sd rk (o ++ xs.drop i ++ ys.drop j):=by
 refine⟨?_,?_⟩
 ·rw [aP8]
  refine (m.pm.append_right _).trans ?_
  have e1:xs=xs.take i ++ xs.drop i:=(aQ9 i xs).symm
  have e2:ys=ys.take j ++ ys.drop j:=(aQ9 j ys).symm
  conv=>rhs; rw [e1,e2]
  rw [aP8,aP8]
  refine bb7 _ ?_
  rw [<- aP8,<- aP8]
  exact (aU3).append_right _
 ·rcases h with h | h
  ·rw [List.drop_eq_nil_of_le h,aY8]; exact m.sy
  ·rw [List.drop_eq_nil_of_le h,aY8]; exact m.sx
theorem MI.lst (m:MI rk xs ys o i j) (h:∀ u ∈ ys,∀ t ∈ xs.drop i,rk u<=rk t):(o ++ ys.drop j ++ xs.drop i).Perm (xs ++ ys)/\Sd rk (o ++ ys.drop j ++ xs.drop i):=by
 have m2:=m.ofy ys.length fun u hu t ht=>h u (List.mem_of_mem_drop (aZ9 hu)) t ht
 have e:(ys.drop j).take ys.length=ys.drop j:=aX1 (by simp)
 rw [e] at m2
 have f:=m2.fin (.inr (by omega))
 rw [List.drop_eq_nil_of_le (as:=ys) (i:=j+ys.length) (by omega),aY8] at f
 exact f
theorem B2 {x:Array Keyed}{i k:Nat}{u:Keyed} (h:u ∈ (x.toList.drop i).take k):∃ t,t < k/\i+t < x.size/\rk u=Kr rk x (i+t):=by
 obtain ⟨t,ht,e⟩:=aU4 h
 have h1:t < k/\i+t < x.size:=by simp at ht; omega
 refine⟨t,h1.1,h1.2,?_⟩
 rw [bU h1.2,<- e]
 simp
theorem nK {x:Array Keyed}{i:Nat}{u:Keyed} (h:u ∈ x.toList.drop i):∃ t,i+t < x.size/\rk u=Kr rk x (i+t):=by
 obtain ⟨t,ht,e⟩:=aU4 h
 have h1:i+t < x.size:=by simp at ht; omega
 refine⟨t,h1,?_⟩
 rw [bU h1,<- e]
 simp
theorem Sd.up {x:Array Keyed} (h:Sd rk x.toList) (lo hi:Nat) (hh:hi<=x.size):Up rk x lo hi:=fun i j _ hij hj=>by
 rw [bU (by omega:i < x.size),bU (by omega:j < x.size)]
 rcases bb4 hij with z | z
 ·subst z; exact aN9 _
 ·have:=aR6.mp h i j (by simp; omega) (by simp; omega) z
  simpa using this
theorem B3 (x:Array Keyed) (i k:Nat):(x.extract i (i+k)).toList=(x.toList.drop i).take k:=by
 simp [List.extract]
theorem pV (x:Array Keyed) (i:Nat):(x.extract i x.size).toList=x.toList.drop i:=by
 simp [List.extract]
 exact aX1 (by simp)
theorem k8 {x:Array Keyed}{i:Nat} (h:i < x.size) : [x[i]]=(x.toList.drop i).take 1:=by
 rw [aZ3 (by simpa using h)]; simp
structure Gq (st st':SortSt):Prop where
 kd:kindOf st'=kindOf st
 ar:arrOf st'=arrOf st
 pd:pendingOf st'=pendingOf st
 ok:failedOf st'=failedOf st
theorem Gq.refl (st:SortSt):Gq st st:=⟨rfl,rfl,rfl,rfl⟩
section
variable {κ : SortKind} {st : SortSt} {prog : Program} {w : World} {A : Around} {E : Value → Shared → Prop} {s : Shared} {Ok : Keyed → Prop}
theorem pW {st0:SortSt}{g:Nat}{Q:Unit->SortSt->Prop} (q:Gq st0 st) (h:∀ st',Gq st0 st'->Q () st'):wpS (model prog w) A E s (lF g) Q st:=by
 rw [aq9]; exact wpS_modify (h _ ⟨q.kd,q.ar,q.pd,q.ok⟩)
def dD (rk:Keyed->Int) (x y r:Array Keyed):Prop:=r.toList.Perm (x.toList ++ y.toList)/\Sd rk r.toList
theorem MI.y1 {x y o:Array Keyed} (m:MI rk x.toList y.toList o.toList i j) (hj:j < y.size) (h:∀ t,i+t < x.size->rk y[j]<=Kr rk x (i+t)):MI rk x.toList y.toList (o.push y[j]).toList i (j+1):=by
 have:=m.ofy 1 fun u hu t ht=>?_
 ·rw [<- k8 hj] at this; simpa using this
 ·rw [<- k8 hj,aP0] at hu
  subst hu
  obtain ⟨q,q1,q2⟩:=nK (rk:=rk) ht
  rw [q2]; exact h q q1
theorem MI.x1 {x y o:Array Keyed} (m:MI rk x.toList y.toList o.toList i j) (hi:i < x.size) (h:∀ t,j+t < y.size->rk x[i]<=Kr rk y (j+t)):MI rk x.toList y.toList (o.push x[i]).toList (i+1) j:=by
 have:=m.ofx 1 fun u hu t ht=>?_
 ·rw [<- k8 hi] at this; simpa using this
 ·rw [<- k8 hi,aP0] at hu
  subst hu
  obtain ⟨q,q1,q2⟩:=nK (rk:=rk) ht
  rw [q2]; exact h q q1
theorem MI.yk {x y o:Array Keyed} (m:MI rk x.toList y.toList o.toList i j) (k:Nat) (h:∀ p t,p < k->j+p < y.size->i+t < x.size->Kr rk y (j+p)<=Kr rk x (i+t)):MI rk x.toList y.toList (o ++ y.extract j (j+k)).toList i (j+k):=by
 have:=m.ofy k fun u hu t ht=>?_
 ·rw [<- B3] at this; rw [aU5]; exact this
 ·obtain ⟨p,p1,p2,p3⟩:=B2 (rk:=rk) hu
  obtain ⟨q,q1,q2⟩:=nK (rk:=rk) ht
  rw [q2,p3]; exact h p q p1 p2 q1
theorem MI.xk {x y o:Array Keyed} (m:MI rk x.toList y.toList o.toList i j) (k:Nat) (h:∀ p t,p < k->i+p < x.size->j+t < y.size->Kr rk x (i+p)<=Kr rk y (j+t)):MI rk x.toList y.toList (o ++ x.extract i (i+k)).toList (i+k) j:=by
 have:=m.ofx k fun u hu t ht=>?_
 ·rw [<- B3] at this; rw [aU5]; exact this
 ·obtain ⟨p,p1,p2,p3⟩:=B2 (rk:=rk) hu
  obtain ⟨q,q1,q2⟩:=nK (rk:=rk) ht
  rw [q2,p3]; exact h p q p1 p2 q1
theorem lG {key:Keyed}{xs:Array Keyed}{bs i:Nat}:bS rk false key xs bs i=decide (Kr rk xs (bs+i)<=rk key):=rfl
theorem lH {key:Keyed}{xs:Array Keyed}{bs i:Nat}:bS rk true key xs bs i=decide (Kr rk xs (bs+i) < rk key):=rfl
def GI (rk:Keyed->Int) (x y:Array Keyed) (lb:Nat) (st:SortSt) (c:LS) (st':SortSt):Prop:=Gq st st'/\∃ o i j mg p q,c=(none,o,i,j,mg,p,q)/\MI rk x.toList y.toList o.toList i j/\i+1 < x.size/\j < y.size/\lb<=i+j
def GQ (rk:Keyed->Int) (x y:Array Keyed) (lb:Nat) (st:SortSt) (c:LS) (st':SortSt):Prop:=Gq st st'/\((∃ r o i j mg p q,c=(some r,o,i,j,mg,p,q)/\dD rk x y r) ∨ ∃ o i j mg p q,c=(none,o,i,j,mg,p,q)/\MI rk x.toList y.toList o.toList i j/\i+1 < x.size/\j < y.size/\lb<=i+j)
def GR (rk:Keyed->Int) (x y:Array Keyed) (lb:Nat) (st:SortSt) (r:ForInStep LS) (st':SortSt):Prop:=match r with | .done c=>GQ rk x y lb st c st' | .yield c=>GI rk x y lb st c st'
theorem MI.done {x y o:Array Keyed} (m:MI rk x.toList y.toList o.toList i j) (hh:x.size<=i ∨ y.size<=j):dD rk x y (o ++ x.extract i x.size ++ y.extract j y.size):=by
 unfold dD
 rw [aU5,aU5,pV,pV]
 exact m.fin (by simpa using hh)
theorem MI.last {x y o:Array Keyed} (m:MI rk x.toList y.toList o.toList i j) (x0:0 < x.size) (hl:∀ u ∈ y.toList,rk u<=rk x[x.size - 1]) (hh:i+1=x.size):dD rk x y (o ++ y.extract j y.size ++ x.extract i x.size):=by
 unfold dD
 rw [aU5,aU5,pV,pV]
 refine m.lst fun u hu t ht=>?_
 obtain ⟨q,q1,q2⟩:=nK (rk:=rk) ht
 have e:i+q=x.size - 1:=by omega
 rw [q2,e,bU (by omega)]
 exact hl u hu
theorem B4 {st0:SortSt}{x y o:Array Keyed}{mg p q lb:Nat} (x0:0 < x.size) (hl:∀ u ∈ y.toList,rk u<=rk x[x.size - 1]) (g:Gq st0 st) (m:MI rk x.toList y.toList o.toList i j) (hi:i+1 < x.size) (hj:j < y.size) (hb:lb<=i+j)
  (hm:∀ t,j+t < y.size->rk x[i]<=Kr rk y (j+t)):wpS (model prog w) A E s (pS x y o i j mg p q) (GR rk x y lb st0) st:=by
 unfold pS
 have hi':i < x.size:=by omega
 have m':=m.x1 hi' hm
 refine aO5 (cL hi' ?_)
 by_cases he:(i+1+1 == x.size)=true
 ·rw [if_pos he]
  have he:i+1+1=x.size:=by simpa using he
  exact aP3 ⟨g,.inl ⟨_,_,_,_,_,_,_,rfl,m'.last x0 hl he⟩⟩
 ·rw [if_neg he]
  have he:i+1+1 ≠ x.size:=by simpa using he
  split
  ·exact aP3 ⟨g,.inr ⟨_,_,_,_,_,_,rfl,m',by omega,hj,by omega⟩⟩
  ·exact aP3 ⟨g,_,_,_,_,_,_,rfl,m',by omega,hj,by omega⟩
theorem B5 (c:c6 prog w A E s κ Ok rk) {st0:SortSt} (hk:kindOf st0=κ) {x y o:Array Keyed}{mg p q lb:Nat} (ox:bK Ok x) (oy:bK Ok y) (sx:Sd rk x.toList) (sy:Sd rk y.toList) (x0:0 < x.size) (hl:∀ u ∈ y.toList,rk u<=rk x[x.size - 1]) (g:Gq st0 st) (m:MI rk x.toList y.toList o.toList i j) (hi:i+1 < x.size) (hj:j < y.size) (hb:lb<=i+j)
  (hm:∀ t,i+t < x.size->rk y[j]<=Kr rk x (i+t)):wpS (model prog w) A E s (pT x y o i j mg p q) (GR rk x y lb st0) st:=by
 unfold pT
 have hi':i < x.size:=by omega
 have m':=m.y1 hj hm
 refine aO5 (cL hj ?_)
 by_cases he:(j+1 == y.size)=true
 ·rw [if_pos he]
  have he:j+1=y.size:=by simpa using he
  exact aP3 ⟨g,.inl ⟨_,_,_,_,_,_,_,rfl,m'.done (.inr (by omega))⟩⟩
 ·rw [if_neg he]
  have he:j+1 ≠ y.size:=by simpa using he
  refine aO5 (cL hi' (aO5 (lE c (g.kd.trans hk) (ox _ (aR4 hi')) oy (by omega) (by omega) (sy.up _ _ (by omega)) fun k k1 k2 k3=>?_)))
  dsimp only
  have ux:=sx.up 0 _ (aO6 x.size)
  have mk:=m'.yk k fun p t hp _ ht=>by
   have a1:=k2 p hp
   rw [lH,aQ3] at a1
   have a2:=ux i (i+t) (by omega) (by omega) ht
   rw [bU hi'] at a2
   omega
  have km:∀ t,j+1+k+t < y.size->rk x[i]<=Kr rk y (j+1+k+t):=fun t ht=>by
   have a1:=k3 (k+t) (by omega) (by omega)
   rw [lH,aY3,<- Nat.add_assoc] at a1
   omega
  by_cases hk0:k > 0
  ·rw [if_pos hk0]
   by_cases hf:(j+1+k == y.size)=true
   ·rw [if_pos hf]
    have hf:j+1+k=y.size:=by simpa using hf
    exact aP3 ⟨g,.inl ⟨_,_,_,_,_,_,_,rfl,mk.done (.inr (by omega))⟩⟩
   ·rw [if_neg hf]
    have hf:j+1+k ≠ y.size:=by simpa using hf
    exact B4 x0 hl g mk hi (by omega) (by omega) km
  ·rw [if_neg hk0]
   have e0:k=0:=by omega
   subst e0
   exact B4 x0 hl g m' hi (by omega) (by omega) km
theorem B6 (c:c6 prog w A E s κ Ok rk) {st0:SortSt} (hk:kindOf st0=κ) {x y o:Array Keyed}{mg p q lb:Nat} (ox:bK Ok x) (oy:bK Ok y) (sx:Sd rk x.toList) (sy:Sd rk y.toList) (x0:0 < x.size) (hl:∀ u ∈ y.toList,rk u<=rk x[x.size - 1]) (g:Gq st0 st) (m:MI rk x.toList y.toList o.toList i j) (hi:i+1 < x.size) (hj:j < y.size) (hb:lb<=i+j) :
  wpS (model prog w) A E s (pU x y o i j mg p q) (GR rk x y lb st0) st:=by
 unfold pU
 refine aO5 (pW g fun st4 q4=>aO5 (cL hj (aO5 (lE c (q4.kd.trans hk) (oy _ (aR4 hj)) ox (by omega) (by omega) (sx.up _ _ (by omega)) fun k k1 k2 k3=>?_))))
 dsimp only
 have uy:=sy.up 0 _ (aO6 y.size)
 have mk:=m.xk k fun p t hp _ ht=>by
  have a1:=k2 p hp
  rw [lG,aQ3] at a1
  have a2:=uy j (j+t) (by omega) (by omega) ht
  rw [bU hj] at a2
  omega
 have km:∀ t,i+k+t < x.size->rk y[j]<=Kr rk x (i+k+t):=fun t ht=>by
  have a1:=k3 (k+t) (by omega) (by omega)
  rw [lG,aY3,<- Nat.add_assoc] at a1
  omega
 by_cases hk0:k > 0
 ·rw [if_pos hk0]
  by_cases he:(i+k+1 == x.size)=true
  ·rw [if_pos he]
   exact aP3 ⟨q4,.inl ⟨_,_,_,_,_,_,_,rfl,mk.last x0 hl (by simpa using he)⟩⟩
  ·rw [if_neg he]
   have he:i+k+1 ≠ x.size:=by simpa using he
   by_cases hf:(i+k == x.size)=true
   ·rw [if_pos hf]
    have hf:i+k=x.size:=by simpa using hf
    exact aP3 ⟨q4,.inl ⟨_,_,_,_,_,_,_,rfl,mk.done (.inl (by omega))⟩⟩
   ·rw [if_neg hf]
    have hf:i+k ≠ x.size:=by simpa using hf
    exact B5 c hk ox oy sx sy x0 hl q4 mk (by omega) hj (by omega) km
 ·rw [if_neg hk0]
  have e0:k=0:=by omega
  subst e0
  exact B5 c hk ox oy sx sy x0 hl q4 m hi hj hb km
theorem ar1 (c:c6 prog w A E s κ Ok rk) {st0:SortSt} (hk:kindOf st0=κ) {x y o:Array Keyed}{mg p q lb:Nat} (ox:bK Ok x) (oy:bK Ok y) (sx:Sd rk x.toList) (sy:Sd rk y.toList) (x0:0 < x.size) (hl:∀ u ∈ y.toList,rk u<=rk x[x.size - 1]) (g:Gq st0 st) (m:MI rk x.toList y.toList o.toList i j) (hi:i+1 < x.size) (hj:j < y.size) (hb:lb<=i+j) :
  wpS (model prog w) A E s (uC x y o i j mg p q) (GQ rk x y lb st0) st:=by
 unfold uC
 refine aV2 (I:=fun _=>GI rk x y lb st0) ?_ ?_ ⟨g,o,i,j,_,p,q,rfl,m,hi,hj,hb⟩
 ·rintro t c3 st3 _ _ ⟨q3,o,i,j,mg,p,q,rfl,m,hi,hj,pr3⟩
  dsimp only
  split
  ·exact bc4 (B6 c hk ox oy sx sy x0 hl q3 m hi hj pr3) fun r _ hr=>by cases r <;> exact hr
  ·exact bc4 (B6 c hk ox oy sx sy x0 hl q3 m hi hj pr3) fun r _ hr=>by cases r <;> exact hr
 ·rintro c3 st3 ⟨q3,o,i,j,mg,p,q,rfl,m,hi,hj,pr3⟩
  exact⟨q3,.inr ⟨_,_,_,_,_,_,rfl,m,hi,hj,pr3⟩⟩
theorem ar2 (c:c6 prog w A E s κ Ok rk) {st0:SortSt} (hk:kindOf st0=κ) {x y o:Array Keyed}{mg:Nat}{Q:uB->SortSt->Prop} (ox:bK Ok x) (oy:bK Ok y) (sx:Sd rk x.toList) (sy:Sd rk y.toList) (x0:0 < x.size) (hl:∀ u ∈ y.toList,rk u<=rk x[x.size - 1]) (g:Gq st0 st) (m:MI rk x.toList y.toList o.toList i j) (hi:i+1 < x.size) (hj:j < y.size)
  (h1:∀ r o' i' j' p q st',Gq st0 st'->dD rk x y r->Q (some r,o',i',j',p,q) st')
  (h2:∀ o' i' j' p q st',Gq st0 st'->MI rk x.toList y.toList o'.toList i' j'->i'+1 < x.size->j' < y.size->i+j+1<=i'+j'->Q (none,o',i',j',p,q) st') :
  wpS (model prog w) A E s (uD x y o i j mg) Q st:=by
 have ux:Up rk x 0 x.size:=sx.up 0 _ (aO6 _)
 have uy:Up rk y 0 y.size:=sy.up 0 _ (aO6 _)
 unfold uD
 refine aV2 (I:=fun t c st'=>Gq st0 st'/\∃ o i' j' p q,c=(none,o,i',j',p,q)/\MI rk x.toList y.toList o.toList i' j'/\i'+1 < x.size/\j' < y.size/\i+j+t<=i'+j') ?_ ?_ ⟨g,o,i,j,0,0,rfl,m,hi,hj,by omega⟩
 ·rintro t c2 st2 _ ht ⟨q2,o,i',j',p,q,rfl,m,hi,hj,pr2⟩
  dsimp only
  have hi':i' < x.size:=by omega
  refine aO5 (cL hj (aO5 (cL hi' (aO5 (c _ _ (oy _ (aR4 hj)) (ox _ (aR4 hi')) st2 _ (q2.kd.trans hk) ?_)))))
  by_cases hc:rk y[j'] < rk x[i']
  ·rw [aO4 hc]
   dsimp only
   rw [if_pos rfl]
   have m':=m.y1 hj fun t ht=>by
    have:=ux i' (i'+t) (by omega) (by omega) ht
    rw [bU hi'] at this
    omega
   refine aO5 (cL hj ?_)
   by_cases he:(j'+1 == y.size)=true
   ·rw [if_pos he]
    have he:j'+1=y.size:=by simpa using he
    exact aP3 (h1 _ _ _ _ _ _ _ q2 (m'.done (.inr (by omega))))
   ·rw [if_neg he]
    have he:j'+1 ≠ y.size:=by simpa using he
    split
    ·exact aP3 (h2 _ _ _ _ _ _ q2 m' hi (by omega) (by omega))
    ·exact aP3 ⟨q2,_,_,_,_,_,rfl,m',hi,by omega,by omega⟩
  ·rw [aO1 hc]
   dsimp only
   rw [if_neg aP9]
   have m':=m.x1 hi' fun t ht=>by
    have:=uy j' (j'+t) (by omega) (by omega) ht
    rw [bU hj] at this
    omega
   refine aO5 (cL hi' ?_)
   by_cases he:(i'+1+1 == x.size)=true
   ·rw [if_pos he]
    exact aP3 (h1 _ _ _ _ _ _ _ q2 (m'.last x0 hl (by simpa using he)))
   ·rw [if_neg he]
    have he:i'+1+1 ≠ x.size:=by simpa using he
    split
    ·exact aP3 (h2 _ _ _ _ _ _ q2 m' (by omega) hj (by omega))
    ·exact aP3 ⟨q2,_,_,_,_,_,rfl,m',by omega,hj,by omega⟩
 ·rintro c2 st2 ⟨q2,o,i',j',p,q,rfl,m,hi,hj,pr2⟩
  exact h2 _ _ _ _ _ _ q2 m hi hj (by omega)
theorem ar3 (c:c6 prog w A E s κ Ok rk) (hk:kindOf st=κ) {x y:Array Keyed}{Q:Array Keyed->SortSt->Prop} (ox:bK Ok x) (oy:bK Ok y) (sx:Sd rk x.toList) (sy:Sd rk y.toList) (x0:0 < x.size) (y0:0 < y.size)
  (hf:∀ t ∈ x.toList,rk y[0]<=rk t) (hl:∀ u ∈ y.toList,rk u<=rk x[x.size - 1])
  (h:∀ r st',Gq st st'->dD rk x y r->Q r st'):wpS (model prog w) A E s (uA x y) Q st:=by
 rw [ar0]
 refine aO5 (wpS_lift (ba4 ⟨rfl,aO5 (cL y0 ?_)⟩))
 have m0:MI rk x.toList y.toList (#[y[0]]:Array Keyed).toList 0 1:=by
  have mm:MI rk x.toList y.toList [] 0 0:=⟨by simp,sx,sy⟩
  have:=mm.ofy 1 fun u hu t ht=>?_
  ·rw [<- k8 y0] at this; exact this
  ·rw [<- k8 y0,aP0] at hu
   subst hu
   exact hf t ht
 by_cases e1:(1 == y.size)=true
 ·rw [if_pos e1]
  have e1:1=y.size:=by simpa using e1
  exact aP3 (h _ st (Gq.refl st) (m0.done (.inr (by omega))))
 ·rw [if_neg e1]
  have e1:1 ≠ y.size:=by simpa using e1
  by_cases e2:(0+1 == x.size)=true
  ·rw [if_pos e2]
   exact aP3 (h _ st (Gq.refl st) (m0.last x0 hl (by simpa using e2)))
  ·rw [if_neg e2]
   have e2:0+1 ≠ x.size:=by simpa using e2
   refine aO5 (wpS_get ?_)
   unfold B1
   refine aO5 (bc4 (aV2
    (I:=fun n c st'=>Gq st st'/\∃ o i j mg,c=(none,o,i,j,mg)/\MI rk x.toList y.toList o.toList i j/\i+1 < x.size/\j < y.size/\n+1<=i+j)
    (Q:=fun c st'=>Gq st st'/\∃ r o i j mg,c=(some r,o,i,j,mg)/\dD rk x y r) ?_ ?_ ⟨Gq.refl st,_,0,1,_,rfl,m0,by omega,by omega,by omega⟩) ?_)
   ·rintro n c1 st1 _ hn ⟨q1,o,i,j,mg,rfl,m,hi,hj,pr⟩
    dsimp only
    refine aO5 (ar2 c hk ox oy sx sy x0 hl q1 m hi hj (fun r o' i' j' p q st' g md=>aP3 ⟨g,r,_,_,_,_,rfl,md⟩) fun o' i' j' p q st' g m' hi' hj' pr'=>?_)
    refine aO5 (wpS_lift (ba4 ⟨rfl,?_⟩))
    refine aO5 (bc4 (ar1 c hk ox oy sx sy x0 hl g m' hi' hj' pr') ?_)
    rintro c3 st3 ⟨q3,⟨r,o,i3,j3,mg,p,q,rfl,md⟩ | ⟨o,i3,j3,mg,p,q,rfl,m,hi,hj,pr3⟩⟩
    ·exact aP3 ⟨q3,r,_,_,_,_,rfl,md⟩
    ·exact aO5 (pW q3 fun st4 q4=>aP3 ⟨q4,o,i3,j3,_,rfl,m,hi,hj,by omega⟩)
   ·rintro c1 st1 ⟨q1,o,i,j,mg,rfl,m,hi,hj,pr⟩
    exact absurd pr (by omega)
   ·rintro c1 st1 ⟨q1,r,o,i,j,mg,rfl,md⟩
    exact aP3 (h r _ q1 md)
end
def uE:Array Keyed->Array Keyed->StateT SortSt Sem (Array Keyed):=sortPriv% PySem.Builtin.mergeHi
abbrev LH:=Option (Array Keyed) × Nat × Nat × Array Keyed × Nat × Nat × Nat
abbrev uF:=Option (Array Keyed) × Nat × Nat × Array Keyed × Nat × Nat
abbrev LP:=Option (Array Keyed) × Nat × Nat × Array Keyed × Nat
def pX (x y o:Array Keyed) (i j mg p q:Nat):StateT SortSt Sem (ForInStep LH):=do
 let v <- elem' x (i - 1)
 if (i - 1 == 0)=true then pure (.done (some (x.extract 0 (i - 1) ++ y.extract 0 j ++ (o.push v).reverse),i - 1,j,o.push v,mg,p,q))
 else if (decide (p < 7) && decide (q < 7))=true then pure (.done (none,i - 1,j,o.push v,mg,p,q)) else pure (.yield (none,i - 1,j,o.push v,mg,p,q))
def pY (x y o:Array Keyed) (i j mg p q:Nat):StateT SortSt Sem (ForInStep LH):=do
 let v <- elem' y (j - 1)
 if (j - 1 == 1)=true then pure (.done (some (y.extract 0 (j - 1) ++ x.extract 0 i ++ (o.push v).reverse),i,j - 1,o.push v,mg,p,q)) else do
  let u <- elem' x (i - 1)
  match <- jE true u y 0 (j - 1) (j - 1 - 1) with
  | some z=>
   if j - 1 - z > 0 then
    if (z == 1)=true then pure (.done (some (y.extract 0 z ++ x.extract 0 i ++ (o.push v ++ (y.extract z (j - 1)).reverse).reverse),i,z,o.push v ++ (y.extract z (j - 1)).reverse,mg,p,j - 1 - z))
    else if (z == 0)=true then pure (.done (some (x.extract 0 i ++ y.extract 0 z ++ (o.push v ++ (y.extract z (j - 1)).reverse).reverse),i,z,o.push v ++ (y.extract z (j - 1)).reverse,mg,p,j - 1 - z))
    else pX x y (o.push v ++ (y.extract z (j - 1)).reverse) i z mg p (j - 1 - z)
   else pX x y (o.push v) i (j - 1) mg p (j - 1 - z)
  | _=>pure (.done (some (x.extract 0 i ++ y.extract 0 (j - 1) ++ (o.push v).reverse),i,j - 1,o.push v,mg,p,q))
def pZ (x y o:Array Keyed) (i j mg p q:Nat):StateT SortSt Sem (ForInStep LH):=do
 lF mg
 let v <- elem' y (j - 1)
 match <- jE false v x 0 i (i - 1) with
 | some z=>
  if i - z > 0 then
   if (z == 0)=true then pure (.done (some (x.extract 0 z ++ y.extract 0 j ++ (o ++ (x.extract z i).reverse).reverse),z,j,o ++ (x.extract z i).reverse,mg,i - z,q))
   else pY x y (o ++ (x.extract z i).reverse) z j mg (i - z) q
  else pY x y o i j mg (i - z) q
 | _=>pure (.done (some (x.extract 0 i ++ y.extract 0 j ++ o.reverse),i,j,o,mg,p,q))
def uG (x y o:Array Keyed) (i j mg p q:Nat):StateT SortSt Sem LH:=forIn [0:x.size+y.size] ((none,i,j,o,mg,p,q):LH) fun _ r=>
 if r.2.2.2.2.1 > 1 then pZ x y r.2.2.2.1 r.2.1 r.2.2.1 (r.2.2.2.2.1 - 1) r.2.2.2.2.2.1 r.2.2.2.2.2.2 else pZ x y r.2.2.2.1 r.2.1 r.2.2.1 r.2.2.2.2.1 r.2.2.2.2.2.1 r.2.2.2.2.2.2
def uH (x y o:Array Keyed) (i j mg:Nat):StateT SortSt Sem uF:=forIn [0:x.size+y.size] ((none,i,j,o,0,0):uF) fun _ r=>do
 let v <- elem' y (r.2.2.1 - 1)
 let u <- elem' x (r.2.1 - 1)
 match <- lt' v u with
 | some q=>
  if q=true then do
   let u <- elem' x (r.2.1 - 1)
   if (r.2.1 - 1 == 0)=true then pure (.done (some (x.extract 0 (r.2.1 - 1) ++ y.extract 0 r.2.2.1 ++ (r.2.2.2.1.push u).reverse),r.2.1 - 1,r.2.2.1,r.2.2.2.1.push u,r.2.2.2.2.1+1,0))
   else if r.2.2.2.2.1+1 >= mg then pure (.done (none,r.2.1 - 1,r.2.2.1,r.2.2.2.1.push u,r.2.2.2.2.1+1,0)) else pure (.yield (none,r.2.1 - 1,r.2.2.1,r.2.2.2.1.push u,r.2.2.2.2.1+1,0))
  else do
   let v <- elem' y (r.2.2.1 - 1)
   if (r.2.2.1 - 1 == 1)=true then pure (.done (some (y.extract 0 (r.2.2.1 - 1) ++ x.extract 0 r.2.1 ++ (r.2.2.2.1.push v).reverse),r.2.1,r.2.2.1 - 1,r.2.2.2.1.push v,0,r.2.2.2.2.2+1))
   else if r.2.2.2.2.2+1 >= mg then pure (.done (none,r.2.1,r.2.2.1 - 1,r.2.2.2.1.push v,0,r.2.2.2.2.2+1)) else pure (.yield (none,r.2.1,r.2.2.1 - 1,r.2.2.2.1.push v,0,r.2.2.2.2.2+1))
 | _=>pure (.done (some (x.extract 0 r.2.1 ++ y.extract 0 r.2.2.1 ++ r.2.2.2.1.reverse),r.2.1,r.2.2.1,r.2.2.2.1,r.2.2.2.2.1,r.2.2.2.2.2))
def B7 (x y o:Array Keyed) (i j mg:Nat):StateT SortSt Sem LP:=forIn [0:x.size+y.size] ((none,i,j,o,mg):LP) fun _ r=>do
 let u <- uH x y r.2.2.2.1 r.2.1 r.2.2.1 r.2.2.2.2
 match u.1 with
 | some z=>pure (.done (some z,u.2.1,u.2.2.1,u.2.2.2.1,r.2.2.2.2))
 | none=>do
  liftM (rule "list.sort.gallop")
  let v <- uG x y u.2.2.2.1 u.2.1 u.2.2.1 (r.2.2.2.2+1) u.2.2.2.2.1 u.2.2.2.2.2
  match v.1 with
  | some z=>pure (.done (some z,v.2.1,v.2.2.1,v.2.2.2.1,v.2.2.2.2.1))
  | none=>do
   lF (v.2.2.2.2.1+1)
   pure (.yield (none,v.2.1,v.2.2.1,v.2.2.2.1,v.2.2.2.2.1+1))
theorem ar4 (x y:Array Keyed):uE x y=(do
 liftM (rule "list.sort.merge-hi")
 let v <- elem' x (x.size - 1)
 if (x.size - 1 == 0)=true then pure (x.extract 0 (x.size - 1) ++ y.extract 0 y.size ++ (#[v]:Array Keyed).reverse)
 else if (y.size == 1)=true then pure (y.extract 0 y.size ++ x.extract 0 (x.size - 1) ++ (#[v]:Array Keyed).reverse)
 else do
  let z <- get
  let r <- B7 x y #[v] (x.size - 1) y.size (gallopOf z)
  match r.1 with
  | some z=>pure z
  | none=>unsupported "internal:list.sort.merge-bound"):=by kernel_rfl
structure MH (rk:Keyed->Int) (xs ys o:List Keyed) (i j:Nat):Prop where
 pm:o.Perm (xs.drop i ++ ys.drop j)
 sx:Sd rk (xs.take i ++ o)
 sy:Sd rk (ys.take j ++ o)
variable {rk : Keyed → Int} {xs ys o : List Keyed} {i j : Nat}
theorem Sd.insR {o a b d:List Keyed} (h1:Sd rk (a ++ o)) (h2:Sd rk ((d ++ b) ++ o)) (h:∀ t ∈ a,∀ u ∈ b,rk t<=rk u):Sd rk (a ++ (b ++ o)):=by
 unfold Sd at *
 obtain ⟨p1,p2,p3⟩:=aQ2.mp h1
 obtain ⟨q1,q2,q3⟩:=aQ2.mp h2
 obtain ⟨r1,r2,r3⟩:=aQ2.mp q1
 refine aQ2.mpr ⟨p1,aQ2.mpr ⟨r2,p2,fun u hu t ht=>q3 u (aQ5 _ hu) t ht⟩,fun u hu t ht=>?_⟩
 rcases aS7.mp ht with z | z
 ·exact h u hu t z
 ·exact p3 u hu t z
theorem qA (l:List Keyed) {z j:Nat} (h:z<=j):l.take z ++ (l.take j).drop z=l.take j:=by
 have e:l.take z=(l.take j).take z:=by rw [List.take_take,Nat.min_eq_left h]
 rw [e]; exact aQ9 z _
theorem uI (l:List Keyed) {z j:Nat} (h:z<=j):(l.take j).drop z ++ l.drop j=l.drop z:=by
 rw [bc7,show l.drop j=(l.drop z).drop (j - z) by rw [List.drop_drop,Nat.add_sub_cancel' h]]
 exact aQ9 _ _
theorem MH.ofy (m:MH rk xs ys o i j) {z:Nat} (hz:z<=j) (h:∀ t ∈ xs.take i,∀ u ∈ (ys.take j).drop z,rk t<=rk u):MH rk xs ys ((ys.take j).drop z ++ o) i z:=by
 refine⟨?_,Sd.insR m.sx (d:=ys.take z) (by rw [qA _ hz]; exact m.sy) h,by rw [<- aP8,qA _ hz]; exact m.sy⟩
 rw [<- uI ys hz]
 refine (m.pm.append_left _).trans ?_
 rw [<- aP8,<- aP8]
 exact (aU3).append_right _
theorem MH.ofx (m:MH rk xs ys o i j) {z:Nat} (hz:z<=i) (h:∀ t ∈ ys.take j,∀ u ∈ (xs.take i).drop z,rk t<=rk u):MH rk xs ys ((xs.take i).drop z ++ o) z j:=by
 refine⟨?_,by rw [<- aP8,qA _ hz]; exact m.sx,Sd.insR m.sy (d:=xs.take z) (by rw [qA _ hz]; exact m.sx) h⟩
 rw [<- uI xs hz,aP8]
 exact m.pm.append_left _
theorem MH.fin (m:MH rk xs ys o i j) (h:i=0 ∨ j=0):(xs.take i ++ ys.take j ++ o).Perm (xs ++ ys)/\Sd rk (xs.take i ++ ys.take j ++ o):=by
 refine⟨?_,?_⟩
 ·have e1:xs=xs.take i ++ xs.drop i:=(aQ9 i xs).symm
  have e2:ys=ys.take j ++ ys.drop j:=(aQ9 j ys).symm
  conv=>rhs; rw [e1,e2]
  rw [aP8,aP8]
  refine bb7 _ ((m.pm.append_left _).trans ?_)
  rw [<- aP8,<- aP8]
  exact (aU3).append_right _
 ·rcases h with h | h
  ·subst h; simpa using m.sy
  ·subst h; simpa using m.sx
theorem MH.fst (m:MH rk xs ys o i j) (h:∀ t ∈ ys.take j,∀ u ∈ xs,rk t<=rk u):(ys.take j ++ xs.take i ++ o).Perm (xs ++ ys)/\Sd rk (ys.take j ++ xs.take i ++ o):=by
 have m2:=m.ofx (aV7 i) fun t ht u hu=>h t ht u (aZ9 (List.mem_of_mem_drop hu))
 have f:=m2.fin (.inl rfl)
 simpa using f
theorem nL {x:Array Keyed}{i:Nat}{u:Keyed} (h:u ∈ x.toList.take i):∃ t,t < i/\t < x.size/\rk u=Kr rk x t:=by
 obtain ⟨t,ht,e⟩:=aU4 h
 have h1:t < i/\t < x.size:=by simp at ht; omega
 refine⟨t,h1.1,h1.2,?_⟩
 rw [bU h1.2,<- e]
 simp
theorem nM {x:Array Keyed}{z i:Nat}{u:Keyed} (h:u ∈ (x.toList.take i).drop z):∃ t,z<=t/\t < i/\t < x.size/\rk u=Kr rk x t:=by
 obtain ⟨t,ht,e⟩:=aU4 h
 have h1:z+t < i/\z+t < x.size:=by simp at ht; omega
 refine⟨z+t,by omega,h1.1,h1.2,?_⟩
 rw [bU h1.2,<- e]
 simp
theorem k9 (x:Array Keyed) (z i:Nat):(x.extract z i).toList=(x.toList.take i).drop z:=by
 rw [bc7]; simp [List.extract]
theorem qB (x:Array Keyed) (i:Nat):(x.extract 0 i).toList=x.toList.take i:=by
 simp [List.extract]
theorem nN {x:Array Keyed}{i:Nat} (h:i < x.size) : [x[i]]=(x.toList.take (i+1)).drop i:=by
 rw [bc7,k8 h,show i+1 - i=1 by omega]
section
variable {κ : SortKind} {st : SortSt} {prog : Program} {w : World} {A : Around} {E : Value → Shared → Prop} {s : Shared} {Ok : Keyed → Prop}
theorem MH.y1 {x y o:Array Keyed} (m:MH rk x.toList y.toList o.toList.reverse i (j+1)) (hj:j < y.size) (h:∀ t,t < i->t < x.size->Kr rk x t<=rk y[j]):MH rk x.toList y.toList (o.push y[j]).toList.reverse i j:=by
 have:=m.ofy (Nat.le_succ j) fun t ht u hu=>?_
 ·rw [<- nN hj] at this; simpa using this
 ·rw [<- nN hj,aP0] at hu
  subst hu
  obtain ⟨q,q1,q2,q3⟩:=nL (rk:=rk) ht
  rw [q3]; exact h q q1 q2
theorem MH.x1 {x y o:Array Keyed} (m:MH rk x.toList y.toList o.toList.reverse (i+1) j) (hi:i < x.size) (h:∀ t,t < j->t < y.size->Kr rk y t<=rk x[i]):MH rk x.toList y.toList (o.push x[i]).toList.reverse i j:=by
 have:=m.ofx (Nat.le_succ i) fun t ht u hu=>?_
 ·rw [<- nN hi] at this; simpa using this
 ·rw [<- nN hi,aP0] at hu
  subst hu
  obtain ⟨q,q1,q2,q3⟩:=nL (rk:=rk) ht
  rw [q3]; exact h q q1 q2
theorem MH.yk {x y o:Array Keyed} (m:MH rk x.toList y.toList o.toList.reverse i j) {z:Nat} (hz:z<=j) (h:∀ t p,t < i->t < x.size->z<=p->p < j->p < y.size->Kr rk x t<=Kr rk y p):MH rk x.toList y.toList (o ++ (y.extract z j).reverse).toList.reverse i z:=by
 have:=m.ofy hz fun t ht u hu=>?_
 ·rw [<- k9] at this; simpa using this
 ·obtain ⟨q,q1,q2,q3⟩:=nL (rk:=rk) ht
  obtain ⟨p,p1,p2,p3,p4⟩:=nM (rk:=rk) hu
  rw [q3,p4]; exact h q p q1 q2 p1 p2 p3
theorem MH.xk {x y o:Array Keyed} (m:MH rk x.toList y.toList o.toList.reverse i j) {z:Nat} (hz:z<=i) (h:∀ t p,t < j->t < y.size->z<=p->p < i->p < x.size->Kr rk y t<=Kr rk x p):MH rk x.toList y.toList (o ++ (x.extract z i).reverse).toList.reverse z j:=by
 have:=m.ofx hz fun t ht u hu=>?_
 ·rw [<- k9] at this; simpa using this
 ·obtain ⟨q,q1,q2,q3⟩:=nL (rk:=rk) ht
  obtain ⟨p,p1,p2,p3,p4⟩:=nM (rk:=rk) hu
  rw [q3,p4]; exact h q p q1 q2 p1 p2 p3
theorem MH.done {x y o:Array Keyed} (m:MH rk x.toList y.toList o.toList.reverse i j) (hh:i=0 ∨ j=0):dD rk x y (x.extract 0 i ++ y.extract 0 j ++ o.reverse):=by
 unfold dD
 rw [aU5,aU5,qB,qB,Array.toList_reverse]
 exact m.fin hh
theorem MH.frst {x y o:Array Keyed} (m:MH rk x.toList y.toList o.toList.reverse i j) (y0:0 < y.size) (hf:∀ t ∈ x.toList,rk y[0]<=rk t) (hh:j=1):dD rk x y (y.extract 0 j ++ x.extract 0 i ++ o.reverse):=by
 unfold dD
 rw [aU5,aU5,qB,qB,Array.toList_reverse]
 refine m.fst fun t ht u hu=>?_
 subst hh
 obtain ⟨q,q1,q2,q3⟩:=nL (rk:=rk) ht
 have e:q=0:=by omega
 subst e
 rw [q3,bU y0]
 exact hf u hu
structure HB (rk:Keyed->Int) (x y:Array Keyed) (lb i j:Nat) (o:Array Keyed):Prop where
 m:MH rk x.toList y.toList o.toList.reverse i j
 i0:0 < i
 i1:i < x.size
 j0:1 < j
 j1:j<=y.size
 pr:i+j+lb<=x.size+y.size
def HI (rk:Keyed->Int) (x y:Array Keyed) (lb:Nat) (st:SortSt) (c:LH) (st':SortSt):Prop:=Gq st st'/\∃ i j o mg p q,c=(none,i,j,o,mg,p,q)/\HB rk x y lb i j o
def HQ (rk:Keyed->Int) (x y:Array Keyed) (lb:Nat) (st:SortSt) (c:LH) (st':SortSt):Prop:=Gq st st'/\((∃ r i j o mg p q,c=(some r,i,j,o,mg,p,q)/\dD rk x y r) ∨ ∃ i j o mg p q,c=(none,i,j,o,mg,p,q)/\HB rk x y lb i j o)
def HR (rk:Keyed->Int) (x y:Array Keyed) (lb:Nat) (st:SortSt) (r:ForInStep LH) (st':SortSt):Prop:=match r with | .done c=>HQ rk x y lb st c st' | .yield c=>HI rk x y lb st c st'
theorem B8 {st0:SortSt}{x y o:Array Keyed}{i j mg p q lb:Nat} (g:Gq st0 st) (b:HB rk x y lb (i+1) j o) (hm:∀ (hi:i < x.size) t,t < j->t < y.size->Kr rk y t<=rk x[i]):wpS (model prog w) A E s (pX x y o (i+1) j mg p q) (HR rk x y lb st0) st:=by
 unfold pX
 obtain ⟨m,i0,i1,j0,j1,pr⟩:=b
 have hi':i < x.size:=by omega
 have m':=m.x1 hi' (hm hi')
 simp only [Nat.add_sub_cancel]
 refine aO5 (cL hi' ?_)
 by_cases he:(i == 0)=true
 ·rw [if_pos he]
  have he:i=0:=by simpa using he
  exact aP3 ⟨g,.inl ⟨_,_,_,_,_,_,_,rfl,m'.done (.inl he)⟩⟩
 ·rw [if_neg he]
  have he:i ≠ 0:=by simpa using he
  split
  ·exact aP3 ⟨g,.inr ⟨_,_,_,_,_,_,rfl,m',by omega,by omega,j0,j1,by omega⟩⟩
  ·exact aP3 ⟨g,_,_,_,_,_,_,rfl,m',by omega,by omega,j0,j1,by omega⟩
theorem B9 (c:c6 prog w A E s κ Ok rk) {st0:SortSt} (hk:kindOf st0=κ) {x y o:Array Keyed}{i j mg p q lb:Nat} (ox:bK Ok x) (oy:bK Ok y) (sx:Sd rk x.toList) (sy:Sd rk y.toList) (y0:0 < y.size) (hf:∀ t ∈ x.toList,rk y[0]<=rk t) (g:Gq st0 st) (b:HB rk x y lb (i+1) (j+1) o)
  (hm:∀ (hj:j < y.size) t,t < i+1->t < x.size->Kr rk x t<=rk y[j]):wpS (model prog w) A E s (pY x y o (i+1) (j+1) mg p q) (HR rk x y lb st0) st:=by
 unfold pY
 obtain ⟨m,i0,i1,j0,j1,pr⟩:=b
 have hi':i < x.size:=by omega
 have hj:j < y.size:=by omega
 have m':=m.y1 hj (hm hj)
 simp only [Nat.add_sub_cancel]
 refine aO5 (cL hj ?_)
 by_cases he:(j == 1)=true
 ·rw [if_pos he]
  have he:j=1:=by simpa using he
  exact aP3 ⟨g,.inl ⟨_,_,_,_,_,_,_,rfl,m'.frst y0 hf he⟩⟩
 ·rw [if_neg he]
  have he:j ≠ 1:=by simpa using he
  refine aO5 (cL hi' (aO5 (lE c (g.kd.trans hk) (ox _ (aR4 hi')) oy (by omega) (by omega) (sy.up _ _ (by omega)) fun z k1 k2 k3=>?_)))
  dsimp only
  have ux:=sx.up 0 _ (aO6 x.size)
  have mk:=m'.yk k1 fun t p ht ht' hp hp' _=>by
   have a1:=k3 p hp hp'
   rw [lH,aY3,Nat.zero_add] at a1
   have a2:=ux t i (by omega) (by omega) hi'
   rw [bU (i:=i) hi'] at a2
   omega
  have km:∀ (hi:i < x.size) t,t < z->t < y.size->Kr rk y t<=rk x[i]:=fun _ t ht _=>by
   have a1:=k2 t ht
   rw [lH,aQ3,Nat.zero_add] at a1
   omega
  by_cases hk0:j - z > 0
  ·rw [if_pos hk0]
   by_cases h1:(z == 1)=true
   ·rw [if_pos h1]
    have h1:z=1:=by simpa using h1
    exact aP3 ⟨g,.inl ⟨_,_,_,_,_,_,_,rfl,mk.frst y0 hf h1⟩⟩
   ·rw [if_neg h1]
    have h1:z ≠ 1:=by simpa using h1
    by_cases h0:(z == 0)=true
    ·rw [if_pos h0]
     have h0:z=0:=by simpa using h0
     exact aP3 ⟨g,.inl ⟨_,_,_,_,_,_,_,rfl,mk.done (.inr h0)⟩⟩
    ·rw [if_neg h0]
     have h0:z ≠ 0:=by simpa using h0
     exact B8 g ⟨mk,by omega,i1,by omega,by omega,by omega⟩ km
  ·rw [if_neg hk0]
   have e0:z=j:=by omega
   subst e0
   exact B8 g ⟨m',by omega,i1,by omega,by omega,by omega⟩ km
theorem C0 (c:c6 prog w A E s κ Ok rk) {st0:SortSt} (hk:kindOf st0=κ) {x y o:Array Keyed}{i j mg p q lb:Nat} (ox:bK Ok x) (oy:bK Ok y) (sx:Sd rk x.toList) (sy:Sd rk y.toList) (y0:0 < y.size) (hf:∀ t ∈ x.toList,rk y[0]<=rk t) (g:Gq st0 st) (b:HB rk x y lb i (j+1) o) :
  wpS (model prog w) A E s (pZ x y o i (j+1) mg p q) (HR rk x y lb st0) st:=by
 unfold pZ
 obtain ⟨m,i0,i1,j0,j1,pr⟩:=b
 have hj:j < y.size:=by omega
 simp only [Nat.add_sub_cancel]
 refine aO5 (pW g fun st4 q4=>aO5 (cL hj (aO5 (lE c (q4.kd.trans hk) (oy _ (aR4 hj)) ox (by omega) (by omega) (sx.up _ _ (by omega)) fun z k1 k2 k3=>?_))))
 dsimp only
 have uy:=sy.up 0 _ (aO6 y.size)
 have mk:=m.xk k1 fun t p ht ht' hp hp' _=>by
  have a1:=k3 p hp hp'
  rw [lG,aY3,Nat.zero_add] at a1
  have a2:=uy t j (by omega) (by omega) hj
  rw [bU (i:=j) hj] at a2
  omega
 have km:∀ (hj:j < y.size) t,t < z->t < x.size->Kr rk x t<=rk y[j]:=fun _ t ht _=>by
  have a1:=k2 t ht
  rw [lG,aQ3,Nat.zero_add] at a1
  exact a1
 by_cases hk0:i - z > 0
 ·rw [if_pos hk0]
  by_cases he:(z == 0)=true
  ·rw [if_pos he]
   exact aP3 ⟨q4,.inl ⟨_,_,_,_,_,_,_,rfl,mk.done (.inl (by simpa using he))⟩⟩
  ·rw [if_neg he]
   have he:z ≠ 0:=by simpa using he
   obtain ⟨z2,rfl⟩:∃ z2,z=z2+1:=⟨z - 1,by omega⟩
   exact B9 c hk ox oy sx sy y0 hf q4 ⟨mk,by omega,by omega,j0,j1,by omega⟩ km
 ·rw [if_neg hk0]
  have e0:z=i:=by omega
  subst e0
  obtain ⟨z2,rfl⟩:∃ z2,z=z2+1:=⟨z - 1,by omega⟩
  exact B9 c hk ox oy sx sy y0 hf q4 ⟨m,i0,i1,j0,j1,pr⟩ km
theorem ar5 (c:c6 prog w A E s κ Ok rk) {st0:SortSt} (hk:kindOf st0=κ) {x y o:Array Keyed}{i j mg p q lb:Nat} (ox:bK Ok x) (oy:bK Ok y) (sx:Sd rk x.toList) (sy:Sd rk y.toList) (y0:0 < y.size) (hf:∀ t ∈ x.toList,rk y[0]<=rk t) (g:Gq st0 st) (b:HB rk x y lb i j o) :
  wpS (model prog w) A E s (uG x y o i j mg p q) (HQ rk x y lb st0) st:=by
 unfold uG
 refine aV2 (I:=fun _=>HI rk x y lb st0) ?_ ?_ ⟨g,i,j,o,_,p,q,rfl,b⟩
 ·rintro t c3 st3 _ _ ⟨q3,i,j,o,mg,p,q,rfl,b3⟩
  obtain ⟨j3,rfl⟩:∃ j3,j=j3+1:=⟨j - 1,by have:=b3.j0; omega⟩
  dsimp only
  split
  ·exact bc4 (C0 c hk ox oy sx sy y0 hf q3 b3) fun r _ hr=>by cases r <;> exact hr
  ·exact bc4 (C0 c hk ox oy sx sy y0 hf q3 b3) fun r _ hr=>by cases r <;> exact hr
 ·rintro c3 st3 ⟨q3,i,j,o,mg,p,q,rfl,b3⟩
  exact⟨q3,.inr ⟨_,_,_,_,_,_,rfl,b3⟩⟩
theorem ar6 (c:c6 prog w A E s κ Ok rk) {st0:SortSt} (hk:kindOf st0=κ) {x y o:Array Keyed}{i j mg n:Nat}{Q:uF->SortSt->Prop} (ox:bK Ok x) (oy:bK Ok y) (sx:Sd rk x.toList) (sy:Sd rk y.toList) (y0:0 < y.size) (hf:∀ t ∈ x.toList,rk y[0]<=rk t) (g:Gq st0 st) (b:HB rk x y n i j o)
  (h1:∀ r i' j' o' p q st',Gq st0 st'->dD rk x y r->Q (some r,i',j',o',p,q) st') (h2:∀ i' j' o' p q st',Gq st0 st'->HB rk x y (n+1) i' j' o'->Q (none,i',j',o',p,q) st') :
  wpS (model prog w) A E s (uH x y o i j mg) Q st:=by
 have ux:Up rk x 0 x.size:=sx.up 0 _ (aO6 _)
 have uy:Up rk y 0 y.size:=sy.up 0 _ (aO6 _)
 unfold uH
 refine aV2 (I:=fun t c st'=>Gq st0 st'/\∃ i j o p q,c=(none,i,j,o,p,q)/\HB rk x y (n+t) i j o) ?_ ?_ ⟨g,i,j,o,0,0,rfl,b⟩
 ·rintro t c2 st2 _ ht ⟨q2,i',j',o,p,q,rfl,m,i0,i1,j0,j1,pr⟩
  obtain ⟨i2,rfl⟩:∃ i2,i'=i2+1:=⟨i' - 1,by omega⟩
  obtain ⟨j2,rfl⟩:∃ j2,j'=j2+1:=⟨j' - 1,by omega⟩
  simp only [Nat.add_sub_cancel]
  have hi:i2 < x.size:=by omega
  have hj:j2 < y.size:=by omega
  refine aO5 (cL hj (aO5 (cL hi (aO5 (c _ _ (oy _ (aR4 hj)) (ox _ (aR4 hi)) st2 _ (q2.kd.trans hk) ?_)))))
  by_cases hc:rk y[j2] < rk x[i2]
  ·rw [aO4 hc]
   dsimp only
   rw [if_pos rfl]
   have m':=m.x1 hi fun t ht _=>by
    have:=uy t j2 (by omega) (by omega) hj
    rw [bU hj] at this
    omega
   refine aO5 (cL hi ?_)
   by_cases he:(i2 == 0)=true
   ·rw [if_pos he]
    exact aP3 (h1 _ _ _ _ _ _ _ q2 (m'.done (.inl (by simpa using he))))
   ·rw [if_neg he]
    have he:i2 ≠ 0:=by simpa using he
    split
    ·exact aP3 (h2 _ _ _ _ _ _ q2 ⟨m',by omega,by omega,j0,j1,by omega⟩)
    ·exact aP3 ⟨q2,_,_,_,_,_,rfl,m',by omega,by omega,j0,j1,by omega⟩
  ·rw [aO1 hc]
   dsimp only
   rw [if_neg aP9]
   have m':=m.y1 hj fun t ht _=>by
    have:=ux t i2 (by omega) (by omega) hi
    rw [bU hi] at this
    omega
   refine aO5 (cL hj ?_)
   by_cases he:(j2 == 1)=true
   ·rw [if_pos he]
    exact aP3 (h1 _ _ _ _ _ _ _ q2 (m'.frst y0 hf (by simpa using he)))
   ·rw [if_neg he]
    have he:j2 ≠ 1:=by simpa using he
    split
    ·exact aP3 (h2 _ _ _ _ _ _ q2 ⟨m',i0,i1,by omega,by omega,by omega⟩)
    ·exact aP3 ⟨q2,_,_,_,_,_,rfl,m',i0,i1,by omega,by omega,by omega⟩
 ·rintro c2 st2 ⟨q2,i',j',o,p,q,rfl,m,i0,i1,j0,j1,pr⟩
  exact h2 _ _ _ _ _ _ q2 ⟨m,i0,i1,j0,j1,by omega⟩
theorem ar7 (c:c6 prog w A E s κ Ok rk) (hk:kindOf st=κ) {x y:Array Keyed}{Q:Array Keyed->SortSt->Prop} (ox:bK Ok x) (oy:bK Ok y) (sx:Sd rk x.toList) (sy:Sd rk y.toList) (x0:0 < x.size) (y0:0 < y.size)
  (hf:∀ t ∈ x.toList,rk y[0]<=rk t) (hl:∀ u ∈ y.toList,rk u<=rk x[x.size - 1])
  (h:∀ r st',Gq st st'->dD rk x y r->Q r st'):wpS (model prog w) A E s (uE x y) Q st:=by
 rw [ar4]
 refine aO5 (wpS_lift (ba4 ⟨rfl,aO5 (cL (by omega:x.size - 1 < x.size) ?_)⟩))
 have m0:MH rk x.toList y.toList (#[x[x.size - 1]]:Array Keyed).toList.reverse (x.size - 1) y.size:=by
  have mm:MH rk x.toList y.toList [] x.size y.size:=⟨by simp,by rw [aX1 (by simp),aY8]; exact sx,by rw [aX1 (by simp),aY8]; exact sy⟩
  have e:=nN (x:=x) (i:=x.size - 1) (by omega)
  rw [show x.size - 1+1=x.size by omega] at e
  have:=mm.ofx (Nat.sub_le x.size 1) fun t ht u hu=>?_
  ·rw [<- e] at this; simpa using this
  ·rw [<- e,aP0] at hu
   subst hu
   exact hl t (aZ9 ht)
 by_cases e1:(x.size - 1 == 0)=true
 ·rw [if_pos e1]
  exact aP3 (h _ st (Gq.refl st) (m0.done (.inl (by simpa using e1))))
 ·rw [if_neg e1]
  have e1:x.size - 1 ≠ 0:=by simpa using e1
  by_cases e2:(y.size == 1)=true
  ·rw [if_pos e2]
   exact aP3 (h _ st (Gq.refl st) (m0.frst y0 hf (by simpa using e2)))
  ·rw [if_neg e2]
   have e2:y.size ≠ 1:=by simpa using e2
   refine aO5 (wpS_get ?_)
   unfold B7
   refine aO5 (bc4 (aV2
    (I:=fun n c st'=>Gq st st'/\∃ i j o mg,c=(none,i,j,o,mg)/\HB rk x y (n+1) i j o)
    (Q:=fun c st'=>Gq st st'/\∃ r i j o mg,c=(some r,i,j,o,mg)/\dD rk x y r) ?_ ?_ ⟨Gq.refl st,_,_,_,_,rfl,m0,by omega,by omega,by omega,by omega,by omega⟩) ?_)
   ·rintro n c1 st1 _ hn ⟨q1,i,j,o,mg,rfl,b⟩
    dsimp only
    refine aO5 (ar6 c hk ox oy sx sy y0 hf q1 b (fun r o' i' j' p q st' g md=>aP3 ⟨g,r,_,_,_,_,rfl,md⟩) fun i' j' o' p q st' g b'=>?_)
    refine aO5 (wpS_lift (ba4 ⟨rfl,?_⟩))
    refine aO5 (bc4 (ar5 c hk ox oy sx sy y0 hf g b') ?_)
    rintro c3 st3 ⟨q3,⟨r,i3,j3,o,mg,p,q,rfl,md⟩ | ⟨i3,j3,o,mg,p,q,rfl,b3⟩⟩
    ·exact aP3 ⟨q3,r,_,_,_,_,rfl,md⟩
    ·exact aO5 (pW q3 fun st4 q4=>aP3 ⟨q4,i3,j3,o,_,rfl,b3⟩)
   ·rintro c1 st1 ⟨q1,i,j,o,mg,rfl,b⟩
    have:=b.pr
    exact absurd this (by omega)
   ·rintro c1 st1 ⟨q1,r,i,j,o,mg,rfl,md⟩
    exact aP3 (h r _ q1 md)
end
theorem ar8 (i:Nat):mergeAt' i=(do
 let z <- get
 let (some (sa,na,pw),some (sb,nb,_)):=((pendingOf z)[i]?,(pendingOf z)[i+1]?) | unsupported "internal:list.sort.pending"
 set (SortSt.mk' (kindOf z) (arrOf z) (((pendingOf z).setIfInBounds i (sa,na+nb,pw)).eraseIdxIfInBounds (i+1)) (gallopOf z) (failedOf z))
 let some k <- jE false (<- elem' (arrOf z) sb) (arrOf z) sa na 0 | return false
 let (sa,na):=(sa+k,na - k)
 if na == 0 then return true
 let some nb <- jE true (<- elem' (arrOf z) (sa+na - 1)) (arrOf z) sb nb (nb - 1) | return false
 if nb == 0 then return true
 let x:=(arrOf z).extract sa sb
 let y:=(arrOf z).extract sb (sb+nb)
 let m <- if na<=nb then uA x y else uE x y
 modify fun z=>setArr z (m.toList.zipIdx.foldl (fun a (p,j)=>a.setIfInBounds (sa+j) p) (arrOf z))
 return (failedOf (<- get)).isNone):=rfl
variable {rk : Keyed → Int}
theorem ar9 {σ:Type}{M:Model}{A:Around}{E:Value->Shared->Prop}{s:Shared}{a b:σ}{Q:PUnit->σ->Prop} (h:Q ⟨⟩ a):wpS M A E s (set a:StateT σ Sem PUnit) Q b:=by
 unfold wpS; rw [StateT.run_set]; exact aN8 ⟨rfl,h⟩
theorem C1 (o:Nat):∀ (m:List Keyed) (n:Nat) (a:Array Keyed) (t:Nat),o+n+m.length<=a.size->
  ((m.zipIdx n).foldl (fun a (p,j)=>a.setIfInBounds (o+j) p) a)[t]? = if o+n<=t/\t < o+n+m.length then m[t - (o+n)]? else a[t]?
 | [],n,a,t,_=>by
  show a[t]? = _
  rw [if_neg (fun z=>Nat.not_lt_of_ge z.1 z.2)]
 | p :: m,n,a,t,h=>by
  rw [List.zipIdx_cons,List.foldl_cons]
  have h':o+(n+1)+m.length<=(a.setIfInBounds (o+n) p).size:=by rw [Array.size_setIfInBounds]; simp at h; omega
  have ih:=C1 o m (n+1) (a.setIfInBounds (o+n) p) t h'
  refine ih.trans ?_
  have hs:o+n < a.size:=by simp at h; omega
  rw [Array.getElem?_setIfInBounds]
  by_cases e:o+n=t
  ·subst e
   rw [if_neg (by omega),if_pos rfl,if_pos hs,if_pos (by simp),Nat.sub_self]; rfl
  ·rw [if_neg e]
   by_cases c:o+n<=t/\t < o+n+(p :: m).length
   ·rw [if_pos c,if_pos (by simp at c; omega)]
    rw [show t - (o+n)=(t - (o+(n+1)))+1 by omega]; rfl
   ·rw [if_neg c,if_neg (by simp at c ⊢; omega)]
theorem C2 {a:Array Keyed}{lo hi:Nat} (u:Up rk a lo hi) (hh:hi<=a.size):Sd rk (a.extract lo hi).toList:=by
 unfold Sd
 rw [aR6]
 intro i j hi' hj hij
 have h2:lo+j < hi:=by simp at hj; omega
 have:=u (lo+i) (lo+j) (by omega) (by omega) h2
 rw [bU (by omega:lo+i < a.size),bU (by omega:lo+j < a.size)] at this
 simpa using this
theorem C3 {a:Array Keyed}{lo mid hi:Nat} (u:Up rk a lo mid) (v:Up rk a mid hi) (h0:lo < mid) (h1:mid < hi) (h:Kr rk a (mid - 1)<=Kr rk a mid):Up rk a lo hi:=fun i j hi' hij hj=>by
 rcases aS3 j mid with z | z
 ·exact u i j hi' hij z
 ·rcases aS3 i mid with y | y
  ·have a1:=u i (mid - 1) hi' (by omega) (by omega)
   have a2:=v mid j (aO6 _) z hj
   omega
  ·exact v i j y hij hj
theorem C4 {a:Array Keyed}{lo hi t:Nat} (h:t < hi - lo) (hh:hi<=a.size):Kr rk (a.extract lo hi) t=Kr rk a (lo+t):=by
 refine k6 ?_
 rw [Array.getElem?_extract_of_lt (by omega)]
 exact (getElem?_pos a (lo+t) (by omega)).symm
section
variable {κ : SortKind} {a0 : Array Keyed} {pd : Array (Nat × Nat × Nat)} {st : SortSt} {prog : Program} {w : World} {A : Around} {E : Value → Shared → Prop} {s : Shared} {Ok : Keyed → Prop}
theorem as0 {a m:Array Keyed}{p x e:Nat} (hpx:p<=x) (hxe:x<=e) (he:e<=a.size) (md:dD rk (a.extract p x) (a.extract x e) m) :
  let r:=m.toList.zipIdx.foldl (fun a (q,j)=>a.setIfInBounds (p+j) q) a
  r.Perm a/\(∀ t,(t < p ∨ e<=t)->Kr rk r t=Kr rk a t)/\(∀ t t',p<=t->t<=t'->t' < e->Kr rk r t<=Kr rk r t')/\∀ t,p<=t->t < e->∃ t',p<=t'/\t' < e/\Kr rk r t=Kr rk a t':=by
 intro r
 have ml:m.toList.length=e - p:=by
  rw [md.1.length_eq]; simp; omega
 have g:∀ t,r[t]? = if p<=t/\t < e then m[t - p]? else a[t]?:=fun t=>by
  have:=C1 p m.toList 0 a t (by omega)
  rw [show r=(m.toList.zipIdx 0).foldl (fun a (q,j)=>a.setIfInBounds (p+j) q) a from rfl,this]
  simp only [Nat.add_zero,ml,show p+(e - p)=e by omega,aW0]
 have ex:(a.extract p x).toList ++ (a.extract x e).toList=(a.toList.take e).drop p:=by
  rw [k9,k9,bc7,bc7,bc7]
  rw [show x=p+(x - p) by omega,<- List.drop_drop,show p+(x - p) - p=x - p by omega,show e - (p+(x - p))=(e - p) - (x - p) by omega]
  have:=aQ9 (x - p) ((a.toList.drop p).take (e - p))
  rw [List.take_take,bc7,Nat.min_eq_left (by omega)] at this
  exact this
 have rl:r.toList=a.toList.take p ++ (m.toList ++ a.toList.drop e):=by
  apply List.ext_getElem?
  intro t
  rw [aW0,g]
  rcases aS3 t p with z | z
  ·rw [if_neg (by omega),aZ2 (by simp; omega),List.getElem?_take_of_lt z,aW0]
  ·rw [bb1 (by simp; omega)]
   have lp:(a.toList.take p).length=p:=by simp; omega
   rw [lp]
   rcases aS3 t e with y | y
   ·rw [if_pos ⟨z,y⟩,aZ2 (by omega),aW0]
   ·rw [if_neg (by omega),bb1 (by omega),ml,List.getElem?_drop,aW0]
    congr 1; omega
 have mp:m.toList.Perm ((a.toList.take e).drop p):=ex ▸ md.1
 refine⟨?_,fun t ht=>k6 (by rw [g,if_neg (by omega)]),fun t t' h1 h2 h3=>?_,fun t h1 h2=>?_⟩
 ·refine Array.perm_iff_toList_perm.mpr ?_
  rw [rl]
  have:a.toList=a.toList.take p ++ ((a.toList.take e).drop p ++ a.toList.drop e):=by
   rw [uI _ (by omega:p<=e)]; exact (aQ9 p _).symm
  conv=>rhs; rw [this]
  exact (mp.append_right _).append_left _
 ·have e1:Kr rk r t=Kr rk m (t - p):=k6 (by rw [g,if_pos (by omega)])
  have e2:Kr rk r t'=Kr rk m (t' - p):=k6 (by rw [g,if_pos (by omega)])
  rw [e1,e2]
  have ms:m.size=e - p:=by rw [<- ml]; simp
  exact md.2.up 0 m.size (aO6 _) (t - p) (t' - p) (by omega) (by omega) (by omega)
 ·have e1:Kr rk r t=Kr rk m (t - p):=k6 (by rw [g,if_pos (by omega)])
  have ms:m.size=e - p:=by rw [<- ml]; simp
  have hm:t - p < m.size:=by omega
  have mm:m[t - p] ∈ (a.toList.take e).drop p:=mp.mem_iff.mp (by simp)
  obtain ⟨t',q1,q2,q3,q4⟩:=nM (rk:=rk) mm
  exact⟨t',q1,q2,by rw [e1,bU hm]; exact q4⟩
theorem as1 (c:c6 prog w A E s κ Ok rk) (o:bK Ok a0) (b:SB κ a0 pd st) {i sa na pw sb nb pw':Nat}{Q:Bool->SortSt->Prop} (e1:pd[i]? = some (sa,na,pw)) (e2:pd[i+1]? = some (sb,nb,pw')) (hs:sb=sa+na) (n0:0 < na) (m0:0 < nb) (hz:sb+nb<=a0.size)
  (u:Up rk (arrOf st) sa sb) (v:Up rk (arrOf st) sb (sb+nb))
  (h:∀ st',SB κ a0 ((pd.setIfInBounds i (sa,na+nb,pw)).eraseIdxIfInBounds (i+1)) st'->Up rk (arrOf st') sa (sb+nb)->(∀ t,(t < sa ∨ sb+nb<=t)->Kr rk (arrOf st') t=Kr rk (arrOf st) t)->Q true st'):wpS (model prog w) A E s (mergeAt' i) Q st:=by
 have sz:=b.sz
 rw [ar8]
 refine aO5 (wpS_get ?_)
 rw [b.pd,e1,e2]
 dsimp only
 refine aO5 (ar9 ?_)
 generalize hst:SortSt.mk' (kindOf st) (arrOf st) ((pd.setIfInBounds i (sa,na+nb,pw)).eraseIdxIfInBounds (i+1)) (gallopOf st) (failedOf st)=st1
 have b1:SB κ a0 ((pd.setIfInBounds i (sa,na+nb,pw)).eraseIdxIfInBounds (i+1)) st1:=by rw [<- hst]; exact⟨b.pm,b.kd,b.ok,rfl⟩
 have ar:arrOf st1=arrOf st:=by rw [<- hst]
 have oa:=b.all o
 have hsb:sb < (arrOf st).size:=by omega
 refine aO5 (cL hsb (aO5 (lE c b1.kd (oa _ (aR4 hsb)) oa n0 (by omega) (hs ▸ u) fun k k1 k2 k3=>?_)))
 dsimp only
 have k2':∀ t,sa<=t->t < sa+k->Kr rk (arrOf st) t<=Kr rk (arrOf st) sb:=fun t t1 t2=>by
  have:=k2 (t - sa) (by omega)
  rw [lG,aQ3,show sa+(t - sa)=t by omega] at this
  rw [bU hsb]; exact this
 have k3':∀ t,sa+k<=t->t < sb->Kr rk (arrOf st) sb < Kr rk (arrOf st) t:=fun t t1 t2=>by
  have:=k3 (t - sa) (by omega) (by omega)
  rw [lG,aY3,show sa+(t - sa)=t by omega] at this
  rw [bU hsb]; omega
 by_cases ek:(na - k == 0)=true
 ·rw [if_pos ek]
  have ek:na - k=0:=by simpa using ek
  refine aP3 (h st1 b1 ?_ fun t _=>by rw [ar])
  rw [ar]
  exact C3 u v (by omega) (by omega) (k2' (sb - 1) (by omega) (by omega))
 ·rw [if_neg ek]
  have ek:na - k ≠ 0:=by simpa using ek
  have el:sa+k+(na - k) - 1=sb - 1:=by omega
  rw [el]
  have hsl:sb - 1 < (arrOf st).size:=by omega
  refine aO5 (cL hsl (aO5 (lE c b1.kd (oa _ (aR4 hsl)) oa (by omega) (by omega) v fun l l1 l2 l3=>?_)))
  dsimp only
  have l2':∀ t,sb<=t->t < sb+l->Kr rk (arrOf st) t < Kr rk (arrOf st) (sb - 1):=fun t t1 t2=>by
   have:=l2 (t - sb) (by omega)
   rw [lH,aQ3,show sb+(t - sb)=t by omega] at this
   rw [bU hsl]; exact this
  have l3':∀ t,sb+l<=t->t < sb+nb->Kr rk (arrOf st) (sb - 1)<=Kr rk (arrOf st) t:=fun t t1 t2=>by
   have:=l3 (t - sb) (by omega) (by omega)
   rw [lH,aY3,show sb+(t - sb)=t by omega] at this
   rw [bU hsl]; omega
  by_cases en:(l == 0)=true
  ·rw [if_pos en]
   have en:l=0:=by simpa using en
   subst en
   refine aP3 (h st1 b1 ?_ fun t _=>by rw [ar])
   rw [ar]
   exact C3 u v (by omega) (by omega) (l3' sb (by omega) (by omega))
  ·rw [if_neg en]
   have en:l ≠ 0:=by simpa using en
   have sub:∀ p e,bK Ok ((arrOf st).extract p e):=fun p e z hz=>oa z (by
    have:z ∈ ((arrOf st).extract p e).toList:=Array.mem_toList_iff.mpr hz
    rw [k9] at this
    exact Array.mem_toList_iff.mp (aZ9 (List.mem_of_mem_drop this)))
   have sx:Sd rk ((arrOf st).extract (sa+k) sb).toList:=C2 (fun i j h1 h2 h3=>u i j (by omega) h2 h3) (by omega)
   have sy:Sd rk ((arrOf st).extract sb (sb+l)).toList:=C2 (fun i j h1 h2 h3=>v i j h1 h2 (by omega)) (by omega)
   have x0:0 < ((arrOf st).extract (sa+k) sb).size:=by simp; omega
   have y0:0 < ((arrOf st).extract sb (sb+l)).size:=by simp; omega
   have hf:∀ t ∈ ((arrOf st).extract (sa+k) sb).toList,rk ((arrOf st).extract sb (sb+l))[0]<=rk t:=fun t ht=>by
    rw [k9] at ht
    obtain ⟨t',q1,q2,q3,q4⟩:=nM (rk:=rk) ht
    rw [q4,<- bU (rk:=rk) y0,C4 (by omega) (by omega)]
    exact Int.le_of_lt (k3' t' q1 q2)
   have hl:∀ t ∈ ((arrOf st).extract sb (sb+l)).toList,rk t<=rk ((arrOf st).extract (sa+k) sb)[((arrOf st).extract (sa+k) sb).size - 1]:=fun t ht=>by
    rw [k9] at ht
    obtain ⟨t',q1,q2,q3,q4⟩:=nM (rk:=rk) ht
    have e:((arrOf st).extract (sa+k) sb).size=sb - (sa+k):=by simp; omega
    rw [q4,<- bU (rk:=rk) (by omega),C4 (by omega) (by omega),e,show sa+k+(sb - (sa+k) - 1)=sb - 1 by omega]
    exact Int.le_of_lt (l2' t' q1 q2)
   have fin:∀ (m:Array Keyed) (st2:SortSt),Gq st1 st2->dD rk ((arrOf st).extract (sa+k) sb) ((arrOf st).extract sb (sb+l)) m->
     wpS (model prog w) A E s (do modify (fun z=>setArr z (m.toList.zipIdx.foldl (fun a (p,j)=>a.setIfInBounds (sa+k+j) p) (arrOf z))); return (failedOf (<- get)).isNone) Q st2:=fun m st2 g md=>by
    have b2:SB κ a0 ((pd.setIfInBounds i (sa,na+nb,pw)).eraseIdxIfInBounds (i+1)) st2:=⟨by rw [g.ar]; exact b1.pm,g.kd.trans b1.kd,g.ok.trans b1.ok,g.pd.trans b1.pd⟩
    have a2:arrOf st2=arrOf st:=g.ar.trans ar
    obtain ⟨r1,r2,r3,r4⟩:=as0 (by omega) (by omega) (by omega) md
    generalize hr:m.toList.zipIdx.foldl (fun a (q,j)=>a.setIfInBounds (sa+k+j) q) (arrOf st)=r at r1 r2 r3 r4
    refine aO5 (wpS_modify (aO5 (wpS_get (aP3 ?_))))
    have b3:=b2.put (xs:=m.toList.zipIdx.foldl (fun a (q,j)=>a.setIfInBounds (sa+k+j) q) (arrOf st2)) (by rw [a2,hr]; exact r1)
    have er:arrOf (setArr st2 (m.toList.zipIdx.foldl (fun a (q,j)=>a.setIfInBounds (sa+k+j) q) (arrOf st2)))=r:=by rw [<- hr,a2]
    have tr:(failedOf (setArr st2 (m.toList.zipIdx.foldl (fun a (q,j)=>a.setIfInBounds (sa+k+j) q) (arrOf st2)))).isNone=true:=by rw [b3.ok]; rfl
    rw [tr]
    refine h _ b3 (fun i j hi hij hj=>?_) fun t ht=>?_
    ·rw [er]
     have bl:∀ t,sa<=t->t < sa+k->∀ t',sa+k<=t'->t' < sb+l->Kr rk (arrOf st) t<=Kr rk (arrOf st) t':=fun t t1 t2 t' t3 t4=>by
      rcases aS3 t' sb with z | z
      ·exact u t t' t1 (by omega) z
      ·have a1:=k2' t t1 t2
       have a2:=v sb t' (aO6 _) z (by omega)
       omega
     have br:∀ t,sb+l<=t->t < sb+nb->∀ t',sa+k<=t'->t' < sb+l->Kr rk (arrOf st) t'<=Kr rk (arrOf st) t:=fun t t1 t2 t' t3 t4=>by
      rcases aS3 t' sb with z | z
      ·have a1:=u t' (sb - 1) (by omega) (by omega) (by omega)
       have a2:=l3' t t1 t2
       omega
      ·exact v t' t z (by omega) t2
     have blr:∀ t,sa<=t->t < sa+k->∀ t',sb+l<=t'->t' < sb+nb->Kr rk (arrOf st) t<=Kr rk (arrOf st) t':=fun t t1 t2 t' t3 t4=>by
      have a1:=bl t t1 t2 (sb - 1) (by omega) (by omega)
      have a2:=l3' t' t3 t4
      omega
     rcases aS3 i (sa+k) with z | z
     ·rw [r2 i (.inl z)]
      rcases aS3 j (sa+k) with y | y
      ·rw [r2 j (.inl y)]; exact u i j hi hij (by omega)
      ·rcases aS3 j (sb+l) with x | x
       ·obtain ⟨t',q1,q2,q3⟩:=r4 j y x
        rw [q3]; exact bl i hi z t' q1 q2
       ·rw [r2 j (.inr x)]; exact blr i hi z j x hj
     ·rcases aS3 j (sb+l) with x | x
      ·exact r3 i j z hij x
      ·rw [r2 j (.inr x)]
       rcases aS3 i (sb+l) with y | y
       ·obtain ⟨t',q1,q2,q3⟩:=r4 i z y
        rw [q3]; exact br j x hj t' q1 q2
       ·rw [r2 i (.inr y)]; exact v i j (by omega) hij hj
    ·rw [er]; exact r2 t (by omega)
   by_cases hle:na - k<=l
   ·rw [if_pos hle]
    exact aO5 (ar3 c b1.kd (sub _ _) (sub _ _) sx sy x0 y0 hf hl fun m st2 g md=>fin m st2 g md)
   ·rw [if_neg hle]
    exact aO5 (ar7 c b1.kd (sub _ _) (sub _ _) sx sy x0 y0 hf hl fun m st2 g md=>fin m st2 g md)
end
def Ch:Nat->List (Nat × Nat)->Nat->Prop
 | a,[],b=>a=b
 | a,(p,n) :: r,b=>p=a/\0 < n/\Ch (a+n) r b
theorem Ch.split:∀ {l l':List (Nat × Nat)}{a b:Nat},Ch a (l ++ l') b->∃ m,Ch a l m/\Ch m l' b
 | [],_,a,_,h=>⟨a,rfl,h⟩
 | (p,n) :: l,l',a,b,h=>by
  obtain ⟨h1,h2,h3⟩:=h
  obtain ⟨m,q1,q2⟩:=Ch.split h3
  exact⟨m,⟨h1,h2,q1⟩,q2⟩
theorem Ch.join:∀ {l l':List (Nat × Nat)}{a m b:Nat},Ch a l m->Ch m l' b->Ch a (l ++ l') b
 | [],_,a,m,_,h,h'=>by cases (show a=m from h); exact h'
 | (p,n) :: l,l',a,m,b,h,h'=>⟨h.1,h.2.1,Ch.join h.2.2 h'⟩
theorem Ch.len:∀ {l:List (Nat × Nat)}{a b:Nat},Ch a l b->a+l.length<=b
 | [],a,b,h=>by cases (show a=b from h); simp
 | (p,n) :: l,a,b,h=>by
  have:=Ch.len h.2.2
  have:=h.2.1
  simp; omega
theorem Ch.mem:∀ {l:List (Nat × Nat)}{a b:Nat}{r:Nat × Nat},Ch a l b->r ∈ l->a<=r.1/\r.1+r.2<=b/\0 < r.2
 | (p,n) :: l,a,b,r,h,hr=>by
  obtain ⟨h1,h2,h3⟩:=h
  have hb:=Ch.len h3
  rcases aO0.mp hr with e | e
  ·subst e
   have h1:p=a:=h1
   refine⟨?_,?_,h2⟩
   ·show a<=p; omega
   ·show p+n<=b; omega
  ·have:=Ch.mem h3 e
   exact⟨by omega,this.2.1,this.2.2⟩
def sk (pd:Array (Nat × Nat × Nat)):List (Nat × Nat):=pd.toList.map fun r=>(r.1,r.2.1)
theorem qD (pd:Array (Nat × Nat × Nat)):(sk pd).length=pd.size:=by simp [sk]
structure Rn (rk:Keyed->Int) (a:Array Keyed) (l:List (Nat × Nat)) (lo:Nat):Prop where
 ch:Ch 0 l lo
 up:∀ r ∈ l,Up rk a r.1 (r.1+r.2)
variable {rk : Keyed → Int} {κ : SortKind} {a0 : Array Keyed} {pd : Array (Nat × Nat × Nat)} {st : SortSt} {prog : Program} {w : World} {A : Around} {E : Value → Shared → Prop} {s : Shared} {Ok : Keyed → Prop}
theorem Rn.same {a b:Array Keyed}{l:List (Nat × Nat)}{lo:Nat} (h:Rn rk a l lo) (e:∀ t,t < lo->Kr rk b t=Kr rk a t):Rn rk b l lo:=⟨h.ch,fun r hr i j hi hij hj=>by
 have:=(h.ch.mem hr).2.1
 rw [e i (by omega),e j (by omega)]
 exact h.up r hr i j hi hij hj⟩
theorem C5 (c:c6 prog w A E s κ Ok rk) (o:bK Ok a0) (b:SB κ a0 pd st) {i lo:Nat}{Q:Bool->SortSt->Prop} (hi:i+1 < pd.size) (hz:lo<=a0.size) (rn:Rn rk (arrOf st) (sk pd) lo)
  (h:∀ pd' st',SB κ a0 pd' st'->pd'.size+1=pd.size->Rn rk (arrOf st') (sk pd') lo->(∀ t,lo<=t->Kr rk (arrOf st') t=Kr rk (arrOf st) t)->Q true st'):wpS (model prog w) A E s (mergeAt' i) Q st:=by
 obtain ⟨⟨sa,na,pw⟩,e1⟩:∃ r,pd[i]? = some r:=⟨pd[i],getElem?_pos pd i (by omega)⟩
 obtain ⟨⟨sb,nb,pw'⟩,e2⟩:∃ r,pd[i+1]? = some r:=⟨pd[i+1],getElem?_pos pd (i+1) hi⟩
 have d1:pd.toList=pd.toList.take i ++ (sa,na,pw) :: (sb,nb,pw') :: pd.toList.drop (i+2):=by
  have hl:i < pd.toList.length:=by simp; omega
  have hl2:i+1 < pd.toList.length:=by simpa using hi
  have g1:pd.toList[i]=(sa,na,pw):=by rw [getElem?_pos pd i (by omega)] at e1; simpa using e1
  have g2:pd.toList[i+1]=(sb,nb,pw'):=by rw [getElem?_pos pd (i+1) hi] at e2; simpa using e2
  have:=aQ9 i pd.toList
  rw [aZ3 hl,aZ3 hl2,g1,g2] at this
  exact this.symm
 have li:(pd.toList.take i).length=i:=by simp; omega
 have d2:((pd.setIfInBounds i (sa,na+nb,pw)).eraseIdxIfInBounds (i+1)).toList=pd.toList.take i ++ (sa,na+nb,pw) :: pd.toList.drop (i+2):=by
  have e:((pd.setIfInBounds i (sa,na+nb,pw)).eraseIdxIfInBounds (i+1)).toList=(pd.toList.set i (sa,na+nb,pw)).eraseIdx (i+1):=by
   unfold Array.eraseIdxIfInBounds
   rw [dif_pos (by rw [Array.size_setIfInBounds]; exact hi),Array.toList_eraseIdx,Array.toList_setIfInBounds]
  rw [e]
  conv=>lhs; rw [d1]
  rw [List.set_append_right _ _ (by omega),li,Nat.sub_self,List.set_cons_zero,List.eraseIdx_append_of_length_le (by omega),li,show i+1 - i=1 by omega]
  rfl
 have k1:sk pd=(pd.toList.take i).map (fun r=>(r.1,r.2.1)) ++ (sa,na) :: (sb,nb) :: (pd.toList.drop (i+2)).map (fun r=>(r.1,r.2.1)):=by
  unfold sk; conv=>lhs; rw [d1]
  simp
 have k2:sk ((pd.setIfInBounds i (sa,na+nb,pw)).eraseIdxIfInBounds (i+1))=(pd.toList.take i).map (fun r=>(r.1,r.2.1)) ++ (sa,na+nb) :: (pd.toList.drop (i+2)).map (fun r=>(r.1,r.2.1)):=by
  unfold sk; rw [d2]
  simp
 have ch:=rn.ch
 rw [k1] at ch
 obtain ⟨m,c1,c2⟩:=ch.split
 obtain ⟨f1,f2,f3,f4,f5⟩:=c2
 have f1:sa=m:=f1
 have f3:sb=m+na:=f3
 have up:=rn.up
 rw [k1] at up
 have lo2:=f5.len
 refine as1 c o b e1 e2 (by omega) f2 f4 (by omega) (by have:=up (sa,na) (by simp); rw [f3,<- f1]; exact this) (up (sb,nb) (by simp)) fun st' b' u' fr=>h _ st' b' ?_ ⟨?_,?_⟩ fun t ht=>fr t (by omega)
 ·rw [<- qD,<- qD,k1,k2]; simp; omega
 ·rw [k2]
  refine c1.join ⟨f1,by omega,?_⟩
  rw [<- Nat.add_assoc]; exact f5
 ·intro r hr
  rw [k2] at hr
  rcases aS7.mp hr with z | z
  ·intro p q h1 h2 h3
   have:=(c1.mem z).2.1
   rw [fr p (by omega),fr q (by omega)]
   exact up r (aT8 _ z) p q h1 h2 h3
  ·rcases aO0.mp z with z | z
   ·subst z
    show Up rk (arrOf st') sa (sa+(na+nb))
    rw [show sa+(na+nb)=sb+nb by omega]; exact u'
   ·intro p q h1 h2 h3
    have:=(f5.mem z).1
    rw [fr p (by omega),fr q (by omega)]
    exact up r (aQ5 _ (aO3 _ (aO3 _ z))) p q h1 h2 h3
abbrev RS:=Option Unit × Nat
def C6 (sz pw:Nat):StateT SortSt Sem (Option Unit × Unit):=forIn [0:sz] ((none,()):Option Unit × Unit) fun _ _=>do
 let z <- get
 match (if (pendingOf z).size > 1 then (pendingOf z)[(pendingOf z).size - 2]? else none) with
 | some (_,_,o)=>if o<=pw then pure (.done (none,())) else do
   let q <- mergeAt' ((pendingOf z).size - 2)
   if (!q)=true then pure (.done (some (),())) else pure (.yield (none,()))
 | _=>pure (.done (none,()))
def jn (sz lo n:Nat):StateT SortSt Sem (ForInStep RS):=do
 let z <- get
 match (pendingOf z).back? with
 | some (s1,n1,_)=>do
  let r <- C6 sz (power' sz (2 * s1+n1) (2 * s1+n1+n1+n) sz)
  match r.1 with
  | some u=>pure (.done (some u,lo))
  | none=>do
   modify fun s=>setPending s ((pendingOf s).modify ((pendingOf s).size - 1) fun x=>(x.1,x.2.1,power' sz (2 * s1+n1) (2 * s1+n1+n1+n) sz))
   modify fun s=>setPending s ((pendingOf s).push (lo,n,0))
   pure (.yield (none,lo+n))
 | _=>do
  modify fun s=>setPending s ((pendingOf s).push (lo,n,0))
  pure (.yield (none,lo+n))
def C7 (sz mr lo:Nat):StateT SortSt Sem (ForInStep RS):=if lo >= sz then pure (.done (none,lo)) else do
 match <- countRun' lo (sz - lo) with
 | some n=>
  if n < mr then
   liftM (rule "list.sort.binary-insertion")
   let q <- binarySort' lo (min (sz - lo) mr) n
   if (!q)=true then pure (.done (some (),lo)) else jn sz lo (min (sz - lo) mr)
  else jn sz lo n
 | _=>pure (.done (some (),lo))
def C8 (sz:Nat):StateT SortSt Sem (Option Unit × Unit):=forIn [0:sz] ((none,()):Option Unit × Unit) fun _ _=>do
 let z <- get
 if (pendingOf z).size<=1 then pure (.done (none,())) else do
  let q <- mergeAt' (if ((if (pendingOf z).size - 2 > 0 then (pendingOf z)[(pendingOf z).size - 2 - 1]?.map (·.2.1) else none).any (· < ((pendingOf z)[(pendingOf z).size - 2+1]?.elim 0 (·.2.1))))=true then (pendingOf z).size - 2 - 1 else (pendingOf z).size - 2)
  if (!q)=true then pure (.done (some (),())) else pure (.yield (none,()))
theorem as2:sortRuns'=(do
 let z <- get
 let r <- (forIn [0:(arrOf z).size] ((none,0):RS) fun _ r=>C7 (arrOf z).size (minRun' (arrOf z).size (arrOf z).size 0) r.2)
 match r.1 with
 | some u=>pure u
 | none=>do
  let q <- C8 (arrOf z).size
  match q.1 with
  | some u=>pure u
  | none=>pure ()):=by kernel_rfl
theorem C9 {lo nn:Nat} (n1:0 < nn) {pd:Array (Nat × Nat × Nat)}{a:Array Keyed} (r:Rn rk a (sk pd) lo) (u:Up rk a lo (lo+nn)):Rn rk a (sk (pd.push (lo,nn,0))) (lo+nn):=by
 have e:sk (pd.push (lo,nn,0))=sk pd ++ [(lo,nn)]:=by simp [sk]
 refine⟨by rw [e]; exact r.ch.join ⟨rfl,n1,rfl⟩,fun q hq=>?_⟩
 rw [e] at hq
 rcases aS7.mp hq with z | z
 ·exact r.up q z
 ·rw [aP0] at z
  subst z
  exact u
theorem E1 (c:c6 prog w A E s κ Ok rk) (o:bK Ok a0) (b:SB κ a0 pd st) {lo n:Nat}{Q:ForInStep RS->SortSt->Prop} (n1:1<=n) (n2:lo+n<=a0.size) (rn:Rn rk (arrOf st) (sk pd) lo) (u:Up rk (arrOf st) lo (lo+n))
  (h:∀ pd' st',SB κ a0 pd' st'->Rn rk (arrOf st') (sk pd') (lo+n)->Q (.yield (none,lo+n)) st'):wpS (model prog w) A E s (jn a0.size lo n) Q st:=by
 unfold jn
 refine aO5 (wpS_get ?_)
 rw [b.pd]
 cases hb:pd.back? with
 | none=>exact aO5 (wpS_modify (aP3 (h (pd.push (lo,n,0)) _ ⟨b.pm,b.kd,b.ok,by show (pendingOf st).push _=_; rw [b.pd]⟩ (C9 n1 rn u))))
 | some q=>
  obtain ⟨s1,m1,q3⟩:=q
  dsimp only
  generalize power' a0.size (2 * s1+m1) (2 * s1+m1+m1+n) a0.size=pw
  unfold C6
  refine aO5 (bc4 (aV2
   (I:=fun _ r st'=>r=(none,())/\∃ pd,SB κ a0 pd st'/\Rn rk (arrOf st') (sk pd) lo/\Up rk (arrOf st') lo (lo+n))
   (Q:=fun r st'=>r=(none,())/\∃ pd,SB κ a0 pd st'/\Rn rk (arrOf st') (sk pd) lo/\Up rk (arrOf st') lo (lo+n)) ?_ (fun _ _ z=>z) ⟨rfl,pd,b,rn,u⟩) ?_)
  ·rintro t r st4 _ ht ⟨rfl,pd4,b4,r4,u4⟩
   refine aO5 (wpS_get ?_)
   rw [b4.pd]
   cases ho:(if pd4.size > 1 then pd4[pd4.size - 2]? else none) with
   | none=>exact aP3 ⟨rfl,pd4,b4,r4,u4⟩
   | some z=>
    obtain ⟨z1,z2,z3⟩:=z
    have h1:pd4.size > 1:=by
     by_cases y:pd4.size > 1
     ·exact y
     ·rw [if_neg y] at ho; cases ho
    dsimp only
    by_cases hp:z3<=pw
    ·rw [if_pos hp]
     exact aP3 ⟨rfl,pd4,b4,r4,u4⟩
    ·rw [if_neg hp]
     refine aO5 (C5 c o b4 (by omega) (by omega) r4 fun pd5 st5 b5 _ r5 f5=>?_)
     exact aP3 ⟨rfl,pd5,b5,r5,fun i j hi hij hj=>by rw [f5 i hi,f5 j (by omega)]; exact u4 i j hi hij hj⟩
  ·rintro r st4 ⟨rfl,pd4,b4,r4,u4⟩
   refine aO5 (wpS_modify (aO5 (wpS_modify (aP3 ?_))))
   have e:sk (pd4.modify (pd4.size - 1) fun x=>(x.1,x.2.1,pw))=sk pd4:=by
    unfold sk
    rw [Array.toList_modify]
    apply List.ext_getElem?
    intro t
    rw [aP4,aP4,List.getElem?_modify]
    cases pd4.toList[t]? with
    | none=>simp
    | some v=>by_cases y:pd4.size - 1=t <;> simp [y]
   refine h ((pd4.modify (pd4.size - 1) fun x=>(x.1,x.2.1,pw)).push (lo,n,0)) _ ⟨b4.pm,b4.kd,b4.ok,?_⟩ (C9 n1 (by rw [e]; exact r4) u4)
   show ((pendingOf st4).modify ((pendingOf st4).size - 1) fun x=>(x.1,x.2.1,pw)).push _=_
   rw [b4.pd]
theorem as3 (c:c6 prog w A E s κ Ok rk) (o:bK Ok a0) (b:SB κ a0 #[] st) {Q:Unit->SortSt->Prop} (h2:1<=a0.size)
  (h:∀ st',(arrOf st').Perm a0->failedOf st'=none->Up rk (arrOf st') 0 a0.size->Q () st'):wpS (model prog w) A E s sortRuns' Q st:=by
 rw [as2]
 refine aO5 (wpS_get ?_)
 rw [b.sz]
 generalize minRun' a0.size a0.size 0=mr
 refine aO5 (bc4 (aV2
  (I:=fun x r st'=>∃ lo pd,r=(none,lo)/\x<=lo/\lo<=a0.size/\SB κ a0 pd st'/\Rn rk (arrOf st') (sk pd) lo)
  (Q:=fun r st'=>∃ pd,r=(none,a0.size)/\SB κ a0 pd st'/\Rn rk (arrOf st') (sk pd) a0.size) ?_ ?_ ⟨0,#[],rfl,aO6 _,aV7 _,b,⟨rfl,fun r hr=>absurd hr (by simp [sk])⟩⟩) ?_)
 ·rintro x r st1 _ hx ⟨lo,pd,rfl,xl,lz,b1,rn⟩
  unfold C7
  dsimp only
  by_cases hd:lo >= a0.size
  ·rw [if_pos hd]
   have e:lo=a0.size:=by omega
   subst e
   exact aP3 ⟨pd,rfl,b1,rn⟩
  ·rw [if_neg hd]
   refine aO5 (aq6 c o b1 (by omega) (by omega) fun n st2 b2 n1 n2 u2 l2=>?_)
   have rn2:=rn.same l2
   dsimp only
   by_cases hmr:n < mr
   ·rw [if_pos hmr]
    refine aO5 (wpS_lift (ba4 ⟨rfl,?_⟩))
    refine aO5 (aq7 c o b2 (by omega) (by omega) u2 fun st3 b3 u3 l3=>?_)
    rw [if_neg (by decide)]
    exact E1 c o b3 (by omega) (by omega) (rn2.same l3) u3 fun pd' st' b' r'=>⟨_,pd',rfl,by omega,by omega,b',r'⟩
   ·rw [if_neg hmr]
    exact E1 c o b2 n1 (by omega) rn2 u2 fun pd' st' b' r'=>⟨lo+n,pd',rfl,by omega,by omega,b',r'⟩
 ·rintro r st1 ⟨lo,pd,rfl,xl,lz,b1,rn⟩
  have e:lo=a0.size:=by omega
  subst e
  exact⟨pd,rfl,b1,rn⟩
 ·rintro r st1 ⟨pd,rfl,b1,rn⟩
  dsimp only
  unfold C8
  refine aO5 (bc4 (aV2
   (I:=fun t r st'=>r=(none,())/\∃ pd,SB κ a0 pd st'/\Rn rk (arrOf st') (sk pd) a0.size/\(pd.size+t<=a0.size ∨ pd.size<=1))
   (Q:=fun r st'=>r=(none,())/\∃ pd,SB κ a0 pd st'/\Rn rk (arrOf st') (sk pd) a0.size/\pd.size<=1) ?_ ?_ ⟨rfl,pd,b1,rn,.inl (by have:=rn.ch.len; rw [qD] at this; omega)⟩) ?_)
  ·rintro t r st2 _ ht ⟨rfl,pd,b2,rn2,pr⟩
   refine aO5 (wpS_get ?_)
   rw [b2.pd]
   by_cases h1:pd.size<=1
   ·rw [if_pos h1]
    exact aP3 ⟨rfl,pd,b2,rn2,h1⟩
   ·rw [if_neg h1]
    refine aO5 (C5 c o b2 ?_ (aO6 _) rn2 fun pd' st3 b3 sz3 rn3 _=>?_)
    ·split <;> split <;> omega
    ·exact aP3 ⟨rfl,pd',b3,rn3,by omega⟩
  ·rintro r st2 ⟨rfl,pd,b2,rn2,pr⟩
   exact⟨rfl,pd,b2,rn2,by omega⟩
  ·rintro r st2 ⟨rfl,pd,b2,rn2,pr⟩
   refine aP3 (h st2 b2.pm b2.ok ?_)
   have ch:=rn2.ch
   have up:=rn2.up
   rw [<- qD] at pr
   cases e:sk pd with
   | nil=>rw [e] at ch; exact absurd (show 0=a0.size from ch) (by omega)
   | cons r l=>
    rw [e] at ch up pr
    have el:l = []:=List.eq_nil_of_length_eq_zero (by have:=pr; rw [aR9] at this; omega)
    subst el
    obtain ⟨p,n⟩:=r
    obtain ⟨q1,q2,q3⟩:=ch
    have q1:p=0:=q1
    have q3:0+n=a0.size:=q3
    subst q1
    have:=up (0,n) (by simp)
    rw [<- q3]; exact this
end SO
namespace L2
open PySem PySem.Spec PyProof.Rows SO
abbrev c8 (h:Heap) (a:Addr) (vs:List Value):Heap:=((h.update a (Obj.mapSeq fun _=>#[])).push (seqObj "tuple" vs.toArray 0)).push (seqObj "list" #[] 0)
abbrev cZ (h:Heap) (vs:List Value):Heap:=((h.push (seqObj "list" #[] 0)).update h.objs.size (Obj.mapSeq (· ++ vs.toArray))).push (seqObj "list" vs.toArray 0)
theorem E2 {h:Heap}{vs:List Value}{b:Addr}{o:Obj} (e:h.get? b=some o):(cZ h vs).get? b=some o:=by
 have l:=aO8 e
 refine aN5 _ ?_
 rw [Heap.get?_update_ne _ _ _ _ (aQ6 l)]
 exact aN5 _ e
theorem uJ {h:Heap}{vs:List Value}{a b:Addr}{o:Obj} (hb:b ≠ a) (e:h.get? b=some o):(c8 h a vs).get? b=some o:=by
 refine aN5 _ (aN5 _ ?_)
 rw [Heap.get?_update_ne _ _ _ _ hb]; exact e
theorem E3 {prog:Program}{w:World}{A:Around}{E:Value->Shared->Prop}{s:Shared}{a:Addr}{vs:List Value}{n:Nat}{P:PySem.Fin->Shared->Prop}{κ:SortKind}{Ok:Keyed->Prop}{rk:Keyed->Int}
  (e:s.heap.get? a=some (seqObj "list" vs.toArray n)) (h2:2<=vs.length) (big:vs.length<=sizeLine)
  (hk:∀ Q:SortKind->Shared->Prop,Q κ { s with heap:=c8 s.heap a vs }->wpAny (model prog w) A (keyKind' vs.toArray) Q E { s with heap:=c8 s.heap a vs })
  (c:c6 prog w A E { s with heap:=c8 s.heap a vs } κ Ok rk) (o:∀ v ∈ vs,Ok (v,v))
  (q:∀ out:List Value,out.Perm vs->out.Pairwise (fun u v=>rk (u,u)<=rk (v,v))->P (.done (.ret .none)) { s with heap:=sortedHeap s.heap a vs out.toArray }):wpAny (model prog w) A (Builtin.«list.sort» ⟨[.ref a],[]⟩) P E s:=by
 have la:=aO8 e
 have cc : ¬ vs.toArray.size < 2:=by simpa using h2
 obtain ⟨k,ek⟩:∃ k,(s.heap.update a (Obj.mapSeq fun _=>#[])).get? a=some (seqObj "list" #[] k):=⟨_,get?_update_seq e fun _=>#[]⟩
 have there:(c8 s.heap a vs).get? a=some (seqObj "list" #[] k):=aN5 _ (aN5 _ ek)
 rw [list_sort_plain]
 apply aN3
 apply listItems_at e rfl
 apply aN3
 refine listUpdate_at e rfl ?_ (by simpa using big) (aV7 _)
 apply aN3
 apply seqEpoch_at ek rfl
 apply aN3
 refine wpAny_newTuple ?_ big
 apply aN3
 refine wpAny_newList ?_ (aV7 _)
 apply aV5
 simp only [cc,aV0]
 apply aN3
 refine hk _ ?_
 have zl:(vs.toArray.zip vs.toArray).toList=vs.zip vs:=by simp
 apply aN3
 refine aY1 (as3 (a0:=vs.toArray.zip vs.toArray) (Q:=fun _ st'=>(arrOf st').Perm (vs.toArray.zip vs.toArray)/\failedOf st'=none/\Up rk (arrOf st') 0 (vs.toArray.zip vs.toArray).size) c (fun x hx=>?_) ⟨Array.Perm.refl _,rfl,rfl,rfl⟩ (by simp; omega) fun st' a1 a2 a3=>⟨a1,a2,a3⟩) ?_ fun _ _ z=>z
 ·have hx':x ∈ vs.zip vs:=by rw [<- zl]; exact Array.mem_toList_iff.mpr hx
  obtain ⟨y1,y2⟩:=mem_zip_self hx'
  have:=o x.1 y2
  have ex:x=(x.1,x.1):=bb2 rfl y1.symm
  rw [ex]; exact this
 ·rintro ⟨⟨⟩,st'⟩ s' ⟨rfl,pm,ok,up⟩
  have lp:(arrOf st').toList.Perm (vs.zip vs):=by rw [<- zl]; exact Array.perm_iff_toList_perm.mp pm
  have out:(arrOf st').map (·.2)=((arrOf st').toList.map (·.2)).toArray:=by apply Array.toList_inj.mp; rw [Array.toList_map]
  have op:((arrOf st').toList.map (·.2)).Perm vs:=by
   have:=lp.map (·.2)
   rw [oU] at this; exact this
  have sz:(arrOf st').size=vs.length:=by rw [pm.size_eq]; simp
  dsimp only
  apply aN3
  apply seqEpoch_at there rfl
  apply aN3
  refine listUpdate_at there rfl ?_ (aV7 _) (by rw [Array.size_map,sz]; exact Nat.le_succ_of_le big)
  rw [ok]
  simp only [bne_self_eq_false,aQ1,aV0]
  refine aN8 ?_
  have hq:=q _ op ?_
  ·rw [<- out] at hq; exact hq
  ·rw [aT1,aR6]
   intro i j hi hj hij
   have hi':i < (arrOf st').size:=by simpa using hi
   have hj':j < (arrOf st').size:=by simpa using hj
   have h1:=up i j (aV7 _) (aZ6 hij) (by simp; omega)
   rw [bU hi',bU hj'] at h1
   have dg:∀ x ∈ (arrOf st').toList,(x.2,x.2)=x:=fun x hx=>bb2 (mem_zip_self (lp.mem_iff.mp hx)).1.symm rfl
   rw [dg _ (aV6 hi),dg _ (aV6 hj)]
   simpa using h1
theorem E4 {prog:Program}{w:World}{A:Around}{E:Value->Shared->Prop}{s:Shared}{l:Addr}{vs:List Value}{Q:Value->Shared->Prop}{κ:SortKind}{Ok:Keyed->Prop}{rk:Keyed->Int}
  (hl:s.heap.IsList l vs.toArray) (h2:2<=vs.length) (big:vs.length<=sizeLine)
  (hk:∀ (A:Around) (E:Value->Shared->Prop) (Q:SortKind->Shared->Prop),Q κ { s with heap:=c8 (cZ s.heap vs) (s.heap.objs.size+1) vs }->wpAny (model prog w) A (keyKind' vs.toArray) Q E { s with heap:=c8 (cZ s.heap vs) (s.heap.objs.size+1) vs })
  (c:∀ (A:Around) (E:Value->Shared->Prop),c6 prog w A E { s with heap:=c8 (cZ s.heap vs) (s.heap.objs.size+1) vs } κ Ok rk) (o:∀ v ∈ vs,Ok (v,v))
  (q:∀ out:List Value,out.Perm vs->out.Pairwise (fun u v=>rk (u,u)<=rk (v,v))->Q (.ref (s.heap.objs.size+1)) { s with heap:=sortedAll s.heap vs out.toArray }):wpAny (model prog w) A (call (.builtin "sorted") [.ref l]) Q E s:=by
 apply Calls.call_function_entry kind_sorted plain_sorted entry_sorted (args_sorted1 _)
 simp only [Builtin.«sorted»]
 apply aN3 (m:=checkCount "sorted" 1 1 _)
 apply aN8
 apply aN3
 refine collect_list hl ?_ big
 apply aN3
 refine wpAny_newList ?_ big
 have one:((s.heap.push (seqObj "list" #[] 0)).update s.heap.objs.size (Obj.mapSeq (· ++ vs.toArray))).objs.size=s.heap.objs.size+1:=(Heap.size_update _ _ _).trans (size_push' _ _)
 have at1:(cZ s.heap vs).get? (s.heap.objs.size+1)=some (seqObj "list" vs.toArray 0):=one ▸ aP1 _ rfl
 change wpAny _ _ _ _ _ { s with heap:=cZ s.heap vs }
 rw [one]
 apply aN3
 apply aV5
 refine aT6 slot_list_sort ⟨_,at1,rfl⟩ entry_list_sort ?_ (args_list_sort _)
 exact E3 (s:={ s with heap:=cZ s.heap vs }) at1 h2 big (hk _ _) (c _ _) o fun out a1 a2=>⟨_,rfl,aN8 ⟨_,rfl,q out a1 a2⟩⟩
def qE (h:Heap) (B:Int) (x:Keyed):Int:=match x.1 with
 | .ref b=>match h.get? b with
  | some ob=>match ob.data with
   | .seq us _=>numOf (us.getD 0 .none) * B+numOf (us.getD 1 .none)
   | _=>0
  | none=>0
 | _=>0
structure iR (h:Heap) (M:Int) (v:Value) (p q:Int):Prop where
 at_:∃ b ob us n,v = .ref b/\h.get? b=some ob/\ob.cls = .type "tuple"/\ob.data = .seq (List.toArray us) n/\IntsAre us [p,q]
 lo : -M<=q
 hi:q<=M
theorem iR.rk {h:Heap}{M B:Int}{x:Keyed}{p q:Int} (z:iR h M x.1 p q):qE h B x=p * B+q:=by
 obtain ⟨b,ob,us,n,e1,e2,_,e4,e5⟩:=z.at_
 cases e5 with
 | cons _ t e6=>cases e6 with
  | cons _ u e7=>cases e7; unfold qE; rw [e1]; dsimp only; rw [e2]; dsimp only; rw [e4]; rfl
theorem E5 {p q p' q' M:Int} (h1 : -M<=q) (h2:q<=M) (h3 : -M<=q') (h4:q'<=M):HT.aH [p,q] [p',q']=decide (p * (2 * M+1)+q < p' * (2 * M+1)+q'):=by
 rw [HT.fU]
 have mm:∀ {a b:Int},a < b->a * (2 * M+1)+(2 * M+1)<=b * (2 * M+1):=fun {a b} z=>by
  have:=Int.mul_le_mul_of_nonneg_right (show a+1<=b by omega) (show 0<=2 * M+1 by omega)
  rw [Int.add_mul,Int.one_mul] at this
  exact this
 by_cases e:p=p'
 ·subst e
  rw [if_pos rfl,HT.fU]
  by_cases e2:q=q'
  ·subst e2
   rw [if_pos rfl,HT.oI,aO1 (by omega)]
  ·rw [if_neg e2]
   by_cases l:q < q'
   ·rw [aO4 l,aO4 (by omega)]
   ·rw [aO1 l,aO1 (by omega)]
 ·rw [if_neg e]
  by_cases l:p < p'
  ·have:=mm l
   rw [aO4 l,aO4 (by omega)]
  ·have:=mm (show p' < p by omega)
   rw [aO1 l,aO1 (by omega)]
theorem as4 {prog:Program}{w:World}{A:Around}{E:Value->Shared->Prop}{s:Shared}{M:Int}:c6 prog w A E s (tuples' true) (fun x=>∃ p q,iR s.heap M x.1 p q) (qE s.heap (2 * M+1)):=by
 rintro x y ⟨p,q,z⟩ ⟨p',q',z'⟩ st Q hk hq
 rw [z.rk,z'.rk] at hq
 rw [<- E5 z.lo z.hi z'.lo z'.hi] at hq
 obtain ⟨b,ob,us,n,e1,e2,e3,e4,e5⟩:=z.at_
 obtain ⟨b',ob',us',n',e1',e2',e3',e4',e5'⟩:=z'.at_
 rw [lt'_eq]
 refine aO5 (wpS_get ?_)
 rw [hk,e1,e1']
 refine aO5 (wpS_lift (wpAny_attempt (PySem.W.kat_lt e2 e4 e2' e4' ?_)))
 have:=t0 (prog:=prog) (w:=w) (A:=A) (s:=s) (Q:=fun a s'=>s'=s/\wpS (model prog w) A E s (pure (some a)) Q st) 0 e5 e5' ⟨rfl,aP3 hq⟩
 simpa using this
theorem E6 {vs vs':List Value} (h:vs.Perm vs'):∀ {xs:List V},aK xs vs->∃ xs',xs'.Perm xs/\aK xs' vs':=by
 induction h with
 | nil=>intro xs r; exact⟨xs,aX8 _,r⟩
 | cons v _ ih=>
  intro xs r
  cases r with
  | cons r t=>
   obtain ⟨xs',p,r'⟩:=ih t
   exact⟨_ :: xs',p.cons _,.cons r r'⟩
 | swap u v l=>
  intro xs r
  cases r with
  | cons r t=>cases t with
   | cons r2 t2=>exact⟨_,bc8 _ _ _,.cons r2 (.cons r t2)⟩
 | trans _ _ ih1 ih2=>
  intro xs r
  obtain ⟨x1,p1,r1⟩:=ih1 r
  obtain ⟨x2,p2,r2⟩:=ih2 r1
  exact⟨x2,p2.trans p1,r2⟩
theorem E7 {α:Type} (f:α->Int):∀ l:List α,∃ M:Int,∀ y ∈ l,-M<=f y/\f y<=M
 | []=>⟨0,fun _ h=>nomatch h⟩
 | x :: l=>by
  obtain ⟨M,h⟩:=E7 f l
  refine⟨max M (max (f x) (- f x)),fun y hy=>?_⟩
  rcases aO0.mp hy with e | e
  ·subst e; omega
  ·have:=h y e; omega
def E8 (K:PySem.W.Frag):List V->Hp->VK->Prop:=fun xs H Q=>∃ (a:Addr) (ys:List V) (key:V->List Int),xs = [.ref a]/\aM K H a ys/\ys.length<=4096/\(∀ y ∈ ys,∃ b,y = .ref b/\aL K H b ((key y).map V.int)/\(key y).length=2)/\
 ∀ l (zs:List V),H l=none->zs.Perm ys->zs.Pairwise (fun u v=>HT.aH (key v) (key u)=false)->Q (.ref l) (upd H l (.lst zs))
theorem as5 {X:Cx}:cG X (.builtin "sorted") (E8 X.K):=by
 intro pins s σ H xs us Q I r h
 obtain ⟨a,ys,key,rfl,hs,hz4,hk,q⟩:=h
 obtain ⟨u,rfl,ru⟩:=gV r
 cases ru
 obtain ⟨its,rv,p,hz⟩:=I.list hs
 have hl:=rv.length
 have hn:s.heap.objs.size<=s.heap.objs.size+1:=Nat.le_succ _
 by_cases h2:its.length < 2
 ·refine yI p.isList h2 ?_
  obtain ⟨e,he⟩:=sortedAll_at s.heap its its.toArray
  refine⟨.ref (s.heap.objs.size+1),upd H (s.heap.objs.size+1) (.lst ys),I.laid (t':=s.toks) (fun _ _=>sortedAll_old) hn ⟨hz,its,e,rv,he⟩,rfl,q _ ys (I.hok.fresh hn) (aX8 _) ?_⟩
  match ys,hl with
  | [],_=>exact aX7
  | [_],_=>exact aS4 _ _
  | _ :: _ :: _,hl=>simp at hl; omega
 ·obtain ⟨M,hM⟩:=E7 (fun y=>(key y).getD 1 0) ys
  have pv:∀ {y:V}{v:Value},aR y v->y ∈ ys->∃ pp qq,key y = [pp,qq]/\iR (c8 (cZ s.heap its) (s.heap.objs.size+1) its) M v pp qq:=fun {y v} ry hy=>by
   obtain ⟨b,rfl,sq,l2⟩:=hk y hy
   cases ry
   obtain ⟨us,ru,⟨ob,e1,c1,n1,d1⟩,_⟩:=I.tuple sq
   have ia:=iD ru
   have mm:=hM _ hy
   match hkk:key (V.ref b),l2 with
   | [pp,qq],_=>
    rw [hkk] at ia mm
    exact⟨pp,qq,rfl,⟨b,ob,us,n1,rfl,uJ (aQ6 (Nat.lt_succ_of_lt (aO8 e1))) (E2 e1),c1,d1,ia⟩,mm.1,mm.2⟩
  have pvs:∀ {xs:List V}{vs:List Value},aK xs vs->(∀ y ∈ xs,y ∈ ys)->∀ v ∈ vs,∃ pp qq,iR (c8 (cZ s.heap its) (s.heap.objs.size+1) its) M v pp qq:=by
   intro xs vs r
   induction r with
   | nil=>intro _ v hv; cases hv
   | cons rx rt ih=>
    intro hh v hv
    rcases aO0.mp hv with z | z
    ·subst z
     obtain ⟨pp,qq,_,z⟩:=pv rx (hh _ aO9)
     exact⟨pp,qq,z⟩
    ·exact ih (fun y hy=>hh y (aO3 _ hy)) v z
  have firsts:∀ {vs:List Value},(∀ v ∈ vs,∃ pp qq,iR (c8 (cZ s.heap its) (s.heap.objs.size+1) its) M v pp qq)->∃ fs:List Value,PySem.W.KatTups (c8 (cZ s.heap its) (s.heap.objs.size+1) its) vs fs/\fs.length=vs.length/\∀ v ∈ fs,∃ i t,v=Value.int i t:=by
   intro vs
   induction vs with
   | nil=>intro _; exact⟨[],PySem.W.KatTups.nil,rfl,fun _ z=>nomatch z⟩
   | cons v vs ih=>
    intro hh
    obtain ⟨fs,t1,t2,t3⟩:=ih fun y hy=>hh y (aO3 _ hy)
    obtain ⟨pp,qq,z⟩:=hh v aO9
    obtain ⟨b,ob,us,n,rfl,e2,e3,e4,e5⟩:=z.at_
    cases e5 with
    | cons _ t e6=>exact⟨Value.int pp t :: fs,PySem.W.KatTups.cons e2 e3 e4 (by simp) t1,by simp [t2],fun v hv=>(aO0.mp hv).elim (fun z=>⟨pp,t,z⟩) (t3 v)⟩
  have allp:=pvs rv fun _ h=>h
  obtain ⟨fs,t1,t2,t3⟩:=firsts allp
  refine E4 (κ:=tuples' true) (Ok:=fun x=>∃ pp qq,iR (c8 (cZ s.heap its) (s.heap.objs.size+1) its) M x.1 pp qq) (rk:=qE (c8 (cZ s.heap its) (s.heap.objs.size+1) its) (2 * M+1)) p.isList (by omega) (by rw [<- hl]; exact hz)
   (fun A E Q hQ=>?_) (fun A E=>as4 (s:={ s with heap:=c8 (cZ s.heap its) (s.heap.objs.size+1) its })) (fun v hv=>allp v hv) fun out pm so=>?_
  ·refine PySem.W.kat_kind (T:=.type "int") t1 (by omega) (fun v hv=>?_) (by decide) ?_
   ·obtain ⟨i,t,rfl⟩:=t3 v hv
    exact PySem.W.Looks.now
   ·have eT:(Value.type "int" != Value.type "tuple")=true:=by decide
    rw [eT]; exact hQ
  ·obtain ⟨zs,pz,rz⟩:=E6 pm.symm rv
   obtain ⟨e,he⟩:=sortedAll_at s.heap its out.toArray
   refine⟨.ref (s.heap.objs.size+1),upd H (s.heap.objs.size+1) (.lst zs),I.laid (t':=s.toks) (fun _ _=>sortedAll_old) hn ⟨by rw [pz.length_eq]; exact hz,out,e,rz,he⟩,rfl,q _ zs (I.hok.fresh hn) pz ?_⟩
   have lz:=rz.length
   rw [aR6]
   intro i j hi hj hij
   have s1:=aR6.mp so i j (by omega) (by omega) hij
   have gi:=mK i hi rz
   have gj:=mK j hj rz
   simp only [aP6,aN6 hi,aN6 hj,aN6 (show i < out.length by omega),aN6 (show j < out.length by omega),Option.getD_some] at gi gj
   obtain ⟨pi,qi,ki,vi⟩:=pv gi (pz.mem_iff.mp (aV6 hi))
   obtain ⟨pj,qj,kj,vj⟩:=pv gj (pz.mem_iff.mp (aV6 hj))
   rw [iR.rk (x:=(out[i],out[i])) vi,iR.rk (x:=(out[j],out[j])) vj] at s1
   rw [ki,kj,E5 vj.lo vj.hi vi.lo vi.hi]
   exact aO1 (by omega)
end L2
namespace L2
open PySem PySem.Spec PyProof.Rows
theorem bR.at {P:Program}{w:World}{H:Hp}{h:Heap}{a:Addr}{o:HO} (x:bR P w H h a o):∃ ob,h.get? a=some ob:=by
 cases o with
 | lst xs=>obtain ⟨_,_,_,_,e⟩:=x; exact⟨_,e⟩
 | tup xs=>obtain ⟨_,_,_,⟨_,e,_⟩,_⟩:=x; exact⟨_,e⟩
 | dK kvs=>obtain ⟨_,_,_,_,_,_,_,e,_⟩:=x; exact⟨_,e⟩
 | dT kvs=>obtain ⟨_,_,_,_,_,_,_,e,_⟩:=x; exact⟨_,e⟩
 | set S n=>obtain ⟨_,_,_,_,e,_⟩:=x; exact⟨_,e⟩
 | ins C dx fs=>obtain ⟨_,_,_,e,_⟩:=x; exact⟨_,e⟩
 | own y=>exact x
 | xd fs=>obtain ⟨_,⟨_,_,_,e,_⟩,_⟩:=x; exact⟨_,e⟩
 | rng lo hi=>obtain ⟨_,_,_,e⟩:=x; exact⟨_,e⟩
 | frz ob u=>obtain ⟨e,_⟩:=x; exact⟨_,e⟩
 | tbl ps=>exact⟨_,x⟩
 | met f y=>exact⟨_,x⟩
 | ext φ=>exact x.2.1
structure uK (P:Program) (w:World) (outer:List Env) (H:Hp) (s:Shared) (H':Hp) (B:Heap) (a C:Addr) (s':Shared):Prop where
 os:s'.os=s.os
 bare:AllBare s'.gens
 un:Un (bT outer) [] H H' s.heap s'.heap
 hok:bP P w H' s'.heap
 fly:∃ a0,Heap.FlyingW B outer a (.ref C) a0 s'.heap
 b0:∀ b o,s.heap.get? b=some o->b ∉ bT outer->∃ o',B.get? b=some o'
 b1:∀ b o,s.heap.get? b=some o->H b=none->b ∉ bT outer->B.get? b=some o
 b2:∀ b u o,H' b=some u->s'.heap.get? b=some o->B.get? b=some o
def dW (P:Program) (w:World):fQ:=fun outer H s E e s'=>∃ (H':Hp) (B:Heap) (a C:Addr),e = .ref a/\uK P w outer H s H' B a C s'/\E (.ref C) none H'
section
variable {P : Program} {w : World} {outer : List Env} {H H' : Hp} {s s' : Shared} {B h2 : Heap} {a C : Addr}
theorem uK.hok2 (f:uK P w outer H s H' B a C s') (k:B.StaysIn h2):bP P w H' h2:=fun b u e=>
 (f.hok b u e).stay (fun c v hc q=>by
  rcases hc with z | z
  ·subst z; exact k _ _ (f.b2 _ _ _ e q)
  ·exact k _ _ (f.b2 _ _ _ z q)) (fun _ q=>q) fun _ _ q=>q
end
section
variable {P : Program} {w : World} {K : PySem.W.Frag} {mg : Str → Option Value} {base : Heap} {N : List Str} {qual : Str} {scope : Scope} {f : Addr} {cd : Value} {A : Around} {outer : List Env} {s₀ : Shared} {H₀ : Hp} {E₀ E₁ : XK}
theorem qF {pins:List (Addr × Obj)}{σ:St}{H:Hp}{s:Shared} (I:a8 (cS (dW P w) P w K mg base N qual scope f cd A outer s₀ H₀ E₀) pins σ H s) {b:Addr}{o:Obj} (e:s₀.heap.get? b=some o) (n:b ∉ bT outer) :
  b ∉ bT (envOfC qual scope s₀.heap.objs.size f cd :: outer):=fun z=>by
 rcases aO0.mp (I.stkSub b z) with y | y
 ·have l:=aO8 e
  have y:b=s₀.heap.objs.size:=y
  exact absurd l (by rw [y]; exact aV4 _)
 ·exact n y
theorem as6 (hE:∀ c d H',E₁ c d H'->E₀ c d H'):mH (dW P w) (cS (dW P w) P w K mg base N qual scope f cd A outer s₀ H₀ E₀) E₁:=by
 intro pins σ H s e s' I hx
 obtain ⟨H',B,a,C,e1,fl,q⟩:=hx
 subst e1
 have I':=I.call' fl.os fl.un fl.hok fl.bare (ch:=[]) (fun b z=>absurd z (by simp))
 obtain ⟨a0,fly⟩:=fl.fly
 refine wpAny_leaves_onW I.ok.frames rfl fly fun h' fly' up=>?_
 have slot:∀ b o,s₀.heap.get? b=some o->b ∈ bT outer->∃ sl,h'.get? b=some { o with slots:=sl }:=fun b o e hb=>by
  obtain ⟨sl,e1⟩:=I'.base.slot b o e (I.ok.frf b hb) hb (fun z=>nomatch z)
  obtain ⟨_,o2,e2,nf⟩:=I.ok.funs.mem hb
  rw [show (cS (dW P w) P w K mg base N qual scope f cd A outer s₀ H₀ E₀).s₀=s₀ from rfl,e] at e2
  cases e2
  obtain ⟨sl',e3⟩:=up b _ e1 nf
  exact⟨sl',e3⟩
 have old:∀ b o,s₀.heap.get? b=some o->H₀ b=none->b ∉ bT outer->B.get? b=some o:=fun b o e n hb=>
  fl.b1 b o (I.base.keep b o e n hb (fun z=>nomatch z)) (I.base.free b o e n (fun z=>nomatch z)) (qF I e hb)
 have old0:∀ b o,s₀.heap.get? b=some o->b ∉ bT outer->∃ o',B.get? b=some o':=fun b o e hb=>by
  obtain ⟨o1,e1⟩:=I.base.there b o e (fun z=>nomatch z)
  exact fl.b0 b o1 e1 (qF I e hb)
 refine⟨H',B,a,C,rfl,⟨I'.os,I'.bare,⟨fun b o e n hb _=>fly'.1 _ _ (old b o e n hb),fun b o e n hb _=>slot b o e hb,fun b o e n hx=>I'.base.free b o e n hx,fun b o e _=>?_,I'.base.tups,I'.base.frzs,I'.base.tbls⟩,fl.hok2 fly'.1,⟨a0,fly'⟩,old0,old,fun b u o e h=>?_⟩,hE _ _ _ q⟩
 ·by_cases hb:b ∈ bT outer
  ·obtain ⟨sl,e1⟩:=slot b o e hb
   exact⟨_,e1⟩
  ·obtain ⟨o',e1⟩:=old0 b o e hb
   exact⟨o',fly'.1 _ _ e1⟩
 ·obtain ⟨ob,e1⟩:=(fl.hok b u e).at
  have e2:=fl.b2 b u ob e e1
  have e3:=fly'.1 _ _ e2
  have h:h'.get? b=some o:=h
  rw [h] at e3; cases e3; exact e2
theorem as7 {pins:List (Addr × Obj)}{σ:St}{H:Hp}{s:Shared}{h':Heap}{e C:Addr}{args:List Value} (I:a8 (cS (dW P w) P w K mg base N qual scope f cd A outer s₀ H₀ E₀) pins σ H s) (mx:Heap.MadeExcOf s.heap h' e (.ref C) args) (q:E₀ (.ref C) none H) :
  (cS (dW P w) P w K mg base N qual scope f cd A outer s₀ H₀ E₀).xe (.ref e) { s with heap:=h' }:=by
 have tr:∀ b u,H b=some u->b ∉ bT (envOfC qual scope s₀.heap.objs.size f cd :: outer):=fun b u z n=>by
  rw [I.stkFree b n] at z; cases z
 have inB:∀ b o,s.heap.get? b=some o->b ∉ bT (envOfC qual scope s₀.heap.objs.size f cd :: outer)->(PySem.W.hideAll s.heap (bT (envOfC qual scope s₀.heap.objs.size f cd :: outer))).get? b=some o:=fun b o z n=>PySem.W.hideAll_get _ z n
 refine wpAny_leaves_madeW (base:=PySem.W.hideAll s.heap (bT (envOfC qual scope s₀.heap.objs.size f cd :: outer))) I.ok.frames rfl (fun b o z=>PySem.W.of_hideAll _ z) (PySem.W.funFrames_hide I.stack fun env he b hb=>List.mem_filterMap.mpr ⟨env,he,hb⟩) mx fun h'' t fly _ _ up=>?_
 have slot:∀ b o,s₀.heap.get? b=some o->b ∈ bT outer->∃ sl,h''.get? b=some { o with slots:=sl }:=fun b o e hb=>by
  obtain ⟨sl,e1⟩:=I.base.slot b o e (I.ok.frf b hb) hb (fun z=>nomatch z)
  obtain ⟨_,o2,e2,nf⟩:=I.ok.funs.mem hb
  rw [show (cS (dW P w) P w K mg base N qual scope f cd A outer s₀ H₀ E₀).s₀=s₀ from rfl,e] at e2
  cases e2
  obtain ⟨sl',e3⟩:=up b _ (mx.keeps _ _ e1) nf
  exact⟨sl',e3⟩
 have old:∀ b o,s₀.heap.get? b=some o->H₀ b=none->b ∉ bT outer->(PySem.W.hideAll s.heap (bT (envOfC qual scope s₀.heap.objs.size f cd :: outer))).get? b=some o:=fun b o e n hb=>
  inB b o (I.base.keep b o e n hb (fun z=>nomatch z)) (qF I e hb)
 have old0:∀ b o,s₀.heap.get? b=some o->b ∉ bT outer->∃ o',(PySem.W.hideAll s.heap (bT (envOfC qual scope s₀.heap.objs.size f cd :: outer))).get? b=some o':=fun b o e hb=>by
  obtain ⟨o1,e1⟩:=I.base.there b o e (fun z=>nomatch z)
  exact⟨o1,inB b o1 e1 (qF I e hb)⟩
 refine⟨H,_,e,C,rfl,⟨I.os,I.bare,⟨fun b o e n hb _=>fly.1 _ _ (old b o e n hb),fun b o e n hb _=>slot b o e hb,fun b o e n hx=>I.base.free b o e n hx,fun b o e _=>?_,I.base.tups,I.base.frzs,I.base.tbls⟩,fun b u z=>?_,⟨_,fly⟩,old0,old,fun b u o z h=>?_⟩,q⟩
 ·by_cases hb:b ∈ bT outer
  ·obtain ⟨sl,e1⟩:=slot b o e hb
   exact⟨_,e1⟩
  ·obtain ⟨o',e1⟩:=old0 b o e hb
   exact⟨o',fly.1 _ _ e1⟩
 ·refine (I.hok b u z).stay (fun c v hc y=>?_) (fun _ y=>y) fun _ _ y=>y
  rcases hc with z' | z'
  ·subst z'; exact fly.1 _ _ (inB _ _ y (tr _ _ z))
  ·exact fly.1 _ _ (inB _ _ y (tr _ _ z'))
 ·obtain ⟨ob,e1⟩:=(I.hok b u z).at
  have e2:=inB b ob e1 (tr b u z)
  have e3:=fly.1 _ _ e2
  have h:h''.get? b=some o:=h
  rw [h] at e3; cases e3; exact e2
end
structure lI (X:Cx) (E:XK):Prop where
 pass:mH (dW X.prog X.w) X E
 made:∀ (pins:List (Addr × Obj)) (σ:St) (H:Hp) (s:Shared) (h':Heap) (e C:Addr) (args:List Value),a8 X pins σ H s->Heap.MadeExcOf s.heap h' e (.ref C) args->E (.ref C) none H->X.xe (.ref e) { s with heap:=h' }
 own:PassesOwn (model X.prog X.w) X.A X.env X.xe
theorem as8 {P:Program}{w:World}{K:PySem.W.Frag}{mg:Str->Option Value}{base:Heap}{N:List Str}{qual:Str}{scope:Scope}{f:Addr}{cd:Value}{A:Around}{outer:List Env}{s₀:Shared}{H₀:Hp}{E₀ E₁:XK} (hE:∀ c d H',E₁ c d H'->E₀ c d H') :
  lI (cS (dW P w) P w K mg base N qual scope f cd A outer s₀ H₀ E₀) E₁:=
 ⟨as6 hE,fun _ _ _ _ _ _ _ _ I mx q=>as7 I mx (hE _ _ _ q),PassesOwn.leaving⟩
def E9 (E:XK) (C:Addr) (t:TA):TS:=fun _ σ H=>t σ H fun vs H1=>vs.length<=sizeLine/\E (.ref C) none H1
theorem as9 {X:Cx}{E:XK}{x:Str}{C:Addr}{bm:List Value}{B newId initId:String}{np cpos pos:Pos}{e:Expr}{es:List Expr}{t:TA} (hX:lI X E) (hc:X.calm=true) (O:OwnCls x C bm newId X.mg X.base) (FB:ExcBaseFacts B newId initId bm) (ha:PA X (e :: es) t) (hg:Gl X x)
  (hd:(x == ("__debug__" : Str))=false:=by decide) (he:starEach (e :: es) X.env=(false,eval e X.env) :: starEach es X.env:=by rfl) (hpl:(backTo cpos (starEach es X.env)).any (·.1)=false:=by rfl) :
  PS X (.Raise (some (.Call (.Name x np) (e :: es) [] cpos)) none pos) (E9 E C t):=by
 intro pins s σ H D I h
 obtain ⟨tl,Na,nm,qn,bs,hx,sn,sub,ab,col,dd,k0,k1,k2,k3,k5,mN,hC,hN,hni,T⟩:=O.obj
 refine wpAny_Raise_call_subT (nm:=nm) (q:=qn) (N:=Na) (bs:=bs) (bm:=tl) (hdct:=hx) (sn:=sn) (sub:=sub) (ab:=ab) (col:=col) (dd:=dd) (k0:=k0) (k1:=k1) (k2:=k2) (k3:=k3) (k5:=k5) FB (C:=C) (mN:=mN) (T.hasType FB.hasBase) (I.ok.hd hc) (by rw [he]; show (false || (backTo cpos (starEach es X.env)).any (·.1))=false; rw [hpl]; rfl) hni (rR I hg O.bound ⟨rfl,?_⟩ hd)
 have h1:=ha cpos pins s σ H _ I h
 rw [he] at h1 ⊢
 refine Calls.evalArgs_plain (aY1 h1 (fun us s2 h2=>?_) fun _ _ y=>y)
 obtain ⟨vs,H2,I2,r,hl,q⟩:=h2
 have r:aK vs us:=r
 exact⟨rfl,by show us.length<=sizeLine; rw [<- r.length]; exact hl,I2.bk _ _ hC,hN.keeps I2.bk,T.keeps I2.bk,fun h' e' mx=>hX.made pins σ H2 s2 h' e' C _ I2 mx q⟩
theorem fD.okX {P:Program}{w:World}{K:PySem.W.Frag}{mg:Str->Option Value}{base:Heap}{x qual:Str}{st:Stmt}{f:Addr}{fd:FuncData}{N ps:List Str}{k:Nat}{sp:Sp} (F:fD K x qual st f fd) (S:FnScope N ps (aV st)) (len:∀ vs H Q E,sp vs H Q E->vs.length=ps.length)
  (hbody:∀ (cdv:Value) (A:Around) (outer:List Env) (s:Shared) (H:Hp) (vs:List V) (Q:VK) (E:XK),bX k (A.deeper (envOfC qual (aV st) s.heap.objs.size f cdv))->sp vs H Q E->
   ∃ t,dE (cS (dW P w) P w K mg base N qual (aV st) f cdv A outer s H E) (dO st) t/\t { nx:=fun _ H'=>Q .non H',rt:=Q } (fR N vs) H):dA P w K mg base (dW P w) (k+1) f fd ps sp:=by
 obtain ⟨oc,od,kV,doc,pm,an,cdv,ct,osl,rfl,lk,hcd⟩:=F.ex
 exact x4 lk hcd S len fun A outer s H vs Q E hr hsp=>hbody cdv A outer s H vs Q E hr hsp
section
variable {X : Cx} {pins : List (Addr × Obj)} {σ : St} {H H1 H' : Hp} {s s1 s' : Shared} {B h2 : Heap} {a C : Addr}
abbrev Cx.suite (X:Cx) (a:Addr):Cx:={ X with A:=X.A.mark (some (.ref a)),calm:=false,xe:=fun _ _=>False }
end
abbrev TB:=dB->XK->St->Hp->Prop
end L2
namespace Raw
open PySem PySem.W PySem.Calls PyProof.Rows
theorem iS {α β:Type} (f:α->β):∀ (j:Nat) (l:List α),(l.eraseIdx j).map f=(l.map f).eraseIdx j
 | _,[]=>rfl
 | 0,_ :: _=>rfl
 | j+1,x :: r=>by
  show f x :: (r.eraseIdx j).map f=f x :: (r.map f).eraseIdx j
  rw [iS f j r]
section
variable {prog : Program} {w : World} {K : Type} [DecidableEq K] {knd : HeapKind prog w K} {A : Around} {E : Value → Shared → Prop} {s : Shared} {d a : Addr} {k : K} {xs : List (K × Addr × Value)}
def F0 (knd:HeapKind prog w K) (h:Heap) (d:Addr) (xs:List (K × Addr × Value)) (j:Nat):Prop:=∃ o es ep,h.get? d=some o/\o.ExactDict/\o.data = .dict es ep/\es.toList=(xs.eraseIdx j).map (entryOfKey knd)
theorem at0 {Q:Option DictEntry->Shared->Prop} (hu:knd.room A) (hkey:knd.is s.heap k a) (hm:s.heap.DictOfH knd d xs) (hz:xs.length<=sizeLine) (is:∃ (j:Nat) (p:Addr × Value),xs[j]? = some (k,p))
  (q:∀ (j:Nat) (p:Addr × Value) h',xs[j]? = some (k,p)->F0 knd h' d xs j->Heap.SameBut d s.heap h'->Q (some (entryOfKey knd (k,p))) { s with heap:=h',toks:=s.toks+knd.draws k }):wpAny (model prog w) A (Builtin.Dict.takeOut d (.ref a)) Q E s:=by
 obtain ⟨o,es,ep,e1,e2,e3,e4,e5,e6⟩:=hm
 obtain ⟨j0,p0,h0⟩:=is
 unfold Builtin.Dict.takeOut
 try with_reducible refine aV5 ?_
 apply aN3
 apply knd.pyHash hu hkey
 apply aN3
 refine wpAny_dictFind_heap (s:={ s with toks:=s.toks+knd.draws k }) hu hkey e1 e3 e4 e5 e6 (fun no=>absurd h0 (no j0 p0)) fun j p hj=>?_
 apply aN3
 apply wpAny_dictEntries (s:={ s with toks:=s.toks+knd.draws k }) e1 e3
 rw [entry_at e4 j,hj]
 have sz:=size_of_entries e4
 apply aN3
 refine wpAny_updateDictKeys (hz:=by omega) (s:={ s with toks:=s.toks+knd.draws k }) e1 e3 (aN8 (q j p _ hj ⟨_,_,ep+1,aW1 _ e1 (Obj.isFreed_of_dict (Obj.data_mapDictKeys e3 _)),e2.mapDictKeys _,Obj.data_mapDictKeys e3 _,?_⟩ (aY7 ..)))
 rw [iS,<- e4]
 obtain ⟨l⟩:=es
 simp
end
section
variable {prog : Program} {w : World} {K : Type} [DecidableEq K] (knd : HeapKind prog w K) (d a : Addr)
theorem at2:MeetsIn prog w (Builtin.«dict.pop» ⟨[.ref d,.ref a],[]⟩) (fun A R s=>knd.room A.in1/\∃ k xs,knd.is s.heap k a/\s.heap.DictOfH knd d xs/\xs.length<=sizeLine/\(∃ (j:Nat) (p:Addr × Value),xs[j]? = some (k,p))/\
  ∀ (j:Nat) (p:Addr × Value) h',xs[j]? = some (k,p)->F0 knd h' d xs j->Heap.SameBut d s.heap h'->R (.ok (.ret p.2)) { s with heap:=h',toks:=s.toks+knd.draws k }):=
 .of_wp fun A R s h=>by
  obtain ⟨hu,k,xs,hk,hm,hz,is,q⟩:=h
  obtain ⟨o,es,ep,e1,e2,e3,e4,e5,e6⟩:=id hm
  have ne:es.isEmpty=false:=by
   obtain ⟨j,p,hj⟩:=is
   have sz:=size_of_entries e4
   have:=(aO7.mp hj).1
   rw [Array.isEmpty_eq_false_iff,ne_eq,<- Array.size_eq_zero_iff]
   omega
  unfold Builtin.«dict.pop»
  apply aN3
  unfold Builtin.Dict.keyAndDefault
  apply aN3
  apply wpAny_notOrdered_dict hm.typeIs
  change wpAny _ _ (pure (d,Value.ref a,none)) _ _ s
  apply aN8
  have kp:(keyPart (Value.ref a)).isSome=false:=rfl
  simp only [kp,aQ1,aV0]
  refine aN3 (wpAny_dictEntries e1 e3 (aN3 (aN8 ?_)))
  simp only [ne,aQ1,aV0]
  apply aN3
  refine at0 hu hk hm hz is fun j p h' hj c sb=>?_
  simp only [Option.isNone_some,aQ1,aV0]
  exact aN3 (aY9 (aN8 ⟨p.2,rfl,q j p h' hj c sb⟩))
end
end Raw
namespace L2
open PySem PySem.Spec PyProof.Rows
theorem Paired.erase {α β:Type}{F:α->β->Prop}:∀ (j:Nat) {l:List α}{m:List β},Paired F l m->Paired F (l.eraseIdx j) (m.eraseIdx j)
 | _,_,_,.nil=>.nil
 | 0,_,_,.cons _ t=>t
 | j+1,_,_,.cons r t=>.cons r (Paired.erase j t)
theorem F1 {α β:Type}{F:α->β->Prop}:∀ {l:List α}{m:List β}{i:Nat}{y:β},Paired F l m->m[i]? = some y->∃ x,l[i]? = some x/\F x y
 | _,_,_,_,.nil,e=>by simp at e
 | _,_,0,_,.cons r _,e=>by simp at e; subst e; exact⟨_,rfl,r⟩
 | _,_,i+1,y,.cons _ t,e=>by
  rw [aS2] at e
  obtain ⟨x,h1,h2⟩:=F1 t e
  exact⟨x,by rw [aS2]; exact h1,h2⟩
theorem F2 {α β:Type}{F:α->β->Prop}:∀ {l:List α}{m:List β}{i:Nat}{x:α},Paired F l m->l[i]? = some x->∃ y,m[i]? = some y/\F x y
 | _,_,_,_,.nil,e=>by simp at e
 | _,_,0,_,.cons r _,e=>by simp at e; subst e; exact⟨_,rfl,r⟩
 | _,_,i+1,x,.cons _ t,e=>by
  rw [aS2] at e
  obtain ⟨y,h1,h2⟩:=F2 t e
  exact⟨y,by rw [aS2]; exact h1,h2⟩
section
variable {X : Cx} {pins : List (Addr × Obj)} {σ : St} {H : Hp} {s : Shared} {a b : Addr} {kvs : List (List aJ × V)} {k : List aJ} {A : Around} {E : Value → Shared → Prop}
theorem at3 {Q:Value->Shared->Prop} (hu:A.units+1 < cLine) (I:a8 X pins σ H s) (e:H a=some (.dT kvs)) (eb:H b=some (.tup (k.map kV))) (is:∃ j:Nat,(kvs.map (·.1))[j]? = some k)
  (h:∀ (j:Nat) v w' s',(kvs.map (·.1))[j]? = some k->a8 X pins σ (upd H a (.dT (kvs.eraseIdx j))) s'->aR v w'->Q w' s'):wpAny (model X.prog X.w) A (call (.builtin "dict.pop") [.ref a,.ref b]) Q E s:=by
 obtain ⟨z,hd,xs,rel,dd⟩:=xV I.hok e
 have hz:xs.length<=sizeLine:=by rw [<- Paired.length rel]; exact z
 refine call_meetsIn PySem.F.slot_dict_pop dd.typeIs PySem.F.entry_dict_pop (PySem.F.args_dict_pop_2 _ _) (Raw.at2 (tupleKind (eQ X.prog X.w)) a b) ⟨tupleKind_room_in1 hu,k,xs,oN I.hok eb,dd,hz,?_,fun j p h' hj c sb=>?_⟩
 ·obtain ⟨j,hj⟩:=is
  rw [aP4] at hj
  cases ej:kvs[j]? with
  | none=>rw [ej] at hj; cases hj
  | some kv=>
   rw [ej] at hj
   cases hj
   obtain ⟨y,hy,r⟩:=F2 rel ej
   exact⟨j,y.2,by rw [hy]; exact congrArg some (bb2 r.1.symm rfl)⟩
 ·obtain ⟨kv,hkv,r⟩:=F1 rel hj
  obtain ⟨o,es,ep,h1,h2,h3,h4⟩:=c
  have nd:((xs.eraseIdx j).map (·.1)).Nodup:=by
   obtain ⟨_,_,_,_,_,_,_,_,nd⟩:=dd
   exact nd.sublist ((List.eraseIdx_sublist xs j).map _)
  refine h j kv.2 p.2 _ (by rw [aP4,hkv]; exact congrArg some r.1) ?_ r.2.2
  refine sS I (by rw [e]; exact bd2) sb ⟨o,h1⟩ ⟨aQ7 (List.length_eraseIdx_le kvs j) z,hd,_,KT.keeps (Paired.erase j rel) fun c ys ec=>?_,o,es,ep,h1,h2,h3,h4,nd⟩
  rw [aZ (vZ ec e (fun z=>nomatch z))]
  exact ec
end
section
variable {X : Cx} {o e : Expr} {apos cpos : Pos} {td ty : TE}
def F3 (td ty:TE):TE:=fun σ H Q=>td σ H fun x H1=>∃ a,x = .ref a/\xZ H1 a/\ty σ H1 fun y H2=>∃ kvs k b,H2 a=some (.dT kvs)/\y = .ref b/\H2 b=some (.tup (k.map kV))/\(∃ j:Nat,(kvs.map (·.1))[j]? = some k)/\∀ (j:Nat) v,(kvs.map (·.1))[j]? = some k->Q v (upd H2 a (.dT (kvs.eraseIdx j)))
theorem at4 (hu:X.A.units+1 < cLine) (ho:PE X o td) (he:PE X e ty) (m:M1 X o "pop" apos e cpos):PE X (.Call (.Attribute o "pop" apos) [e] [] cpos) (F3 td ty):=by
 intro pins s σ H Q I h
 refine wpAny_Call_method m.base m.few m.line PySem.F.plainAttrs_dict PySem.F.slot_dict_pop PySem.F.type_dict_pop (aQ (ho pins s σ H _ I h) fun u s1 h1=>?_)
 obtain ⟨x,H1,I1,rx,a,ex,d,q1⟩:=h1
 subst ex
 obtain rfl:u=Value.ref a:=rx
 obtain ⟨t1,t2,_⟩:=ag7 I1 d
 refine⟨t1,t2,?_⟩
 rw [m.trees]
 refine Calls.callWith_builtin rfl (Calls.evalArgs_plain (Calls.spliced_cons (aQ (he pins s1 σ H1 _ I1 q1) fun iv s2 h2=>Calls.spliced_nil ?_)))
 obtain ⟨y,H2,I2,ry,kvs,k,b,ea,ey,eb,is,q2⟩:=h2
 subst ey
 obtain rfl:iv=Value.ref b:=ry
 exact at3 hu I2 ea eb is fun j v w' s3 hj I3 rw'=>⟨v,_,I3,rw',q2 j v hj⟩
end
end L2
namespace Core
open PySem L2 PP
def uL (ns:List Int):Bool:=((ns.zip (ns.drop 1)).map fun p=>decide (p.1 < p.2)).all id
def kin (ws:List Int) (ls:List (Int × Int)) (S:List Int) (h:Int):Bool:=!decide (h ∈ S) && decide (ws.getD h.toNat 0<=(((t6 ls h).filter fun x=>decide (x ∈ S)).length:Int))
def nextOf (ws:List Int) (ls:List (Int × Int)) (S:List Int):List Int:=((List.range ws.length).map fun (i:Nat)=>(i:Int)).filter (kin ws ls S)
def nO (ws:List Int) (ls:List (Int × Int)) (S:List Int):Nat->List Int
 | 0=>S
 | k+1=>nO ws ls S k ++ nextOf ws ls (nO ws ls S k)
def after (ws:List Int) (ls:List (Int × Int)) (S:List Int) (m:Nat):List (List Int):=(List.range m).map fun k=>nextOf ws ls (nO ws ls S k)
def dB (ws:List Int) (ls:List (Int × Int)) (ns:List Int) (m:Nat):Prop:=(∀ k < m,nextOf ws ls (nO ws ls ns k) ≠ [])/\nextOf ws ls (nO ws ls ns m) = []
theorem at5 {ns:List Int}{i:Nat}{x:PV} (h:(intz ns)[i]? = some x):∃ n,x = .int n/\ns[i]? = some n:=by
 rw [aP4] at h
 cases e:ns[i]? with
 | none=>rw [e] at h; cases h
 | some n=>rw [e] at h; exact⟨n,(aQ0 h).symm,rfl⟩
theorem qG {lo:Int}{n i:Nat}{x:PV} (h:(jA lo n)[i]? = some x):x = .int (lo+i)/\i < n:=by
 have hi:i < n:=by
  have:=(aO7.mp h).1
  rwa [jV] at this
 rw [zE hi] at h
 exact⟨(aQ0 h).symm,hi⟩
def rng (n:Nat):List Int:=(List.range n).map fun (i:Nat)=>(i:Int)
theorem at6 (a:List Int):(intz a).length=a.length:=aO2 _
def F4 (x:PV) (ns:List Int):Prop:=x = .tup (intz ns) ∨ x = .lst (intz ns)
theorem kA:∀ (ls:List (Int × Int)),flats (ls.map fun l=>PV.tup [.int l.1,.int l.2])=true
 | []=>rfl
 | l :: r=>by
  show (flat (.tup [.int l.1,.int l.2]) && flats (r.map fun l=>PV.tup [.int l.1,.int l.2]))=true
  rw [kA r]; rfl
theorem nP (ns:List Int):flat (.tup (intz ns))=true:=tG ns
abbrev cM (t:aP) (N:List Str) (p:bN):Prop:=∀ xs Q,p xs Q->t { nx:=fun _=>Q .non,rt:=Q } (dS N xs)
def at7:bN:=fun xs Q=>∃ x ns,xs = [x]/\F4 x ns/\ns.length<=1000/\Q (.bl (uL ns))
def inB (n:Nat) (x:Int):Bool:=decide (0<=x) && decide (x < (n:Int))
structure DS (ps:List (aJ × PV)) (S:List Int):Prop where
 has:∀ i:Int,(dI ps (Sum.inl i:aJ)).isSome=decide (i ∈ S)
 len:ps.length<=S.length
 fl:flats (ps.map (·.2))=true
section
variable {κ : Type} [DecidableEq κ]
theorem at8 {p:κ × PV}{r:List (κ × PV)}{k:κ} (e:p.1=k):dI (p :: r) k=some p.2:=by simp [dI,aX9,e]
theorem at9 {p:κ × PV}{r:List (κ × PV)}{k:κ} (e : ¬ p.1=k):dI (p :: r) k=dI r k:=by simp [dI,aX9,e]
theorem F5 (k:κ):∀ kvs:List (κ × PV),(kvs.any fun kv=>decide (kv.1=k))=(dI kvs k).isSome
 | []=>rfl
 | p :: r=>by
  rw [List.any_cons]
  by_cases e:p.1=k
  ·simp only [at8 e,aO4 e,Bool.true_or,Option.isSome_some]
  ·rw [at9 e,aO1 e,Bool.false_or]; exact F5 k r
end
theorem F6 {ws:List Int}{h:Int} (h0:0<=h) (h1:h < (ws.length:Int)):atI (intz ws) h=some (.int (ws.getD h.toNat 0)):=by
 refine ai7 h0 ?_
 have:h.toNat < ws.length:=by omega
 rw [aP4,aP6,aN6 this]; rfl
def tups (rs:List (List Int)):List PV:=rs.map fun r=>PV.tup (intz r)
theorem F7:∀ (rs:List (List Int)),flats (tups rs)=true
 | []=>rfl
 | r :: t=>by
  show (flat (.tup (intz r)) && flats (tups t))=true
  rw [nP,F7 t]; rfl
end Core
namespace PP
open PySem L2
def qH:List PV->(PV->Prop)->Prop:=fun xs Q=>∃ ps:List (List aJ × PV),xs = [.dT ps]/\Q (.lst (ps.map fun p=>PV.tup (p.1.map kP)))
end PP
namespace Core
open PySem L2 PP
theorem au0 (g:Tg) (n:Int):Nw g (.int n):=by cases g <;> first | exact trivial | rfl
def nQ (x:PV) (ns:List Int):Prop:=x = .scr ns ∨ x = .lst (intz ns)
theorem nQ.seq {x:PV}{ns:List Int} (h:nQ x ns):j7 x=some (intz ns):=by rcases h with rfl | rfl <;> rfl
theorem nQ.len {x:PV}{ns:List Int} (h:nQ x ns):yZ x=some ns.length:=by
 rcases h with rfl | rfl
 ·rfl
 ·show some (intz ns).length=_
  rw [at6]
def jF:bN:=fun xs Q=>∃ x ns k,xs = [x,.int k]/\nQ x ns/\0<=k/\Q (.int (ns.getD k.toNat 0))
def F8:aP:=(aG (bV (aX (iM (a5 1) (aC dG (a6 (a5 0) a9)))) (bJ (aW (a5 0) (a5 1))) bZ)
 (bJ (qC (.int 0))))
theorem au1:cM F8 ["script","k"] jF:=by
 rintro xs Q ⟨x,ns,k,rfl,hx,h0,q⟩
 refine⟨_,rfl,_,rfl,_,_,rfl,hx.len,_,_,rfl,rfl,_,rfl,?_⟩
 by_cases h:k < (ns.length:Int)
 ·rw [aO4 h]
  exact bI ⟨_,rfl,_,rfl,_,_,_,hx.seq,rfl,F6 h0 h,au0 _ _,q⟩
 ·rw [aO1 h]
  rw [aP6,List.getElem?_eq_none (by omega)] at q
  exact b6 ⟨trivial,q⟩
def b9 (ls:List (Int × Int)):List PV:=ls.map fun l=>PV.tup [.int l.1,.int l.2]
theorem nR (ls:List (Int × Int)):(b9 ls).length=ls.length:=aO2 _
def fP (l m:Int × Int):Prop:=l.1 < m.1 ∨ (l.1=m.1/\l.2 < m.2)
abbrev si (n:Int):Option Slot:=some (.sh true (.int n))
def qI:bN:=fun xs Q=>∃ i,xs = [.int i]/\Q (.bl true)
def F9 (K:PySem.W.Frag):aP:=(bJ (jT (fY K "int" (a5 0)) (tJ (fY K "bool" (a5 0)))))
theorem au2 {K:PySem.W.Frag} (k1:PySem.W.kitOne K (.type "int") (.type "int")=some true) (k2:PySem.W.kitOne K (.type "int") (.type "bool")=some false):cM (F9 K) ["found"] qI:=by
 rintro xs Q ⟨i,rfl,q⟩
 exact⟨_,rfl,_,_,rfl,k1,_,rfl,bI ⟨_,rfl,_,_,rfl,k2,_,rfl,trivial,q⟩⟩
theorem uM {ls:List (Int × Int)}{i:Nat}{x:PV} (h:(b9 ls)[i]? = some x):∃ l,x = .tup [.int l.1,.int l.2]/\ls[i]? = some l:=by
 unfold b9 at h
 rw [aP4] at h
 cases e:ls[i]? with
 | none=>rw [e] at h; cases h
 | some n=>rw [e] at h; exact⟨n,(aQ0 h).symm,rfl⟩
end Core
namespace PP
open PySem L2 PyProof.Rows
section
variable {X : Cx} {a b e : Expr} {ta tb te : aF} {tr : cJ} {pos p2 p3 pos2 : Pos}
theorem au3:dR X qH (fun xs H Q=>∃ a kvs,xs = [.ref a]/\H a=some (.dT kvs)/\∀ l ys,H l=none->Paired (gH H) ys (kvs.map (·.1))->Q (.ref l) (upd H l (.lst ys))):=by
 rintro H vs xs Q Q' r ⟨ps,rfl,q⟩ k
 obtain ⟨v,rfl,r1⟩:=r.one
 cases r1 with
 | @dT a kvs _ m h e r2=>
  refine⟨a,kvs,rfl,h,fun l ys hl pr=>k _ _ _ (bY hl _) (.lst hl c9 ?_) q⟩
  have kv:∀ (k:List aJ),Reps X.K (fun a=>H a=none) H (k.map kV) (k.map kP):=fun k=>by
   induction k with
   | nil=>exact .nil
   | cons a r ih=>exact .cons (by cases a <;> constructor) ih
  have go:∀ {ys:List V}{ks:List (List aJ)},Paired (gH H) ys ks->Reps X.K (fun a=>H a=none) H ys (ks.map fun k=>PV.tup (k.map kP)):=fun {ys ks} pr=>by
   induction pr with
   | nil=>exact .nil
   | cons h t ih=>
    obtain ⟨q,rfl,hq⟩:=h
    exact .cons (.tup hq (kv _)) ih
  have e2:(ps.map fun p=>PV.tup (p.1.map kP))=(kvs.map (·.1)).map fun k=>PV.tup (k.map kP):=by rw [e,aR7]; rfl
  rw [e2]
  exact (go pr).same (bY hl _) fun _ z=>z
theorem G0 (B:Bt X.mg) (hc:X.calm=true) (ha:QA X [e] tr) (hg:Gl X "list":=by rfl) (he:starEach [e] X.env=(false,eval e X.env) :: starEach [] X.env:=by rfl) (hpl:(backTo pos (starEach [] X.env)).any (·.1)=false:=by rfl):QE X (.Call (.Name "list" p2) [e] [] pos) (aC qH tr):=
 tX (ai5 hc) au3 hg B.list PyProof.Rows.boot_list ha (he:=he) (hpl:=hpl)
def uN:V->Int
 | .int i=>i
 | _=>0
def iT (H:Hp):V->List Int
 | .ref a=>match H a with
  | some (.tup us)=>us.map uN
  | _=>[]
 | _=>[]
theorem au4 {H:Hp}{a:Addr}{ns:List Int} (h:H a=some (.tup (ns.map V.int))):iT H (.ref a)=ns:=by
 show (match H a with | some (.tup us)=>us.map uN | _=>[])=ns
 rw [h]
 show (ns.map V.int).map uN=ns
 rw [aR7]
 exact List.map_id _
theorem uO {K:PySem.W.Frag}{M:Addr->Prop}{H:Hp}:∀ {us:List V}{ys:List (List Int)},Reps K M H us (ys.map fun r=>PV.tup (intz r))->us.map (iT H)=ys/\∀ u ∈ us,∃ b,u = .ref b/\H b=some (.tup ((iT H u).map V.int))
 | _,[],.nil=>⟨rfl,fun u h=>nomatch h⟩
 | _,y :: ys,.cons r t=>by
  obtain ⟨a,us,rfl,h,r1⟩:=r.sqT
  obtain rfl:=r1.ofInts
  obtain ⟨h1,h2⟩:=uO t
  have hk:=au4 h
  refine⟨by rw [aT4,h1,hk],fun u hu=>?_⟩
  rcases aO0.mp hu with rfl | hu
  ·exact⟨a,rfl,by rw [hk]; exact h⟩
  ·exact h2 u hu
theorem uP {K:PySem.W.Frag}{M:Addr->Prop}{H:Hp}:∀ {us:List V},(∀ u ∈ us,∃ b,u = .ref b/\H b=some (.tup ((iT H u).map V.int)))->Reps K M H us ((us.map (iT H)).map fun r=>PV.tup (intz r))
 | [],_=>.nil
 | u :: us,h=>by
  obtain ⟨b,rfl,hb⟩:=h u aO9
  exact .cons (.tup hb (Reps.intz _)) (uP fun v hv=>h v (aO3 _ hv))
end
def au5 (K:PySem.W.Frag):Sp:=fun vs H Q _=>∃ (a:Addr) (ns:List Int),vs = [.ref a]/\(aL K H a (ns.map V.int) ∨ aM K H a (ns.map V.int))/\ns.length<=1000/\∀ H',aE H H'->Q (.bl (Core.uL ns)) H'
section
variable {P : Program} {w : World} {K : PySem.W.Frag} {mg : Str → Option Value} {base : Heap} {f : Addr} {fd : FuncData} {k : Nat}
theorem G1 (F:dA P w K mg base eC k f fd ["things"] (au5 K)) (b:j5 K fd ["things"] []) (kp:PySem.W.keepIn K (.ref f)=true) (m:mg "rises" = some (.ref f)):Df P w K mg base k "rises" ["things"] Core.at7:=by
 refine⟨f,fd,F.imp fun vs H Q E h=>?_,b,kp,m⟩
 obtain ⟨xs,Qp,r,⟨x,ns,rfl,hx,hl,q⟩,k⟩:=h
 obtain ⟨v,rfl,r1⟩:=r.one
 rcases hx with rfl | rfl
 ·obtain ⟨a,us,rfl,h,r2⟩:=r1.sqT
  obtain rfl:=r2.ofInts
  exact⟨a,ns,rfl,.inl (aL.of h),hl,fun H' s=>k _ H' _ s (.bl _) q⟩
 ·obtain ⟨a,us,rfl,_,h,r2⟩:=r1.sqL
  obtain rfl:=r2.ofInts
  exact⟨a,ns,rfl,.inr (aM.of h),hl,fun H' s=>k _ H' _ s (.bl _) q⟩
end
end PP
namespace Core
open PySem L2 PP
def two (l:Int × Int):List Int:=[l.1,l.2]
def nT (r:List Int):Int × Int:=(r.getD 0 0,r.getD 1 0)
theorem uQ (ls:List (Int × Int)):b9 ls=(ls.map two).map fun r=>PV.tup (intz r):=by
 unfold b9
 rw [aR7]; rfl
theorem au6 {zs:List (List Int)}{ls:List (Int × Int)} (h:zs.Perm (ls.map two)):∃ ls':List (Int × Int),zs=ls'.map two/\ls'.Perm ls:=by
 refine⟨zs.map nT,?_,?_⟩
 ·rw [aR7]
  have:∀ z ∈ zs,(two ∘ nT) z=z:=fun z hz=>by
   obtain ⟨l,_,rfl⟩:=aQ8.mp (h.mem_iff.mp hz)
   rfl
  rw [List.map_congr_left this,List.map_id']
 ·have:=h.map nT
  rw [aR7] at this
  have e:ls.map (nT ∘ two)=ls:=by
   have:∀ l ∈ ls,(nT ∘ two) l=id l:=fun l _=>rfl
   rw [List.map_congr_left this,List.map_id]
  rw [e] at this
  exact this
theorem au7 {ls:List (Int × Int)} (so:(ls.map two).Pairwise fun u v=>HT.aH v u=false) (nd:ls.Nodup):ls.Pairwise fP:=by
 rw [aT1] at so
 refine (List.pairwise_and_iff.mpr ⟨so,nd⟩).imp fun {a b} h=>?_
 obtain ⟨h1,h2⟩:=h
 unfold two at h1
 rw [HT.fU] at h1
 unfold fP
 by_cases e:b.1=a.1
 ·rw [if_pos e,HT.fU] at h1
  by_cases e2:b.2=a.2
  ·exact absurd (bb2 e.symm e2.symm) h2
  ·rw [if_neg e2] at h1
   have:=bb3 h1
   omega
 ·rw [if_neg e] at h1
  have:=bb3 h1
  omega
def G2:bN:=fun xs Q=>∃ ns:List Int,xs = [.scr ns]/\ns.length<=63/\Q (.bl true)
structure au8 (K:PySem.W.Frag):Prop where
 ii:PySem.W.kitOne K (.type "int") (.type "int")=some true
 ib:PySem.W.kitOne K (.type "int") (.type "bool")=some false
 tt:PySem.W.kitOne K (.type "tuple") (.type "tuple")=some true
 ll:PySem.W.kitOne K (.type "list") (.type "list")=some true
 bb:PySem.W.kitOne K (.type "bool") (.type "bool")=some true
theorem kB (K:PySem.W.Frag):au8 K:=by
 have same:∀ n:String,PySem.W.kitMeta n=true->True:=fun _ _=>trivial
 refine⟨?_,?_,?_,?_,?_⟩
 ·unfold PySem.W.kitOne; rw [if_pos (by decide)]
 ·have e:(if PySem.W.kitMeta "bool" = true then (fastBuiltinMro "int").map (·.contains (Value.type "bool")) else none)=some false:=by decide +kernel
  unfold PySem.W.kitOne
  rw [if_neg (by decide)]
  exact e
 ·unfold PySem.W.kitOne; rw [if_pos (by decide)]
 ·unfold PySem.W.kitOne; rw [if_pos (by decide)]
 ·unfold PySem.W.kitOne; rw [if_pos (by decide)]
end Core
namespace PP
open PySem L2 PyProof.Rows
theorem au9 {P:Program}{w:World}{K:PySem.W.Frag}{mg:Str->Option Value}{base:Heap}{k:Nat}{x:Str}{ps N:List Str}{p:bN}{st:Stmt}{f:Addr}{fd:FuncData} (F:fD K x x st f fd) (S:FnScope N ps (aV st))
  (len:∀ xs Q,p xs Q->xs.length=ps.length)
  (body:∀ (cdv:Value) (A:Around) (outer:List Env) (s:Shared) (H:Hp) (E:XK),bX k (A.deeper (envOfC x (aV st) s.heap.objs.size f cdv))->
   ∃ t,eI (cS eC P w K mg base N x (aV st) f cdv A outer s H E).nox (dO st) t/\∀ xs Q,p xs Q->t { nx:=fun _=>Q .non,rt:=Q } (dS N xs)):dA P w K mg base eC (k+1) f fd ps (mP K p):=by
 refine F.ok S (fun vs H Q E h=>?_) (fun cdv A outer s H vs Q E hr h=>?_)
 ·obtain ⟨xs,Qp,r,q,_⟩:=h
  rw [r.length]; exact len xs Qp q
 ·obtain ⟨xs,Qp,r,q,k⟩:=h
  obtain ⟨t,ht,hq⟩:=body cdv A outer s H E hr
  refine⟨_,ht,fun _=>False,dS N xs,_,u7 r,hq xs Qp q,?_,?_,?_,?_⟩
  ·exact fun W' σ' H' ρ' e px q=>k _ _ _ px.same .non q
  ·exact fun v H' x s r q=>k _ _ _ s r q
  ·exact fun W' σ' H' ρ' e px q=>q
  ·exact fun W' σ' H' ρ' e px q=>q
def qJ (K:PySem.W.Frag):Sp:=fun vs H Q _=>∃ (a:Addr) (ns:List Int),vs = [.ref a]/\iI K H a ns/\ns.length<=63/\∀ H',Q (.bl true) H'
theorem av0 {P:Program}{w:World}{K:PySem.W.Frag}{mg:Str->Option Value}{base:Heap}{k:Nat}{f:Addr}{fd:FuncData} (F:dA P w K mg base eC k f fd ["script"] (mP K Core.G2)):dA P w K mg base eC k f fd ["script"] (qJ K):=
 F.imp fun vs H Q E h=>by
  obtain ⟨a,ns,rfl,hs,hl,q⟩:=h
  refine⟨[.scr ns],fun z=>z = .bl true,.cons (.scr hs) .nil,⟨ns,rfl,hl,rfl⟩,?_⟩
  rintro v H' x _ r rfl
  cases r
  exact q H'
theorem av1 {K:PySem.W.Frag}{H:Hp}{a:Addr}{ns:List Int} (hO:oO H) (h:aM K H a (ns.map V.int)):iI K H a ns:=by
 rcases h with (h | ⟨o,h⟩) | h
 ·rcases hO a with e | ⟨o,xs,e⟩ <;> (rw [h] at e; cases e)
 ·exact .inl ⟨o,h⟩
 ·exact .inr h
end PP
namespace PyProof.Rows
open PySem
end PyProof.Rows
namespace L2
open PySem PySem.Spec PyProof.Rows
def uR (K:PySem.W.Frag) (a:Addr):It:=
  ⟨fun i H=>∃ xs x,aM K H a xs/\xs[i]? = some x,
   fun i H v H'=>∃ T x,H T=none/\v = .ref T/\H'=upd H T (.tup [.int i,x])/\∀ xs,aM K H a xs->xs[i]? = some x,
   fun i H=>∃ xs,aM K H a xs/\xs.length<=i⟩
structure av2 (e it a:Addr) (i:Nat) (h:Heap):Prop where
 ee:∃ old,IsEnum h e it i old
 s1:h.IsListIter it a i
theorem av3 {P:Program}{w:World}{K:PySem.W.Frag}{elts:List Expr}{k:Nat}{pos:Pos} (a e it:Addr) (d:e ≠ it) :
  gU P w K (.Tuple elts k pos) (uR K a) [e,it] e (av2 e it a):=by
 refine⟨by simp,fun i h st c hc=>?_,fun i h h' st kp=>?_,?_,?_,fun A i s Q E st q=>?_⟩
 ·simp only [aO0,aP2,aS1] at hc
  obtain ⟨old,ee⟩:=st.ee
  obtain ⟨o1,f1,g1,d1⟩:=st.s1
  rcases hc with rfl | rfl
  ·exact⟨_,ee,fun v q=>by cases q⟩
  ·exact⟨_,f1,fun v q=>by rw [d1] at q; cases q⟩
 ·obtain ⟨old,ee⟩:=st.ee
  exact⟨⟨old,kp e (by simp) _ ee⟩,st.s1.at fun o z=>kp it (by simp) o z⟩
 ·intro X hP hw hK hc i pins s σ H E I hf st hg
  subst hP hw hK
  obtain ⟨xs,x,ha,hx⟩:=hg
  obtain ⟨us,ru,pu,lu⟩:=I.list ha
  obtain ⟨ux,eux,rux⟩:=ru.get hx
  obtain ⟨old,ee⟩:=st.ee
  refine wpAny_pyNext_enum_item ee st.s1 pu.isList (by simpa using eux) d fun h' eo it' pr sz kp=>⟨_,rfl,?_⟩
  refine wpAny_letOwnedTupleGo_enum (s:={ s with heap:=h',toks:=s.toks+1 }) eo fun g zz sb=>?_
  have hzl:e < s.heap.objs.size:=aO8 ee
  have up:∀ c o,c ≠ e->c ≠ it->s.heap.get? c=some o->g.get? c=some o:=fun c o c1 c2 z=>sb.extBut c o c1 (kp c o c1 c2 z)
  have hT:H s.heap.objs.size=none:=I.hok.fresh (aO6 _)
  have prG:g.get? s.heap.objs.size=some { cls:=.type "tuple",data:=.seq #[.int i s.toks,ux] }:=sb.extBut _ _ (aW8 hzl) pr
  have fpn:∀ c u,H c=some u->c ∉ [e,it]:=fun c u z hm=>by rw [(hf c hm).1] at z; cases z
  have upH:∀ c o u,H c=some u->s.heap.get? c=some o->g.get? c=some o:=fun c o u q z=>by
   have:=fpn c u q
   simp only [aO0,aP2,aS1,not_or] at this
   exact up c o this.1 this.2 z
  have ns:∀ m,s.heap.Ns X.env.locals m->g.Ns X.env.locals m:=fun m hm=>by
   obtain ⟨o,es,ep,e1,e2⟩:=hm
   exact⟨o,es,ep,up _ o (Ne.symm (hf e (by simp)).2.1) (Ne.symm (hf it (by simp)).2.1) e1,e2⟩
  have I2:a8 X pins σ (upd H s.heap.objs.size (.tup [.int i,x])) { s with heap:=g,toks:=s.toks+1 }:=by
   refine I.step (g':=s.gens) (d':=s.drawn) (ch:=[e,it]) (fun c hc'=>?_) (fun c o _ _ hc' z _=>?_) (fun c o _ _ hc' z _=>⟨o.slots,?_⟩) (fun c o _ z n=>?_) (fun c o hc' z=>⟨o,?_⟩)
    (fun c zs z=>by rw [aZ (cR z hT)]; exact z) (fun c u zs z=>by rw [aZ (cR z hT)]; exact z) (fun c ps z=>⟨#[],by rw [aZ (cR z hT),z]; simp⟩) ns (fun c u z=>?_) I.bare
   ·exact⟨(hf c hc').2.2.2.1,(hf c hc').2.1,(hf c hc').2.2.2.2.1,(hf c hc').2.2.2.2.2⟩
   ·simp only [aO0,aP2,aS1,not_or] at hc'
    exact up c o hc'.1 hc'.2 z
   ·simp only [aO0,aP2,aS1,not_or] at hc'
    exact up c o hc'.1 hc'.2 z
   ·rw [aZ (aQ6 (aO8 z))]; exact n
   ·simp only [aO0,aP2,aS1,not_or] at hc'
    exact up c o hc'.1 hc'.2 z
   ·by_cases hcT:c=s.heap.objs.size
    ·subst hcT
     rw [c9] at z; cases z
     exact⟨by show 2<=sizeLine; decide,[.int i s.toks,ux],.cons ⟨_,rfl⟩ (.cons rux .nil),⟨_,prG,rfl,_,rfl⟩,fun u e=>by rw [prG] at e; cases e; rfl⟩
    ·rw [aZ hcT] at z
     refine (I.hok c u z).stay (fun c' o' hc2 q'=>?_) (fun c' q'=>by rw [aZ (cR q' hT)]; exact q') fun c' zs q'=>by rw [aZ (cR q' hT)]; exact q'
     rcases hc2 with rfl | hc2
     ·exact upH _ _ _ z q'
     ·exact upH _ _ _ hc2 q'
  refine⟨.ref s.heap.objs.size,_,I2,rfl,⟨_,x,hT,rfl,rfl,fun xs' ha'=>?_⟩,⟨⟨ux,by push_cast; exact zz⟩,it'.at fun o z=>sb.extBut _ o (Ne.symm d) z⟩,fun c hc'=>?_⟩
  ·rw [I.list_inj ha' ha]; exact hx
  ·obtain ⟨o,z⟩:∃ o,s.heap.get? c=some o:=by
    simp only [aO0,aP2,aS1] at hc'
    obtain ⟨o1,f1,_⟩:=st.s1
    rcases hc' with rfl | rfl
    ·exact⟨_,ee⟩
    ·exact⟨_,f1⟩
   rw [aZ (aQ6 (aO8 z))]; exact (hf c hc').1
 ·intro X hP hw hK hc i pins s σ H E I hf st hg
  subst hP hw hK
  obtain ⟨xs,ha,hi⟩:=hg
  obtain ⟨us,ru,pu,lu⟩:=I.list ha
  obtain ⟨old,ee⟩:=st.ee
  have hh:X.A.handled=none:=I.ok.hd hc
  have e1:=ru.length
  refine wpAny_pyNext_enum_end hh ee st.s1 pu.isList (by rw [Array.getElem?_eq_none]; simp only [aN7]; omega) fun g kp=>⟨rfl,?_⟩
  have fpn:∀ c u,H c=some u->c ∉ [e,it]:=fun c u z hm=>by rw [(hf c hm).1] at z; cases z
  have upH:∀ c o u,H c=some u->s.heap.get? c=some o->g.get? c=some o:=fun c o u q z=>by
   have:=fpn c u q
   simp only [aO0,aP2,aS1,not_or] at this
   exact kp c o this.2 z
  have ns:∀ m,s.heap.Ns X.env.locals m->g.Ns X.env.locals m:=fun m hm=>by
   obtain ⟨o,es,ep,e1,e2⟩:=hm
   exact⟨o,es,ep,kp _ o (Ne.symm (hf it (by simp)).2.1) e1,e2⟩
  refine I.step (g':=s.gens) (d':=s.drawn) (ch:=[it]) (fun c hc'=>?_) (fun c o _ _ hc' z _=>?_) (fun c o _ _ hc' z _=>⟨o.slots,?_⟩) (fun c o _ z n=>n) (fun c o hc' z=>⟨o,?_⟩)
   (fun c zs z=>z) (fun c u zs z=>z) (fun c ps z=>⟨#[],by rw [z]; simp⟩) ns (fun c u z=>?_) I.bare
  ·have hm:c ∈ [e,it]:=aO3 _ hc'
   exact⟨(hf c hm).2.2.2.1,(hf c hm).2.1,(hf c hm).2.2.2.2.1,(hf c hm).2.2.2.2.2⟩
  ·exact kp c o (fun y=>hc' (by rw [y]; simp)) z
  ·exact kp c o (fun y=>hc' (by rw [y]; simp)) z
  ·exact kp c o (fun y=>hc' (by rw [y]; simp)) z
  ·refine (I.hok c u z).stay (fun c' o' hc2 q'=>?_) (fun _ q'=>q') fun _ _ q'=>q'
   rcases hc2 with rfl | hc2
   ·exact upH _ _ _ z q'
   ·exact upH _ _ _ hc2 q'
 ·obtain ⟨old,ee⟩:=st.ee
  exact wpAny_pyIter_enum ee q
end L2
namespace Zp
open PySem PyProof.Rows
section
variable {prog : Program} {w : World} {A : Around} {E : Value → Shared → Prop} {s : Shared}
theorem av4 {e it t:Addr}{i:Nat}{items:Array Value}{x old:Value}{Q:Option Value->Shared->Prop} (he:IsEnum s.heap e it i old) (hi:s.heap.IsTupleIter it t i) (ht:s.heap.IsTuple t items) (hx:items[i]? = some x) (ne:e ≠ it)
  (q:∀ h',IsEnumOut h' e it ((i:Int)+1) x s.heap.objs.size->h'.IsTupleIter it t (i+1)->h'.get? s.heap.objs.size=some { cls:=.type "tuple",data:=.seq #[.int i s.toks,x] }->h'.objs.size=s.heap.objs.size+1->
   (∀ b o,b ≠ e->b ≠ it->s.heap.get? b=some o->h'.get? b=some o)->Q (some (.ref s.heap.objs.size)) { s with heap:=h',toks:=s.toks+1 }):wpAny (model prog w) A (pyNext (.ref e)) Q E s:=by
 have T:s.TypeIs (.ref e) "enumerate":=⟨_,he,rfl⟩
 have slot:=PySem.F.slot_enumerate_next
 unfold pyNext
 apply aN3
 apply wpAny_attempt
 apply aT3 (name:=Str.ofString "__next__") T slot
 apply aT6 slot T PySem.F.entry_enumerate_next _ (PySem.F.args_enumerate_next_1 _)
 change wpAny _ _ (field (.ref e) 2 >>= _) _ _ _
 apply aN3
 refine aT2 he rfl (x:=.ref it) rfl ?_
 apply aN3
 refine yM hi ht hx fun g1 it1 sb1=>?_
 have e1:IsEnum g1 e it i old:=sb1.extBut _ _ ne he
 change wpAny _ _ (field (.ref e) 3 >>= _) _ _ _
 apply aN3
 refine aT2 e1 rfl (x:=rawInt i) rfl ?_
 change wpAny _ _ (field (.ref e) 4 >>= _) _ _ _
 apply aN3
 refine aT2 e1 rfl (x:=.none) rfl ?_
 change wpAny _ _ (mkInt i >>= _) _ _ _
 apply aN3
 refine wpAny_mkInt ?_
 change wpAny _ _ (setField (.ref e) 3 (rawInt ((i:Int)+1)) >>= _) _ _ _
 apply aN3
 refine aU2 e1 (by simp) fun g2 e2 sb2=>?_
 apply aN3
 refine aU2 e2 (by simp) fun g3 e3 sb3=>?_
 have e3:IsEnum g3 e it ((i:Int)+1) old:=e3
 apply aN3
 refine wpAny_newTuple ?_ (by show 2<=sizeLine; decide)
 have e4:IsEnum (g3.push { cls:=.type "tuple",data:=.seq #[.int i s.toks,x] }) e it ((i:Int)+1) old:=aN5 _ e3
 have size:g3.objs.size=s.heap.objs.size:=by rw [sb3.1,sb2.1,sb1.1]
 change wpAny _ _ (Builtin.SmallTypes.ownedTupleIsFree (.ref e) >>= _) _ _ _
 apply aN3
 unfold Builtin.SmallTypes.ownedTupleIsFree
 apply aN3
 refine aT2 e4 rfl (x:=.none) rfl (aN8 ?_)
 simp only [if_true]
 apply aN3
 apply ba4
 apply aN3
 refine aT2 e4 rfl (x:=old) rfl ?_
 apply aN3
 refine aU2 e4 (by simp) fun g5 e5 sb5=>?_
 apply aN3
 unfold Builtin.SmallTypes.ownedTupleHandOut
 apply aN3
 refine aU2 e5 (by simp) fun g6 e6 sb6=>?_
 refine aU2 e6 (by simp) fun g7 e7 sb7=>?_
 have e7:IsEnumOut g7 e it ((i:Int)+1) x g3.objs.size:=e7
 have elt:e < g3.objs.size:=aO8 e3
 have up:∀ c o,c ≠ e->(g3.push { cls:=.type "tuple",data:=.seq #[.int i s.toks,x] }).get? c=some o->g7.get? c=some o:=fun c o c1 z=>sb7.extBut c o c1 (sb6.extBut c o c1 (sb5.extBut c o c1 z))
 have up3:∀ c o,c ≠ e->g1.get? c=some o->g7.get? c=some o:=fun c o c1 z=>up c o c1 (aN5 _ (sb3.extBut c o c1 (sb2.extBut c o c1 z)))
 have p7:g7.get? g3.objs.size=some { cls:=.type "tuple",data:=.seq #[.int i s.toks,x] }:=up _ _ (aW8 elt) (aP1 _ rfl)
 have s7:g7.objs.size=g3.objs.size+1:=by rw [sb7.1,sb6.1,sb5.1,aU8]
 apply aN3
 apply aY9
 apply aN8
 rw [size] at e7 p7 s7
 refine⟨_,rfl,aN8 ?_⟩
 change Q (some (.ref g3.objs.size)) _
 rw [size]
 exact q g7 e7 (it1.at fun o z=>up3 it o (Ne.symm ne) z) p7 s7 fun b o b1 b2 z=>up3 b o b1 (sb1.extBut b o b2 z)
theorem av5 {e it t:Addr}{i:Nat}{items:Array Value}{old:Value}{Q:Option Value->Shared->Prop} (hh:A.handled=none) (he:IsEnum s.heap e it i old) (hi:s.heap.IsTupleIter it t i) (ht:s.heap.IsTuple t items) (hx:items[i]? = none)
  (q:∀ h',Heap.ExtBut it s.heap h'->Q none { s with heap:=h' }):wpAny (model prog w) A (pyNext (.ref e)) Q E s:=by
 have T:s.TypeIs (.ref e) "enumerate":=⟨_,he,rfl⟩
 have slot:=PySem.F.slot_enumerate_next
 unfold pyNext
 apply aN3
 apply wpAny_attempt
 apply aT3 (name:=Str.ofString "__next__") T slot
 apply aT6 slot T PySem.F.entry_enumerate_next _ (PySem.F.args_enumerate_next_1 _)
 change wpAny _ _ (field (.ref e) 2 >>= _) _ _ _
 apply aN3
 refine aT2 he rfl (x:=.ref it) rfl ?_
 apply aN3
 refine yN hh hi ht hx fun g2 ex eb exo=>?_
 obtain ⟨oe,eo,co⟩:=exo
 apply aN3
 refine wpAny_isInstance (T:="StopIteration") (b:=true) ⟨oe,eo,co⟩ isSubtype_stop ?_
 exact aN8 (q g2 eb)
theorem av6 {M:Model}{A:Around}{E:Value->Shared->Prop}{s:Shared}{α:Type}{c:Prop} [Decidable c] {m n:Sem α}{Q:α->Shared->Prop} (h1:wpAny M A m Q E s) (h2:wpAny M A n Q E s):wpAny M A (if c then m else n) Q E s:=by
 split
 ·exact h1
 ·exact h2
theorem av7 (t:Addr) (xs:Array Value):Meets (Builtin.«enumerate.__new__» ⟨[.type "enumerate",.ref t],[]⟩) (fun _ R s=>s.heap.IsTuple t xs/\R (.ok (.ret (.ref (s.heap.objs.size+1)))) { s with heap:=(s.heap.push { cls:=.type "tuple_iterator",data:=.fields #[.ref t,.int 0 0] }).push { cls:=.type "enumerate",data:=.fields #[.none,.bool false,.ref s.heap.objs.size,rawInt 0,.none,.none] } }):=
 .of_wp fun prog w A R s h=>by
  obtain ⟨hp,g,d,tk,os⟩:=s
  obtain ⟨ht,h⟩:=h
  have sub:=sub_enumerate
  have a1:Heap.IsTuple (Shared.heap ⟨hp,g,d,tk,os⟩) t xs:=ht
  wp_walk using aZ5 a1
  refine wpAny_stack_any fun st=>aN8 ?_
  refine av6 ?_ ?_
  all_goals
   apply aN3
   refine wpAny_of_eq (a:=(Value.ref t,none)) rfl ?_
   wp_walk using aZ5 a1
   have e:∀ (o:Obj) (k:Heap),(k.push o).objs.size=k.objs.size+1:=fun o k=>aU8 ..
   refine⟨_,rfl,?_⟩
   simp only [e] at h ⊢
   exact h
theorem av8 {t:Addr}{xs:Array Value}{Q:Value->Shared->Prop} (ht:s.heap.IsTuple t xs)
  (q:∀ h',IsEnum h' (s.heap.objs.size+1) s.heap.objs.size 0 .none->h'.IsTupleIter s.heap.objs.size t 0->h'.objs.size=s.heap.objs.size+2->(∀ c o,s.heap.get? c=some o->h'.get? c=some o)->Q (.ref (s.heap.objs.size+1)) { s with heap:=h' }) :
  wpAny (model prog w) A (call (.type "enumerate") [.ref t]) Q E s:=by
 refine callType_new PySem.F.called_enumerate (by decide) (PySem.F.typeCall_enumerate_1 _) (PySem.F.newCall_enumerate_1 _) (fun obj=>PySem.F.args_object_init_2 obj _) PySem.F.entry_enumerate_new (av7 t xs) ⟨ht,?_⟩
 have e:∀ (o:Obj) (k:Heap),(k.push o).objs.size=k.objs.size+1:=fun o k=>aU8 ..
 have g0:((s.heap.push { cls:=.type "tuple_iterator",data:=.fields #[.ref t,.int 0 0] }).push { cls:=.type "enumerate",data:=.fields #[.none,.bool false,.ref s.heap.objs.size,rawInt 0,.none,.none] }).get? s.heap.objs.size=some { cls:=.type "tuple_iterator",data:=.fields #[.ref t,.int 0 0] }:=aN5 _ (aP1 _ rfl)
 have g1:((s.heap.push { cls:=.type "tuple_iterator",data:=.fields #[.ref t,.int 0 0] }).push { cls:=.type "enumerate",data:=.fields #[.none,.bool false,.ref s.heap.objs.size,rawInt 0,.none,.none] }).get? (s.heap.objs.size+1)=some { cls:=.type "enumerate",data:=.fields #[.none,.bool false,.ref s.heap.objs.size,rawInt 0,.none,.none] }:=by
  have:=aP1 (h:=s.heap.push { cls:=.type "tuple_iterator",data:=.fields #[.ref t,.int 0 0] }) (o:={ cls:=.type "enumerate",data:=.fields #[.none,.bool false,.ref s.heap.objs.size,rawInt 0,.none,.none] }) rfl
  rw [e] at this; exact this
 exact⟨⟨_,g1,rfl⟩,q _ g1 ⟨_,g0,rfl,rfl⟩ (by rw [e,e]) fun c o z=>aN5 _ (aN5 _ z)⟩
end
end Zp
namespace L2
open PySem PySem.Spec PyProof.Rows
def uS (K:PySem.W.Frag) (a:Addr):It:=
  ⟨fun i H=>∃ xs x,aL K H a xs/\xs[i]? = some x,
   fun i H v H'=>∃ T x,H T=none/\v = .ref T/\H'=upd H T (.tup [.int i,x])/\∀ xs,aL K H a xs->xs[i]? = some x,
   fun i H=>∃ xs,aL K H a xs/\xs.length<=i⟩
structure av9 (e it a:Addr) (i:Nat) (h:Heap):Prop where
 ee:∃ old,IsEnum h e it i old
 s1:h.IsTupleIter it a i
theorem aw0 {P:Program}{w:World}{K:PySem.W.Frag}{elts:List Expr}{k:Nat}{pos:Pos} (a e it:Addr) (d:e ≠ it) :
  gU P w K (.Tuple elts k pos) (uS K a) [e,it] e (av9 e it a):=by
 refine⟨by simp,fun i h st c hc=>?_,fun i h h' st kp=>?_,?_,?_,fun A i s Q E st q=>?_⟩
 ·simp only [aO0,aP2,aS1] at hc
  obtain ⟨old,ee⟩:=st.ee
  obtain ⟨o1,f1,g1,d1⟩:=st.s1
  rcases hc with rfl | rfl
  ·exact⟨_,ee,fun v q=>by cases q⟩
  ·exact⟨_,f1,fun v q=>by rw [d1] at q; cases q⟩
 ·obtain ⟨old,ee⟩:=st.ee
  exact⟨⟨old,kp e (by simp) _ ee⟩,st.s1.at fun o z=>kp it (by simp) o z⟩
 ·intro X hP hw hK hc i pins s σ H E I hf st hg
  subst hP hw hK
  obtain ⟨xs,x,ha,hx⟩:=hg
  obtain ⟨us,ru,pu,lu⟩:=I.tuple ha
  obtain ⟨ux,eux,rux⟩:=ru.get hx
  obtain ⟨old,ee⟩:=st.ee
  refine Zp.av4 ee st.s1 pu (by simpa using eux) d fun h' eo it' pr sz kp=>⟨_,rfl,?_⟩
  refine wpAny_letOwnedTupleGo_enum (s:={ s with heap:=h',toks:=s.toks+1 }) eo fun g zz sb=>?_
  have hzl:e < s.heap.objs.size:=aO8 ee
  have up:∀ c o,c ≠ e->c ≠ it->s.heap.get? c=some o->g.get? c=some o:=fun c o c1 c2 z=>sb.extBut c o c1 (kp c o c1 c2 z)
  have hT:H s.heap.objs.size=none:=I.hok.fresh (aO6 _)
  have prG:g.get? s.heap.objs.size=some { cls:=.type "tuple",data:=.seq #[.int i s.toks,ux] }:=sb.extBut _ _ (aW8 hzl) pr
  have fpn:∀ c u,H c=some u->c ∉ [e,it]:=fun c u z hm=>by rw [(hf c hm).1] at z; cases z
  have upH:∀ c o u,H c=some u->s.heap.get? c=some o->g.get? c=some o:=fun c o u q z=>by
   have:=fpn c u q
   simp only [aO0,aP2,aS1,not_or] at this
   exact up c o this.1 this.2 z
  have ns:∀ m,s.heap.Ns X.env.locals m->g.Ns X.env.locals m:=fun m hm=>by
   obtain ⟨o,es,ep,e1,e2⟩:=hm
   exact⟨o,es,ep,up _ o (Ne.symm (hf e (by simp)).2.1) (Ne.symm (hf it (by simp)).2.1) e1,e2⟩
  have I2:a8 X pins σ (upd H s.heap.objs.size (.tup [.int i,x])) { s with heap:=g,toks:=s.toks+1 }:=by
   refine I.step (g':=s.gens) (d':=s.drawn) (ch:=[e,it]) (fun c hc'=>?_) (fun c o _ _ hc' z _=>?_) (fun c o _ _ hc' z _=>⟨o.slots,?_⟩) (fun c o _ z n=>?_) (fun c o hc' z=>⟨o,?_⟩)
    (fun c zs z=>by rw [aZ (cR z hT)]; exact z) (fun c u zs z=>by rw [aZ (cR z hT)]; exact z) (fun c ps z=>⟨#[],by rw [aZ (cR z hT),z]; simp⟩) ns (fun c u z=>?_) I.bare
   ·exact⟨(hf c hc').2.2.2.1,(hf c hc').2.1,(hf c hc').2.2.2.2.1,(hf c hc').2.2.2.2.2⟩
   ·simp only [aO0,aP2,aS1,not_or] at hc'
    exact up c o hc'.1 hc'.2 z
   ·simp only [aO0,aP2,aS1,not_or] at hc'
    exact up c o hc'.1 hc'.2 z
   ·rw [aZ (aQ6 (aO8 z))]; exact n
   ·simp only [aO0,aP2,aS1,not_or] at hc'
    exact up c o hc'.1 hc'.2 z
   ·by_cases hcT:c=s.heap.objs.size
    ·subst hcT
     rw [c9] at z; cases z
     exact⟨by show 2<=sizeLine; decide,[.int i s.toks,ux],.cons ⟨_,rfl⟩ (.cons rux .nil),⟨_,prG,rfl,_,rfl⟩,fun u e=>by rw [prG] at e; cases e; rfl⟩
    ·rw [aZ hcT] at z
     refine (I.hok c u z).stay (fun c' o' hc2 q'=>?_) (fun c' q'=>by rw [aZ (cR q' hT)]; exact q') fun c' zs q'=>by rw [aZ (cR q' hT)]; exact q'
     rcases hc2 with rfl | hc2
     ·exact upH _ _ _ z q'
     ·exact upH _ _ _ hc2 q'
  refine⟨.ref s.heap.objs.size,_,I2,rfl,⟨_,x,hT,rfl,rfl,fun xs' ha'=>?_⟩,⟨⟨ux,by push_cast; exact zz⟩,it'.at fun o z=>sb.extBut _ o (Ne.symm d) z⟩,fun c hc'=>?_⟩
  ·rw [I.tuple_inj ha' ha]; exact hx
  ·obtain ⟨o,z⟩:∃ o,s.heap.get? c=some o:=by
    simp only [aO0,aP2,aS1] at hc'
    obtain ⟨o1,f1,_⟩:=st.s1
    rcases hc' with rfl | rfl
    ·exact⟨_,ee⟩
    ·exact⟨_,f1⟩
   rw [aZ (aQ6 (aO8 z))]; exact (hf c hc').1
 ·intro X hP hw hK hc i pins s σ H E I hf st hg
  subst hP hw hK
  obtain ⟨xs,ha,hi⟩:=hg
  obtain ⟨us,ru,pu,lu⟩:=I.tuple ha
  obtain ⟨old,ee⟩:=st.ee
  have hh:X.A.handled=none:=I.ok.hd hc
  have e1:=ru.length
  refine Zp.av5 hh ee st.s1 pu (by rw [Array.getElem?_eq_none]; simp only [aN7]; omega) fun g kp=>⟨rfl,?_⟩
  have fpn:∀ c u,H c=some u->c ∉ [e,it]:=fun c u z hm=>by rw [(hf c hm).1] at z; cases z
  have upH:∀ c o u,H c=some u->s.heap.get? c=some o->g.get? c=some o:=fun c o u q z=>by
   have:=fpn c u q
   simp only [aO0,aP2,aS1,not_or] at this
   exact kp c o this.2 z
  have ns:∀ m,s.heap.Ns X.env.locals m->g.Ns X.env.locals m:=fun m hm=>by
   obtain ⟨o,es,ep,e1,e2⟩:=hm
   exact⟨o,es,ep,kp _ o (Ne.symm (hf it (by simp)).2.1) e1,e2⟩
  refine I.step (g':=s.gens) (d':=s.drawn) (ch:=[it]) (fun c hc'=>?_) (fun c o _ _ hc' z _=>?_) (fun c o _ _ hc' z _=>⟨o.slots,?_⟩) (fun c o _ z n=>n) (fun c o hc' z=>⟨o,?_⟩)
   (fun c zs z=>z) (fun c u zs z=>z) (fun c ps z=>⟨#[],by rw [z]; simp⟩) ns (fun c u z=>?_) I.bare
  ·have hm:c ∈ [e,it]:=aO3 _ hc'
   exact⟨(hf c hm).2.2.2.1,(hf c hm).2.1,(hf c hm).2.2.2.2.1,(hf c hm).2.2.2.2.2⟩
  ·exact kp c o (fun y=>hc' (by rw [y]; simp)) z
  ·exact kp c o (fun y=>hc' (by rw [y]; simp)) z
  ·exact kp c o (fun y=>hc' (by rw [y]; simp)) z
  ·refine (I.hok c u z).stay (fun c' o' hc2 q'=>?_) (fun _ q'=>q') fun _ _ q'=>q'
   rcases hc2 with rfl | hc2
   ·exact upH _ _ _ z q'
   ·exact upH _ _ _ hc2 q'
 ·obtain ⟨old,ee⟩:=st.ee
  exact wpAny_pyIter_enum ee q
section
variable {X : Cx}
def G3 (K:PySem.W.Frag) (ta:TA):TI:=fun σ H R=>ta σ H fun vs H1=>∃ a,vs = [.ref a]/\((∃ xs,aM K H1 a xs/\R (uR K a) H1) ∨ (∃ xs,aL K H1 a xs/\R (uS K a) H1))
theorem aw1 {elts:List Expr}{kt:Nat}{pt:Pos}{a:Expr}{ta:TA}{p pos:Pos} (hg:Gl X "enumerate") (hm:X.mg "enumerate" = none) (ha:PA X [a] ta) (hs:starEach [a] X.env = [(false,eval a X.env)]:=by rfl) :
  PI X (.Tuple elts kt pt) (.Call (.Name "enumerate" p) [a] [] pos) (G3 X.K ta):=by
 intro pins s σ H R I h
 refine Call_ (kO I hg hm PyProof.Rows.boot_enumerate (ba5 (aQ (ha pos pins s σ H _ I h) fun us s1 ⟨vs,H1,I1,r1,q1⟩=>?_) (by rw [hs]; rfl) (by rfl)))
 obtain ⟨a',e,q⟩:=q1
 subst e
 have fresh:∀ k,H1 (s1.heap.objs.size+k)=none:=fun k=>I1.hok.fresh (aX2 _ _)
 cases r1 with
 | cons r rr=>
  cases rr
  cases r
  rcases q with ⟨xs,h1,q⟩ | ⟨xs,h1,q⟩
  ·obtain ⟨us,_,p1,_⟩:=I1.list h1
   refine call_enumerate_list p1.isList fun h' z s1' sz kp=>wpAny_pyIter_enum z ?_
   refine⟨s1.heap.objs.size+1,[s1.heap.objs.size+1,s1.heap.objs.size],_,_,H1,rfl,I1.kept (t':=s1.toks) kp,
    av3 a' _ _ (Nat.succ_ne_self _),⟨⟨_,z⟩,s1'⟩,fun c hc=>?_,q⟩
   simp only [aO0,aP2,aS1] at hc
   rcases hc with rfl | rfl
   ·exact I1.fpOk (aX2 _ _) (fresh 1)
   ·exact I1.fpOk (aO6 _) (fresh 0)
  ·obtain ⟨us,_,p1,_⟩:=I1.tuple h1
   refine Zp.av8 p1 fun h' z s1' sz kp=>wpAny_pyIter_enum z ?_
   refine⟨s1.heap.objs.size+1,[s1.heap.objs.size+1,s1.heap.objs.size],_,_,H1,rfl,I1.kept (t':=s1.toks) kp,
    aw0 a' _ _ (Nat.succ_ne_self _),⟨⟨_,z⟩,s1'⟩,fun c hc=>?_,q⟩
   simp only [aO0,aP2,aS1] at hc
   rcases hc with rfl | rfl
   ·exact I1.fpOk (aX2 _ _) (fresh 1)
   ·exact I1.fpOk (aO6 _) (fresh 0)
end
end L2
namespace PP
open PySem L2 PyProof.Rows
def iU (xs:List PV):List PV:=xs.mapIdx fun i x=>PV.tup [.int (i:Int),x]
theorem uT (xs:List PV):(iU xs).length=xs.length:=by unfold iU; rw [List.length_mapIdx]
theorem G4 {xs:List PV}{i:Nat}{x:PV} (h:xs[i]? = some x):(iU xs)[i]? = some (.tup [.int (i:Int),x]):=by
 unfold iU; rw [List.getElem?_mapIdx,h]; rfl
theorem aw2 {xs:List PV}{i:Nat}{z:PV} (h:(iU xs)[i]? = some z):∃ x,xs[i]? = some x/\z = .tup [.int (i:Int),x]:=by
 unfold iU at h
 rw [List.getElem?_mapIdx] at h
 cases e:xs[i]? with
 | none=>rw [e] at h; cases h
 | some x=>rw [e] at h; exact⟨x,rfl,(aQ0 h).symm⟩
def uU (te:aF):eG:=fun ρ Q=>te ρ fun x g=>∃ xs,(x = .lst xs ∨ x = .tup xs)/\(g = .rd->flat x=true)/\Q (iU xs) (tR g xs)
theorem aw3 {K:PySem.W.Frag}{H0:Hp}{W:Addr->Prop}{g:Bool}{H1:Hp}{a:Addr}{us:List V}{xs:List PV} (tw:∀ a,W a->∃ o,H1 a=some o/\eW o=true) (ha:∀ W' H',Ev W H1 W' H'->aM K H' a us) (r:Reps K (Ms H0 W g) H1 us xs):j9 K H0 W g H1 (uR K a) (iU xs):=by
 have lr:=r.length
 have ll:=uT xs
 refine⟨fun W' H' i e hi=>⟨us,us[i]'(by omega),ha W' H' e,by simp⟩,fun W' H' i v H2 e y hi=>?_,fun W' H' e=>⟨us,ha W' H' e,by omega⟩⟩
 obtain ⟨T,x,hT,rfl,rfl,y⟩:=y
 obtain ⟨z,hz,rz⟩:=r.get (y us (ha W' _ e))
 have sm:=bY hT (HO.tup [.int (i:Int),x])
 exact⟨sm,_,G4 hz,.tup c9 (.cons (.int _) (.cons ((rz.keep (e.keep tw)).same sm fun _ q=>q) .nil))⟩
theorem aw4 {K:PySem.W.Frag}{H0:Hp}{W:Addr->Prop}{g:Bool}{H1:Hp}{a:Addr}{us:List V}{xs:List PV} (tw:∀ a,W a->∃ o,H1 a=some o/\eW o=true) (ha:∀ W' H',Ev W H1 W' H'->aL K H' a us) (r:Reps K (Ms H0 W g) H1 us xs):j9 K H0 W g H1 (uS K a) (iU xs):=by
 have lr:=r.length
 have ll:=uT xs
 refine⟨fun W' H' i e hi=>⟨us,us[i]'(by omega),ha W' H' e,by simp⟩,fun W' H' i v H2 e y hi=>?_,fun W' H' e=>⟨us,ha W' H' e,by omega⟩⟩
 obtain ⟨T,x,hT,rfl,rfl,y⟩:=y
 obtain ⟨z,hz,rz⟩:=r.get (y us (ha W' _ e))
 have sm:=bY hT (HO.tup [.int (i:Int),x])
 exact⟨sm,_,G4 hz,.tup c9 (.cons (.int _) (.cons ((rz.keep (e.keep tw)).same sm fun _ q=>q) .nil))⟩
section
variable {X : Cx} {σ : L2.St} {H : Hp} {te : aF} {R : It → Hp → Prop}
theorem aw5 (h:LI X (uU te) σ H R):G3 X.K (iZ (LE X te) jN) σ H R:=by
 obtain ⟨W,ρ,Q,px,q,k⟩:=h
 refine⟨W,ρ,_,px,q,?_⟩
 rintro v H1 x g s r ⟨xs,hx,hg,q⟩
 have px1:=px.mono s
 have tw:∀ a,W a->∃ o,H1 a=some o/\eW o=true:=fun a z=>(px1.wm a z).2
 rcases hx with rfl | rfl
 ·obtain ⟨a,us,rfl,m,h,r⟩:=r.sqL
  have wa : ¬ W a:=by
   cases g with
   | fr=>exact (px.new m).1
   | nw=>exact m.1
   | sh=>exact m
   | rd=>have:=hg rfl; unfold flat at this; cases this
  exact⟨a,rfl,.inl ⟨us,aM.of h,k _ _ _ _ s (aw3 tw (fun W' H' e=>aM.of (e _ _ h wa).1) (l4 px (fun z=>by have:=hg z; unfold flat at this; cases this) r)) q⟩⟩
 ·obtain ⟨a,us,rfl,h,r⟩:=r.sqT
  refine⟨a,rfl,.inr ⟨us,aL.of h,k _ _ _ _ s (aw4 tw (fun W' H' e=>aL.of (e _ _ h fun z=>?_).1) (l4 px (fun z=>by have:=hg z; unfold flat at this; exact this) r)) q⟩⟩
  obtain ⟨o,h',mu⟩:=tw _ z; rw [h] at h'; cases h'; cases mu
theorem aw6 {elts:List Expr}{kt:Nat}{pt p2 pos:Pos}{a:Expr}{ta:aF} (hg:Gl X "enumerate") (hm:X.mg "enumerate" = none) (ha:QE X a ta) (hs:starEach [a] X.env = [(false,eval a X.env)]:=by rfl):QI X (.Tuple elts kt pt) (.Call (.Name "enumerate" p2) [a] [] pos) (uU ta):=
 pH (aw1 hg hm (iC ha jO hs) hs) fun _ _ _=>aw5
end
section
variable {X : Cx} {e : Expr} {te : aF} {pos p2 : Pos} {scope : Scope} {N : List Str} {fr : List (Option Nat)} {x y : Str} {tp xp yp : Pos} {kt : Nat} {iter elt : Expr} {ti : eG}
abbrev uV (x y:Str) (xp yp:Pos) (kt:Nat) (tp:Pos):Expr:=.Tuple [.Name x xp,.Name y yp] kt tp
theorem aw7 {ifs:List Expr}{tcs:cH} (hc:X.calm=true) (he:∀ (s:Shared) (H:Hp) (C:Addr) (fp:List Addr),QE (cI X scope N s H C fp dU) elt te) (hi:∀ (s:Shared) (H:Hp) (C:Addr) (fp:List Addr),kS (cI X scope N s H C fp dU) ifs (LT (cI X scope N s H C fp dU) tcs))
  (hN:N.Nodup) (h0:N[0]? = some x) (h1:N[1]? = some y) (hl:∀ (s:Shared) (H:Hp) (C:Addr) (fp:List Addr),(cI X scope N s H C fp dU).env.scope.names.lookup x=some .local) (hl2:∀ (s:Shared) (H:Hp) (C:Addr) (fp:List Addr),(cI X scope N s H C fp dU).env.scope.names.lookup y=some .local) (s:Shared) (H:Hp) :
  oT X scope N (uV x y xp yp kt tp) ifs elt s H (mC X.K 2 (iB (e9 0) (iB (e9 1) mB))) (LT (X.frm H) tcs) (LE (X.frm H) te):=
 ⟨fun C fp=>rU (X:=cI X scope N s H C fp dU) hc (kR (iY hN h0 (.inl (hl s H C fp)) (.inr (hl s H C fp))) (kR (iY hN h1 (.inl (hl2 s H C fp)) (.inr (hl2 s H C fp))) rT)),fun C fp=>hi s H C fp,fun C fp=>he s H C fp⟩
theorem G5 (hi:QI X (uV x y xp yp kt tp) iter ti) (he:∀ (s:Shared) (H:Hp) (C:Addr) (fp:List Addr),QE (cI X scope N s H C fp dU) elt te)
  (hc:X.calm=true:=by rfl) (S:gG X scope N fr:=by exact gG.of rfl rfl) (hN:N.Nodup:=by decide +kernel) (h0:N[0]? = some x:=by rfl) (h1:N[1]? = some y:=by rfl) (hl:∀ (s:Shared) (H:Hp) (C:Addr) (fp:List Addr),(cI X scope N s H C fp dU).env.scope.names.lookup x=some .local:=by intro _ _ _ _; rfl) (hl2:∀ (s:Shared) (H:Hp) (C:Addr) (fp:List Addr),(cI X scope N s H C fp dU).env.scope.names.lookup y=some .local:=by intro _ _ _ _; rfl) (hf:fr[0]? = some none:=by rfl) (hf2:fr[1]? = some none:=by rfl)
  (hs:∀ x,foldedSetIterable iter X.env x=pure x:=by intro _; rfl):QE X (.ListComp elt [⟨uV x y xp yp kt tp,iter,[],0⟩] scope pos) (l8 ti fr (gK 0 1) hB te):=
 cK (yF (gh:=fun _=>mC X.K 2 (iB (e9 0) (iB (e9 1) mB))) (tch:=fun H=>LT (X.frm H) hB) (teh:=fun H=>LE (X.frm H) te) hc S hi (aw7 hc he (fun _ _ _ _=>A6) hN h0 h1 hl hl2) hs) fun _ _ _=>zG (tS _ 0 1) (fun i e=>by rcases e with e | e <;> (subst e; assumption))
end
section
variable {X : Cx} {a b e o f : Expr} {ta tb te td tk tx : aF} {pos p2 apos cpos : Pos} {σ : L2.St} {H : Hp} {Q' : VK}
theorem G6 {x:Str}{n:Int}{t:Nat} (hg:Gl X x) (hm:X.mg x=some (.int n t)) (hd:(x == ("__debug__" : Str))=false:=by decide):QE X (.Name x pos) (qC (.int n)):=
 cK (X4 (v:=.int n) hg hm ⟨t,rfl⟩ hd) fun _ _ _=>mL fun _=>.int n
end
end PP
namespace Core
open PySem L2 PP
section
variable {ws : List Int} {ls : List (Int × Int)} {os ns : List Int}
def aw8 (ws:List Int) (ls:List (Int × Int)) (T:List Int):Prop:=∀ h ∈ rng ws.length,kin ws ls T h=false
end
theorem G7 {i:Nat}{h:Int}{g:Bool}{ρ:bD}{Q:bD->Prop} (q:Q (ρ.set i (some (.sh true (.int h))))):dC i (.int h) g ρ Q:=by
 show Q (ρ.set i (some (.sh (g || true) (.int h))))
 rw [Bool.or_true]; exact q
def aw9 (ns S:List Int):Int:=(ns.length:Int) - (((ns.filter fun x=>decide (x ∈ S)).length:Nat):Int)
def ax0 (ws:List Int) (ls:List (Int × Int)) (S:List Int) (h:Int):Bool:=decide (aw9 (t6 ls h) S < ws.getD h.toNat 0)
def stay (ws:List Int) (ls:List (Int × Int)) (S:List Int):List Int:=S.filter (ax0 ws ls S)
end Core
namespace Raw
open PySem PySem.W PyProof.Rows
section
variable {prog : Program} {w : World} {A : Around} {E : Value → Shared → Prop} {s : Shared} {T : String} {r d : Addr} {n : Nat} {P : Nat → Value → Prop} {OK : Heap → Prop}
theorem ax1 {R:Result->Shared->Prop} (K:KdlSrc prog w T r d n P OK) (hh:A.handled=none) (hok:OK s.heap) (hn:n<=sizeLine)
  (hR:∀ h' tk acc c,(∀ b o,b ≠ s.heap.objs.size->(s.heap.push { cls:=.type "list",data:=.seq ([]:List Value).toArray }).get? b=some o->h'.get? b=some o)->h'.get? s.heap.objs.size=some { cls:=.type "list",dict:=none,data:=.seq acc c,slots:=#[] }->ItemsOf P acc n->R (.ok (.ret (.ref s.heap.objs.size))) { s with heap:=h',toks:=tk }) :
  codeAny (model prog w) A (.builtin "proto.collect" ⟨[.ref r],[]⟩) R s:=by
 have lt:=K.there _ hok
 refine aY0 PySem.F.entry_proto_collect ?_
 rw [aT9 PySem.F.plain_proto_collect _]
 show wpAny _ A.in1 (newList [] >>= fun l=>again (.builtin "list.__iadd__" ⟨[l,.ref r],[]⟩)) _ _ s
 refine aN3 (aR8 ?_)
 refine aN8 ⟨aY4 PySem.F.plain_list_iadd _,aY0 PySem.F.entry_list_iadd ?_⟩
 rw [aT9 PySem.F.plain_list_iadd _]
 show wpAny _ A.in1 (Builtin.List.listExtendWith (.ref s.heap.objs.size) (.ref r) (.ref s.heap.objs.size)) _ _ _
 exact kdl_extend (s:={ s with heap:=s.heap.push { cls:=.type "list",data:=.seq ([]:List Value).toArray } }) (R:=R) K hh (K.keep _ _ hok fun b _ o e=>aN5 _ e) s.heap.objs.size (aW8 lt.1) (aW8 lt.2) _ 0 (aP1 _ rfl) hR hn
theorem ax2 {Q:List Value->Shared->Prop} (K:KdlSrc prog w T r d n P OK) (hh:A.handled=none) (hok:OK s.heap) (hn:n<=sizeLine)
  (hQ:∀ h' tk acc,(∀ b o,s.heap.get? b=some o->h'.get? b=some o)->s.heap.objs.size<=h'.objs.size->ItemsOf P acc n->Q acc.toList { s with heap:=h',toks:=tk }) :
  wpAny (model prog w) A (collect (.ref r)) Q E s:=by
 unfold collect
 refine aN3 (wpAny_runValue (ax1 (s:=s) K hh hok hn fun h' tk acc c kp at1 it=>?_))
 show wpAny _ A (load s.heap.objs.size >>= _) _ _ _
 refine aN3 (wpAny_load at1 ?_)
 exact aN8 (hQ h' tk acc (fun b o e=>kp b o (aQ6 (aO8 e)) (aN5 _ e)) (aZ6 (aO8 at1)) it)
end
end Raw
namespace Core
open PySem L2 PP
def G8 (rs:List (List Int)) (h:Int):Option Nat:=rs.findIdx? fun r=>decide (h ∈ r)
def rkN (rs:List (List Int)) (o:Int):Int:=((G8 rs o).getD 0:Nat)
def ax3 (rs:List (List Int)) (k:Nat) (o:Int):Bool:=match G8 rs o with
 | some j=>decide (j < k)
 | none=>false
def G9 (rs:List (List Int)) (l:List Int) (k:Nat):List (List Int):=(l.filter (ax3 rs k)).map fun o=>[rkN rs o,o]
theorem uW {xs:List PV}{w:Int} (h:0<=w):gL xs none (some w)=xs.take w.toNat:=by
 unfold gL
 rw [HT.ac8,List.drop_zero,Nat.sub_zero]
 have:HT.aS xs.length xs.length (some w)=min w.toNat xs.length:=by
  show (if w < 0 then (w+(xs.length:Int)).toNat else min w.toNat xs.length)=_
  rw [if_neg (by omega)]
 rw [this,<- List.take_take,aX3]
end Core
namespace PP
open PySem L2 PyProof.Rows
def hV (xs ys:List PV):List PV:=List.zipWith (fun x y=>PV.tup [x,y]) xs ys
theorem uX (xs ys:List PV):(hV xs ys).length=min xs.length ys.length:=by unfold hV; rw [List.length_zipWith]
theorem J0 {xs ys:List PV}{i:Nat}{x y:PV} (h:xs[i]? = some x) (h':ys[i]? = some y):(hV xs ys)[i]? = some (.tup [x,y]):=by
 unfold hV; rw [List.getElem?_zipWith,h,h']
theorem ax4 {xs ys:List PV}{i:Nat}{z:PV} (h:(hV xs ys)[i]? = some z):∃ x y,xs[i]? = some x/\ys[i]? = some y/\z = .tup [x,y]:=by
 unfold hV at h
 rw [List.getElem?_zipWith] at h
 cases e:xs[i]? with
 | none=>rw [e] at h; cases h
 | some x=>
  cases e':ys[i]? with
  | none=>rw [e,e'] at h; cases h
  | some y=>rw [e,e'] at h; exact⟨x,y,rfl,rfl,(aQ0 h).symm⟩
theorem ax5 {K:PySem.W.Frag}{H0:Hp}{W:Addr->Prop}{g:Bool}{H1:Hp}{a b:Addr}{us vs:List V}{xs ys:List PV} (tw:∀ a,W a->∃ o,H1 a=some o/\eW o=true) (ha:∀ W' H',Ev W H1 W' H'->aL K H' a us) (hb:∀ W' H',Ev W H1 W' H'->aL K H' b vs)
  (r:Reps K (Ms H0 W g) H1 us xs) (r':Reps K (Ms H0 W g) H1 vs ys):j9 K H0 W g H1 (tD K a b) (hV xs ys):=by
 have lr:=r.length
 have lr':=r'.length
 have ll:=uX xs ys
 refine⟨fun W' H' i e hi=>⟨us,vs,us[i]'(by omega),vs[i]'(by omega),ha W' H' e,hb W' H' e,by simp,by simp⟩,fun W' H' i v H2 e y hi=>?_,fun W' H' e=>⟨us,vs,ha W' H' e,hb W' H' e,by omega⟩⟩
 obtain ⟨T,x,y',hT,rfl,rfl,y⟩:=y
 obtain ⟨h1,h2⟩:=y us vs (ha W' _ e) (hb W' _ e)
 obtain ⟨z,hz,rz⟩:=r.get h1
 obtain ⟨z',hz',rz'⟩:=r'.get h2
 have sm:=bY hT (HO.tup [x,y'])
 exact⟨sm,_,J0 hz hz',.tup c9 (.cons ((rz.keep (e.keep tw)).same sm fun _ q=>q) (.cons ((rz'.keep (e.keep tw)).same sm fun _ q=>q) .nil))⟩
end PP
namespace Core
open PySem L2 PP
theorem oU {ls:List (Int × Int)}{wts:List Int} (e:wts.length=ls.length):(ls.zip wts).map (·.2)=wts:=by
 rw [List.map_snd_zip]; omega
section
variable {ws : List Int} {ls : List (Int × Int)} {ns wts : List Int} {m : Nat}
def loose (ls:List (Int × Int)) (wts ns:List Int):List ((Int × Int) × Int):=(ls.zip wts).filter fun z=>!(decide (z.1.1 ∈ ns) && decide (z.1.2 ∈ ns))
end
end Core
namespace PP
open PySem L2 PyProof.Rows
section
variable {X : Cx} {a b e : Expr} {ta tb te : aF} {D : dB} {σ : L2.St} {H : Hp} {pos p2 : Pos}
def qK (p:gZ) (te:aF):aP:=fun D ρ=>te ρ fun x g=>tN g x/\p x (tM g x) ρ fun ρ2=>D.nx ρ2
theorem ax6 {p:gZ}{g:TG}{own:Nat->Prop} (hg:l6 X.K own p g) (h:LS X (qK p te) D σ H):mD (LE X te) g D σ H:=by
 obtain ⟨W,ρ,D',px,q,k⟩:=h
 refine⟨W,ρ,_,px,q,?_⟩
 rintro v H1 x gt s r ⟨st,q⟩
 refine hg X.H₀ W σ ρ H1 v x _ _ _ (px.mono s) (yX px st r) q fun σ' ρ' px' _ _ q'=>?_
 exact k.nx W σ' H1 ρ' (Ev.same s) px' q'
theorem J1 (i j:Nat) {x y:Str}{tp xp yp:Pos}{kt:Nat} (hN:X.N.Nodup) (he:QE X e te) (hx:X.N[i]? = some x:=by rfl) (hy:X.N[j]? = some y:=by rfl) (hlx:gD X.env.scope x:=by first | exact Or.inl rfl | exact Or.inr rfl) (hly:gD X.env.scope y:=by first | exact Or.inl rfl | exact Or.inr rfl)
  (hfx:X.fn x=true ∨ X.env.scope.names.lookup x=some .local:=by first | exact .inl rfl | exact .inr rfl) (hfy:X.fn y=true ∨ X.env.scope.names.lookup y=some .local:=by first | exact .inl rfl | exact .inr rfl) (hc:X.calm=true:=by rfl)
  (hs:swapsWithSole [.Tuple [.Name x xp,.Name y yp] kt tp] e pos.line X.env=pure false:=by rfl) (hw:swappedStores [.Tuple [.Name x xp,.Name y yp] kt tp] e X.env=pure none:=by rfl):QS X (.Assign [.Tuple [.Name x xp,.Name y yp] kt tp] e pos) (qK (gK i j) te):=by
 have g:PG X (.Tuple [.Name x xp,.Name y yp] kt tp) (mC X.K 2 (iB (e9 i) (iB (e9 j) mB))):=rU hc (kR (iY hN hx hlx hfx) (kR (iY hN hy hly hfy) rT))
 exact eJ (Z1 he g hs hw) fun _ _ _=>ax6 (tS _ i j)
end
end PP
set_option maxHeartbeats 1000000
set_option maxHeartbeats 1000000
set_option maxHeartbeats 1000000
set_option maxHeartbeats 1000000
namespace PP
open PySem L2 PyProof.Rows
abbrev eZ:=(Str->Prop)->bN
def EX (K:PySem.W.Frag) (H0:Hp) (Ep:Str->Prop):XK:=fun c d H'=>d=none/\aE H0 H'/\∃ n C,c = .ref C/\PySem.W.nsIn K mainGlobals n=some (some (.ref C))/\Ep n
def J2 (K:PySem.W.Frag) (p:eZ):Sp:=fun vs H Q E=>∃ xs Qp Ep,Reps K (fun _=>True) H vs xs/\p Ep xs Qp/\(∀ v H' x,aE H H'->aD K (fun a=>H a=none) H' v x->Qp x->Q v H')/\
 ∀ n C H',aE H H'->PySem.W.nsIn K mainGlobals n=some (some (.ref C))->Ep n->E (.ref C) none H'
structure cE (P:Program) (w:World) (K:PySem.W.Frag) (mg:Str->Option Value) (base:Heap) (k:Nat) (x:Str) (ps:List Str) (p:eZ):Prop where
 ex:∃ f fd,dA P w K mg base (dW P w) k f fd ps (J2 K p)/\j5 K fd ps []/\PySem.W.keepIn K (.ref f)=true/\mg x=some (.ref f)
section
variable {X : Cx} {σ : L2.St} {H : Hp} {D : dB} {tr : cJ} {Q' : VK} {a b c e : Expr} {es : List Expr} {pos p2 cp np hp : Pos} {t : aP} {te : aF} {tc : cH}
def kC (Ep:Str->Prop) (p:eZ) (t:cJ):aF:=aC (p Ep) t
theorem J3 {p:eZ}{Ep:Str->Prop} (h:LE X (kC Ep p tr) σ H Q'):sF (J2 X.K p) [] (EX X.K X.H₀ Ep) (LA X tr) σ H Q':=by
 obtain ⟨W,ρ,Q,px,q,k⟩:=h
 refine⟨W,ρ,_,px,q,fun vs H1 xs s1 r1 q1=>⟨_,_,Ep,by rw [aY8]; exact r1.any,q1,fun v H' x s2 r2 q2=>k v H' x .fr (s1.trans s2) (r2.same (aE.refl _) fun _ z=>s1.free z) q2,fun n C H' s2 z1 z2=>⟨rfl,(px.same.trans s1).trans s2,n,C,rfl,z1,z2⟩⟩⟩
theorem nU {Ep:Str->Prop}{k j:Nat}{x:Str}{ps:List Str}{p:eZ} (hX:lI X (EX X.K X.H₀ Ep)) (d:cE X.prog X.w X.K X.mg X.base k x ps p) (hr:bX j X.A) (ha:QA X (e :: es) tr) (hkj:k<=j:=by decide) (hg:Gl X x:=by rfl) (hdb:(x == ("__debug__" : Str))=false:=by decide)
  (he:starEach (e :: es) X.env=(false,eval e X.env) :: starEach es X.env:=by rfl) (hpl:(backTo pos (starEach es X.env)).any (·.1)=false:=by rfl):QE X (.Call (.Name x p2) (e :: es) [] pos) (kC Ep p tr):=by
 obtain ⟨f,fd,F,b,kp,m⟩:=d.ex
 exact cK (sG F (hr.mono hkj) hg m kp b .nil hX.pass ha hdb he hpl) fun _ _ _=>J3
theorem nV {k j:Nat}{x:Str}{ps:List Str}{p:eZ} (d:cE X.prog X.w X.K X.mg X.base k x ps p) (hr:bX j X.A) (ha:QA X (e :: es) tr) (hkj:k<=j:=by decide) (hg:Gl X x:=by rfl) (hdb:(x == ("__debug__" : Str))=false:=by decide)
  (he:starEach (e :: es) X.env=(false,eval e X.env) :: starEach es X.env:=by rfl) (hpl:(backTo pos (starEach es X.env)).any (·.1)=false:=by rfl):QE X (.Call (.Name x p2) (e :: es) [] pos) (aC (p fun _=>False) tr):=by
 obtain ⟨f,fd,F,b,kp,m⟩:=d.ex
 refine cK (sG F (E:=EX X.K X.H₀ fun _=>False) (hr.mono hkj) hg m kp b .nil (fun _ _ _ _ _ _ _ h=>?_) ha hdb he hpl) fun _ _ _ h=>J3 (Ep:=fun _=>False) h
 obtain ⟨_,_,_,_,_,_,_,_,_,_,_,_,z⟩:=h
 exact z.elim
def lJ (Ep:Str->Prop) (n:Str) (t:cJ):aP:=fun _ ρ=>t ρ fun xs=>xs.length<=1000/\Ep n
theorem ax7 {Ep:Str->Prop}{n:Str}{C:Addr} (hn:PySem.W.nsIn X.K mainGlobals n=some (some (.ref C))) (h:LS X (lJ Ep n tr) D σ H):E9 (EX X.K X.H₀ Ep) C (LA X tr) D σ H:=by
 obtain ⟨W,ρ,D',px,q,k⟩:=h
 exact⟨W,ρ,_,px,q,fun vs H1 xs s1 r z=>⟨by rw [r.length]; exact tK z.1,rfl,px.same.trans s1,n,C,rfl,hn,z.2⟩⟩
structure Xc (K:PySem.W.Frag) (mg:Str->Option Value) (base:Heap) (n:Str):Prop where
 ex:∃ C B newId initId bm,OwnCls n C bm newId mg base/\ExcBaseFacts B newId initId bm/\PySem.W.nsIn K mainGlobals n=some (some (.ref C))
theorem qL {Ep:Str->Prop}{n:Str} (hX:lI X (EX X.K X.H₀ Ep)) (x:Xc X.K X.mg X.base n) (ha:QA X (e :: es) tr) (hc:X.calm=true:=by rfl) (hg:Gl X n:=by rfl) (hd:(n == ("__debug__" : Str))=false:=by decide)
  (he:starEach (e :: es) X.env=(false,eval e X.env) :: starEach es X.env:=by rfl) (hpl:(backTo cp (starEach es X.env)).any (·.1)=false:=by rfl):QS X (.Raise (some (.Call (.Name n np) (e :: es) [] cp)) none pos) (lJ Ep n tr):=by
 obtain ⟨C,B,newId,initId,bm,O,FB,hn⟩:=x.ex
 exact eJ (as9 hX hc O FB ha hg hd he hpl) fun _ _ _=>ax7 hn
def mI:V->Value
 | .ref a=>.ref a
 | .ty n=>.type n
 | _=>.none
end
structure qM (K:PySem.W.Frag) (C:Addr):Prop where
 cls:PySem.W.isClsIn K C=true
 ty:PySem.W.typeIn K (.ref C)=some (.type "type")
 ga:PySem.W.findIn K (.ref C) "__getattribute__" = some (some (.builtin "BaseException.__getattribute__"))
 gt:PySem.W.findIn K (.ref C) "__getattr__" = some none
 fc:PySem.W.findIn K (.ref C) "__class__" = some (some (.builtin "object.__class__"))
 fg:PySem.W.specialIn K (.builtin "object.__class__") "__get__" = some (some (.builtin "getset_descriptor.__get__"))
 ft:PySem.W.takesIn K (.builtin "object.__class__")=some true
 ob:PySem.W.mroIn K C (.type "object")=some true
 be:PySem.W.mroIn K C (.type "BaseException")=some true
theorem uY {K:PySem.W.Frag}{h₀:Heap}{mg:Str->Option Value}{x:Str}{C:Addr}{bmB:List Value}{newId:String} (X:K.In h₀) (m:mg x=some (.ref C)) (q:PySem.W.excIn K C bmB newId=true):OwnCls x C bmB newId mg h₀:=by
 refine⟨m,?_⟩
 unfold PySem.W.excIn at q
 split at q
 case h_2=>cases q
 rename_i dd cd sl ho
 split at q
 case h_2=>cases q
 rename_i C' bm k0 k1 k2 k3 n k5 hm hs
 simp only [aW9,beq_iff_eq,Bool.not_eq_true'] at q
 obtain ⟨⟨⟨⟨⟨rfl,rfl⟩,dl⟩,ht⟩,hok⟩,hni⟩:=q
 obtain ⟨nm,bs,mro,ns,qn,hd,sn,sub,ab,col,del⟩:=cd
 dsimp only at hm dl hok hni
 subst hm dl
 obtain rfl:sl = #[k0,k1,k2,k3,some (.builtin n),k5]:=by
  obtain ⟨l⟩:=sl
  exact congrArg Array.mk hs
 exact⟨bm,ns,nm,qn,bs,hd,sn,sub,ab,col,dd,k0,k1,k2,k3,k5,_,X _ _ ho,.of_isNs (PySem.W.isNs_of_in X hok),PySem.W.nsMap_none_of_in X hok hni,PySem.W.tail_of_in X ht⟩
theorem cE.of {P:Program}{w:World}{K:PySem.W.Frag}{mg:Str->Option Value}{base:Heap}{k:Nat}{x:Str}{ps N:List Str}{p:eZ}{st:Stmt}{f:Addr}{fd:FuncData} (F:fD K x x st f fd) (m:mg x=some (.ref f)) (S:FnScope N ps (aV st))
  (hb:∀ (kV doc pm:Value) (an:Option Addr) (cdv ct:Value) (us:List Value),us.length=ps.length->bindArgs (PySem.W.fnOf x x (iG st) (dO st) (aV st) .none kV doc pm an cdv ct) ⟨us,[]⟩=pure (ps.zip us))
  (t:(Str->Prop)->aP) (len:∀ Ep xs Q,p Ep xs Q->xs.length=ps.length) (rd:∀ Ep xs Q,p Ep xs Q->t Ep { nx:=fun _=>Q .non,rt:=Q } (dS N xs))
  (body:∀ (cdv:Value) (A:Around) (outer:List Env) (s:Shared) (H:Hp) (E:XK) (Ep:Str->Prop),bX k (A.deeper (envOfC x (aV st) s.heap.objs.size f cdv))->lI (cS (dW P w) P w K mg base N x (aV st) f cdv A outer s H E) (EX K H Ep)->
   eI (cS (dW P w) P w K mg base N x (aV st) f cdv A outer s H E) (dO st) (t Ep)):cE P w K mg base (k+1) x ps p:=by
 refine⟨f,fd,F.okX S (fun vs H Q E h=>?_) (fun cdv A outer s H vs Q E hr h=>?_),F.binds hb,F.kp,m⟩
 ·obtain ⟨xs,Qp,Ep,r,q,_⟩:=h
  rw [r.length]; exact len Ep xs Qp q
 ·obtain ⟨xs,Qp,Ep,r,q,k,ke⟩:=h
  have ht:=body cdv A outer s H E Ep hr (as8 fun c d H' z=>?_)
  ·refine⟨_,ht,fun _=>False,dS N xs,_,u7 r,rd Ep xs Qp q,?_,?_,?_,?_⟩
   ·exact fun W' σ' H' ρ' e px q=>k _ _ _ px.same .non q
   ·exact fun v H' x s r q=>k _ _ _ s r q
   ·exact fun W' σ' H' ρ' e px q=>q
   ·exact fun W' σ' H' ρ' e px q=>q
  ·obtain ⟨rfl,s1,n,C,rfl,z1,z2⟩:=z
   exact ke n C H' s1 z1 z2
end PP
namespace Core
open PySem L2 PP
abbrev nW (t:(Str->Prop)->aP) (N:List Str) (p:eZ):Prop:=∀ Ep xs Q,p Ep xs Q->t Ep { nx:=fun _=>Q .non,rt:=Q } (dS N xs)
end Core
namespace PP
open PySem L2
theorem uZ {us:List Value} (h:us.length=1):∃ a,us = [a]:=List.length_eq_one_iff.mp h
theorem v3 {us:List Value} (h:us.length=2):∃ a b,us = [a,b]:=by
 cases us with
 | nil=>cases h
 | cons a r=>
  obtain ⟨b,rfl⟩:=uZ (us:=r) (by simpa using h)
  exact⟨a,b,rfl⟩
theorem v4 {us:List Value} (h:us.length=3):∃ a b c,us = [a,b,c]:=by
 cases us with
 | nil=>cases h
 | cons a r=>
  obtain ⟨b,c,rfl⟩:=v3 (us:=r) (by simpa using h)
  exact⟨a,b,c,rfl⟩
theorem J4 {us:List Value} (h:us.length=4):∃ a b c d,us = [a,b,c,d]:=by
 cases us with
 | nil=>cases h
 | cons a r=>
  obtain ⟨b,c,d,rfl⟩:=v4 (us:=r) (by simpa using h)
  exact⟨a,b,c,d,rfl⟩
section
variable {X : Cx} {e : Expr} {tk : aF} {D : dB} {σ : St} {H : Hp} {pos : Pos}
def jG (i:Nat) (tk:aF):aP:=fun D ρ=>∃ ps,ρ[i]? = some (some (.own (.dT ps)))/\tk ρ fun y _=>∃ k,y = .tup (k.map kP)/\(∃ j:Nat,(ps.map (·.1))[j]? = some k)/\∀ j:Nat,(ps.map (·.1))[j]? = some k->D.nx (ρ.set i (some (.own (.dT (ps.eraseIdx j)))))
theorem ax8 {i:Nat} (h:LS X (jG i tk) D σ H):kQ (F3 (jK i) (LE X tk)) D σ H:=by
 obtain ⟨W,ρ,D',px,⟨ps,hi,q⟩,k⟩:=h
 obtain ⟨v,ev,a,rfl,wa,kvs,ea,e1,r⟩:=px.sl i _ hi
 refine⟨_,ev,a,rfl,.inr ⟨kvs,.inl ea⟩,W,ρ,_,px,q,?_⟩
 rintro kv H2 y g s ry ⟨kk,rfl,is,q⟩
 obtain ⟨b,us,rfl,hb,rb⟩:=ry.sqT
 obtain rfl:=pD rb
 have ea2:=s _ _ ea
 refine⟨kvs,kk,b,ea2,rfl,hb,by rw [e1]; exact is,fun j v hj=>?_⟩
 rw [e1] at hj
 refine k.nx W σ _ _ ((Ev.same s).trans (Ev.upd wa)) ((px.mono s).updT hi ev wa ⟨?_,?_⟩) (q j hj)
 ·rw [Raw.iS,Raw.iS,e1]
 ·rw [Raw.iS,Raw.iS]
  exact ((r.same s fun _ z=>z).eraseIdx j).keep (.upd ea2 rfl fun b m=>⟨mO wa m,m⟩)
theorem lK (i:Nat) {x:Str}{apos cpos xpos:Pos} (hu:X.A.units+1 < cLine) (he:QE X e tk) (hm:M1 X (.Name x xpos) "pop" apos e cpos:=by exact⟨rfl,rfl,rfl,rfl⟩) (hN:X.N[i]? = some x:=by rfl) (hv:iA X.env.scope x:=by first | exact Or.inl rfl | exact Or.inr (Or.inl rfl) | exact Or.inr (Or.inr rfl)) (hd:(x == ("__debug__" : Str))=false:=by decide) (hcd:(x == ("__classdict__" : Str))=false:=by decide)
  (hsw:swapsWith (.Call (.Attribute (.Name x xpos) "pop" apos) [e] [] cpos) none pos.line X.env=pure false:=by rfl):QS X (.Expr (.Call (.Attribute (.Name x xpos) "pop" apos) [e] [] cpos) pos) (jG i tk):=
 eJ (m9 (at4 hu (kN hN hv hd hcd) he hm) hsw) fun _ _ _=>ax8
end
section
variable {X : Cx} {e : Expr} {tr : cJ} {pos p2 : Pos}
def v5:List PV->(PV->Prop)->Prop:=fun xs Q=>∃ ys:List (List Int),xs = [.lst (ys.map fun r=>PV.tup (intz r))]/\ys.length<=4096/\(∀ y ∈ ys,y.length=2)/\∀ zs:List (List Int),zs.Perm ys->zs.Pairwise (fun u v=>HT.aH v u=false)->Q (.lst (zs.map fun r=>PV.tup (intz r)))
theorem ax9:dR X v5 (E8 X.K):=by
 rintro H vs xs Q Q' r ⟨ys,rfl,hl,hne,q⟩ k
 obtain ⟨v,rfl,r1⟩:=r.one
 obtain ⟨a,us,rfl,_,h,r2⟩:=r1.sqL
 obtain ⟨h1,h2⟩:=uO r2
 have lr:=r2.length
 rw [aO2] at lr
 refine⟨a,us,iT H,rfl,aM.of h,by omega,fun y hy=>?_,fun l zs hl' pm so=>?_⟩
 ·obtain ⟨b,rfl,hb⟩:=h2 y hy
  refine⟨b,rfl,aL.of hb,hne _ ?_⟩
  rw [<- h1]; exact aQ8.mpr ⟨_,hy,rfl⟩
 ·have hz:∀ u ∈ zs,∃ b,u = .ref b/\H b=some (.tup ((iT H u).map V.int)):=fun u hu=>h2 u (pm.mem_iff.mp hu)
  refine k _ _ _ (bY hl' _) (.lst hl' c9 ((uP hz).same (bY hl' _) fun _ z=>z)) (q _ ?_ ?_)
  ·rw [<- h1]; exact pm.map _
  ·rw [aT1]; exact so
theorem ay0 (B:Bt X.mg) (ha:QA X [e] tr) (hg:Gl X "sorted":=by rfl) (he:starEach [e] X.env=(false,eval e X.env) :: starEach [] X.env:=by rfl) (hpl:(backTo pos (starEach [] X.env)).any (·.1)=false:=by rfl):QE X (.Call (.Name "sorted" p2) [e] [] pos) (aC v5 tr):=
 hU as5 ax9 hg B.sorted PyProof.Rows.boot_sorted ha (he:=he) (hpl:=hpl)
end
end PP
namespace Core
open PySem L2 PP
theorem J5 (n:Nat):∀ (a b:List (List Int)),((((tups a).zip (tups b)).all fun p=>bG (n+1) p.1 p.2) && (tups a).length == (tups b).length)=decide (a=b)
 | [],[]=>rfl
 | [],_ :: _=>by simp [tups]
 | _ :: _,[]=>by simp [tups]
 | x :: a,y :: b=>by
  have ih:=J5 n a b
  have e:∀ (z:List Int) (c:List (List Int)),tups (z :: c)=PV.tup (intz z) :: tups c:=fun _ _=>rfl
  rw [e,e]
  simp only [aU1,ba7,aR9,mQ] at ih ⊢
  by_cases h:x=y
  ·subst h
   have:((tups a).length+1 == (tups b).length+1)=((tups a).length == (tups b).length):=by simp
   rw [this,aO4 rfl,Bool.true_and,ih]
   simp
  ·rw [aO1 h,bb0,bb0]
   simp [h]
theorem ay1 (n:Nat) (a b:List (List Int)):bG (n+2) (.lst (tups a)) (.lst (tups b))=decide (a=b):=J5 n a b
theorem J6 (n:Nat):∀ (a b:List (List Int)),cC (n+2) (.lst (tups a)) (.lst (tups b))=true
 | [],_=>by unfold cC tups; simp
 | _ :: _,[]=>by unfold cC tups; simp
 | x :: a,y :: b=>by
  have ih:=J6 n a b
  show (((PV.tup (intz x) :: tups a).zip (PV.tup (intz y) :: tups b)).all fun p=>cC (n+1) p.1 p.2)=true
  rw [aU1,ba7,mR,Bool.true_and]
  exact ih
abbrev J7 (bs:List Bool):List PV:=bs.map PV.bl
section
variable {ws : List Int} {ls : List (Int × Int)}
def cne (ws:List Int) (ls:List (Int × Int)) (S:List Int):Bool:=!decide (S = []) && decide (stay ws ls S=S)
theorem ay2 {a b:List (List Int)} (h:a.Perm b) (ha:a.Pairwise fun u v=>HT.aH v u=false) (hb:b.Pairwise fun u v=>HT.aH v u=false):a=b:=
 h.eq_of_pairwise (fun x y _ _ h1 h2=>oV h2 h1) ha hb
end
end Core
namespace PP
open PySem L2
section
variable {X : Cx} {a b : Expr} {ta tb : aF} {pos : Pos}
theorem ay3 {K:PySem.W.Frag}{M M':Addr->Prop}{H:Hp}{v:V}{m n:List Int} (r1:aD K M H v (.tup (intz m))) (r2:aD K M' H v (.tup (intz n))):m=n:=by
 obtain ⟨p,us,rfl,h1,q1⟩:=r1.sqT
 obtain ⟨p2,ws,e,h2,q2⟩:=r2.sqT
 cases e
 rw [h1] at h2
 cases h2
 have:=(q1.ofInts).symm.trans q2.ofInts
 exact (List.map_inj_right fun _ _ e=>by cases e; rfl).mp this
end
end PP
namespace Core
open PySem L2 PP
def far (ns S:List Int):Bool:=decide (((S.filter fun x=>decide (x ∈ ns)).length:Int)=0)
def J8 (ws:List Int) (ls:List (Int × Int)):List Int->List Int->Bool
 | _,[]=>true
 | B,h :: R=>inB ws.length h && (kin ws ls B h && J8 ws ls (B ++ [h]) R)
end Core
namespace Raw
open PySem PySem.W PySem.Calls PyProof.Rows
theorem v6 {xs:List Nat} (a:xs.Pairwise (· < ·)) {i k:Nat} (hk:k < xs.length) (h:i<=k):xs.getD i 0<=xs.getD k 0:=by
 rcases aS3 i k with z | z
 ·have:=aR6.mp a i k (by omega) hk z
  rw [aP6,aP6,aN6 (by omega),aN6 hk]
  exact aZ6 this
 ·rw [Nat.le_antisymm h z]; exact aO6 _
theorem ay4 {xs:Array Nat}{i j:Nat} (h:i < xs.size):xs.getD i j=xs.toList.getD i 0:=by
 rw [aP6,aW0,Array.getD_eq_getD_getElem?,Array.getElem?_eq_getElem h]; rfl
theorem v7 {xs:Array Nat}{j:Nat} (a:xs.toList.Pairwise (· < ·)):∀ (fuel lo hi:Nat),lo<=hi->hi<=xs.size->hi - lo<=fuel->(∀ i,i < lo->xs.toList.getD i 0 < j)->(∀ i,hi<=i->i < xs.size->j<=xs.toList.getD i 0)->
  SetTable.below.go xs j fuel lo hi<=xs.size/\(∀ i,i < SetTable.below.go xs j fuel lo hi->xs.toList.getD i 0 < j)/\∀ i,SetTable.below.go xs j fuel lo hi<=i->i < xs.size->j<=xs.toList.getD i 0
 | 0,lo,hi,h1,h2,h3,h4,h5=>by
  have e:lo=hi:=by omega
  subst e
  exact⟨h2,h4,h5⟩
 | fuel+1,lo,hi,h1,h2,h3,h4,h5=>by
  have sz:xs.toList.length=xs.size:=aS0
  unfold SetTable.below.go
  by_cases lt:lo < hi
  ·rw [if_pos lt]
   dsimp only
   have m1:lo<=(lo+hi) / 2:=by omega
   have m2:(lo+hi) / 2 < hi:=by omega
   rw [ay4 (by omega)]
   by_cases c:xs.toList.getD ((lo+hi) / 2) 0 < j
   ·rw [if_pos c]
    exact v7 a fuel _ _ (by omega) h2 (by omega) (fun i hi'=>Nat.lt_of_le_of_lt (v6 a (by omega) (by omega)) c) h5
   ·rw [if_neg c]
    exact v7 a fuel _ _ (by omega) (by omega) (by omega) h4 fun i h6 h7=>aQ7 (Nat.le_of_not_lt c) (v6 a (by omega) h6)
  ·rw [if_neg lt]
   have e:lo=hi:=by omega
   subst e
   exact⟨h2,h4,h5⟩
theorem ay5 {xs:Array Nat}{j:Nat} (a:xs.toList.Pairwise (· < ·)):SetTable.below xs j<=xs.size/\(∀ i,i < SetTable.below xs j->xs.toList.getD i 0 < j)/\∀ i,SetTable.below xs j<=i->i < xs.size->j<=xs.toList.getD i 0:=
 v7 a xs.size 0 xs.size (aV7 _) (aO6 _) (by omega) (fun i h=>absurd h (Nat.not_lt_zero _)) fun i h1 h2=>absurd h2 (by omega)
theorem ay6 {α:Type} (xs:Array α) (p:Nat) (x:α):(SetTable.insertAt xs p x).toList=xs.toList.take p ++ x :: xs.toList.drop p:=by
 unfold SetTable.insertAt
 simp
 exact aX1 (by simp)
theorem ay7 {xs:Array Nat}{j:Nat} (a:xs.toList.Pairwise (· < ·)) (ne:xs[SetTable.below xs j]? ≠ some j):(SetTable.insertAt xs (SetTable.below xs j) j).toList.Pairwise (· < ·):=by
 obtain ⟨b1,b2,b3⟩:=ay5 (j:=j) a
 have sz:xs.toList.length=xs.size:=aS0
 rw [ay6]
 refine aQ2.mpr ⟨a.sublist (ba2 _ _),List.pairwise_cons.mpr ⟨fun x hx=>?_,a.sublist (List.drop_sublist _ _)⟩,fun x hx y hy=>?_⟩
 ·obtain ⟨i,hi,e⟩:=aU4 hx
  rw [ba8] at hi
  rw [List.getElem_drop] at e
  have h1:=b3 (SetTable.below xs j) (aO6 _) (by omega)
  have h2:=v6 a (i:=SetTable.below xs j) (k:=SetTable.below xs j+i) (by omega) (by omega)
  have h3:xs.toList.getD (SetTable.below xs j+i) 0=x:=by rw [aP6,aN6 (by omega),e]; rfl
  rcases aS3 j x with z | z
  ·exact z
  ·exfalso
   have h4:xs.toList.getD (SetTable.below xs j) 0=j:=by omega
   rw [aP6,aN6 (by omega)] at h4
   refine ne ?_
   rw [<- aW0,aN6 (by omega)]
   exact congrArg some h4
 ·have hx':x < j:=by
   obtain ⟨i,hi,e⟩:=aU4 hx
   rw [aZ4] at hi
   rw [List.getElem_take] at e
   have:=b2 i (by omega)
   rw [aP6,aN6 (by omega),e] at this
   exact this
  rcases aO0.mp hy with e | hy
  ·rw [e]; exact hx'
  ·obtain ⟨i,hi,e⟩:=aU4 hy
   rw [ba8] at hi
   rw [List.getElem_drop] at e
   have:=b3 (SetTable.below xs j+i) (by omega) (by omega)
   rw [aP6,aN6 (by omega),e] at this
   exact aP5 hx' this
structure gQ (b:Bool) (t:SetTable):Prop where
 asc:t.place.toList.Pairwise (· < ·)
 dm:t.dummies = #[]
 led:t.led=b
theorem J9 (j:Nat):SetTable.has #[] j=false:=by
 unfold SetTable.has
 simp
theorem K0 {t:SetTable} (dm:t.dummies = #[]) {h:Int}{j:Nat}{d:Option Nat}:∀ (fuel:Nat) (p:SetTable.Probe),p.dummy=none->SetTable.probe.go t (fun _=>h+1) h fuel p=some (.empty j d)->d=none/\t.slot j = .empty
 | 0,p,_,e=>by cases e
 | fuel+1,p,hp,e=>by
  unfold SetTable.probe.go at e
  have adv:∀ p:SetTable.Probe,p.dummy=none->(t.advance p).dummy=none:=fun p hp=>by
   unfold SetTable.advance
   split <;> exact hp
  cases hs:t.slot p.j with
  | empty=>
   rw [hs] at e
   cases e
   exact⟨hp,hs⟩
  | dummy=>
   exfalso
   unfold SetTable.slot at hs
   dsimp only at hs
   rw [dm,J9] at hs
   split at hs <;> cases hs
  | live i=>
   rw [hs] at e
   dsimp only at e
   rw [if_neg (by simp; omega)] at e
   exact K0 dm fuel _ (adv p hp) e
theorem ay8 {t:SetTable} (dm:t.dummies = #[]) {h:Int}{sl:Nat}{d:Bool} (e:t.freeSlot h=some (sl,d)):t.slot sl = .empty:=by
 unfold SetTable.freeSlot at e
 split at e
 ·rename_i j dummy hm
  obtain ⟨e1,e2⟩:=K0 dm _ _ rfl hm
  subst e1
  cases e
  exact e2
 ·cases e
theorem qN {b:Bool}{t:SetTable} (h:gQ b t) (n:Nat):gQ b (t.standIn n):=⟨by
 show (Array.range n).toList.Pairwise (· < ·)
 rw [Array.toList_range]; exact List.pairwise_lt_range,rfl,h.led⟩
theorem ay9 {b:Bool}{t:SetTable} (h:gQ b t) {j:Nat} (hs:t.slot j = .empty):gQ b (t.put j).1:=by
 refine⟨?_,?_,h.led⟩
 ·refine ay7 h.asc fun e=>?_
  unfold SetTable.slot at hs
  dsimp only at hs
  rw [if_pos (by rw [e]; exact aU7 _)] at hs
  cases hs
 ·show (if SetTable.has t.dummies j then SetTable.eraseAt t.dummies (SetTable.below t.dummies j) else t.dummies) = #[]
  rw [h.dm,J9]; rfl
theorem az0 {b:Bool}{t:SetTable} (h:gQ b t) (es:Array (Int × Value)) (k:Int) (x:Value):gQ b (layNew t es k x).2.1:=by
 unfold layNew
 split
 ·rename_i sl wd e
  have p:=ay9 h (ay8 h.dm e)
  show gQ b (SetTable.orStandIn _ _)
  unfold SetTable.orStandIn
  split
  ·exact p
  ·exact qN p _
 ·exact qN h _
theorem az1 {b:Bool}{t:SetTable} (h:gQ b t) (es:Array (Int × Value)) (n:Nat):gQ b (relayAll t es n).2.1:=by
 unfold relayAll
 split
 ·rename_i t' order e
  dsimp only
  split
  ·show gQ b t'
   unfold SetTable.relaid SetTable.laid at e
   cases hc:SetTable.layClean (SetTable.sizeAbove n - 1) (es.map (·.1)) with
   | none=>rw [hc] at e; cases e
   | some owner=>
    rw [hc] at e
    cases e
    refine⟨?_,rfl,h.led⟩
    show (List.map _ _).Pairwise (· < ·)
    refine aT1.mpr (List.Pairwise.filterMap _ (R:=(· < ·)) ?_ List.pairwise_lt_range)
    intro i i' hlt x hx y hy
    cases ho:owner.getD i none with
    | none=>rw [ho] at hx; cases hx
    | some v=>
     rw [ho] at hx
     cases ho2:owner.getD i' none with
     | none=>rw [ho2] at hy; cases hy
     | some v2=>
      rw [ho2] at hy
      cases hx; cases hy
      exact hlt
  ·exact qN h _
 ·exact qN h _
theorem K1 {us vs:List Value} (p:us.Perm vs):∀ {ns:List Int},IntsAre vs ns->∃ ms,IntsAre us ms/\ms.Perm ns:=by
 induction p with
 | nil=>intro ns h; exact⟨ns,h,aX8 _⟩
 | cons x _ ih=>
  intro ns h
  cases h with
  | cons n t r=>
   obtain ⟨ms,h1,h2⟩:=ih r
   exact⟨n :: ms,.cons n t h1,h2.cons n⟩
 | swap x y l=>
  intro ns h
  cases h with
  | cons n t r=>
   cases r with
   | cons n' t' r=>
    exact⟨n' :: n :: _,.cons n' t' (.cons n t r),bc8 _ _ _⟩
 | trans _ _ ih1 ih2=>
  intro ns h
  obtain ⟨ms,h1,h2⟩:=ih2 h
  obtain ⟨ms',h3,h4⟩:=ih1 h1
  exact⟨ms',h3,h4.trans h2⟩
theorem K2:∀ {us:List Value}{ns:List Int},IntsAre us ns->∀ (k:Int) (t:Nat),IntsAre (us ++ [.int k t]) (ns ++ [k])
 | _,_,.nil,k,t=>.cons k t .nil
 | _,_,.cons n u r,k,t=>.cons n u (K2 r k t)
theorem qO:∀ {us:List Value}{ns:List Int},IntsAre us ns->∀ k:Int,k ∈ ns ↔ ∃ t,Value.int k t ∈ us
 | _,_,.nil,k=>⟨(fun h=>nomatch h),(fun ⟨_,h⟩=>nomatch h)⟩
 | _,_,.cons n u r,k=>by
  constructor
  ·intro h
   rcases aO0.mp h with e | h
   ·exact⟨u,by rw [e]; exact aO9⟩
   ·obtain ⟨t,ht⟩:=(qO r k).mp h
    exact⟨t,aO3 _ ht⟩
  ·rintro ⟨t,h⟩
   rcases aO0.mp h with e | h
   ·cases e; exact aO9
   ·exact aO3 _ ((qO r k).mpr ⟨t,h⟩)
abbrev nX (es:Array (Int × Value)) (ep:Nat) (t:SetTable):Obj:={ cls:=.type "set",dict:=none,data:=.set es ep t,slots:=#[] }
section
variable {prog : Program} {w : World} {A : Around} {E : Value → Shared → Prop} {s : Shared}
def az2 (prog:Program) (w:World) (es:Array (Int × Value)) (t:SetTable) (ms:List Int):Prop:=ElemsOf (intKind prog w) es.toList/\IntsAre (es.toList.map (·.2)) ms/\es.size < scanBound/\t.fits es.size=true/\gQ (!w.params.followText "set-order") t
def K3 (prog:Program) (w:World) (h:Heap) (a:Addr) (ms:List Int):Prop:=∃ es ep t,h.get? a=some (nX es ep t)/\az2 prog w es t ms
theorem K4 {h:Heap}{a:Addr}{es es':Array (Int × Value)}{ep:Nat}{t t':SetTable} (ho:h.get? a=some (nX es ep t)):(h.update a (Obj.putSet es' t')).get? a=some (nX es' (ep+1) t'):=by
 have:=aW1 (Obj.putSet es' t') ho (by rw [putSet_of es' t' (rfl:(nX es ep t).data=_)]; rfl)
 rw [putSet_of es' t' (rfl:(nX es ep t).data=_)] at this
 exact this
theorem add_int {a:Addr}{ms:List Int}{k:Int}{u:Nat}{Q:Bool->Shared->Prop} (hS:K3 prog w s.heap a ms) (room:ms.length+1 < scanBound)
  (h:∀ b h' ms',Heap.SameBut a s.heap h'->K3 prog w h' a ms'->(k ∈ ms->ms'.Perm ms)->(k ∉ ms->ms'.Perm (ms ++ [k]))->Q b { s with heap:=h' }) :
  wpAny (model prog w) A (setAddHashed a (.int k u) ((intKind prog w).hash k)) Q E s:=by
 obtain ⟨es,ep,t,ho,hel,hi,hb,hf,tk⟩:=hS
 have key:(intKind prog w).is k (.int k u)=true:=intKind_is _ _ _ _
 have ln:ms.length=es.size:=by
  have:=IntsAre.length hi
  rw [aO2,aS0] at this
  exact this.symm
 have isk:∀ v,(intKind prog w).is k v=true->∃ u,v = .int k u:=fun v hv=>Value.isInt_shape hv
 unfold setAddHashed setAddHashedIn
 refine aV5 (aN3 (wpAny_setState_of ho rfl hf ?_))
 dsimp only
 rw [byScan_of (knd:=intKind prog w) (x:=.int k u) rfl hb hel,if_pos rfl]
 unfold setAddByScan
 refine aN3 (aN3 (ba4 ?_))
 refine aN3 (wpAny_setScan_of key ho rfl hf hel ?_)
 cases hr:List.findIdx? (fun e=>(intKind prog w).is k e.2) es.toList with
 | some j=>
  dsimp only
  obtain ⟨hj,hp,_⟩:=List.findIdx?_eq_some_iff_getElem.mp hr
  have km:k ∈ ms:=by
   obtain ⟨u',e⟩:=isk _ hp
   exact (qO hi k).mpr ⟨u',by rw [<- e]; exact aQ8.mpr ⟨_,aV6 hj,rfl⟩⟩
  have e:s={ s with heap:=s.heap }:=by cases s; rfl
  rw [e]
  exact aN8 (aN8 (h _ s.heap ms (Heap.SameBut.refl a s.heap) ⟨es,ep,t,ho,hel,hi,hb,hf,tk⟩ (fun _=>aX8 _) fun n=>absurd km n))
 | none=>
  dsimp only
  have km:k ∉ ms:=fun z=>by
   obtain ⟨u',hm⟩:=(qO hi k).mp z
   obtain ⟨e,he,e2⟩:=aQ8.mp hm
   have:=List.findIdx?_eq_none_iff.mp hr e he
   rw [e2,intKind_is _ _ _ _] at this; cases this
  have lp:=layNew_perm t es ((intKind prog w).hash k) (.int k u)
  have lf:=layNew_fits t es ((intKind prog w).hash k) (.int k u)
  have lk:=az0 tk es ((intKind prog w).hash k) (.int k u)
  generalize hL:layNew t es ((intKind prog w).hash k) (.int k u)=L at lp lf lk ⊢
  obtain ⟨es1,t1,wd,gave⟩:=L
  dsimp only at lp lf lk ⊢
  rw [Array.toList_push] at lp
  have el1:ElemsOf (intKind prog w) es1.toList:=(hel.push key rfl).perm lp
  have sz1:es1.size=es.size+1:=by rw [<- aS0,lp.length_eq,aR3,aS0]; rfl
  obtain ⟨ms1,i1,p1⟩:∃ ms1,IntsAre (es1.toList.map (·.2)) ms1/\ms1.Perm (ms ++ [k]):=K1 (lp.map (·.2)) (by rw [aQ4]; exact K2 hi k u)
  have hb1:es1.size < scanBound:=by omega
  have gw:∀ (b:Bool) (s₁:Shared) (Q':Unit->Shared->Prop),Q' () s₁->wpAny (model prog w) A (match b with | true=>rule "set.scan.the-table-gave-way" | false=>pure ()) Q' E s₁:=fun b s₁ Q' hq=>by
   cases b
   ·exact aN8 hq
   ·exact ba4 hq
  refine aN3 (gw _ _ _ ?_)
  split <;> (
   show wpAny _ _ (storeSet a es1 t1 >>= _) _ _ _
   simp only [↓reduceIte]
   refine aN3 (wpAny_storeSet_of ho rfl ?_ (fits_of_scanBound hb1))
   have ho1:=K4 (es':=es1) (t':=t1) ho
   have sb1:=aY7 s.heap a (Obj.putSet es1 t1)
   split
   ·have rp:=relayAll_perm t1 es1 (SetTable.grown es1.size)
    have rf:=relayAll_fits t1 es1 (SetTable.grown es1.size)
    have rk:=az1 lk es1 (SetTable.grown es1.size)
    generalize relayAll t1 es1 (SetTable.grown es1.size)=L at rp rf rk ⊢
    obtain ⟨es2,t2,gave2⟩:=L
    dsimp only at rp rf rk ⊢
    have sz2:es2.size=es1.size:=by rw [<- aS0,rp.length_eq,aS0]
    obtain ⟨ms2,i2,p2⟩:=K1 (rp.map (·.2)) i1
    refine aN3 (gw _ _ _ ?_)
    refine aN3 (wpAny_storeSet_of ho1 rfl ?_ (fits_of_scanBound (by omega)))
    exact aN8 (aN8 (h _ _ ms2 (sb1.trans (aY7 _ a _)) ⟨es2,_,t2,K4 ho1,el1.perm rp,i2,by omega,rf,rk⟩ (fun z=>absurd z km) fun _=>p2.trans p1))
   ·exact aN8 (aN8 (h _ _ ms1 sb1 ⟨es1,_,t1,ho1,el1,i1,hb1,lf,lk⟩ (fun z=>absurd z km) fun _=>p1)))
end
end Raw
namespace L2
open PySem PySem.Spec PyProof.Rows
theorem az3 {a b c:List Int} (h1:HT.aH a b=true) (h2:HT.aH b c=true):HT.aH a c=true:=by
 cases e:HT.aH a c with
 | true=>rfl
 | false=>
  have ca:=sZ (jS h2) (jS h1)
  have:=oV e ca
  subst this
  have:=jS h1
  rw [h2] at this; cases this
theorem v8 {α:Type}{p q:α->Bool}:∀ {l:List α},(∀ x ∈ l,p x=true->q x=true)->(l.filter p).length<=(l.filter q).length
 | [],_=>aO6 _
 | x :: l,h=>by
  have ih:=v8 (l:=l) fun y hy=>h y (aO3 _ hy)
  have hx:=h x aO9
  rw [List.filter_cons,List.filter_cons]
  cases ep:p x with
  | false=>cases q x <;> simp <;> omega
  | true=>rw [hx ep]; simp; omega
theorem K5 {α:Type}{p q:α->Bool}:∀ {l:List α},(∀ x ∈ l,p x=true->q x=true)->(∃ x ∈ l,q x=true/\p x=false)->(l.filter p).length < (l.filter q).length
 | [],_,e=>by obtain ⟨_,z,_⟩:=e; cases z
 | x :: l,h,e=>by
  have hx:=h x aO9
  have h':∀ y ∈ l,p y=true->q y=true:=fun y hy=>h y (aO3 _ hy)
  have le:=v8 h'
  rw [List.filter_cons,List.filter_cons]
  obtain ⟨y,hy,qy,py⟩:=e
  rcases aO0.mp hy with rfl | hy
  ·rw [qy,py]; simp; omega
  ·have ih:=K5 h' ⟨y,hy,qy,py⟩
   cases ep:p x with
   | false=>cases q x <;> simp <;> omega
   | true=>rw [hx ep]; simp; omega
def kD (ys:List (List Int)) (x:List Int):Nat:=(ys.filter fun y=>HT.aH y x).length
theorem K6 {ys:List (List Int)}{u v:List Int} (hu:u ∈ ys) (hv:v ∈ ys):HT.aH u v=decide ((kD ys u:Int) < (kD ys v:Int)):=by
 have irr:∀ a:List Int,HT.aH a a=false:=fun a=>by
  cases e:HT.aH a a with
  | false=>rfl
  | true=>have:=jS e; rw [e] at this; cases this
 cases e:HT.aH u v with
 | true=>
  have:kD ys u < kD ys v:=K5 (fun x _ h=>az3 h e) ⟨u,hu,e,irr u⟩
  exact (aO4 (by omega)).symm
 | false=>
  have:kD ys v<=kD ys u:=v8 fun x _ h=>by
   cases e2:HT.aH x u with
   | true=>rfl
   | false=>have:=sZ e2 e; rw [h] at this; cases this
  exact (aO1 (by omega)).symm
end L2
namespace L2
open PySem PySem.Spec PyProof.Rows SO
section
variable {prog : Program} {w : World} {A : Around} {E : Value → Shared → Prop} {s : Shared}
structure gB (h:Heap) (v:Value) (ns:List Int):Prop where
 at_:∃ b ob us n,v = .ref b/\h.get? b=some ob/\ob.cls = .type "tuple"/\ob.data = .seq (List.toArray us) n/\IntsAre us ns
def v9 (h:Heap) (v:Value):List Int:=match v with
 | .ref b=>match h.get? b with
  | some ob=>match ob.data with
   | .seq us _=>us.toList.map numOf
   | _=>[]
  | none=>[]
 | _=>[]
theorem K7:∀ {us:List Value}{ns:List Int},IntsAre us ns->us.map numOf=ns
 | _,_,.nil=>rfl
 | _,_,.cons _ _ h=>by rw [aT4,K7 h]; rfl
theorem gB.ints {h:Heap}{v:Value}{ns:List Int} (z:gB h v ns):v9 h v=ns:=by
 obtain ⟨b,ob,us,n,rfl,e2,_,e4,e5⟩:=z.at_
 unfold v9
 dsimp only
 rw [e2]; dsimp only
 rw [e4]; exact K7 e5
def kE (h:Heap) (ys:List (List Int)) (x:Keyed):Int:=(kD ys (v9 h x.1):Int)
end
end L2
namespace PP
open PySem L2
section
variable {X : Cx} {a b e o : Expr} {ta tb te to : aF} {tr : cJ} {pos p2 apos cpos : Pos} {σ : St} {H : Hp} {Q' : VK}
open Classical in
theorem K8 {A:Around} (hu:A.units+2 < cLine) {pins:List (Addr × Obj)}{s:Shared}{H:Hp}{us:List V}{its:List Value}{rs:List (List Int)}{ns:List Int}{x:V}{v:Value} (I:a8 X pins σ H s) (rx:aR x v) (r:aK us its)
  (rn:aD X.K (fun _=>True) H x (.tup (intz ns))) (rr:Reps X.K (fun _=>True) H us (rs.map fun r=>PV.tup (intz r))):∃ f:Value->Bool,∀ (j:Nat) (w:Value),its[j]? = some w->∃ m,rs[j]? = some m/\SeqAt.EqAt A s w v (f w)/\f w=decide (m=ns):=by
 have lr:=r.length
 have lp:=rr.length
 rw [aO2] at lp
 refine⟨fun w=>decide (∃ v',aR v' w/\aD X.K (fun _=>True) H v' (.tup (intz ns))),fun j w hw=>?_⟩
 have hj:=(aO7.mp hw).1
 have h1:j < us.length:=by omega
 obtain ⟨w',hw',rw'⟩:=r.get (aN6 h1)
 rw [hw] at hw'
 cases hw'
 obtain ⟨m',hm',rm⟩:=rr.get (aN6 h1)
 rw [aP4] at hm'
 cases hm:rs[j]? with
 | none=>rw [hm] at hm'; cases hm'
 | some m=>
  rw [hm] at hm'
  cases hm'
  have e2:(decide (∃ v',aR v' w/\aD X.K (fun _=>True) H v' (.tup (intz ns))))=decide (m=ns):=by
   have:(∃ v',aR v' w/\aD X.K (fun _=>True) H v' (.tup (intz ns))) ↔ m=ns:=by
    refine⟨fun ⟨v',h1',h2'⟩=>?_,fun e=>⟨_,rw',by rw [<- e]; exact rm⟩⟩
    obtain ⟨p1,w1,e1,_,_⟩:=rm.sqT
    obtain ⟨p2,w2,e2,_,_⟩:=h2'.sqT
    rw [e1] at rw' rm
    rw [e2] at h1' h2'
    cases rw'
    cases h1'
    exact ay3 rm h2'
   exact decide_eq_decide.mpr this
  refine⟨m,rfl,?_,e2⟩
  show SeqAt.EqAt A s w v (decide _)
  rw [e2]
  have:=A0 I 2 (A:=A) hu rm rn rw' rx (by exact mR 1 m ns)
  rw [mQ 1] at this
  exact this
def K9 (K:PySem.W.Frag):R2:=fun x y H Q=>∃ p us ns,∃ rs:List (List Int),y = .ref p/\H p=some (.lst us)/\aD K (fun _=>True) H x (.tup (intz ns))/\Reps K (fun _=>True) H us (rs.map fun r=>PV.tup (intz r))/\Q (.bl (!decide (ns ∈ rs))) H
theorem az4 (hu:X.A.units+3 < cLine):c7 X (compareOp .NotIn) (K9 X.K):=by
 intro pins s σ H x y v u Q I rx ry h
 obtain ⟨p,us,ns,rs,rfl,hp,rn,rr,q⟩:=h
 cases ry
 obtain ⟨its,r,pl,hz⟩:=I.list (aM.of (K:=X.K) hp)
 have lr:=r.length
 have lp:=rr.length
 rw [aO2] at lp
 obtain ⟨f,key⟩:=K8 (A:=X.A.in1) (by show X.A.units+1+2 < cLine; omega) I rx r rn rr
 refine SeqAt.notIn_listAt f pl.isList (fun w hw=>?_) ⟨.bl _,H,I,rfl,?_⟩
 ·have hw:w ∈ its:=by simpa using hw
  obtain ⟨j,hj⟩:=ba0 hw
  obtain ⟨m,_,h1,h2⟩:=key j w hj
  exact h1
 ·have:its.toArray.any f=decide (ns ∈ rs):=by
   rw [show its.toArray.any f=its.any f by simp,aW5,List.any_eq_true,aQ3]
   refine⟨fun ⟨w,hw,e⟩=>?_,fun h=>?_⟩
   ·obtain ⟨j,hj⟩:=ba0 hw
    obtain ⟨m,hm,_,h2⟩:=key j w hj
    rw [h2,aQ3] at e
    rw [<- e]; exact aW2 hm
   ·obtain ⟨j,hj⟩:=ba0 h
    have hl:=(aO7.mp hj).1
    obtain ⟨m,hm,_,h2⟩:=key j its[j] (aN6 (by omega))
    rw [hj] at hm
    cases hm
    exact⟨its[j]'(by omega),aV6 _,by rw [h2]; exact aO4 rfl⟩
  rw [this]
  exact q
def qP:PV->Tg->PV->Tg->PK->Prop:=fun x _ y _ Q=>∃ ns,∃ rs:List (List Int),x = .tup (intz ns)/\y = .lst (rs.map fun r=>PV.tup (intz r))/\Q (.bl (!decide (ns ∈ rs))) .fr
theorem az5:dP X qP (K9 X.K):=by
 rintro W Hs H u v x y g g' Q Q' s n r1 r2 ⟨ns,rs,rfl,rfl,q⟩ k
 obtain ⟨p,us,rfl,_,h,r⟩:=r2.sqL
 exact⟨p,us,ns,rs,rfl,h,r1.same (aE.refl _) (fun _ _=>trivial),r.same (aE.refl _) (fun _ _=>trivial),k _ _ _ .fr (aE.refl _) (.bl _) q⟩
theorem az6 (hu:X.A.units+3 < cLine) (ha:QE X a ta) (hb:QE X b tb) (hm:behindInMarks .NotIn b=false:=by rfl):QT X (.Compare a [.NotIn] [b] pos) (aX (q2 qP ta tb)):=iO (az4 hu) az5 ha hb hm
end
end PP
namespace Core
open PySem L2 PP
def yG (ws:List Int) (ls:List (Int × Int)) (ns R:List Int):Prop:=J8 ws ls ns R=true/\aw8 ws ls (ns ++ R)
end Core
namespace PP
open PySem L2
section
variable {X : Cx} {a b : Expr} {ta tb : aF} {pos : Pos}
def lL:PV->Tg->PV->Tg->PK->Prop:=fun x _ y _ Q=>∃ ns ms:List Int,x = .tup (intz ns)/\y = .tup (intz ms)/\Q (.bl (HT.aH ns ms)) .fr
theorem vA:dP X lL (sJ X.K):=by
 rintro W Hs H u v x y g g' Q Q' s n r1 r2 ⟨ns,ms,rfl,rfl,q⟩ k
 obtain ⟨p1,us,rfl,h1,r1⟩:=r1.sqT
 obtain ⟨p2,vs,rfl,h2,r2⟩:=r2.sqT
 obtain rfl:=r1.ofInts
 obtain rfl:=r2.ofInts
 exact⟨p1,p2,ns,ms,rfl,rfl,aL.of h1,aL.of h2,k _ _ _ _ (aE.refl _) (.bl _) q⟩
theorem az7 (hu:X.A.units+3 < cLine) (ha:QE X a ta) (hb:QE X b tb):QE X (.Compare a [.Lt] [b] pos) (q2 lL ta tb):=lB (sK (by omega)) vA ha hb (eR _)
theorem az8 (hu:X.A.units+3 < cLine) (ha:QE X a ta) (hb:QE X b tb):QT X (.Compare a [.Lt] [b] pos) (aX (q2 lL ta tb)):=iO (sK (by omega)) vA ha hb (eR _)
end
end PP
namespace L2
open PySem PySem.Spec PyProof.Rows PP
section
variable {prog : Program} {w : World} {A : Around} {R : Result → Shared → Prop} {I S : Addr} {n : Nat} {l : Addr} {its : Array Value} {s0 : Shared} {bt : Nat → Nat → Bool}
abbrev at_ (s:Shared) (h:Heap) (k:Nat):Shared:={ s with heap:=h,toks:=k }
abbrev cV (g h:Heap):Prop:=∀ b o,g.get? b=some o->h.get? b=some o
def c6 (prog:Program) (w:World) (A:Around) (s0:Shared) (its:Array Value) (bt:Nat->Nat->Bool):Prop:=
 ∀ (i j:Nat) (v u:Value) (h:Heap) (k:Nat) (Q E:Value->Shared->Prop),its[i]? = some v->its[j]? = some u->cV s0.heap h->Q (.bool (bt i j)) (at_ s0 h k)->wpAny (model prog w) A (richCompare .Lt v u) Q E (at_ s0 h k)
end
section
variable {prog : Program} {w : World} {A : Around} {s0 : Shared} {l : Addr} {its : Array Value} {bt : Nat → Nat → Bool}
theorem qQ {h:Heap}{a:Addr} (z:h.objs.size<=a):h.get? a=none:=by
 cases q:h.get? a with
 | none=>rfl
 | some o=>exact absurd (aO8 q) (Nat.not_lt.mpr z)
end
end L2
namespace Core
open PySem L2 PP
def FB (L:List (List Int)) (f:List Int->Int) (r:List Int):Prop:=∃ i,L[i]? = some r/\(∀ (j:Nat) (s:List Int),j < i->L[j]? = some s->f s < f r)/\∀ s ∈ L,f s<=f r
end Core
namespace PP
open PySem L2
section
variable {X : Cx} {a b e : Expr} {ta tb : aF} {tr : cJ} {pos p2 : Pos}
def L0 (K:PySem.W.Frag):R2:=fun x y H Q=>gE (fun i j=>.bl (decide (i < j))) x y H Q ∨ sJ K x y H Q
theorem az9 (hu:X.A.units < cLine):c7 X (compareOp .Lt) (L0 X.K):=by
 intro pins s σ H x y v u Q I rx ry h
 rcases h with h | h
 ·exact sB pins s σ H x y v u Q I rx ry h
 ·exact sK hu pins s σ H x y v u Q I rx ry h
def qR:PV->Tg->PV->Tg->PK->Prop:=fun x g y g' Q=>dQ (fun i j=>.bl (decide (i < j))) x g y g' Q ∨ lL x g y g' Q
theorem aA0:dP X qR (L0 X.K):=by
 intro W Hs H u v x y g g' Q Q' s n r1 r2 h k
 rcases h with h | h
 ·exact .inl (kW W Hs H u v x y g g' Q Q' s n r1 r2 h k)
 ·exact .inr (vA W Hs H u v x y g g' Q Q' s n r1 r2 h k)
theorem aA1 (hu:X.A.units+1 < cLine) (ha:QE X a ta) (hb:QE X b tb):QE X (.Compare a [.Lt] [b] pos) (q2 qR ta tb):=lB (az9 (by omega)) aA0 ha hb (eR _)
end
end PP
namespace L2
open PySem PySem.Spec PyProof.Rows
section
variable {X : Cx}
def L1 (K:PySem.W.Frag) (ta:TA):TI:=fun σ H R=>ta σ H fun vs H1=>∃ a b,vs = [.ref a,.ref b]/\((∃ xs ys,aL K H1 a xs/\aL K H1 b ys/\R (tD K a b) H1) ∨ ∃ xs ys,aM K H1 a xs/\aM K H1 b ys/\R (tF K a b) H1)
theorem aA2 {elts:List Expr}{kt:Nat}{pt:Pos}{a b:Expr}{ta:TA}{p pos:Pos} (hg:Gl X "zip") (hm:X.mg "zip" = none) (ha:PA X [a,b] ta) (hs:starEach [a,b] X.env = [(false,eval a X.env),(false,eval b X.env)]:=by rfl) (hs2:starEach [b] X.env = [(false,eval b X.env)]:=by rfl) :
  PI X (.Tuple elts kt pt) (.Call (.Name "zip" p) [a,b] [] pos) (L1 X.K ta):=by
 intro pins s σ H R I h
 refine Call_ (kO I hg hm PyProof.Rows.boot_zip (ba5 (aQ (ha pos pins s σ H _ I h) fun us s1 ⟨vs,H1,I1,r1,q1⟩=>?_) (by rw [hs,hs2]) (by rw [hs2]; rfl)))
 obtain ⟨a',b',e,q1⟩:=q1
 subst e
 obtain ⟨u1,u2,rfl,r,r'⟩:=aK.two r1
 cases r
 cases r'
 have fresh:∀ k,H1 (s1.heap.objs.size+k)=none:=fun k=>I1.hok.fresh (aX2 _ _)
 have fp:∀ c ∈ [s1.heap.objs.size+4,s1.heap.objs.size+2,s1.heap.objs.size+3,s1.heap.objs.size,s1.heap.objs.size+1],fB X pins H1 c:=fun c hc=>by
  simp only [aO0,aP2,aS1] at hc
  rcases hc with rfl | rfl | rfl | rfl | rfl
  ·exact I1.fpOk (aX2 _ _) (fresh 4)
  ·exact I1.fpOk (aX2 _ _) (fresh 2)
  ·exact I1.fpOk (aX2 _ _) (fresh 3)
  ·exact I1.fpOk (aO6 _) (fresh 0)
  ·exact I1.fpOk (aX2 _ _) (fresh 1)
 rcases q1 with ⟨xs,ys,h1,h2,q⟩ | ⟨xs,ys,h1,h2,q⟩
 ·obtain ⟨us,_,p1,_⟩:=I1.tuple h1
  obtain ⟨ws,_,p2,_⟩:=I1.tuple h2
  refine Zp.aj0 p1 p2 fun h' z ti to s1' s2' kp=>wpAny_pyIter_zip z ?_
  exact⟨s1.heap.objs.size+4,[s1.heap.objs.size+4,s1.heap.objs.size+2,s1.heap.objs.size+3,s1.heap.objs.size,s1.heap.objs.size+1],_,_,H1,rfl,I1.kept (t':=s1.toks) kp,aj3 a' b' _ _ _ _ _ (by simp),⟨z,ti,⟨_,_,to⟩,s1',s2'⟩,fp,q⟩
 ·obtain ⟨us,_,p1,_⟩:=I1.list h1
  obtain ⟨ws,_,p2,_⟩:=I1.list h2
  refine call_zip_2 p1.isList p2.isList fun h' z ti to s1' s2' _ kp=>wpAny_pyIter_zip z ?_
  exact⟨s1.heap.objs.size+4,[s1.heap.objs.size+4,s1.heap.objs.size+2,s1.heap.objs.size+3,s1.heap.objs.size,s1.heap.objs.size+1],_,_,H1,rfl,I1.kept (t':=s1.toks) kp,aj9 a' b' _ _ _ _ _ (by simp),⟨z,ti,⟨_,_,to⟩,s1',s2'⟩,fp,q⟩
end
end L2
namespace PP
open PySem L2
theorem aA3 {K:PySem.W.Frag}{H0:Hp}{W:Addr->Prop}{g:Bool}{H1:Hp}{a b:Addr}{us vs:List V}{xs ys:List PV} (tw:∀ a,W a->∃ o,H1 a=some o/\eW o=true) (ha:∀ W' H',Ev W H1 W' H'->aM K H' a us) (hb:∀ W' H',Ev W H1 W' H'->aM K H' b vs)
  (r:Reps K (Ms H0 W g) H1 us xs) (r':Reps K (Ms H0 W g) H1 vs ys):j9 K H0 W g H1 (tF K a b) (hV xs ys):=by
 have lr:=r.length
 have lr':=r'.length
 have ll:=uX xs ys
 refine⟨fun W' H' i e hi=>⟨us,vs,us[i]'(by omega),vs[i]'(by omega),ha W' H' e,hb W' H' e,by simp,by simp⟩,fun W' H' i v H2 e y hi=>?_,fun W' H' e=>⟨us,vs,ha W' H' e,hb W' H' e,by omega⟩⟩
 obtain ⟨T,x,y',hT,rfl,rfl,y⟩:=y
 obtain ⟨h1,h2⟩:=y us vs (ha W' _ e) (hb W' _ e)
 obtain ⟨z,hz,rz⟩:=r.get h1
 obtain ⟨z',hz',rz'⟩:=r'.get h2
 have sm:=bY hT (HO.tup [x,y'])
 exact⟨sm,_,J0 hz hz',.tup c9 (.cons ((rz.keep (e.keep tw)).same sm fun _ q=>q) (.cons ((rz'.keep (e.keep tw)).same sm fun _ q=>q) .nil))⟩
section
variable {X : Cx} {σ : L2.St} {H : Hp} {ta tb : aF} {R : It → Hp → Prop}
def vB (ta tb:aF):eG:=fun ρ Q=>ta ρ fun x g0=>tb ρ fun y g=>∃ xs ys,((x = .tup xs/\y = .tup ys) ∨ (x = .lst xs/\y = .lst ys/\g0 ≠ .rd/\g ≠ .rd))/\flats xs=true/\flats ys=true/\Q (hV xs ys) true
theorem L3 {K:PySem.W.Frag}{H0 Hs:Hp}{W:Addr->Prop}{σ:L2.St}{ρ:bD}{g:Tg}{b:Addr} (px:PX K H0 W σ ρ Hs) (ng:g ≠ .rd) (m:Mg H0 W Hs g b) : ¬ W b:=by
 cases g with
 | fr=>exact (px.new m).1
 | nw=>exact m.1
 | sh=>exact m
 | rd=>exact absurd rfl ng
theorem aA4 (h:LI X (vB ta tb) σ H R):L1 X.K (iZ (LE X ta) (iZ (LE X tb) jN)) σ H R:=by
 obtain ⟨W,ρ,Q,px,q,k⟩:=h
 refine⟨W,ρ,_,px,q,fun v0 H0 x0 g0 s0 r0 q0=>⟨W,ρ,_,px.mono s0,q0,?_⟩⟩
 rintro v H1 x g s r ⟨xs,ys,c,fx,fy,q⟩
 have S:=s0.trans s
 have px1:=px.mono S
 have tw:∀ a,W a->∃ o,H1 a=some o/\eW o=true:=fun a z=>(px1.wm a z).2
 rcases c with ⟨rfl,rfl⟩ | ⟨rfl,rfl,n0,n1⟩
 ·obtain ⟨a,us,rfl,h1,ra⟩:=(r0.same (M':=fun _=>True) s fun _ _=>trivial).sqT
  obtain ⟨b,vs,rfl,h2,rb⟩:=r.sqT
  have sta:∀ {c us},H1 c=some (.tup us)->∀ W' H',Ev W H1 W' H'->aL X.K H' c us:=fun {c us} hc W' H' e=>aL.of (e _ _ hc fun z=>by obtain ⟨o,h',mu⟩:=tw _ z; rw [hc] at h'; cases h'; cases mu).1
  exact⟨a,b,rfl,.inl ⟨us,vs,aL.of h1,aL.of h2,k _ _ _ _ S (ax5 tw (sta h1) (sta h2) (ra.flat fx) (rb.flat fy)) q⟩⟩
 ·obtain ⟨a,us,rfl,m0,h1,ra⟩:=(r0.same s fun _ z=>z).sqL
  obtain ⟨b,vs,rfl,m1,h2,rb⟩:=r.sqL
  have w0:=L3 px n0 m0
  have w1:=L3 (px.mono s0) n1 m1
  exact⟨a,b,rfl,.inr ⟨us,vs,aM.of h1,aM.of h2,k _ _ _ _ S (aA3 tw (fun W' H' e=>aM.of (e _ _ h1 w0).1) (fun W' H' e=>aM.of (e _ _ h2 w1).1) (ra.flat fx) (rb.flat fy)) q⟩⟩
theorem aA5 {elts:List Expr}{kt:Nat}{pt p2 pos:Pos}{a b:Expr} (B:Bt X.mg) (ha:QE X a ta) (hb:QE X b tb) (hg:Gl X "zip":=by rfl) (hs:starEach [a,b] X.env = [(false,eval a X.env),(false,eval b X.env)]:=by rfl) (hs2:starEach [b] X.env = [(false,eval b X.env)]:=by rfl):QI X (.Tuple elts kt pt) (.Call (.Name "zip" p2) [a,b] [] pos) (vB ta tb):=
 pH (aA2 hg B.zip (iC ha (iC hb jO hs2) (by rw [hs,hs2])) hs hs2) fun _ _ _=>aA4
end
end PP
namespace Core
open PySem L2 PP
theorem aA6 (xs:List PV):gL xs (some 1) none=xs.drop 1:=by
 unfold gL
 have e1:HT.aS xs.length 0 (some 1)=min 1 xs.length:=by
  show (if (1:Int) < 0 then ((1:Int)+(xs.length:Int)).toNat else min (1:Int).toNat xs.length)=_
  rw [if_neg (by decide)]; rfl
 rw [e1]
 show (xs.drop (min 1 xs.length)).take (xs.length - min 1 xs.length)=_
 rw [aX1 (by rw [ba8]; exact aO6 _)]
 cases xs with
 | nil=>rfl
 | cons x xs=>rw [show min 1 (x :: xs).length=1 by simp]
def qS {α:Type} (lt:α->α->Bool) (A:List α):Bool:=((A.zip (A.drop 1)).map fun p=>lt p.1 p.2).all id
def L4:aP:=(bJ (aC pA (a6 (l8 (vB (a5 0) (mU (a5 0) (mT (qC (.int 1))) mS)) [none,none] (gK 0 1) hB (q2 qR (a5 0) (a5 1))) a9)))
theorem L5 {α:Type} (f:α->PV) (lt:α->α->Bool) (fl:∀ a,flat (f a)=true) (hlt:∀ (a b:α) (g g':Tg) (K:PK),K (.bl (lt a b)) .fr->qR (f a) g (f b) g' K) (A:List α) (la:A.length<=10000) (x:PV) (hx:x = .tup (A.map f) ∨ x = .lst (A.map f)) {Q:PV->Prop} (q:Q (.bl (qS lt A))) :
  L4 { nx:=fun _=>Q .non,rt:=Q } [some (.sh (flat x) x)]:=by
 have fls:∀ B:List α,flats (B.map f)=true:=fun B=>by
  induction B with
  | nil=>rfl
  | cons b B ih=>show (flat (f b) && flats (B.map f))=true; rw [fl,ih]; rfl
 have sx:p9 x=some (A.map f):=by rcases hx with rfl | rfl <;> rfl
 have cut:gL (A.map f) (some 1) none=(A.drop 1).map f:=by rw [aA6,List.map_drop]
 refine⟨_,rfl,_,rfl,_,rfl,_,sx,fls A,?_⟩
 rw [cut]
 refine⟨A.map f,(A.drop 1).map f,?_,fls A,fls _,?_⟩
 ·rcases hx with rfl | rfl
  ·exact .inl ⟨rfl,rfl⟩
  ·refine .inr ⟨rfl,rfl,?_,fun z=>by cases z⟩
   cases flat (.lst (A.map f)) <;> intro z <;> cases z
 have zl:(hV (A.map f) ((A.drop 1).map f)).length=A.length - 1:=by rw [uX,aO2,aO2,ba8]; omega
 refine⟨by rw [zl]; omega,fun i acc=>acc=J7 (((A.zip (A.drop 1)).take i).map fun p=>lt p.1 p.2),rfl,?_,?_⟩
 ·rintro i y acc hy rfl
  obtain ⟨u,v,h1,h2,rfl⟩:=ax4 hy
  rw [aP4] at h1 h2
  cases ha:A[i]? with
  | none=>rw [ha] at h1; cases h1
  | some a=>
   cases hb:(A.drop 1)[i]? with
   | none=>rw [hb] at h2; cases h2
   | some b=>
    rw [ha] at h1
    rw [hb] at h2
    cases h1
    cases h2
    have hz:(A.zip (A.drop 1))[i]? = some (a,b):=List.getElem?_zip_eq_some.mpr ⟨ha,hb⟩
    refine⟨_,_,rfl,_,rfl,_,rfl,hlt a b _ _ _ ⟨trivial,?_⟩⟩
    dsimp only
    rw [aU0,hz,aQ4]
    unfold J7
    rw [aQ4]; rfl
 ·rintro acc rfl
  rw [aX1 (by rw [zl,List.length_zip,ba8]; omega)]
  exact⟨_,rfl,trivial,q⟩
theorem aA7 (ls:List (Int × Int)):qS (fun a b=>HT.aH [a.1,a.2] [b.1,b.2]) ls=true ↔ ls.Pairwise fP:=by
 have lt2:∀ a b:Int × Int,HT.aH [a.1,a.2] [b.1,b.2]=true ↔ fP a b:=fun a b=>by
  unfold fP
  rw [HT.fU,HT.fU,HT.oI]
  by_cases h1:a.1=b.1
  ·rw [if_pos h1]
   by_cases h2:a.2=b.2
   ·rw [if_pos h2]
    exact⟨fun z=>(by cases z),fun z=>(by omega)⟩
   ·rw [if_neg h2,aQ3]; omega
  ·rw [if_neg h1,aQ3]; omega
 induction ls with
 | nil=>exact⟨fun _=>.nil,fun _=>rfl⟩
 | cons a r ih=>
  cases r with
  | nil=>exact⟨fun _=>aS4 _ _,fun _=>rfl⟩
  | cons b r=>
   have e:qS (fun a b:Int × Int=>HT.aH [a.1,a.2] [b.1,b.2]) (a :: b :: r)=(HT.aH [a.1,a.2] [b.1,b.2] && qS (fun a b:Int × Int=>HT.aH [a.1,a.2] [b.1,b.2]) (b :: r)):=rfl
   rw [e,aW9,lt2,List.pairwise_cons]
   refine⟨fun ⟨h1,h2⟩=>⟨fun c hc=>?_,ih.mp h2⟩,fun ⟨h1,h2⟩=>⟨h1 b aO9,ih.mpr h2⟩⟩
   rcases aO0.mp hc with rfl | hc
   ·exact h1
   ·have:=(List.pairwise_cons.mp (ih.mp h2)).1 c hc
    unfold fP at *; omega
theorem qT {ls:List (Int × Int)} (h:ls.Pairwise fP):ls.Nodup:=h.imp fun {a b} z e=>by subst e; unfold fP at z; omega
def qU:bN:=fun xs Q=>∃ x,xs = [x]/\((∃ ns,F4 x ns/\ns.length<=1000/\Q (.bl (uL ns))) ∨ ∃ ls:List (Int × Int),(x = .tup (b9 ls) ∨ x = .lst (b9 ls))/\ls.length<=4096/\∀ b:Bool,(b=true ↔ ls.Pairwise fP)->Q (.bl b))
abbrev L6:aP:=L4
theorem aA8:cM L6 ["things"] qU:=by
 rintro xs Q ⟨x,rfl,⟨ns,hx,hl,q⟩ | ⟨ls,hx,hl,q⟩⟩
 ·exact L5 PV.int (fun a b=>decide (a < b)) (fun _=>rfl) (fun a b g g' K h=>.inl ⟨_,_,rfl,rfl,h⟩) ns (by omega) x hx q
 ·exact L5 (fun l:Int × Int=>PV.tup [.int l.1,.int l.2]) (fun a b=>HT.aH [a.1,a.2] [b.1,b.2]) (fun _=>rfl) (fun a b g g' K h=>.inr ⟨_,_,rfl,rfl,h⟩) ls (by omega) x hx (q _ (aA7 ls))
def cQ (r c:Int):Prop:=1<=r/\r<=40/\1<=c/\c<=40
def qV:eZ:=fun Ep xs Q=>∃ r c:Int,xs = [.int r,.int c]/\(cQ r c->Q .non)/\(¬ cQ r c->Ep "BadBoard")
def L7 (Ep:Str->Prop):aP:=(bV (eD (aX (iM (aC jU (a6 (a5 0) (a6 (a5 1) a9))) (qC (.int 1)))) (aX (mW (aC j8 (a6 (a5 0) (a6 (a5 1) a9))) (qC (.int 40))))) (lJ Ep "BadBoard" (a6 (qC (.str "a board has from 1 to 40 rows and columns")) a9)) bZ)
theorem aA9:nW L7 ["rows","columns"] qV:=by
 rintro Ep xs Q ⟨r,c,rfl,q,ex⟩
 refine⟨_,rfl,_,rfl,_,_,rfl,_,_,rfl,rfl,_,rfl,?_⟩
 show if decide ((if c < r then c else r) < 1)=true then _ else _
 by_cases h1:(if c < r then c else r) < 1
 ·rw [aO4 h1]
  exact bI (bI ⟨by decide,ex fun z=>by unfold cQ at z; split at h1 <;> omega⟩)
 rw [aO1 h1]
 refine b6 ⟨_,rfl,_,rfl,_,_,rfl,_,_,rfl,rfl,_,rfl,?_⟩
 show if decide ((if c > r then c else r) > 40)=true then _ else _
 by_cases h2:(if c > r then c else r) > 40
 ·rw [aO4 h2]
  exact bI ⟨by decide,ex fun z=>by unfold cQ at z; split at h2 <;> omega⟩
 rw [aO1 h2]
 refine b6 (q ?_)
 unfold cQ
 split at h1 <;> split at h2 <;> omega
def cW (r c:Int) (l:Int × Int):Bool:=decide (0<=l.1) && (decide (l.1 < r) && (decide (0<=l.2) && decide (l.2 < c)))
theorem qW {r c:Int}{l:Int × Int}:cW r c l=true ↔ 0<=l.1/\l.1 < r/\0<=l.2/\l.2 < c:=by
 unfold cW
 simp only [aW9,aQ3]
def qX:bN:=fun xs Q=>∃ (r c:Int) (l:Int × Int),xs = [.int r,.int c,.tup [.int l.1,.int l.2]]/\Q (.bl (cW r c l))
def L8:aP:=(bJ (jT (zO (aW (a5 2) (qC (.int 0))) (qC (.int 0))) (jT (iM (aW (a5 2) (qC (.int 0))) (a5 0)) (jT (zO (aW (a5 2) (qC (.int 1))) (qC (.int 0))) (iM (aW (a5 2) (qC (.int 1))) (a5 1))))))
theorem aB0:cM L8 ["rows","columns","cell"] qX:=by
 rintro xs Q ⟨r,c,l,rfl,q⟩
 unfold cW at q
 refine⟨_,rfl,_,_,_,rfl,rfl,rfl,_,_,rfl,rfl,_,rfl,?_⟩
 show if decide (l.1 >= 0)=true then _ else _
 by_cases h1:0<=l.1
 ·rw [aO4 h1] at q
  rw [aO4 (show l.1 >= 0 from h1)]
  refine bI ⟨_,rfl,_,_,_,rfl,rfl,rfl,_,rfl,_,_,rfl,rfl,_,rfl,?_⟩
  show if decide (l.1 < r)=true then _ else _
  by_cases h2:l.1 < r
  ·rw [aO4 h2] at q ⊢
   refine bI ⟨_,rfl,_,_,_,rfl,rfl,rfl,_,_,rfl,rfl,_,rfl,?_⟩
   show if decide (l.2 >= 0)=true then _ else _
   by_cases h3:0<=l.2
   ·rw [aO4 h3] at q
    rw [aO4 (show l.2 >= 0 from h3)]
    exact bI ⟨_,rfl,_,_,_,rfl,rfl,rfl,_,rfl,_,_,rfl,rfl,trivial,q⟩
   ·rw [aO1 h3] at q
    rw [aO1 (show ¬ l.2 >= 0 from h3)]
    exact b6 ⟨trivial,q⟩
  ·rw [aO1 h2] at q ⊢
   exact b6 ⟨trivial,q⟩
 ·rw [aO1 h1] at q
  rw [aO1 (show ¬ l.1 >= 0 from h1)]
  exact b6 ⟨trivial,q⟩
def dX (r c:Int) (ls:List (Int × Int)):Prop:=ls.Pairwise fP/\∀ l ∈ ls,cW r c l=true
def lM:eZ:=fun Ep xs Q=>∃ (r c:Int) (x:PV) (ls:List (Int × Int)),xs = [.int r,.int c,x]/\(x = .tup (b9 ls) ∨ x = .lst (b9 ls))/\ls.length<=4096/\(¬ cQ r c->Ep "BadBoard")/\(cQ r c->¬ dX r c ls->Ep "BadSet")/\(cQ r c->dX r c ls->Q (.tup (b9 ls)))
def L9 (Ep:Str->Prop):aP:=(aG (tO (kC Ep qV (a6 (a5 0) (a6 (a5 1) a9))))
 (aG (bV (eD (eF (aX (aC qU (a6 (a5 2) a9)))) (eF (aX (aC pA (a6 (l8 (fX (a5 2)) [none,some 0,some 1] (dC 0) hB (aC qX (a6 (a5 1) (a6 (a5 2) (a6 (a5 0) a9))))) a9))))) (lJ Ep "BadSet" (a6 (qC (.str "a set is of rising cells of the board")) a9)) bZ)
 (bJ (aC pF (a6 (a5 2) a9)))))
theorem aB1:nW L9 ["rows","columns","cells"] lM:=by
 rintro Ep xs Q ⟨r,c,x,ls,rfl,hx,hl,e1,e2,q⟩
 have sx:j7 x=some (b9 ls):=by rcases hx with rfl | rfl <;> rfl
 have pl:(b9 ls).length=ls.length:=aO2 _
 have tg:(Slot.sh (flat x) x).tag = .rd->flat x=true:=by cases flat x <;> intro z <;> cases z
 refine⟨_,rfl,_,rfl,r,c,rfl,fun ok=>?_,e1⟩
 refine⟨_,rfl,_,rfl,.inr ⟨ls,hx,hl,fun b hb=>⟨_,rfl,?_⟩⟩⟩
 cases b with
 | false=>exact bI (bI ⟨by decide,e2 ok fun z=>by have:=hb.mpr z.1; cases this⟩)
 | true=>
  have ord:=hb.mp rfl
  refine b6 ⟨_,rfl,b9 ls,sx,tg,by rw [pl]; omega,fun i acc=>acc=(((ls.take i).map (cW r c)).map PV.bl),rfl,?_,?_⟩
  ·rintro i z acc hz rfl
   obtain ⟨l,rfl,hlm⟩:=uM hz
   refine⟨_,rfl,_,rfl,_,rfl,r,c,l,rfl,trivial,?_⟩
   dsimp only
   rw [aU0,hlm,aQ4,aQ4]; rfl
  rintro acc rfl
  rw [pl,aX3]
  refine⟨ls.map (cW r c),rfl,_,rfl,?_⟩
  cases ha:(ls.map (cW r c)).all id with
  | false=>
   refine bI ⟨by decide,e2 ok fun z=>?_⟩
   have:(ls.map (cW r c)).all id=true:=by
    rw [List.all_map,aY2]
    exact fun l hlm=>z.2 l hlm
   rw [ha] at this; cases this
  | true=>
   refine b6 ?_
   have st:dX r c ls:=⟨ord,fun l hlm=>by
    rw [List.all_map,aY2] at ha
    exact ha l hlm⟩
   have sT:p9 x=some (b9 ls):=by rcases hx with rfl | rfl <;> rfl
   refine⟨_,rfl,⟨_,_,rfl,sT,kA _,trivial,q ok st⟩,fun ns z=>?_⟩
   rcases hx with rfl | rfl <;> cases z
def M0 (l:Int × Int):List (Int × Int):=[(l.1 - 1,l.2),(l.1,l.2 - 1),(l.1,l.2+1),(l.1+1,l.2)]
def nY (r c:Int) (l:Int × Int):List (Int × Int):=(M0 l).filter (cW r c)
section
variable {ls : List (Int × Int)} {n : Nat} {B : List Int}
def ins (ls:List (Int × Int)) (S:List Int) (h:Int):Nat:=((t6 ls h).filter fun x=>decide (x ∈ S)).length
end
end Core
namespace L2
open PySem PySem.Spec PyProof.Rows SO
abbrev kk (l:Int × Int):List aJ:=[Sum.inl l.1,Sum.inl l.2]
theorem aB2 {α β:Type}{R:α->β->Prop}{xs ys:List α} (h:xs.Perm ys):∀ {ks:List β},Paired R xs ks->∃ ks',ks'.Perm ks/\Paired R ys ks':=by
 induction h with
 | nil=>intro ks r; exact⟨ks,aX8 _,r⟩
 | cons v _ ih=>
  intro ks r
  cases r with
  | cons r t=>
   obtain ⟨xs',p,r'⟩:=ih t
   exact⟨_ :: xs',p.cons _,.cons r r'⟩
 | swap u v l=>
  intro xs r
  cases r with
  | cons r t=>cases t with
   | cons r2 t2=>exact⟨_,bc8 _ _ _,.cons r2 (.cons r t2)⟩
 | trans _ _ ih1 ih2=>
  intro xs r
  obtain ⟨x1,p1,r1⟩:=ih1 r
  obtain ⟨x2,p2,r2⟩:=ih2 r1
  exact⟨x2,p2.trans p1,r2⟩
theorem M3 {α β:Type}{R:α->β->Prop}:∀ {xs:List α}{ys:List β},Paired R xs ys->∀ y ∈ ys,∃ x ∈ xs,R x y
 | _,_,.nil,y,h=>nomatch h
 | _,_,.cons r p,y,h=>by
  rcases aO0.mp h with rfl | h
  ·exact⟨_,aO9,r⟩
  ·obtain ⟨x,hx,rx⟩:=M3 p y h
   exact⟨x,aO3 _ hx,rx⟩
theorem M4 {α β:Type}{R:α->β->Prop}:∀ {xs:List α}{ys:List β},Paired R xs ys->∀ x ∈ xs,∃ y ∈ ys,R x y
 | _,_,.nil,y,h=>nomatch h
 | _,_,.cons r p,y,h=>by
  rcases aO0.mp h with rfl | h
  ·exact⟨_,aO9,r⟩
  ·obtain ⟨x,hx,rx⟩:=M4 p y h
   exact⟨x,aO3 _ hx,rx⟩
theorem M5 {α β:Type}{J:α->β->Prop}{R:α->α->Prop}{S:β->β->Prop}:∀ {xs:List α}{ys:List β},Paired J xs ys->xs.Pairwise R->(∀ u v a b,a ∈ ys->b ∈ ys->J u a->J v b->R u v->S a b)->ys.Pairwise S
 | _,_,.nil,_,_=>.nil
 | _,_,.cons (a:=x) (b:=y) r p,.cons h t,f=>by
  refine .cons (fun b hb=>?_) (M5 p t fun u v a b ha hb=>f u v a b (aO3 _ ha) (aO3 _ hb))
  obtain ⟨v,hv,jv⟩:=M3 p b hb
  exact f x v y b aO9 (aO3 _ hb) r jv (h v hv)
end L2
namespace Core
open PySem L2 PP
inductive kF (r c:Int) (S:List (Int × Int)):Int × Int->Prop
 | seed {x:Int × Int}:x ∈ S->kF r c S x
 | kin {x a b:Int × Int}:cW r c x=true->a ∈ nY r c x->b ∈ nY r c x->a ≠ b->kF r c S a->kF r c S b->kF r c S x
def nbC (r c:Int) (P:List (Int × Int)) (x:Int × Int):Nat:=(P.filter fun p=>decide (x ∈ nY r c p)).length
structure Wk (r c:Int) (S K P:List (Int × Int)):Prop where
 nd:K.Nodup
 ndP:P.Nodup
 sub:∀ x ∈ P,x ∈ K
 brn:∀ x ∈ K,kF r c S x
 sd:∀ x ∈ S,x ∈ K
 bd:∀ x ∈ K,cW r c x=true
 low:∀ x,x ∉ K->nbC r c P x < 2
theorem M6 {α:Type}{l:List α}{i:Nat}{x:α} (nd:l.Nodup) (h:l[i]? = some x):x ∉ l.take i:=fun z=>by
 have:(l.take (i+1)).Nodup:=nd.sublist (ba2 _ _)
 rw [aU0,h] at this
 exact (List.nodup_append.mp this).2.2 x z x (by simp) rfl
def qY:bN:=fun xs Q=>∃ c:Int,xs = [.int c]/\∀ a b:Int,cQ a b->Q (.tup [.int a,.int b])
def M7:aP:=(aG (bF 1 (gM (qC (.int 1)) (cP (a5 0) (qC (.int 9)))))
 (aG (bF 2 (gM (qC (.int 1)) (cP (fJ (a5 0) (qC (.int 9))) (qC (.int 9)))))
 (aG (bV (aX (pE (cP (fJ (a5 0) (qC (.int 81))) (qC (.int 8))) (qC (.int 1)))) (aG (bF 1 (gM (qC (.int 1)) (cP (fJ (a5 0) (qC (.int 648))) (qC (.int 40)))))
  (bF 2 (gM (qC (.int 1)) (cP (fJ (a5 0) (qC (.int 25920))) (qC (.int 40)))))) bZ)
 (bJ (eY (a6 (a5 1) (a6 (a5 2) a9)))))))
theorem aB3:cM M7 ["cell","rows","columns"] qY:=by
 rintro xs Q ⟨c,rfl,q⟩
 refine⟨_,rfl,_,_,rfl,rfl,(by show (0:Int) < 9; decide),_,_,rfl,rfl,trivial,?_⟩
 refine⟨_,rfl,_,_,rfl,rfl,⟨by decide,by decide⟩,_,_,rfl,rfl,(by show (0:Int) < 9; decide),_,_,rfl,rfl,trivial,?_⟩
 refine⟨_,rfl,_,_,rfl,rfl,⟨by decide,by decide⟩,_,_,rfl,rfl,(by show (0:Int) < 8; decide),.inl ⟨_,_,rfl,rfl,_,rfl,?_⟩⟩
 show if decide (c / 81 % 8=1)=true then _ else _
 cases decide (c / 81 % 8=1) with
 | false=>exact b6 ⟨_,rfl,_,rfl,by show 2<=1000; decide,rfl,trivial,q _ _ ⟨by omega,by omega,by omega,by omega⟩⟩
 | true=>
  refine bI ⟨_,rfl,_,_,rfl,rfl,⟨by decide,by decide⟩,_,_,rfl,rfl,(by show (0:Int) < 40; decide),_,_,rfl,rfl,trivial,?_⟩
  refine⟨_,rfl,_,_,rfl,rfl,⟨by decide,by decide⟩,_,_,rfl,rfl,(by show (0:Int) < 40; decide),_,_,rfl,rfl,trivial,?_⟩
  exact⟨_,rfl,_,rfl,by show 2<=1000; decide,rfl,trivial,q _ _ ⟨by omega,by omega,by omega,by omega⟩⟩
def lN:bN:=fun xs Q=>∃ (ns:List Int) (k:Int),xs = [.scr ns,.int k]/\ns.length<=63/\0<=k/\k<=1000/\∀ z:Int,Q (.int z)
def M8:aP:=(aG (bV (aX (iM (a5 1) (aC dG (a6 (a5 0) a9)))) (bJ (aW (a5 0) (a5 1))) bZ)
 (aG (bF 2 (cP (mV (gM (gM (cP (aC jF (a6 (a5 0) (a6 (cP (a5 1) (aC j8 (a6 (qC (.int 1)) (a6 (aC dG (a6 (a5 0) a9)) a9)))) a9))) (qC (.int 1000000007))) (mV (qC (.int 977)) (a5 1))) (qC (.int 1))) (qC (.int 48271))) (qC (.int 2147483647))))
 (bJ (fJ (cP (mV (a5 2) (a5 2)) (qC (.int 2147483647))) (qC (.int 8))))))
theorem aB4:cM M8 ["script","k","stir"] lN:=by
 rintro xs Q ⟨ns,k,rfl,hl,k0,k1,q⟩
 refine⟨_,rfl,_,rfl,_,_,rfl,rfl,_,_,rfl,rfl,_,rfl,?_⟩
 show if decide (k < (ns.length:Int))=true then _ else _
 by_cases h:k < (ns.length:Int)
 ·rw [aO4 h]
  have hk:L2.atI (intz ns) k=some (.int (ns.getD k.toNat 0)):=F6 k0 h
  exact bI ⟨_,rfl,_,rfl,_,_,_,rfl,rfl,hk,trivial,q _⟩
 ·rw [aO1 h]
  refine b6 ?_
  have mx:(0:Int) < (if (ns.length:Int) > 1 then (ns.length:Int) else 1):=by split <;> omega
  refine⟨_,rfl,_,rfl,_,rfl,_,_,rfl,rfl,_,_,rfl,_,_,rfl,rfl,mx,_,ns,_,rfl,.inl rfl,Int.emod_nonneg _ (Int.ne_of_gt mx),?_⟩
  refine⟨_,_,rfl,rfl,(by show (0:Int) < 1000000007; decide),_,rfl,_,_,rfl,rfl,.inl ⟨by decide,by decide⟩,_,_,rfl,rfl,_,_,rfl,rfl,_,_,rfl,rfl,.inr ⟨by decide,by decide⟩,_,_,rfl,rfl,(by show (0:Int) < 2147483647; decide),trivial,?_⟩
  dsimp only
  generalize hv:(ns.getD (k % (if (ns.length:Int) > 1 then (ns.length:Int) else 1)).toNat 0 % 1000000007+977 * k+1) * 48271 % 2147483647=v
  have v0:0<=v:=by rw [<- hv]; exact Int.emod_nonneg _ (by decide)
  have v1:v < 2147483647:=by rw [<- hv]; exact Int.emod_lt_of_pos _ (by decide)
  exact⟨_,rfl,_,rfl,_,_,rfl,rfl,.inl ⟨by omega,by omega⟩,_,_,rfl,rfl,(by show (0:Int) < 2147483647; decide),_,_,rfl,rfl,⟨by decide,by decide⟩,trivial,q _⟩
def qZ:bN:=fun xs Q=>∃ (ns:List Int) (a r c:Int),xs = [.scr ns,.int a,.int r,.int c]/\ns.length<=63/\0<=a/\a<=10/\cQ r c/\∀ ls,dX r c ls->ls.length<=200->Q (.tup (b9 ls))
def vC:aP:=(aG (fH 5 (gX a9))
 (aG (bF 8 (qC (.int 0)))
 (aG (bF 9 (qC (.int 0)))
 (aG (dH (l5 (a5 7)) (dC 10)
  (aG (bF 4 (aC lN (a6 (a5 0) (a6 (gM (a5 1) (a5 10)) a9))))
  (aG (bV (aX (pE (cP (a5 4) (qC (.int 4))) (qC (.int 0)))) (aG (bF 8 (cP (fJ (a5 4) (qC (.int 4))) (a5 2)))
   (bF 9 (cP (fJ (a5 4) (qC (.int 169))) (a5 3)))) (aG (bF 8 (cP (hG (gM (a5 8) (cP (fJ (a5 4) (qC (.int 4))) (qC (.int 5)))) (qC (.int 2))) (a5 2)))
   (bF 9 (cP (hG (gM (a5 9) (cP (fJ (a5 4) (qC (.int 23))) (qC (.int 5)))) (qC (.int 2))) (a5 3)))))
  (bV (mM (aX (q2 qP (eY (a6 (a5 8) (a6 (a5 9) a9))) (a5 5))) (aX (mW (cP (fJ (a5 4) (qC (.int 127))) (qC (.int 3))) (qC (.int 0))))) (iK 5 (eY (a6 (a5 8) (a6 (a5 9) a9)))) bZ))))
 (bJ (aC pF (a6 (aC v5 (a6 (a5 5) a9)) a9)))))))
def M9:aP:=(aG (bF 4 (aC jF (a6 (a5 0) (a6 (a5 1) a9))))
 (aG (bV (mM (aX (pE (cP (a5 4) (qC (.int 2))) (qC (.int 1)))) (aX (iM (mV (a5 2) (a5 3)) (qC (.int 101))))) (aG (fH 5 (gX a9))
  (aG (dH (l5 (mV (a5 2) (a5 3))) (dC 6)
   (aG (bF 4 (fJ (a5 4) (qC (.int 2))))
   (bV (aX (pE (cP (a5 4) (qC (.int 2))) (qC (.int 1)))) (iK 5 (eY (a6 (fJ (a5 6) (a5 3)) (a6 (cP (a5 6) (a5 3)) a9)))) bZ)))
  (bJ (aC pF (a6 (a5 5) a9))))) bZ)
 (aG (bF 7 (hG (aC dG (a6 (a5 0) a9)) (a5 1)))
 (aG (bV (aX (iM (a5 7) (qC (.int 1)))) (bF 7 (qC (.int 1))) bZ)
 vC))))
theorem aB5 {c:Int}{a b:Int × Int} (h:a.1 * c+a.2 < b.1 * c+b.2) (a0:0<=a.2) (b1:b.2 < c) (c1:1<=c):fP a b:=by
 unfold fP
 rcases Int.lt_trichotomy a.1 b.1 with z | z | z
 ·exact .inl z
 ·rw [z] at h; exact .inr ⟨z,by omega⟩
 ·have:=Int.mul_le_mul_of_nonneg_right (show b.1+1<=a.1 by omega) (show 0<=c by omega)
  rw [Int.add_mul,Int.one_mul] at this
  omega
theorem aB6 {x:Int × Int}{ls:List (Int × Int)}:decide (two x ∈ ls.map two)=decide (x ∈ ls):=by
 rw [aW5,aQ3,aQ3]
 refine⟨fun h=>?_,fun h=>aQ8.mpr ⟨x,h,rfl⟩⟩
 obtain ⟨y,hy,e⟩:=aQ8.mp h
 unfold two at e
 injection e with e1 e2
 injection e2 with e2
 rw [<- bb2 e1 e2]; exact hy
section
variable {ns : List Int} {a r c m : Int} {y4 y5 y6 : Option Slot} {Q : PV → Prop}
theorem N0 (hl:ns.length<=63) (a0:0<=a) (a1:a<=10) (ok:cQ r c) (m1:1<=m) (m2:m<=63) (q:∀ ls,dX r c ls->ls.length<=200->Q (.tup (b9 ls))) :
  vC { nx:=fun _=>Q .non,rt:=Q } [some (.sh true (.scr ns)),si a,si r,si c,y4,y5,y6,si m,none,none,none]:=by
 obtain ⟨r1,r2,c1,c2⟩:=id ok
 refine⟨by decide,rfl,rfl,rfl,trivial,trivial,?_⟩
 refine⟨_,rfl,m,rfl,by omega,by omega,fun i ρ=>∃ (y4 y10:Option Slot) (x y:Int) (ls:List (Int × Int)),ρ = [some (.sh true (.scr ns)),si a,si r,si c,y4,some (.own (.lst (b9 ls))),y6,si m,si x,si y,y10]/\ls.Nodup/\(∀ l ∈ ls,cW r c l=true)/\ls.length<=i,
  ⟨y4,none,0,0,[],rfl,.nil,(fun _ h=>nomatch h),aO6 _⟩,?_,?_⟩
 ·rintro i y ρ hy ⟨y4,y10,x,y,ls,rfl,nd,bd,len⟩
  obtain ⟨rfl,hi⟩:=qG hy
  rw [show (0:Int)+(i:Int)=(i:Int) by omega]
  refine⟨_,rfl,_,rfl,_,rfl,_,_,rfl,rfl,ns,a+(i:Int),rfl,hl,by omega,by omega,fun z=>⟨trivial,?_⟩⟩
  have tail:∀ x y:Int,0<=x->x < r->0<=y->y < c->(bV (mM (aX (q2 qP (eY (a6 (a5 8) (a6 (a5 9) a9))) (a5 5))) (aX (mW (cP (fJ (a5 4) (qC (.int 127))) (qC (.int 3))) (qC (.int 0))))) (iK 5 (eY (a6 (a5 8) (a6 (a5 9) a9)))) bZ) { nx:=fun ρ=>∃ (y4 y10:Option Slot) (x y:Int) (ls:List (Int × Int)),ρ = [some (.sh true (.scr ns)),si a,si r,si c,y4,some (.own (.lst (b9 ls))),y6,si m,si x,si y,y10]/\ls.Nodup/\(∀ l ∈ ls,cW r c l=true)/\ls.length<=i+1,rt:=Q } [some (.sh true (.scr ns)),si a,si r,si c,si z,some (.own (.lst (b9 ls))),y6,si m,si x,si y,si (i:Nat)]:=by
   intro x y x0 x1 y0 y1
   refine⟨_,rfl,_,rfl,by show 2<=1000; decide,rfl,_,rfl,[x,y],ls.map two,rfl,by rw [uQ]; rfl,_,rfl,?_⟩
   rw [show decide ([x,y] ∈ ls.map two)=decide ((x,y) ∈ ls) from aB6 (x:=(x,y))]
   by_cases h1:(x,y) ∈ ls
   ·rw [aO4 h1]
    exact b6 (b6 ⟨si z,si (i:Nat),x,y,ls,rfl,nd,bd,by omega⟩)
   ·rw [aO1 h1]
    refine bI ⟨_,rfl,_,_,rfl,rfl,⟨by decide,by decide⟩,_,_,rfl,rfl,(by show (0:Int) < 3; decide),_,_,rfl,rfl,_,rfl,?_⟩
    show if decide (z / 127 % 3 > 0)=true then _ else _
    cases decide (z / 127 % 3 > 0) with
    | false=>exact b6 ⟨si z,si (i:Nat),x,y,ls,rfl,nd,bd,by omega⟩
    | true=>
     refine bI ⟨_,rfl,_,rfl,_,rfl,by show 2<=1000; decide,rfl,trivial,by rw [nR]; omega,si z,si (i:Nat),x,y,ls ++ [(x,y)],?_,List.nodup_append.mpr ⟨nd,aS4 _ _,fun u hu v hv e=>h1 (by rw [aP0.mp hv] at e; rw [<- e]; exact hu)⟩,fun l hl=>?_,by rw [aR3,aS6]; omega⟩
     ·unfold b9
      rw [aQ4]; rfl
     ·rcases aS7.mp hl with h | h
      ·exact bd l h
      ·rw [aP0.mp h]; exact qW.mpr ⟨x0,x1,y0,y1⟩
  refine⟨_,rfl,_,_,rfl,rfl,(by show (0:Int) < 4; decide),.inl ⟨_,_,rfl,rfl,_,rfl,?_⟩⟩
  show if decide (z % 4=0)=true then _ else _
  have em:=fun u:Int=>Int.emod_nonneg u (show r ≠ 0 by omega)
  have el:=fun u:Int=>Int.emod_lt_of_pos u (show 0 < r by omega)
  have fm:=fun u:Int=>Int.emod_nonneg u (show c ≠ 0 by omega)
  have fl:=fun u:Int=>Int.emod_lt_of_pos u (show 0 < c by omega)
  cases decide (z % 4=0) with
  | true=>
   refine bI ⟨_,rfl,_,_,rfl,rfl,⟨by decide,by decide⟩,_,rfl,_,_,rfl,rfl,by omega,trivial,_,rfl,_,_,rfl,rfl,⟨by decide,by decide⟩,_,rfl,_,_,rfl,rfl,by omega,trivial,?_⟩
   exact tail _ _ (em _) (el _) (fm _) (fl _)
  | false=>
   refine b6 ⟨_,rfl,_,rfl,_,_,rfl,rfl,⟨by decide,by decide⟩,_,_,rfl,rfl,(by show (0:Int) < 5; decide),_,_,rfl,rfl,_,_,rfl,rfl,_,rfl,_,_,rfl,rfl,by omega,trivial,_,rfl,_,rfl,_,_,rfl,rfl,⟨by decide,by decide⟩,_,_,rfl,rfl,(by show (0:Int) < 5; decide),_,_,rfl,rfl,_,_,rfl,rfl,_,rfl,_,_,rfl,rfl,by omega,trivial,?_⟩
   exact tail _ _ (em _) (el _) (fm _) (fl _)
 ·rintro ρ ⟨y4,y10,x,y,ls,rfl,nd,bd,len⟩
  rw [jV] at len
  refine⟨_,rfl,ls.map two,by rw [uQ]; rfl,by rw [aO2]; omega,fun r hr=>by obtain ⟨l,_,rfl⟩:=aQ8.mp hr; rfl,fun Z pz so=>?_⟩
  obtain ⟨l2,rfl,pp⟩:=au6 pz
  rw [show ((l2.map two).map fun r=>PV.tup (intz r))=b9 l2 from (uQ _).symm]
  exact⟨⟨_,_,rfl,rfl,kA _,trivial,q l2 ⟨au7 so (pp.nodup_iff.mpr nd),fun l hl=>bd l (pp.mem_iff.mp hl)⟩ (by rw [pp.length_eq]; omega)⟩,fun ns z=>by cases z⟩
end
theorem aB7:cM M9 ["script","at","rows","columns","cell","seeds","place","many","row","column","k"] qZ:=by
 rintro xs Q ⟨ns,a,r,c,rfl,hl,a0,a1,ok,q⟩
 obtain ⟨r1,r2,c1,c2⟩:=id ok
 refine⟨_,rfl,_,rfl,_,ns,a,rfl,.inl rfl,a0,trivial,?_⟩
 generalize ns.getD a.toNat 0=v
 have two:(aG (bF 7 (hG (aC dG (a6 (a5 0) a9)) (a5 1)))
  (aG (bV (aX (iM (a5 7) (qC (.int 1)))) (bF 7 (qC (.int 1))) bZ)
  vC)) { nx:=fun _=>Q .non,rt:=Q } [some (.sh true (.scr ns)),si a,si r,si c,si v,none,none,none,none,none,none]:=by
  refine⟨_,rfl,_,_,rfl,rfl,_,rfl,_,_,rfl,rfl,trivial,?_⟩
  refine⟨_,rfl,_,_,rfl,rfl,_,rfl,?_⟩
  show if decide ((ns.length:Int) - a < 1)=true then _ else _
  by_cases h:(ns.length:Int) - a < 1
  ·rw [aO4 h]
   exact bI ⟨trivial,N0 hl a0 a1 ok (by decide) (by decide) q⟩
  ·rw [aO1 h]
   exact b6 (N0 (m:=(ns.length:Int) - a) hl a0 a1 ok (by omega) (by omega) q)
 have hp:0<=r * c:=Int.mul_nonneg (by omega) (by omega)
 refine⟨_,rfl,_,_,rfl,rfl,(by show (0:Int) < 2; decide),.inl ⟨_,_,rfl,rfl,_,rfl,?_⟩⟩
 show if decide (v % 2=1)=true then _ else _
 cases decide (v % 2=1) with
 | false=>exact b6 (b6 two)
 | true=>
  refine bI ⟨_,rfl,_,rfl,_,_,rfl,rfl,.inl ⟨by omega,by omega⟩,_,_,rfl,rfl,_,rfl,?_⟩
  show if decide (r * c < 101)=true then _ else _
  by_cases h:r * c < 101
  ·rw [aO4 h]
   refine bI ⟨by decide,rfl,rfl,rfl,?_⟩
   refine⟨_,rfl,_,rfl,_,_,rfl,rfl,.inl ⟨by omega,by omega⟩,r * c,rfl,by omega,by omega,fun i ρ=>∃ (v:Int) (y6:Option Slot) (ls:List (Int × Int)),ρ = [some (.sh true (.scr ns)),si a,si r,si c,si v,some (.own (.lst (b9 ls))),y6,none,none,none,none]/\ls.Pairwise fP/\(∀ l ∈ ls,cW r c l=true/\l.1 * c+l.2 < (i:Int))/\ls.length<=i,
    ⟨v,none,[],rfl,.nil,(fun _ h=>nomatch h),aO6 _⟩,?_,?_⟩
   ·rintro i y ρ hy ⟨v,y6,ls,rfl,ord,bd,len⟩
    obtain ⟨rfl,hi⟩:=qG hy
    rw [show (0:Int)+(i:Int)=(i:Int) by omega]
    have im:(i:Int) < r * c:=by omega
    have d1:=Int.mul_ediv_add_emod (i:Int) c
    have d2:=Int.emod_nonneg (i:Int) (show c ≠ 0 by omega)
    have d3:=Int.emod_lt_of_pos (i:Int) (show 0 < c by omega)
    have d4:(i:Int) / c < r:=Int.ediv_lt_of_lt_mul (by omega) im
    have d5:0<=(i:Int) / c:=Int.ediv_nonneg (by omega) (by omega)
    rw [Int.mul_comm] at d1
    refine⟨_,rfl,_,_,rfl,rfl,⟨by decide,by decide⟩,trivial,?_⟩
    refine⟨_,rfl,_,_,rfl,rfl,(by show (0:Int) < 2; decide),.inl ⟨_,_,rfl,rfl,_,rfl,?_⟩⟩
    show if decide (v / 2 % 2=1)=true then _ else _
    cases decide (v / 2 % 2=1) with
    | false=>exact b6 ⟨v / 2,si (i:Nat),ls,rfl,ord,fun l hl=>⟨(bd l hl).1,by have:=(bd l hl).2; omega⟩,by omega⟩
    | true=>
     refine bI ⟨_,rfl,_,rfl,_,rfl,_,_,rfl,rfl,⟨by omega,by omega⟩,_,rfl,_,rfl,_,_,rfl,rfl,by omega,by show 2<=1000; decide,rfl,trivial,by rw [nR]; omega,v / 2,si (i:Nat),ls ++ [((i:Int) / c,(i:Int) % c)],?_,aQ2.mpr ⟨ord,aS4 _ _,fun u hu w hw=>?_⟩,fun l hl=>?_,by rw [aR3,aS6]; omega⟩
     ·unfold b9
      rw [aQ4]; rfl
     ·rw [aP0.mp hw]
      have bu:=bd u hu
      have iu:=qW.mp bu.1
      exact aB5 (by show u.1 * c+u.2 < (i:Int) / c * c+(i:Int) % c; omega) (by omega) d3 c1
     ·rcases aS7.mp hl with h | h
      ·exact⟨(bd l h).1,by have:=(bd l h).2; omega⟩
      ·rw [aP0.mp h]
       exact⟨qW.mpr ⟨d5,d4,d2,d3⟩,by show (i:Int) / c * c+(i:Int) % c < _; omega⟩
   ·rintro ρ ⟨v,y6,ls,rfl,ord,bd,len⟩
    rw [jV] at len
    exact⟨_,rfl,⟨_,_,rfl,rfl,kA _,trivial,q ls ⟨ord,fun l hl=>(bd l hl).1⟩ (by omega)⟩,fun ns z=>by cases z⟩
  ·rw [aO1 h]
   exact b6 two
end Core
namespace L2
open PySem PySem.Spec PyProof.Rows SO
abbrev kn (ns:List Int):List aJ:=ns.map Sum.inl
def gR (h:Heap) (ys:List (List Int)) (v:Value):Prop:=∃ ns ∈ ys,ns ≠ []/\gB h v ns
theorem gB.keep {h h':Heap}{v:Value}{ns:List Int} (z:gB h v ns) (k:∀ b o,h.get? b=some o->h'.get? b=some o):gB h' v ns:=by
 obtain ⟨b,ob,us,n,e1,e2,e3,e4,e5⟩:=z.at_
 exact⟨⟨b,ob,us,n,e1,k _ _ e2,e3,e4,e5⟩⟩
theorem gR.keep {h h':Heap}{ys:List (List Int)}{v:Value} (z:gR h ys v) (k:∀ b o,h.get? b=some o->h'.get? b=some o):gR h' ys v:=by
 obtain ⟨ns,m,ne,z⟩:=z
 exact⟨ns,m,ne,z.keep k⟩
theorem N1 {prog:Program}{w:World}{A:Around}{E:Value->Shared->Prop}{s:Shared} (ys:List (List Int)):SO.c6 prog w A E s (tuples' true) (fun x=>gR s.heap ys x.1) (kE s.heap ys):=by
 rintro x y ⟨ns,m1,_,z⟩ ⟨ms,m2,_,z'⟩ st Q hk hq
 unfold kE at hq
 rw [z.ints,z'.ints,<- K6 m1 m2] at hq
 obtain ⟨b,ob,us,n,e1,e2,e3,e4,e5⟩:=z.at_
 obtain ⟨b',ob',us',n',e1',e2',e3',e4',e5'⟩:=z'.at_
 rw [lt'_eq]
 refine aO5 (wpS_get ?_)
 rw [hk,e1,e1']
 refine aO5 (wpS_lift (wpAny_attempt (PySem.W.kat_lt e2 e4 e2' e4' ?_)))
 have:=t0 (prog:=prog) (w:=w) (A:=A) (s:=s) (Q:=fun a s'=>s'=s/\wpS (model prog w) A E s (pure (some a)) Q st) 0 e5 e5' ⟨rfl,aP3 hq⟩
 simpa using this
theorem aB8 {h:Heap}{ys:List (List Int)}:∀ {vs:List Value},(∀ v ∈ vs,gR h ys v)->∃ fs:List Value,PySem.W.KatTups h vs fs/\fs.length=vs.length/\∀ v ∈ fs,∃ i t,v=Value.int i t:=by
 intro vs
 induction vs with
 | nil=>intro _; exact⟨[],PySem.W.KatTups.nil,rfl,fun _ z=>nomatch z⟩
 | cons v vs ih=>
  intro hh
  obtain ⟨fs,t1,t2,t3⟩:=ih fun y hy=>hh y (aO3 _ hy)
  obtain ⟨ns,_,ne,z⟩:=hh v aO9
  obtain ⟨b,ob,us,n,rfl,e2,e3,e4,e5⟩:=z.at_
  cases e5 with
  | nil=>exact absurd rfl ne
  | cons p t e6=>exact⟨Value.int p t :: fs,PySem.W.KatTups.cons e2 e3 e4 (by simp) t1,by simp [t2],fun v hv=>(aO0.mp hv).elim (fun z=>⟨p,t,z⟩) (t3 v)⟩
theorem N2 {M:Model}{A:Around}{E:Value->Shared->Prop}{s:Shared}{ys:List (List Int)}{vs:List Value}{Q:SortKind->Shared->Prop} (hh:∀ v ∈ vs,gR s.heap ys v) (h2:2<=vs.length) (hQ:Q (tuples' true) s):wpAny M A (keyKind' vs.toArray) Q E s:=by
 obtain ⟨fs,t1,t2,t3⟩:=aB8 hh
 refine PySem.W.kat_kind (T:=.type "int") t1 (by omega) (fun v hv=>?_) (by decide) ?_
 ·obtain ⟨i,t,rfl⟩:=t3 v hv
  exact PySem.W.Looks.now
 ·have eT:(Value.type "int" != Value.type "tuple")=true:=by decide
  rw [eT]; exact hQ
theorem N3 {h:Heap}{ys:List (List Int)}{u v:Value}{p q:List Int} (z:gB h u p) (z':gB h v q) (hp:p ∈ ys) (hq:q ∈ ys) (le:kE h ys (u,u)<=kE h ys (v,v)):HT.aH q p=false:=by
 unfold kE at le
 rw [z.ints,z'.ints] at le
 rw [K6 hq hp]
 exact aO1 (by omega)
theorem aB9 {prog:Program}{w:World}{A:Around}{E:Value->Shared->Prop}{s:Shared}{T:String}{r d:Addr}{n:Nat}{P:Nat->Value->Prop}{OK:Heap->Prop}{Q:Value->Shared->Prop}{ys:List (List Int)} (K:PySem.W.KdlSrc prog w T r d n P OK) (hh:A.handled=none) (hok:OK s.heap) (hn:n<=sizeLine)
  (hI:∀ acc,ItemsOf P acc n->∀ v ∈ acc.toList,gR s.heap ys v)
  (h:∀ h' tk a (acc:Array Value) (out:List Value) e,(∀ b o,s.heap.get? b=some o->h'.get? b=some o)->s.heap.objs.size<=a->h'.get? a=some (seqObj "list" out.toArray e)->ItemsOf P acc n->out.Perm acc.toList->out.Pairwise (fun u v=>∀ p q,p ∈ ys->q ∈ ys->gB s.heap u p->gB s.heap v q->HT.aH q p=false)->Q (.ref a) { s with heap:=h',toks:=tk }) :
  wpAny (model prog w) A (call (.builtin "sorted") [.ref r]) Q E s:=by
 refine Calls.call_function_entry kind_sorted plain_sorted entry_sorted (args_sorted1 _) ?_
 unfold Builtin.«sorted»
 refine aN3 (m:=checkCount "sorted" 1 1 _) (aN8 ?_)
 refine aN3 (Raw.ax2 (s:=s) K hh hok hn fun h' tk acc kp hs it=>?_)
 have hz:acc.toList.length<=sizeLine:=by rw [aS0,it.1]; exact hn
 refine aN3 (wpAny_newList ?_ hz)
 have hoL:(h'.push (seqObj "list" acc.toList.toArray 0)).get? h'.objs.size=some (seqObj "list" acc.toList.toArray 0):=aP1 _ rfl
 show wpAny _ _ _ _ _ { s with heap:=h'.push (seqObj "list" acc.toList.toArray 0),toks:=tk }
 refine aN3 (aV5 (aT6 slot_list_sort ⟨_,hoL,rfl⟩ entry_list_sort ?_ (args_list_sort _)))
 have keepS:∀ out:List Value,∀ b o,s.heap.get? b=some o->(sortedHeap (h'.push (seqObj "list" acc.toList.toArray 0)) h'.objs.size acc.toList out.toArray).get? b=some o:=fun out b o hb=>by
  have lt:=aO8 (kp b o hb)
  rw [sortedHeap_old (aQ6 lt) (by rw [size_push']; exact Nat.lt_succ_of_lt lt)]
  exact aN5 _ (kp b o hb)
 by_cases h2:acc.toList.length < 2
 ·refine yH (s:={ s with heap:=h'.push (seqObj "list" acc.toList.toArray 0),toks:=tk }) hoL h2 ⟨_,rfl,aN8 ⟨_,rfl,?_⟩⟩
  obtain ⟨e,he⟩:=sortedHeap_at (vs:=acc.toList) (out:=acc.toList.toArray) hoL
  refine h _ tk h'.objs.size acc acc.toList e (keepS acc.toList) hs he it (aX8 _) ?_
  match hl:acc.toList,h2 with
  | [],_=>exact aX7
  | [_],_=>exact aS4 _ _
  | _ :: _ :: _,h2=>simp at h2; omega
 ·have kM:∀ b o,s.heap.get? b=some o->(c8 (h'.push (seqObj "list" acc.toList.toArray 0)) h'.objs.size acc.toList).get? b=some o:=fun b o hb=>by
   have lt:=aO8 (kp b o hb)
   exact uJ (aQ6 lt) (aN5 _ (kp b o hb))
  have allp:∀ v ∈ acc.toList,gR (c8 (h'.push (seqObj "list" acc.toList.toArray 0)) h'.objs.size acc.toList) ys v:=fun v hv=>(hI acc it v hv).keep kM
  refine E3 (s:={ s with heap:=h'.push (seqObj "list" acc.toList.toArray 0),toks:=tk }) (κ:=tuples' true) (Ok:=fun x=>gR (c8 (h'.push (seqObj "list" acc.toList.toArray 0)) h'.objs.size acc.toList) ys x.1) (rk:=kE (c8 (h'.push (seqObj "list" acc.toList.toArray 0)) h'.objs.size acc.toList) ys) hoL (by omega) hz (fun Q hQ=>?_)
   (N1 (s:={ s with heap:=c8 (h'.push (seqObj "list" acc.toList.toArray 0)) h'.objs.size acc.toList,toks:=tk }) ys) (fun v hv=>allp v hv) fun out pm so=>⟨_,rfl,aN8 ⟨_,rfl,?_⟩⟩
  ·exact N2 (s:={ s with heap:=c8 (h'.push (seqObj "list" acc.toList.toArray 0)) h'.objs.size acc.toList,toks:=tk }) allp (by omega) hQ
  ·obtain ⟨e,he⟩:=sortedHeap_at (vs:=acc.toList) (out:=out.toArray) hoL
   exact h _ tk h'.objs.size acc out e (keepS out) hs he it pm (so.imp fun {u v} le p q hp hq z z'=>N3 (z.keep kM) (z'.keep kM) hp hq le)
def N4:List V->Hp->VK->Prop:=fun xs H Q=>∃ (a:Addr) (kvs:List (List aJ × V)) (ls:List (List Int)),xs = [.ref a]/\H a=some (.dT kvs)/\kvs.map (·.1)=ls.map kn/\(∀ k ∈ ls,k ≠ [])/\∀ (l:Addr) (zs:List V) (ms:List (List Int)),H l=none->ms.Perm ls->ms.Pairwise (fun u v=>HT.aH v u=false)->Paired (gH H) zs (ms.map kn)->Q (.ref l) (upd H l (.lst zs))
theorem N5 {H:Hp}:∀ {ys:List V}{vs:List Value}{ls:List (List Int)},aK ys vs->Paired (gH H) ys (ls.map kn)->Paired (fun v l=>∃ y,aR y v/\gH H y (kn l)) vs ls
 | _,_,[],.nil,_=>.nil
 | _,_,[],.cons _ _,p=>nomatch p
 | _,_,l :: ls,.cons r t,.cons k p=>.cons ⟨_,r,k⟩ (N5 t p)
theorem N6 {H:Hp}:∀ {vs:List Value}{ls:List (List Int)},Paired (fun v l=>∃ y,aR y v/\gH H y (kn l)) vs ls->∃ ys:List V,aK ys vs/\Paired (gH H) ys (ls.map kn)
 | _,_,.nil=>⟨[],.nil,.nil⟩
 | _,_,.cons ⟨y,r,k⟩ p=>by
  obtain ⟨ys,t,q⟩:=N6 p
  exact⟨y :: ys,.cons r t,.cons k q⟩
theorem N7 (l:List Int):(kn l).map kV=l.map V.int:=by unfold kn; rw [aR7]; rfl
theorem aC0 {X:Cx} (hc:X.calm=true):cG X (.builtin "sorted") N4:=by
 intro pins s σ H xs us Q I r h
 obtain ⟨a,kvs,ls,rfl,ha,hk,hne,q⟩:=h
 obtain ⟨u,rfl,ru⟩:=gV r
 cases ru
 obtain ⟨es,ep,ys,rd,far,pk,vk,z⟩:=yK I ha
 rw [hk] at pk
 have hl:=vk.length
 have hl2:=pk.length
 have hl3:=congrArg List.length hk
 rw [aO2] at hl hl2 hl3
 rw [aO2] at hl3
 have hsz:es.toList.length=es.size:=aS0
 have pv:∀ {y:V}{v:Value}{l:List Int},aR y v->gH H y (kn l)->gB s.heap v l:=fun {y v l} ry ka=>by
  obtain ⟨b,rfl,hb⟩:=ka
  cases ry
  rw [N7] at hb
  obtain ⟨us,ru,⟨ob,e1,c1,n1,d1⟩,_⟩:=I.tuple (show aL X.K H b (l.map V.int) from aL.of hb)
  exact⟨⟨b,ob,us,n1,rfl,e1,c1,d1,iD ru⟩⟩
 have jt:=N5 vk pk
 refine aB9 (ys:=ls) (Raw.yJ far) (I.ok.hd hc) rd (by omega) (fun acc it v hv=>?_) fun h' tk l acc out e kp hn he it pm so=>?_
 ·rw [t5 it] at hv
  obtain ⟨m,hm,y,ry,ka⟩:=M4 jt v hv
  exact⟨m,hm,hne m hm,pv ry ka⟩
 ·rw [t5 it] at pm
  obtain ⟨ms,pms,jo⟩:=aB2 pm.symm jt
  obtain ⟨zs,vz,pz⟩:=N6 jo
  have lz:=vz.length
  have lo:=pm.length_eq
  rw [aO2] at lo
  refine⟨.ref l,upd H l (.lst zs),I.laid (t':=tk) kp hn ⟨by omega,out,e,vz,he⟩,rfl,q l zs ms (I.hok.fresh hn) pms ?_ pz⟩
  exact M5 jo so fun u v a b ha hb ⟨y,ry,ka⟩ ⟨y',ry',kb⟩ le=>le _ _ (pms.mem_iff.mp ha) (pms.mem_iff.mp hb) (pv ry ka) (pv ry' kb)
def N8 (K:PySem.W.Frag):List V->Hp->VK->Prop:=fun xs H Q=>∃ (a:Addr) (ys:List V) (key:V->List Int),xs = [.ref a]/\aM K H a ys/\ys.length<=4096/\(∀ y ∈ ys,∃ b,y = .ref b/\aL K H b ((key y).map V.int)/\key y ≠ [])/\
 ∀ l (zs:List V),H l=none->zs.Perm ys->zs.Pairwise (fun u v=>HT.aH (key v) (key u)=false)->Q (.ref l) (upd H l (.lst zs))
theorem aC1 {X:Cx}:cG X (.builtin "sorted") (N8 X.K):=by
 intro pins s σ H xs us Q I r h
 obtain ⟨a,ys,key,rfl,hs,hz4,hk,q⟩:=h
 obtain ⟨u,rfl,ru⟩:=gV r
 cases ru
 obtain ⟨its,rv,p,hz⟩:=I.list hs
 have hl:=rv.length
 have hn:s.heap.objs.size<=s.heap.objs.size+1:=Nat.le_succ _
 by_cases h2:its.length < 2
 ·refine yI p.isList h2 ?_
  obtain ⟨e,he⟩:=sortedAll_at s.heap its its.toArray
  refine⟨.ref (s.heap.objs.size+1),upd H (s.heap.objs.size+1) (.lst ys),I.laid (t':=s.toks) (fun _ _=>sortedAll_old) hn ⟨hz,its,e,rv,he⟩,rfl,q _ ys (I.hok.fresh hn) (aX8 _) ?_⟩
  match ys,hl with
  | [],_=>exact aX7
  | [_],_=>exact aS4 _ _
  | _ :: _ :: _,hl=>simp at hl; omega
 ·have pv:∀ {y:V}{v:Value},aR y v->y ∈ ys->gB (c8 (cZ s.heap its) (s.heap.objs.size+1) its) v (key y):=fun {y v} ry hy=>by
   obtain ⟨b,rfl,sq,_⟩:=hk y hy
   cases ry
   obtain ⟨us,ru,⟨ob,e1,c1,n1,d1⟩,_⟩:=I.tuple sq
   exact⟨b,ob,us,n1,rfl,uJ (aQ6 (Nat.lt_succ_of_lt (aO8 e1))) (E2 e1),c1,d1,iD ru⟩
  have pvs:∀ {xs:List V}{vs:List Value},aK xs vs->(∀ y ∈ xs,y ∈ ys)->∀ v ∈ vs,gR (c8 (cZ s.heap its) (s.heap.objs.size+1) its) (ys.map key) v:=by
   intro xs vs r
   induction r with
   | nil=>intro _ v hv; cases hv
   | cons rx rt ih=>
    intro hh v hv
    rcases aO0.mp hv with z | z
    ·subst z
     obtain ⟨_,_,_,ne⟩:=hk _ (hh _ aO9)
     exact⟨_,aQ8.mpr ⟨_,hh _ aO9,rfl⟩,ne,pv rx (hh _ aO9)⟩
    ·exact ih (fun y hy=>hh y (aO3 _ hy)) v z
  have allp:=pvs rv fun _ h=>h
  refine E4 (κ:=tuples' true) (Ok:=fun x=>gR (c8 (cZ s.heap its) (s.heap.objs.size+1) its) (ys.map key) x.1) (rk:=kE (c8 (cZ s.heap its) (s.heap.objs.size+1) its) (ys.map key)) p.isList (by omega) (by rw [<- hl]; exact hz)
   (fun A E Q hQ=>N2 (s:={ s with heap:=c8 (cZ s.heap its) (s.heap.objs.size+1) its }) allp (by omega) hQ) (fun A E=>N1 (s:={ s with heap:=c8 (cZ s.heap its) (s.heap.objs.size+1) its }) (ys.map key)) (fun v hv=>allp v hv) fun out pm so=>?_
  obtain ⟨zs,pz,rz⟩:=E6 pm.symm rv
  obtain ⟨e,he⟩:=sortedAll_at s.heap its out.toArray
  refine⟨.ref (s.heap.objs.size+1),upd H (s.heap.objs.size+1) (.lst zs),I.laid (t':=s.toks) (fun _ _=>sortedAll_old) hn ⟨by rw [pz.length_eq]; exact hz,out,e,rz,he⟩,rfl,q _ zs (I.hok.fresh hn) pz ?_⟩
  have lz:=rz.length
  rw [aR6]
  intro i j hi hj hij
  have s1:=aR6.mp so i j (by omega) (by omega) hij
  have gi:=mK i hi rz
  have gj:=mK j hj rz
  simp only [aP6,aN6 hi,aN6 hj,aN6 (show i < out.length by omega),aN6 (show j < out.length by omega),Option.getD_some] at gi gj
  have mi:=pz.mem_iff.mp (aV6 hi)
  have mj:=pz.mem_iff.mp (aV6 hj)
  exact N3 (pv gi mi) (pv gj mj) (aQ8.mpr ⟨_,mi,rfl⟩) (aQ8.mpr ⟨_,mj,rfl⟩) s1
end L2
namespace PP
open PySem L2
section
variable {X : Cx} {e : Expr} {tr : cJ} {pos p2 : Pos}
abbrev eN (rs:List (List Int)):List PV:=rs.map fun r=>PV.tup (intz r)
def vD:List PV->(PV->Prop)->Prop:=fun xs Q=>∃ (ps:List (List aJ × PV)) (ls:List (List Int)),xs = [.dT ps]/\ps.map (·.1)=ls.map kn/\(∀ k ∈ ls,k ≠ [])/\∀ ms:List (List Int),ms.Perm ls->ms.Pairwise (fun u v=>HT.aH v u=false)->Q (.lst (eN ms))
theorem N9 {K:PySem.W.Frag}{M:Addr->Prop}{H:Hp}:∀ {zs:List V}{ms:List (List Int)},Paired (gH H) zs (ms.map kn)->Reps K M H zs (eN ms)
 | _,[],.nil=>.nil
 | _,l :: ms,.cons ⟨q,e,h⟩ p=>by
  subst e
  rw [N7] at h
  exact .cons (.tup h (Reps.intz l)) (N9 p)
theorem aC2:dR X vD N4:=by
 rintro H vs xs Q Q' r ⟨ps,ls,rfl,e,hne,q⟩ k
 obtain ⟨v,rfl,r1⟩:=r.one
 cases r1 with
 | @dT a kvs _ m h e2 r2=>
  exact⟨a,kvs,ls,rfl,h,e2.trans e,hne,fun l zs ms hl' p o pz=>k _ _ _ (bY hl' _) (.lst hl' c9 ((N9 pz).same (bY hl' _) fun _ z=>z)) (q ms p o)⟩
theorem aC3 (B:Bt X.mg) (hc:X.calm=true) (ha:QA X [e] tr) (hg:Gl X "sorted":=by rfl) (he:starEach [e] X.env=(false,eval e X.env) :: starEach [] X.env:=by rfl) (hpl:(backTo pos (starEach [] X.env)).any (·.1)=false:=by rfl):QE X (.Call (.Name "sorted" p2) [e] [] pos) (aC vD tr):=
 hU (aC0 hc) aC2 hg B.sorted PyProof.Rows.boot_sorted ha (he:=he) (hpl:=hpl)
def nZ:List PV->(PV->Prop)->Prop:=fun xs Q=>∃ ys:List (List Int),xs = [.lst (eN ys)]/\ys.length<=4096/\(∀ y ∈ ys,y ≠ [])/\∀ zs:List (List Int),zs.Perm ys->zs.Pairwise (fun u v=>HT.aH v u=false)->Q (.lst (eN zs))
theorem aC4:dR X nZ (N8 X.K):=by
 rintro H vs xs Q Q' r ⟨ys,rfl,hl,hne,q⟩ k
 obtain ⟨v,rfl,r1⟩:=r.one
 obtain ⟨a,us,rfl,_,h,r2⟩:=r1.sqL
 obtain ⟨h1,h2⟩:=uO r2
 have lr:=r2.length
 rw [aO2] at lr
 refine⟨a,us,iT H,rfl,aM.of h,by omega,fun y hy=>?_,fun l zs hl' pm so=>?_⟩
 ·obtain ⟨b,rfl,hb⟩:=h2 y hy
  refine⟨b,rfl,aL.of hb,hne _ ?_⟩
  rw [<- h1]; exact aQ8.mpr ⟨_,hy,rfl⟩
 ·have hz:∀ u ∈ zs,∃ b,u = .ref b/\H b=some (.tup ((iT H u).map V.int)):=fun u hu=>h2 u (pm.mem_iff.mp hu)
  refine k _ _ _ (bY hl' _) (.lst hl' c9 ((uP hz).same (bY hl' _) fun _ z=>z)) (q _ ?_ ?_)
  ·rw [<- h1]; exact pm.map _
  ·rw [aT1]; exact so
theorem vE (B:Bt X.mg) (ha:QA X [e] tr) (hg:Gl X "sorted":=by rfl) (he:starEach [e] X.env=(false,eval e X.env) :: starEach [] X.env:=by rfl) (hpl:(backTo pos (starEach [] X.env)).any (·.1)=false:=by rfl):QE X (.Call (.Name "sorted" p2) [e] [] pos) (aC nZ tr):=
 hU aC1 aC4 hg B.sorted PyProof.Rows.boot_sorted ha (he:=he) (hpl:=hpl)
end
end PP
namespace HT
open PySem PyProof.Rows
section
open PySem.SeqAt
open PySem.MeetsSeq PySem.MeetsSeq2 PySem.MeetsSeq3
theorem aC5 (A:Around) (s:Shared) (a:Int) (t:Tok) (c:Int) (u:Tok) (prog:Program) (w:World) (E:Value->Shared->Prop) (Q:Value->Shared->Prop) (h:Q (.bool (decide (c < a))) s) :
  wpAny (model prog w) A (richCompare .Gt (.int a t) (.int c u)) Q E s:=
 (PyProof.Rows.gt_int h:wpAny (model prog w) A (compareOp .Gt (.int a t) (.int c u)) Q E s)
theorem aC6 (l b:Addr) (items items2:Array Value) (n n2:Nat) (dd dd2:Option Addr) (sl sl2:Array (Option Value)) (ns ms:List Int) (hi:IntsAre items.toList ns) (hj:IntsAre items2.toList ms) :
  Meets (Builtin.«tuple.__gt__» ⟨[.ref l,.ref b],[]⟩)
   (fun _ R s=>s.heap.get? l=some { cls:=.type "tuple",dict:=dd,data:=.seq items n,slots:=sl }/\s.heap.get? b=some { cls:=.type "tuple",dict:=dd2,data:=.seq items2 n2,slots:=sl2 }/\
    R (.ok (.ret (.bool (aH ms ns)))) s):=
 .of_wp fun prog w A R s h=>by
  obtain ⟨hp,g,d,tk,os⟩:=s; obtain ⟨hl,hb,h⟩:=h
  have f2:=AutoSeq1.sub_tuple_tuple
  have z1:items.size=ns.length:=by rw [<- hi.length]; simp
  have z2:items2.size=ms.length:=by rw [<- hj.length]; simp
  wp_walk using aW6 hl,aW6 hb,wpAny_forIn_list _ (fun cB b s'=>b.1=none/\s'=⟨hp,g,d,tk,os⟩/\∃ (vs ws:List Value) (ns' ms':List Int),cB=vs.zip ws/\
   IntsAre vs ns'/\IntsAre ws ms'/\ns'.length+items2.size=ms'.length+items.size/\R (.ok (.ret (.bool (aH ms' ns')))) ⟨hp,g,d,tk,os⟩) _
  case turn=>
   rintro ⟨y,x⟩ cB b s' ⟨hb',rfl,vs,ws,ns',ms',hz,hvi,hwi,hlen,hR⟩
   cases hvi with
   | nil=>rw [List.zip_nil_left] at hz; cases hz
   | cons a t hvi'=>
    cases hwi with
    | nil=>rw [List.zip_nil_right] at hz; cases hz
    | cons c u hwi'=>
     rw [aU1] at hz
     injection hz with hyx hrest
     injection hyx with hy hx
     subst hy hx
     rw [fU] at hR
     simp only [aR9] at hlen
     obtain ⟨e,he,hiff⟩:=x9 A.in1 ⟨hp,g,d,tk,os⟩ a t c u
     refine aN3 (he prog w _ _ ?_)
     cases e with
     | true=>
      rw [if_pos (hiff.mp rfl).symm] at hR
      wp_walk
      exact⟨rfl,rfl,_,_,_,_,hrest,hvi',hwi',by omega,hR⟩
     | false=>
      rw [if_neg (fun q=>absurd (hiff.mpr (Eq.symm q)) aP9)] at hR
      have hri:=aC5 A.in1 ⟨hp,g,d,tk,os⟩ a t c u prog w
      wp_walk using hri
      exact⟨_,rfl,by simpa using hR⟩
  case fin=>
   rintro ⟨b1,b2⟩ s' ⟨hb',rfl,vs,ws,ns',ms',hz,hvi,hwi,hlen,hR⟩
   simp only at hb'
   subst hb'
   have hv:aH ms' ns'=decide (items.size > items2.size):=by
    cases hvi with
    | nil=>
     cases hwi with
     | nil=>
      simp only [bc0] at hlen
      rw [oI]
      exact (aO1 (by omega)).symm
     | cons c u hw=>
      simp only [bc0,aR9] at hlen
      rw [x8]
      exact (aO1 (by omega)).symm
    | cons a t hv=>
     cases hwi with
     | nil=>
      simp only [bc0,aR9] at hlen
      rw [x6]
      exact (aO4 (by omega)).symm
     | cons c u hw=>
      rw [aU1] at hz
      cases hz
   rw [hv] at hR
   wp_walk
   exact⟨_,rfl,by simpa [Builtin.Tuple.tupleCompareSizes] using hR⟩
  case h=>
   exact⟨rfl,rfl,items.toList,items2.toList,ns,ms,rfl,hi,hj,by omega,h⟩
end
section
variable {prog : Program} {w : World} {A : Around} {E : Value → Shared → Prop} {s : Shared}
theorem aC7 {l b:Addr}{items items2:Array Value}{ns ms:List Int}{Q:Value->Shared->Prop} (hl:IsTup s.heap l items) (hb:IsTup s.heap b items2) (hi:IntsAre items.toList ns) (hj:IntsAre items2.toList ms)
  (hu:A.units < cLine) (h:Q (.bool (aH ms ns)) s):wpAny (model prog w) A (richCompare .Gt (.ref l) (.ref b)) Q E s:=by
 obtain ⟨⟨cls,dd,data,sl⟩,ho,hc,n,hd⟩:=id hl
 obtain ⟨⟨cls2,dd2,data2,sl2⟩,ho2,hc2,n2,hd2⟩:=id hb
 simp only at hc hd hc2 hd2
 subst hc hd hc2 hd2
 exact richCompare_meets_room (op:=.Gt) ⟨_,ho,rfl⟩ ⟨_,ho2,rfl⟩ PySem.F.slot_tuple_gt PySem.F.entry_tuple_gt (PySem.F.args_tuple_gt_2 _ _) (aC6 l b items items2 n n2 dd dd2 sl sl2 ns ms hi hj)
  ⟨ho,ho2,show Value.bool (aH ms ns) ≠ Value.notImplemented/\Q (.bool (aH ms ns)) s from ⟨(fun x=>nomatch x),h⟩⟩ hu
end
end HT
namespace L2
open PySem PySem.Spec PyProof.Rows PP
section
variable {prog : Program} {w : World} {A : Around} {R : Result → Shared → Prop} {I S : Addr} {n : Nat} {s0 : Shared} {a b : Value} {lt : Bool} {fp : List Addr} {P : Nat → Value → Prop} {St : Nat → Heap → Prop}
theorem aC8 (W:Walks prog w A.in1 I fp [I] 2 P St) (p0:∀ v,P 0 v->v=a) (p1:∀ v,P 1 v->v=b) (sI:S ≠ I) (sf:S ∉ fp) (fI:s0.heap.get? I=none) (fS:s0.heap.get? S=none)
  (ask:∀ (h:Heap) (k:Nat) (Q E:Value->Shared->Prop),cV s0.heap h->Q (.bool lt) (at_ s0 h k)->wpAny (model prog w) A.in1 (richCompare .Lt b a) Q E (at_ s0 h k))
  (fin:∀ h k,cV s0.heap h->R (.ok (.ret (if lt=true then b else a))) (at_ s0 h k)) {h:Heap}{k c:Nat} (old:cV s0.heap h) (st:St 0 h)
  (hS:h.get? S=some { cls:=.type "list",dict:=none,data:=.seq #[] c,slots:=#[] }):codeAny (model prog w) A (.builtin "min.loop" ⟨[.ref I,.none,.ref S],[]⟩) R (at_ s0 h k):=by
 have nm:(toString "min" ++ toString ".loop" : String)="min.loop":=by decide
 have nS:S ∉ [I]:=fun z=>sI (aP0.mp z)
 have put:∀ {h h':Heap},cV s0.heap h->(∀ b o,b ∉ [I]->h.get? b=some o->h'.get? b=some o)->cV s0.heap h':=fun {h h'} o1 o2 b o e=>o2 b o (fun z=>by rw [aP0.mp z,fI] at e; cases e) (o1 b o e)
 have put2:∀ {h:Heap}{f:Obj->Obj},cV s0.heap h->cV s0.heap (h.update S f):=fun {h f} o1 b o e=>(ba6 _ _ (fun z:S=b=>by rw [<- z,fS] at e; cases e)).trans (o1 b o e)
 have last:∀ (h:Heap) (k c:Nat),cV s0.heap h->St 2 h->h.get? S=some { cls:=.type "list",dict:=none,data:=.seq #[if lt=true then b else a,if lt=true then b else a] c,slots:=#[] }->codeAny (model prog w) A (.builtin "min.loop" ⟨[.ref I,.none,.ref S],[]⟩) R (at_ s0 h k):=fun h k c old st hS=>by
  refine aY0 PySem.F.entry_min_loop ?_
  rw [aT9 aX4]
  refine aN3 (aU9 hS rfl ?_)
  refine aN3 (bb5 (W.done _ _ _ st fun h2 k2 o2=>?_))
  exact aN3 (bc1 (o2 S _ nS hS) rfl (aN3 (aY9 (aN8 (fin _ k2 (put2 (put old o2)))))))
 have fr:∀ {h:Heap}{f:Obj->Obj}{j:Nat},St j h->St j (h.update S f):=fun {h f j} st=>W.frame _ _ _ st fun b hb o e=>(ba6 _ _ (fun z:S=b=>sf (by rw [z]; exact hb))).trans e
 refine aY0 PySem.F.entry_min_loop ?_
 rw [aT9 aX4]
 refine aN3 (aU9 hS rfl ?_)
 refine aN3 (bb5 (W.item 0 _ _ _ (by decide) st fun v h2 k2 hv st2 o2=>?_))
 obtain rfl:=p0 v hv
 have hS2:=o2 S _ nS hS
 refine aN3 (aN8 ?_)
 refine aN3 (m:=updateSeq _ (fun _=>#[v,v])) (bc1 hS2 rfl ?_)
 rw [nm]
 refine aN8 ⟨aY4 aX4 _,aY0 PySem.F.entry_min_loop ?_⟩
 rw [aT9 aX4]
 have hS3:(h2.update S (Obj.mapSeq fun _=>#[v,v])).get? S=some (Obj.mapSeq (fun _=>#[v,v]) { cls:=.type "list",dict:=none,data:=.seq #[] c,slots:=#[] }):=aW1 _ hS2 rfl
 refine aN3 (aU9 hS3 rfl ?_)
 refine aN3 (bb5 (W.item 1 _ _ _ (by decide) (fr st2) fun u h4 k4 hu st4 o4=>?_))
 obtain rfl:=p1 u hu
 have hS4:=o4 S _ nS hS3
 have old4:=put (put2 (f:=Obj.mapSeq fun _=>#[v,v]) (put old o2)) o4
 refine aN3 (aN8 ?_)
 refine aN3 (m:=tryCatch (holding [u,u] (richCompare .Lt u v >>= _)) _) (bb5 (aV5 (aN3 (ask h4 k4 _ _ old4 ?_))))
 refine aN3 (aV5 (aY5 (aN3 (aY9 (aN8 ?_)))))
 cases lt with
 | false=>
  simp only [aQ1,aV0]
  refine aN3 (aY9 ?_)
  rw [nm]
  exact aN8 ⟨aY4 aX4 _,last h4 k4 _ old4 st4 hS4⟩
 | true=>
  simp only [if_true]
  refine aN3 (bc1 hS4 rfl (aN3 (aY9 ?_)))
  rw [nm]
  exact aN8 ⟨aY4 aX4 _,last _ k4 _ (put2 old4) (fr st4) (aW1 _ hS4 rfl)⟩
theorem aC9 {Q E:Value->Shared->Prop} (hh:A.in1.handled=none)
  (ask:∀ (h:Heap) (k:Nat) (Q E:Value->Shared->Prop),cV s0.heap h->Q (.bool lt) (at_ s0 h k)->wpAny (model prog w) A.in1 (richCompare .Lt b a) Q E (at_ s0 h k))
  (fin:∀ h k,cV s0.heap h->Q (if lt=true then b else a) (at_ s0 h k)):wpAny (model prog w) A (call (.builtin "min") [a,b]) Q E s0:=by
 have nm:(toString "min" ++ toString ".loop" : String)="min.loop":=by decide
 refine call_function_tree PySem.F.kind_min PySem.F.plain_min PySem.F.entry_min (PySem.F.args_min2 _ _) ?_
 refine aN3 (wpAny_of_eq (show Builtin.Builtins.bindParams "min" ["key","default"] 0 ⟨[],[]⟩=pure [none,none] from rfl) ?_)
 show wpAny _ A.in1 (newTuple [a,b] >>= _) _ _ _
 refine aN3 (aR8 ?_)
 have hT:(s0.heap.push { cls:=.type "tuple",data:=.seq #[a,b] }).IsTuple s0.heap.objs.size #[a,b]:=⟨_,aP1 _ rfl,rfl,0,rfl⟩
 have z1:(s0.heap.push { cls:=.type "tuple",data:=.seq #[a,b] }).objs.size=s0.heap.objs.size+1:=aU8 ..
 refine aN3 (aZ5 hT ?_)
 refine aN3 (aR8 ?_)
 rw [nm]
 have z2:((s0.heap.push { cls:=.type "tuple",data:=.seq #[a,b] }).push { cls:=.type "tuple_iterator",data:=.fields #[.ref s0.heap.objs.size,.int 0 0] }).objs.size=s0.heap.objs.size+2:=by rw [aU8,z1]
 have ne:s0.heap.objs.size ≠ (s0.heap.push { cls:=.type "tuple",data:=.seq #[a,b] }).objs.size:=by omega
 refine aN8 ⟨aY4 aX4 _,aC8 (lt:=lt) (Walks.tuple (A:=A.in1) hh _ s0.heap.objs.size ne #[a,b]) (fun v hv=>?_) (fun v hv=>?_) (fun z=>?_) (fun z=>?_) (qQ (aQ7 (Nat.le_succ _) (Nat.le_of_eq z1.symm))) (qQ (aQ7 (aX2 _ 2) (Nat.le_of_eq z2.symm))) ask fin (fun b o e=>aN5 _ (aN5 _ (aN5 _ e)))
  ⟨⟨_,aN5 _ (aP1 _ rfl),rfl,rfl⟩,(hT.push _).push _⟩ (aP1 _ rfl)⟩
 ·exact (aQ0 (show some a=some v from hv)).symm
 ·exact (aQ0 (show some b=some v from hv)).symm
 ·have z:=z2.symm.trans (z.trans z1)
  omega
 ·rcases aO0.mp z with z | z
  ·have z:=z2.symm.trans (z.trans z1)
   omega
  ·have z:=z2.symm.trans (aP0.mp z)
   omega
end
section
variable {prog : Program} {w : World} {A : Around} {R : Result → Shared → Prop} {I S : Addr} {n : Nat} {s0 : Shared} {a b : Value} {lt : Bool} {fp : List Addr} {P : Nat → Value → Prop} {St : Nat → Heap → Prop}
theorem aD0 (W:Walks prog w A.in1 I fp [I] 2 P St) (p0:∀ v,P 0 v->v=a) (p1:∀ v,P 1 v->v=b) (sI:S ≠ I) (sf:S ∉ fp) (fI:s0.heap.get? I=none) (fS:s0.heap.get? S=none)
  (ask:∀ (h:Heap) (k:Nat) (Q E:Value->Shared->Prop),cV s0.heap h->Q (.bool lt) (at_ s0 h k)->wpAny (model prog w) A.in1 (richCompare .Gt b a) Q E (at_ s0 h k))
  (fin:∀ h k,cV s0.heap h->R (.ok (.ret (if lt=true then b else a))) (at_ s0 h k)) {h:Heap}{k c:Nat} (old:cV s0.heap h) (st:St 0 h)
  (hS:h.get? S=some { cls:=.type "list",dict:=none,data:=.seq #[] c,slots:=#[] }):codeAny (model prog w) A (.builtin "max.loop" ⟨[.ref I,.none,.ref S],[]⟩) R (at_ s0 h k):=by
 have nm:(toString "max" ++ toString ".loop" : String)="max.loop":=by decide
 have nS:S ∉ [I]:=fun z=>sI (aP0.mp z)
 have put:∀ {h h':Heap},cV s0.heap h->(∀ b o,b ∉ [I]->h.get? b=some o->h'.get? b=some o)->cV s0.heap h':=fun {h h'} o1 o2 b o e=>o2 b o (fun z=>by rw [aP0.mp z,fI] at e; cases e) (o1 b o e)
 have put2:∀ {h:Heap}{f:Obj->Obj},cV s0.heap h->cV s0.heap (h.update S f):=fun {h f} o1 b o e=>(ba6 _ _ (fun z:S=b=>by rw [<- z,fS] at e; cases e)).trans (o1 b o e)
 have last:∀ (h:Heap) (k c:Nat),cV s0.heap h->St 2 h->h.get? S=some { cls:=.type "list",dict:=none,data:=.seq #[if lt=true then b else a,if lt=true then b else a] c,slots:=#[] }->codeAny (model prog w) A (.builtin "max.loop" ⟨[.ref I,.none,.ref S],[]⟩) R (at_ s0 h k):=fun h k c old st hS=>by
  refine aY0 PySem.F.entry_max_loop ?_
  rw [aT9 aX5]
  refine aN3 (aU9 hS rfl ?_)
  refine aN3 (bb5 (W.done _ _ _ st fun h2 k2 o2=>?_))
  exact aN3 (bc1 (o2 S _ nS hS) rfl (aN3 (aY9 (aN8 (fin _ k2 (put2 (put old o2)))))))
 have fr:∀ {h:Heap}{f:Obj->Obj}{j:Nat},St j h->St j (h.update S f):=fun {h f j} st=>W.frame _ _ _ st fun b hb o e=>(ba6 _ _ (fun z:S=b=>sf (by rw [z]; exact hb))).trans e
 refine aY0 PySem.F.entry_max_loop ?_
 rw [aT9 aX5]
 refine aN3 (aU9 hS rfl ?_)
 refine aN3 (bb5 (W.item 0 _ _ _ (by decide) st fun v h2 k2 hv st2 o2=>?_))
 obtain rfl:=p0 v hv
 have hS2:=o2 S _ nS hS
 refine aN3 (aN8 ?_)
 refine aN3 (m:=updateSeq _ (fun _=>#[v,v])) (bc1 hS2 rfl ?_)
 rw [nm]
 refine aN8 ⟨aY4 aX5 _,aY0 PySem.F.entry_max_loop ?_⟩
 rw [aT9 aX5]
 have hS3:(h2.update S (Obj.mapSeq fun _=>#[v,v])).get? S=some (Obj.mapSeq (fun _=>#[v,v]) { cls:=.type "list",dict:=none,data:=.seq #[] c,slots:=#[] }):=aW1 _ hS2 rfl
 refine aN3 (aU9 hS3 rfl ?_)
 refine aN3 (bb5 (W.item 1 _ _ _ (by decide) (fr st2) fun u h4 k4 hu st4 o4=>?_))
 obtain rfl:=p1 u hu
 have hS4:=o4 S _ nS hS3
 have old4:=put (put2 (f:=Obj.mapSeq fun _=>#[v,v]) (put old o2)) o4
 refine aN3 (aN8 ?_)
 refine aN3 (m:=tryCatch (holding [u,u] (richCompare .Gt u v >>= _)) _) (bb5 (aV5 (aN3 (ask h4 k4 _ _ old4 ?_))))
 refine aN3 (aV5 (aY5 (aN3 (aY9 (aN8 ?_)))))
 cases lt with
 | false=>
  simp only [aQ1,aV0]
  refine aN3 (aY9 ?_)
  rw [nm]
  exact aN8 ⟨aY4 aX5 _,last h4 k4 _ old4 st4 hS4⟩
 | true=>
  simp only [if_true]
  refine aN3 (bc1 hS4 rfl (aN3 (aY9 ?_)))
  rw [nm]
  exact aN8 ⟨aY4 aX5 _,last _ k4 _ (put2 old4) (fr st4) (aW1 _ hS4 rfl)⟩
theorem aD1 {Q E:Value->Shared->Prop} (hh:A.in1.handled=none)
  (ask:∀ (h:Heap) (k:Nat) (Q E:Value->Shared->Prop),cV s0.heap h->Q (.bool lt) (at_ s0 h k)->wpAny (model prog w) A.in1 (richCompare .Gt b a) Q E (at_ s0 h k))
  (fin:∀ h k,cV s0.heap h->Q (if lt=true then b else a) (at_ s0 h k)):wpAny (model prog w) A (call (.builtin "max") [a,b]) Q E s0:=by
 have nm:(toString "max" ++ toString ".loop" : String)="max.loop":=by decide
 refine call_function_tree PySem.F.kind_max PySem.F.plain_max PySem.F.entry_max (PySem.F.args_max2 _ _) ?_
 refine aN3 (wpAny_of_eq (show Builtin.Builtins.bindParams "max" ["key","default"] 0 ⟨[],[]⟩=pure [none,none] from rfl) ?_)
 show wpAny _ A.in1 (newTuple [a,b] >>= _) _ _ _
 refine aN3 (aR8 ?_)
 have hT:(s0.heap.push { cls:=.type "tuple",data:=.seq #[a,b] }).IsTuple s0.heap.objs.size #[a,b]:=⟨_,aP1 _ rfl,rfl,0,rfl⟩
 have z1:(s0.heap.push { cls:=.type "tuple",data:=.seq #[a,b] }).objs.size=s0.heap.objs.size+1:=aU8 ..
 refine aN3 (aZ5 hT ?_)
 refine aN3 (aR8 ?_)
 rw [nm]
 have z2:((s0.heap.push { cls:=.type "tuple",data:=.seq #[a,b] }).push { cls:=.type "tuple_iterator",data:=.fields #[.ref s0.heap.objs.size,.int 0 0] }).objs.size=s0.heap.objs.size+2:=by rw [aU8,z1]
 have ne:s0.heap.objs.size ≠ (s0.heap.push { cls:=.type "tuple",data:=.seq #[a,b] }).objs.size:=by omega
 refine aN8 ⟨aY4 aX5 _,aD0 (lt:=lt) (Walks.tuple (A:=A.in1) hh _ s0.heap.objs.size ne #[a,b]) (fun v hv=>?_) (fun v hv=>?_) (fun z=>?_) (fun z=>?_) (qQ (aQ7 (Nat.le_succ _) (Nat.le_of_eq z1.symm))) (qQ (aQ7 (aX2 _ 2) (Nat.le_of_eq z2.symm))) ask fin (fun b o e=>aN5 _ (aN5 _ (aN5 _ e)))
  ⟨⟨_,aN5 _ (aP1 _ rfl),rfl,rfl⟩,(hT.push _).push _⟩ (aP1 _ rfl)⟩
 ·exact (aQ0 (show some a=some v from hv)).symm
 ·exact (aQ0 (show some b=some v from hv)).symm
 ·have z:=z2.symm.trans (z.trans z1)
  omega
 ·rcases aO0.mp z with z | z
  ·have z:=z2.symm.trans (z.trans z1)
   omega
  ·have z:=z2.symm.trans (aP0.mp z)
   omega
end
section
variable {X : Cx}
theorem aD2 (hc:X.calm=true) (hu:X.A.units+3 < cLine):cG X (.builtin "min") (fun xs H Q=>∃ a b ns ms,xs = [.ref a,.ref b]/\H a=some (.tup (ns.map V.int))/\H b=some (.tup (ms.map V.int))/\Q (if HT.aH ms ns=true then .ref b else .ref a) H):=by
 intro pins s σ H xs us Q I r h
 obtain ⟨a,b,ns,ms,rfl,ha,hb,q⟩:=h
 obtain ⟨u,w',rfl,r1,r2⟩:=jM r
 cases r1
 cases r2
 refine aC9 (lt:=HT.aH ms ns) (I.ok.hd hc) (fun h k Q E old hq=>?_) fun h k old=>⟨_,H,I.kept (t':=k) old,?_,q⟩
 ·have I2:a8 X pins σ H (at_ s h k):=I.kept (t':=k) old
  obtain ⟨its,v1,t1,_⟩:=I2.tuple (aL.of (K:=X.K) ha)
  obtain ⟨its2,v2,t2,_⟩:=I2.tuple (aL.of (K:=X.K) hb)
  exact (HT.xA t2 t1 (iD v2) (iD v1) (by show X.A.units+1 < cLine; omega) hq:wpAny (model X.prog X.w) X.A.in1 (compareOp .Lt _ _) Q E (at_ s h k))
 ·split <;> rfl
theorem aD3 (hc:X.calm=true) (hu:X.A.units+3 < cLine):cG X (.builtin "max") (fun xs H Q=>∃ a b ns ms,xs = [.ref a,.ref b]/\H a=some (.tup (ns.map V.int))/\H b=some (.tup (ms.map V.int))/\Q (if HT.aH ns ms=true then .ref b else .ref a) H):=by
 intro pins s σ H xs us Q I r h
 obtain ⟨a,b,ns,ms,rfl,ha,hb,q⟩:=h
 obtain ⟨u,w',rfl,r1,r2⟩:=jM r
 cases r1
 cases r2
 refine aD1 (lt:=HT.aH ns ms) (I.ok.hd hc) (fun h k Q E old hq=>?_) fun h k old=>⟨_,H,I.kept (t':=k) old,?_,q⟩
 ·have I2:a8 X pins σ H (at_ s h k):=I.kept (t':=k) old
  obtain ⟨its,v1,t1,_⟩:=I2.tuple (aL.of (K:=X.K) ha)
  obtain ⟨its2,v2,t2,_⟩:=I2.tuple (aL.of (K:=X.K) hb)
  exact HT.aC7 t2 t1 (iD v2) (iD v1) (by show X.A.units+1 < cLine; omega) hq
 ·split <;> rfl
theorem aD4 (hc:X.calm=true):cG X (.builtin "max") (fun xs H Q=>∃ i j k,xs = [.int i,.int j,.int k]/\Q (.int (max i (max j k))) H):=by
 intro pins s σ H xs us Q I r h
 obtain ⟨i,j,k,rfl,q⟩:=h
 cases r with
 | cons r1 r2=>
  obtain ⟨u,w',rfl,⟨t',rfl⟩,⟨t'',rfl⟩⟩:=jM r2
  obtain ⟨t,rfl⟩:=r1
  refine max_three_ints (I.ok.hd hc) fun h' tk kp=>⟨_,H,I.kept kp,?_,q⟩
  by_cases h1:j > i
  ·rw [if_pos h1]
   by_cases h2:k > j
   ·rw [if_pos h2,show max i (max j k)=k by omega]; exact⟨_,rfl⟩
   ·rw [if_neg h2,show max i (max j k)=j by omega]; exact⟨_,rfl⟩
  ·rw [if_neg h1]
   by_cases h2:k > i
   ·rw [if_pos h2,show max i (max j k)=k by omega]; exact⟨_,rfl⟩
   ·rw [if_neg h2,show max i (max j k)=i by omega]; exact⟨_,rfl⟩
end
end L2
namespace PP
open PySem L2
section
variable {X : Cx} {a b c e : Expr} {ta tb te : aF} {tr : cJ} {pos p2 : Pos} {σ : St} {H : Hp} {D : dB}
theorem Reps.three {K:PySem.W.Frag}{M:Addr->Prop}{H:Hp}{vs:List V}{x y z:PV} (r:Reps K M H vs [x,y,z]):∃ v w u,vs = [v,w,u]/\aD K M H v x/\aD K M H w y/\aD K M H u z:=by
 cases r with
 | cons r t=>
  obtain ⟨w,u,rfl,q1,q2⟩:=t.two
  exact⟨_,_,_,rfl,r,q1,q2⟩
def o0:List PV->(PV->Prop)->Prop:=fun xs Q=>∃ i j k:Int,xs = [.int i,.int j,.int k]/\Q (.int (max i (max j k)))
theorem aD5:dR X o0 (fun xs H Q=>∃ i j k,xs = [.int i,.int j,.int k]/\Q (.int (max i (max j k))) H):=by
 rintro H vs xs Q Q' r ⟨i,j,k,rfl,q⟩ kk
 obtain ⟨v,w,u,rfl,r1,r2,r3⟩:=r.three
 cases r1; cases r2; cases r3
 exact⟨i,j,k,rfl,kk _ _ _ (aE.refl _) (.int _) q⟩
theorem vF (B:Bt X.mg) (hc:X.calm=true) (ha:QA X [a,b,c] tr) (hg:Gl X "max":=by rfl) (he:starEach [a,b,c] X.env=(false,eval a X.env) :: starEach [b,c] X.env:=by rfl) (hpl:(backTo pos (starEach [b,c] X.env)).any (·.1)=false:=by rfl):QE X (.Call (.Name "max" p2) [a,b,c] [] pos) (aC o0 tr):=
 hU (aD4 hc) aD5 hg B.max PyProof.Rows.boot_max ha (he:=he) (hpl:=hpl)
def vG:List PV->(PV->Prop)->Prop:=fun xs Q=>∃ ns ms:List Int,xs = [.tup (intz ns),.tup (intz ms)]/\Q (.tup (intz (if HT.aH ms ns=true then ms else ns)))
def vH:List PV->(PV->Prop)->Prop:=fun xs Q=>∃ ns ms:List Int,xs = [.tup (intz ns),.tup (intz ms)]/\Q (.tup (intz (if HT.aH ns ms=true then ms else ns)))
theorem aD6:dR X vG (fun xs H Q=>∃ a b ns ms,xs = [.ref a,.ref b]/\H a=some (.tup (ns.map V.int))/\H b=some (.tup (ms.map V.int))/\Q (if HT.aH ms ns=true then .ref b else .ref a) H):=by
 rintro H vs xs Q Q' r ⟨ns,ms,rfl,q⟩ k
 obtain ⟨v,w,rfl,r1,r2⟩:=r.two
 obtain ⟨p,us,rfl,h1,q1⟩:=r1.sqT
 obtain ⟨p',us',rfl,h2,q2⟩:=r2.sqT
 obtain rfl:=q1.ofInts
 obtain rfl:=q2.ofInts
 refine⟨p,p',ns,ms,rfl,h1,h2,k _ _ _ (aE.refl _) ?_ q⟩
 split
 ·exact .tup h2 (Reps.intz _)
 ·exact .tup h1 (Reps.intz _)
theorem aD7:dR X vH (fun xs H Q=>∃ a b ns ms,xs = [.ref a,.ref b]/\H a=some (.tup (ns.map V.int))/\H b=some (.tup (ms.map V.int))/\Q (if HT.aH ns ms=true then .ref b else .ref a) H):=by
 rintro H vs xs Q Q' r ⟨ns,ms,rfl,q⟩ k
 obtain ⟨v,w,rfl,r1,r2⟩:=r.two
 obtain ⟨p,us,rfl,h1,q1⟩:=r1.sqT
 obtain ⟨p',us',rfl,h2,q2⟩:=r2.sqT
 obtain rfl:=q1.ofInts
 obtain rfl:=q2.ofInts
 refine⟨p,p',ns,ms,rfl,h1,h2,k _ _ _ (aE.refl _) ?_ q⟩
 split
 ·exact .tup h2 (Reps.intz _)
 ·exact .tup h1 (Reps.intz _)
theorem aD8 (B:Bt X.mg) (hc:X.calm=true) (hu:X.A.units+3 < cLine) (ha:QA X [a,b] tr) (hg:Gl X "min":=by rfl) (he:starEach [a,b] X.env=(false,eval a X.env) :: starEach [b] X.env:=by rfl) (hpl:(backTo pos (starEach [b] X.env)).any (·.1)=false:=by rfl):QE X (.Call (.Name "min" p2) [a,b] [] pos) (aC vG tr):=
 hU (aD2 hc hu) aD6 hg B.min PyProof.Rows.boot_min ha (he:=he) (hpl:=hpl)
theorem aD9 (B:Bt X.mg) (hc:X.calm=true) (hu:X.A.units+3 < cLine) (ha:QA X [a,b] tr) (hg:Gl X "max":=by rfl) (he:starEach [a,b] X.env=(false,eval a X.env) :: starEach [b] X.env:=by rfl) (hpl:(backTo pos (starEach [b] X.env)).any (·.1)=false:=by rfl):QE X (.Call (.Name "max" p2) [a,b] [] pos) (aC vH tr):=
 hU (aD3 hc hu) aD7 hg B.max PyProof.Rows.boot_max ha (he:=he) (hpl:=hpl)
end
end PP
namespace HT
open PySem PyProof.Rows
section
open PySem.SeqAt
open PySem.MeetsSeq PySem.MeetsSeq2 PySem.MeetsSeq3
theorem aE0 (l:Addr) (items:Array Value) (n:Nat) (x:Value) (e:Value->Bool) (j:Nat) (hj:j < items.size) (hit:e items[j]=true) (hs1:items.size<=sizeLine) (k:Nat) :
  ∀ i:Nat,j - i=k->i<=j->(∀ m (hm:m < items.size),i<=m->m < j->e items[m]=false)->Meets (Builtin.«list.remove.loop» ⟨[.ref l,x,rawInt i],[]⟩)
   (fun A R s=>s.heap.get? l=some (seqObj "list" items n)/\(∀ y,y ∈ items->EqAt A.in1 s y x (e y))/\R (.ok (.ret .none)) { s with heap:=s.heap.update l (Obj.mapSeq fun xs=>xs.eraseIdxIfInBounds j) }):=by
 have fits:∀ i,(items.eraseIdxIfInBounds i).size<=sizeLine+1:=fun i=>aQ7 (size_erased items _) (Nat.le_succ_of_le hs1)
 induction k with
 | zero=>
  intro i hk hij hno prog w A R s h
  obtain ⟨hp,g,d,tk,os⟩:=s
  obtain ⟨hl,he,h⟩:=h
  obtain rfl:i=j:=by omega
  have hl':hp.get? l=some { cls:=.type "list",dict:=none,data:=.seq items n,slots:=#[] }:=hl
  wp_walk using aW6 hl'
  rw [show items[((i:Nat):Int).toNat]? = some items[i] by simp [hj]]
  refine aN3 (he _ (aR4 hj) prog w _ _ ?_)
  rw [hit]
  wp_walk using (bc1 hl' rfl (hz:=hs1) (_hz':=fits i)),aW6 hl'
  simpa using h
 | succ k ih=>
  intro i hk hij hno prog w A R s h
  obtain ⟨hp,g,d,tk,os⟩:=s
  obtain ⟨hl,he,h⟩:=h
  have hlt:i < items.size:=by omega
  have hl':hp.get? l=some { cls:=.type "list",dict:=none,data:=.seq items n,slots:=#[] }:=hl
  wp_walk using aW6 hl'
  rw [show items[((i:Nat):Int).toNat]? = some items[i] by simp [hlt]]
  refine aN3 (he _ (aR4 hlt) prog w _ _ ?_)
  rw [hno i hlt (aO6 _) (by omega)]
  wp_walk
  rw [show ((i:Int)+1)=((i+1:Nat):Int) by omega]
  refine⟨aY4 plain_remove_loop _,aY0 entry_remove_loop ?_⟩
  rw [aT9 plain_remove_loop _]
  exact ih (i+1) (by omega) (by omega) (fun m hm h1 h2=>hno m hm (by omega) h2) prog w A R _ ⟨hl,he,h⟩
theorem aE1 (l:Addr) (items:Array Value) (n:Nat) (x:Value) (e:Value->Bool) (j:Nat) (hj:j < items.size) (hit:e items[j]=true) (hno:∀ m (hm:m < items.size),m < j->e items[m]=false) (hs1:items.size<=sizeLine) :
  Meets (Builtin.«list.remove» ⟨[.ref l,x],[]⟩)
   (fun A R s=>s.heap.get? l=some (seqObj "list" items n)/\(∀ y,y ∈ items->EqAt A.in1 s y x (e y))/\R (.ok (.ret .none)) { s with heap:=s.heap.update l (Obj.mapSeq fun xs=>xs.eraseIdxIfInBounds j) }):=by
 intro prog w A R s h
 obtain ⟨hp,g,d,tk,os⟩:=s
 obtain ⟨hl,he,h⟩:=h
 have hl':hp.get? l=some { cls:=.type "list",dict:=none,data:=.seq items n,slots:=#[] }:=hl
 wp_walk using aW6 hl'
 refine⟨aY4 plain_remove_loop _,aY0 entry_remove_loop ?_⟩
 rw [aT9 plain_remove_loop _]
 exact aE0 l items n x e j hj hit hs1 _ 0 rfl (aV7 _) (fun m hm _ h2=>hno m hm h2) prog w A R _ ⟨hl,he,h⟩
end
end HT
namespace PP
open PySem L2
section
variable {X : Cx} {σ : St} {H : Hp} {D : dB} {te : aF} {e : Expr} {pos : Pos}
def O0 (K:PySem.W.Frag):V->List V->Hp->VK->Prop:=fun x vs H Q=>∃ (p:Addr) (us:List V) (w:V) (ns:List Int) (rs:List (List Int)) (j:Nat),x = .ref p/\vs = [w]/\H p=some (.lst us)/\aD K (fun _=>True) H w (.tup (intz ns))/\Reps K (fun _=>True) H us (rs.map fun r=>PV.tup (intz r))/\rs[j]? = some ns/\(∀ k,k < j->rs[k]? ≠ some ns)/\us.length < 16000000/\Q .non (upd H p (.lst (us.eraseIdx j)))
theorem O1:∀ (j:Nat) {us:List V}{its:List Value},aK us its->aK (us.eraseIdx j) (its.eraseIdx j)
 | _,_,_,.nil=>.nil
 | 0,_,_,.cons _ t=>t
 | j+1,_,_,.cons r t=>.cons r (O1 j t)
theorem aE2 (hu:X.A.units+3 < cLine):oK X "list.remove" (O0 X.K):=by
 intro pins s σ H x vs v us Q I rx rv h
 obtain ⟨p,ws,w,ns,rs,j,rfl,rfl,hp,rn,rr,hj,hno,hl,q⟩:=h
 cases rx
 obtain ⟨u,rfl,ru⟩:=gV rv
 obtain ⟨z,its,n,r,hl2,e⟩:=I.lstM hp
 have lr:=r.length
 have lp:=rr.length
 rw [aO2] at lp
 have jl:=(aO7.mp hj).1
 have hsz:sizeLine=16777216:=sizeLine_eq
 obtain ⟨f,key⟩:=K8 (A:=X.A.in1) (by show X.A.units+1+2 < cLine; omega) I ru r rn rr
 have jz:j < its.toArray.size:=by rw [aN7]; omega
 refine call_meets PySem.F.slot_list_remove ⟨_,e,rfl⟩ PySem.F.entry_list_remove (PySem.F.args_list_remove_2 _ _) (HT.aE1 p its.toArray n u f j jz ?_ ?_ (by rw [aN7]; omega)) ⟨e,fun y hy=>?_,.non,_,I.lset (its':=its.eraseIdx j) hp e ?_ (O1 j r) ?_,rfl,q⟩
 ·obtain ⟨m,hm,_,h2⟩:=key j its[j] (aN6 (by omega))
  rw [hj] at hm
  cases hm
  show f its[j]=true
  rw [h2]; exact aO4 rfl
 ·intro k hk hlt
  rw [aN7] at hk
  obtain ⟨m,hm,_,h2⟩:=key k its[k] (aN6 hk)
  show f its[k]=false
  rw [h2]
  exact aO1 fun z=>hno k hlt (by rw [hm,z])
 ·have hy:y ∈ its:=by simpa using hy
  obtain ⟨k,hk⟩:=ba0 hy
  obtain ⟨m,_,h1,_⟩:=key k y hk
  exact h1
 ·simp [Array.eraseIdxIfInBounds,jz]
  omega
 ·have:=List.length_eraseIdx_le ws j
  omega
def vI (i:Nat) (te:aF):aP:=fun D ρ=>∃ rs:List (List Int),ρ[i]? = some (some (.own (.lst (rs.map fun r=>PV.tup (intz r)))))/\te ρ fun y _=>∃ (ns:List Int) (j:Nat),y = .tup (intz ns)/\rs[j]? = some ns/\(∀ k,k < j->rs[k]? ≠ some ns)/\rs.length < 16000000/\D.nx (ρ.set i (some (.own (.lst ((rs.eraseIdx j).map fun r=>PV.tup (intz r))))))
theorem aE3 {i:Nat} (h:LS X (vI i te) D σ H):kQ (sN X.K "list" (O0 X.K) (jK i) (iZ (LE X te) jN)) D σ H:=by
 obtain ⟨W,ρ,D',px,⟨rs,hi,q⟩,k⟩:=h
 obtain ⟨v,ev,a,rfl,wa,us,ea,r⟩:=px.sl i _ hi
 have lr:=r.length
 rw [aO2] at lr
 refine⟨_,ev,t8 (aM.of ea),W,ρ,_,px,q,?_⟩
 rintro w H1 y g s ry ⟨ns,j,rfl,hj,hno,hl,q⟩
 have ea2:=s _ _ ea
 refine⟨a,us,w,ns,rs,j,rfl,rfl,ea2,ry.same (aE.refl _) (fun _ _=>trivial),r.same s (fun _ _=>trivial),hj,hno,by omega,?_⟩
 refine k.nx W σ _ _ ((Ev.same s).trans (Ev.upd wa)) ((px.mono s).updL hi ev wa ?_) q
 have r2:=(r.same (M':=Ms X.H₀ W true) s fun _ z=>z).eraseIdx j
 rw [<- Raw.iS] at r2
 exact r2.keep (.upd ea2 rfl fun b m=>⟨mO wa m,m⟩)
theorem aE4 (i:Nat) {x:Str}{apos cpos xpos:Pos} (hu:X.A.units+3 < cLine) (he:QE X e te) (hN:X.N[i]? = some x:=by rfl) (hv:iA X.env.scope x:=by first | exact Or.inl rfl | exact Or.inr (Or.inl rfl) | exact Or.inr (Or.inr rfl)) (hd:(x == ("__debug__" : Str))=false:=by decide) (hcd:(x == ("__classdict__" : Str))=false:=by decide)
  (hbase:attributeBase (.Name x xpos) "remove" X.env (eval (.Name x xpos) X.env)=eval (.Name x xpos) X.env:=by rfl)
  (hfew:((backTo cpos (starEach [e] X.env)).all (fun x=>!x.1) && (backToKw cpos (keywordEach [] X.env)).all (fun x=>x.1.isSome) && decide (([e]:List Expr).length+([]:List Keyword).length+(if ([]:List Keyword).isEmpty then 0 else 1) < 30))=true:=by rfl)
  (hline:(apos.endLine == cpos.line)=true:=by rfl) (hs:starEach [e] X.env=(false,eval e X.env) :: starEach [] X.env:=by rfl) (hplain:(backTo cpos (starEach [] X.env)).any (·.1)=false:=by rfl)
  (hsw:swapsWith (.Call (.Attribute (.Name x xpos) "remove" apos) [e] [] cpos) none pos.line X.env=pure false:=by rfl) :
  QS X (.Expr (.Call (.Attribute (.Name x xpos) "remove" apos) [e] [] cpos) pos) (vI i te):=
 eJ (m9 (xN PySem.F.plainAttrs_list PySem.F.slot_list_remove PySem.F.type_list_remove (aE2 hu) (kN hN hv hd hcd) (iC he jO hs) hbase hfew hline hs hplain) hsw) fun _ _ _=>aE3
def vJ (te:aF):aP:=fun D ρ=>te ρ fun x g=>∃ xs,x = .lst xs/\g = .fr/\D.nx ρ
theorem aE5 (h:LS X (vJ te) D σ H):kQ (xM X.K "list" xQ (LE X te)) D σ H:=by
 obtain ⟨W,ρ,D',px,q,k⟩:=h
 refine⟨W,ρ,_,px,q,?_⟩
 rintro v H1 x g s r ⟨xs,rfl,rfl,q⟩
 obtain ⟨a,us,rfl,m,ea,r⟩:=r.sqL
 have s':aE H (upd H1 a (.lst [])):=fun b o e=>by
  rw [aZ (fun z=>by rw [z,show H a=none from m] at e; cases e)]
  exact s _ _ e
 exact⟨t8 (aM.of ea),a,us,rfl,rfl,ea,k.nx W σ _ ρ (Ev.same s') (px.mono s') q⟩
theorem aE6 {o:Expr}{apos cpos:Pos} (ho:QE X o te) (hbase:attributeBase o "clear" X.env (eval o X.env)=eval o X.env:=by rfl) (hline:(apos.endLine == cpos.line)=true:=by rfl)
  (hsw:swapsWith (.Call (.Attribute o "clear" apos) [] [] cpos) none pos.line X.env=pure false:=by rfl):QS X (.Expr (.Call (.Attribute o "clear" apos) [] [] cpos) pos) (vJ te):=
 eJ (m9 (af4 PySem.F.plainAttrs_list PySem.F.slot_list_clear PySem.F.type_list_clear af7 ho hbase hline) hsw) fun _ _ _=>aE5
end
end PP
namespace Core
open PySem L2 PP
structure Bx where
 t:Int
 l:Int
 b:Int
 r:Int
deriving DecidableEq
def Bx.k (x:Bx):List Int:=[x.t,x.l,x.b,x.r]
theorem Bx.k_inj {x y:Bx} (h:x.k=y.k):x=y:=by
 obtain ⟨a,b,c,d⟩:=x
 obtain ⟨a',b',c',d'⟩:=y
 unfold Bx.k at h
 simp only [List.cons.injEq,and_true] at h
 obtain ⟨rfl,rfl,rfl,rfl⟩:=h
 rfl
def hZ (s e s' e':Int):Int:=max 0 (max (s' - e) (s - e'))
def bE (x y:Bx):Bool:=decide (hZ x.t x.b y.t y.b+hZ x.l x.r y.l y.r<=2)
def bM (x y:Bx):Bx:=⟨min x.t y.t,min x.l y.l,max x.b y.b,max x.r y.r⟩
def okX (x:Bx):Prop:=x.t<=x.b/\x.l<=x.r
def aU (x:Bx) (p:Int × Int):Prop:=x.t<=p.1/\p.1<=x.b/\x.l<=p.2/\p.2<=x.r
def bB (x y:Bx):Prop:=y.t<=x.t/\y.l<=x.l/\x.b<=y.b/\x.r<=y.r
def cX (p:Int × Int):Bx:=⟨p.1,p.2,p.1,p.2⟩
def i5 (x a:Int × Int):Prop:=(a.1=x.1/\(a.2=x.2 - 1 ∨ a.2=x.2+1)) ∨ (a.2=x.2/\(a.1=x.1 - 1 ∨ a.1=x.1+1))
theorem i6 {a b:Int × Int} (h:a.1 ≠ b.1 ∨ a.2 ≠ b.2):a ≠ b:=fun e=>by subst e; exact h.elim (fun z=>z rfl) fun z=>z rfl
theorem O2 (s e s' e':Int):0<=hZ s e s' e'/\s' - e<=hZ s e s' e'/\s - e'<=hZ s e s' e':=
 ⟨Int.le_max_left ..,aS5 (Int.le_max_left ..) (Int.le_max_right ..),aS5 (Int.le_max_right ..) (Int.le_max_right ..)⟩
theorem O3 {s e s' e' g:Int} (h0:0<=g) (h1:s' - e<=g) (h2:s - e'<=g):hZ s e s' e'<=g:=Int.max_le.mpr ⟨h0,Int.max_le.mpr ⟨h1,h2⟩⟩
theorem O4 {x y:Bx} (h:bE x y=true):∃ g h:Int,0<=g/\0<=h/\g+h<=2/\y.t - x.b<=g/\x.t - y.b<=g/\y.l - x.r<=h/\x.l - y.r<=h:=
 have a:=O2 x.t x.b y.t y.b
 have b:=O2 x.l x.r y.l y.r
 ⟨_,_,a.1,b.1,of_decide_eq_true h,a.2.1,a.2.2,b.2.1,b.2.2⟩
theorem vK {x y:Bx}{g h:Int} (g0:0<=g) (h0:0<=h) (gh:g+h<=2) (a1:y.t - x.b<=g) (a2:x.t - y.b<=g) (b1:y.l - x.r<=h) (b2:x.l - y.r<=h):bE x y=true:=
 aO4 (aS5 (Int.add_le_add (O3 g0 a1 a2) (O3 h0 b1 b2)) gh)
theorem lO (x y:Bx):bE x y=bE y x:=by
 have go:∀ x y:Bx,bE x y=true->bE y x=true:=fun x y h=>by
  obtain ⟨g,h,g0,h0,gh,a1,a2,b1,b2⟩:=O4 h
  exact vK g0 h0 gh a2 a1 b2 b1
 exact aW5.mpr ⟨go x y,go y x⟩
theorem vL {x y:Bx}{p:Int × Int} (h1:aU x p) (h2:aU y p):bE x y=true:=
 vK (g:=0) (h:=0) (aN9 _) (aN9 _) (by decide) (Int.sub_nonpos_of_le (aS5 h2.1 h1.2.1)) (Int.sub_nonpos_of_le (aS5 h1.1 h2.2.1)) (Int.sub_nonpos_of_le (aS5 h2.2.2.1 h1.2.2.2)) (Int.sub_nonpos_of_le (aS5 h1.2.2.1 h2.2.2.2))
theorem aE7 {x:Bx} (ok:okX x):bE x x=true:=vL (p:=(x.t,x.l)) ⟨aN9 _,ok.1,aN9 _,ok.2⟩ ⟨aN9 _,ok.1,aN9 _,ok.2⟩
theorem r6 (x y:Bx):bB x (bM x y):=⟨Int.min_le_left ..,Int.min_le_left ..,Int.le_max_left ..,Int.le_max_left ..⟩
theorem vM (x y:Bx):bB y (bM x y):=⟨Int.min_le_right ..,Int.min_le_right ..,Int.le_max_right ..,Int.le_max_right ..⟩
theorem aE8 {x y z:Bx} (h:bB x z) (h':bB y z):bB (bM x y) z:=⟨Int.le_min.mpr ⟨h.1,h'.1⟩,Int.le_min.mpr ⟨h.2.1,h'.2.1⟩,Int.max_le.mpr ⟨h.2.2.1,h'.2.2.1⟩,Int.max_le.mpr ⟨h.2.2.2,h'.2.2.2⟩⟩
theorem bB.in_ {x y:Bx} (s:bB x y) {p:Int × Int} (h:aU x p):aU y p:=⟨aS5 s.1 h.1,aS5 h.2.1 s.2.2.1,aS5 s.2.1 h.2.2.1,aS5 h.2.2.2 s.2.2.2⟩
theorem bB.refl (x:Bx):bB x x:=⟨aN9 _,aN9 _,aN9 _,aN9 _⟩
theorem bB.trans {x y z:Bx} (h:bB x y) (h':bB y z):bB x z:=⟨aS5 h'.1 h.1,aS5 h'.2.1 h.2.1,aS5 h.2.2.1 h'.2.2.1,aS5 h.2.2.2 h'.2.2.2⟩
theorem aE9 {x y:Bx} (h:okX x):okX (bM x y):=
 have s:=r6 x y
 ⟨aS5 s.1 (aS5 h.1 s.2.2.1),aS5 s.2.1 (aS5 h.2 s.2.2.2)⟩
theorem aF0 (x y:Bx):bM x y=bM y x:=by unfold bM; rw [Int.min_comm x.t,Int.min_comm x.l,Int.max_comm x.b,Int.max_comm x.r]
theorem aF1 {x y:Bx}{p:Int × Int} (h:aU x p):aU (bM x y) p:=(r6 x y).in_ h
theorem vN {x y:Bx}{p:Int × Int} (h:aU y p):aU (bM x y) p:=(vM x y).in_ h
def eO (B:Bx) (U:Int × Int->Prop):Prop:=∀ x a b,aU B x->i5 x a->i5 x b->a ≠ b->U a->U b->U x
def cN (U:Int × Int->Prop) (x:Bx):Prop:=∀ p,aU x p->U p
theorem aF2 {U:Int × Int->Prop}{x y:Bx} (f:cN U y) (s:bB x y):cN U x:=fun p h=>f p (s.in_ h)
section
variable {B : Bx} {U : Int × Int → Prop}
theorem aF3 (cl:eO B U) {y y' l r c0:Int} (hy:y'=y - 1 ∨ y'=y+1) (bd:∀ c,l<=c->c<=r->aU B (y,c)) (f:∀ c,l<=c->c<=r->U (y',c)) (h0:l<=c0/\c0<=r) (u0:U (y,c0)):∀ (n:Nat) (c:Int),l<=c->c<=r->(c - c0).natAbs=n->U (y,c):=by
 have ny:y ≠ y':=by omega
 intro n
 induction n with
 | zero=>intro c h1 h2 h3; rw [show c=c0 by omega]; exact u0
 | succ n ih=>
  intro c h1 h2 h3
  have go:∀ d:Int,(d=c - 1 ∨ d=c+1)->l<=d->d<=r->(d - c0).natAbs=n->U (y,c):=fun d hd g1 g2 g3=>
   cl (y,c) (y,d) (y',c) (bd c h1 h2) (.inl ⟨rfl,hd⟩) (.inr ⟨rfl,hy⟩) (i6 (.inl ny)) (ih d g1 g2 g3) (f c h1 h2)
  by_cases g:c0 < c
  ·exact go (c - 1) (.inl rfl) (by omega) (by omega) (by omega)
  ·exact go (c+1) (.inr rfl) (by omega) (by omega) (by omega)
theorem aF4 (cl:eO B U) {y y' l r c0:Int} (hy:y'=y - 1 ∨ y'=y+1) (bd:∀ c,l<=c->c<=r->aU B (c,y)) (f:∀ c,l<=c->c<=r->U (c,y')) (h0:l<=c0/\c0<=r) (u0:U (c0,y)):∀ (n:Nat) (c:Int),l<=c->c<=r->(c - c0).natAbs=n->U (c,y):=by
 have ny:y ≠ y':=by omega
 intro n
 induction n with
 | zero=>intro c h1 h2 h3; rw [show c=c0 by omega]; exact u0
 | succ n ih=>
  intro c h1 h2 h3
  have go:∀ d:Int,(d=c - 1 ∨ d=c+1)->l<=d->d<=r->(d - c0).natAbs=n->U (c,y):=fun d hd g1 g2 g3=>
   cl (c,y) (d,y) (c,y') (bd c h1 h2) (.inr ⟨rfl,hd⟩) (.inl ⟨rfl,hy⟩) (i6 (.inr ny)) (ih d g1 g2 g3) (f c h1 h2)
  by_cases g:c0 < c
  ·exact go (c - 1) (.inl rfl) (by omega) (by omega) (by omega)
  ·exact go (c+1) (.inr rfl) (by omega) (by omega) (by omega)
variable {t l b r : Int}
theorem O5 (cl:eO B U) (f:cN U ⟨t,l,b,r⟩) {y y' c0:Int} (hy:y'=y - 1 ∨ y'=y+1) (h1:t<=y'/\y'<=b) (u:U (y,c0)) (h2:l<=c0/\c0<=r) {R:Bx} (s:bB R B) (hl:R.l=l) (hr:R.r=r) (iy:R.t<=y/\y<=R.b) (old:∀ q:Int × Int,aU R q->q.1 ≠ y->t<=q.1/\q.1<=b):cN U R:=by
 intro q hq
 have a3:l<=q.2:=hl ▸ hq.2.2.1
 have a4:q.2<=r:=hr ▸ hq.2.2.2
 by_cases e:q.1=y
 ·have:=aF3 cl hy (fun c g1 g2=>s.in_ ⟨iy.1,iy.2,hl.symm ▸ g1,hr.symm ▸ g2⟩) (fun c g1 g2=>f (y',c) ⟨h1.1,h1.2,g1,g2⟩) h2 u _ q.2 a3 a4 rfl
  rw [show q=(y,q.2) from bb2 e rfl]; exact this
 ·have o:=old q hq e
  exact f q ⟨o.1,o.2,a3,a4⟩
theorem O6 (cl:eO B U) (f:cN U ⟨t,l,b,r⟩) {y y' c0:Int} (hy:y'=y - 1 ∨ y'=y+1) (h1:l<=y'/\y'<=r) (u:U (c0,y)) (h2:t<=c0/\c0<=b) {R:Bx} (s:bB R B) (ht:R.t=t) (hb:R.b=b) (iy:R.l<=y/\y<=R.r) (old:∀ q:Int × Int,aU R q->q.2 ≠ y->l<=q.2/\q.2<=r):cN U R:=by
 intro q hq
 have a3:t<=q.1:=ht ▸ hq.1
 have a4:q.1<=b:=hb ▸ hq.2.1
 by_cases e:q.2=y
 ·have:=aF4 cl hy (fun c g1 g2=>s.in_ ⟨ht.symm ▸ g1,hb.symm ▸ g2,iy.1,iy.2⟩) (fun c g1 g2=>f (c,y') ⟨g1,g2,h1.1,h1.2⟩) h2 u _ q.1 a3 a4 rfl
  rw [show q=(q.1,y) from bb2 rfl e]; exact this
 ·have o:=old q hq e
  exact f q ⟨a3,a4,o.1,o.2⟩
theorem r9 (cl:eO B U) (f:cN U ⟨t,l,b,r⟩) (tb:t<=b) {c0:Int} (u:U (b+1,c0)) (h2:l<=c0/\c0<=r) (s:bB ⟨t,l,b+1,r⟩ B):cN U ⟨t,l,b+1,r⟩:=
 O5 cl f (y:=b+1) (y':=b) (.inl (by omega)) ⟨tb,aN9 _⟩ u h2 s rfl rfl ⟨by show t<=b+1; omega,aN9 _⟩ fun q hq ne=>⟨hq.1,by have:q.1<=b+1:=hq.2.1; omega⟩
theorem rA (cl:eO B U) (f:cN U ⟨t,l,b,r⟩) (tb:t<=b) {c0:Int} (u:U (t - 1,c0)) (h2:l<=c0/\c0<=r) (s:bB ⟨t - 1,l,b,r⟩ B):cN U ⟨t - 1,l,b,r⟩:=
 O5 cl f (y:=t - 1) (y':=t) (.inr (by omega)) ⟨aN9 _,tb⟩ u h2 s rfl rfl ⟨aN9 _,by show t - 1<=b; omega⟩ fun q hq ne=>⟨by have:t - 1<=q.1:=hq.1; omega,hq.2.1⟩
theorem vO (cl:eO B U) (f:cN U ⟨t,l,b,r⟩) (lr:l<=r) {c0:Int} (u:U (c0,r+1)) (h2:t<=c0/\c0<=b) (s:bB ⟨t,l,b,r+1⟩ B):cN U ⟨t,l,b,r+1⟩:=
 O6 cl f (y:=r+1) (y':=r) (.inl (by omega)) ⟨lr,aN9 _⟩ u h2 s rfl rfl ⟨by show l<=r+1; omega,aN9 _⟩ fun q hq ne=>⟨hq.2.2.1,by have:q.2<=r+1:=hq.2.2.2; omega⟩
theorem vP (cl:eO B U) (f:cN U ⟨t,l,b,r⟩) (lr:l<=r) {c0:Int} (u:U (c0,l - 1)) (h2:t<=c0/\c0<=b) (s:bB ⟨t,l - 1,b,r⟩ B):cN U ⟨t,l - 1,b,r⟩:=
 O6 cl f (y:=l - 1) (y':=l) (.inr (by omega)) ⟨aN9 _,lr⟩ u h2 s rfl rfl ⟨aN9 _,by show l - 1<=r; omega⟩ fun q hq ne=>⟨by have:l - 1<=q.2:=hq.2.2.1; omega,hq.2.2.2⟩
def iV (B:Bx) (U:Int × Int->Prop) (R:Bx) (p:Int × Int):Prop:=∃ R',okX R'/\bB R R'/\aU R' p/\bB R' B/\cN U R'
theorem iV.step {R R1:Bx}{p:Int × Int} (s:bB R R1) (h:iV B U R1 p):iV B U R p:=by
 obtain ⟨R',h1,h2,h3,h4,h5⟩:=h
 exact⟨R',h1,s.trans h2,h3,h4,h5⟩
section
variable (cl : eO B U) {p1 p2 : Int} (u : U (p1, p2)) (ip : aU B (p1, p2))
include cl u ip
theorem vQ (f:cN U ⟨t,l,b,r⟩) (tb:t<=b) (lr:l<=r) (s:bB ⟨t,l,b,r⟩ B) (h:t<=p1/\p1<=b) (g1:p2 - r<=2) (g2:l - p2<=2):iV B U ⟨t,l,b,r⟩ (p1,p2):=by
 obtain ⟨s1,s2,s3,s4⟩:=s
 obtain ⟨i1,i2,i3,i4⟩:=ip
 dsimp only at *
 by_cases a:p2<=r
 ·by_cases a':l<=p2
  ·exact⟨_,⟨tb,lr⟩,bB.refl _,⟨h.1,h.2,a',a⟩,⟨s1,s2,s3,s4⟩,f⟩
  ·have u1:U (p1,l - 1):=by
    by_cases e:p2=l - 1
    ·rw [<- e]; exact u
    ·exact cl (p1,l - 1) (p1,p2) (p1,l) ⟨i1,i2,by show B.l<=l - 1; omega,by show l - 1<=B.r; omega⟩ (.inl ⟨rfl,.inl (by show p2=l - 1 - 1; omega)⟩) (.inl ⟨rfl,.inr (by show l=l - 1+1; omega)⟩) (i6 (.inr (by show p2 ≠ l; omega))) u (f _ ⟨h.1,h.2,aN9 _,lr⟩)
   have f1:=vP cl f lr u1 h ⟨s1,by show B.l<=l - 1; omega,s3,s4⟩
   by_cases e:p2=l - 1
   ·exact⟨⟨t,l - 1,b,r⟩,⟨tb,by show l - 1<=r; omega⟩,⟨aN9 _,by show l - 1<=l; omega,aN9 _,aN9 _⟩,⟨h.1,h.2,by show l - 1<=p2; omega,a⟩,⟨s1,by show B.l<=l - 1; omega,s3,s4⟩,f1⟩
   ·have e2:p2=l - 1 - 1:=by omega
    have f2:=vP cl f1 (by omega) (c0:=p1) (by rw [<- e2]; exact u) h ⟨s1,by show B.l<=l - 1 - 1; omega,s3,s4⟩
    exact⟨⟨t,l - 1 - 1,b,r⟩,⟨tb,by show l - 1 - 1<=r; omega⟩,⟨aN9 _,by show l - 1 - 1<=l; omega,aN9 _,aN9 _⟩,⟨h.1,h.2,by show l - 1 - 1<=p2; omega,a⟩,⟨s1,by show B.l<=l - 1 - 1; omega,s3,s4⟩,f2⟩
 ·have u1:U (p1,r+1):=by
   by_cases e:p2=r+1
   ·rw [<- e]; exact u
   ·exact cl (p1,r+1) (p1,p2) (p1,r) ⟨i1,i2,by show B.l<=r+1; omega,by show r+1<=B.r; omega⟩ (.inl ⟨rfl,.inr (by show p2=r+1+1; omega)⟩) (.inl ⟨rfl,.inl (by show r=r+1 - 1; omega)⟩) (i6 (.inr (by show p2 ≠ r; omega))) u (f _ ⟨h.1,h.2,lr,aN9 _⟩)
  have f1:=vO cl f lr u1 h ⟨s1,s2,s3,by show r+1<=B.r; omega⟩
  by_cases e:p2=r+1
  ·exact⟨⟨t,l,b,r+1⟩,⟨tb,by show l<=r+1; omega⟩,⟨aN9 _,aN9 _,aN9 _,by show r<=r+1; omega⟩,⟨h.1,h.2,by show l<=p2; omega,by show p2<=r+1; omega⟩,⟨s1,s2,s3,by show r+1<=B.r; omega⟩,f1⟩
  ·have e2:p2=r+1+1:=by omega
   have f2:=vO cl f1 (by omega) (c0:=p1) (by rw [<- e2]; exact u) h ⟨s1,s2,s3,by show r+1+1<=B.r; omega⟩
   exact⟨⟨t,l,b,r+1+1⟩,⟨tb,by show l<=r+1+1; omega⟩,⟨aN9 _,aN9 _,aN9 _,by show r<=r+1+1; omega⟩,⟨h.1,h.2,by show l<=p2; omega,by show p2<=r+1+1; omega⟩,⟨s1,s2,s3,by show r+1+1<=B.r; omega⟩,f2⟩
theorem aF5 (f:cN U ⟨t,l,b,r⟩) (tb:t<=b) (lr:l<=r) (s:bB ⟨t,l,b,r⟩ B) {g h:Int} (g0:0<=g) (h0:0<=h) (gh:g+h<=2) (a1:p1 - b<=g) (a2:t - p1<=g) (b1:p2 - r<=h) (b2:l - p2<=h):iV B U ⟨t,l,b,r⟩ (p1,p2):=by
 by_cases c1:p1<=b
 ·by_cases c2:t<=p1
  ·exact vQ cl u ip f tb lr s ⟨c2,c1⟩ (by omega) (by omega)
  ·
   obtain ⟨s1,s2,s3,s4⟩:=s
   obtain ⟨i1,i2,i3,i4⟩:=ip
   dsimp only at *
   have go:∀ c0,U (t - 1,c0)->l<=c0/\c0<=r->p1=t - 1->iV B U ⟨t,l,b,r⟩ (p1,p2):=fun c0 u0 hc e=>
    iV.step (R1:=⟨t - 1,l,b,r⟩) ⟨by show t - 1<=t; omega,aN9 _,aN9 _,aN9 _⟩ (vQ cl u ⟨i1,i2,i3,i4⟩ (rA cl f tb u0 hc ⟨by show B.t<=t - 1; omega,s2,s3,s4⟩) (by omega) lr ⟨by show B.t<=t - 1; omega,s2,s3,s4⟩ ⟨by omega,by omega⟩ (by omega) (by omega))
   by_cases e:p1=t - 1
   ·by_cases d1:p2<=r
    ·by_cases d2:l<=p2
     ·exact go p2 (by rw [<- e]; exact u) ⟨d2,d1⟩ e
     ·exact go l (cl (t - 1,l) (p1,p2) (t,l) ⟨by show B.t<=t - 1; omega,by show t - 1<=B.b; omega,s2,by show l<=B.r; omega⟩ (.inl ⟨e,.inl (by show p2=l - 1; omega)⟩) (.inr ⟨rfl,.inr (by show t=t - 1+1; omega)⟩) (i6 (.inl (by show p1 ≠ t; omega))) u (f _ ⟨aN9 _,tb,aN9 _,lr⟩)) ⟨aN9 _,lr⟩ e
    ·exact go r (cl (t - 1,r) (p1,p2) (t,r) ⟨by show B.t<=t - 1; omega,by show t - 1<=B.b; omega,by show B.l<=r; omega,s4⟩ (.inl ⟨e,.inr (by show p2=r+1; omega)⟩) (.inr ⟨rfl,.inr (by show t=t - 1+1; omega)⟩) (i6 (.inl (by show p1 ≠ t; omega))) u (f _ ⟨aN9 _,tb,lr,aN9 _⟩)) ⟨lr,aN9 _⟩ e
   ·have hc:l<=p2/\p2<=r:=⟨by omega,by omega⟩
    have e2:p1=t - 1 - 1:=by omega
    have u1:U (t - 1,p2):=cl (t - 1,p2) (p1,p2) (t,p2) ⟨by show B.t<=t - 1; omega,by show t - 1<=B.b; omega,i3,i4⟩ (.inr ⟨rfl,.inl e2⟩) (.inr ⟨rfl,.inr (by show t=t - 1+1; omega)⟩) (i6 (.inl (by show p1 ≠ t; omega))) u (f _ ⟨aN9 _,tb,hc.1,hc.2⟩)
    have f1:=rA cl f tb u1 hc ⟨by show B.t<=t - 1; omega,s2,s3,s4⟩
    have f2:=rA cl f1 (by omega) (c0:=p2) (by rw [<- e2]; exact u) hc ⟨by show B.t<=t - 1 - 1; omega,s2,s3,s4⟩
    exact⟨⟨t - 1 - 1,l,b,r⟩,⟨by show t - 1 - 1<=b; omega,lr⟩,⟨by show t - 1 - 1<=t; omega,aN9 _,aN9 _,aN9 _⟩,⟨by show t - 1 - 1<=p1; omega,c1,hc.1,hc.2⟩,⟨by show B.t<=t - 1 - 1; omega,s2,s3,s4⟩,f2⟩
 ·
  obtain ⟨s1,s2,s3,s4⟩:=s
  obtain ⟨i1,i2,i3,i4⟩:=ip
  dsimp only at *
  have go:∀ c0,U (b+1,c0)->l<=c0/\c0<=r->p1=b+1->iV B U ⟨t,l,b,r⟩ (p1,p2):=fun c0 u0 hc e=>
   iV.step (R1:=⟨t,l,b+1,r⟩) ⟨aN9 _,aN9 _,by show b<=b+1; omega,aN9 _⟩ (vQ cl u ⟨i1,i2,i3,i4⟩ (r9 cl f tb u0 hc ⟨s1,s2,by show b+1<=B.b; omega,s4⟩) (by omega) lr ⟨s1,s2,by show b+1<=B.b; omega,s4⟩ ⟨by omega,by omega⟩ (by omega) (by omega))
  by_cases e:p1=b+1
  ·by_cases d1:p2<=r
   ·by_cases d2:l<=p2
    ·exact go p2 (by rw [<- e]; exact u) ⟨d2,d1⟩ e
    ·exact go l (cl (b+1,l) (p1,p2) (b,l) ⟨by show B.t<=b+1; omega,by show b+1<=B.b; omega,s2,by show l<=B.r; omega⟩ (.inl ⟨e,.inl (by show p2=l - 1; omega)⟩) (.inr ⟨rfl,.inl (by show b=b+1 - 1; omega)⟩) (i6 (.inl (by show p1 ≠ b; omega))) u (f _ ⟨tb,aN9 _,aN9 _,lr⟩)) ⟨aN9 _,lr⟩ e
   ·exact go r (cl (b+1,r) (p1,p2) (b,r) ⟨by show B.t<=b+1; omega,by show b+1<=B.b; omega,by show B.l<=r; omega,s4⟩ (.inl ⟨e,.inr (by show p2=r+1; omega)⟩) (.inr ⟨rfl,.inl (by show b=b+1 - 1; omega)⟩) (i6 (.inl (by show p1 ≠ b; omega))) u (f _ ⟨tb,aN9 _,lr,aN9 _⟩)) ⟨lr,aN9 _⟩ e
  ·have hc:l<=p2/\p2<=r:=⟨by omega,by omega⟩
   have e2:p1=b+1+1:=by omega
   have u1:U (b+1,p2):=cl (b+1,p2) (p1,p2) (b,p2) ⟨by show B.t<=b+1; omega,by show b+1<=B.b; omega,i3,i4⟩ (.inr ⟨rfl,.inr e2⟩) (.inr ⟨rfl,.inl (by show b=b+1 - 1; omega)⟩) (i6 (.inl (by show p1 ≠ b; omega))) u (f _ ⟨tb,aN9 _,hc.1,hc.2⟩)
   have f1:=r9 cl f tb u1 hc ⟨s1,s2,by show b+1<=B.b; omega,s4⟩
   have f2:=r9 cl f1 (by omega) (c0:=p2) (by rw [<- e2]; exact u) hc ⟨s1,s2,by show b+1+1<=B.b; omega,s4⟩
   exact⟨⟨t,l,b+1+1,r⟩,⟨by show t<=b+1+1; omega,lr⟩,⟨aN9 _,aN9 _,by show b<=b+1+1; omega,aN9 _⟩,⟨by show t<=p1; omega,by show p1<=b+1+1; omega,hc.1,hc.2⟩,⟨s1,s2,by show b+1+1<=B.b; omega,s4⟩,f2⟩
end
theorem aF6 (cl:eO B U) {C:Bx} (fC:cN U C) (sC:bB C B) {p:Int × Int} (pC:aU C p):∀ (n:Nat) (t l b r:Int),aU ⟨t,l,b,r⟩ p->cN U ⟨t,l,b,r⟩->bB ⟨t,l,b,r⟩ B->(t - C.t).toNat+(l - C.l).toNat+(C.b - b).toNat+(C.r - r).toNat=n->∃ R,cN U R/\bB ⟨t,l,b,r⟩ R/\bB C R:=by
 obtain ⟨c1,c2,c3,c4⟩:=pC
 obtain ⟨d1,d2,d3,d4⟩:=sC
 intro n
 induction n with
 | zero=>
  intro t l b r pR f s h
  exact⟨_,f,bB.refl _,by show t<=C.t; omega,by show l<=C.l; omega,by show C.b<=b; omega,by show C.r<=r; omega⟩
 | succ n ih=>
  rintro t l b r ⟨a1,a2,a3,a4⟩ f ⟨s1,s2,s3,s4⟩ h
  dsimp only at a1 a2 a3 a4 s1 s2 s3 s4
  have tb:=aS5 a1 a2
  have lr:=aS5 a3 a4
  by_cases h1:C.t < t
  ·have s':bB ⟨t - 1,l,b,r⟩ B:=⟨by show B.t<=t - 1; omega,s2,s3,s4⟩
   have u:=fC (t - 1,p.2) ⟨by show C.t<=t - 1; omega,by show t - 1<=C.b; omega,c3,c4⟩
   obtain ⟨R,g1,g2,g3⟩:=ih (t - 1) l b r ⟨by show t - 1<=p.1; omega,a2,a3,a4⟩ (rA cl f tb u ⟨a3,a4⟩ s') s' (by omega)
   exact⟨R,g1,bB.trans (y:=⟨t - 1,l,b,r⟩) ⟨by show t - 1<=t; omega,aN9 _,aN9 _,aN9 _⟩ g2,g3⟩
  ·by_cases h2:C.l < l
   ·have s':bB ⟨t,l - 1,b,r⟩ B:=⟨s1,by show B.l<=l - 1; omega,s3,s4⟩
    have u:=fC (p.1,l - 1) ⟨c1,c2,by show C.l<=l - 1; omega,by show l - 1<=C.r; omega⟩
    obtain ⟨R,g1,g2,g3⟩:=ih t (l - 1) b r ⟨a1,a2,by show l - 1<=p.2; omega,a4⟩ (vP cl f lr u ⟨a1,a2⟩ s') s' (by omega)
    exact⟨R,g1,bB.trans (y:=⟨t,l - 1,b,r⟩) ⟨aN9 _,by show l - 1<=l; omega,aN9 _,aN9 _⟩ g2,g3⟩
   ·by_cases h3:b < C.b
    ·have s':bB ⟨t,l,b+1,r⟩ B:=⟨s1,s2,by show b+1<=B.b; omega,s4⟩
     have u:=fC (b+1,p.2) ⟨by show C.t<=b+1; omega,by show b+1<=C.b; omega,c3,c4⟩
     obtain ⟨R,g1,g2,g3⟩:=ih t l (b+1) r ⟨a1,by show p.1<=b+1; omega,a3,a4⟩ (r9 cl f tb u ⟨a3,a4⟩ s') s' (by omega)
     exact⟨R,g1,bB.trans (y:=⟨t,l,b+1,r⟩) ⟨aN9 _,aN9 _,by show b<=b+1; omega,aN9 _⟩ g2,g3⟩
    ·have h4:r < C.r:=by omega
     have s':bB ⟨t,l,b,r+1⟩ B:=⟨s1,s2,s3,by show r+1<=B.r; omega⟩
     have u:=fC (p.1,r+1) ⟨c1,c2,by show C.l<=r+1; omega,by show r+1<=C.r; omega⟩
     obtain ⟨R,g1,g2,g3⟩:=ih t l b (r+1) ⟨a1,a2,a3,by show p.2<=r+1; omega⟩ (vO cl f lr u ⟨a1,a2⟩ s') s' (by omega)
     exact⟨R,g1,bB.trans (y:=⟨t,l,b,r+1⟩) ⟨aN9 _,aN9 _,aN9 _,by show r<=r+1; omega⟩ g2,g3⟩
theorem O7 {a b c d g:Int} (ab:a<=b) (cd:c<=d) (g0:0<=g) (h1:c - b<=g) (h2:a - d<=g):∃ p,c<=p/\p<=d/\p - b<=g/\a - p<=g:=by
 by_cases e1:a<=c
 ·exact⟨c,aN9 _,cd,h1,by omega⟩
 ·by_cases e2:a<=d
  ·exact⟨a,by omega,e2,by omega,by omega⟩
  ·exact⟨d,cd,aN9 _,by omega,h2⟩
theorem aF7 {A C:Bx} (okA:okX A) (okC:okX C) (nr:bE A C=true) (cl:eO (bM A C) U) (fA:cN U A) (fC:cN U C):cN U (bM A C):=by
 obtain ⟨g,h,g0,h0,gh,a1,a2,b1,b2⟩:=O4 nr
 obtain ⟨p1,q1,q2,q3,q4⟩:=O7 okA.1 okC.1 g0 a1 a2
 obtain ⟨p2,r1,r2,r3,r4⟩:=O7 okA.2 okC.2 h0 b1 b2
 have pC:aU C (p1,p2):=⟨q1,q2,r1,r2⟩
 obtain ⟨⟨t,l,b,r⟩,k1,k2,k3,k4,k5⟩:=aF5 cl (fC _ pC) (vN pC) (t:=A.t) (l:=A.l) (b:=A.b) (r:=A.r) fA okA.1 okA.2 (r6 A C) g0 h0 gh q3 q4 r3 r4
 obtain ⟨R,m1,m2,m3⟩:=aF6 cl fC (vM A C) pC _ t l b r k3 k5 k4 rfl
 exact aF2 m1 (aE8 (bB.trans k2 m2) m3)
end
theorem O8 {x a:Int × Int} (h:i5 x a):∃ g k:Int,0<=g/\0<=k/\g+k<=1/\a.1 - x.1<=g/\x.1 - a.1<=g/\a.2 - x.2<=k/\x.2 - a.2<=k:=by
 rcases h with ⟨h1,h2⟩ | ⟨h1,h2⟩
 ·exact⟨0,1,by decide,by decide,by decide,by omega,by omega,by omega,by omega⟩
 ·exact⟨1,0,by decide,by decide,by decide,by omega,by omega,by omega,by omega⟩
theorem aF8 {T:List Bx} (pw:∀ x ∈ T,∀ y ∈ T,bE x y=true->x=y) (B:Bx):eO B (fun p=>∃ x ∈ T,aU x p):=by
 rintro x a b _ xa xb ne ⟨A,hA,ia⟩ ⟨C,hC,ib⟩
 obtain ⟨g,k,g0,k0,gk,d1,d2,d3,d4⟩:=O8 xa
 obtain ⟨g',k',g0',k0',gk',d1',d2',d3',d4'⟩:=O8 xb
 obtain ⟨i1,i2,i3,i4⟩:=ia
 obtain ⟨j1,j2,j3,j4⟩:=ib
 have nr:bE A C=true:=vK (g:=g+g') (h:=k+k') (by omega) (by omega) (by omega) (by omega) (by omega) (by omega) (by omega)
 have:=pw A hA C hC nr
 subst this
 refine⟨A,hA,?_⟩
 rcases xa with ⟨e1,e2⟩ | ⟨e1,e2⟩
 ·rcases xb with ⟨e3,e4⟩ | ⟨e3,e4⟩
  ·have:a.2 ≠ b.2:=fun z=>ne (bb2 (e1.trans e3.symm) z)
   exact⟨by omega,by omega,by omega,by omega⟩
  ·exact⟨by omega,by omega,by omega,by omega⟩
 ·rcases xb with ⟨e3,e4⟩ | ⟨e3,e4⟩
  ·exact⟨by omega,by omega,by omega,by omega⟩
  ·have:a.1 ≠ b.1:=fun z=>ne (bb2 z (e1.trans e3.symm))
   exact⟨by omega,by omega,by omega,by omega⟩
abbrev b8:=Int × Int
inductive dJ (B:Bx) (S:b8->Prop):b8->Prop
 | seed {x:b8}:S x->dJ B S x
 | kin {x a b:b8}:aU B x->i5 x a->i5 x b->a ≠ b->dJ B S a->dJ B S b->dJ B S x
theorem dJ.clo {B B':Bx}{S:b8->Prop} (s:bB B' B):eO B' (dJ B S):=fun x a b h1 h2 h3 h4 h5 h6=>.kin (s.in_ h1) h2 h3 h4 h5 h6
theorem dJ.mono {B B':Bx}{S S':b8->Prop} (s:bB B B') (h:∀ x,S x->S' x) {x:b8} (b:dJ B S x):dJ B' S' x:=by
 induction b with
 | seed z=>exact .seed (h _ z)
 | kin h1 h2 h3 h4 _ _ i1 i2=>exact .kin (s.in_ h1) h2 h3 h4 i1 i2
theorem dJ.least {B:Bx}{S U:b8->Prop} (cl:eO B U) (h:∀ x,S x->U x) {x:b8} (b:dJ B S x):U x:=by
 induction b with
 | seed z=>exact h _ z
 | kin h1 h2 h3 h4 _ _ i1 i2=>exact cl _ _ _ h1 h2 h3 h4 i1 i2
abbrev lP (r c:Int):Bx:=⟨0,0,r - 1,c - 1⟩
theorem rB {r c:Int}{p:b8}:aU (lP r c) p ↔ cW r c p=true:=by
 rw [qW]; unfold aU; dsimp only; omega
theorem rC {r c:Int}{x a:b8}:a ∈ nY r c x ↔ i5 x a/\cW r c a=true:=by
 unfold nY
 rw [List.mem_filter]
 refine and_congr_left fun _=>?_
 unfold M0 i5
 simp only [aO0,aP2,aS1,Prod.ext_iff]
 omega
theorem aF9 {r c:Int}{S:List b8} (bd:∀ x ∈ S,cW r c x=true) {p:b8}:kF r c S p ↔ dJ (lP r c) (· ∈ S) p:=by
 have bd':∀ {q:b8},dJ (lP r c) (· ∈ S) q->cW r c q=true:=fun {q} h=>by
  cases h with
  | seed h=>exact bd _ h
  | kin h1 _ _ _ _ _=>exact rB.mp h1
 constructor
 ·intro h
  induction h with
  | seed h=>exact .seed h
  | kin h1 h2 h3 h4 _ _ i1 i2=>exact .kin (rB.mpr h1) (rC.mp h2).1 (rC.mp h3).1 h4 i1 i2
 ·intro h
  induction h with
  | seed h=>exact .seed h
  | kin h1 h2 h3 h4 b1 b2 i1 i2=>exact .kin (rB.mp h1) (rC.mpr ⟨h2,bd' b1⟩) (rC.mpr ⟨h3,bd' b2⟩) h4 i1 i2
def iW (x:Bx):Int:=(x.b - x.t+1)+(x.r - x.l+1)
structure gC (G:List b8) (x:Bx):Prop where
 ok:okX x
 ins:∀ s ∈ G,aU x s
 full:∀ p,aU x p->dJ x (· ∈ G) p
 few:iW x<=2 * (G.length:Int)
theorem gC.cell (p:b8):gC [p] (cX p):=by
 refine⟨by unfold okX cX; exact⟨aN9 _,aN9 _⟩,fun s hs=>?_,fun q hq=>.seed ?_,?_⟩
 ·rw [aP0.mp hs]; unfold aU cX; dsimp only; omega
 ·unfold aU cX at hq
  dsimp only at hq
  exact aP0.mpr (bb2 (by omega) (by omega))
 ·unfold iW cX; dsimp only; simp only [aS6]; omega
theorem aG0 {x y:Bx} (h1:okX x) (h2:okX y) (nr:bE x y=true):iW (bM x y)<=iW x+iW y:=by
 have nr:=of_decide_eq_true nr
 unfold hZ at nr; unfold okX at h1 h2; unfold iW bM; dsimp only; omega
theorem gC.hull {G G':List b8}{x y:Bx} (h:gC G x) (h':gC G' y) (nr:bE x y=true):gC (G ++ G') (bM x y):=by
 refine⟨aE9 h.ok,fun s hs=>?_,?_,?_⟩
 ·rcases aS7.mp hs with z | z
  ·exact aF1 (h.ins s z)
  ·exact vN (h'.ins s z)
 ·exact aF7 h.ok h'.ok nr (dJ.clo (bB.refl _)) (fun p hp=>(h.full p hp).mono (r6 x y) fun s hs=>aT8 _ hs) (fun p hp=>(h'.full p hp).mono (vM x y) fun s hs=>aQ5 _ hs)
 ·have:=aG0 h.ok h'.ok nr
  have:=h.few
  have:=h'.few
  rw [aR3]; omega
theorem gC.same {G G':List b8}{x:Bx} (h:gC G x) (h':∀ s ∈ G',aU x s):gC (G ++ G') x:=by
 refine⟨h.ok,fun s hs=>?_,fun p hp=>(h.full p hp).mono (bB.refl _) fun s hs=>aT8 _ hs,?_⟩
 ·rcases aS7.mp hs with z | z
  ·exact h.ins s z
  ·exact h' s z
 ·have:=h.few
  rw [aR3]; omega
def dL (T:List Bx) (s:Bx × Bx):Bool:=decide (s.1 ∈ T) && (decide (s.2 ∈ T) && (HT.aH s.1.k s.2.k && bE s.1 s.2))
def dM (T:List Bx) (s:Bx × Bx):List Bx:=(T.erase s.1).erase s.2
def dY (T:List Bx) (s:Bx × Bx):List Bx:=if bM s.1 s.2 ∈ dM T s then dM T s else dM T s ++ [bM s.1 s.2]
def dZ (s:Bx × Bx) (T:List Bx):Option (List Bx):=if dL T s=true then some (dY T s) else none
def bW (T:List Bx) (sts:List (Bx × Bx)):Option (List Bx):=sts.foldl (fun o s=>o.bind (dZ s)) (some T)
theorem lQ (T:List Bx) (sts:List (Bx × Bx)) (s:Bx × Bx):bW T (sts ++ [s])=(bW T sts).bind (dZ s):=by unfold bW; rw [List.foldl_append]; rfl
theorem O9 {T:List Bx}:∀ {a b:List (Bx × Bx)},bW T a=none->bW T (a ++ b)=none:=by
 intro a b h
 unfold bW at *
 rw [List.foldl_append,h]
 induction b with
 | nil=>rfl
 | cons x r ih=>exact ih
theorem kG {T:List Bx}{s:Bx × Bx}:dL T s=true ↔ s.1 ∈ T/\s.2 ∈ T/\HT.aH s.1.k s.2.k=true/\bE s.1 s.2=true:=by
 unfold dL
 simp only [aW9,aQ3]
def cO (S:List b8) (T:List Bx):Prop:=∃ f:List (Bx × List b8),T=f.map (·.1)/\(∀ e ∈ f,gC e.2 e.1)/\(f.map (·.2)).flatten.Perm S
theorem cO.init (S:List b8):cO S (S.map cX):=by
 refine⟨S.map fun p=>(cX p,[p]),by rw [aR7]; rfl,fun e he=>?_,?_⟩
 ·obtain ⟨p,_,rfl⟩:=aQ8.mp he
  exact gC.cell p
 ·rw [aR7]
  have:(S.map ((·.2) ∘ fun p:b8=>(cX p,[p]))).flatten=S:=by
   induction S with
   | nil=>rfl
   | cons a r ih=>show [a] ++ _=_; rw [ih]; rfl
  rw [this]
theorem cO.perm {S:List b8}{T T':List Bx} (p:T'.Perm T) (h:cO S T):cO S T':=by
 obtain ⟨f,rfl,h1,h2⟩:=h
 obtain ⟨g,pg,rfl⟩:∃ g:List (Bx × List b8),g.Perm f/\T'=g.map (·.1):=by
  clear h1 h2
  generalize hm:f.map (·.1)=m at p
  induction p generalizing f with
  | nil=>exact⟨f,aX8 _,hm.symm⟩
  | cons x _ ih=>
   cases f with
   | nil=>cases hm
   | cons e f=>
    cases hm
    obtain ⟨g,pg,hg⟩:=ih f rfl
    exact⟨e :: g,pg.cons _,by rw [hg]; rfl⟩
  | swap x y l=>
   match f,hm with
   | e :: e' :: f,hm=>
    cases hm
    exact⟨e' :: e :: f,bc8 _ _ _,rfl⟩
  | trans _ _ ih1 ih2=>
   obtain ⟨g,pg,hg⟩:=ih2 f hm
   obtain ⟨g',pg',hg'⟩:=ih1 g hg.symm
   exact⟨g',pg'.trans pg,hg'⟩
 exact⟨g,rfl,fun e he=>h1 e (pg.mem_iff.mp he),((pg.map _).flatten).trans h2⟩
theorem cO.join {S:List b8}{x y:Bx}{T:List Bx} (h:cO S (x :: y :: T)) (nr:bE x y=true):cO S (bM x y :: T):=by
 obtain ⟨f,e,h1,h2⟩:=h
 match f,e with
 | ex :: ey :: f,e=>
  cases e
  refine⟨(bM ex.1 ey.1,ex.2 ++ ey.2) :: f,rfl,fun e he=>?_,?_⟩
  ·rcases aO0.mp he with rfl | he
   ·exact (h1 ex aO9).hull (h1 ey (aO3 _ aO9)) nr
   ·exact h1 e (aO3 _ (aO3 _ he))
  ·have:(((bM ex.1 ey.1,ex.2 ++ ey.2) :: f).map (·.2)).flatten=((ex :: ey :: f).map (·.2)).flatten:=by
    simp only [aT4,List.flatten_cons,aP8]
   rw [this]; exact h2
theorem cO.dup {S:List b8}{x:Bx}{T:List Bx} (h:cO S (x :: T)) (hx:x ∈ T):cO S T:=by
 obtain ⟨f,e,h1,h2⟩:=h
 match f,e with
 | ex :: f,e=>
  cases e
  obtain ⟨ey,hy,e2⟩:=aQ8.mp hx
  obtain ⟨a,b,rfl⟩:=List.append_of_mem hy
  refine⟨a ++ (ey.1,ey.2 ++ ex.2) :: b,by simp,fun e he=>?_,?_⟩
  ·rcases aS7.mp he with z | z
   ·exact h1 e (aO3 _ (aT8 _ z))
   ·rcases aO0.mp z with rfl | z
    ·refine (h1 ey (by simp)).same fun s hs=>?_
     have e2:ey.1=ex.1:=e2
     rw [e2]
     exact (h1 ex aO9).ins s hs
    ·exact h1 e (aO3 _ (aQ5 _ (aO3 _ z)))
  ·refine List.Perm.trans ?_ h2
   simp only [aQ4,aT4,List.flatten_append,List.flatten_cons]
   have p1:(ey.2 ++ ex.2 ++ (b.map (·.2)).flatten).Perm (ex.2 ++ (ey.2 ++ (b.map (·.2)).flatten)):=by
    rw [aP8]
    refine aU3.trans ?_
    rw [aP8]
    exact bb7 _ aU3
   refine (bb7 _ p1).trans ?_
   rw [<- aP8,<- aP8 ex.2]
   exact List.Perm.append_right _ aU3
theorem rD {x y:Bx} (h:HT.aH x.k y.k=true):x ≠ y:=fun e=>by
 subst e
 have:=jS h
 rw [h] at this; cases this
theorem rE {T:List Bx}{s:Bx × Bx} (ok:dL T s=true):T.Perm (s.1 :: s.2 :: dM T s):=by
 obtain ⟨h1,h2,h3,_⟩:=kG.mp ok
 have:s.2 ∈ T.erase s.1:=(List.mem_erase_of_ne (rD h3).symm).mpr h2
 exact (List.perm_cons_erase h1).trans ((List.perm_cons_erase this).cons _)
theorem cO.step {S:List b8}{T:List Bx}{s:Bx × Bx} (h:cO S T) (ok:dL T s=true):cO S (dY T s):=by
 have h2:=(h.perm (rE ok).symm).join (kG.mp ok).2.2.2
 unfold dY
 by_cases e:bM s.1 s.2 ∈ dM T s
 ·rw [if_pos e]; exact h2.dup e
 ·rw [if_neg e]; exact h2.perm (aU3 (l₁:=dM T s) (l₂:=[bM s.1 s.2]))
theorem P0 {T:List Bx}{s:Bx × Bx} (nd:T.Nodup):(dY T s).Nodup:=by
 have:(dM T s).Nodup:=(nd.erase _).erase _
 unfold dY
 split
 ·exact this
 ·rename_i h
  exact List.nodup_append.mpr ⟨this,aS4 _ _,fun a ha b hb e=>h (by rw [<- aP0.mp hb,<- e]; exact ha)⟩
theorem jH {S:List b8} (nd:S.Nodup):∀ (sts:List (Bx × Bx)) {T:List Bx},bW (S.map cX) sts=some T->cO S T/\T.Nodup:=by
 intro sts
 rcases List.eq_nil_or_concat sts with rfl | ⟨a,s,rfl⟩
 ·intro T h
  cases h
  refine⟨cO.init S,aT1.mpr (nd.imp fun {a b} ne e=>ne ?_)⟩
  unfold cX at e
  simp only [Bx.mk.injEq] at e
  exact bb2 e.1 e.2.1
 ·intro T h
  rw [List.concat_eq_append,lQ] at h
  cases hw:bW (S.map cX) a with
  | none=>rw [hw] at h; cases h
  | some T1=>
   rw [hw] at h
   obtain ⟨o1,n1⟩:=jH nd a hw
   have h:dZ s T1=some T:=h
   unfold dZ at h
   split at h
   ·rename_i ok
    cases h
    exact⟨o1.step ok,P0 n1⟩
   ·cases h
 termination_by sts=>sts.length
 decreasing_by subst_vars; simp
def cF (T:List Bx):Prop:=T.Pairwise fun x y=>bE x y=false
theorem cF.eq {T:List Bx} (h:cF T) {x y:Bx} (hx:x ∈ T) (hy:y ∈ T) (nr:bE x y=true):x=y:=by
 obtain ⟨i,hi,rfl⟩:=aU4 hx
 obtain ⟨j,hj,rfl⟩:=aU4 hy
 have pw:=aR6.mp h
 rcases Nat.lt_trichotomy i j with z | z | z
 ·rw [pw i j hi hj z] at nr; cases nr
 ·subst z; rfl
 ·rw [lO,pw j i hj hi z] at nr; cases nr
theorem cO.on_board {r c:Int}{S G:List b8}{x:Bx} (bd:∀ p ∈ S,cW r c p=true) (gs:∀ s ∈ G,s ∈ S) (sp:gC G x) {p:b8} (hp:aU x p):aU (lP r c) p:=by
 have okk:=sp.ok
 unfold okX at okk
 have gb:∀ s ∈ G,aU (lP r c) s:=fun s hs=>rB.mpr (bd s (gs s hs))
 have key:∀ q,aU x q->dJ x (· ∈ G) q:=sp.full
 have cl:eO x (fun q=>aU (lP r c) q):=by
  intro y a b hy ya yb ne ua ub
  have ne':a.1 ≠ b.1 ∨ a.2 ≠ b.2:=Classical.byContradiction fun z=>ne (bb2 (by omega) (by omega))
  unfold aU i5 at *
  dsimp only at *
  omega
 exact (key p hp).least cl gb
theorem cO.burnt {r c:Int}{S:List b8}{T:List Bx} (o:cO S T) (far:cF T) (bd:∀ x ∈ S,cW r c x=true) (p:b8):(∃ x ∈ T,aU x p) ↔ kF r c S p:=by
 obtain ⟨f,rfl,h1,h2⟩:=o
 rw [aF9 bd]
 have insd:∀ e ∈ f,∀ s ∈ e.2,s ∈ S:=fun e he s hs=>h2.mem_iff.mp (List.mem_flatten.mpr ⟨e.2,aQ8.mpr ⟨e,he,rfl⟩,hs⟩)
 constructor
 ·rintro ⟨x,hx,hp⟩
  obtain ⟨e,he,rfl⟩:=aQ8.mp hx
  have sp:=h1 e he
  refine (sp.full p hp).least (fun x a b hx2 xa xb ne ua ub=>?_) fun s hs=>.seed (insd e he s hs)
  refine dJ.kin ?_ xa xb ne ua ub
  exact cO.on_board bd (insd e he) sp hx2
 ·intro h
  refine h.least (aF8 (fun x hx y hy=>far.eq hx hy) _) fun s hs=>?_
  obtain ⟨g,hg,hs2⟩:=List.mem_flatten.mp (h2.mem_iff.mpr hs)
  obtain ⟨e,he,rfl⟩:=aQ8.mp hg
  exact⟨e.1,aQ8.mpr ⟨e,he,rfl⟩,(h1 e he).ins s hs2⟩
theorem cO.ok {S:List b8}{T:List Bx} (o:cO S T) {x:Bx} (hx:x ∈ T):okX x:=by
 obtain ⟨f,rfl,h1,_⟩:=o
 obtain ⟨e,he,rfl⟩:=aQ8.mp hx
 exact (h1 e he).ok
theorem P3 {T:List Bx} (far:cF T) {x:Bx} (ok:okX x) (h:∀ p,aU x p->∃ y ∈ T,aU y p):∃ y ∈ T,∀ p,aU x p->aU y p:=by
 unfold okX at ok
 obtain ⟨y,hy,h0⟩:=h (x.t,x.l) (by unfold aU; dsimp only; omega)
 refine⟨y,hy,?_⟩
 have:∀ (n:Nat) (p:b8),aU x p->(p.1 - x.t+(p.2 - x.l)).toNat=n->aU y p:=by
  intro n
  induction n with
  | zero=>
   intro p hp hn
   unfold aU at hp
   rw [show p=(x.t,x.l) from bb2 (by omega) (by omega)]
   exact h0
  | succ n ih=>
   intro p hp hn
   obtain ⟨y',hy',hp'⟩:=h p hp
   obtain ⟨q,hq,aq,hqn⟩:∃ q:b8,aU x q/\i5 p q/\(q.1 - x.t+(q.2 - x.l)).toNat=n:=by
    unfold aU at hp
    by_cases e:x.t < p.1
    ·exact⟨(p.1 - 1,p.2),by unfold aU; dsimp only; omega,.inr ⟨rfl,.inl rfl⟩,by dsimp only; omega⟩
    ·exact⟨(p.1,p.2 - 1),by unfold aU; dsimp only; omega,.inl ⟨rfl,.inl rfl⟩,by dsimp only; omega⟩
   have iq:=ih q hq hqn
   have nr:bE y y'=true:=aO4 (by unfold hZ; unfold aU i5 at *; omega)
   rw [far.eq hy hy' nr]; exact hp'
 exact fun p hp=>this _ p hp rfl
theorem P4 {T T':List Bx} (far:cF T) (far':cF T') (ok:∀ x ∈ T,okX x) (ok':∀ x ∈ T',okX x) (same:∀ p,(∃ x ∈ T,aU x p) ↔ ∃ x ∈ T',aU x p) {x:Bx} (hx:x ∈ T):x ∈ T':=by
 obtain ⟨y,hy,h1⟩:=P3 far' (ok x hx) fun p hp=>(same p).mp ⟨x,hx,hp⟩
 obtain ⟨z,hz,h2⟩:=P3 far (ok' y hy) fun p hp=>(same p).mpr ⟨y,hy,hp⟩
 have okx:=ok x hx
 have oky:=ok' y hy
 unfold okX at okx oky
 have a1:=h1 (x.t,x.l) (by unfold aU; dsimp only; omega)
 have a2:=h1 (x.b,x.r) (by unfold aU; dsimp only; omega)
 have e:x=z:=far.eq hx hz (vL (p:=(x.t,x.l)) (by unfold aU; dsimp only; omega) (h2 _ a1))
 subst e
 have b1:=h2 (y.t,y.l) (by unfold aU; dsimp only; omega)
 have b2:=h2 (y.b,y.r) (by unfold aU; dsimp only; omega)
 have:x=y:=by
  obtain ⟨p,q,u,v⟩:=x
  obtain ⟨p',q',u',v'⟩:=y
  unfold aU at a1 a2 b1 b2
  dsimp only at *
  simp only [Bx.mk.injEq]
  omega
 rw [this]; exact hy
theorem o3 {i:Nat}{x:PV}{g:Bool}{ρ:bD}{Q:bD->Prop} (f:flat x=true) (q:Q (ρ.set i (some (.sh true x)))):dC i x g ρ Q:=by
 unfold dC
 rw [f,Bool.or_true]
 exact q
theorem lR {b:Bool}{x:PV}{P:Prop} (h:(Slot.sh b x).tag = .rd):P:=by cases b <;> cases h
abbrev bC (x:Bx):PV:=.tup (intz x.k)
abbrev aN (bs:List Bx):List PV:=eN (bs.map Bx.k)
theorem iX (x:Bx):flat (bC x)=true:=nP x.k
theorem o5 {bs:List Bx}{i:Nat}{v:PV} (h:(aN bs)[i]? = some v):∃ x,v=bC x/\bs[i]? = some x:=by
 unfold aN eN at h
 rw [aR7,aP4] at h
 cases e:bs[i]? with
 | none=>rw [e] at h; cases h
 | some x=>rw [e] at h; cases h; exact⟨x,rfl,rfl⟩
theorem P5 {bs:List Bx}{i:Nat}{x:Bx} (h:bs[i]? = some x):(aN bs)[i]? = some (bC x):=by
 unfold aN eN
 rw [aR7,aP4,h]; rfl
theorem jI (bs:List Bx):(aN bs).length=bs.length:=by unfold aN eN; rw [aO2,aO2]
theorem vR (bs:List Bx):flats (aN bs)=true:=F7 _
def o6:bN:=fun xs Q=>∃ a b c d:Int,xs = [.int a,.int b,.int c,.int d]/\Q (.int (hZ a b c d))
def P6:aP:=(bJ (aC o0 (a6 (qC (.int 0)) (a6 (hG (a5 2) (a5 1)) (a6 (hG (a5 0) (a5 3)) a9)))))
theorem aG1:cM P6 ["start","end","other_start","other_end"] o6:=by
 rintro xs Q ⟨a,b,c,d,rfl,q⟩
 exact⟨_,rfl,_,rfl,c,b,rfl,rfl,_,rfl,_,rfl,a,d,rfl,rfl,_,_,_,rfl,trivial,q⟩
def lS:bN:=fun xs Q=>∃ x y:Bx,xs = [bC x,bC y]/\Q (.bl (bE x y))
def P7:aP:=(aG (bF 2 (aC o6 (a6 (aW (a5 0) (qC (.int 0))) (a6 (aW (a5 0) (qC (.int 2))) (a6 (aW (a5 1) (qC (.int 0))) (a6 (aW (a5 1) (qC (.int 2))) a9))))))
 (aG (bF 3 (aC o6 (a6 (aW (a5 0) (qC (.int 1))) (a6 (aW (a5 0) (qC (.int 3))) (a6 (aW (a5 1) (qC (.int 1))) (a6 (aW (a5 1) (qC (.int 3))) a9))))))
 (bJ (qLe (gM (a5 2) (a5 3)) (qC (.int 2))))))
theorem aG2:cM P7 ["one","other","between_rows","between_columns"] lS:=by
 rintro xs Q ⟨x,y,rfl,q⟩
 refine⟨_,rfl,_,_,_,rfl,rfl,rfl,_,rfl,_,_,_,rfl,rfl,rfl,_,rfl,_,_,_,rfl,rfl,rfl,_,rfl,_,_,_,rfl,rfl,rfl,_,_,_,_,rfl,trivial,?_⟩
 refine⟨_,rfl,_,_,_,rfl,rfl,rfl,_,rfl,_,_,_,rfl,rfl,rfl,_,rfl,_,_,_,rfl,rfl,rfl,_,rfl,_,_,_,rfl,rfl,rfl,_,_,_,_,rfl,trivial,?_⟩
 exact⟨_,rfl,_,rfl,_,_,rfl,rfl,_,_,rfl,rfl,trivial,q⟩
def lT:bN:=fun xs Q=>∃ x y:Bx,xs = [bC x,bC y]/\Q (bC (bM x y))
def P8:aP:=(bJ (eY (a6 (aC jU (a6 (aW (a5 0) (qC (.int 0))) (a6 (aW (a5 1) (qC (.int 0))) a9))) (a6 (aC jU (a6 (aW (a5 0) (qC (.int 1))) (a6 (aW (a5 1) (qC (.int 1))) a9))) (a6 (aC j8 (a6 (aW (a5 0) (qC (.int 2))) (a6 (aW (a5 1) (qC (.int 2))) a9))) (a6 (aC j8 (a6 (aW (a5 0) (qC (.int 3))) (a6 (aW (a5 1) (qC (.int 3))) a9))) a9))))))
theorem P9 (i j:Int):(if j < i then j else i)=min i j:=by split <;> omega
theorem Q0 (i j:Int):(if j > i then j else i)=max i j:=by split <;> omega
theorem Q2:cM P8 ["one","other"] lT:=by
 rintro xs Q ⟨x,y,rfl,q⟩
 refine⟨_,rfl,_,_,_,rfl,rfl,rfl,_,rfl,_,_,_,rfl,rfl,rfl,x.t,y.t,rfl,_,rfl,_,_,_,rfl,rfl,rfl,_,rfl,_,_,_,rfl,rfl,rfl,x.l,y.l,rfl,
  _,rfl,_,_,_,rfl,rfl,rfl,_,rfl,_,_,_,rfl,rfl,rfl,x.b,y.b,rfl,_,rfl,_,_,_,rfl,rfl,rfl,_,rfl,_,_,_,rfl,rfl,rfl,x.r,y.r,rfl,by show 4<=1000; decide,rfl,trivial,?_⟩
 show Q (.tup [.int (if y.t < x.t then y.t else x.t),.int (if y.l < x.l then y.l else x.l),.int (if y.b > x.b then y.b else x.b),.int (if y.r > x.r then y.r else x.r)])
 rw [P9,P9,Q0,Q0]
 exact q
def lU:bN:=fun xs Q=>∃ (x:PV) (ls:List (Int × Int)),xs = [x]/\(x = .tup (b9 ls) ∨ x = .lst (b9 ls))/\ls.length<=4096/\Q (.lst (aN (ls.map cX)))
def Q3:aP:=(bJ (l8 (fX (a5 0)) [none,none] (gK 0 1) hB (eY (a6 (a5 0) (a6 (a5 1) (a6 (a5 0) (a6 (a5 1) a9)))))))
theorem aG3:cM Q3 ["cells"] lU:=by
 rintro xs Q ⟨x,ls,rfl,hx,hl,q⟩
 have sx:j7 x=some (b9 ls):=by rcases hx with rfl | rfl <;> rfl
 refine⟨_,rfl,b9 ls,sx,lR,by rw [nR]; omega,fun i acc=>acc=aN ((ls.take i).map cX),rfl,?_,?_⟩
 ·rintro i v acc hv rfl
  obtain ⟨l,rfl,h⟩:=uM hv
  refine⟨_,_,rfl,?_⟩
  unfold hB
  dsimp only
  rw [if_pos rfl]
  refine⟨_,rfl,_,rfl,_,rfl,_,rfl,by show 4<=1000; decide,rfl,trivial,?_⟩
  have tk:ls.take (i+1)=ls.take i ++ [l]:=by rw [aU0,h]; rfl
  rw [tk,aQ4]
  unfold aN eN
  rw [aQ4,aQ4]
  rfl
 ·rintro acc rfl
  rw [nR,aX3]
  exact⟨trivial,q⟩
def vS:Option Bx->PV
 | some y=>bC y
 | none=>.non
def kH:bN:=fun xs Q=>∃ (bs:List Bx) (x:Bx),xs = [.lst (aN bs),bC x]/\Q (vS (bs.find? fun y=>bE y x))
def Q4:aP:=(aG (dH (fX (a5 0)) (dC 2)
  (bV (aX (aC lS (a6 (a5 2) (a6 (a5 1) a9)))) (iJ 2) bZ))
 (bJ (qC .non)))
theorem Q5 {bs:List Bx}{x:Bx} (h:∀ y ∈ bs,bE y x=false):bs.find? (fun y=>bE y x)=none:=by
 rw [List.find?_eq_none]
 intro y hy
 rw [h y hy]; exact aP9
theorem aG4 {bs:List Bx}{x y:Bx}{i:Nat} (h:∀ z ∈ bs.take i,bE z x=false) (hi:bs[i]? = some y) (hy:bE y x=true):bs.find? (fun y=>bE y x)=some y:=by
 have hl:=(aO7.mp hi).1
 have e:bs=bs.take i ++ y :: bs.drop (i+1):=by
  have:=(aQ9 i bs).symm
  rw [aZ3 hl] at this
  rw [(aO7.mp hi).2] at this
  exact this
 rw [e,List.find?_append,Q5 h]
 simp [hy]
theorem aG5:cM Q4 ["boxes","box","other"] kH:=by
 rintro xs Q ⟨bs,x,rfl,q⟩
 refine⟨_,rfl,aN bs,rfl,lR,fun i ρ=>(∀ y ∈ bs.take i,bE y x=false)/\∃ z,ρ = [some (.sh (flat (.lst (aN bs))) (.lst (aN bs))),some (.sh (flat (bC x)) (bC x)),z],⟨fun y hy=>(by rw [List.take_zero] at hy; cases hy),none,rfl⟩,?_,?_⟩
 ·rintro i v ρ hv ⟨hno,z,rfl⟩
  obtain ⟨y,rfl,hy⟩:=o5 hv
  refine o3 (iX y) ?_
  refine⟨_,rfl,_,rfl,y,x,rfl,_,rfl,?_⟩
  cases hn:bE y x with
  | true=>
   refine bI ⟨_,rfl,trivial,?_⟩
   rw [aG4 hno hy hn] at q
   exact q
  | false=>
   refine b6 ⟨fun w hw=>?_,_,rfl⟩
   rw [aU0,hy] at hw
   rcases aS7.mp hw with g | g
   ·exact hno w g
   ·rw [show w=y by simpa using g]; exact hn
 ·rintro ρ ⟨hno,z,rfl⟩
  rw [jI,aX3] at hno
  rw [Q5 hno] at q
  exact⟨trivial,q⟩
abbrev e8 (s:Bx × Bx):PV:=.tup [bC s.1,bC s.2]
theorem vT (s:Bx × Bx):flat (e8 s)=true:=by
 show (flat (bC s.1) && (flat (bC s.2) && true))=true
 rw [iX,iX]; rfl
def aY (T:List Bx):List (List aJ × PV):=T.map fun x=>(kn x.k,PV.bl true)
theorem Q6 {a b:Bx} (h:kn a.k=kn b.k):a=b:=Bx.k_inj (by
 have:=congrArg (List.map fun k:aJ=>match k with | .inl i=>i | .inr _=>0) h
 unfold kn at this
 rw [aR7,aR7] at this
 exact (List.map_id _).symm.trans (Eq.trans this (List.map_id _)))
theorem aG6 (T:List Bx):(aY T).map (·.1)=(T.map Bx.k).map kn:=by unfold aY; rw [aR7,aR7]; rfl
theorem Q7 (T:List Bx) (x:Bx):((aY T).any fun p=>decide (p.1=kn x.k))=decide (x ∈ T):=by
 rw [aW5,List.any_eq_true,aQ3]
 unfold aY
 refine⟨fun ⟨p,hp,e⟩=>?_,fun h=>⟨_,aQ8.mpr ⟨x,h,rfl⟩,aO4 rfl⟩⟩
 obtain ⟨y,hy,rfl⟩:=aQ8.mp hp
 rw [<- Q6 (of_decide_eq_true e:kn y.k=kn x.k)]; exact hy
theorem rF (T:List Bx) (x:Bx):(dI (aY T) (kn x.k)).isSome=decide (x ∈ T):=by rw [<- F5,Q7]
theorem o7 (T:List Bx) (x:Bx):jB (aY T) (kn x.k) (.bl true)=aY (if x ∈ T then T else T ++ [x]):=by
 unfold jB
 rw [Q7]
 by_cases h:x ∈ T
 ·rw [aO4 h,if_pos rfl,if_pos h]
  unfold aY
  rw [aR7]
  refine List.map_congr_left fun y _=>?_
  show (if kn y.k=kn x.k then (kn y.k,PV.bl true) else (kn y.k,PV.bl true))=_
  split <;> rfl
 ·rw [aO1 h,if_neg (by decide),if_neg h]
  unfold aY
  rw [aQ4]; rfl
theorem o8 (T:List Bx):(aY T).length=T.length:=by unfold aY; rw [aO2]
theorem vU (T:List Bx):flats ((aY T).map (·.2))=true:=by
 unfold aY
 rw [aR7]
 induction T with
 | nil=>rfl
 | cons a r ih=>exact ih
theorem dN (l:List Int):(kn l).map kP=intz l:=by unfold kn; rw [aR7]; rfl
def rG:bN:=fun xs Q=>∃ (T:List Bx) (s:Bx × Bx),xs = [.dT (aY T),e8 s]/\Q (.bl (dL T s))
def Q8 (K:PySem.W.Frag):aP:=(aG (bV (eD (eF (aX (fY K "tuple" (a5 1)))) (aX (tT (aC dG (a6 (a5 1) a9)) (qC (.int 2))))) (bJ (qC (.bl false))) bZ)
 (aG (bV (eD (aX (l9 true (aW (a5 1) (qC (.int 0))) (a5 0))) (aX (l9 true (aW (a5 1) (qC (.int 1))) (a5 0)))) (bJ (qC (.bl false))) bZ)
 (bJ (jT (q2 lL (aW (a5 1) (qC (.int 0))) (aW (a5 1) (qC (.int 1)))) (aC lS (a6 (aW (a5 1) (qC (.int 0))) (a6 (aW (a5 1) (qC (.int 1))) a9)))))))
theorem aG7 {K:PySem.W.Frag} (kt:PySem.W.kitOne K (.type "tuple") (.type "tuple")=some true):cM (Q8 K) ["there","step"] rG:=by
 rintro xs Q ⟨T,s,rfl,q⟩
 refine⟨_,rfl,_,_,rfl,kt,_,rfl,b6 ⟨_,rfl,_,_,rfl,rfl,.inl ⟨_,_,rfl,rfl,_,rfl,b6 ?_⟩⟩⟩
 refine⟨_,rfl,_,_,_,rfl,rfl,rfl,_,rfl,_,.inr ⟨aY T,kn s.1.k,rfl,by rw [dN],rfl⟩,_,rfl,?_⟩
 show if (!(dI (aY T) (kn s.1.k)).isSome)=true then _ else _
 rw [rF]
 by_cases h1:s.1 ∈ T
 ·rw [aO4 h1]
  refine b6 ⟨_,rfl,_,_,_,rfl,rfl,rfl,_,rfl,_,.inr ⟨aY T,kn s.2.k,rfl,by rw [dN],rfl⟩,_,rfl,?_⟩
  show if (!(dI (aY T) (kn s.2.k)).isSome)=true then _ else _
  rw [rF]
  by_cases h2:s.2 ∈ T
  ·rw [aO4 h2]
   refine b6 ⟨_,rfl,_,_,_,rfl,rfl,rfl,_,rfl,_,_,_,rfl,rfl,rfl,s.1.k,s.2.k,rfl,rfl,_,rfl,?_⟩
   unfold dL at q
   rw [aO4 h1,aO4 h2,Bool.true_and,Bool.true_and] at q
   cases hl:HT.aH s.1.k s.2.k with
   | true=>
    rw [hl,Bool.true_and] at q
    exact bI ⟨_,rfl,_,_,_,rfl,rfl,rfl,_,rfl,_,_,_,rfl,rfl,rfl,s.1,s.2,rfl,trivial,q⟩
   | false=>
    rw [hl,bb0] at q
    exact b6 ⟨trivial,q⟩
  ·rw [aO1 h2]
   unfold dL at q
   rw [aO1 h2,bb0,Bool.and_false] at q
   exact bI ⟨trivial,q⟩
 ·rw [aO1 h1]
  unfold dL at q
  rw [aO1 h1,bb0] at q
  exact bI (bI ⟨trivial,q⟩)
def rH:bN:=fun xs Q=>∃ ls:List Bx,xs = [.lst (aN ls)]/\ls.Nodup/\ls.length<=4096/\Q (.dT (aY ls))
def Q9:aP:=(aG (fH 1 (qC (.dT [])))
 (aG (dH (fX (a5 0)) (dC 2)
  (jX 1 (a5 2) (qC (.bl true))))
 (iJ 1)))
theorem aG8:cM Q9 ["hearths","inside","hearth"] rH:=by
 rintro xs Q ⟨ls,rfl,nd,hl,q⟩
 refine⟨rfl,rfl,_,rfl,aN ls,rfl,lR,fun i ρ=>∃ y,ρ = [some (.sh (flat (.lst (aN ls))) (.lst (aN ls))),some (.own (.dT (aY (ls.take i)))),y],⟨none,rfl⟩,?_,?_⟩
 ·rintro i y ρ hy ⟨y0,rfl⟩
  obtain ⟨l,rfl,h⟩:=o5 hy
  have tk:jB (aY (ls.take i)) (kn l.k) (.bl true)=aY (ls.take (i+1)):=by rw [o7,if_neg (M6 nd h),aU0,h]; rfl
  refine⟨_,rfl,_,rfl,kn l.k,by rw [dN]; rfl,trivial,by rw [o8,aZ4]; omega,?_⟩
  rw [tk]
  exact⟨_,rfl⟩
 ·rintro ρ ⟨y,rfl⟩
  rw [jI,aX3]
  exact⟨_,rfl,trivial,q⟩
theorem R0 {α:Type}:∀ {l:List α}{j:Nat}{x:α},l[j]? = some x->l.Perm (x :: l.eraseIdx j)
 | [],_,_,h=>by simp at h
 | a :: l,0,x,h=>by simp at h; subst h; exact aX8 _
 | a :: l,j+1,x,h=>by
  rw [aS2] at h
  exact ((R0 h).cons a).trans (bc8 _ _ _)
theorem lV {l:List Bx}{j:Nat}{x:Bx} (nd:l.Nodup) (h:l[j]? = some x):l.eraseIdx j=l.erase x:=by
 induction l generalizing j with
 | nil=>simp at h
 | cons a l ih=>
  obtain ⟨h1,h2⟩:=bb9.mp nd
  cases j with
  | zero=>simp at h; subst h; simp
  | succ j=>
   rw [aS2] at h
   have:a ≠ x:=fun e=>h1 (by rw [e]; exact aW2 h)
   rw [List.eraseIdx_cons_succ,ih h2 h,List.erase_cons_tail (by simpa using this)]
theorem rJ {α β:Type}{f:α->β}{zs:List β}{l:List α} (p:zs.Perm (l.map f)):∃ l':List α,zs=l'.map f/\l'.Perm l:=by
 generalize hm:l.map f=m at p
 induction p generalizing l with
 | nil=>exact⟨l,hm.symm,aX8 _⟩
 | cons x _ ih=>
  cases l with
  | nil=>cases hm
  | cons e l=>
   cases hm
   obtain ⟨g,hg,pg⟩:=ih rfl
   exact⟨e :: g,by rw [hg]; rfl,pg.cons _⟩
 | swap x y z=>
  match l,hm with
  | e :: e' :: l,hm=>
   cases hm
   exact⟨e' :: e :: l,rfl,bc8 _ _ _⟩
 | trans _ _ ih1 ih2=>
  obtain ⟨g,hg,pg⟩:=ih2 hm
  obtain ⟨g',hg',pg'⟩:=ih1 hg.symm
  exact⟨g',hg',pg'.trans pg⟩
theorem cF.perm {T T':List Bx} (p:T.Perm T') (h:cF T):cF T':=(p.pairwise_iff fun {x y} z=>by rw [lO]; exact z).mp h
theorem R3 {ls:List b8} (nd:ls.Nodup):(ls.map cX).Nodup:=aT1.mpr (nd.imp fun {a b} ne e=>ne (by
 unfold cX at e
 simp only [Bx.mk.injEq] at e
 exact bb2 e.1 e.2.1))
structure gS (ls:List b8) (sts:List (Bx × Bx)) (se more:List Bx):Prop where
 ex:∃ T,bW (ls.map cX) sts=some T/\T.Perm (se ++ more)
 far:cF se
def cY (g c:Bx):Bx × Bx:=if HT.aH c.k g.k=true then (c,g) else (g,c)
theorem vV {g c:Bx} (ne:g ≠ c) (h:HT.aH c.k g.k=false):HT.aH g.k c.k=true:=by
 cases e:HT.aH g.k c.k with
 | true=>rfl
 | false=>exact absurd (Bx.k_inj (oV e h)) ne
theorem aG9 {g c:Bx} (h1:okX g) (h2:okX c) (ne:g ≠ c):3<=iW (bM g c):=by
 refine Classical.byContradiction fun z=>ne ?_
 obtain ⟨a,b,d,e⟩:=g
 obtain ⟨a',b',d',e'⟩:=c
 unfold iW bM at z
 unfold okX at h1 h2
 dsimp only at *
 simp only [Bx.mk.injEq]
 omega
theorem gS.step {ls:List b8}{sts:List (Bx × Bx)}{se:List Bx}{g c:Bx}{more:List b8}{j:Nat} (nd:ls.Nodup) (h:gS ls sts se (g :: more.map cX)) (hj:se[j]? = some c) (nr:bE c g=true) :
  g ≠ c/\gS ls (sts ++ [cY g c]) (se.eraseIdx j) (bM g c :: more.map cX):=by
 obtain ⟨T,hw,pm⟩:=h.ex
 obtain ⟨ow,tnd⟩:=jH nd sts hw
 have snd:(se ++ g :: more.map cX).Nodup:=pm.nodup_iff.mp tnd
 have hc:=aW2 hj
 obtain ⟨nd1,nd2,nd3⟩:=List.nodup_append.mp snd
 have ne:g ≠ c:=fun e=>nd3 c hc g aO9 e.symm
 have gT:g ∈ T:=pm.mem_iff.mpr (by simp)
 have cT:c ∈ T:=pm.mem_iff.mpr (aT8 _ hc)
 have okg:=ow.ok gT
 have okc:=ow.ok cT
 have p1:(cY g c).1=c/\(cY g c).2=g ∨ (cY g c).1=g/\(cY g c).2=c:=by unfold cY; split; exact .inl ⟨rfl,rfl⟩; exact .inr ⟨rfl,rfl⟩
 have hu:bM (cY g c).1 (cY g c).2=bM g c:=by
  rcases p1 with ⟨e1,e2⟩ | ⟨e1,e2⟩ <;> rw [e1,e2]
  exact aF0 _ _
 have ok:dL T (cY g c)=true:=by
  refine kG.mpr ⟨?_,?_,?_,?_⟩
  ·rcases p1 with ⟨e1,_⟩ | ⟨e1,_⟩ <;> rw [e1] <;> assumption
  ·rcases p1 with ⟨_,e1⟩ | ⟨_,e1⟩ <;> rw [e1] <;> assumption
  ·unfold cY
   cases hl:HT.aH c.k g.k with
   | true=>exact hl
   | false=>exact vV ne hl
  ·rcases p1 with ⟨e1,e2⟩ | ⟨e1,e2⟩ <;> rw [e1,e2]
   ·exact nr
   ·rw [lO]; exact nr
 have pse:=R0 hj
 have cutP':(dM T (cY g c)).Perm (se.eraseIdx j ++ more.map cX):=by
  have a1:(c :: g :: dM T (cY g c)).Perm (c :: g :: (se.eraseIdx j ++ more.map cX)):=by
   have b1:(c :: g :: dM T (cY g c)).Perm T:=by
    refine List.Perm.trans ?_ (rE ok).symm
    rcases p1 with ⟨e1,e2⟩ | ⟨e1,e2⟩ <;> rw [e1,e2]
    exact bc8 _ _ _
   refine b1.trans (pm.trans ((pse.append_right _).trans ?_))
   show (c :: (se.eraseIdx j ++ g :: more.map cX)).Perm _
   exact List.perm_middle.cons c
  exact a1.cons_inv.cons_inv
 have hn:bM g c ∉ dM T (cY g c):=fun z=>by
  rcases aS7.mp (cutP'.mem_iff.mp z) with z | z
  ·have hs:=(List.eraseIdx_sublist se j).subset z
   have okk:=okc
   unfold okX at okk
   have:bE c (bM g c)=true:=vL (p:=(c.t,c.l)) (by unfold aU; dsimp only; omega) (vN (by unfold aU; dsimp only; omega))
   have e:=h.far.eq hc hs this
   have nd5:(c :: se.eraseIdx j).Nodup:=pse.nodup_iff.mp nd1
   exact (bb9.mp nd5).1 (by rw [e]; rw [e] at z; rwa [e])
  ·obtain ⟨p,_,e⟩:=aQ8.mp z
   have:=aG9 okg okc ne
   rw [<- e] at this
   unfold iW cX at this
   dsimp only at this
   omega
 refine⟨ne,⟨dY T (cY g c),?_,?_⟩,h.far.sublist (List.eraseIdx_sublist se j)⟩
 ·rw [lQ,hw]
  show dZ (cY g c) T=_
  unfold dZ
  rw [if_pos ok]
 ·unfold dY
  rw [hu,if_neg hn]
  refine (cutP'.append_right _).trans ?_
  rw [aP8]
  refine bb7 _ ?_
  exact aU3
theorem aH0 {α:Type}{P:List α->Prop} (h0:P []) (hs:∀ a s,P a->P (a ++ [s])) (l:List α):P l:=by
 rw [<- List.reverse_reverse l]
 induction l.reverse with
 | nil=>exact h0
 | cons x r ih=>rw [List.reverse_cons]; exact hs _ _ ih
theorem gS.len {ls:List b8}{sts:List (Bx × Bx)}:∀ {T:List Bx},bW (ls.map cX) sts=some T->T.length<=ls.length:=by
 refine aH0 (P:=fun sts=>∀ {T:List Bx},bW (ls.map cX) sts=some T->T.length<=ls.length) ?_ ?_ sts
 ·intro T h; cases h; rw [aO2]; exact aO6 _
 ·intro a s ih T h
  rw [lQ] at h
  cases hw:bW (ls.map cX) a with
  | none=>rw [hw] at h; cases h
  | some T1=>
   rw [hw] at h
   have h:dZ s T1=some T:=h
   unfold dZ at h
   split at h
   ·rename_i ok
    cases h
    have:=ih hw
    have:=(rE ok).length_eq
    rw [aR9,aR9] at this
    unfold dY
    split
    ·omega
    ·rw [aR3,aS6]; omega
   ·cases h
abbrev b7 (sts:List (Bx × Bx)):List PV:=sts.map e8
theorem R4 {sts:List (Bx × Bx)}{i:Nat}{v:PV} (h:(b7 sts)[i]? = some v):∃ s,v=e8 s/\sts[i]? = some s:=by
 rw [aP4] at h
 cases e:sts[i]? with
 | none=>rw [e] at h; cases h
 | some x=>rw [e] at h; cases h; exact⟨x,rfl,rfl⟩
def kI:eZ:=fun Ep xs Q=>∃ (r c:Int) (x:PV) (ls:List b8),xs = [.int r,.int c,x]/\(x = .tup (b9 ls) ∨ x = .lst (b9 ls))/\ls.length<=4096/\(¬ cQ r c->Ep "BadBoard")/\(cQ r c->¬ dX r c ls->Ep "BadSet")/\
 (cQ r c->dX r c ls->∀ sts T,bW (ls.map cX) sts=some T->cF T->sts.length<=ls.length->Q (.lst (b7 sts)))
def R5 (Ep:Str->Prop):aP:=(aG (fH 3 (gX a9))
 (aG (fH 4 (gX a9))
 (aG (dH (fX (aC lU (a6 (kC Ep lM (a6 (a5 0) (a6 (a5 1) (a6 (a5 2) a9)))) a9))) (dC 5)
  (aG (bF 6 (a5 5))
  (aG (bF 7 (aC kH (a6 (a5 3) (a6 (a5 6) a9))))
  (aG (p6 (aX (zP (a5 7) (qC .non)))
   (aG (iK 4 (eY (a6 (aC vG (a6 (a5 6) (a6 (a5 7) a9))) (a6 (aC vH (a6 (a5 6) (a6 (a5 7) a9))) a9))))
   (aG (bF 6 (aC lT (a6 (a5 6) (a6 (a5 7) a9))))
   (aG (vI 3 (a5 7))
   (bF 7 (aC kH (a6 (a5 3) (a6 (a5 6) a9))))))))
  (iK 3 (a5 6))))))
 (iJ 4))))
theorem aH1:nW R5 ["rows","columns","seeds","settled","steps","box","growing","close"] kI:=by
 rintro Ep xs Q ⟨r,c,x,ls,rfl,hx,hl,e1,e2,q⟩
 refine⟨by show 0<=1000; decide,rfl,rfl,rfl,by show 0<=1000; decide,rfl,rfl,rfl,?_⟩
 refine⟨_,rfl,_,rfl,_,rfl,r,c,x,ls,rfl,hx,hl,e1,e2,fun ok st=>?_⟩
 have q:=q ok st
 have nd:ls.Nodup:=qT st.1
 refine⟨_,ls,rfl,.inl rfl,hl,aN (ls.map cX),rfl,(fun z=>by cases z),fun i ρ=>∃ (se:List Bx) (sts:List (Bx × Bx)) (y5 y6 y7:Option Slot),ρ = [si r,si c,some (.sh (flat x) x),some (.own (.lst (aN se))),some (.own (.lst (b7 sts))),y5,y6,y7]/\gS ls sts se ((ls.drop i).map cX)/\sts.length+se.length=i,
  ⟨[],[],none,none,none,rfl,⟨⟨_,rfl,aX8 _⟩,aX7⟩,rfl⟩,?_,?_⟩
 ·rintro i v ρ hv ⟨se,sts,y5,y6,y7,rfl,gr,cnt⟩
  obtain ⟨b,rfl,hb⟩:=o5 hv
  rw [aP4] at hb
  obtain ⟨p,hp,rfl⟩:∃ p,ls[i]? = some p/\b=cX p:=by
   cases e:ls[i]? with
   | none=>rw [e] at hb; cases hb
   | some p=>rw [e] at hb; cases hb; exact⟨p,rfl,rfl⟩
  have il:=(aO7.mp hp).1
  have dr:ls.drop i=p :: ls.drop (i+1):=by rw [aZ3 il,(aO7.mp hp).2]
  rw [dr,aT4] at gr
  refine o3 (iX _) ?_
  refine⟨_,rfl,trivial,?_⟩
  refine⟨_,rfl,_,rfl,se,cX p,rfl,trivial,?_⟩
  refine⟨fun m ρ=>∃ (se:List Bx) (sts:List (Bx × Bx)) (g:Bx),ρ = [si r,si c,some (.sh (flat x) x),some (.own (.lst (aN se))),some (.own (.lst (b7 sts))),some (.sh true (bC (cX p))),some (.sh true (bC g)),some (.sh true (vS (se.find? fun y=>bE y g)))]/\gS ls sts se (g :: (ls.drop (i+1)).map cX)/\sts.length+se.length=i/\m=se.length,
   ⟨_,se,sts,cX p,rfl,gr,cnt,rfl⟩,?_⟩
  rintro m ρ ⟨se,sts,g,rfl,gr,cnt,rfl⟩
  refine⟨_,rfl,rfl,_,rfl,?_⟩
  cases hf:se.find? fun y=>bE y g with
  | none=>
   refine b6 ⟨_,rfl,_,rfl,trivial,by rw [jI]; omega,?_⟩
   refine⟨se ++ [g],sts,some (.sh true (bC (cX p))),some (.sh true (bC g)),some (.sh true (vS none)),?_,⟨?_,?_⟩,by rw [aR3,aS6]; omega⟩
   ·have:aN se ++ [bC g]=aN (se ++ [g]):=by unfold aN eN; rw [aQ4,aQ4]; rfl
    show [_,_,_,some (Slot.own (PV.lst (aN se ++ [bC g]))),_,_,_,_]=_
    rw [this]
   ·obtain ⟨T,hw,pm⟩:=gr.ex
    exact⟨T,hw,by rw [aP8]; exact pm⟩
   ·have hn:=List.find?_eq_none.mp hf
    refine aQ2.mpr ⟨gr.far,aS4 _ _,fun a ha b hb=>?_⟩
    rw [aP0.mp hb]
    simpa using hn a ha
  | some cl=>
   have nr:bE cl g=true:=by simpa using List.find?_some hf
   have hc:=List.mem_of_find?_eq_some hf
   obtain ⟨j,hj⟩:=ba0 hc
   obtain ⟨ne,gr2⟩:=gr.step nd hj nr
   obtain ⟨T,hw,pm⟩:=gr.ex
   have snd:(se ++ g :: (ls.drop (i+1)).map cX).Nodup:=pm.nodup_iff.mp (jH nd sts hw).2
   have nd1:=(List.nodup_append.mp snd).1
   have il':i < 4096:=by omega
   refine bI ⟨_,rfl,_,rfl,_,rfl,g.k,cl.k,rfl,_,rfl,_,rfl,g.k,cl.k,rfl,by show 2<=1000; decide,?_,trivial,by rw [aO2]; omega,?_⟩
   ·show (flat (.tup (intz (if HT.aH cl.k g.k=true then cl.k else g.k))) && (flat (.tup (intz (if HT.aH g.k cl.k=true then cl.k else g.k))) && true))=true
    rw [nP,nP]; rfl
   have eS:PV.tup [.tup (intz (if HT.aH cl.k g.k=true then cl.k else g.k)),.tup (intz (if HT.aH g.k cl.k=true then cl.k else g.k))]=e8 (cY g cl):=by
    unfold cY
    cases hl:HT.aH cl.k g.k with
    | true=>rw [jS hl]; rfl
    | false=>rw [vV ne hl]; rfl
   refine⟨_,rfl,_,rfl,g,cl,rfl,trivial,?_⟩
   refine⟨se.map Bx.k,rfl,_,rfl,cl.k,j,rfl,by rw [aP4,hj]; rfl,fun k hk e=>?_,by rw [aO2]; omega,?_⟩
   ·rw [aP4] at e
    cases e2:se[k]? with
    | none=>rw [e2] at e; cases e
    | some y=>
     rw [e2] at e
     have e3:=Bx.k_inj (aQ0 e)
     subst e3
     have kl:=(aO7.mp e2).1
     have jl:=(aO7.mp hj).1
     have:=aR6.mp nd1 k j kl jl hk
     exact this ((aO7.mp e2).2.trans (aO7.mp hj).2.symm)
   have jl:=(aO7.mp hj).1
   have cutE:((se.map Bx.k).eraseIdx j).map (fun r=>PV.tup (intz r))=aN (se.eraseIdx j):=by
    unfold aN eN
    rw [<- Raw.iS]
   dsimp only
   rw [cutE]
   refine⟨_,rfl,_,rfl,se.eraseIdx j,bM g cl,rfl,trivial,?_⟩
   have le:(se.eraseIdx j).length+1=se.length:=by rw [List.length_eraseIdx,if_pos jl]; omega
   refine⟨(se.eraseIdx j).length,by omega,se.eraseIdx j,sts ++ [cY g cl],bM g cl,?_,gr2,by rw [aR3,aS6]; omega,rfl⟩
   show [_,_,_,_,some (Slot.own (PV.lst (b7 sts ++ [PV.tup [.tup (intz (if HT.aH cl.k g.k=true then cl.k else g.k)),.tup (intz (if HT.aH g.k cl.k=true then cl.k else g.k))]]))),_,_,_]=_
   rw [eS]
   have:b7 sts ++ [e8 (cY g cl)]=b7 (sts ++ [cY g cl]):=by unfold b7; rw [aQ4]; rfl
   rw [this]; rfl
 ·rintro ρ ⟨se,sts,y5,y6,y7,rfl,gr,cnt⟩
  rw [jI,aO2] at gr cnt
  rw [List.drop_length] at gr
  obtain ⟨T,hw,pm⟩:=gr.ex
  rw [List.map_nil,aY8] at pm
  exact⟨_,rfl,trivial,q sts T hw (gr.far.perm pm.symm) (by omega)⟩
def kJ:eZ:=fun Ep xs Q=>∃ (r c:Int) (x:PV) (ls:List b8) (sts:List (Bx × Bx)),xs = [.int r,.int c,x,.lst (b7 sts)]/\(x = .tup (b9 ls) ∨ x = .lst (b9 ls))/\ls.length<=4096/\(¬ cQ r c->Ep "BadBoard")/\(cQ r c->¬ dX r c ls->Ep "BadSet")/\
 (cQ r c->dX r c ls->(bW (ls.map cX) sts=none->Ep "NoPaper")/\∀ T,bW (ls.map cX) sts=some T->(¬ cF T->Ep "NoPaper")/\(cF T->∀ bs:List Bx,bs.Perm T->bs.Pairwise (fun u v=>HT.aH v.k u.k=false)->Q (.lst (aN bs))))
def R6 (Ep:Str->Prop):aP:=(aG (fH 4 (aC rH (a6 (aC lU (a6 (kC Ep lM (a6 (a5 0) (a6 (a5 1) (a6 (a5 2) a9)))) a9)) a9)))
 (aG (dH (fX (a5 3)) (dC 5)
  (aG (bV (eF (aX (aC rG (a6 (a5 4) (a6 (a5 5) a9))))) (lJ Ep "NoPaper" (a6 (qC (.str "a step is of two near boxes that are there, the lesser first")) a9)) bZ)
  (aG (jG 4 (aW (a5 5) (qC (.int 0))))
  (aG (jG 4 (aW (a5 5) (qC (.int 1))))
  (jX 4 (aC lT (a6 (aW (a5 5) (qC (.int 0))) (a6 (aW (a5 5) (qC (.int 1))) a9))) (qC (.bl true)))))))
 (aG (bF 6 (aC vD (a6 (a5 4) a9)))
 (aG (dH (uU (a5 6)) (gK 7 8)
  (bV (aX (zP (aC kH (a6 (mU (a5 6) mS (mT (a5 7))) (a6 (a5 8) a9))) (qC .non))) (lJ Ep "NoPaper" (a6 (qC (.str "near boxes are left behind the last step")) a9)) bZ))
 (iJ 6)))))
theorem lW (T:List Bx) (j:Nat):(aY T).eraseIdx j=aY (T.eraseIdx j):=by unfold aY; rw [Raw.iS]
theorem lX {T:List Bx}{j:Nat}{x:Bx} (h:((aY T).map (·.1))[j]? = some (kn x.k)):T[j]? = some x:=by
 unfold aY at h
 rw [aR7,aP4] at h
 cases e:T[j]? with
 | none=>rw [e] at h; cases h
 | some y=>rw [e] at h; rw [Q6 (aQ0 h)]
theorem lY {T:List Bx}{x:Bx} (h:x ∈ T):∃ j:Nat,((aY T).map (·.1))[j]? = some (kn x.k):=by
 obtain ⟨j,hj⟩:=ba0 h
 refine⟨j,?_⟩
 unfold aY
 rw [aR7,aP4,hj]; rfl
theorem aH2:nW R6 ["rows","columns","seeds","steps","there","step","boxes","turn","box"] kJ:=by
 rintro Ep xs Q ⟨r,c,x,ls,sts,rfl,hx,hl,e1,e2,q⟩
 refine⟨_,rfl,_,rfl,_,rfl,r,c,x,ls,rfl,hx,hl,e1,e2,fun ok st=>?_⟩
 obtain ⟨qn,q⟩:=q ok st
 have nd:ls.Nodup:=qT st.1
 refine⟨_,ls,rfl,.inl rfl,hl,ls.map cX,rfl,R3 nd,by rw [aO2]; exact hl,rfl,vU _,?_⟩
 refine⟨_,rfl,b7 sts,rfl,lR,fun i ρ=>∃ (T:List Bx) (z5:Option Slot),bW (ls.map cX) (sts.take i)=some T/\ρ = [si r,si c,some (.sh (flat x) x),some (.sh (flat (.lst (b7 sts))) (.lst (b7 sts))),some (.own (.dT (aY T))),z5,none,none,none],⟨ls.map cX,none,rfl,rfl⟩,?_,?_⟩
 ·rintro i v ρ hv ⟨T,z5,hw,rfl⟩
  obtain ⟨s,rfl,hs⟩:=R4 hv
  have tk:sts.take (i+1)=sts.take i ++ [s]:=by rw [aU0,hs]; rfl
  have wn:bW (ls.map cX) (sts.take (i+1))=dZ s T:=by rw [tk,lQ,hw]; rfl
  have tnd:=(jH nd _ hw).2
  have tl:=gS.len hw
  refine o3 (vT s) ?_
  refine⟨_,rfl,_,rfl,T,s,rfl,_,rfl,?_⟩
  cases hok:dL T s with
  | false=>
   refine bI ⟨by show 1<=1000; decide,qn ?_⟩
   have:bW (ls.map cX) (sts.take (i+1))=none:=by rw [wn]; unfold dZ; rw [hok]; rfl
   have:=O9 (b:=sts.drop (i+1)) this
   rwa [aQ9] at this
  | true=>
   obtain ⟨h1,h2,h3,h4⟩:=kG.mp hok
   have ne:=rD h3
   refine b6 ⟨aY T,rfl,_,rfl,_,_,_,rfl,rfl,rfl,kn s.1.k,by rw [dN],lY h1,fun j hj=>?_⟩
   rw [lW,lV tnd (lX hj)]
   have h2':s.2 ∈ T.erase s.1:=(List.mem_erase_of_ne ne.symm).mpr h2
   refine⟨aY (T.erase s.1),rfl,_,rfl,_,_,_,rfl,rfl,rfl,kn s.2.k,by rw [dN],lY h2',fun j hj=>?_⟩
   rw [lW,lV (tnd.erase _) (lX hj)]
   have ll:(dM T s).length<=T.length:=aQ7 (ba1 ..) (ba1 ..)
   refine⟨aY (dM T s),rfl,_,rfl,_,_,_,rfl,rfl,rfl,_,rfl,_,_,_,rfl,rfl,rfl,s.1,s.2,rfl,kn (bM s.1 s.2).k,by rw [dN],trivial,by rw [o8]; omega,?_⟩
   rw [o7]
   refine⟨dY T s,some (.sh true (e8 s)),?_,rfl⟩
   rw [wn]
   unfold dZ
   rw [if_pos hok]
 ·rintro ρ ⟨T,z5,hw,rfl⟩
  rw [aO2,aX3] at hw
  obtain ⟨q1,q2⟩:=q T hw
  refine⟨_,rfl,aY T,T.map Bx.k,rfl,aG6 T,fun k hk=>?_,fun ms pm so=>⟨trivial,?_⟩⟩
  ·obtain ⟨b,_,rfl⟩:=aQ8.mp hk
   unfold Bx.k
   exact List.cons_ne_nil _ _
  obtain ⟨bs,rfl,pb⟩:=rJ pm
  rw [aT1] at so
  refine⟨_,rfl,aN bs,.inl rfl,(fun z=>by cases z),fun i ρ=>∃ z7 z8:Option Slot,cF (bs.take i)/\ρ = [si r,si c,some (.sh (flat x) x),some (.sh (flat (.lst (b7 sts))) (.lst (b7 sts))),some (.own (.dT (aY T))),z5,some (.sh true (.lst (aN bs))),z7,z8],⟨none,none,by rw [List.take_zero]; exact aX7,rfl⟩,?_,?_⟩
  ·rintro i v ρ hv ⟨z7,z8,far,rfl⟩
   obtain ⟨w,hw2,rfl⟩:=aw2 hv
   obtain ⟨b,rfl,hb⟩:=o5 hw2
   have tk:bs.take (i+1)=bs.take i ++ [b]:=by rw [aU0,hb]; rfl
   refine⟨_,_,rfl,?_⟩
   have cut:gL (aN bs) none (some (i:Int))=aN (bs.take i):=by
    rw [uW (by omega)]
    unfold aN eN
    rw [show ((i:Int)).toNat=i by omega,List.map_take,List.map_take]
   refine⟨_,rfl,_,rfl,(i:Int),rfl,aN bs,rfl,vR bs,_,rfl,bs.take i,b,by rw [cut]; rfl,rfl,_,rfl,?_⟩
   cases hf:(bs.take i).find? fun y=>bE y b with
   | some y=>
    refine bI ⟨by show 1<=1000; decide,q1 fun fT=>?_⟩
    have nr:bE y b=true:=by simpa using List.find?_some hf
    have fb:cF (bs.take (i+1)):=(fT.perm pb.symm).sublist (ba2 _ _)
    rw [tk] at fb
    have:=(aQ2.mp fb).2.2 y (List.mem_of_find?_eq_some hf) b (by simp)
    rw [nr] at this; cases this
   | none=>
    refine b6 ⟨_,_,?_,rfl⟩
    have hn:=List.find?_eq_none.mp hf
    rw [tk]
    refine aQ2.mpr ⟨far,aS4 _ _,fun a ha b' hb'=>?_⟩
    rw [aP0.mp hb']
    simpa using hn a ha
  ·rintro ρ ⟨z7,z8,far,rfl⟩
   rw [uT,jI,aX3] at far
   exact⟨_,rfl,trivial,q2 (far.perm pb) bs pb so⟩
structure rK (ls:List b8) (bs:List Bx):Prop where
 own:cO ls bs
 far:cF bs
 so:bs.Pairwise fun u v=>HT.aH v.k u.k=false
 len:bs.length<=ls.length
def rL:eZ:=fun Ep xs Q=>∃ (r c:Int) (x:PV) (ls:List b8),xs = [.int r,.int c,x]/\(x = .tup (b9 ls) ∨ x = .lst (b9 ls))/\ls.length<=4096/\(¬ cQ r c->Ep "BadBoard")/\(cQ r c->¬ dX r c ls->Ep "BadSet")/\
 (cQ r c->dX r c ls->∀ bs,rK ls bs->Q (.lst (aN bs)))
def R7 (Ep:Str->Prop):aP:=(bJ (kC Ep kJ (a6 (a5 0) (a6 (a5 1) (a6 (a5 2) (a6 (kC Ep kI (a6 (a5 0) (a6 (a5 1) (a6 (a5 2) a9)))) a9))))))
theorem aH3:nW R7 ["rows","columns","seeds"] rL:=by
 rintro Ep xs Q ⟨r,c,x,ls,rfl,hx,hl,e1,e2,q⟩
 refine⟨_,rfl,_,rfl,_,rfl,_,rfl,_,rfl,_,rfl,r,c,x,ls,rfl,hx,hl,e1,e2,fun ok st sts T hw far sl=>?_⟩
 have nd:ls.Nodup:=qT st.1
 refine⟨r,c,x,ls,sts,rfl,hx,hl,e1,e2,fun _ _=>⟨(fun z=>by rw [hw] at z; cases z),fun T' hw'=>?_⟩⟩
 rw [hw] at hw'
 cases hw'
 exact⟨fun z=>absurd far z,fun _ bs pb so=>⟨trivial,q ok st bs ⟨((jH nd sts hw).1).perm pb,far.perm pb.symm,so,by rw [pb.length_eq]; exact gS.len hw⟩⟩⟩
def lZ:bN:=fun xs Q=>∃ bs:List Bx,xs = [.lst (aN bs),.lst (aN bs)]/\bs.length<=4096/\Q (.bl true)
def R8 (K:PySem.W.Frag):aP:=(aG (bV (eD (eF (aX (fY K "list" (a5 0)))) (aX (tT (aC dG (a6 (a5 0) a9)) (aC dG (a6 (a5 1) a9))))) (bJ (qC (.bl false))) bZ)
 (aG (dH (l5 (aC dG (a6 (a5 1) a9))) (dC 2)
  (aG (bV (eD (eF (aX (fY K "tuple" (aW (a5 0) (a5 2))))) (aX (q2 (jY 2 true) (aW (a5 0) (a5 2)) (aW (a5 1) (a5 2))))) (bJ (qC (.bl false))) bZ)
  (dH (fX (aW (a5 0) (a5 2))) (dC 3)
   (bV (eF (aX (aC qI (a6 (a5 3) a9)))) (bJ (qC (.bl false))) bZ))))
 (bJ (qC (.bl true)))))
theorem aH4 {K:PySem.W.Frag} (kl:PySem.W.kitOne K (.type "list") (.type "list")=some true) (kt:PySem.W.kitOne K (.type "tuple") (.type "tuple")=some true):cM (R8 K) ["found","due","k","number"] lZ:=by
 rintro xs Q ⟨bs,rfl,hl,q⟩
 have pl:=jI bs
 obtain ⟨f0,hf0⟩:∃ f0,flat (.lst (aN bs))=f0:=⟨_,rfl⟩
 refine⟨_,rfl,_,_,rfl,kl,_,rfl,b6 ⟨_,rfl,_,_,rfl,rfl,_,rfl,_,_,rfl,rfl,.inl ⟨_,_,rfl,rfl,_,rfl,?_⟩⟩⟩
 show if (!decide (((aN bs).length:Int)=((aN bs).length:Int)))=true then _ else _
 rw [aO4 rfl]
 refine b6 ?_
 refine⟨_,rfl,_,_,rfl,rfl,_,rfl,by omega,by omega,fun i ρ=>∃ z2 z3:Option Slot,ρ = [some (.sh f0 (.lst (aN bs))),some (.sh f0 (.lst (aN bs))),z2,z3],⟨none,none,?_⟩,?_,?_⟩
 ·show dS _ _=_
  unfold dS
  show [some (Slot.sh (flat (.lst (aN bs))) (.lst (aN bs))),some (Slot.sh (flat (.lst (aN bs))) (.lst (aN bs))),_,_]=_
  rw [hf0]
 ·rintro i z ρ hz ⟨z2,z3,rfl⟩
  obtain ⟨rfl,hi⟩:=qG hz
  have i1:i < bs.length:=by omega
  have hli:bs[i]? = some bs[i]:=aN6 i1
  have a1:L2.atI (aN bs) ((0:Int)+(i:Int))=some (.tup (intz bs[i].k)):=by
   rw [show (0:Int)+(i:Int)=(i:Int) by omega]
   exact oJ (P5 hli)
  refine⟨_,rfl,_,rfl,_,_,_,rfl,rfl,a1,_,_,rfl,kt,_,rfl,b6 ⟨_,rfl,_,rfl,_,_,_,rfl,rfl,a1,_,rfl,_,rfl,_,_,_,rfl,rfl,a1,.inl ⟨_,_,rfl,rfl⟩,mR 2 _ _,_,rfl,?_⟩⟩
  show if (!bG 3 (.tup (intz bs[i].k)) (.tup (intz bs[i].k)))=true then _ else _
  rw [mQ,aO4 rfl]
  refine b6 ?_
  refine⟨_,rfl,_,rfl,_,_,_,rfl,rfl,a1,intz bs[i].k,rfl,(fun z=>nP _),fun j ρ=>∃ z3:Option Slot,ρ = [some (.sh f0 (.lst (aN bs))),some (.sh f0 (.lst (aN bs))),si ((0:Int)+(i:Int)),z3],⟨z3,rfl⟩,?_,?_⟩
  ·rintro j w ρ hw ⟨z3,rfl⟩
   obtain ⟨n,rfl,hn⟩:=at5 hw
   refine G7 ?_
   refine⟨_,rfl,n,rfl,_,rfl,b6 ⟨si n,rfl⟩⟩
  ·rintro ρ ⟨z3,rfl⟩
   exact⟨_,_,rfl⟩
 ·rintro ρ ⟨z2,z3,rfl⟩
  exact⟨trivial,q⟩
def kK:bN:=fun xs Q=>∃ x y:Bx,xs = [bC x,bC y]/\Q (.bl (bE x y))
def R9:aP:=(aG (bF 2 (aC o0 (a6 (qC (.int 0)) (a6 (hG (aW (a5 0) (qC (.int 0))) (aW (a5 1) (qC (.int 2)))) (a6 (hG (aW (a5 1) (qC (.int 0))) (aW (a5 0) (qC (.int 2)))) a9)))))
 (bJ (iM (gM (a5 2) (aC o0 (a6 (qC (.int 0)) (a6 (hG (aW (a5 0) (qC (.int 1))) (aW (a5 1) (qC (.int 3)))) (a6 (hG (aW (a5 1) (qC (.int 1))) (aW (a5 0) (qC (.int 3)))) a9))))) (qC (.int 3)))))
theorem aH5:cM R9 ["one","other","down"] kK:=by
 rintro xs Q ⟨x,y,rfl,q⟩
 refine⟨_,rfl,_,_,_,rfl,rfl,rfl,_,rfl,_,_,_,rfl,rfl,rfl,x.t,y.b,rfl,rfl,_,rfl,_,_,_,rfl,rfl,rfl,_,rfl,_,_,_,rfl,rfl,rfl,y.t,x.b,rfl,rfl,_,_,_,rfl,trivial,?_⟩
 refine⟨_,rfl,_,rfl,_,_,_,rfl,rfl,rfl,_,rfl,_,_,_,rfl,rfl,rfl,x.l,y.r,rfl,rfl,_,rfl,_,_,_,rfl,rfl,rfl,_,rfl,_,_,_,rfl,rfl,rfl,y.l,x.r,rfl,rfl,_,_,_,rfl,_,_,rfl,rfl,_,_,rfl,rfl,trivial,?_⟩
 have:bE x y=decide (max 0 (max (x.t - y.b) (y.t - x.b))+max 0 (max (x.l - y.r) (y.l - x.r)) < 3):=by
  unfold bE hZ
  congr 1
  exact propext ⟨fun h=>by omega,fun h=>by omega⟩
 rw [this] at q
 exact q
theorem vW (x:Bx):x.k ≠ []:=List.cons_ne_nil _ _
theorem dX.take {r c:Int}{ls:List b8} (h:dX r c ls) (n:Nat):dX r c (ls.take n):=⟨h.1.sublist (ba2 _ _),fun l hl=>h.2 l (aZ9 hl)⟩
theorem cF.nd {T:List Bx} (h:cF T) (ok:∀ x ∈ T,okX x):T.Nodup:=h.imp_of_mem fun {x y} hx _ n e=>by
 subst e
 rw [aE7 (ok x hx)] at n; cases n
theorem aH6 {i j:Nat}{a b:Int}{g:Bool}{ρ:bD}{Q:bD->Prop} (q:Q ((ρ.set i (si a)).set j (si b))):gK i j (.tup [.int a,.int b]) g ρ Q:=by
 refine⟨_,_,rfl,?_⟩
 rw [show flat (.int a)=true from rfl,show flat (.int b)=true from rfl,Bool.or_true]
 exact q
section
variable {ns : List Int} {a r c z t l : Int} {Q : PV → Prop} (q : ∀ x : Bx, Q (bC x))
include q
end
theorem aH7 (ls:List b8) (n:Nat):(b9 ls).take n=b9 (ls.take n):=by unfold b9; rw [List.map_take]
def m5:bN:=fun xs Q=>∃ x y:Bx,xs = [bC x,bC y]/\Q (bC (bM x y))
def S0:aP:=(bJ (eY (a6 (aC jU (a6 (aW (a5 0) (qC (.int 0))) (a6 (aW (a5 1) (qC (.int 0))) a9))) (a6 (aC jU (a6 (aW (a5 0) (qC (.int 1))) (a6 (aW (a5 1) (qC (.int 1))) a9))) (a6 (aC j8 (a6 (aW (a5 0) (qC (.int 2))) (a6 (aW (a5 1) (qC (.int 2))) a9))) (a6 (aC j8 (a6 (aW (a5 0) (qC (.int 3))) (a6 (aW (a5 1) (qC (.int 3))) a9))) a9))))))
theorem aH8:cM S0 ["one","other"] m5:=fun xs Q h=>Q2 xs Q h
def m6:bN:=fun xs Q=>∃ ls:List b8,xs = [.tup (b9 ls)]/\ls.Nodup/\ls.length<=4096/\Q (.dT (aY (ls.map cX)))
def S2:aP:=(aG (fH 1 (qC (.dT [])))
 (aG (dH (fX (a5 0)) (gK 2 3)
  (jX 1 (eY (a6 (a5 2) (a6 (a5 3) (a6 (a5 2) (a6 (a5 3) a9))))) (qC (.bl true))))
 (iJ 1)))
theorem aH9:cM S2 ["seeds","there","row","column"] m6:=by
 rintro xs Q ⟨ls,rfl,nd,hl,q⟩
 refine⟨rfl,rfl,_,rfl,b9 ls,rfl,lR,fun i ρ=>∃ y2 y3,ρ = [some (.sh (flat (.tup (b9 ls))) (.tup (b9 ls))),some (.own (.dT (aY ((ls.take i).map cX)))),y2,y3],⟨none,none,rfl⟩,?_,?_⟩
 ·rintro i y ρ hy ⟨y2,y3,rfl⟩
  obtain ⟨l,rfl,h⟩:=uM hy
  refine aH6 ?_
  have no:cX l ∉ (ls.take i).map cX:=fun z=>by
   obtain ⟨p,hp,e⟩:=aQ8.mp z
   unfold cX at e
   simp only [Bx.mk.injEq] at e
   have:p=l:=bb2 e.1 e.2.1
   rw [this] at hp
   exact M6 nd h hp
  have tk:jB (aY ((ls.take i).map cX)) (kn (cX l).k) (.bl true)=aY ((ls.take (i+1)).map cX):=by rw [o7,if_neg no,aU0,h,aQ4]; rfl
  refine⟨_,rfl,_,rfl,_,rfl,_,rfl,_,rfl,by show 4<=1000; decide,rfl,kn (cX l).k,by rw [dN]; rfl,trivial,by rw [o8,aO2,aZ4]; omega,?_⟩
  rw [tk]
  exact⟨_,_,rfl⟩
 ·rintro ρ ⟨y2,y3,rfl⟩
  rw [nR,aX3]
  exact⟨_,rfl,trivial,q⟩
def rM (T:List Bx) (ps:List (Bx × Bx)):Prop:=(∀ s ∈ ps,dL T s=true)/\(ps = [] ↔ cF T)/\ps.length<=20000
def rN:bN:=fun xs Q=>∃ T:List Bx,xs = [.lst (aN T)]/\T.Nodup/\T.length<=100/\∀ ps,rM T ps->Q (.lst (b7 ps))
def o9:bN:=fun xs Q=>∃ T:List Bx,xs = [.dT (aY T)]/\T.Nodup/\T.length<=100/\∀ ps,rM T ps->Q (.lst (b7 ps))
def vX:aP:=(aG (fH 2 (gX a9))
 (aG (dH (l5 (aC dG (a6 (a5 1) a9))) (dC 3)
  (dH (fX (mU (a5 1) mS (mT (a5 3)))) (dC 4)
   (bV (aX (aC kK (a6 (aW (a5 1) (a5 3)) (a6 (a5 4) a9)))) (iK 2 (eY (a6 (a5 4) (a6 (aW (a5 1) (a5 3)) a9)))) bZ)))
 (iJ 2)))
def S3:aP:=(aG (bF 1 (aC nZ (a6 (aC kZ (a6 (a5 0) a9)) a9))) vX)
def S4:aP:=(aG (bF 1 (aC nZ (a6 (aC qH (a6 (a5 0) a9)) a9))) vX)
theorem aI0 (bs:List Bx) (i:Nat):gL (aN bs) none (some (i:Int))=aN (bs.take i):=by
 rw [uW (by omega)]
 unfold aN eN
 rw [show ((i:Int)).toNat=i by omega,List.map_take,List.map_take]
theorem S5 {y0:Option Slot}{T bs:List Bx}{Q:PV->Prop} (nd:T.Nodup) (hl:T.length<=100) (pb:bs.Perm T) (so:bs.Pairwise fun u v=>HT.aH v.k u.k=false) (q:∀ ps,rM T ps->Q (.lst (b7 ps))) :
  vX { nx:=fun _=>Q .non,rt:=Q } [y0,some (.sh true (.lst (aN bs))),none,none,none]:=by
 have bl:=jI bs
 have bln:=pb.length_eq
 have ndb:bs.Nodup:=pb.nodup_iff.mpr nd
 refine⟨by show 0<=1000; decide,rfl,rfl,rfl,?_⟩
 refine⟨_,rfl,_,_,rfl,rfl,_,rfl,by omega,by omega,fun i ρ=>∃ (ps:List (Bx × Bx)) (y3 y4:Option Slot),ρ = [y0,some (.sh true (.lst (aN bs))),some (.own (.lst (b7 ps))),y3,y4]/\(∀ s ∈ ps,dL T s=true)/\(ps = [] ↔ cF (bs.take i))/\ps.length<=100 * i,
  ⟨[],none,none,rfl,fun _ h=>(by cases h),⟨fun _=>(by rw [List.take_zero]; exact aX7),fun _=>rfl⟩,aV7 _⟩,?_,?_⟩
 ·rintro i v ρ hv ⟨ps,y3,y4,rfl,okp,nil,pl⟩
  obtain ⟨rfl,hi⟩:=qG hv
  have i1:i < bs.length:=by omega
  obtain ⟨b,hb⟩:∃ b,bs[i]? = some b:=⟨_,aN6 i1⟩
  have bm:=aW2 hb
  rw [show (0:Int)+(i:Int)=(i:Int) by omega]
  refine G7 ?_
  have a1:L2.atI (aN bs) (i:Int)=some (bC b):=oJ (P5 hb)
  have tk:bs.take (i+1)=bs.take i ++ [b]:=by rw [aU0,hb]; rfl
  have ord:∀ y ∈ bs.take i,y ∈ T/\HT.aH y.k b.k=true:=fun y hy=>by
   have s2:=so.sublist (ba2 (i+1) bs)
   have n2:=ndb.sublist (ba2 (i+1) bs)
   rw [tk] at s2 n2
   have h1:=(aQ2.mp s2).2.2 y hy b (by simp)
   have h2:=(aQ2.mp n2).2.2 y hy b (by simp)
   exact⟨pb.mem_iff.mp (aZ9 hy),vV h2 h1⟩
  refine⟨_,rfl,_,rfl,(i:Int),rfl,aN bs,rfl,vR bs,aN (bs.take i),by rw [aI0]; rfl,(fun z=>by cases z),fun j ρ=>∃ (ps:List (Bx × Bx)) (y4:Option Slot),ρ = [y0,some (.sh true (.lst (aN bs))),some (.own (.lst (b7 ps))),si i,y4]/\(∀ s ∈ ps,dL T s=true)/\(ps = [] ↔ cF (bs.take i)/\∀ y ∈ (bs.take i).take j,bE y b=false)/\ps.length<=100 * i+j,
   ⟨ps,y4,rfl,okp,⟨fun e=>⟨nil.mp e,fun y hy=>(by rw [List.take_zero] at hy; cases hy)⟩,fun h=>nil.mpr h.1⟩,by omega⟩,?_,?_⟩
  ·rintro j v ρ hv ⟨ps,y4,rfl,okp,nil,pl⟩
   obtain ⟨y,rfl,hy⟩:=o5 hv
   have jl:=(aO7.mp hy).1
   rw [aZ4] at jl
   have ym:=aW2 hy
   have tj:(bs.take i).take (j+1)=(bs.take i).take j ++ [y]:=by rw [aU0,hy]; rfl
   refine o3 (iX y) ?_
   refine⟨_,rfl,_,rfl,_,_,_,rfl,rfl,a1,_,rfl,b,y,rfl,_,rfl,?_⟩
   cases hn:bE b y with
   | true=>
    obtain ⟨yT,lt⟩:=ord y ym
    refine bI ⟨_,rfl,_,rfl,_,rfl,_,rfl,_,_,_,rfl,rfl,a1,by show 2<=1000; decide,?_,trivial,by rw [aO2]; omega,?_⟩
    ·show (flat (bC y) && (flat (bC b) && true))=true
     rw [iX,iX]; rfl
    refine⟨ps ++ [(y,b)],some (.sh true (bC y)),?_,fun s hs=>?_,⟨fun e=>?_,fun h=>?_⟩,by rw [aR3,aS6]; omega⟩
    ·have:b7 ps ++ [e8 (y,b)]=b7 (ps ++ [(y,b)]):=by unfold b7; rw [aQ4]; rfl
     rw [<- this]; rfl
    ·rcases aS7.mp hs with z | z
     ·exact okp s z
     ·rw [aP0.mp z]
      exact kG.mpr ⟨yT,pb.mem_iff.mp bm,lt,by rw [lO]; exact hn⟩
    ·exact absurd e (by simp)
    ·have:=h.2 y (by rw [tj]; simp)
     rw [lO,hn] at this; cases this
   | false=>
    refine b6 ⟨ps,_,rfl,okp,?_,by omega⟩
    rw [nil,tj]
    refine and_congr_right fun _=>⟨fun h z hz=>?_,fun h z hz=>h z (aT8 _ hz)⟩
    rcases aS7.mp hz with g | g
    ·exact h z g
    ·rw [aP0.mp g,lO]; exact hn
  ·rintro ρ ⟨ps,y4,rfl,okp,nil,pl⟩
   rw [jI,aZ4] at nil pl
   refine⟨ps,_,_,rfl,okp,?_,by omega⟩
   rw [List.take_take,Nat.min_eq_left (Nat.min_le_left _ _),Nat.min_eq_left (by omega)] at nil
   rw [nil,tk]
   unfold cF
   rw [aQ2]
   exact⟨fun h=>⟨h.1,aS4 _ _,fun a ha c hc=>(by rw [aP0.mp hc]; exact h.2 a ha)⟩,fun h=>⟨h.1,fun y hy=>h.2.2 y hy b (by simp)⟩⟩
 ·rintro ρ ⟨ps,y3,y4,rfl,okp,nil,pl⟩
  rw [jV,show (((aN bs).length:Int)).toNat=bs.length by omega] at nil pl
  rw [aX3] at nil
  refine⟨_,rfl,trivial,q ps ⟨okp,nil.trans ⟨fun h=>h.perm pb,fun h=>h.perm pb.symm⟩,by omega⟩⟩
theorem aI1:cM S3 ["there","boxes","found","k","other"] rN:=by
 rintro xs Q ⟨T,rfl,nd,hl,q⟩
 refine⟨_,rfl,_,_,rfl,rfl,vR T,T.map Bx.k,rfl,by rw [aO2]; omega,fun y hy=>?_,fun Z pz so=>⟨trivial,?_⟩⟩
 ·obtain ⟨b,_,rfl⟩:=aQ8.mp hy
  exact vW b
 obtain ⟨bs,rfl,pb⟩:=rJ pz
 rw [aT1] at so
 exact S5 nd hl pb so q
theorem aI2:cM S4 ["there","boxes","found","k","other"] o9:=by
 rintro xs Q ⟨T,rfl,nd,hl,q⟩
 refine⟨_,rfl,aY T,rfl,T.map Bx.k,?_,by rw [aO2]; omega,fun y hy=>?_,fun Z pz so=>⟨trivial,?_⟩⟩
 ·have:((aY T).map fun p=>PV.tup (p.1.map kP))=aN T:=by
   unfold aY aN eN
   rw [aR7,aR7]
   refine List.map_congr_left fun x _=>?_
   show PV.tup ((kn x.k).map kP)=_
   rw [dN]; rfl
  rw [this]; rfl
 ·obtain ⟨b,_,rfl⟩:=aQ8.mp hy
  exact vW b
 obtain ⟨bs,rfl,pb⟩:=rJ pz
 rw [aT1] at so
 exact S5 nd hl pb so q
theorem aI3 (T:List Bx):((aY T).map fun p=>PV.tup (p.1.map kP))=aN T:=by
 unfold aY aN eN
 rw [aR7,aR7]
 refine List.map_congr_left fun x _=>?_
 show PV.tup ((kn x.k).map kP)=_
 rw [dN]; rfl
theorem S6:∀ sts:List (Bx × Bx),flats (b7 sts)=true
 | []=>rfl
 | s :: r=>by
  show (flat (e8 s) && flats (b7 r))=true
  rw [vT,S6 r]; rfl
theorem oA {f:PV->PV->Bool}:∀ {xs:List PV},(∀ x ∈ xs,f x x=true)->((xs.zip xs).all fun p=>f p.1 p.2)=true
 | [],_=>rfl
 | x :: r,h=>by
  rw [aU1,ba7,h x aO9,oA fun y hy=>h y (aO3 _ hy)]; rfl
theorem S7 (s:Bx × Bx):cC 2 (e8 s) (e8 s)=true/\bG 2 (e8 s) (e8 s)=true:=by
 refine⟨oA (f:=cC 1) fun x hx=>?_,?_⟩
 ·simp only [aO0,aP2,aS1] at hx
  rcases hx with rfl | rfl
  ·exact mR 0 _ _
  ·exact mR 0 _ _
 ·show ((([bC s.1,bC s.2].zip [bC s.1,bC s.2]).all fun p=>bG 1 p.1 p.2) && ([bC s.1,bC s.2].length == [bC s.1,bC s.2].length))=true
  rw [oA (f:=bG 1) fun x hx=>?_]; rfl
  simp only [aO0,aP2,aS1] at hx
  rcases hx with rfl | rfl
  ·rw [mQ 0]; exact aO4 rfl
  ·rw [mQ 0]; exact aO4 rfl
theorem S8 (sts:List (Bx × Bx)):cC 3 (.lst (b7 sts)) (.lst (b7 sts))=true/\bG 3 (.lst (b7 sts)) (.lst (b7 sts))=true:=by
 refine⟨oA (f:=cC 2) fun x hx=>?_,?_⟩
 ·obtain ⟨s,_,rfl⟩:=aQ8.mp hx
  exact (S7 s).1
 ·show (((b7 sts).zip (b7 sts)).all (fun p=>bG 2 p.1 p.2) && ((b7 sts).length == (b7 sts).length))=true
  rw [oA (f:=bG 2) fun x hx=>?_,aU7]; rfl
  obtain ⟨s,_,rfl⟩:=aQ8.mp hx
  exact (S7 s).2
theorem aI4 {T0 T:List Bx}{sts:List (Bx × Bx)}{i:Nat}{s:Bx × Bx}{T1:List Bx} (h:bW T0 sts=some T) (hs:sts[i]? = some s) (h1:bW T0 (sts.take i)=some T1):dL T1 s=true/\bW T0 (sts.take (i+1))=some (dY T1 s):=by
 have tk:sts.take (i+1)=sts.take i ++ [s]:=by rw [aU0,hs]; rfl
 have wn:bW T0 (sts.take (i+1))=dZ s T1:=by rw [tk,lQ,h1]; rfl
 cases hok:dL T1 s with
 | true=>exact⟨rfl,by rw [wn]; unfold dZ; rw [if_pos hok]⟩
 | false=>
  have:bW T0 (sts.take (i+1))=none:=by rw [wn]; unfold dZ; rw [hok]; rfl
  have:=O9 (b:=sts.drop (i+1)) this
  rw [aQ9,h] at this; cases this
theorem aI5 {T:List Bx}{s:Bx × Bx} (ok:dL T s=true):(dY T s).length < T.length:=by
 have:=(rE ok).length_eq
 rw [aR9,aR9] at this
 unfold dY
 split
 ·omega
 ·rw [aR3,aS6]; omega
theorem S9 {r c:Int}{ls:List b8}{bs bs':List Bx} (st:dX r c ls) (g:rK ls bs) (g':rK ls bs'):bs=bs':=by
 have okb:∀ y ∈ bs,okX y:=fun y hy=>g.own.ok hy
 have okb':∀ y ∈ bs',okX y:=fun y hy=>g'.own.ok hy
 have same:∀ p,(∃ x ∈ bs,aU x p) ↔ ∃ x ∈ bs',aU x p:=fun p=>(g.own.burnt g.far st.2 p).trans (g'.own.burnt g'.far st.2 p).symm
 have pm:bs.Perm bs':=(List.perm_ext_iff_of_nodup (g.far.nd okb) (g'.far.nd okb')).mpr fun x=>⟨fun h=>P4 g.far g'.far okb okb' same h,fun h=>P4 g'.far g.far okb' okb (fun p=>(same p).symm) h⟩
 have:=ay2 (pm.map Bx.k) (aT1.mpr g.so) (aT1.mpr g'.so)
 exact (List.map_inj_right fun _ _ e=>Bx.k_inj e).mp this
theorem T3 {ls:List b8}{sts:List (Bx × Bx)}{T bs:List Bx} (nd:ls.Nodup) (hw:bW (ls.map cX) sts=some T) (far:cF T) (pb:bs.Perm T) (so:bs.Pairwise fun u v=>HT.aH v.k u.k=false):rK ls bs:=
 ⟨((jH nd sts hw).1).perm pb,far.perm pb.symm,so,by rw [pb.length_eq]; exact gS.len hw⟩
def rO:bN:=fun xs Q=>∃ (ls:List b8) (sts:List (Bx × Bx)) (T:List Bx),xs = [.tup (b9 ls),.lst (b7 sts)]/\ls.Nodup/\ls.length<=4096/\bW (ls.map cX) sts=some T/\∀ bs:List Bx,bs.Perm T->bs.Pairwise (fun u v=>HT.aH v.k u.k=false)->Q (.lst (aN bs))
def T4 (K:PySem.W.Frag):aP:=(aG (fH 2 (aC m6 (a6 (a5 0) a9)))
 (aG (bV (eF (aX (fY K "list" (a5 1)))) (bJ (qC .non)) bZ)
 (aG (dH (fX (a5 1)) (dC 3)
  (aG (bV (eD (eF (aX (fY K "tuple" (a5 3)))) (aX (tT (aC dG (a6 (a5 3) a9)) (qC (.int 2))))) (bJ (qC .non)) bZ)
  (aG (qK (gK 4 5) (a5 3))
  (aG (bV (eF (aX (aC lZ (a6 (gX (a6 (a5 4) (a6 (a5 5) a9))) (a6 (gX (a6 (a5 4) (a6 (a5 5) a9))) a9))))) (bJ (qC .non)) bZ)
  (aG (bV (eD (aX (l9 true (a5 4) (a5 2))) (eD (aX (l9 true (a5 5) (a5 2))) (eD (eF (aX (q2 lL (a5 4) (a5 5)))) (eF (aX (aC kK (a6 (a5 4) (a6 (a5 5) a9)))))))) (bJ (qC .non)) bZ)
  (aG (jG 2 (a5 4))
  (aG (jG 2 (a5 5))
  (jX 2 (aC m5 (a6 (a5 4) (a6 (a5 5) a9))) (qC (.bl true))))))))))
 (bJ (aC nZ (a6 (aC qH (a6 (a5 2) a9)) a9))))))
theorem aI6 {K:PySem.W.Frag} (kl:PySem.W.kitOne K (.type "list") (.type "list")=some true) (kt:PySem.W.kitOne K (.type "tuple") (.type "tuple")=some true):cM (T4 K) ["seeds","steps","there","step","one","other"] rO:=by
 rintro xs Q ⟨ls,sts,T,rfl,nd,hl,hw,q⟩
 refine⟨_,rfl,ls,rfl,nd,hl,rfl,vU _,?_⟩
 refine⟨_,rfl,_,_,rfl,kl,_,rfl,b6 ?_⟩
 refine⟨_,rfl,b7 sts,rfl,lR,fun i ρ=>∃ (T:List Bx) (y3 y4 y5:Option Slot),bW (ls.map cX) (sts.take i)=some T/\ρ = [some (.sh (flat (.tup (b9 ls))) (.tup (b9 ls))),some (.sh (flat (.lst (b7 sts))) (.lst (b7 sts))),some (.own (.dT (aY T))),y3,y4,y5],⟨ls.map cX,none,none,none,rfl,rfl⟩,?_,?_⟩
 ·rintro i v ρ hv ⟨T1,y3,y4,y5,hw1,rfl⟩
  obtain ⟨s,rfl,hs⟩:=R4 hv
  obtain ⟨hok,wn⟩:=aI4 hw hs hw1
  obtain ⟨h1,h2,h3,h4⟩:=kG.mp hok
  have ne:=rD h3
  have tnd:=(jH nd _ hw1).2
  have tl:=gS.len hw1
  have fl:flats [bC s.1,bC s.2]=true:=by
   show (flat (bC s.1) && (flat (bC s.2) && true))=true
   rw [iX,iX]; rfl
  refine o3 (vT s) ?_
  refine⟨_,rfl,_,_,rfl,kt,_,rfl,b6 ⟨_,rfl,_,_,rfl,rfl,.inl ⟨_,_,rfl,rfl,_,rfl,b6 ?_⟩⟩⟩
  refine⟨_,rfl,trivial,_,_,rfl,?_⟩
  refine⟨_,rfl,_,rfl,by show 2<=1000; decide,fl,_,rfl,_,rfl,by show 2<=1000; decide,fl,[s.1,s.2],rfl,by show 2<=4096; decide,_,rfl,b6 ?_⟩
  refine⟨_,rfl,_,rfl,_,.inr ⟨aY T1,kn s.1.k,rfl,by rw [dN]; rfl,rfl⟩,_,rfl,?_⟩
  show if (!(dI (aY T1) (kn s.1.k)).isSome)=true then _ else _
  rw [rF,aO4 h1]
  refine b6 ⟨_,rfl,_,rfl,_,.inr ⟨aY T1,kn s.2.k,rfl,by rw [dN]; rfl,rfl⟩,_,rfl,?_⟩
  show if (!(dI (aY T1) (kn s.2.k)).isSome)=true then _ else _
  rw [rF,aO4 h2]
  refine b6 ⟨_,rfl,_,rfl,s.1.k,s.2.k,rfl,rfl,_,rfl,?_⟩
  rw [h3]
  refine b6 ⟨_,rfl,_,rfl,s.1,s.2,rfl,_,rfl,?_⟩
  rw [h4]
  refine b6 ⟨aY T1,rfl,_,rfl,kn s.1.k,by rw [dN]; rfl,lY h1,fun j hj=>?_⟩
  rw [lW,lV tnd (lX hj)]
  have h2':s.2 ∈ T1.erase s.1:=(List.mem_erase_of_ne ne.symm).mpr h2
  refine⟨aY (T1.erase s.1),rfl,_,rfl,kn s.2.k,by rw [dN]; rfl,lY h2',fun j hj=>?_⟩
  rw [lW,lV (tnd.erase _) (lX hj)]
  have ll:(dM T1 s).length<=T1.length:=aQ7 (ba1 ..) (ba1 ..)
  refine⟨aY (dM T1 s),rfl,_,rfl,_,rfl,s.1,s.2,rfl,kn (bM s.1 s.2).k,by rw [dN],trivial,by rw [o8]; omega,?_⟩
  rw [o7]
  exact⟨dY T1 s,_,_,_,wn,rfl⟩
 ·rintro ρ ⟨T1,y3,y4,y5,hw1,rfl⟩
  rw [aO2,aX3,hw] at hw1
  cases hw1
  have tl:=gS.len hw
  refine⟨_,rfl,aY T,rfl,T.map Bx.k,by rw [aI3]; rfl,by rw [aO2]; omega,fun y hy=>?_,fun Z pz so=>⟨trivial,?_⟩⟩
  ·obtain ⟨b,_,rfl⟩:=aQ8.mp hy
   exact vW b
  obtain ⟨bs,rfl,pb⟩:=rJ pz
  rw [aT1] at so
  exact q bs pb so
def rP:bN:=fun xs Q=>∃ (ns:List Int) (ls:List b8),xs = [.scr ns,.tup (b9 ls)]/\ns.length<=63/\ls.Nodup/\ls.length<=24/\∀ sts T,bW (ls.map cX) sts=some T->cF T->sts.length<=24->Q (.lst (b7 sts))
def T5:aP:=(aG (fH 2 (aC m6 (a6 (a5 1) a9)))
 (aG (fH 3 (gX a9))
 (aG (bF 4 (aC o9 (a6 (a5 2) a9)))
 (aG (p6 (aX (mW (aC dG (a6 (a5 4) a9)) (qC (.int 0))))
  (aG (bF 5 (aW (a5 4) (cP (aC lN (a6 (a5 0) (a6 (aC dG (a6 (a5 3) a9)) a9))) (aC dG (a6 (a5 4) a9)))))
  (aG (iK 3 (a5 5))
  (aG (jG 2 (aW (a5 5) (qC (.int 0))))
  (aG (jG 2 (aW (a5 5) (qC (.int 1))))
  (aG (jX 2 (aC m5 (a6 (aW (a5 5) (qC (.int 0))) (a6 (aW (a5 5) (qC (.int 1))) a9))) (qC (.bl true)))
  (bF 4 (aC o9 (a6 (a5 2) a9)))))))))
 (iJ 3)))))
theorem aI7:cM T5 ["script","seeds","there","steps","couples","step"] rP:=by
 rintro xs Q ⟨ns,ls,rfl,hn,nd,hl,q⟩
 refine⟨_,rfl,ls,rfl,nd,by omega,rfl,vU _,?_⟩
 refine⟨by show 0<=1000; decide,rfl,rfl,rfl,?_⟩
 refine⟨_,rfl,ls.map cX,rfl,R3 nd,by rw [aO2]; omega,fun ps0 h0=>⟨trivial,?_⟩⟩
 refine⟨fun m ρ=>∃ (sts:List (Bx × Bx)) (T:List Bx) (ps:List (Bx × Bx)) (y5:Option Slot),ρ = [some (.sh true (.scr ns)),some (.sh (flat (.tup (b9 ls))) (.tup (b9 ls))),some (.own (.dT (aY T))),some (.own (.lst (b7 sts))),some (.sh true (.lst (b7 ps))),y5]/\bW (ls.map cX) sts=some T/\rM T ps/\sts.length+T.length<=24/\m=T.length,
  ⟨_,[],ls.map cX,ps0,none,rfl,rfl,h0,by rw [aO2]; exact aQ7 (Nat.le_of_eq (Nat.zero_add _)) hl,rfl⟩,?_⟩
 rintro m ρ ⟨sts,T,ps,y5,rfl,hw,G9,cnt,rfl⟩
 obtain ⟨okp,nil,pl⟩:=G9
 have tnd:=(jH nd _ hw).2
 refine⟨_,rfl,_,_,rfl,rfl,_,_,rfl,rfl,_,rfl,?_⟩
 show if decide ((0:Int) < ((b7 ps).length:Int))=true then _ else _
 by_cases hp:ps = []
 ·subst hp
  refine b6 ⟨_,rfl,trivial,q sts T hw (nil.mp rfl) (by omega)⟩
 ·have p0:0 < ps.length:=Nat.pos_of_ne_zero fun z=>hp (List.length_eq_zero_iff.mp z)
  have sl:(b7 ps).length=ps.length:=aO2 _
  rw [aO4 (by rw [sl]; omega)]
  refine bI ⟨_,rfl,_,rfl,_,rfl,_,_,rfl,rfl,ns,(((b7 sts).length:Nat):Int),rfl,hn,by omega,by rw [aO2]; omega,fun z=>?_⟩
  have z0:=Int.emod_nonneg z (show ((b7 ps).length:Int) ≠ 0 by omega)
  have z1:=Int.emod_lt_of_pos z (show 0 < ((b7 ps).length:Int) by omega)
  obtain ⟨s,hs⟩:∃ s,ps[(z % ((b7 ps).length:Int)).toNat]? = some s:=⟨_,aN6 (by omega)⟩
  have at1:L2.atI (b7 ps) (z % ((b7 ps).length:Int))=some (e8 s):=by
   obtain ⟨n,hn2⟩:∃ n:Nat,z % ((b7 ps).length:Int)=n:=⟨_,(Int.toNat_of_nonneg z0).symm⟩
   rw [hn2] at hs ⊢
   exact oJ (by rw [aP4,show ps[n]? = some s from hs]; rfl)
  refine⟨_,rfl,_,_,rfl,rfl,_,_,rfl,rfl,by omega,_,_,_,rfl,rfl,at1,trivial,?_⟩
  have hok:=okp s (aW2 hs)
  obtain ⟨h1,h2,h3,h4⟩:=kG.mp hok
  have ne:=rD h3
  refine⟨_,rfl,_,rfl,trivial,by rw [aO2]; omega,?_⟩
  refine⟨aY T,rfl,_,rfl,_,_,_,rfl,rfl,rfl,kn s.1.k,by rw [dN],lY h1,fun j hj=>?_⟩
  rw [lW,lV tnd (lX hj)]
  have h2':s.2 ∈ T.erase s.1:=(List.mem_erase_of_ne ne.symm).mpr h2
  refine⟨aY (T.erase s.1),rfl,_,rfl,_,_,_,rfl,rfl,rfl,kn s.2.k,by rw [dN],lY h2',fun j hj=>?_⟩
  rw [lW,lV (tnd.erase _) (lX hj)]
  have ll:(dM T s).length<=T.length:=aQ7 (ba1 ..) (ba1 ..)
  refine⟨aY (dM T s),rfl,_,rfl,_,_,_,rfl,rfl,rfl,_,rfl,_,_,_,rfl,rfl,rfl,s.1,s.2,rfl,kn (bM s.1 s.2).k,by rw [dN],trivial,by rw [o8]; omega,?_⟩
  rw [o7]
  have sL:=aI5 hok
  refine⟨_,rfl,dY T s,rfl,P0 tnd,by omega,fun ps' h'=>⟨trivial,?_⟩⟩
  refine⟨(dY T s).length,sL,sts ++ [s],dY T s,ps',some (.sh true (e8 s)),?_,?_,h',by rw [aR3,aS6]; omega,rfl⟩
  ·have:b7 sts ++ [e8 s]=b7 (sts ++ [s]):=by unfold b7; rw [aQ4]; rfl
   rw [<- this]; rfl
  ·rw [lQ,hw]
   show dZ s T=_
   unfold dZ
   rw [if_pos hok]
def vY:bN:=G2
def aI8:aP:=(aG (bF 7 (aC kZ (a6 (a5 4) a9)))
 (aG (bV (eD (eF (aX (aC lZ (a6 (aC (kJ fun _=>False) (a6 (a5 1) (a6 (a5 2) (a6 (a5 3) (a6 (a5 7) a9))))) (a6 (a5 5) a9))))) (aX (q2 (jY 2 true) (a5 7) (a5 4)))) (bJ (qC (.bl false))) bZ)
 (aG (bF 8 (aC rP (a6 (a5 0) (a6 (a5 3) a9))))
 (bJ (q2 (jY 2 false) (aC (kJ fun _=>False) (a6 (a5 1) (a6 (a5 2) (a6 (aC kZ (a6 (a5 3) a9)) (a6 (a5 8) a9))))) (a5 5))))))
def T6:aP:=(aG (qK (gK 1 2) (aC qY (a6 (aC jF (a6 (a5 0) (a6 (qC (.int 0)) a9))) a9)))
 (aG (bF 3 (mU (aC qZ (a6 (a5 0) (a6 (qC (.int 1)) (a6 (a5 1) (a6 (a5 2) a9))))) mS (mT (qC (.int 24)))))
 (aG (vJ (aC (kI fun _=>False) (a6 (a5 1) (a6 (a5 2) (a6 (a5 3) a9)))))
 (aG (bF 4 (aC (kI fun _=>False) (a6 (a5 1) (a6 (a5 2) (a6 (aC kZ (a6 (a5 3) a9)) a9)))))
 (aG (bF 5 (aC rO (a6 (a5 3) (a6 (a5 4) a9))))
 (aG (bF 6 (aC (rL fun _=>False) (a6 (a5 1) (a6 (a5 2) (a6 (a5 3) a9)))))
 (aG (bV (eD (aX (ao9 (a5 5) (qC .non))) (eD (aX (mW (aC dG (a6 (aC rN (a6 (a5 5) a9)) a9)) (qC (.int 0)))) (aX (q2 (jY 2 true) (a5 6) (a5 5))))) (bJ (qC (.bl false))) bZ)
 aI8)))))))
theorem aI9:cM T6 ["script","rows","columns","seeds","steps","last","found","handed","other"] vY:=by
 rintro xs Q ⟨ns,rfl,hn,q⟩
 refine⟨_,rfl,_,ns,0,rfl,.inl rfl,by decide,_,rfl,fun r c ok=>⟨trivial,_,_,rfl,?_⟩⟩
 refine⟨_,rfl,_,rfl,_,rfl,ns,1,r,c,rfl,hn,by decide,by decide,ok,fun ls0 st0 sl0=>⟨24,rfl,b9 ls0,rfl,kA _,trivial,?_⟩⟩
 have e:gL (b9 ls0) none (some 24)=b9 (ls0.take 24):=by rw [uW (by decide),aH7]; rfl
 have st:=st0.take 24
 have sl:(ls0.take 24).length<=24:=List.length_take_le ..
 dsimp only
 rw [e]
 generalize ls0.take 24=ls at st sl
 have nd:=qT st.1
 have no1 : ¬ cQ r c->False:=fun z=>z ok
 have no2:cQ r c->¬ dX r c ls->False:=fun _ z=>z st
 refine⟨_,rfl,_,rfl,_,rfl,r,c,_,ls,rfl,.inl rfl,by omega,no1,no2,fun _ _ sts0 T0 _ _ _=>⟨_,rfl,rfl,?_⟩⟩
 refine⟨_,rfl,_,rfl,_,rfl,_,_,rfl,rfl,kA _,r,c,_,ls,rfl,.inr rfl,by omega,no1,no2,fun _ _ sts T hw far stl=>⟨trivial,?_⟩⟩
 refine⟨_,rfl,_,rfl,ls,sts,T,rfl,nd,by omega,hw,fun bs pb so=>⟨trivial,?_⟩⟩
 have g:=T3 nd hw far pb so
 have gl:=g.len
 refine⟨_,rfl,_,rfl,_,rfl,r,c,_,ls,rfl,.inl rfl,by omega,no1,no2,fun _ _ bs2 g2=>⟨trivial,?_⟩⟩
 obtain rfl:=S9 st g g2
 refine⟨_,rfl,rfl,_,rfl,b6 ⟨_,rfl,bs,rfl,g.far.nd fun y hy=>g.own.ok hy,by omega,fun ps hps=>⟨_,_,rfl,rfl,_,_,rfl,rfl,_,rfl,?_⟩⟩⟩
 obtain rfl:=hps.2.1.mpr g.far
 have ok3:cC 3 (.lst (aN bs)) (.lst (aN bs))=true:=J6 1 (bs.map Bx.k) (bs.map Bx.k)
 have eq3:bG 3 (.lst (aN bs)) (.lst (aN bs))=true:=(ay1 1 (bs.map Bx.k) (bs.map Bx.k)).trans (aO4 rfl)
 refine b6 ⟨_,rfl,_,rfl,.inr ⟨_,_,rfl,rfl⟩,ok3,_,rfl,?_⟩
 show if (!bG 3 (.lst (aN bs)) (.lst (aN bs)))=true then _ else _
 rw [eq3]
 refine b6 ?_
 refine⟨_,rfl,_,_,rfl,rfl,S6 _,trivial,?_⟩
 have uniq:∀ (sts2:List (Bx × Bx)) (T2 bs2:List Bx),bW (ls.map cX) sts2=some T2->cF T2->bs2.Perm T2->bs2.Pairwise (fun u v=>HT.aH v.k u.k=false)->bs2=bs:=fun sts2 T2 bs2 hw2 far2 pb2 so2=>S9 st (T3 nd hw2 far2 pb2 so2) g
 refine⟨_,rfl,_,rfl,_,rfl,_,rfl,r,c,_,ls,sts,rfl,.inl rfl,by omega,no1,no2,fun _ _=>⟨(fun z=>by rw [hw] at z; cases z),fun T' hw'=>?_⟩⟩
 rw [hw] at hw'
 cases hw'
 refine⟨fun z=>z far,fun _ bs3 pb3 so3=>?_⟩
 obtain rfl:=uniq sts T bs3 hw far pb3 so3
 refine⟨_,rfl,bs3,rfl,by omega,_,rfl,b6 ⟨_,rfl,_,rfl,.inr ⟨_,_,rfl,rfl⟩,(S8 sts).1,_,rfl,?_⟩⟩
 show if (!bG 3 (.lst (b7 sts)) (.lst (b7 sts)))=true then _ else _
 rw [(S8 sts).2]
 refine b6 ?_
 refine⟨_,rfl,_,rfl,ns,ls,rfl,hn,nd,sl,fun sts2 T2 hw2 far2 l2=>⟨trivial,?_⟩⟩
 refine⟨_,rfl,_,rfl,_,rfl,_,_,rfl,rfl,kA _,_,rfl,r,c,_,ls,sts2,rfl,.inr rfl,by omega,no1,no2,fun _ _=>⟨(fun z=>by rw [hw2] at z; cases z),fun T' hw'=>?_⟩⟩
 rw [hw2] at hw'
 cases hw'
 refine⟨fun z=>z far2,fun _ bs4 pb4 so4=>?_⟩
 obtain rfl:=uniq sts2 T2 bs4 hw2 far2 pb4 so4
 refine⟨_,rfl,.inr ⟨_,_,rfl,rfl⟩,ok3,trivial,?_⟩
 show Q (.bl (bG 3 (.lst (aN bs4)) (.lst (aN bs4))))
 rw [eq3]; exact q
end Core
namespace K_k63
open PySem PySem.W L2 PP Core
theorem _root_.L2.FnScope.au {N P:List Str}{s:Scope} (a:s.kind=.function:=by rfl) (b:s.isCoroutine=false:=by rfl) (c:s.isGenerator=false:=by rfl) (d:N.Nodup:=by decide +kernel) (e:N.take P.length=P:=by rfl) (f:∀ x∈P,s.names.lookup x=some .local∨s.names.lookup x=some .cell:=by decide +kernel) (g:∀ y∈s.names,y.2≠.free:=by decide +kernel):FnScope N P s:=⟨a,b,c,d,e,f,g⟩
def bA (i:Nat):Stmt:=PySem.Challenge.pw_kindleweb_k63_whole_growths.main.body.getD i (.Pass ⟨0,0,0,0⟩)
structure FK (K:Frag) (n:Str) (i:Nat) (f:Addr) (d:FuncData):Prop where
 a:nsIn K mainGlobals n=some (some (.ref f))
 F:fD K n n (bA i) f d
structure FM (K:Frag) (mg:Str->Option Value) (n:Str) (i:Nat) (f:Addr) (d:FuncData):Prop where
 F:fD K n n (bA i) f d
 m:mg n=some (.ref f)
theorem FK.M {K:Frag}{mg:Str->Option Value}{n:Str}{i:Nat}{f:Addr}{d:FuncData}{h:Heap} (z:FK K n i f d) (X:K.In h) (G:h.Ns mainGlobals mg):FM K mg n i f d:=⟨z.F,mg_of X G z.a⟩
abbrev Hb (x:Str) (ps:List Str) (i:Nat):Prop:=∀ (kV doc pm:Value) (an:Option Addr) (cdv ct:Value) (us:List Value),us.length=ps.length->bindArgs (fnOf x x (iG (bA i)) (dO (bA i)) (aV (bA i)) .none kV doc pm an cdv ct) ⟨us,[]⟩=pure (ps.zip us)
theorem m7 {A:Around}{k:Nat} (hr:bX k A):A.units+3 < cLine:=by have:=hr.units; omega
section
variable {P : Program} {w : World} {K : Frag} {mg : Str → Option Value} {base : Heap} {f : Addr} {fd : FuncData} {k i : Nat} {x : Str} {ps N : List Str}
theorem Df.au {p:bN} (F:FM K mg x i f fd) (S:FnScope N ps (aV (bA i))) (body:∀ (cdv:Value) (A:Around) (outer:List Env) (s:Shared) (H:Hp) (E:XK),bX k (A.deeper (PyProof.Rows.envOfC x (aV (bA i)) s.heap.objs.size f cdv))->∃ t,eI (cS eC P w K mg base N x (aV (bA i)) f cdv A outer s H E).nox (dO (bA i)) t/\∀ xs Q,p xs Q->t { nx:=fun _=>Q .non,rt:=Q } (dS N xs)) (hb:Hb x ps i:=by intro _ _ _ _ _ _ us hl; first | (obtain ⟨_,rfl⟩:=uZ hl; rfl) | (obtain ⟨_,_,rfl⟩:=v3 hl; rfl) | (obtain ⟨_,_,_,rfl⟩:=v4 hl; rfl) | (obtain ⟨_,_,_,_,rfl⟩:=J4 hl; rfl) | (obtain ⟨_,_,_,_,_,rfl⟩:=us5 hl; rfl)) (len:∀ xs Q,p xs Q->xs.length=ps.length:=by intro xs Q h; repeat (first | (obtain ⟨rfl,_⟩:=h; rfl) | (obtain ⟨_,h⟩:=h))):Df P w K mg base (k+1) x ps p:=
 Df.of F.F F.m S hb len body
theorem cE.au {p:eZ} (F:FM K mg x i f fd) (S:FnScope N ps (aV (bA i))) (t:(Str->Prop)->aP) (rd:∀ Ep xs Q,p Ep xs Q->t Ep { nx:=fun _=>Q .non,rt:=Q } (dS N xs)) (body:∀ (cdv:Value) (A:Around) (outer:List Env) (s:Shared) (H:Hp) (E:XK) (Ep:Str->Prop),bX k (A.deeper (PyProof.Rows.envOfC x (aV (bA i)) s.heap.objs.size f cdv))->lI (cS (dW P w) P w K mg base N x (aV (bA i)) f cdv A outer s H E) (EX K H Ep)->eI (cS (dW P w) P w K mg base N x (aV (bA i)) f cdv A outer s H E) (dO (bA i)) (t Ep)) (hb:Hb x ps i:=by intro _ _ _ _ _ _ us hl; first | (obtain ⟨_,rfl⟩:=uZ hl; rfl) | (obtain ⟨_,_,rfl⟩:=v3 hl; rfl) | (obtain ⟨_,_,_,rfl⟩:=v4 hl; rfl) | (obtain ⟨_,_,_,_,rfl⟩:=J4 hl; rfl) | (obtain ⟨_,_,_,_,_,rfl⟩:=us5 hl; rfl)) (len:∀ Ep xs Q,p Ep xs Q->xs.length=ps.length:=by intro Ep xs Q h; repeat (first | (obtain ⟨rfl,_⟩:=h; rfl) | (obtain ⟨_,h⟩:=h))):cE P w K mg base (k+1) x ps p:=
 cE.of F.F F.m S hb t len rd body
end
section
variable {P : Program} {w : World} {K : Frag} {mg : Str → Option Value} {base : Heap} {f : Addr} {fd : FuncData}
theorem aJ0:FnScope ["things"] ["things"] (aV (bA 6)):=.au
theorem G1 (B:Bt mg) (F:FM K mg "rises" 6 f fd)  : Df P w K mg base 1 "rises" ["things"] qU:=
 Df.au F aJ0 (fun cdv A outer s H E hr=>by
  have hu:=jQ hr
  exact⟨(L6),(aO (bO (A1 B rfl (a7 (G5 (N:=["ahead","behind"]) (fr:=[none,none]) (aA5 B (qv 0) (nG (qv 0) (nF aB) nE)) (fun _ _ _ _=>(aA1 hu (qv 0) (qv 1)))) aA)))),aA8⟩)
theorem T7:FnScope ["hearths","inside","hearth"] ["hearths"] (aV (bA 7)):=.au
theorem aJ1 (B:Bt mg) (F:FM K mg "marked" 7 f fd)  : Df P w K mg base 1 "marked" ["hearths"] rH:=
 Df.au F T7 (fun cdv A outer s H E hr=>by
  have nd:=T7.nd
  have hu:=jQ hr
  exact⟨(Q9),(aI (gA (i:=1) nd zX)
   (aI (fO 2 nd (gP (qv 0))
    (aO (nB hu (i:=1) (qv 2) fL)))
   (aO (jD 1)))),aG8⟩)
theorem aJ2:FnScope ["rows","columns"] ["rows","columns"] (aV (bA 10)):=.au
theorem aJ3 (B:Bt mg) (F:FM K mg "looked_through" 10 f fd) (x_BadBoard:Xc K mg base "BadBoard") {u_MOST_ROWS:Nat} (m_MOST_ROWS:mg "MOST_ROWS" = some (.int 40 u_MOST_ROWS)):cE P w K mg base 1 "looked_through" ["rows","columns"] qV:=
 cE.au F aJ2 L7 aA9 (fun cdv A outer s H E Ep hr hX=>by
  exact (aO (cA (g9 (fM (mZ (nD B rfl (a7 (qv 0) (a7 (qv 1) aA))) aB) (hJ (pJ (lC B rfl (a7 (qv 0) (a7 (qv 1) aA))) (G6 rfl m_MOST_ROWS))))) (aO (qL hX x_BadBoard (a7 pI aA))) cD)))
theorem aJ4:FnScope ["rows","columns","cell"] ["rows","columns","cell"] (aV (bA 11)):=.au
theorem aJ5 (B:Bt mg) (F:FM K mg "is_cell" 11 f fd)  : Df P w K mg base 1 "is_cell" ["rows","columns","cell"] qX:=
 Df.au F aJ4 (fun cdv A outer s H E hr=>by
  exact⟨(L8),(aO (bO (nA (zT (aT (qv 2) aB) aB) (nA (tU (aT (qv 2) aB) (qv 0)) (nA (zT (aT (qv 2) aB) aB) (tW (tU (aT (qv 2) aB) (qv 1)))))))),aB0⟩)
theorem aJ6:FnScope ["start","end","other_start","other_end"] ["start","end","other_start","other_end"] (aV (bA 16)):=.au
theorem aJ7 (B:Bt mg) (F:FM K mg "gap" 16 f fd)  : Df P w K mg base 1 "gap" ["start","end","other_start","other_end"] o6:=
 Df.au F aJ6 (fun cdv A outer s H E hr=>by
  exact⟨(P6),(aO (bO (vF B rfl (a7 aB (a7 (iN (qv 2) (qv 1)) (a7 (iN (qv 0) (qv 3)) aA)))))),aG1⟩)
theorem aJ8:FnScope ["one","other"] ["one","other"] (aV (bA 17)):=.au
theorem aJ9 (B:Bt mg) (F:FM K mg "hull_of" 17 f fd)  : Df P w K mg base 1 "hull_of" ["one","other"] lT:=
 Df.au F aJ8 (fun cdv A outer s H E hr=>by
  exact⟨(P8),(aO (bO (gO (a7 (nD B rfl (a7 (aT (qv 0) aB) (a7 (aT (qv 1) aB) aA))) (a7 (nD B rfl (a7 (aT (qv 0) aB) (a7 (aT (qv 1) aB) aA))) (a7 (lC B rfl (a7 (aT (qv 0) aB) (a7 (aT (qv 1) aB) aA))) (a7 (lC B rfl (a7 (aT (qv 0) aB) (a7 (aT (qv 1) aB) aA))) aA))))))),Q2⟩)
theorem aK0:FnScope ["cells"] ["cells"] (aV (bA 18)):=.au
theorem aK1 (B:Bt mg) (F:FM K mg "cell_boxes" 18 f fd)  : Df P w K mg base 1 "cell_boxes" ["cells"] lU:=
 Df.au F aK0 (fun cdv A outer s H E hr=>by
  exact⟨(Q3),(aO (bO (G5 (N:=["row","column"]) (fr:=[none,none]) (gP (qv 0)) (fun _ _ _ _=>(gO (a7 (qv 0) (a7 (qv 1) (a7 (qv 0) (a7 (qv 1) aA))))))))),aG3⟩)
theorem aK2:FnScope ["script","k"] ["script","k"] (aV (bA 25)):=.au
theorem aK3 (B:Bt mg) (F:FM K mg "_law_cell" 25 f fd)  : Df P w K mg base 1 "_law_cell" ["script","k"] jF:=
 Df.au F aK2 (fun cdv A outer s H E hr=>by
  exact⟨(F8),(aI (cA (mZ (qv 1) (eM B (a7 (qv 0) aA))) (aO (bO (aT (qv 0) (qv 1)))) cD)
   (aO (bO aB))),au1⟩)
theorem aK4:FnScope ["found"] ["found"] (aV (bA 27)):=.au
theorem aK5 (B:Bt mg) (F:FM K mg "_law_whole" 27 f fd)  : Df P w K mg base 1 "_law_whole" ["found"] qI:=
 Df.au F aK4 (fun cdv A outer s H E hr=>by
  exact⟨(F9 K),(aO (bO (nA (ap7 B (qv 0)) (tW (ap2 (ap8 B (qv 0))))))),au2 (kB K).ii (kB K).ib⟩)
theorem T8:FnScope ["cell","rows","columns"] ["cell"] (aV (bA 29)):=.au
theorem aK6 (B:Bt mg) (F:FM K mg "_law_lines" 29 f fd)  : Df P w K mg base 1 "_law_lines" ["cell"] qY:=
 Df.au F T8 (fun cdv A outer s H E hr=>by
  have nd:=T8.nd
  exact⟨(M7),(aI (bL (i:=1) nd (gN aB (cU (qv 0) aB)))
   (aI (bL (i:=2) nd (gN aB (cU (fZ (qv 0) aB) aB)))
   (aI (cA (pK (cU (fZ (qv 0) aB) aB) aB) (aI (bL (i:=1) nd (gN aB (cU (fZ (qv 0) aB) aB)))
    (aO (bL (i:=2) nd (gN aB (cU (fZ (qv 0) aB) aB))))) cD)
   (aO (bO (gO (a7 (qv 1) (a7 (qv 2) aA)))))))),aB3⟩)
theorem T9:FnScope ["one","other","down"] ["one","other"] (aV (bA 31)):=.au
theorem aK7 (B:Bt mg) (F:FM K mg "_law_near" 31 f fd)  : Df P w K mg base 1 "_law_near" ["one","other"] kK:=
 Df.au F T9 (fun cdv A outer s H E hr=>by
  have nd:=T9.nd
  exact⟨(R9),(aI (bL (i:=2) nd (vF B rfl (a7 aB (a7 (iN (aT (qv 0) aB) (aT (qv 1) aB)) (a7 (iN (aT (qv 1) aB) (aT (qv 0) aB)) aA)))))
   (aO (bO (tU (gN (qv 2) (vF B rfl (a7 aB (a7 (iN (aT (qv 0) aB) (aT (qv 1) aB)) (a7 (iN (aT (qv 1) aB) (aT (qv 0) aB)) aA))))) aB)))),aH5⟩)
theorem aK8:FnScope ["one","other"] ["one","other"] (aV (bA 32)):=.au
theorem aK9 (B:Bt mg) (F:FM K mg "_law_hull" 32 f fd)  : Df P w K mg base 1 "_law_hull" ["one","other"] m5:=
 Df.au F aK8 (fun cdv A outer s H E hr=>by
  exact⟨(S0),(aO (bO (gO (a7 (nD B rfl (a7 (aT (qv 0) aB) (a7 (aT (qv 1) aB) aA))) (a7 (nD B rfl (a7 (aT (qv 0) aB) (a7 (aT (qv 1) aB) aA))) (a7 (lC B rfl (a7 (aT (qv 0) aB) (a7 (aT (qv 1) aB) aA))) (a7 (lC B rfl (a7 (aT (qv 0) aB) (a7 (aT (qv 1) aB) aA))) aA))))))),aH8⟩)
theorem U0:FnScope ["seeds","there","row","column"] ["seeds"] (aV (bA 33)):=.au
theorem aL0 (B:Bt mg) (F:FM K mg "_law_begun" 33 f fd)  : Df P w K mg base 1 "_law_begun" ["seeds"] m6:=
 Df.au F U0 (fun cdv A outer s H E hr=>by
  have nd:=U0.nd
  have hu:=jQ hr
  exact⟨(S2),(aI (gA (i:=1) nd zX)
   (aI (A5 2 3 nd (gP (qv 0))
    (aO (nB hu (i:=1) (gO (a7 (qv 2) (a7 (qv 3) (a7 (qv 2) (a7 (qv 3) aA))))) fL)))
   (aO (jD 1)))),aH9⟩)
theorem aL1:FnScope ["rows","columns","cells"] ["rows","columns","cells"] (aV (bA 12)):=.au
theorem aL2 (B:Bt mg) (F:FM K mg "made_cells" 12 f fd) (d_looked_through:cE P w K mg base 1 "looked_through" ["rows","columns"] qV) (d_rises:Df P w K mg base 1 "rises" ["things"] qU) (d_is_cell:Df P w K mg base 1 "is_cell" ["rows","columns","cell"] qX) (x_BadSet:Xc K mg base "BadSet"):cE P w K mg base 2 "made_cells" ["rows","columns","cells"] lM:=
 cE.au F aL1 L9 aB1 (fun cdv A outer s H E Ep hr hX=>by
  exact (aI (ap3 (nU hX d_looked_through hr (a7 (qv 0) (a7 (qv 1) aA))))
   (aI (cA (g9 (fM (fN (eL (bH d_rises hr (a7 (qv 2) aA)))) (hJ (fN (eL (A1 B rfl (a7 (aq3 (N:=["cell","rows","columns"]) (fr:=[none,some 0,some 1]) (gP (qv 2)) (fun _ _ _ _=>(bH d_is_cell hr (a7 (qv 1) (a7 (qv 2) (a7 (qv 0) aA)))))) aA))))))) (aO (qL hX x_BadSet (a7 pI aA))) cD)
   (aO (bO (tY B (a7 (qv 2) aA)))))))
theorem U1:FnScope ["one","other","between_rows","between_columns"] ["one","other"] (aV (bA 15)):=.au
theorem aL3 (B:Bt mg) (F:FM K mg "near_boxes" 15 f fd) (d_gap:Df P w K mg base 1 "gap" ["start","end","other_start","other_end"] o6) {u_MOST_STEPS_APART:Nat} (m_MOST_STEPS_APART:mg "MOST_STEPS_APART" = some (.int 2 u_MOST_STEPS_APART)):Df P w K mg base 2 "near_boxes" ["one","other"] lS:=
 Df.au F U1 (fun cdv A outer s H E hr=>by
  have nd:=U1.nd
  exact⟨(P7),(aI (bL (i:=2) nd (bH d_gap hr (a7 (aT (qv 0) aB) (a7 (aT (qv 0) aB) (a7 (aT (qv 1) aB) (a7 (aT (qv 1) aB) aA))))))
   (aI (bL (i:=3) nd (bH d_gap hr (a7 (aT (qv 0) aB) (a7 (aT (qv 0) aB) (a7 (aT (qv 1) aB) (a7 (aT (qv 1) aB) aA))))))
   (aO (bO (ap0 (gN (qv 2) (qv 3)) (G6 rfl m_MOST_STEPS_APART)))))),aG2⟩)
theorem U2:FnScope ["script","k","stir"] ["script","k"] (aV (bA 26)):=.au
theorem aL4 (B:Bt mg) (F:FM K mg "_law_number" 26 f fd) (d__law_cell:Df P w K mg base 1 "_law_cell" ["script","k"] jF):Df P w K mg base 2 "_law_number" ["script","k"] lN:=
 Df.au F U2 (fun cdv A outer s H E hr=>by
  have nd:=U2.nd
  exact⟨(M8),(aI (cA (mZ (qv 1) (eM B (a7 (qv 0) aA))) (aO (bO (aT (qv 0) (qv 1)))) cD)
   (aI (bL (i:=2) nd (cU (mY (gN (gN (cU (bH d__law_cell hr (a7 (qv 0) (a7 (cU (qv 1) (lC B rfl (a7 aB (a7 (eM B (a7 (qv 0) aA)) aA)))) aA))) aB) (mY aB (qv 1))) aB) aB) aB))
   (aO (bO (fZ (cU (mY (qv 2) (qv 2)) aB) aB))))),aB4⟩)
theorem U3:FnScope ["found","due","k","number"] ["found","due"] (aV (bA 28)):=.au
theorem aL5 (B:Bt mg) (F:FM K mg "_law_boxes_are" 28 f fd) (d__law_whole:Df P w K mg base 1 "_law_whole" ["found"] qI):Df P w K mg base 2 "_law_boxes_are" ["found","due"] lZ:=
 Df.au F U3 (fun cdv A outer s H E hr=>by
  have nd:=U3.nd
  have hu3:=m7 hr
  exact⟨(R8 K),(aI (cA (g9 (fM (fN (eL (A3 B (qv 0)))) (hJ (tV (eM B (a7 (qv 0) aA)) (eM B (a7 (qv 1) aA)))))) (aO (bO fL)) cD)
   (aI (fO 2 nd (nC rfl B.range (eM B (a7 (qv 1) aA)))
    (aI (cA (g9 (fM (fN (eL (tZ B (aT (qv 0) (qv 2))))) (hJ (u6 hu3 (aT (qv 0) (qv 2)) (aT (qv 1) (qv 2)))))) (aO (bO fL)) cD)
    (aO (fO 3 nd (gP (aT (qv 0) (qv 2)))
     (aO (cA (fN (eL (bH d__law_whole hr (a7 (qv 3) aA)))) (aO (bO fL)) cD))))))
   (aO (bO fL)))),aH4 (kB K).ll (kB K).tt⟩)
theorem rQ:FnScope ["there","boxes","found","k","other"] ["there"] (aV (bA 35)):=.au
theorem aL6 (B:Bt mg) (F:FM K mg "_law_pairs" 35 f fd) (d__law_near:Df P w K mg base 1 "_law_near" ["one","other"] kK):Df P w K mg base 2 "_law_pairs" ["there"] rN:=
 Df.au F rQ (fun cdv A outer s H E hr=>by
  have nd:=rQ.nd
  exact⟨(S3),(aI (bL (i:=1) nd (vE B (a7 (pM B (a7 (qv 0) aA)) aA)))
   (aI (gA (i:=2) nd (iP aA))
   (aI (fO 3 nd (nC rfl B.range (eM B (a7 (qv 1) aA)))
    (aO (fO 4 nd (gP (nG (qv 1) nE (nF (qv 3))))
     (aO (cA (eL (bH d__law_near hr (a7 (aT (qv 1) (qv 3)) (a7 (qv 4) aA)))) (aO (jZ 2 (gO (a7 (qv 4) (a7 (aT (qv 1) (qv 3)) aA))))) cD)))))
   (aO (jD 2))))),aI1⟩)
theorem aL7 (B:Bt mg) (F:FM K mg "_law_pairs" 35 f fd) (d__law_near:Df P w K mg base 1 "_law_near" ["one","other"] kK):Df P w K mg base 2 "_law_pairs" ["there"] o9:=
 Df.au F rQ (fun cdv A outer s H E hr=>by
  have nd:=rQ.nd
  exact⟨S4,(aI (bL (i:=1) nd (vE B (a7 (G0 B rfl (a7 (qv 0) aA)) aA)))
   (aI (gA (i:=2) nd (iP aA))
   (aI (fO 3 nd (nC rfl B.range (eM B (a7 (qv 1) aA)))
    (aO (fO 4 nd (gP (nG (qv 1) nE (nF (qv 3))))
     (aO (cA (eL (bH d__law_near hr (a7 (aT (qv 1) (qv 3)) (a7 (qv 4) aA)))) (aO (jZ 2 (gO (a7 (qv 4) (a7 (aT (qv 1) (qv 3)) aA))))) cD)))))
   (aO (jD 2))))),aI2⟩)
theorem U4:FnScope ["boxes","box","other"] ["boxes","box"] (aV (bA 21)):=.au
theorem aL8 (B:Bt mg) (F:FM K mg "first_near" 21 f fd) (d_near_boxes:Df P w K mg base 2 "near_boxes" ["one","other"] lS):Df P w K mg base 3 "first_near" ["boxes","box"] kH:=
 Df.au F U4 (fun cdv A outer s H E hr=>by
  have nd:=U4.nd
  exact⟨(Q4),(aI (fO 2 nd (gP (qv 0))
    (aO (cA (eL (bH d_near_boxes hr (a7 (qv 2) (a7 (qv 1) aA)))) (aO (jD 2)) cD)))
   (aO (bO jC))),aG5⟩)
theorem aL9:FnScope ["there","step"] ["there","step"] (aV (bA 23)):=.au
theorem aM0 (B:Bt mg) (F:FM K mg "may_be_done" 23 f fd) (d_near_boxes:Df P w K mg base 2 "near_boxes" ["one","other"] lS):Df P w K mg base 3 "may_be_done" ["there","step"] rG:=
 Df.au F aL9 (fun cdv A outer s H E hr=>by
  have hu:=jQ hr
  have hu3:=m7 hr
  exact⟨(Q8 K),(aI (cA (g9 (fM (fN (eL (tZ B (qv 1)))) (hJ (tV (eM B (a7 (qv 1) aA)) aB)))) (aO (bO fL)) cD)
   (aI (cA (g9 (fM (pL hu (aT (qv 1) aB) (qv 0)) (hJ (pL hu (aT (qv 1) aB) (qv 0))))) (aO (bO fL)) cD)
   (aO (bO (nA (az7 hu3 (aT (qv 1) aB) (aT (qv 1) aB)) (tW (bH d_near_boxes hr (a7 (aT (qv 1) aB) (a7 (aT (qv 1) aB) aA))))))))),aG7 (kB K).tt⟩)
theorem U5:FnScope ["script","at","rows","columns","cell","seeds","place","many","row","column","k"] ["script","at","rows","columns"] (aV (bA 30)):=.au
theorem aM1 (B:Bt mg) (F:FM K mg "_law_seeds" 30 f fd) (d__law_cell:Df P w K mg base 1 "_law_cell" ["script","k"] jF) (d__law_number:Df P w K mg base 2 "_law_number" ["script","k"] lN):Df P w K mg base 3 "_law_seeds" ["script","at","rows","columns"] qZ:=
 Df.au F U5 (fun cdv A outer s H E hr=>by
  have nd:=U5.nd
  have hu3:=m7 hr
  exact⟨(M9),(aI (bL (i:=4) nd (bH d__law_cell hr (a7 (qv 0) (a7 (qv 1) aA))))
   (aI (cA (g9 (zW (pK (cU (qv 4) aB) aB) (zV (mZ (mY (qv 2) (qv 3)) aB)))) (aI (gA (i:=5) nd (iP aA))
    (aI (fO 6 nd (nC rfl B.range (mY (qv 2) (qv 3)))
     (aI (bL (i:=4) nd (fZ (qv 4) aB))
     (aO (cA (pK (cU (qv 4) aB) aB) (aO (jZ 5 (gO (a7 (fZ (qv 6) (qv 3)) (a7 (cU (qv 6) (qv 3)) aA))))) cD))))
    (aO (bO (tY B (a7 (qv 5) aA)))))) cD)
   (aI (bL (i:=7) nd (iN (eM B (a7 (qv 0) aA)) (qv 1)))
   (aI (cA (mZ (qv 7) aB) (aO (bL (i:=7) nd aB)) cD)
   (aI (gA (i:=5) nd (iP aA))
   (aI (bL (i:=8) nd aB)
   (aI (bL (i:=9) nd aB)
   (aI (fO 10 nd (nC rfl B.range (qv 7))
    (aI (bL (i:=4) nd (bH d__law_number hr (a7 (qv 0) (a7 (gN (qv 1) (qv 10)) aA))))
    (aI (cA (pK (cU (qv 4) aB) aB) (aI (bL (i:=8) nd (cU (fZ (qv 4) aB) (qv 2)))
     (aO (bL (i:=9) nd (cU (fZ (qv 4) aB) (qv 3))))) (aI (bL (i:=8) nd (cU (iN (gN (qv 8) (cU (fZ (qv 4) aB) aB)) aB) (qv 2)))
     (aO (bL (i:=9) nd (cU (iN (gN (qv 9) (cU (fZ (qv 4) aB) aB)) aB) (qv 3))))))
    (aO (cA (g9 (zW (az6 hu3 (gO (a7 (qv 8) (a7 (qv 9) aA))) (qv 5)) (zV (pJ (cU (fZ (qv 4) aB) aB) aB)))) (aO (jZ 5 (gO (a7 (qv 8) (a7 (qv 9) aA))))) cD)))))
   (aO (bO (tY B (a7 (ay0 B (a7 (qv 5) aA)) aA)))))))))))),aB7⟩)
theorem U6:FnScope ["seeds","steps","there","step","one","other"] ["seeds","steps"] (aV (bA 34)):=.au
theorem aM2 (B:Bt mg) (F:FM K mg "_law_walked" 34 f fd) (d__law_begun:Df P w K mg base 1 "_law_begun" ["seeds"] m6) (d__law_boxes_are:Df P w K mg base 2 "_law_boxes_are" ["found","due"] lZ) (d__law_near:Df P w K mg base 1 "_law_near" ["one","other"] kK) (d__law_hull:Df P w K mg base 1 "_law_hull" ["one","other"] m5):Df P w K mg base 3 "_law_walked" ["seeds","steps"] rO:=
 Df.au F U6 (fun cdv A outer s H E hr=>by
  have nd:=U6.nd
  have hu:=jQ hr
  have hu3:=m7 hr
  exact⟨(T4 K),(aI (gA (i:=2) nd (bH d__law_begun hr (a7 (qv 0) aA)))
   (aI (cA (fN (eL (A3 B (qv 1)))) (aO (bO jC)) cD)
   (aI (fO 3 nd (gP (qv 1))
    (aI (cA (g9 (fM (fN (eL (tZ B (qv 3)))) (hJ (tV (eM B (a7 (qv 3) aA)) aB)))) (aO (bO jC)) cD)
    (aI (J1 4 5 nd (qv 3))
    (aI (cA (fN (eL (bH d__law_boxes_are hr (a7 (iP (a7 (qv 4) (a7 (qv 5) aA))) (a7 (iP (a7 (qv 4) (a7 (qv 5) aA))) aA))))) (aO (bO jC)) cD)
    (aI (cA (g9 (fM (pL hu (qv 4) (qv 2)) (fM (pL hu (qv 5) (qv 2)) (fM (fN (az8 hu3 (qv 4) (qv 5))) (hJ (fN (eL (bH d__law_near hr (a7 (qv 4) (a7 (qv 5) aA)))))))))) (aO (bO jC)) cD)
    (aI (lK 2 hu (qv 4))
    (aI (lK 2 hu (qv 5))
    (aO (nB hu (i:=2) (bH d__law_hull hr (a7 (qv 4) (a7 (qv 5) aA))) fL)))))))))
   (aO (bO (vE B (a7 (G0 B rfl (a7 (qv 2) aA)) aA))))))),aI6 (kB K).ll (kB K).tt⟩)
theorem U7:FnScope ["script","seeds","there","steps","couples","step"] ["script","seeds"] (aV (bA 36)):=.au
theorem aM3 (B:Bt mg) (F:FM K mg "_law_other_growth" 36 f fd) (d__law_begun:Df P w K mg base 1 "_law_begun" ["seeds"] m6) (d__law_pairs:Df P w K mg base 2 "_law_pairs" ["there"] o9) (d__law_number:Df P w K mg base 2 "_law_number" ["script","k"] lN) (d__law_hull:Df P w K mg base 1 "_law_hull" ["one","other"] m5):Df P w K mg base 3 "_law_other_growth" ["script","seeds"] rP:=
 Df.au F U7 (fun cdv A outer s H E hr=>by
  have nd:=U7.nd
  have hu:=jQ hr
  exact⟨(T5),(aI (gA (i:=2) nd (bH d__law_begun hr (a7 (qv 1) aA)))
   (aI (gA (i:=3) nd (iP aA))
   (aI (bL (i:=4) nd (bH d__law_pairs hr (a7 (qv 2) aA)))
   (aI (zY PassesOwn.never (pJ (eM B (a7 (qv 4) aA)) aB)
    (aI (bL (i:=5) nd (aT (qv 4) (cU (bH d__law_number hr (a7 (qv 0) (a7 (eM B (a7 (qv 3) aA)) aA))) (eM B (a7 (qv 4) aA)))))
    (aI (jZ 3 (qv 5))
    (aI (lK 2 hu (aT (qv 5) aB))
    (aI (lK 2 hu (aT (qv 5) aB))
    (aI (nB hu (i:=2) (bH d__law_hull hr (a7 (aT (qv 5) aB) (a7 (aT (qv 5) aB) aA))) fL)
    (aO (bL (i:=4) nd (bH d__law_pairs hr (a7 (qv 2) aA))))))))))
   (aO (jD 3)))))),aI7⟩)
theorem U8:FnScope ["rows","columns","seeds","settled","steps","box","growing","close"] ["rows","columns","seeds"] (aV (bA 20)):=.au
theorem aM4 (B:Bt mg) (F:FM K mg "growth" 20 f fd) (d_cell_boxes:Df P w K mg base 1 "cell_boxes" ["cells"] lU) (d_made_cells:cE P w K mg base 2 "made_cells" ["rows","columns","cells"] lM) (d_first_near:Df P w K mg base 3 "first_near" ["boxes","box"] kH) (d_hull_of:Df P w K mg base 1 "hull_of" ["one","other"] lT):cE P w K mg base 4 "growth" ["rows","columns","seeds"] kI:=
 cE.au F U8 R5 aH1 (fun cdv A outer s H E Ep hr hX=>by
  have nd:=U8.nd
  have hu3:=m7 hr
  exact (aI (gA (i:=3) nd (iP aA))
   (aI (gA (i:=4) nd (iP aA))
   (aI (fO 5 (hp:=hX.own) nd (gP (bH d_cell_boxes hr (a7 (nU hX d_made_cells hr (a7 (qv 0) (a7 (qv 1) (a7 (qv 2) aA)))) aA)))
    (aI (bL (i:=6) nd (qv 5))
    (aI (bL (i:=7) nd (bH d_first_near hr (a7 (qv 3) (a7 (qv 6) aA))))
    (aI (zY hX.own (zU (qv 7) jC)
     (aI (jZ 4 (gO (a7 (aD8 B rfl hu3 (a7 (qv 6) (a7 (qv 7) aA))) (a7 (aD9 B rfl hu3 (a7 (qv 6) (a7 (qv 7) aA))) aA))))
     (aI (bL (i:=6) nd (bH d_hull_of hr (a7 (qv 6) (a7 (qv 7) aA))))
     (aI (aE4 3 hu3 (qv 7))
     (aO (bL (i:=7) nd (bH d_first_near hr (a7 (qv 3) (a7 (qv 6) aA)))))))))
    (aO (jZ 3 (qv 6)))))))
   (aO (jD 4))))))
theorem U9:FnScope ["rows","columns","seeds","steps","there","step","boxes","turn","box"] ["rows","columns","seeds","steps"] (aV (bA 22)):=.au
theorem aM5 (B:Bt mg) (F:FM K mg "judged_growth" 22 f fd) (d_marked:Df P w K mg base 1 "marked" ["hearths"] rH) (d_cell_boxes:Df P w K mg base 1 "cell_boxes" ["cells"] lU) (d_made_cells:cE P w K mg base 2 "made_cells" ["rows","columns","cells"] lM) (d_may_be_done:Df P w K mg base 3 "may_be_done" ["there","step"] rG) (d_hull_of:Df P w K mg base 1 "hull_of" ["one","other"] lT) (d_first_near:Df P w K mg base 3 "first_near" ["boxes","box"] kH) (x_NoPaper:Xc K mg base "NoPaper"):cE P w K mg base 4 "judged_growth" ["rows","columns","seeds","steps"] kJ:=
 cE.au F U9 R6 aH2 (fun cdv A outer s H E Ep hr hX=>by
  have nd:=U9.nd
  have hu:=jQ hr
  exact (aI (gA (i:=4) nd (bH d_marked hr (a7 (bH d_cell_boxes hr (a7 (nU hX d_made_cells hr (a7 (qv 0) (a7 (qv 1) (a7 (qv 2) aA)))) aA)) aA)))
   (aI (fO 5 (hp:=hX.own) nd (gP (qv 3))
    (aI (cA (fN (eL (bH d_may_be_done hr (a7 (qv 4) (a7 (qv 5) aA))))) (aO (qL hX x_NoPaper (a7 pI aA))) cD)
    (aI (lK 4 hu (aT (qv 5) aB))
    (aI (lK 4 hu (aT (qv 5) aB))
    (aO (nB hu (i:=4) (bH d_hull_of hr (a7 (aT (qv 5) aB) (a7 (aT (qv 5) aB) aA))) fL))))))
   (aI (bL (i:=6) nd (aC3 B rfl (a7 (qv 4) aA)))
   (aI (A5 7 8 (hp:=hX.own) nd (aw6 rfl B.enum (qv 6))
    (aO (cA (zU (bH d_first_near hr (a7 (nG (qv 6) nE (nF (qv 7))) (a7 (qv 8) aA))) jC) (aO (qL hX x_NoPaper (a7 pI aA))) cD)))
   (aO (jD 6)))))))
theorem aM6:FnScope ["rows","columns","seeds"] ["rows","columns","seeds"] (aV (bA 19)):=.au
theorem aM7 (B:Bt mg) (F:FM K mg "grown_boxes" 19 f fd) (d_judged_growth:cE P w K mg base 4 "judged_growth" ["rows","columns","seeds","steps"] kJ) (d_growth:cE P w K mg base 4 "growth" ["rows","columns","seeds"] kI):cE P w K mg base 5 "grown_boxes" ["rows","columns","seeds"] rL:=
 cE.au F aM6 R7 aH3 (fun cdv A outer s H E Ep hr hX=>by
  exact (aO (bO (nU hX d_judged_growth hr (a7 (qv 0) (a7 (qv 1) (a7 (qv 2) (a7 (nU hX d_growth hr (a7 (qv 0) (a7 (qv 1) (a7 (qv 2) aA)))) aA))))))))
theorem V0:FnScope ["script","rows","columns","seeds","steps","last","found","handed","other"] ["script"] (aV (bA 37)):=.au
theorem aM8 (B:Bt mg) (F:fD K "law" "law" (bA 37) f fd) (d__law_lines:Df P w K mg base 1 "_law_lines" ["cell"] qY) (d__law_cell:Df P w K mg base 1 "_law_cell" ["script","k"] jF) (d__law_seeds:Df P w K mg base 3 "_law_seeds" ["script","at","rows","columns"] qZ) (d_growth:cE P w K mg base 4 "growth" ["rows","columns","seeds"] kI) (d__law_walked:Df P w K mg base 3 "_law_walked" ["seeds","steps"] rO) (d_grown_boxes:cE P w K mg base 5 "grown_boxes" ["rows","columns","seeds"] rL) (d__law_pairs:Df P w K mg base 2 "_law_pairs" ["there"] rN) (d__law_boxes_are:Df P w K mg base 2 "_law_boxes_are" ["found","due"] lZ) (d_judged_growth:cE P w K mg base 4 "judged_growth" ["rows","columns","seeds","steps"] kJ) (d__law_other_growth:Df P w K mg base 3 "_law_other_growth" ["script","seeds"] rP):dA P w K mg base eC 6 f fd ["script"] (mP K vY):=
 au9 F V0 (fun xs Q h=>by unfold vY at h; repeat (first | (obtain ⟨rfl,_⟩:=h; rfl) | (obtain ⟨_,h⟩:=h))) (fun cdv A outer s H E hr=>by
  have nd:=V0.nd
  have hu3:=m7 hr
  exact⟨(T6),(aI (J1 1 2 nd (bH d__law_lines hr (a7 (bH d__law_cell hr (a7 (qv 0) (a7 aB aA))) aA)))
   (aI (bL (i:=3) nd (nG (bH d__law_seeds hr (a7 (qv 0) (a7 aB (a7 (qv 1) (a7 (qv 2) aA))))) nE (nF aB)))
   (aI (aE6 (nV d_growth hr (a7 (qv 1) (a7 (qv 2) (a7 (qv 3) aA)))))
   (aI (bL (i:=4) nd (nV d_growth hr (a7 (qv 1) (a7 (qv 2) (a7 (pM B (a7 (qv 3) aA)) aA)))))
   (aI (bL (i:=5) nd (bH d__law_walked hr (a7 (qv 3) (a7 (qv 4) aA))))
   (aI (bL (i:=6) nd (nV d_grown_boxes hr (a7 (qv 1) (a7 (qv 2) (a7 (qv 3) aA)))))
   (aI (cA (g9 (fM (ap1 (qv 5) jC) (fM (pJ (eM B (a7 (bH d__law_pairs hr (a7 (qv 5) aA)) aA)) aB) (hJ (u6 hu3 (qv 6) (qv 5)))))) (aO (bO fL)) cD)
   (aI (bL (i:=7) nd (pM B (a7 (qv 4) aA)))
   (aI (cA (g9 (fM (fN (eL (bH d__law_boxes_are hr (a7 (nV d_judged_growth hr (a7 (qv 1) (a7 (qv 2) (a7 (qv 3) (a7 (qv 7) aA))))) (a7 (qv 5) aA))))) (hJ (u6 hu3 (qv 7) (qv 4))))) (aO (bO fL)) cD)
   (aI (bL (i:=8) nd (bH d__law_other_growth hr (a7 (qv 0) (a7 (qv 3) aA))))
   (aO (bO (aq1 hu3 (nV d_judged_growth hr (a7 (qv 1) (a7 (qv 2) (a7 (pM B (a7 (qv 3) aA)) (a7 (qv 8) aA))))) (qv 5)))))))))))))),aI9⟩)
end
set_option autoImplicit true in
theorem aM9 {l:OpenLaw}{w:World}{K:Frag}{h:Heap}{mg:Str->Option Value} (X:K.In h) (G:h.Ns mainGlobals mg) (hfa:mg "law" = some (.ref fa))
  (h0:FK K "rises" 6 f0 d0)
  (h1:FK K "marked" 7 f1 d1)
  (h2:FK K "looked_through" 10 f2 d2)
  (h3:FK K "is_cell" 11 f3 d3)
  (h4:FK K "gap" 16 f4 d4)
  (h5:FK K "hull_of" 17 f5 d5)
  (h6:FK K "cell_boxes" 18 f6 d6)
  (h7:FK K "_law_cell" 25 f7 d7)
  (h8:FK K "_law_whole" 27 f8 d8)
  (h9:FK K "_law_lines" 29 f9 d9)
  (h10:FK K "_law_near" 31 f10 d10)
  (h11:FK K "_law_hull" 32 f11 d11)
  (h12:FK K "_law_begun" 33 f12 d12)
  (h13:FK K "made_cells" 12 f13 d13)
  (h14:FK K "near_boxes" 15 f14 d14)
  (h15:FK K "_law_number" 26 f15 d15)
  (h16:FK K "_law_boxes_are" 28 f16 d16)
  (h17:FK K "_law_pairs" 35 f17 d17)
  (h18:FK K "first_near" 21 f18 d18)
  (h19:FK K "may_be_done" 23 f19 d19)
  (h20:FK K "_law_seeds" 30 f20 d20)
  (h21:FK K "_law_walked" 34 f21 d21)
  (h22:FK K "_law_other_growth" 36 f22 d22)
  (h23:FK K "growth" 20 f23 d23)
  (h24:FK K "judged_growth" 22 f24 d24)
  (h25:FK K "grown_boxes" 19 f25 d25)
  (a26:nsIn K mainGlobals "law" = some (some (.ref f26))) (l26:K.lookup f26=some ⟨oc26,od26,.func (fnOf "law" "law" (iG (bA 37)) (dO (bA 37)) (aV (bA 37)) .none kV26 dc26 pm26 an26 cd26 ct26),sl26⟩) (c26:codeIn K cd26 "law" = true) (k26:keepIn K (.ref f26)=true)
  (z_len:nsIn K mainGlobals "len" = some none)
  (z_range:nsIn K mainGlobals "range" = some none)
  (z_tuple:nsIn K mainGlobals "tuple" = some none)
  (z_list:nsIn K mainGlobals "list" = some none)
  (z_sorted:nsIn K mainGlobals "sorted" = some none)
  (z_all:nsIn K mainGlobals "all" = some none)
  (z_any:nsIn K mainGlobals "any" = some none)
  (z_zip:nsIn K mainGlobals "zip" = some none)
  (z_min:nsIn K mainGlobals "min" = some none)
  (z_max:nsIn K mainGlobals "max" = some none)
  (z_sum:nsIn K mainGlobals "sum" = some none)
  (z_isinstance:nsIn K mainGlobals "isinstance" = some none)
  (z_int:nsIn K mainGlobals "int" = some none)
  (z_bool:nsIn K mainGlobals "bool" = some none)
  (z_enumerate:nsIn K mainGlobals "enumerate" = some none)
  {u_MOST_ROWS:Nat} (z_MOST_ROWSx:nsIn K mainGlobals "MOST_ROWS" = some (some (.int 40 u_MOST_ROWS)))
  {u_MOST_STEPS_APART:Nat} (z_MOST_STEPS_APARTx:nsIn K mainGlobals "MOST_STEPS_APART" = some (some (.int 2 u_MOST_STEPS_APART)))
  {C_HearthError C_BadSet C_BadBoard C_NoPaper:Addr}
  (aX_HE:nsIn K mainGlobals "HearthError" = some (some (.ref C_HearthError)))
  (aX_BS:nsIn K mainGlobals "BadSet" = some (some (.ref C_BadSet)))
  (aX_BB:nsIn K mainGlobals "BadBoard" = some (some (.ref C_BadBoard)))
  (aX_NP:nsIn K mainGlobals "NoPaper" = some (some (.ref C_NoPaper)))
  (zX_BW:nsIn K mainGlobals "BadWeb" = some none)
  (zX_BO:nsIn K mainGlobals "BadOrder" = some none)
  (zX_BP:nsIn K mainGlobals "BadPrices" = some none)
  (zX_BD:nsIn K mainGlobals "BadDeed" = some none)
  (zX_NW:nsIn K mainGlobals "NotWood" = some none)
  (zX_NS:nsIn K mainGlobals "NoSuch" = some none)
  (zX_TM:nsIn K mainGlobals "TooMany" = some none)
  (zX_NT:nsIn K mainGlobals "NoText" = some none)
  (zX_OR:nsIn K mainGlobals "OddRound" = some none)
  (y_fg:specialIn K (.builtin "object.__class__") "__get__" = some (some (.builtin "getset_descriptor.__get__")))
  (y_ft:takesIn K (.builtin "object.__class__")=some true)
  (z_VE:nsIn K mainGlobals "ValueError" = some none)
  (y1_HE:isClsIn K C_HearthError=true)
  (y2_HE:typeIn K (.ref C_HearthError)=some (.type "type"))
  (y3_HE:findIn K (.ref C_HearthError) "__getattribute__" = some (some (.builtin "BaseException.__getattribute__")))
  (y4_HE:findIn K (.ref C_HearthError) "__getattr__" = some none)
  (y5_HE:findIn K (.ref C_HearthError) "__class__" = some (some (.builtin "object.__class__")))
  (y6_HE:mroIn K C_HearthError (.type "object")=some true)
  (y7_HE:mroIn K C_HearthError (.type "BaseException")=some true)
  (y1_BS:isClsIn K C_BadSet=true)
  (y2_BS:typeIn K (.ref C_BadSet)=some (.type "type"))
  (y3_BS:findIn K (.ref C_BadSet) "__getattribute__" = some (some (.builtin "BaseException.__getattribute__")))
  (y4_BS:findIn K (.ref C_BadSet) "__getattr__" = some none)
  (y5_BS:findIn K (.ref C_BadSet) "__class__" = some (some (.builtin "object.__class__")))
  (y6_BS:mroIn K C_BadSet (.type "object")=some true)
  (y7_BS:mroIn K C_BadSet (.type "BaseException")=some true)
  (y1_BB:isClsIn K C_BadBoard=true)
  (y2_BB:typeIn K (.ref C_BadBoard)=some (.type "type"))
  (y3_BB:findIn K (.ref C_BadBoard) "__getattribute__" = some (some (.builtin "BaseException.__getattribute__")))
  (y4_BB:findIn K (.ref C_BadBoard) "__getattr__" = some none)
  (y5_BB:findIn K (.ref C_BadBoard) "__class__" = some (some (.builtin "object.__class__")))
  (y6_BB:mroIn K C_BadBoard (.type "object")=some true)
  (y7_BB:mroIn K C_BadBoard (.type "BaseException")=some true)
  (y1_NP:isClsIn K C_NoPaper=true)
  (y2_NP:typeIn K (.ref C_NoPaper)=some (.type "type"))
  (y3_NP:findIn K (.ref C_NoPaper) "__getattribute__" = some (some (.builtin "BaseException.__getattribute__")))
  (y4_NP:findIn K (.ref C_NoPaper) "__getattr__" = some none)
  (y5_NP:findIn K (.ref C_NoPaper) "__class__" = some (some (.builtin "object.__class__")))
  (y6_NP:mroIn K C_NoPaper (.type "object")=some true)
  (y7_NP:mroIn K C_NoPaper (.type "BaseException")=some true)
  (q_BB:excIn K C_BadBoard [.type "ValueError",.type "Exception",.type "BaseException",.type "object"] "ValueError.__new__" = true)
  (q_BS:excIn K C_BadSet [.type "ValueError",.type "Exception",.type "BaseException",.type "object"] "ValueError.__new__" = true)
  (q_NP:excIn K C_NoPaper [.type "ValueError",.type "Exception",.type "BaseException",.type "object"] "ValueError.__new__" = true)
  : ∃ fd:FuncData,(∀ (s:Shared) (v:Value),BindsTo s fd ⟨[v],[]⟩ [("script",v)])/\∀ base:Heap,K.In base->base.Ns mainGlobals mg->dA l.prog w K mg base eC 6 fa fd ["script"] (qJ K):=by
 have e:=hfa.symm.trans (mg_of X G a26)
 cases e
 have F26:=ah3 (st:=bA 37) l26 c26 k26
 have m26:=mg_of X G a26
 have B:Bt mg:=⟨mg_none_of X G z_len,mg_none_of X G z_range,mg_none_of X G z_tuple,mg_none_of X G z_list,mg_none_of X G z_sorted,mg_none_of X G z_all,mg_none_of X G z_any,mg_none_of X G z_zip,mg_none_of X G z_min,mg_none_of X G z_max,mg_none_of X G z_sum,mg_none_of X G z_isinstance,mg_none_of X G z_int,mg_none_of X G z_bool,mg_none_of X G z_enumerate⟩
 have m_MOST_ROWS:=mg_of X G z_MOST_ROWSx
 have m_MOST_STEPS_APART:=mg_of X G z_MOST_STEPS_APARTx
 refine⟨fnOf "law" "law" (iG (bA 37)) (dO (bA 37)) (aV (bA 37)) .none kV26 dc26 pm26 an26 cd26 ct26,fun s v=>.of_eq rfl,fun base KB _=>?_⟩
 have XK_HearthError:qM K C_HearthError:=⟨y1_HE,y2_HE,y3_HE,y4_HE,y5_HE,y_fg,y_ft,y6_HE,y7_HE⟩
 have XK_BadSet:qM K C_BadSet:=⟨y1_BS,y2_BS,y3_BS,y4_BS,y5_BS,y_fg,y_ft,y6_BS,y7_BS⟩
 have XK_BadBoard:qM K C_BadBoard:=⟨y1_BB,y2_BB,y3_BB,y4_BB,y5_BB,y_fg,y_ft,y6_BB,y7_BB⟩
 have XK_NoPaper:qM K C_NoPaper:=⟨y1_NP,y2_NP,y3_NP,y4_NP,y5_NP,y_fg,y_ft,y6_NP,y7_NP⟩
 have x_BadBoard:Xc K mg base "BadBoard":=⟨C_BadBoard,_,_,_,_,uY KB (mg_of X G aX_BB) q_BB,PySem.F.excBase_ValueError,aX_BB⟩
 have x_BadSet:Xc K mg base "BadSet":=⟨C_BadSet,_,_,_,_,uY KB (mg_of X G aX_BS) q_BS,PySem.F.excBase_ValueError,aX_BS⟩
 have x_NoPaper:Xc K mg base "NoPaper":=⟨C_NoPaper,_,_,_,_,uY KB (mg_of X G aX_NP) q_NP,PySem.F.excBase_ValueError,aX_NP⟩
 have D0:=G1 (P:=l.prog) (w:=w) (base:=base) B (h0.M X G)
 have D1:=aJ1 (P:=l.prog) (w:=w) (base:=base) B (h1.M X G)
 have D2:=aJ3 (P:=l.prog) (w:=w) (base:=base) B (h2.M X G)  x_BadBoard m_MOST_ROWS
 have D3:=aJ5 (P:=l.prog) (w:=w) (base:=base) B (h3.M X G)
 have D4:=aJ7 (P:=l.prog) (w:=w) (base:=base) B (h4.M X G)
 have D5:=aJ9 (P:=l.prog) (w:=w) (base:=base) B (h5.M X G)
 have D6:=aK1 (P:=l.prog) (w:=w) (base:=base) B (h6.M X G)
 have D7:=aK3 (P:=l.prog) (w:=w) (base:=base) B (h7.M X G)
 have D8:=aK5 (P:=l.prog) (w:=w) (base:=base) B (h8.M X G)
 have D9:=aK6 (P:=l.prog) (w:=w) (base:=base) B (h9.M X G)
 have D10:=aK7 (P:=l.prog) (w:=w) (base:=base) B (h10.M X G)
 have D11:=aK9 (P:=l.prog) (w:=w) (base:=base) B (h11.M X G)
 have D12:=aL0 (P:=l.prog) (w:=w) (base:=base) B (h12.M X G)
 have D13:=aL2 (P:=l.prog) (w:=w) (base:=base) B (h13.M X G) D2 D0 D3 x_BadSet
 have D14:=aL3 (P:=l.prog) (w:=w) (base:=base) B (h14.M X G) D4 m_MOST_STEPS_APART
 have D15:=aL4 (P:=l.prog) (w:=w) (base:=base) B (h15.M X G) D7
 have D16:=aL5 (P:=l.prog) (w:=w) (base:=base) B (h16.M X G) D8
 have D17:=aL6 (P:=l.prog) (w:=w) (base:=base) B (h17.M X G) D10
 have DD17:=aL7 (P:=l.prog) (w:=w) (base:=base) B (h17.M X G) D10
 have D18:=aL8 (P:=l.prog) (w:=w) (base:=base) B (h18.M X G) D14
 have D19:=aM0 (P:=l.prog) (w:=w) (base:=base) B (h19.M X G) D14
 have D20:=aM1 (P:=l.prog) (w:=w) (base:=base) B (h20.M X G) D7 D15
 have D21:=aM2 (P:=l.prog) (w:=w) (base:=base) B (h21.M X G) D12 D16 D10 D11
 have D22:=aM3 (P:=l.prog) (w:=w) (base:=base) B (h22.M X G) D12 DD17 D15 D11
 have D23:=aM4 (P:=l.prog) (w:=w) (base:=base) B (h23.M X G) D6 D13 D18 D5
 have D24:=aM5 (P:=l.prog) (w:=w) (base:=base) B (h24.M X G) D1 D6 D13 D19 D5 D18 x_NoPaper
 have D25:=aM7 (P:=l.prog) (w:=w) (base:=base) B (h25.M X G) D24 D23
 exact av0 (aM8 B F26 D9 D7 D20 D23 D21 D25 D17 D16 D24 D22)
theorem aN0 {l:OpenLaw}{q:Program}{loose:List Str}{XP:(Str->Option Value)->Heap->Prop}{YP:World->Heap->Prop}{d:DefRec}{K:Params->Frag} (hn:l.most=some 63) (hdf:d.params.defaults = [])
  (hY:∀ (w:World) (h:Heap),YP w h->(K w.params).In h)
  (F:∀ (w:World) (mg:Str->Option Value) (fa:Addr) (h:Heap),(K w.params).In h->h.Ns mainGlobals mg->mg d.name=some (.ref fa)->
   ∃ fd:FuncData,(∀ (s:Shared) (u:Value),BindsTo s fd ⟨[u],[]⟩ [("script",u)])/\∀ base:Heap,(K w.params).In base->base.Ns mainGlobals mg->dA l.prog w (K w.params) mg base eC 6 fa fd ["script"] (qJ (K w.params))) :
  WalkO q loose XP YP l.row.toRowW d [] (fun f vs=>PySem.call f vs):=
 L2.ah1 (n:=63) (k:=6) (x:="script") (CX:=fun _=>eC) (sp:=fun w=>qJ (K w.params)) hn (by decide) hdf ⟨rfl,by decide,by decide⟩ hY F (fun _ _ a ns hl hO hS=>⟨a,ns,rfl,av1 hO hS,hl,fun _=>rfl⟩) fun _ _ _ _ _ z=>z
end K_k63
open PySem PySem.W PyProof.Rows
theorem PySem.W.Fast.te13052408679150730464 : True := trivial
theorem PySem.W.Fast.te16555476440528808052 : True := trivial
theorem PySem.W.Fast.te5369427470323729400 : True := trivial
set_option maxRecDepth 100000 in
set_option maxHeartbeats 0 in
theorem PySem.Challenge.cw_kindleweb_k63_whole_growths_holds : PySem.Challenge.rw_kindleweb_k63_whole_growths.Holds := by
 w_on; o_law; k_head; (case hw => w_witness2)
 k_fill
 refine K_k63.aN0 (l := PySem.Challenge.rw_kindleweb_k63_whole_growths) rfl rfl (fun w h Y => PySem.W.kIn_of Y) ?F
 case F =>
  intro w mg fa h KX G hmg
  refine' K_k63.aM9 KX G hmg ?h0 ?h1 ?h2 ?h3 ?h4 ?h5 ?h6 ?h7 ?h8 ?h9 ?h10 ?h11 ?h12 ?h13 ?h14 ?h15 ?h16 ?h17 ?h18 ?h19 ?h20 ?h21 ?h22 ?h23 ?h24 ?h25 ?a26 ?l26 ?c26 ?k26 ?z_len ?z_range ?z_tuple ?z_list ?z_sorted ?z_all ?z_any ?z_zip ?z_min ?z_max ?z_sum ?z_isinstance ?z_int ?z_bool ?z_enumerate ?z_MOST_ROWSx ?z_MOST_STEPS_APARTx ?aX_HE ?aX_BS ?aX_BB ?aX_NP ?zX_BW ?zX_BO ?zX_BP ?zX_BD ?zX_NW ?zX_NS ?zX_TM ?zX_NT ?zX_OR ?y_fg ?y_ft ?z_VE ?y1_HE ?y2_HE ?y3_HE ?y4_HE ?y5_HE ?y6_HE ?y7_HE ?y1_BS ?y2_BS ?y3_BS ?y4_BS ?y5_BS ?y6_BS ?y7_BS ?y1_BB ?y2_BB ?y3_BB ?y4_BB ?y5_BB ?y6_BB ?y7_BB ?y1_NP ?y2_NP ?y3_NP ?y4_NP ?y5_NP ?y6_NP ?y7_NP ?q_BB ?q_BS ?q_NP
  (case h0 | h1 | h2 | h3 | h4 | h5 | h6 | h7 | h8 | h9 | h10 | h11 | h12 | h13 | h14 | h15 | h16 | h17 | h18 | h19 | h20 | h21 | h22 | h23 | h24 | h25 => exact ⟨by k_is, ⟨⟨_, _, _, _, _, _, _, _, _, rfl, by k_is, by k_is⟩, by k_is⟩⟩)
  (case a26|l26|c26|k26|z_len|z_range|z_tuple|z_list|z_sorted|z_all|z_any|z_zip|z_min|z_max|z_sum|z_isinstance|z_int|z_bool|z_enumerate|z_MOST_ROWSx|z_MOST_STEPS_APARTx|aX_HE|aX_BS|aX_BB|aX_NP|zX_BW|zX_BO|zX_BP|zX_BD|zX_NW|zX_NS|zX_TM|zX_NT|zX_OR|y_fg|y_ft|z_VE|y1_HE|y2_HE|y3_HE|y4_HE|y5_HE|y6_HE|y7_HE|y1_BS|y2_BS|y3_BS|y4_BS|y5_BS|y6_BS|y7_BS|y1_BB|y2_BB|y3_BB|y4_BB|y5_BB|y6_BB|y7_BB|y1_NP|y2_NP|y3_NP|y4_NP|y5_NP|y6_NP|y7_NP => k_is)
  (case q_BB|q_BS|q_NP => k_exc)


