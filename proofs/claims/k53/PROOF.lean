import PyProof.Rows.All
import Wide.All
import OpenK.AllK
import Wide.FinOn
import Lean
import PyProof.EqAt
import PyProof.EqKinds
import PyProof.TupleCall
import PyProof.NeKinds
import PyProof.Draws
import PyProof.ZipIter
import PyProof.DictUpdate
import PyProof.AutoSeq1
import PyProof.ListRange
import PyProof.ListMulRoad
import PyProof.FactsAll.tuple_2
import PyProof.Rows.SortShell
import PyProof.EnumFor
import PyProof.EnumMake
import PyProof.EnumStmt
import PyProof.Rows.SortWalk
import KE.KDictList
import PyProof.SumAny
import PyProof.ConsumeWalk
import PyProof.WalksMore
import PyProof.Rows.TupAssign
import PyProof.ExcArgsOwn
import PySem.Challenge.RW_kindleweb_k53_best_ledgers
set_option Elab.async false
set_option linter.all false
set_option maxRecDepth 100000
set_option maxHeartbeats 4000000
section
open PySem PySem.Spec PyProof.Rows
noncomputable def aN2:=@wpAny_bind
noncomputable def aN3:=@List.size_toArray
noncomputable def aN4:=@Heap.get?_push_of_some
noncomputable def aN5:=@List.getElem?_eq_getElem
noncomputable def aN6:=@List.length_map
noncomputable def aN7:=@List.mem_singleton
noncomputable def aN8:=@List.mem_of_getElem?
noncomputable def aN9:=@List.getElem?_eq_some_iff
noncomputable def aO0:=@Nat.le_refl
noncomputable def aO1:=@List.mem_cons_self
noncomputable def aO2:=@decide_eq_true
noncomputable def aO3:=@List.getD_eq_getElem?_getD
noncomputable def aO4:=@List.mem_append
noncomputable def aO5:=@List.getElem?_map
noncomputable def aO6:=@wpAny_pure
noncomputable def aO7:=@List.mem_cons
noncomputable def aO8:=@List.mem_cons_of_mem
noncomputable def aO9:=@Nat.lt_of_lt_of_le
noncomputable def aP0:=@decide_eq_false
noncomputable def aP1:=@Heap.lt_size
noncomputable def aP2:=@Bool.false_ne_true
noncomputable def aP4:=@List.mem_map
noncomputable def aP5:=@Heap.get?_push_size
noncomputable def aP6:=@List.mem_filter
noncomputable def aP7:=@List.length_append
noncomputable def aP8:=@List.length_cons
noncomputable def aQ0:=@List.map_append
noncomputable def aQ1:=@List.pairwise_singleton
noncomputable def aQ2:=@Bool.false_eq_true
noncomputable def aQ3:=@Int.toNat_natCast
noncomputable def aQ4:=@List.mem_append_right
noncomputable def aQ5:=@Option.some.inj
noncomputable def aQ6:=@List.getElem?_append_left
noncomputable def aQ9:=@List.mem_append_left
noncomputable def aR0:=@List.getElem?_set_ne
noncomputable def aR1:=@List.not_mem_nil
noncomputable def aR2:=@Nat.ne_of_lt
noncomputable def aR3:=@List.take_of_length_le
noncomputable def aR4:=@Bool.and_eq_true
noncomputable def aR5:=@List.take_add_one
noncomputable def aR7:=@List.length_set
noncomputable def aR8:=@List.replicate_succ
noncomputable def aS0:=@Nat.le_trans
noncomputable def aS1:=@Nat.lt_irrefl
noncomputable def aS2:=@List.length_singleton
noncomputable def aS3:=@Nat.zero_le
noncomputable def aS4:=@PySem.mem_of_lookup
noncomputable def aS6:=@List.map_cons
noncomputable def aS8:=@List.length_filter_le
noncomputable def aT0:=@List.lookup_cons
noncomputable def aT1:=@Nat.le_of_lt
noncomputable def aT2:=@List.getElem?_set_self
noncomputable def aT3:=@of_decide_eq_true
noncomputable def aT4:=@PyProof.Rows.callWith_type1
noncomputable def aT6:=@List.map_map
noncomputable def aT7:=@Int.emod_nonneg
noncomputable def aT8:=@if_false
noncomputable def aT9:=@PySem.F.plainAttrs_list
noncomputable def aU0:=@wpAny_newObj_type
noncomputable def aU1:=@Classical.byContradiction
noncomputable def aU2:=@PySem.W.kia_one
noncomputable def aU4:=@Nat.le_add_right
noncomputable def aU5:=@List.take_length
noncomputable def aU6:=@List.mem_iff_getElem?
noncomputable def aU7:=@wpAny_callSpecial?_slot
noncomputable def aU8:=@List.getElem?_cons_succ
noncomputable def aV1:=@List.pairwise_cons
noncomputable def aV2:=@Bool.eq_iff_iff
noncomputable def aV3:=@List.nodup_cons
noncomputable def aV4:=@List.length_take
noncomputable def aV5:=@wpAny_call_entry
noncomputable def aV6:=@beq_self_eq_true
noncomputable def aV7:=@List.all_eq_true
noncomputable def aV8:=@wpAny_mono
noncomputable def aV9:=@wpAny_field
noncomputable def aW0:=@List.flatten_cons
noncomputable def aW1:=@List.length_replicate
noncomputable def aW4:=@Nat.ne_of_gt
noncomputable def aW5:=@List.find?_cons
noncomputable def aW7:=@List.length_drop
noncomputable def aW8:=@List.filter_cons_of_neg
noncomputable def aW9:=@List.all_cons
noncomputable def aX0:=@wpAny_truthy_bool
noncomputable def aX1:=@List.getElem?_append_right
noncomputable def aX2:=@List.pairwise_map
noncomputable def aX3:=@or_false
noncomputable def aX4:=@decide_eq_true_eq
noncomputable def aX5:=@Int.ne_of_lt
noncomputable def aX6:=@List.nodup_append
noncomputable def aX7:=@PyProof.Rows.slot_tuple_getitem
noncomputable def aX8:=@List.filter_cons
noncomputable def aY0:=@PySem.F.slot_list_append
noncomputable def aY1:=@PySem.F.type_list_append
noncomputable def aY3:=@Bool.and_false
noncomputable def aY4:=@List.Pairwise.nil
noncomputable def aY5:=@Bool.eq_false_iff
noncomputable def aY6:=@List.mem_singleton_self
noncomputable def aY7:=@List.filter_cons_of_pos
noncomputable def aY9:=@List.append_nil
noncomputable def aZ1:=@Array.getD_eq_getD_getElem?
noncomputable def aZ2:=@wpAny_holding
noncomputable def aZ3:=@List.any_cons
noncomputable def aZ4:=@Nat.le_of_not_lt
noncomputable def aZ5:=@List.mem_range
noncomputable def aZ6:=@List.mem_filterMap
noncomputable def aZ8:=@Bool.false_and
noncomputable def ba0:=@wpAny_seqItems
noncomputable def ba1:=@wpAny_setField_rec
noncomputable def ba2:=@List.zip_cons_cons
noncomputable def ba3:=@Int.emod_lt_of_pos
noncomputable def ba4:=@List.getElem?_eq_none
noncomputable def ba5:=@wpAny_passesOwn
noncomputable def ba7:=@PassesOwn.never
noncomputable def bb1:=@True.intro
noncomputable def bb4:=@Heap.size_push
noncomputable def bb5:=@Prod.mk.inj
end
namespace L2
open PySem PySem.Spec PyProof.Rows
noncomputable abbrev aG:=Sum Int Str
noncomputable def kX:aG->Value->Bool
 | .inl k,v=>Value.isInt k v
 | .inr x,v=>Value.isStrOf x v
noncomputable def V4 (w:World):aG->Int
 | .inl k=>hashInt k
 | .inr x=>hashStr w x
theorem hZ:∀ {k:aG}{v:Value},kX k v=true->(∃ i t,k=Sum.inl i/\v=Value.int i t) ∨ (∃ x t,k=Sum.inr x/\v=Value.str x t)
 | .inl i,v,h=>by
  obtain ⟨t,e⟩:=Value.isInt_shape (k:=i) (v:=v) h
  exact .inl ⟨i,t,rfl,e⟩
 | .inr x,v,h=>by
  obtain ⟨t,e⟩:=Value.isStrOf_shape (x:=x) (v:=v) h
  exact .inr ⟨x,t,rfl,e⟩
theorem V5 (i:Int) (t:Tok):kX (.inl i) (.int i t)=true:=by simp [kX,Value.isInt]
theorem V6 (x:Str) (t:Tok):kX (.inr x) (.str x t)=true:=by simp [kX,Value.isStrOf]
theorem V7 (a b:Int):decide ((Sum.inl a:aG)=Sum.inl b)=(a == b):=by
 by_cases e:a=b
 ·subst e; simp
 ·have h : ¬ (Sum.inl a:aG)=Sum.inl b:=fun q=>e (Sum.inl.inj q)
  rw [aP0 h]
  exact (beq_eq_false_iff_ne.mpr e).symm
theorem V8 (a b:Str):decide ((Sum.inr a:aG)=Sum.inr b)=decide (a=b):=by
 by_cases e:a=b
 ·subst e; simp
 ·have h : ¬ (Sum.inr a:aG)=Sum.inr b:=fun q=>e (Sum.inr.inj q)
  rw [aP0 h,aP0 e]
theorem V9 (a:Int) (b:Str):decide ((Sum.inl a:aG)=Sum.inr b)=false:=aP0 (fun q=>nomatch q)
theorem W0 (a:Str) (b:Int):decide ((Sum.inr a:aG)=Sum.inl b)=false:=aP0 (fun q=>nomatch q)
noncomputable def eB (prog:Program) (w:World):PySem.KeyKind prog w aG where
 is:=kX
 hash:=V4 w
 inj:=fun v a b ha hb=>by
  rcases hZ ha with ⟨i,t,rfl,rfl⟩ | ⟨x,t,rfl,rfl⟩
  ·rcases hZ hb with ⟨j,u,rfl,e⟩ | ⟨y,u,rfl,e⟩
   ·injection e with e1 _; rw [e1]
   ·exact nomatch e
  ·rcases hZ hb with ⟨j,u,rfl,e⟩ | ⟨y,u,rfl,e⟩
   ·exact nomatch e
   ·injection e with e1 _; rw [e1]
 byValue:=fun k v h=>by
  rcases hZ h with ⟨i,t,rfl,rfl⟩ | ⟨x,t,rfl,rfl⟩ <;> rfl
 pyHash:=fun hv h=>by
  rcases hZ hv with ⟨i,t,rfl,rfl⟩ | ⟨x,t,rfl,rfl⟩
  ·exact wpAny_pyHash_int h
  ·exact wpAny_pyHash_str h
 eqBool:=fun hu hv h=>by
  rcases hZ hu with ⟨i,t,rfl,rfl⟩ | ⟨x,t,rfl,rfl⟩
  ·rcases hZ hv with ⟨j,u,rfl,rfl⟩ | ⟨y,u,rfl,rfl⟩
   ·rw [V7] at h; exact wpAny_eqBool_int h
   ·rw [V9] at h; exact SeqAt.EqAt.int_str i t y u _ _ _ _ h
  ·rcases hZ hv with ⟨j,u,rfl,rfl⟩ | ⟨y,u,rfl,rfl⟩
   ·rw [W0] at h; exact SeqAt.EqAt.str_int x t j u _ _ _ _ h
   ·rw [V8] at h; exact wpAny_eqBool_str h
 «strs»:=fun k x t v h=>by
  rcases hZ h with ⟨i,u,rfl,e⟩ | ⟨y,u,rfl,e⟩
  ·exact nomatch e
  ·injection e with e1 _
   subst e1
   cases v <;> rfl
theorem W5 (prog:Program) (w:World) (i:Int) (t:Tok):(eB prog w).is (.inl i) (.int i t)=true:=V5 i t
theorem W6 (prog:Program) (w:World) (x:Str) (t:Tok):(eB prog w).is (.inr x) (.str x t)=true:=V6 x t
inductive V where
 | non | bl (b:Bool) | int (i:Int) | str (x:Str) | byt (b:Array UInt8) | flt (b:UInt64) | ref (a:Addr) | ty (n:String)
 deriving DecidableEq
noncomputable def aT:V->Value->Prop
 | .non,u=>u=Value.none
 | .bl b,u=>u=Value.bool b
 | .int i,u=>∃ t,u=Value.int i t
 | .str x,u=>∃ t,u=Value.str x t
 | .byt b,u=>∃ t,u=Value.bytes b t
 | .flt b,u=>∃ t,u=Value.float b t
 | .ref a,u=>u=Value.ref a
 | .ty n,u=>u=Value.type n
noncomputable abbrev aK:List V->List Value->Prop:=Paired aT
theorem aK.length {xs:List V}{us:List Value} (r:aK xs us):xs.length=us.length:=Paired.length r
theorem aK.get:∀ {xs:List V}{us:List Value}{i:Nat}{x:V},aK xs us->xs[i]? = some x->∃ u,us[i]? = some u/\aT x u
 | _,_,_,_,.nil,e=>by simp at e
 | _,_,0,_,.cons r _,e=>by simp at e; subst e; exact⟨_,rfl,r⟩
 | _,_,i+1,x,.cons _ t,e=>by
  obtain ⟨u,h1,h2⟩:=aK.get (i:=i) (x:=x) t (by simpa using e)
  exact⟨u,by simpa using h1,h2⟩
theorem aK.set {x:V}{u:Value} (r:aT x u):∀ {xs:List V}{us:List Value} (i:Nat),aK xs us->aK (xs.set i x) (us.set i u)
 | _,_,_,.nil=>.nil
 | _,_,0,.cons _ t=>.cons r t
 | _,_,i+1,.cons q t=>.cons q (aK.set r i t)
theorem aK.append:∀ {xs ys:List V}{us ws:List Value},aK xs us->aK ys ws->aK (xs ++ ys) (us ++ ws)
 | _,_,_,_,.nil,s=>s
 | _,_,_,_,.cons r t,s=>.cons r (aK.append t s)
theorem aK.take:∀ {xs:List V}{us:List Value} (n:Nat),aK xs us->aK (xs.take n) (us.take n)
 | _,_,0,_=>.nil
 | _,_,_+1,.nil=>.nil
 | _,_,n+1,.cons r t=>.cons r (aK.take n t)
theorem aK.drop:∀ {xs:List V}{us:List Value} (n:Nat),aK xs us->aK (xs.drop n) (us.drop n)
 | _,_,0,r=>r
 | _,_,_+1,.nil=>.nil
 | _,_,n+1,.cons _ t=>aK.drop n t
noncomputable def jX:Option V->Option Value->Prop
 | some v,some u=>aT v u
 | none,none=>True
 | _,_=>False
noncomputable def KV {κ:Type}:List (κ × V)->List (κ × Value)->Prop:=Paired fun (p:κ × V) (q:κ × Value)=>p.1=q.1/\aT p.2 q.2
noncomputable def kV:aG->V
 | .inl i=>.int i
 | .inr x=>.str x
inductive HO where
 | lst (xs:List V)
 | tup (xs:List V)
 | dK (kvs:List (aG × V)) | dT (kvs:List (List aG × V))
 | set (S:Int->Bool) (n:Nat)
 | ins (C dx:Addr) (fs:List (Str × V))
 | own (x:Addr)
 | xd (fs:List (Str × V))
 | met (f x:Addr)
 | rng (lo hi:Int)
 | frz (o:Obj) (u:HO)
 | tbl (ps:Array Value)
 | ext (φ:Heap->Prop)
noncomputable abbrev Hp:=Addr->Option HO
noncomputable def upd (H:Hp) (a:Addr) (o:HO):Hp:=fun b=>if b=a then some o else H b
theorem bJ {H:Hp}{a:Addr}{o:HO}:upd H a o a=some o:=by unfold upd; rw [if_pos rfl]
theorem aZ {H:Hp}{a b:Addr}{o:HO} (h:b ≠ a):upd H a o b=H b:=by unfold upd; rw [if_neg h]
theorem W7 {H:Hp}{a b:Addr}{o u:HO} (h:H a=some o) (h':H b=some u) (d:o ≠ u):a ≠ b:=by
 intro e; subst e; rw [h] at h'; exact d (aQ5 h')
theorem dC {H:Hp}{a b:Addr}{o:HO} (h:H a=some o) (h':H b=none):a ≠ b:=by
 intro e; subst e; rw [h] at h'; cases h'
noncomputable def iI (h:Heap) (a:Addr):Prop:=∀ o,h.get? a=some o->o.dict=none
theorem iI.new (h:Heap) (o:Obj) (d:o.dict=none) (s:o.isFreed=false:=by rfl):iI (h.push o) h.objs.size:=fun u e=>by
 rw [aP5 h (o:=o) s] at e
 cases e; exact d
theorem iI.stay {h h':Heap}{a:Addr}{o:Obj} (n:iI h a) (e:h.get? a=some o) (e':h'.get? a=some o):iI h' a:=fun u hu=>by
 rw [e'] at hu; cases hu; exact n _ e
section
variable (P : Program) (w : World)
noncomputable def bL (H:Hp) (h:Heap) (a:Addr):HO->Prop
 | .lst xs=>xs.length<=sizeLine/\∃ (its:List Value) (n:Nat),aK xs its/\h.get? a=some { cls:=.type "list",data:=.seq its.toArray n }
 | .tup xs=>xs.length<=sizeLine/\∃ its:List Value,aK xs its/\IsTup h a its.toArray/\iI h a
 | .dK kvs=>kvs.length<=sizeLine/\(a == sysModules)=false/\∃ vs,KV kvs vs/\h.DictOf (eB P w) a vs
 | .dT kvs=>kvs.length<=sizeLine/\(a == sysModules)=false/\∃ xs:List (List aG × Addr × Value),
   Paired (fun (p:List aG × V) (q:List aG × Addr × Value)=>p.1=q.1/\H q.2.1=some (.tup (p.1.map kV))/\aT p.2 q.2.2) kvs xs/\
   ∃ o es ep,h.get? a=some o/\o.ExactDict/\o.data = .dict es ep/\es.toList=xs.map (entryOfKey (tupleKind (eB P w)))/\(xs.map (·.1)).Nodup
 | .set S n=>h.SetOf (intKind P w) a S n
 | .ins C dx fs=>H dx=some (.own a)/\fs.length<=1000/\dx ≠ a/\h.get? a=some (PySem.W.instObj C dx)/\
   ∃ mA,h.Ns1 dx mA/\(∀ f,jX (fs.lookup f) (mA f))/\PySem.Within mA (fs.map (·.1))
 | .own _=>∃ o,h.get? a=some o
 | .xd fs=>∃ mA,h.Ns1 a mA/\∀ f,jX (fs.lookup f) (mA f)
 | .rng lo hi=>∃ t u v,h.get? a=some { cls:=.type "range",data:=.fields #[.int lo t,.int hi u,.int 1 v] }
 | .frz o u=>h.get? a=some o/\bL H h a u
 | .tbl ps=>h.get? a=some { cls:=.none,data:=.fields ps }
 | .met f x=>h.get? a=some (PySem.W.methodObj (.ref f) (.ref x))
 | .ext φ=>φ h/\(∃ o,h.get? a=some o)/\∀ h1 h2:Heap,φ h1->(∀ o,h1.get? a=some o->h2.get? a=some o)->φ h2
noncomputable def bO (H:Hp) (h:Heap):Prop:=∀ a o,H a=some o->bL P w H h a o
end
section
variable {P : Program} {w : World} {H H' : Hp} {h h' : Heap} {a : Addr} {o : HO}
theorem bL.lt (x:bL P w H h a o):a < h.objs.size:=by
 cases o with
 | lst xs=>obtain ⟨_,_,_,_,e⟩:=x; exact aP1 e
 | tup xs=>obtain ⟨_,_,_,p,_⟩:=x; exact p.lt
 | dK kvs=>obtain ⟨_,_,_,_,o,_,_,e,_⟩:=x; exact aP1 e
 | dT kvs=>obtain ⟨_,_,_,_,o,_,_,e,_⟩:=x; exact aP1 e
 | set S n=>obtain ⟨o,_,_,_,e,_⟩:=x; exact aP1 e
 | ins C dx fs=>obtain ⟨_,_,_,e,_⟩:=x; exact aP1 e
 | own y=>obtain ⟨_,e⟩:=x; exact aP1 e
 | xd fs=>obtain ⟨_,⟨_,_,_,e,_⟩,_⟩:=x; exact aP1 e
 | rng lo hi=>obtain ⟨_,_,_,e⟩:=x; exact aP1 e
 | frz ob u=>obtain ⟨e,_⟩:=x; exact aP1 e
 | tbl ps=>exact aP1 (show h.get? a=some _ from x)
 | met f y=>exact aP1 (show h.get? a=some _ from x)
 | ext φ=>obtain ⟨_,⟨_,e⟩,_⟩:=x; exact aP1 e
theorem Paired.mapP {α β:Type}{F G:α->β->Prop}:∀ {l₁:List α}{l₂:List β},Paired F l₁ l₂->(∀ a b,F a b->G a b)->Paired G l₁ l₂
 | _,_,.nil,_=>.nil
 | _,_,.cons r t,f=>.cons (f _ _ r) (Paired.mapP t f)
theorem bL.stay (x:bL P w H h a o) (k:∀ b u,(b=a ∨ H b=some (.own a))->h.get? b=some u->h'.get? b=some u)
  (ho:∀ b,H b=some (.own a)->H' b=some (.own a)) (ht:∀ b xs,H b=some (.tup xs)->H' b=some (.tup xs)):bL P w H' h' a o:=by
 induction o with
 | lst xs=>obtain ⟨z,its,n,r,e⟩:=x; exact⟨z,its,n,r,k _ _ (.inl rfl) e⟩
 | tup xs=>obtain ⟨z,its,r,⟨ob,e,c⟩,nd⟩:=x; exact⟨z,its,r,⟨ob,k _ _ (.inl rfl) e,c⟩,nd.stay e (k _ _ (.inl rfl) e)⟩
 | dK kvs=>obtain ⟨z,y,vs,r,ob,es,ep,e,c⟩:=x; exact⟨z,y,vs,r,ob,es,ep,k _ _ (.inl rfl) e,c⟩
 | dT kvs=>
  obtain ⟨z,y,xs,r,ob,es,ep,e,c⟩:=x
  exact⟨z,y,xs,Paired.mapP r fun p q z=>⟨z.1,ht _ _ z.2.1,z.2.2⟩,ob,es,ep,k _ _ (.inl rfl) e,c⟩
 | set S n=>obtain ⟨ob,es,ep,t,e,c⟩:=x; exact⟨ob,es,ep,t,k _ _ (.inl rfl) e,c⟩
 | ins C dx fs=>
  obtain ⟨d,z,ne,e,mA,⟨od,es,ep,e2,c⟩,r⟩:=x
  exact⟨ho _ d,z,ne,k _ _ (.inl rfl) e,mA,⟨od,es,ep,k _ _ (.inr d) e2,c⟩,r⟩
 | own y=>obtain ⟨ob,e⟩:=x; exact⟨ob,k _ _ (.inl rfl) e⟩
 | xd fs=>obtain ⟨mA,⟨od,es,ep,e,c⟩,r⟩:=x; exact⟨mA,⟨od,es,ep,k _ _ (.inl rfl) e,c⟩,r⟩
 | rng lo hi=>obtain ⟨t,u,v,e⟩:=x; exact⟨t,u,v,k _ _ (.inl rfl) e⟩
 | frz ob u ih=>obtain ⟨e,q⟩:=x; exact⟨k _ _ (.inl rfl) e,ih q⟩
 | tbl ps=>
  have e:h.get? a=some { cls:=.none,data:=.fields ps }:=x
  show h'.get? a=some { cls:=.none,data:=.fields ps }
  exact k a _ (.inl rfl) e
 | met f y=>
  have e:h.get? a=some (PySem.W.methodObj (.ref f) (.ref y)):=x
  show h'.get? a=some (PySem.W.methodObj (.ref f) (.ref y))
  exact k a _ (.inl rfl) e
 | ext φ=>obtain ⟨p,⟨o,e⟩,st⟩:=x; exact⟨st _ _ p fun o q=>k _ _ (.inl rfl) q,⟨o,k _ _ (.inl rfl) e⟩,st⟩
theorem bO.lt (x:bO P w H h) (e:H a=some o):a < h.objs.size:=(x a o e).lt
theorem bO.fresh (x:bO P w H h) (e:h.objs.size<=a):H a=none:=by
 cases q:H a with
 | none=>rfl
 | some u=>exact absurd (aO9 (x.lt q) e) (aS1 _)
theorem bO.kept (x:bO P w H h) (k:∀ b u,h.get? b=some u->h'.get? b=some u):bO P w H h':=fun a o e=>
 (x a o e).stay (fun b u _ q=>k b u q) (fun _ q=>q) fun _ _ q=>q
theorem bO.laid (x:bO P w H h) (k:∀ b u,h.get? b=some u->h'.get? b=some u) (hp:h.objs.size<=a) (new:bL P w (upd H a o) h' a o):bO P w (upd H a o) h':=fun b u e=>by
 have hn:=x.fresh hp
 by_cases hb:b=a
 ·subst hb; rw [bJ] at e; cases e; exact new
 ·rw [aZ hb] at e
  exact (x b u e).stay (fun c v _ q=>k c v q) (fun c q=>by rw [aZ (dC q hn)]; exact q) fun c xs q=>by rw [aZ (dC q hn)]; exact q
end
noncomputable def Rd (H:Hp) (a:Addr) (u:HO):Prop:=H a=some u ∨ ∃ o,H a=some (.frz o u)
theorem Rd.ok {P:Program}{w:World}{H:Hp}{h:Heap}{a:Addr}{u:HO} (r:Rd H a u) (x:bO P w H h):bL P w H h a u:=by
 rcases r with r | ⟨o,r⟩
 ·exact x a u r
 ·obtain ⟨_,q⟩:=x a _ r
  exact q
noncomputable def m6:Option HO->Prop
 | some (.lst _)=>True
 | some (.dK _)=>True
 | some (.dT _)=>True
 | some (.set _ _)=>True
 | some (.ins _ _ _)=>True
 | some (.ext _)=>True
 | _=>False
section
variable {P : Program} {w : World} {H : Hp} {h h' : Heap} {x e : Addr} {o' : HO}
theorem bO.write (ok:bO P w H h) (mu:m6 (H x)) (he:e=x ∨ H e=some (.own x)) (k:∀ b u,b ≠ e->h.get? b=some u->h'.get? b=some u) (heo:∃ u,h'.get? e=some u)
  (new:bL P w (upd H x o') h' x o'):bO P w (upd H x o') h':=fun b u q=>by
 have nown:∀ c y,H c=some (.own y)->c ≠ x:=fun c y r z=>by subst z; rw [r] at mu; exact mu
 have ntup:∀ c xs,H c=some (.tup xs)->c ≠ x:=fun c xs r z=>by subst z; rw [r] at mu; exact mu
 by_cases hb:b=x
 ·subst hb; rw [bJ] at q; cases q; exact new
 ·rw [aZ hb] at q
  by_cases hbe:b=e
  ·have q':H b=some (.own x):=by
    rcases he with z | z
    ·exact absurd (hbe.trans z) hb
    ·rw [hbe]; exact z
   rw [q] at q'; cases q'
   obtain ⟨v,hv⟩:=heo
   exact⟨v,by rw [hbe]; exact hv⟩
  ·refine (ok b u q).stay (fun c v hc r=>k c v ?_ r) (fun c r=>by rw [aZ (nown c b r)]; exact r) fun c xs r=>by rw [aZ (ntup c xs r)]; exact r
   rcases hc with rfl | hc
   ·exact hbe
   ·rintro rfl
    rcases he with z | z
    ·exact nown c b hc z
    ·rw [hc] at z; cases z; exact hb rfl
end
structure Un (fs ex:List Addr) (H H':Hp) (h h':Heap):Prop where
 keep:∀ b o,h.get? b=some o->H b=none->b ∉ fs->b ∉ ex->h'.get? b=some o
 slot:∀ b o,h.get? b=some o->H b=none->b ∈ fs->b ∉ ex->∃ sl,h'.get? b=some { o with slots:=sl }
 free:∀ b o,h.get? b=some o->H b=none->b ∉ ex->H' b=none
 there:∀ b o,h.get? b=some o->b ∉ ex->∃ o',h'.get? b=some o'
 tups:∀ b xs,H b=some (.tup xs)->H' b=some (.tup xs)
 frzs:∀ b o u,H b=some (.frz o u)->H' b=some (.frz o u)
 tbls:∀ b ps,H b=some (.tbl ps)->∃ more,H' b=some (.tbl (ps ++ more))
section
variable {fs fs' ex ex' : List Addr} {H H1 H2 : Hp} {h h1 h2 h' : Heap} {a x e : Addr} {o : HO}
theorem Un.any (u:Un fs ex H H1 h h1) {b:Addr}{ob:Obj} (q:h.get? b=some ob) (n:H b=none) (hx:b ∉ ex):∃ sl,h1.get? b=some { ob with slots:=sl }:=by
 by_cases hb:b ∈ fs
 ·exact u.slot b ob q n hb hx
 ·exact⟨ob.slots,u.keep b ob q n hb hx⟩
theorem Un.kept (k:∀ b u,h.get? b=some u->h'.get? b=some u):Un fs ex H H h h':=
 ⟨fun b ob q _ _ _=>k b ob q,fun b ob q _ _ _=>⟨ob.slots,k b ob q⟩,fun _ _ _ n _=>n,fun b ob q _=>⟨ob,k b ob q⟩,fun _ _ q=>q,fun _ _ _ q=>q,fun _ ps q=>⟨#[],by rw [q]; simp⟩⟩
theorem Un.refl:Un fs ex H H h h:=Un.kept fun _ _ q=>q
theorem Un.laid (k:∀ b u,h.get? b=some u->h'.get? b=some u) (hp:h.objs.size<=a) (hn:H a=none):Un fs ex H (upd H a o) h h' where
 keep:=fun b u q _ _ _=>k b u q
 slot:=fun b u q _ _ _=>⟨u.slots,k b u q⟩
 free:=fun b u q n _=>by rw [aZ (aR2 (aO9 (aP1 q) hp))]; exact n
 there:=fun b u q _=>⟨u,k b u q⟩
 tups:=fun b xs q=>by rw [aZ (dC q hn)]; exact q
 frzs:=fun b u xs q=>by rw [aZ (dC q hn)]; exact q
 tbls:=fun b ps q=>⟨#[],by rw [aZ (dC q hn),q]; simp⟩
theorem Un.write (mu:m6 (H x)) (he:e=x ∨ H e=some (.own x)) (k:∀ b u,b ≠ e->h.get? b=some u->h'.get? b=some u) (heo:∃ u,h'.get? e=some u):Un fs ex H (upd H x o) h h':=by
 have hx:∀ b,H b=none->b ≠ x:=fun b n z=>by subst z; rw [n] at mu; exact mu
 have hb:∀ b,H b=none->b ≠ e:=fun b n z=>by
  subst z
  rcases he with r | r
  ·exact hx b n r
  ·rw [n] at r; cases r
 have hm:∀ b u,H b=some u->¬ m6 (some u)->b ≠ x:=fun b u q nm z=>by subst z; rw [q] at mu; exact nm mu
 refine⟨fun b u q n _ _=>k b u (hb b n) q,fun b u q n _ _=>⟨u.slots,k b u (hb b n) q⟩,fun b u q n _=>by rw [aZ (hx b n)]; exact n,fun b u q _=>?_,
  fun b xs q=>by rw [aZ (hm b _ q fun z=>z)]; exact q,fun b u xs q=>by rw [aZ (hm b _ q fun z=>z)]; exact q,fun b ps q=>⟨#[],by rw [aZ (hm b _ q fun z=>z),q]; simp⟩⟩
 by_cases hbe:b=e
 ·subst hbe; exact heo
 ·exact⟨u,k b u hbe q⟩
end
noncomputable def o6 (h:Heap) (H:Hp):List Addr:=(List.range h.objs.size).filter fun a=>(H a).isSome
noncomputable def iJ (h:Heap) (H:Hp):Heap:=PySem.W.hideAll h (o6 h H)
theorem W8 (h:Heap) (H:Hp):(iJ h H).objs.size=h.objs.size:=PySem.W.hideAll_size _ _
theorem W9 {h:Heap}{H:Hp}{b:Addr}{o:Obj} (e:h.get? b=some o) (n:H b=none):(iJ h H).get? b=some o:=
 PySem.W.hideAll_get _ e fun hm=>by
  have q:(H b).isSome=true:=(aP6.mp hm).2
  rw [n] at q; simp at q
theorem X0 {h:Heap}{H:Hp}{b:Addr}{o:Obj} (e:(iJ h H).get? b=some o):h.get? b=some o/\H b=none:=by
 have e':h.get? b=some o:=PySem.W.of_hideAll (o6 h H) e
 refine⟨e',?_⟩
 cases q:H b with
 | none=>rfl
 | some x=>
  have hm:b ∈ o6 h H:=aP6.mpr ⟨aZ5.mpr (aP1 e'),by simp [q]⟩
  have z:(iJ h H).get? b=none:=PySem.W.hideAll_none (o6 h H) hm
  rw [z] at e; cases e
noncomputable def m7 (g h:Heap) (L:Addr):List (Addr × Obj):=(List.range h.objs.size).filterMap fun a=>if a=L ∨ (g.get? a).isSome=true then none else (h.get? a).map fun o=>(a,o)
theorem vZ {g h:Heap}{L a:Addr}{o:Obj} (h1:a ≠ L) (h2:g.get? a=none) (h3:h.get? a=some o):(a,o) ∈ m7 g h L:=
 aZ6.mpr ⟨a,aZ5.mpr (aP1 h3),by simp [h1,h2,h3]⟩
theorem X1 {g h:Heap}{L:Addr}{p:Addr × Obj} (hp:p ∈ m7 g h L):p.1 ≠ L/\g.get? p.1=none/\h.get? p.1=some p.2:=by
 obtain ⟨b,_,e⟩:=aZ6.mp hp
 split at e
 ·cases e
 ·rename_i hn
  cases q:h.get? b with
  | none=>rw [q] at e; simp at e
  | some u=>
   rw [q] at e
   simp only [Option.map_some,Option.some.injEq] at e
   subst e
   refine⟨fun z=>hn (.inl z),?_,q⟩
   show g.get? b=none
   cases r:g.get? b with
   | none=>rfl
   | some v=>exact (hn (.inr (by simp [r]))).elim
noncomputable def dM (g h:Heap) (L d:Addr):List (Addr × Obj):=(m7 g h L).filter fun p=>decide (p.1 ≠ d)
theorem X2 {g h:Heap}{L:Addr}:News g L h (m7 g h L):=fun p hp=>let ⟨a,b,c⟩:=X1 hp; ⟨c,a,b⟩
structure Mod (K:PySem.W.Frag) (mg:Str->Option Value) (base:Heap):Prop where
 kin:K.In base
 glob:base.Ns mainGlobals mg
 blt:∃ mb,base.Ns builtinsNs mb/\∀ x:Str,x ≠ "__name__"->mb x=bootBuiltins x
 nolimit:base.NoLimit
structure Cx where
 prog:Program
 w:World
 K:PySem.W.Frag
 mg:Str->Option Value
 base:Heap
 A:Around
 N:List Str
 s₀:Shared
 H₀:Hp
 env:Env
 outer:List Env
 stack:List Env
 ex:List Addr
 fn:Str->Bool
 calm:Bool
 pn:List (Addr × Obj)
 xe:Value->Shared->Prop
noncomputable def bP (l:List Env):List Addr:=l.filterMap (·.frame)
noncomputable abbrev Cx.fs (X:Cx):List Addr:=bP X.outer
noncomputable def gA (sc:Scope) (x:Str):Prop:=sc.names.lookup x=some .local ∨ sc.names.lookup x=some .cell ∨ sc.names.lookup x=some .free
noncomputable def i3 (sc:Scope) (x:Str):Prop:=sc.names.lookup x=some .local ∨ sc.names.lookup x=some .cell
noncomputable def X3 (env:Env) (h:Heap) (m:Str->Option Value) (x:Str) (u:Value):Prop:=
 (env.kindOf x=some .local/\m x=some u) ∨ ((env.kindOf x=some .cell ∨ env.kindOf x=some .free)/\∃ c,env.cells.lookup x=some c/\h.IsCell c (some u))
structure Cx.Ok (X:Cx):Prop where
 mod:Mod X.K X.mg X.base
 kind:X.env.scope.kind = .function
 glob:X.env.globals=mainGlobals
 blt:X.env.builtins=builtinsNs
 above:X.s₀.heap.objs.size<=X.env.locals
 inj:∀ x y c,X.env.cells.lookup x=some c->X.env.cells.lookup y=some c->x=y
 has:∀ x,(X.env.kindOf x=some .cell ∨ X.env.kindOf x=some .free)->∃ c,X.env.cells.lookup x=some c
 cab:∀ x c,X.fn x=true->X.env.cells.lookup x=some c->X.s₀.heap.objs.size<=c
 hd:X.calm=true->X.A.handled=none
 frames:X.A.frames=some X.stack
 stk:X.stack=X.outer ∨ (X.stack=X.env :: X.outer/\X.env.frame=some X.env.locals)
 exf:∀ b ∈ X.ex,b ≠ X.env.locals/\∀ x c,X.env.cells.lookup x=some c->c ≠ b
 bs:∀ b o,X.base.get? b=some o->X.s₀.heap.get? b=some o/\X.H₀ b=none
 bsz:X.base.objs.size<=X.s₀.heap.objs.size
 noex:∀ b o,X.base.get? b=some o->b ∉ X.ex
 exfs:∀ b ∈ X.ex,b ∉ X.fs
 funs:X.s₀.heap.FunFrames X.base X.outer
 frf:∀ b ∈ X.fs,X.H₀ b=none
structure a6 (X:Cx) (pins:List (Addr × Obj)) (σ:List (Option V)) (H:Hp) (s:Shared):Prop where
 ok:X.Ok
 os:s.os=X.s₀.os
 bare:AllBare s.gens
 base:Un X.fs X.ex X.H₀ H X.s₀.heap s.heap
 loc:∃ m,s.heap.Ns X.env.locals m/\∀ (i:Nat) (x:Str) (v:V),X.N[i]? = some x->σ[i]? = some (some v)->gA X.env.scope x->∃ u,aT v u/\X3 X.env s.heap m x u
 cell:∀ x c,X.env.cells.lookup x=some c->∃ v,s.heap.IsCell c v
 free:H X.env.locals=none
 freeC:∀ x c,X.env.cells.lookup x=some c->H c=none
 pin:∀ p ∈ X.pn ++ pins,s.heap.get? p.1=some p.2/\H p.1=none/\p.1 ≠ X.env.locals/\p.1 ∉ X.fs/\∀ v,p.2.data ≠ .cell v
 hok:bO X.prog X.w H s.heap
 len:σ.length=X.N.length
section
variable {X : Cx} {pins : List (Addr × Obj)} {σ : List (Option V)} {H H' : Hp} {s : Shared} {h' : Heap}
theorem Cx.Ok.nofr (ok:X.Ok) {b:Addr}{o:Obj} (e:X.base.get? b=some o):b ∉ X.fs:=fun hb=>by
 have:=(ok.funs.mem hb).1
 rw [e] at this; cases this
theorem a6.bs (I:a6 X pins σ H s):∀ b o,X.base.get? b=some o->s.heap.get? b=some o/\H b=none:=fun b o e=>
 ⟨I.base.keep b o (I.ok.bs b o e).1 (I.ok.bs b o e).2 (I.ok.nofr e) (I.ok.noex b o e),I.base.free b o (I.ok.bs b o e).1 (I.ok.bs b o e).2 (I.ok.noex b o e)⟩
theorem a6.bk (I:a6 X pins σ H s):∀ b o,X.base.get? b=some o->s.heap.get? b=some o:=fun b o e=>(I.bs b o e).1
theorem a6.mod (I:a6 X pins σ H s):Mod X.K X.mg X.base:=I.ok.mod
theorem a6.kIn (I:a6 X pins σ H s):X.K.In s.heap:=I.ok.mod.kin.keeps I.bk
theorem a6.fr (I:a6 X pins σ H s):∃ m,Fr X.base X.env.locals s.heap m:=
 let ⟨m,hn,_⟩:=I.loc
 ⟨m,hn,I.bk,aS0 I.ok.bsz I.ok.above⟩
theorem a6.lt (I:a6 X pins σ H s):X.env.locals < s.heap.objs.size:=let ⟨_,hn,_⟩:=I.loc; hn.lt
theorem a6.sz (I:a6 X pins σ H s):X.s₀.heap.objs.size<=s.heap.objs.size:=aS0 I.ok.above (aT1 I.lt)
theorem a6.nofs (I:a6 X pins σ H s) {a:Addr} (h:s.heap.objs.size<=a):a ∉ X.fs:=fun hb=>by
 obtain ⟨_,o,ho,_⟩:=I.ok.funs.mem hb
 exact absurd (aO9 (aP1 ho) (aS0 I.sz h)) (aS1 _)
theorem a6.cne (I:a6 X pins σ H s):∀ x c,X.env.cells.lookup x=some c->c ≠ X.env.locals:=fun x c e z=>by
 obtain ⟨v,o,ho,hd⟩:=I.cell x c e
 obtain ⟨m,⟨o',es,ep,ho',hd',_⟩,_⟩:=I.loc
 rw [z,ho'] at ho; cases ho; rw [hd'] at hd; cases hd
theorem a6.funs (I:a6 X pins σ H s):s.heap.FunFrames X.base X.outer:=by
 have all:∀ (l:List Env),(∀ b ∈ bP l,b ∈ X.fs)->X.s₀.heap.FunFrames X.base l->s.heap.FunFrames X.base l:=by
  intro l
  induction l with
  | nil=>intro _ _; trivial
  | cons env r ih=>
   intro hs hl
   obtain ⟨hk,⟨L,o,hf,hn,ho,hd⟩,hr⟩:=hl
   have hL:L ∈ X.fs:=hs L (by unfold bP; rw [List.filterMap_cons,hf]; exact aO1)
   obtain ⟨sl,e⟩:=I.base.slot L o ho (I.ok.frf L hL) hL fun z=>I.ok.exfs L z hL
   exact⟨hk,⟨L,_,hf,hn,e,hd⟩,ih (fun b hb=>hs b (by unfold bP; rw [List.filterMap_cons,hf]; exact aO8 _ hb)) hr⟩
 exact all X.outer (fun _ hb=>hb) I.ok.funs
theorem a6.stack (I:a6 X pins σ H s):s.heap.FunFrames X.base X.stack:=by
 rcases I.ok.stk with e | ⟨e,hf⟩
 ·rw [e]; exact I.funs
 ·rw [e]
  obtain ⟨m,hn,_⟩:=I.loc
  refine .cons (by rw [I.ok.kind]; decide) hf hn ?_ I.funs
  exact Heap.get?_none_of_le (aS0 I.ok.bsz I.ok.above)
theorem a6.stkSub (I:a6 X pins σ H s):∀ b ∈ bP X.stack,b ∈ X.env.locals :: X.fs:=fun b hb=>by
 rcases I.ok.stk with e | ⟨e,hf⟩
 ·rw [e] at hb; exact aO8 _ hb
 ·rw [e] at hb
  unfold bP at hb
  rw [List.filterMap_cons,hf] at hb
  exact hb
theorem a6.stkFree (I:a6 X pins σ H s):∀ b ∈ bP X.stack,H b=none:=fun b hb=>by
 rcases aO7.mp (I.stkSub b hb) with e | hb
 ·rw [e]; exact I.free
 ·obtain ⟨_,o,ho,_⟩:=I.ok.funs.mem hb
  exact I.base.free b o ho (I.ok.frf b hb) fun z=>I.ok.exfs b z hb
theorem a6.step {g':Array GenState}{t':Nat}{d':Drawn}{ch:List Addr} (I:a6 X pins σ H s)
  (hch:∀ b ∈ ch,(b ∈ X.ex ∨ X.s₀.heap.objs.size<=b)/\b ≠ X.env.locals/\(∀ x c,X.env.cells.lookup x=some c->c ≠ b)/\∀ p ∈ X.pn ++ pins,p.1 ≠ b)
  (keep:∀ b o,b ≠ X.env.locals->b ∉ X.fs->b ∉ ch->s.heap.get? b=some o->H b=none->h'.get? b=some o)
  (slot:∀ b o,b ≠ X.env.locals->b ∈ X.fs->b ∉ ch->s.heap.get? b=some o->H b=none->∃ sl,h'.get? b=some { o with slots:=sl }) (free:∀ b o,b ∉ ch->s.heap.get? b=some o->H b=none->H' b=none)
  (there:∀ b o,b ∉ ch->s.heap.get? b=some o->∃ o',h'.get? b=some o')
  (tups:∀ b xs,H b=some (.tup xs)->H' b=some (.tup xs)) (frzs:∀ b o u,H b=some (.frz o u)->H' b=some (.frz o u)) (tbls:∀ b ps,H b=some (.tbl ps)->∃ more,H' b=some (.tbl (ps ++ more)))
  (ns:∀ m,s.heap.Ns X.env.locals m->h'.Ns X.env.locals m) (hok:bO X.prog X.w H' h') (hg:AllBare g') :
  a6 X pins σ H' { s with heap:=h',gens:=g',drawn:=d',toks:=t' }:=by
 have neL:∀ b o,X.s₀.heap.get? b=some o->b ≠ X.env.locals:=fun b o e=>aR2 (aO9 (aP1 e) I.ok.above)
 have neC:∀ b o,X.s₀.heap.get? b=some o->b ∉ X.ex->b ∉ ch:=fun b o e hx hb=>by
  rcases (hch b hb).1 with z | z
  ·exact hx z
  ·exact absurd (aO9 (aP1 e) z) (aS1 _)
 have cellK:∀ x c,X.env.cells.lookup x=some c->∀ v,s.heap.IsCell c v->h'.IsCell c v:=fun x c e v ⟨o,ho,hd⟩=>by
  have nch:c ∉ ch:=fun z=>(hch c z).2.2.1 x c e rfl
  by_cases hc:c ∈ X.fs
  ·obtain ⟨sl,q⟩:=slot c o (I.cne x c e) hc nch ho (I.freeC x c e)
   exact⟨_,q,hd⟩
  ·exact⟨o,keep c o (I.cne x c e) hc nch ho (I.freeC x c e),hd⟩
 refine⟨I.ok,I.os,hg,⟨fun b o e n hb hx=>?_,fun b o e n hb hx=>?_,fun b o e n hx=>?_,fun b o e hx=>?_,fun b xs e=>tups b xs (I.base.tups b xs e),fun b o xs e=>frzs b o xs (I.base.frzs b o xs e),fun b ps e=>?_⟩,?_,fun x c e=>?_,?_,fun x c e=>?_,fun p hp=>?_,hok,I.len⟩
 ·exact keep b o (neL b o e) hb (neC b o e hx) (I.base.keep b o e n hb hx) (I.base.free b o e n hx)
 ·obtain ⟨sl,e1⟩:=I.base.slot b o e n hb hx
  obtain ⟨sl',e2⟩:=slot b _ (neL b o e) hb (neC b o e hx) e1 (I.base.free b o e n hx)
  exact⟨sl',e2⟩
 ·obtain ⟨o',e1⟩:=I.base.there b o e hx
  exact free b o' (neC b o e hx) e1 (I.base.free b o e n hx)
 ·obtain ⟨o',e1⟩:=I.base.there b o e hx
  exact there b o' (neC b o e hx) e1
 ·obtain ⟨m1,e1⟩:=I.base.tbls b ps e
  obtain ⟨m2,e2⟩:=tbls b _ e1
  exact⟨m1 ++ m2,by rw [e2,Array.append_assoc]⟩
 ·obtain ⟨m,hn,hl⟩:=I.loc
  refine⟨m,ns m hn,fun i x v e1 e2 e3=>?_⟩
  obtain ⟨u,r,l⟩:=hl i x v e1 e2 e3
  refine⟨u,r,?_⟩
  rcases l with l | ⟨k,c,e,z⟩
  ·exact .inl l
  ·exact .inr ⟨k,c,e,cellK x c e _ z⟩
 ·obtain ⟨v,z⟩:=I.cell x c e
  exact⟨v,cellK x c e v z⟩
 ·obtain ⟨m,⟨o,_,_,ho,_⟩,_⟩:=I.loc
  exact free _ o (fun z=>(hch _ z).2.1 rfl) ho I.free
 ·obtain ⟨v,o,ho,hd⟩:=I.cell x c e
  exact free c o (fun z=>(hch c z).2.2.1 x c e rfl) ho (I.freeC x c e)
 ·obtain ⟨e,n,ne,nf,d⟩:=I.pin p hp
  have nch:p.1 ∉ ch:=fun z=>(hch p.1 z).2.2.2 p hp rfl
  exact⟨keep p.1 p.2 ne nf nch e n,free p.1 p.2 nch e n,ne,nf,d⟩
theorem a6.un {t':Nat} (I:a6 X pins σ H s) (u:Un X.fs [] H H' s.heap h') (hok:bO X.prog X.w H' h'):a6 X pins σ H' { s with heap:=h',toks:=t' }:=by
 obtain ⟨m,⟨o,es,ep,ho,r⟩,_⟩:=id I.loc
 obtain ⟨sl,hL⟩:=u.any ho I.free (by simp)
 exact I.step (g':=s.gens) (d':=s.drawn) (ch:=[]) (fun _ z=>nomatch z) (fun b o _ hb _ e n=>u.keep b o e n hb (by simp)) (fun b o _ hb _ e n=>u.slot b o e n hb (by simp)) (fun b o _ e n=>u.free b o e n (by simp)) (fun b o _ e=>u.there b o e (by simp)) u.tups u.frzs u.tbls (fun m' hm=>by
  obtain ⟨o',es',ep',ho',r'⟩:=hm
  rw [ho] at ho'; cases ho'
  exact⟨_,es',ep',hL,r'⟩) hok I.bare
theorem a6.call {g':Array GenState}{t':Nat}{d':Drawn}{ch:List Addr} (I:a6 X pins σ H s) (u:Un (bP X.stack) ch H H' s.heap h') (hok:bO X.prog X.w H' h') (hg:AllBare g')
  (hch:∀ b ∈ ch,(b ∈ X.ex ∨ X.s₀.heap.objs.size<=b)/\b ≠ X.env.locals/\(∀ x c,X.env.cells.lookup x=some c->c ≠ b)/\∀ p ∈ X.pn ++ pins,p.1 ≠ b) :
  a6 X pins σ H' { s with heap:=h',gens:=g',drawn:=d',toks:=t' }:=by
 obtain ⟨m,⟨o,es,ep,ho,r⟩,_⟩:=id I.loc
 obtain ⟨sl,hL⟩:=u.any ho I.free fun z=>(hch _ z).2.1 rfl
 exact I.step (ch:=ch) hch (fun b o hL hb hc e n=>u.keep b o e n (fun z=>(aO7.mp (I.stkSub b z)).elim hL hb) hc) (fun b o _ _ hc e n=>u.any e n hc) (fun b o hc e n=>u.free b o e n hc) (fun b o hc e=>u.there b o e hc) u.tups u.frzs u.tbls (fun m' hm=>by
  obtain ⟨o',es',ep',ho',r'⟩:=hm
  rw [ho] at ho'; cases ho'
  exact⟨_,es',ep',hL,r'⟩) hok hg
theorem a6.turned {t':Nat}{it:Addr} (I:a6 X pins σ H s) (k:∀ b o,b ≠ it->s.heap.get? b=some o->h'.get? b=some o) (hn:H it=none) (hL:it ≠ X.env.locals)
  (h1:it ∈ X.ex ∨ X.s₀.heap.objs.size<=it) (h2:∀ x c,X.env.cells.lookup x=some c->c ≠ it) (h3:∀ p ∈ X.pn ++ pins,p.1 ≠ it):a6 X pins σ H { s with heap:=h',toks:=t' }:=by
 have nit:∀ b u,H b=some u->b ≠ it:=fun b u e z=>by rw [z,hn] at e; cases e
 refine I.step (g':=s.gens) (d':=s.drawn) (ch:=[it]) (fun b hb=>?_) (fun b o _ _ hc e _=>k b o (fun z=>hc (by simp [z])) e) (fun b o _ _ hc e _=>⟨o.slots,k b o (fun z=>hc (by simp [z])) e⟩) (fun _ _ _ _ n=>n)
  (fun b o hc e=>⟨o,k b o (fun z=>hc (by simp [z])) e⟩) (fun _ _ e=>e) (fun _ _ _ e=>e) (fun b ps e=>⟨#[],by rw [e]; simp⟩) (fun m hm=>?_) (fun b u e=>?_) I.bare
 ·have e:b=it:=by simpa using hb
  subst e
  exact⟨h1,hL,h2,h3⟩
 ·obtain ⟨o,es,ep,ho,r⟩:=hm
  exact⟨o,es,ep,k _ o (Ne.symm hL) ho,r⟩
 ·refine (I.hok b u e).stay (fun c v hc q=>k c v ?_ q) (fun _ q=>q) fun _ _ q=>q
  rcases hc with z | z
  ·rw [z]; exact nit b u e
  ·exact nit c _ z
theorem a6.tok (I:a6 X pins σ H s) (t:Nat):a6 X pins σ H { s with toks:=t }:=I.un (h':=s.heap) (t':=t) Un.refl I.hok
theorem a6.kept {t':Nat} (I:a6 X pins σ H s) (k:∀ b u,s.heap.get? b=some u->h'.get? b=some u):a6 X pins σ H { s with heap:=h',toks:=t' }:=I.un (Un.kept k) (I.hok.kept k)
theorem a6.laid {a:Addr}{o:HO}{t':Nat} (I:a6 X pins σ H s) (k:∀ b u,s.heap.get? b=some u->h'.get? b=some u) (hp:s.heap.objs.size<=a) (new:bL X.prog X.w (upd H a o) h' a o) :
  a6 X pins σ (upd H a o) { s with heap:=h',toks:=t' }:=I.un (Un.laid k hp (I.hok.fresh hp)) (I.hok.laid k hp new)
theorem a6.write {x e:Addr}{o:HO}{t':Nat} (I:a6 X pins σ H s) (mu:m6 (H x)) (he:e=x ∨ H e=some (.own x)) (k:∀ b u,b ≠ e->s.heap.get? b=some u->h'.get? b=some u) (heo:∃ u,h'.get? e=some u)
  (new:bL X.prog X.w (upd H x o) h' x o):a6 X pins σ (upd H x o) { s with heap:=h',toks:=t' }:=I.un (Un.write mu he k heo) (I.hok.write mu he k heo new)
theorem a6.weak {σ':List (Option V)} (I:a6 X pins σ H s) (hl:σ'.length=σ.length) (w:∀ (i:Nat) v,σ'[i]? = some (some v)->σ[i]? = some (some v)):a6 X pins σ' H s:=
 ⟨I.ok,I.os,I.bare,I.base,let ⟨m,hn,hl'⟩:=I.loc; ⟨m,hn,fun i x v e1 e2 e3=>hl' i x v e1 (w i v e2) e3⟩,I.cell,I.free,I.freeC,I.pin,I.hok,hl.trans I.len⟩
theorem a6.pins_of {pins':List (Addr × Obj)} (I:a6 X pins σ H s) (h:∀ p ∈ pins',s.heap.get? p.1=some p.2/\H p.1=none/\p.1 ≠ X.env.locals/\p.1 ∉ X.fs/\∀ v,p.2.data ≠ .cell v):a6 X pins' σ H s:=
 ⟨I.ok,I.os,I.bare,I.base,I.loc,I.cell,I.free,I.freeC,fun p hp=>(aO4.mp hp).elim (fun z=>I.pin p (aQ9 _ z)) (h p),I.hok,I.len⟩
theorem w4 {N:List Str} (hN:N.Nodup) {i j:Nat}{x:Str} (a:N[i]? = some x) (b:N[j]? = some x):i=j:=by
 obtain ⟨h1,e1⟩:=aN9.mp a
 obtain ⟨h2,e2⟩:=aN9.mp b
 exact (List.getElem_inj hN).mp (e1.trans e2.symm)
theorem rM {M:Model}{A:Around}{E:Value->Shared->Prop}{i:Nat}{x:Str}{v:V}{u:Value}{Q:Unit->Shared->Prop} (I:a6 X pins σ H s) (hN:X.N.Nodup) (hi:X.N[i]? = some x) (hx:i3 X.env.scope x) (r:aT v u)
  (h:∀ s',a6 X pins (σ.set i (some v)) H s'->(∃ a,Heap.SameBut a s.heap s'.heap/\(a=X.env.locals ∨ X.env.cells.lookup x=some a))->Q () s') (hf:X.fn x=true ∨ X.env.scope.names.lookup x=some .local:=by first | exact .inl rfl | exact .inr rfl | assumption):wpAny M A (storeName X.env x u) Q E s:=by
 obtain ⟨m,hn,hl⟩:=id I.loc
 have hcls:(X.env.scope.kind == .class || (X.env.scope.kind == .module && X.env.locals != X.env.globals))=false:=by rw [I.ok.kind]; rfl
 have hiσ:i < σ.length:=by rw [I.len]; exact (aN9.mp hi).1
 have cne:=I.cne
 have tracked:∀ {a:Addr}{h':Heap},(∃ o,s.heap.get? a=some o/\H a=none)->Heap.SameBut a s.heap h'->bO X.prog X.w H h':=fun {a h'} ha hs b ob e=>by
  obtain ⟨_,_,hfree⟩:=ha
  refine (I.hok b ob e).stay (fun c w' hc q=>(hs.2 c ?_).trans q) (fun _ q=>q) fun _ _ q=>q
  rintro rfl
  rcases hc with rfl | hc
  ·rw [hfree] at e; cases e
  ·rw [hfree] at hc; cases hc
 rcases hx with hk | hk
 ·refine wpAny_storeName_local hk hn (fun h' hn' hs=>?_) hcls
  obtain ⟨oL,_,_,hoL,_⟩:=id hn
  refine h _ ⟨I.ok,I.os,I.bare,⟨fun b o e n hb hx=>?_,fun b o e n hb hx=>?_,I.base.free,fun b o e hx=>?_,I.base.tups,I.base.frzs,I.base.tbls⟩,⟨_,hn',fun j y v' e1 e2 e3=>?_⟩,fun y c e=>?_,I.free,I.freeC,fun p hp=>?_,tracked ⟨oL,hoL,I.free⟩ hs,by simpa using I.len⟩ ⟨_,hs,.inl rfl⟩
  ·exact (hs.2 b (aR2 (aO9 (aP1 e) I.ok.above))).trans (I.base.keep b o e n hb hx)
  ·obtain ⟨sl,e1⟩:=I.base.slot b o e n hb hx
   exact⟨sl,(hs.2 b (aR2 (aO9 (aP1 e) I.ok.above))).trans e1⟩
  ·obtain ⟨o',e1⟩:=I.base.there b o e hx
   exact⟨o',(hs.2 b (aR2 (aO9 (aP1 e) I.ok.above))).trans e1⟩
  ·by_cases hj:j=i
   ·subst hj
    rw [hi] at e1; cases e1
    rw [aT2 hiσ] at e2
    cases e2
    exact⟨u,r,.inl ⟨hk,by simp⟩⟩
   ·rw [aR0 (Ne.symm hj)] at e2
    obtain ⟨u',r',q⟩:=hl j y v' e1 e2 e3
    refine⟨u',r',?_⟩
    rcases q with ⟨k,e⟩ | ⟨k,c,e,z⟩
    ·refine .inl ⟨k,?_⟩
     have:y ≠ x:=fun e=>hj (w4 hN e1 (e ▸ hi))
     simp [this,e]
    ·exact .inr ⟨k,c,e,z.sameBut hs (cne y c e)⟩
  ·obtain ⟨w',z⟩:=I.cell y c e
   exact⟨w',z.sameBut hs (cne y c e)⟩
  ·obtain ⟨e,n,ne,nf,d⟩:=I.pin p hp
   exact⟨(hs.2 p.1 ne).trans e,n,ne,nf,d⟩
 ·have hfn:X.fn x=true:=by
   rcases hf with z | z
   ·exact z
   ·rw [z] at hk; cases hk
  obtain ⟨c,hc⟩:=I.ok.has x (.inl hk)
  obtain ⟨w',z⟩:=I.cell x c hc
  refine wpAny_storeName_cell I.ok.kind hk hc z (fun h' hc' hs=>?_)
  obtain ⟨oc,hoc,hocd⟩:=id z
  refine h { s with heap:=h' } ⟨I.ok,I.os,I.bare,⟨fun b o e n hb hx=>?_,fun b o e n hb hx=>?_,I.base.free,fun b o e hx=>?_,I.base.tups,I.base.frzs,I.base.tbls⟩,⟨m,hn.sameBut hs (Ne.symm (cne x c hc)),fun j y v' e1 e2 e3=>?_⟩,fun y c' e=>?_,I.free,I.freeC,fun p hp=>?_,tracked ⟨oc,hoc,I.freeC x c hc⟩ hs,by simpa using I.len⟩ ⟨c,hs,.inr hc⟩
  ·exact (hs.2 b (aR2 (aO9 (aP1 e) (I.ok.cab x c hfn hc)))).trans (I.base.keep b o e n hb hx)
  ·obtain ⟨sl,e1⟩:=I.base.slot b o e n hb hx
   exact⟨sl,(hs.2 b (aR2 (aO9 (aP1 e) (I.ok.cab x c hfn hc)))).trans e1⟩
  ·obtain ⟨o',e1⟩:=I.base.there b o e hx
   exact⟨o',(hs.2 b (aR2 (aO9 (aP1 e) (I.ok.cab x c hfn hc)))).trans e1⟩
  ·by_cases hj:j=i
   ·subst hj
    rw [hi] at e1; cases e1
    rw [aT2 hiσ] at e2
    cases e2
    exact⟨u,r,.inr ⟨.inl hk,c,hc,hc'⟩⟩
   ·rw [aR0 (Ne.symm hj)] at e2
    obtain ⟨u',r',q⟩:=hl j y v' e1 e2 e3
    refine⟨u',r',?_⟩
    rcases q with q | ⟨k,c',e,z'⟩
    ·exact .inl q
    ·refine .inr ⟨k,c',e,z'.sameBut hs ?_⟩
     rintro rfl
     exact hj (w4 hN e1 (I.ok.inj _ _ _ e hc ▸ hi))
  ·by_cases hcc:c'=c
   ·subst hcc; exact⟨_,hc'⟩
   ·obtain ⟨w2,z2⟩:=I.cell y c' e
    exact⟨w2,z2.sameBut hs hcc⟩
  ·obtain ⟨e,n,ne,nf,d⟩:=I.pin p hp
   refine⟨(hs.2 p.1 ?_).trans e,n,ne,nf,d⟩
   intro q
   rw [q,hoc] at e
   have q':oc=p.2:=aQ5 e
   exact d w' (by rw [<- q']; exact hocd)
theorem w5 {M:Model}{A:Around}{E:Value->Shared->Prop}{i:Nat}{x:Str}{v:V}{u:Value}{Q:Unit->Shared->Prop} (I:a6 X pins σ H s) (hN:X.N.Nodup) (hi:X.N[i]? = some x) (hx:i3 X.env.scope x) (r:aT v u)
  (h:∀ s',a6 X pins (σ.set i (some v)) H s'->Q () s') (hf:X.fn x=true ∨ X.env.scope.names.lookup x=some .local:=by first | exact .inl rfl | exact .inr rfl | assumption):wpAny M A (storeName X.env x u) Q E s:=
 rM I hN hi hx r (fun s' I' _=>h s' I') hf
theorem a6.call' {s':Shared}{ch:List Addr} (I:a6 X pins σ H s) (ho:s'.os=s.os) (u:Un (bP X.stack) ch H H' s.heap s'.heap) (hok:bO X.prog X.w H' s'.heap) (hg:AllBare s'.gens)
  (hch:∀ b ∈ ch,(b ∈ X.ex ∨ X.s₀.heap.objs.size<=b)/\b ≠ X.env.locals/\(∀ x c,X.env.cells.lookup x=some c->c ≠ b)/\∀ p ∈ X.pn ++ pins,p.1 ≠ b):a6 X pins σ H' s':=by
 obtain ⟨h',g',d',t',o'⟩:=s'
 have e:o'=s.os:=ho
 subst e
 exact I.call (g':=g') (t':=t') (d':=d') u hok hg hch
end
noncomputable abbrev XK:=Value->Option Addr->Hp->Prop
noncomputable abbrev St:=List (Option V)
noncomputable abbrev VK:=V->Hp->Prop
noncomputable abbrev TE:=St->Hp->VK->Prop
noncomputable abbrev TT:=St->Hp->(Bool->Hp->Prop)->Prop
noncomputable abbrev TA:=St->Hp->(List V->Hp->Prop)->Prop
structure dZ where
 nx:St->Hp->Prop
 rt:VK
 bk:St->Hp->Prop:=fun _ _=>False
 ct:St->Hp->Prop:=fun _ _=>False
noncomputable abbrev TS:=dZ->St->Hp->Prop
noncomputable def EP (X:Cx) (pins:List (Addr × Obj)) (σ:St) (Q:VK) (u:Value) (s':Shared):Prop:=∃ v H',a6 X pins σ H' s'/\aT v u/\Q v H'
noncomputable def TP (X:Cx) (pins:List (Addr × Obj)) (σ:St) (Q:Bool->Hp->Prop) (b:Bool) (s':Shared):Prop:=∃ H',a6 X pins σ H' s'/\Q b H'
noncomputable def AP (X:Cx) (pins:List (Addr × Obj)) (σ:St) (Q:List V->Hp->Prop) (us:List Value) (s':Shared):Prop:=∃ vs H',a6 X pins σ H' s'/\aK vs us/\Q vs H'
noncomputable def SP (X:Cx) (pins:List (Addr × Obj)) (D:dZ) (f:Flow) (s':Shared):Prop:=
 match f with
 | .next=>∃ σ' H',a6 X pins σ' H' s'/\D.nx σ' H'
 | .brk=>∃ σ' H',a6 X pins σ' H' s'/\D.bk σ' H'
 | .cont=>∃ σ' H',a6 X pins σ' H' s'/\D.ct σ' H'
 | .ret u=>∃ v σ' H',a6 X pins σ' H' s'/\aT v u/\D.rt v H'
noncomputable def PE (X:Cx) (e:Expr) (t:TE):Prop:=
 ∀ (pins:List (Addr × Obj)) (s:Shared) (σ:St) (H:Hp) (Q:VK),a6 X pins σ H s->t σ H Q->wpAny (model X.prog X.w) X.A (eval e X.env) (EP X pins σ Q) X.xe s
noncomputable def PT (X:Cx) (e:Expr) (t:TT):Prop:=
 ∀ (pins:List (Addr × Obj)) (s:Shared) (σ:St) (H:Hp) (Q:Bool->Hp->Prop),a6 X pins σ H s->t σ H Q->wpAny (model X.prog X.w) X.A (isTrue e X.env (eval e X.env)) (TP X pins σ Q) X.xe s
noncomputable def PW (X:Cx) (e:Expr) (t:TT):Prop:=
 ∀ (whole:Sem Value) (pins:List (Addr × Obj)) (s:Shared) (σ:St) (H:Hp) (Q:Bool->Hp->Prop),a6 X pins σ H s->t σ H Q->wpAny (model X.prog X.w) X.A (isTrue e X.env whole) (TP X pins σ Q) X.xe s
theorem PW.pt {X:Cx}{e:Expr}{t:TT} (h:PW X e t):PT X e t:=h _
noncomputable def PA (X:Cx) (es:List Expr) (t:TA):Prop:=
 ∀ (pos:Pos) (pins:List (Addr × Obj)) (s:Shared) (σ:St) (H:Hp) (Q:List V->Hp->Prop),a6 X pins σ H s->t σ H Q->wpAny (model X.prog X.w) X.A (spliced (backTo pos (starEach es X.env))) (AP X pins σ Q) X.xe s
noncomputable def PS (X:Cx) (st:Stmt) (t:TS):Prop:=
 ∀ (pins:List (Addr × Obj)) (s:Shared) (σ:St) (H:Hp) (D:dZ),a6 X pins σ H s->t D σ H->wpAny (model X.prog X.w) X.A (exec st X.env) (SP X pins D) X.xe s
noncomputable def e6 (X:Cx) (st:List Stmt) (t:TS):Prop:=
 ∀ (pins:List (Addr × Obj)) (s:Shared) (σ:St) (H:Hp) (D:dZ),a6 X pins σ H s->t D σ H->wpAny (model X.prog X.w) X.A (execs st X.env) (SP X pins D) X.xe s
theorem aO {α:Type}{t:Sem α}{Q Q':α->Shared->Prop}{M:Model}{A:Around}{E:Value->Shared->Prop}{s:Shared} (h:wpAny M A t Q E s) (hQ:∀ a s,Q a s->Q' a s):wpAny M A t Q' E s:=aV8 h hQ fun _ _ x=>x
section
variable {X : Cx}
theorem bin {a b:Expr}{ta tb:TE} (ha:PE X a ta) (hb:PE X b tb) {pins:List (Addr × Obj)}{s:Shared}{σ:St}{H:Hp}{R:V->V->Hp->Prop} (I:a6 X pins σ H s) (h:ta σ H fun x H1=>tb σ H1 fun y H2=>R x y H2)
  {α:Type}{Q:α->Shared->Prop}{f:Value->Value->Sem α}
  (hf:∀ v u s2 x y H2,a6 X pins σ H2 s2->aT x v->aT y u->R x y H2->wpAny (model X.prog X.w) X.A (f v u) Q X.xe s2) :
  wpAny (model X.prog X.w) X.A (eval a X.env) (fun v s₁=>wpAny (model X.prog X.w) X.A (eval b X.env) (fun u s₂=>wpAny (model X.prog X.w) X.A (f v u) Q X.xe s₂) X.xe s₁) X.xe s:=by
 refine aO (ha pins s σ H _ I h) fun v s1 ⟨x,H1,I1,r1,q1⟩=>?_
 refine aO (hb pins s1 σ H1 _ I1 q1) fun u s2 ⟨y,H2,I2,r2,q2⟩=>?_
 exact hf v u s2 x y H2 I2 r1 r2 q2
noncomputable def i4 (i:Nat):TE:=fun σ H Q=>∃ v,σ[i]? = some (some v)/\Q v H
noncomputable def tC (v:V):TE:=fun _ H Q=>Q v H
theorem iK {i:Nat}{x:Str}{pos:Pos} (hN:X.N[i]? = some x) (hv:gA X.env.scope x) (hd:(x == ("__debug__" : Str))=false:=by decide) (hcd:(x == ("__classdict__" : Str))=false:=by decide):PE X (.Name x pos) (i4 i):=by
 intro pins s σ H Q I h
 obtain ⟨v,e,h⟩:=h
 obtain ⟨m,hn,hl⟩:=I.loc
 obtain ⟨u,r,l⟩:=hl i x v hN e hv
 have fin:EP X pins σ Q u s:=⟨v,H,I,r,h⟩
 rcases l with ⟨hk,hm⟩ | ⟨hk,c,hc,hcell⟩
 ·exact wpAny_Name (wpAny_loadName_local I.ok.kind hk hn hm fin) hd
 ·rcases hk with hk | hk
  ·exact wpAny_Name (wpAny_loadName_cell I.ok.kind hk hc hcell fin) hd
  ·exact wpAny_Name (wpAny_loadName_free I.ok.kind hk hc hcell fin hcd) hd
theorem jY {i j pos}:PE X (.Constant (.int i) j pos) (tC (.int i)):=fun _ _ _ H _ I h=>wpAny_Constant_int ⟨.int i,H,I.tok _,⟨_,rfl⟩,h⟩
theorem w6 {b j pos}:PE X (.Constant (.bool b) j pos) (tC (.bl b)):=fun _ _ _ H _ I h=>Constant_bool ⟨.bl b,H,I,rfl,h⟩
theorem X4 {j pos}:PE X (.Constant .none j pos) (tC .non):=fun _ _ _ H _ I h=>Constant_none ⟨.non,H,I,rfl,h⟩
theorem X5 {x j pos}:PE X (.Constant (.str x) j pos) (tC (.str x)):=fun _ _ _ H _ I h=>Calls.Constant_str ⟨.str x,H,I.tok _,⟨_,rfl⟩,h⟩
noncomputable def Gl (X:Cx) (x:Str):Prop:=X.env.kindOf x=some .globalImplicit
theorem w9 {E:Value->Shared->Prop}{pins:List (Addr × Obj)}{s:Shared}{σ:St}{H:Hp}{x:Str}{u:Value}{pos:Pos}{Q:Value->Shared->Prop} (I:a6 X pins σ H s) (hg:Gl X x) (hm:X.mg x=some u) (h:Q u s)
  (hd:(x == ("__debug__" : Str))=false:=by decide):wpAny (model X.prog X.w) X.A (eval (.Name x pos) X.env) Q E s:=
 Calls.Name_function_global I.ok.kind hg (Calls.loadGlobal_global (by rw [I.ok.glob]; exact I.mod.glob.keeps I.bk) hm h) hd
theorem iL {E:Value->Shared->Prop}{pins:List (Addr × Obj)}{s:Shared}{σ:St}{H:Hp}{x:Str}{u:Value}{pos:Pos}{Q:Value->Shared->Prop} (I:a6 X pins σ H s) (hg:Gl X x) (hm:X.mg x=none) (hv:bootBuiltins x=some u) (h:Q u s)
  (hn:x ≠ "__name__":=by decide) (hd:(x == ("__debug__" : Str))=false:=by decide):wpAny (model X.prog X.w) X.A (eval (.Name x pos) X.env) Q E s:=by
 obtain ⟨mb,h1,h2⟩:=I.mod.blt
 exact Calls.Name_function_global I.ok.kind hg (Calls.loadGlobal_builtin (by rw [I.ok.glob]; exact I.mod.glob.keeps I.bk) hm (by rw [I.ok.blt]; exact h1.keeps I.bk) ((h2 x hn).trans hv) h) hd
theorem X6 {x:Str}{v:V}{u:Value}{pos:Pos} (hg:Gl X x) (hm:X.mg x=none) (hv:bootBuiltins x=some u) (r:aT v u) (hn:x ≠ "__name__":=by decide) (hd:(x == ("__debug__" : Str))=false:=by decide):PE X (.Name x pos) (tC v):=
 fun _ _ _ H _ I h=>iL I hg hm hv ⟨v,H,I,r,h⟩ hn hd
variable {a b : Expr} {ta tb : TE} {pos : Pos}
noncomputable def PC (X:Cx) (op:CmpOp) (a b:Expr) (t:TE):Prop:=
 ∀ (pins:List (Addr × Obj)) (s:Shared) (σ:St) (H:Hp) (Q:VK),a6 X pins σ H s->t σ H Q->
  wpAny (model X.prog X.w) X.A (eval a X.env) (fun v s₁=>wpAny (model X.prog X.w) X.A (eval b X.env) (fun u s₂=>wpAny (model X.prog X.w) X.A (compareOp op v u) (EP X pins σ Q) X.xe s₂) X.xe s₁) X.xe s
noncomputable def tB (t:TE):TT:=fun σ H Q=>t σ H fun x H1=>∃ c,x = .bl c/\Q c H1
theorem wA {op:CmpOp}{t:TE} (h:PC X op a b t) (h1:behindInMarks op b=false:=by first | exact nobehind _ (by decide) (by decide) | rfl):PT X (.Compare a [op] [b] pos) (tB t):=by
 intro pins s σ H Q I hw
 refine wpAny_isTrue_Compare1 (aO (h pins s σ H _ I hw) fun v s1 h1=>aO h1 fun u s2 h2=>aO h2 fun c s3 ⟨x,H1,I1,r1,q1⟩=>?_) h1
 obtain ⟨d,rfl,q⟩:=q1
 cases r1
 exact aX0 ⟨H1,I1,q⟩
theorem X7 {e:Expr}{t:TE} (h:PE X e t) (he:∀ whole,isTrue e X.env whole=(do let v <- whole; standAt e.pos; holding [v] (truthy v)):=by intro _; rfl):PT X e (tB t):=by
 intro pins s σ H Q I hw
 refine isTrue_plain (aO (h pins s σ H _ I hw) fun v s1 ⟨x,H1,I1,r1,q1⟩=>?_) (he _)
 obtain ⟨d,rfl,q⟩:=q1
 cases r1
 exact aX0 ⟨H1,I1,q⟩
variable {tA tB' : TT} {dM : List Expr}
noncomputable def wB (t u:TT):TT:=fun σ H Q=>t σ H fun c H1=>if c=true then u σ H1 Q else Q false H1
noncomputable def wC (t u:TT):TT:=fun σ H Q=>t σ H fun c H1=>if c=true then Q true H1 else u σ H1 Q
noncomputable def wD (t:TT):TT:=fun σ H Q=>t σ H fun c H1=>Q (!c) H1
theorem X8 (ha:PT X a tA):PW X (.BoolOp .And [a] pos) tA:=by
 intro wh pins s σ H Q I h
 refine isTrue_and (aO (ha pins s σ H Q I h) fun c s1 e=>?_)
 cases c with
 | true=>exact isTrue_and_nil e
 | false=>exact e
theorem X9 (ha:PT X a tA):PW X (.BoolOp .Or [a] pos) tA:=by
 intro wh pins s σ H Q I h
 refine isTrue_or (aO (ha pins s σ H Q I h) fun c s1 e=>?_)
 cases c with
 | false=>exact isTrue_or_nil e
 | true=>exact e
theorem Y0 (ha:PT X a tA) (hb:PW X (.BoolOp .And (b :: dM) pos) tB'):PW X (.BoolOp .And (a :: b :: dM) pos) (wB tA tB'):=by
 intro wh pins s σ H Q I h
 refine isTrue_and (aO (ha pins s σ H _ I h) fun c s1 ⟨H1,I1,q1⟩=>?_)
 cases c with
 | true=>exact hb wh pins s1 σ H1 Q I1 q1
 | false=>exact⟨H1,I1,q1⟩
theorem Y1 (ha:PT X a tA) (hb:PW X (.BoolOp .Or (b :: dM) pos) tB'):PW X (.BoolOp .Or (a :: b :: dM) pos) (wC tA tB'):=by
 intro wh pins s σ H Q I h
 refine isTrue_or (aO (ha pins s σ H _ I h) fun c s1 ⟨H1,I1,q1⟩=>?_)
 cases c with
 | true=>exact⟨H1,I1,q1⟩
 | false=>exact hb wh pins s1 σ H1 Q I1 q1
theorem Y2 (ha:PT X a tA):PT X (.UnaryOp .Not a pos) (wD tA):=by
 intro pins s σ H Q I h
 exact isTrue_not (ha pins s σ H (fun c H1=>Q (!c) H1) I h)
noncomputable def wE (ta tb:TE):TE:=fun σ H Q=>ta σ H fun x H1=>∃ c,x = .bl c/\if c=true then tb σ H1 Q else Q (.bl false) H1
noncomputable def wF (ta:TE):TE:=fun σ H Q=>ta σ H fun x H1=>∃ c,x = .bl c/\Q (.bl (!c)) H1
theorem Y3 {op}{t:TE} (h:PE X a t):PE X (.BoolOp op [a] pos) t:=fun pins s σ H Q I hw=>BoolOp_one (h pins s σ H Q I hw)
theorem Y4 (ha:PE X a ta) (hb:PE X (.BoolOp .And (b :: dM) pos) tb):PE X (.BoolOp .And (a :: b :: dM) pos) (wE ta tb):=by
 intro pins s σ H Q I h
 refine BoolOp_and (aO (ha pins s σ H _ I h) fun v s1 ⟨x,H1,I1,r1,q1⟩=>?_)
 obtain ⟨c,rfl,q1⟩:=q1
 cases r1
 refine aX0 ?_
 cases c with
 | true=>exact hb pins s1 σ H1 Q I1 q1
 | false=>exact⟨.bl false,H1,I1,rfl,q1⟩
theorem Y5 (ha:PE X a ta):PE X (.UnaryOp .Not a pos) (wF ta):=by
 intro pins s σ H Q I h
 refine UnaryOp_ (aO (ha pins s σ H _ I h) fun v s1 ⟨x,H1,I1,r1,q1⟩=>?_)
 obtain ⟨c,rfl,q1⟩:=q1
 cases r1
 exact not_of (aX0 ⟨.bl (!c),H1,I1,rfl,q1⟩)
end
noncomputable def aJ (K:PySem.W.Frag) (H:Hp) (a:Addr) (xs:List V):Prop:=
 Rd H a (.lst xs) ∨
  ∃ (o:Obj) (its:Array Value) (n:Nat),K.lookup a=some o/\o.cls = .type "list"/\o.dict=none/\o.data = .seq its n/\its.size<=sizeLine/\aK xs its.toList
noncomputable def aM (K:PySem.W.Frag) (H:Hp) (a:Addr) (xs:List V):Prop:=
 Rd H a (.tup xs) ∨
  ∃ (o:Obj) (its:Array Value) (n:Nat),K.lookup a=some o/\o.cls = .type "tuple"/\o.data = .seq its n/\its.size<=sizeLine/\aK xs its.toList
noncomputable def Y6:Value->Option V
 | .none=>some .non
 | .bool b=>some (.bl b)
 | .int i _=>some (.int i)
 | .str x _=>some (.str x)
 | .bytes b _=>some (.byt b)
 | .float b _=>some (.flt b)
 | .ref a=>some (.ref a)
 | .type n=>some (.ty n)
 | _=>none
theorem aT.abs {x:V}{u:Value} (r:aT x u):Y6 u=some x:=by
 cases x with
 | non=>cases r; rfl
 | bl _=>cases r; rfl
 | int _=>obtain ⟨t,rfl⟩:=r; rfl
 | str _=>obtain ⟨t,rfl⟩:=r; rfl
 | byt _=>obtain ⟨t,rfl⟩:=r; rfl
 | flt _=>obtain ⟨t,rfl⟩:=r; rfl
 | ref _=>cases r; rfl
 | ty _=>cases r; rfl
theorem aT.inj {x y:V}{u:Value} (r:aT x u) (q:aT y u):x=y:=aQ5 (r.abs.symm.trans q.abs)
theorem aK.inj:∀ {xs ys:List V}{us:List Value},aK xs us->aK ys us->xs=ys
 | _,_,_,.nil,.nil=>rfl
 | _,_,_,.cons r t,.cons r' t'=>by rw [r.inj r',aK.inj t t']
section
variable {X : Cx} {pins : List (Addr × Obj)} {σ : St} {H : Hp} {s : Shared} {a : Addr} {xs ys : List V}
theorem aJ.of {K:PySem.W.Frag} (h:H a=some (.lst xs)):aJ K H a xs:=.inl (.inl h)
theorem aM.of {K:PySem.W.Frag} (h:H a=some (.tup xs)):aM K H a xs:=.inl (.inl h)
theorem a6.list (I:a6 X pins σ H s) (h:aJ X.K H a xs):∃ its:List Value,aK xs its/\PlainL s.heap a its.toArray/\xs.length<=sizeLine:=by
 rcases h with h | ⟨o,its,n,hk,hc,hd,hs,hz,r⟩
 ·obtain ⟨z,its,n,r,e⟩:=h.ok I.hok
  exact⟨its,r,⟨_,n,e,rfl,rfl,rfl⟩,z⟩
 ·refine⟨its.toList,r,⟨o,n,I.kIn a o hk,hc,hd,by simpa using hs⟩,?_⟩
  have e:=r.length
  simp only [Array.length_toList] at e
  lia
theorem a6.tuple (I:a6 X pins σ H s) (h:aM X.K H a xs):∃ its:List Value,aK xs its/\IsTup s.heap a its.toArray/\xs.length<=sizeLine:=by
 rcases h with h | ⟨o,its,n,hk,hc,hs,hz,r⟩
 ·obtain ⟨z,its,r,p,_⟩:=h.ok I.hok
  exact⟨its,r,p,z⟩
 ·refine⟨its.toList,r,⟨o,I.kIn a o hk,hc,n,by simpa using hs⟩,?_⟩
  have e:=r.length
  simp only [Array.length_toList] at e
  lia
theorem a6.list_inj (I:a6 X pins σ H s) (h:aJ X.K H a xs) (h':aJ X.K H a ys):xs=ys:=by
 obtain ⟨its,r,⟨o,n,e,_,_,d⟩,_⟩:=I.list h
 obtain ⟨its',r',⟨o',n',e',_,_,d'⟩,_⟩:=I.list h'
 rw [e] at e'; cases e'
 rw [d] at d'
 injection d' with d1 _
 have:its=its':=by simpa using congrArg Array.toList d1
 subst this
 exact r.inj r'
theorem a6.tuple_inj (I:a6 X pins σ H s) (h:aM X.K H a xs) (h':aM X.K H a ys):xs=ys:=by
 obtain ⟨its,r,⟨o,e,_,n,d⟩,_⟩:=I.tuple h
 obtain ⟨its',r',⟨o',e',_,n',d'⟩,_⟩:=I.tuple h'
 rw [e] at e'; cases e'
 rw [d] at d'
 injection d' with d1 _
 have:its=its':=by simpa using congrArg Array.toList d1
 subst this
 exact r.inj r'
end
noncomputable abbrev Cx.wish (X:Cx) (E:Value->Shared->Prop):Cx:={ X with xe:=E }
noncomputable abbrev Cx.nox (X:Cx):Cx:=X.wish fun _ _=>False
theorem Cx.Ok.wish {X:Cx} (ok:X.Ok) (E:Value->Shared->Prop):(X.wish E).Ok:=
 ⟨ok.mod,ok.kind,ok.glob,ok.blt,ok.above,ok.inj,ok.has,ok.cab,ok.hd,ok.frames,ok.stk,ok.exf,ok.bs,ok.bsz,ok.noex,ok.exfs,ok.funs,ok.frf⟩
theorem Cx.Ok.unwish {X:Cx}{E:Value->Shared->Prop} (ok:(X.wish E).Ok):X.Ok:=
 ⟨ok.mod,ok.kind,ok.glob,ok.blt,ok.above,ok.inj,ok.has,ok.cab,ok.hd,ok.frames,ok.stk,ok.exf,ok.bs,ok.bsz,ok.noex,ok.exfs,ok.funs,ok.frf⟩
section
variable {X : Cx} {pins : List (Addr × Obj)} {σ : St} {H : Hp} {s : Shared} {E : Value → Shared → Prop}
theorem a6.wish (I:a6 X pins σ H s) (E:Value->Shared->Prop):a6 (X.wish E) pins σ H s:=⟨I.ok.wish E,I.os,I.bare,I.base,I.loc,I.cell,I.free,I.freeC,I.pin,I.hok,I.len⟩
theorem a6.unwish (I:a6 (X.wish E) pins σ H s):a6 X pins σ H s:=⟨I.ok.unwish,I.os,I.bare,I.base,I.loc,I.cell,I.free,I.freeC,I.pin,I.hok,I.len⟩
theorem SP.unwish {D:dZ}{f:Flow}{s':Shared} (h:SP (X.wish E) pins D f s'):SP X pins D f s':=by
 cases f with
 | next=>obtain ⟨σ',H',I,q⟩:=h; exact⟨σ',H',I.unwish,q⟩
 | brk=>obtain ⟨σ',H',I,q⟩:=h; exact⟨σ',H',I.unwish,q⟩
 | cont=>obtain ⟨σ',H',I,q⟩:=h; exact⟨σ',H',I.unwish,q⟩
 | ret u=>obtain ⟨v,σ',H',I,r,q⟩:=h; exact⟨v,σ',H',I.unwish,r,q⟩
theorem e6.nox {st:List Stmt}{t:TS} (h:e6 X.nox st t):e6 X st t:=fun pins s σ H D I hw=>
 aV8 (h pins s σ H D (I.wish _) hw) (fun _ _ q=>q.unwish) fun _ _ z=>False.elim z
end
section
variable {X : Cx} {st : Stmt} {dM : List Stmt} {t u : TS} {e : Expr} {te : TE} {pos : Pos}
noncomputable def wG:TS:=fun D σ H=>D.nx σ H
noncomputable def wH (t u:TS):TS:=fun D σ H=>t { D with nx:=u D } σ H
theorem Y7:e6 X [] wG:=fun _ _ σ H _ I h=>wpAny_execs_nil ⟨σ,H,I,h⟩
theorem jZ (h1:PS X st t) (h2:e6 X dM u):e6 X (st :: dM) (wH t u):=by
 intro pins s σ H D I h
 refine wpAny_execs_cons (aO (h1 pins s σ H { D with nx:=u D } I h) fun f s1 q=>?_)
 cases f with
 | next=>
  obtain ⟨σ',H',I',q⟩:=q
  exact h2 pins s1 σ' H' D I' q
 | ret v=>exact q
 | brk=>exact q
 | cont=>exact q
theorem k6 (h1:PS X st t):e6 X [st] t:=by
 intro pins s σ H D I h
 refine wpAny_execs_cons (aO (h1 pins s σ H D I h) fun f s1 q=>?_)
 cases f with
 | next=>exact wpAny_execs_nil q
 | ret v=>exact q
 | brk=>exact q
 | cont=>exact q
theorem a6.quiet {pins:List (Addr × Obj)}{σ:St}{H:Hp}{s:Shared} (I:a6 X pins σ H s):interactive X.env=false:=by simp [interactive,I.ok.kind]
noncomputable def o7 (te:TE):TS:=fun D σ H=>te σ H fun _ H1=>D.nx σ H1
theorem k7 (he:PE X e te) (hs:swapsWith e none pos.line X.env=pure false:=by rfl):PS X (.Expr e pos) (o7 te):=by
 intro pins s σ H D I h
 exact wpAny_Expr_any (aO (he pins s σ H _ I h) fun v s1 ⟨x,H1,I1,r1,q1⟩=>⟨σ,H1,I1,q1⟩) I.quiet hs
noncomputable def rN (te:TE):TS:=fun D σ H=>te σ H D.rt
theorem kY (he:PE X e te):PS X (.Return (some e) pos) (rN te):=by
 intro pins s σ H D I h
 exact wpAny_Return_some (aO (he pins s σ H _ I h) fun v s1 ⟨x,H1,I1,r1,q1⟩=>⟨x,σ,H1,I1,r1,q1⟩)
noncomputable def wI (c:TT) (t u:TS):TS:=fun D σ H=>c σ H fun b H1=>if b=true then t D σ H1 else u D σ H1
theorem Y8 {c:Expr}{a b:List Stmt}{tc:TT} (hc:PT X c tc) (ha:e6 X a t) (hb:e6 X b u):PS X (.If c a b pos) (wI tc t u):=by
 intro pins s σ H D I h
 refine wpAny_If (aO (hc pins s σ H _ I h) fun d s1 ⟨H1,I1,q1⟩=>?_)
 cases d with
 | true=>exact ha pins s1 σ H1 D I1 q1
 | false=>exact hb pins s1 σ H1 D I1 q1
noncomputable def Y9:TS:=fun _ _ _=>False
theorem Z0:PS X st Y9:=fun _ _ _ _ _ _ h=>h.elim
end
noncomputable abbrev TG:=V->St->Hp->(St->Hp->Prop)->Prop
noncomputable abbrev k8:=List V->St->Hp->(St->Hp->Prop)->Prop
noncomputable def PG (X:Cx) (target:Expr) (t:TG):Prop:=
 ∀ (pins:List (Addr × Obj)) (s:Shared) (σ:St) (H:Hp) (v:V) (u:Value) (Q:St->Hp->Prop),a6 X pins σ H s->aT v u->t v σ H Q->
  wpAny (model X.prog X.w) X.A (assign target X.env u) (fun _ s'=>∃ σ' H',a6 X pins σ' H' s'/\Q σ' H') X.xe s
noncomputable def o8 (X:Cx) (ts:List Expr) (t:k8):Prop:=
 ∀ (pins:List (Addr × Obj)) (s:Shared) (σ:St) (H:Hp) (vs:List V) (us:List Value) (Q:St->Hp->Prop),a6 X pins σ H s->aK vs us->t vs σ H Q->
  wpAny (model X.prog X.w) X.A (assignInOrder ((assignEach ts X.env).map (·.2)) us) (fun _ s'=>∃ σ' H',a6 X pins σ' H' s'/\Q σ' H') X.xe s
noncomputable abbrev rO:=V->V->V->Hp->(Hp->Prop)->Prop
noncomputable def wJ (X:Cx) (t:rO):Prop:=
 ∀ (pins:List (Addr × Obj)) (s:Shared) (σ:St) (H:Hp) (o i v:V) (ov iv u:Value) (Q:Hp->Prop),a6 X pins σ H s->aT o ov->aT i iv->aT v u->t o i v H Q->
  wpAny (model X.prog X.w) X.A (setItem ov iv u) (fun _ s'=>∃ H',a6 X pins σ H' s'/\Q H') X.xe s
section
variable {X : Cx} {pos : Pos}
noncomputable def cC (i:Nat):TG:=fun v σ H Q=>Q (σ.set i (some v)) H
theorem eC {i:Nat}{x:Str} (hN:X.N.Nodup) (hi:X.N[i]? = some x) (hx:i3 X.env.scope x) (hf:X.fn x=true ∨ X.env.scope.names.lookup x=some .local:=by first | exact .inl rfl | exact .inr rfl | assumption):PG X (.Name x pos) (cC i):=by
 intro pins s σ H v u Q I r h
 exact wpAny_assign_Name (w5 I hN hi hx r (fun s' I'=>⟨_,H,I',h⟩) hf)
noncomputable def k9:k8:=fun vs σ H Q=>vs = []/\Q σ H
noncomputable def fU (t:TG) (u:k8):k8:=fun vs σ H Q=>∃ v r,vs=v :: r/\t v σ H fun σ' H'=>u r σ' H' Q
theorem kZ:o8 X [] k9:=by
 intro pins s σ H vs us Q I r h
 obtain ⟨e,h⟩:=h
 subst e
 cases r
 exact assignInOrder_nil ⟨σ,H,I,h⟩
theorem gB {e:Expr}{es:List Expr}{t:TG}{u:k8} (h1:PG X e t) (h2:o8 X es u)
  (hs:(assignEach (e :: es) X.env).map (·.2)=assign e X.env :: (assignEach es X.env).map (·.2):=by rfl):o8 X (e :: es) (fU t u):=by
 intro pins s σ H vs us Q I r h
 obtain ⟨v,vr,e1,h⟩:=h
 subst e1
 cases r with
 | cons r rr=>
  rw [hs]
  refine assignInOrder_cons (aO (h1 pins s σ H _ _ _ I r h) fun _ s1 ⟨σ1,H1,I1,q1⟩=>?_)
  exact h2 pins s1 σ1 H1 _ _ Q I1 rr q1
noncomputable def kA (K:PySem.W.Frag) (n:Nat) (t:k8):TG:=fun v σ H Q=>∃ a xs,v = .ref a/\aM K H a xs/\xs.length=n/\t xs σ H Q
theorem l4 {es:List Expr}{k:Nat}{t:k8}{n:Nat} (hc:X.calm=true) (h:o8 X es t)
  (hn:(assignEach es X.env).length=n:=by rfl) (hst:(assignEach es X.env).findIdx? (·.1)=none:=by rfl):PG X (.Tuple es k pos) (kA X.K n t):=by
 intro pins s σ H v u Q I r hw
 obtain ⟨a,xs,e1,hq,hl,hw⟩:=hw
 subst e1
 cases r
 obtain ⟨its,rv,ht,hz⟩:=I.tuple hq
 refine assign_Tuple_tuple (I.ok.hd hc) ht (by simp [hn,<- hl,rv.length]) hst fun h' hx=>?_
 have I1:a6 X pins σ H { s with heap:=h' }:=I.kept (t':=s.toks) fun b o e=>hx b o (aR2 (aP1 e)) e
 exact h pins _ σ H xs _ Q I1 (by simpa using rv) hw
noncomputable def rP (to ti:TE) (t:rO):TG:=fun v σ H Q=>to σ H fun o H1=>ti σ H1 fun i H2=>t o i v H2 fun H3=>Q σ H3
theorem Z1 {o i:Expr}{to ti:TE}{t:rO} (ho:PE X o to) (hi:PE X i ti) (hs:wJ X t)
  (ha:∀ v,assign (.Subscript o i pos) X.env v=(do
   let ov <- holding [v] (eval o X.env)
   let iv <- holding [v,ov] (eval i X.env)
   standAt pos
   holding [v,ov,iv] (setItem ov iv v)
   release [v,ov,iv] []):=by intro _; rfl):PG X (.Subscript o i pos) (rP to ti t):=by
 intro pins s σ H v u Q I r h
 rw [ha]
 refine aN2 (aZ2 (aO (ho pins s σ H _ I h) fun ov s1 ⟨x,H1,I1,r1,q1⟩=>?_))
 refine aN2 (aZ2 (aO (hi pins s1 σ H1 _ I1 q1) fun iv s2 ⟨y,H2,I2,r2,q2⟩=>?_))
 refine aN2 (wpAny_standAt (aN2 (aZ2 (aO (hs pins s2 σ H2 x y v ov iv u _ I2 r1 r2 r q2) fun _ s3 ⟨H3,I3,q3⟩=>?_))))
 exact wpAny_release ⟨σ,H3,I3,q3⟩
noncomputable def jG (te:TE) (g:TG):TS:=fun D σ H=>te σ H fun x H1=>g x σ H1 D.nx
theorem Z2 {tg e:Expr}{te:TE}{g:TG} (he:PE X e te) (hg:PG X tg g) (hs:swapsWithSole [tg] e pos.line X.env=pure false:=by rfl) (hw:swappedStores [tg] e X.env=pure none:=by rfl)
  (h1:(assignEach [tg] X.env).map (·.2) = [assign tg X.env]:=by rfl):PS X (.Assign [tg] e pos) (jG te g):=by
 intro pins s σ H D I h
 refine wpAny_Assign_stores (aO (he pins s σ H _ I h) fun v s1 ⟨x,H1,I1,r1,q1⟩=>?_) hs hw
 rw [h1]
 exact aO (hg pins s1 σ H1 x v _ I1 r1 q1) fun _ s2 q=>q
theorem rQ {i:Nat}{x:Str}{e:Expr}{te:TE}{pos':Pos} (hN:X.N.Nodup) (hi:X.N[i]? = some x) (hx:i3 X.env.scope x) (he:PE X e te) (hs:swapsWith e (some (.Name x pos')) pos.line X.env=pure false:=by rfl) (hf:X.fn x=true ∨ X.env.scope.names.lookup x=some .local:=by first | exact .inl rfl | exact .inr rfl | assumption) :
  PS X (.Assign [.Name x pos'] e pos) (jG te (cC i)):=by
 intro pins s σ H D I h
 refine wpAny_Assign_Name (aO (he pins s σ H _ I h) fun v s1 ⟨y,H1,I1,r1,q1⟩=>?_) hs
 exact w5 I1 hN hi hx r1 (fun s2 I2=>⟨_,H1,I2,q1⟩) hf
end
section
variable {X : Cx} {pos : Pos}
noncomputable def wK (c:TT) (tb:TS):TS:=fun D σ H=>∃ W:Nat->St->Hp->Prop,(∃ m,W m σ H)/\∀ m σ H,W m σ H->
 c σ H fun b H1=>if b=true then ∃ N:St->Hp->Prop,(∀ σ' H',N σ' H'->∃ m',m' < m/\W m' σ' H')/\tb { D with nx:=N,ct:=N,bk:=D.nx } σ H1 else D.nx σ H1
theorem Z3 {c:Expr}{body:List Stmt}{tc:TT}{tb:TS} (hp:PassesOwn (model X.prog X.w) X.A X.env X.xe) (hc:PT X c tc) (hb:e6 X body tb):PS X (.While c body [] pos) (wK tc tb):=by
 intro pins s σ H D I h
 obtain ⟨W,⟨m0,w0⟩,turn⟩:=h
 refine wpAny_While (codeAny_whileLoop (fun n s'=>∃ σ' H',a6 X pins σ' H' s'/\W n σ' H') ?_ m0 ⟨σ,H,I,w0⟩)
 rintro n s1 ⟨σ1,H1,I1,w1⟩
 refine ba5 hp (aO (hc pins s1 σ1 H1 _ I1 (turn n σ1 H1 w1)) fun b s2 ⟨H2,I2,q2⟩=>?_)
 cases b with
 | true=>
  obtain ⟨N,hN,q2⟩:=q2
  rw [if_pos rfl]
  refine ba5 hp (aO (hb pins s2 σ1 H2 _ I2 q2) fun f s3 q3=>?_)
  cases f with
  | next=>
   obtain ⟨σ3,H3,I3,n3⟩:=q3
   obtain ⟨m',hm,w3⟩:=hN σ3 H3 n3
   exact⟨m',hm,σ3,H3,I3,w3⟩
  | cont=>
   obtain ⟨σ3,H3,I3,n3⟩:=q3
   obtain ⟨m',hm,w3⟩:=hN σ3 H3 n3
   exact⟨m',hm,σ3,H3,I3,w3⟩
  | brk=>exact q3
  | ret v=>exact q3
 | false=>
  rw [if_neg aP2]
  exact wpAny_execs_nil ⟨σ1,H2,I2,q2⟩
end
structure It where
 go:Nat->Hp->Prop
 yld:Nat->Hp->V->Hp->Prop
 stop:Nat->Hp->Prop
noncomputable def gC (X:Cx) (pins:List (Addr × Obj)) (H:Hp) (b:Addr):Prop:=
 H b=none/\b ≠ X.env.locals/\b ∉ X.fs/\(b ∈ X.ex ∨ X.s₀.heap.objs.size<=b)/\(∀ x c,X.env.cells.lookup x=some c->c ≠ b)/\∀ p ∈ X.pn ++ pins,p.1 ≠ b
theorem a6.fpOk {X:Cx}{pins:List (Addr × Obj)}{σ:St}{H H':Hp}{s:Shared}{b:Addr} (I:a6 X pins σ H s) (hb:s.heap.objs.size<=b) (hn:H' b=none):gC X pins H' b:=by
 refine⟨hn,aW4 (aO9 I.lt hb),I.nofs hb,.inr (aS0 I.sz hb),fun x c e z=>?_,fun p hp z=>?_⟩
 ·obtain ⟨v,q⟩:=I.cell x c e
  exact absurd (aO9 q.lt (by rw [z]; exact hb)) (aS1 _)
 ·exact absurd (aO9 (aP1 (I.pin p hp).1) (by rw [z]; exact hb)) (aS1 _)
structure iM (P:Program) (w:World) (K:PySem.W.Frag) (tg:Expr) (J:It) (fp:List Addr) (it:Addr) (tn:Nat->Heap->Prop):Prop where
 mem:it ∈ fp
 obj:∀ i h,tn i h->∀ b ∈ fp,∃ o,h.get? b=some o/\∀ v,o.data ≠ .cell v
 keep:∀ i h h',tn i h->(∀ b ∈ fp,∀ o,h.get? b=some o->h'.get? b=some o)->tn i h'
 item:∀ (X:Cx),X.prog=P->X.w=w->X.K=K->X.calm=true->∀ (i:Nat) (pins:List (Addr × Obj)) (s:Shared) (σ:St) (H:Hp) (E:Value->Shared->Prop),a6 X pins σ H s->(∀ b ∈ fp,gC X pins H b)->tn i s.heap->J.go i H->
  wpAny (model P w) X.A (pyNext (.ref it)) (fun r s1=>∃ u,r=some u/\
   wpAny (model P w) X.A (letOwnedTupleGo tg (.ref it) u) (fun _ s2=>∃ x H',a6 X pins σ H' s2/\aT x u/\J.yld i H x H'/\tn (i+1) s2.heap/\∀ b ∈ fp,H' b=none) E s1) E s
 done:∀ (X:Cx),X.prog=P->X.w=w->X.K=K->X.calm=true->∀ (i:Nat) (pins:List (Addr × Obj)) (s:Shared) (σ:St) (H:Hp) (E:Value->Shared->Prop),a6 X pins σ H s->(∀ b ∈ fp,gC X pins H b)->tn i s.heap->J.stop i H->
  wpAny (model P w) X.A (pyNext (.ref it)) (fun r s1=>r=none/\a6 X pins σ H s1) E s
 self:∀ (A:Around) (i:Nat) (s:Shared) (Q:Value->Shared->Prop) (E:Value->Shared->Prop),tn i s.heap->Q (.ref it) s->wpAny (model P w) A (pyIter (.ref it)) Q E s
noncomputable abbrev TI:=St->Hp->(It->Hp->Prop)->Prop
noncomputable def wL (X:Cx) (pins:List (Addr × Obj)) (σ:St) (tg:Expr) (R:It->Hp->Prop) (itv:Value) (s2:Shared):Prop:=
 ∃ (it:Addr) (fp:List Addr) (tn:Nat->Heap->Prop) (J:It) (H':Hp),itv = .ref it/\a6 X pins σ H' s2/\iM X.prog X.w X.K tg J fp it tn/\tn 0 s2.heap/\(∀ b ∈ fp,gC X pins H' b)/\R J H'
noncomputable def PI (X:Cx) (tg iter:Expr) (wi:TI):Prop:=
 ∀ (pins:List (Addr × Obj)) (s:Shared) (σ:St) (H:Hp) (R:It->Hp->Prop),a6 X pins σ H s->wi σ H R->
  wpAny (model X.prog X.w) X.A (eval iter X.env) (fun v s1=>wpAny (model X.prog X.w) X.A (pyIter v) (wL X pins σ tg R) X.xe s1) X.xe s
theorem o9 {M:Model}{A:Around}{E:Value->Shared->Prop}{s:Shared}{tg:Expr}{it:Addr}{u:Value}{o:Obj}{n:String}{vs:Array Value}{Q:Unit->Shared->Prop} (ho:s.heap.get? it=some o) (hc:o.cls = .type n) (hd:o.data = .fields vs)
    (hn : ["enumerate","zip","dict_itemiterator","dict_reverseitemiterator","odict_iterator","itertools.zip_longest","itertools.pairwise"].contains n=false) (hQ:Q () s):wpAny M A (letOwnedTupleGo tg (.ref it) u) Q E s:=by
  unfold letOwnedTupleGo
  cases tg <;> first
    | exact aO6 hQ
    | (cases u <;> first
        | exact aO6 hQ
        | (refine aN2 (wpAny_load ho ?_)
           rw [hc,hd]
           show wpAny M A (if (["enumerate","zip","dict_itemiterator","dict_reverseitemiterator","odict_iterator","itertools.zip_longest","itertools.pairwise"].contains n && vs[0]? == some (rawInt _))=true then _ else _) Q E s
           rw [if_neg (by intro h; rw [hn,aZ8] at h; cases h)]
           exact aO6 hQ))
noncomputable def l5 (K:PySem.W.Frag) (a:Addr):It:=
 ⟨fun i H=>∃ xs x,aJ K H a xs/\xs[i]? = some x,fun i H x H'=>H'=H/\∀ xs,aJ K H a xs->xs[i]? = some x,fun i H=>∃ xs,aJ K H a xs/\xs.length<=i⟩
noncomputable def jH (K:PySem.W.Frag) (a:Addr):It:=
 ⟨fun i H=>∃ xs x,aM K H a xs/\xs[i]? = some x,fun i H x H'=>H'=H/\∀ xs,aM K H a xs->xs[i]? = some x,fun i H=>∃ xs,aM K H a xs/\xs.length<=i⟩
noncomputable def m8 (lo:Int) (n:Nat):It:=⟨fun i _=>i < n,fun i H x H'=>H'=H/\x = .int (lo+i),fun i _=>n<=i⟩
theorem Z4 {P:Program}{w:World}{K:PySem.W.Frag}{tg:Expr} (a it:Addr):iM P w K tg (l5 K a) [it] it (fun i h=>h.IsListIter it a i) where
 mem:=by simp
 obj:=fun i h st b hb=>by
  have e:b=it:=by simpa using hb
  subst e
  obtain ⟨o,e,c,d⟩:=st
  exact⟨o,e,fun v z=>by rw [d] at z; cases z⟩
 keep:=fun i h h' st k=>st.at fun o e=>k it (by simp) o e
 item:=by
  intro X hP hw hK hc i pins s σ H E I hf st hg
  subst hP hw hK
  obtain ⟨xs,x,hq,hx⟩:=hg
  obtain ⟨its,rv,p,hz⟩:=I.list hq
  obtain ⟨u,hu,ru⟩:=rv.get hx
  obtain ⟨f0,f1,f2,f3,f4,f5⟩:=hf it (by simp)
  refine wpAny_pyNext_list_item st p.isList (x:=u) (by simpa using hu) fun h' st' sb=>?_
  have I1:a6 X pins σ H { s with heap:=h' }:=I.turned (t':=s.toks) (fun b o hb e=>(sb.2 b hb).trans e) f0 f1 f3 f4 f5
  obtain ⟨o,e,c,d⟩:=id st'
  exact⟨u,rfl,o9 (s:={ s with heap:=h' }) e c d (by decide) ⟨x,H,I1,ru,⟨rfl,fun ys hy=>by rw [I.list_inj hy hq]; exact hx⟩,st',fun b hb=>(hf b hb).1⟩⟩
 done:=by
  intro X hP hw hK hc i pins s σ H E I hf st hg
  subst hP hw hK
  obtain ⟨xs,hq,hx⟩:=hg
  obtain ⟨its,rv,p,hz⟩:=I.list hq
  obtain ⟨f0,f1,f2,f3,f4,f5⟩:=hf it (by simp)
  have hl:=rv.length
  exact wpAny_pyNext_list_end (I.ok.hd hc) st p.isList (by simp; lia) fun h' eb=>⟨rfl,I.turned (t':=s.toks) (fun b o hb e=>eb b o hb e) f0 f1 f3 f4 f5⟩
 self:=fun _ _ _ _ _ st h=>wpAny_pyIter_listiter st h
theorem wM {P:Program}{w:World}{K:PySem.W.Frag}{tg:Expr} (a it:Addr):iM P w K tg (jH K a) [it] it (fun i h=>h.IsTupleIter it a i) where
 mem:=by simp
 obj:=fun i h st b hb=>by
  have e:b=it:=by simpa using hb
  subst e
  obtain ⟨o,e,c,d⟩:=st
  exact⟨o,e,fun v z=>by rw [d] at z; cases z⟩
 keep:=fun i h h' st k=>st.at fun o e=>k it (by simp) o e
 item:=by
  intro X hP hw hK hc i pins s σ H E I hf st hg
  subst hP hw hK
  obtain ⟨xs,x,hq,hx⟩:=hg
  obtain ⟨its,rv,p,hz⟩:=I.tuple hq
  obtain ⟨u,hu,ru⟩:=rv.get hx
  obtain ⟨f0,f1,f2,f3,f4,f5⟩:=hf it (by simp)
  refine wpAny_pyNext_tuple_item st (show s.heap.IsTuple a its.toArray from p) (x:=u) (by simpa using hu) fun h' st' sb=>?_
  have I1:a6 X pins σ H { s with heap:=h' }:=I.turned (t':=s.toks) (fun b o hb e=>(sb.2 b hb).trans e) f0 f1 f3 f4 f5
  obtain ⟨o,e,c,d⟩:=id st'
  exact⟨u,rfl,o9 (s:={ s with heap:=h' }) e c d (by decide) ⟨x,H,I1,ru,⟨rfl,fun ys hy=>by rw [I.tuple_inj hy hq]; exact hx⟩,st',fun b hb=>(hf b hb).1⟩⟩
 done:=by
  intro X hP hw hK hc i pins s σ H E I hf st hg
  subst hP hw hK
  obtain ⟨xs,hq,hx⟩:=hg
  obtain ⟨its,rv,p,hz⟩:=I.tuple hq
  obtain ⟨f0,f1,f2,f3,f4,f5⟩:=hf it (by simp)
  have hl:=rv.length
  exact wpAny_pyNext_tuple_end (I.ok.hd hc) st (show s.heap.IsTuple a its.toArray from p) (by simp; lia) fun h' eb=>⟨rfl,I.turned (t':=s.toks) (fun b o hb e=>eb b o hb e) f0 f1 f3 f4 f5⟩
 self:=fun _ _ _ _ _ st h=>wpAny_pyIter_tupleiter st h
theorem Z5 {P:Program}{w:World}{K:PySem.W.Frag}{tg:Expr} (it:Addr) (lo:Int) (n:Nat):iM P w K tg (m8 lo n) [it] it (fun i h=>IsRangeIter h it (lo+(i:Nat) * 1) ((n:Int) - (i:Nat)) 1) where
 mem:=by simp
 obj:=fun i h st b hb=>by
  have e:b=it:=by simpa using hb
  subst e
  exact⟨_,st,fun v z=>by
   have z':Data.fields _=Data.cell v:=z
   cases z'⟩
 keep:=fun i h h' st k=>k it (by simp) _ st
 item:=by
  intro X hP hw hK hc i pins s σ H E I hf st hg
  subst hP hw hK
  obtain ⟨f0,f1,f2,f3,f4,f5⟩:=hf it (by simp)
  have W:=Walks.range (prog:=X.prog) (w:=X.w) (I.ok.hd hc) it lo 1 n
  refine W.item i s _ _ hg st fun v h' tk hv st' kk=>?_
  obtain ⟨t,rfl⟩:=hv
  have I1:a6 X pins σ H { s with heap:=h',toks:=tk }:=I.turned (fun b o hb e=>kk b o (by simpa using hb) e) f0 f1 f3 f4 f5
  refine⟨_,rfl,o9 (s:={ s with heap:=h',toks:=tk }) (n:="range_iterator") st' rfl rfl (by decide) ⟨.int (lo+i),H,I1,⟨t,?_⟩,⟨rfl,rfl⟩,st',fun b hb=>(hf b hb).1⟩⟩
  rw [Int.mul_one]
 done:=by
  intro X hP hw hK hc i pins s σ H E I hf st hg
  subst hP hw hK
  obtain ⟨f0,f1,f2,f3,f4,f5⟩:=hf it (by simp)
  exact wpAny_pyNext_range_end (I.ok.hd hc) st (by have:n<=i:=hg; lia) fun h' eb=>⟨rfl,I.turned (t':=s.toks) (fun b o hb e=>eb b o hb e) f0 f1 f3 f4 f5⟩
 self:=fun _ _ _ _ _ st h=>wpAny_pyIter_rangeiter st h
section
variable {X : Cx} {tg : Expr}
noncomputable def Z6 (K:PySem.W.Frag) (tl:TE):TI:=fun σ H R=>tl σ H fun x H1=>∃ a,x = .ref a/\(∃ xs,aM K H1 a xs)/\R (jH K a) H1
theorem oA {l:Expr}{tl:TE} (hl:PE X l tl):PI X tg l (Z6 X.K tl):=by
 intro pins s σ H R I h
 refine aO (hl pins s σ H _ I h) fun v s1 ⟨x,H1,I1,r1,q1⟩=>?_
 obtain ⟨a,e,⟨xs,hq⟩,q⟩:=q1
 subst e
 cases r1
 obtain ⟨its,rv,p,hz⟩:=I1.tuple hq
 refine wpAny_pyIter_tuple (show s1.heap.IsTuple a its.toArray from p) ?_
 refine⟨s1.heap.objs.size,[s1.heap.objs.size],_,_,H1,rfl,I1.kept (t':=s1.toks) fun b o e=>aN4 _ e,wM a _,⟨_,aP5 _ rfl,rfl,rfl⟩,fun b hb=>?_,q⟩
 have e:b=s1.heap.objs.size:=by simpa using hb
 subst e
 exact I1.fpOk (aO0 _) (I1.hok.fresh (aO0 _))
theorem wN {pins:List (Addr × Obj)}{σ:St}{H:Hp}{s:Shared}{R:It->Hp->Prop}{E:Value->Shared->Prop}{lo hi:Int}{t u v:Tok}{tk:Nat} (I:a6 X pins σ H s) (h1 : -(2 ^ 62)<=lo) (h2:lo < 2 ^ 62) (h3 : -(2 ^ 62)<=hi) (h4:hi < 2 ^ 62)
  (q:R (m8 lo (hi - lo).toNat) H):wpAny (model X.prog X.w) X.A (pyIter (.ref s.heap.objs.size)) (wL X pins σ tg R) E { s with heap:=s.heap.push { cls:=.type "range",data:=.fields #[.int lo t,.int hi u,.int 1 v] },toks:=tk }:=by
 refine wpAny_pyIter_range (IsRange.new ..) (small_one h1 h2 h3 h4) ?_
 have I1:a6 X pins σ H { s with heap:=s.heap.push { cls:=.type "range",data:=.fields #[.int lo t,.int hi u,.int 1 v] },toks:=tk }:=I.kept fun b o e=>aN4 _ e
 refine⟨(s.heap.push { cls:=.type "range",data:=.fields #[.int lo t,.int hi u,.int 1 v] }).objs.size,[(s.heap.push { cls:=.type "range",data:=.fields #[.int lo t,.int hi u,.int 1 v] }).objs.size],_,_,H,rfl,
  I1.kept (t':=tk) fun b o e=>aN4 _ e,Z5 _ lo (hi - lo).toNat,?_,fun b hb=>?_,q⟩
 ·have e1:lo+((0:Nat):Int) * 1=lo:=by simp
  have e2:(((hi - lo).toNat:Nat):Int) - ((0:Nat):Int)=Builtin.Range.rangeSize lo hi 1:=by rw [rangeSize_one]; split <;> lia
  show IsRangeIter _ _ (lo+((0:Nat):Int) * 1) ((((hi - lo).toNat:Nat):Int) - ((0:Nat):Int)) 1
  rw [e1,e2]
  exact aP5 _ rfl
 ·have e:b=(s.heap.push { cls:=.type "range",data:=.fields #[.int lo t,.int hi u,.int 1 v] }).objs.size:=by simpa using hb
  subst e
  exact I1.fpOk (aO0 _) (I1.hok.fresh (aO0 _))
noncomputable def wO (ta:TA):TI:=fun σ H R=>ta σ H fun vs H1=>∃ j:Int,vs = [.int j]/\-(2 ^ 62)<=j/\j < 2 ^ 62/\R (m8 0 j.toNat) H1
noncomputable def wP (ta:TA):TI:=fun σ H R=>ta σ H fun vs H1=>∃ i j:Int,vs = [.int i,.int j]/\(-(2 ^ 62)<=i/\i < 2 ^ 62/\-(2 ^ 62)<=j/\j < 2 ^ 62)/\R (m8 i (j - i).toNat) H1
theorem Z7 {a:Expr}{ta:TA}{p pos:Pos} (hg:Gl X "range") (hm:X.mg "range" = none) (ha:PA X [a] ta) (hs:starEach [a] X.env = [(false,eval a X.env)]:=by rfl):PI X tg (.Call (.Name "range" p) [a] [] pos) (wO ta):=by
 intro pins s σ H R I h
 refine Call_ (iL I hg hm boot_range (aT4 (aO (ha pos pins s σ H _ I h) fun us s1 ⟨vs,H1,I1,r1,q1⟩=>?_) hs rfl))
 obtain ⟨j,e,q1,q2,q⟩:=q1
 subst e
 cases r1 with
 | cons r rr=>
  cases rr
  obtain ⟨t,rfl⟩:=r
  exact call_range_1 (wN I1 (by lia) (by lia) q1 q2 (by simpa using q))
theorem Z8 {a b:Expr}{ta:TA}{p pos:Pos} (hg:Gl X "range") (hm:X.mg "range" = none) (ha:PA X [a,b] ta) (hs:starEach [a,b] X.env = [(false,eval a X.env),(false,eval b X.env)]:=by rfl) (hs2:starEach [b] X.env = [(false,eval b X.env)]:=by rfl) :
  PI X tg (.Call (.Name "range" p) [a,b] [] pos) (wP ta):=by
 intro pins s σ H R I h
 refine Call_ (iL I hg hm boot_range (aT4 (aO (ha pos pins s σ H _ I h) fun us s1 ⟨vs,H1,I1,r1,q1⟩=>?_) (by rw [hs,hs2]) (by rw [hs2]; rfl)))
 obtain ⟨i,j,e,⟨q1,q2,q3,q4⟩,q⟩:=q1
 subst e
 cases r1 with
 | cons r rr=>
  cases rr with
  | cons r' rr=>
   cases rr
   obtain ⟨t,rfl⟩:=r
   obtain ⟨t',rfl⟩:=r'
   exact call_range_2 (wN I1 q1 q2 q3 q4 q)
noncomputable def wQ (wi:TI) (g:TG) (tb:TS):TS:=fun D σ H=>wi σ H fun J H1=>∃ W:Nat->Nat->St->Hp->Prop,(∃ m,W 0 m σ H1)/\∀ i m σ H,W i m σ H->
 (J.stop i H/\D.nx σ H) ∨ (J.go i H/\∃ N:St->Hp->Prop,(∀ σ' H',N σ' H'->∃ m',m' < m/\W (i+1) m' σ' H')/\∀ x H',J.yld i H x H'->g x σ H' fun σ2 H2=>tb { D with nx:=N,ct:=N,bk:=D.nx } σ2 H2)
noncomputable def m9 (fp:List Addr) (h:Heap):List (Addr × Obj):=fp.filterMap fun b=>(h.get? b).map fun o=>(b,o)
theorem oB {fp:List Addr}{h:Heap}{b:Addr}{o:Obj} (hb:b ∈ fp) (e:h.get? b=some o):(b,o) ∈ m9 fp h:=aZ6.mpr ⟨b,hb,by rw [e]; rfl⟩
theorem Z9 {fp:List Addr}{h:Heap}{p:Addr × Obj} (hp:p ∈ m9 fp h):p.1 ∈ fp/\h.get? p.1=some p.2:=by
 obtain ⟨b,hb,e⟩:=aZ6.mp hp
 cases q:h.get? b with
 | none=>rw [q] at e; cases e
 | some o=>
  rw [q] at e
  have e':(b,o)=p:=aQ5 e
  subst e'
  exact⟨hb,q⟩
theorem a6.pinned {pins:List (Addr × Obj)}{σ:St}{H:Hp}{s:Shared}{fp:List Addr} (I:a6 X pins σ H s) (hf:∀ b ∈ fp,gC X pins H b) (ho:∀ b ∈ fp,∃ o,s.heap.get? b=some o/\∀ v,o.data ≠ .cell v):a6 X (pins ++ m9 fp s.heap) σ H s:=
 I.pins_of fun p hp=>(aO4.mp hp).elim (fun z=>I.pin p (aQ4 _ z)) fun z=>by
  obtain ⟨hb,e⟩:=Z9 z
  obtain ⟨f0,f1,f2,_⟩:=hf p.1 hb
  obtain ⟨o,e',d⟩:=ho p.1 hb
  rw [e] at e'; cases e'
  exact⟨e,f0,f1,f2,d⟩
theorem a6.unpinned {pins pl:List (Addr × Obj)}{σ:St}{H:Hp}{s:Shared} (I:a6 X (pins ++ pl) σ H s):a6 X pins σ H s:=I.pins_of fun p hp=>I.pin p (aQ4 _ (aQ9 _ hp))
theorem rR {iter:Expr}{body:List Stmt}{wi:TI}{g:TG}{tb:TS}{pos:Pos} (hp:PassesOwn (model X.prog X.w) X.A X.env X.xe) (hc:X.calm=true) (hi:PI X tg iter wi) (hg:PG X tg g) (hb:e6 X body tb)
  (hs:∀ x,foldedSetIterable iter X.env x=pure x:=by intro _; rfl):PS X (.For tg iter body [] pos) (wQ wi g tb):=by
 intro pins s σ H D I h
 refine wpAny_For (aO (hi pins s σ H _ I h) fun v s1 h1=>aO h1 fun itv s2 h2=>?_) hs
 obtain ⟨it,fp,tn,J,H2,e,I2,T,st2,f2,W,⟨m0,w0⟩,turn⟩:=h2
 subst e
 have stat:∀ {H':Hp},(∀ b ∈ fp,H' b=none)->∀ b ∈ fp,gC X pins H' b:=fun hn b hb=>⟨hn b hb,(f2 b hb).2⟩
 refine codeAny_forLoop_any (fun n s'=>∃ i σ' H',a6 X pins σ' H' s'/\tn i s'.heap/\(∀ b ∈ fp,H' b=none)/\W i n σ' H') ?_ m0 ⟨0,σ,H2,I2,st2,fun b hb=>(f2 b hb).1,w0⟩
 rintro n s3 ⟨i,σ3,H3,I3,st3,fr3,w3⟩
 rcases turn i n σ3 H3 w3 with ⟨stop,qn⟩ | ⟨go,N,hN,step⟩
 ·refine ba5 hp (aO (T.done X rfl rfl rfl hc i pins s3 σ3 H3 X.xe I3 (stat fr3) st3 stop) fun r s4 ⟨hr,I4⟩=>?_)
  subst hr
  exact wpAny_execs_nil ⟨σ3,H3,I4,qn⟩
 ·refine ba5 hp (aO (T.item X rfl rfl rfl hc i pins s3 σ3 H3 X.xe I3 (stat fr3) st3 go) fun r s4 ⟨u,hr,h4⟩=>?_)
  subst hr
  refine ba5 hp (aO h4 fun _ s5 ⟨x,H5,I5,r5,y5,st5,fr5⟩=>?_)
  have I5':=I5.pinned (stat fr5) (T.obj _ _ st5)
  refine ba5 hp (aO (hg _ s5 σ3 H5 x u _ I5' r5 (step x H5 y5)) fun _ s6 ⟨σ6,H6,I6,q6⟩=>?_)
  refine ba5 hp (aO (hb _ s6 σ6 H6 _ I6 q6) fun f s7 q7=>?_)
  have again:∀ {σ7:St}{H7:Hp},a6 X (pins ++ m9 fp s5.heap) σ7 H7 s7->N σ7 H7->∃ m,m < n/\∃ i σ' H',a6 X pins σ' H' s7/\tn i s7.heap/\(∀ b ∈ fp,H' b=none)/\W i m σ' H':=fun {σ7 H7} I7 n7=>by
   obtain ⟨m',hm,w7⟩:=hN σ7 H7 n7
   refine⟨m',hm,i+1,σ7,H7,I7.unpinned,T.keep _ _ _ st5 fun b hb o e=>(I7.pin (b,o) (aQ4 _ (aQ4 _ (oB hb e)))).1,fun b hb=>?_,w7⟩
   obtain ⟨o,e,d⟩:=T.obj _ _ st5 b hb
   exact (I7.pin (b,o) (aQ4 _ (aQ4 _ (oB hb e)))).2.1
  cases f with
  | next=>obtain ⟨σ7,H7,I7,n7⟩:=q7; exact again I7 n7
  | cont=>obtain ⟨σ7,H7,I7,n7⟩:=q7; exact again I7 n7
  | brk=>obtain ⟨σ7,H7,I7,q7⟩:=q7; exact⟨σ7,H7,I7.unpinned,q7⟩
  | ret v=>obtain ⟨x7,σ7,H7,I7,r7,q7⟩:=q7; exact⟨x7,σ7,H7,I7.unpinned,r7,q7⟩
end
theorem aM7 {K:PySem.W.Frag}{a:Addr}{xs:List V}{g:TG}{tb:TS}{D:dZ}{σ:St}{H:Hp} (Pv:Nat->St->Hp->Prop) (h0:Pv 0 σ H) (hl:∀ i σ H,i<=xs.length->Pv i σ H->aJ K H a xs)
  (hs:∀ i x σ H,xs[i]? = some x->Pv i σ H->g x σ H fun σ2 H2=>tb { D with nx:=Pv (i+1),ct:=Pv (i+1),bk:=D.nx } σ2 H2) (hd:∀ σ H,Pv xs.length σ H->D.nx σ H) :
  ∃ W:Nat->Nat->St->Hp->Prop,(∃ m,W 0 m σ H)/\∀ i m σ H,W i m σ H->
   ((l5 K a).stop i H/\D.nx σ H) ∨ ((l5 K a).go i H/\∃ N:St->Hp->Prop,(∀ σ' H',N σ' H'->∃ m',m' < m/\W (i+1) m' σ' H')/\∀ x H',(l5 K a).yld i H x H'->g x σ H' fun σ2 H2=>tb { D with nx:=N,ct:=N,bk:=D.nx } σ2 H2):=by
 refine⟨fun i m σ H=>m=xs.length - i/\i<=xs.length/\Pv i σ H,⟨xs.length,by simp,aS3 _,h0⟩,?_⟩
 rintro i m σ H ⟨rfl,hi,p⟩
 have q:=hl i σ H hi p
 by_cases hlt:i < xs.length
 ·refine .inr ⟨⟨xs,xs[i],q,by simp [hlt]⟩,Pv (i+1),fun σ' H' p'=>⟨xs.length - (i+1),by lia,rfl,hlt,p'⟩,fun x H' y=>?_⟩
  obtain ⟨e,y⟩:=y
  subst e
  exact hs i x σ _ (y xs q) p
 ·have e:i=xs.length:=by lia
  subst e
  exact .inl ⟨⟨xs,q,aO0 _⟩,hd σ H p⟩
theorem wR {K:PySem.W.Frag}{a:Addr}{xs:List V}{g:TG}{tb:TS}{D:dZ}{σ:St}{H:Hp} (Pv:Nat->St->Hp->Prop) (h0:Pv 0 σ H) (hl:∀ i σ H,i<=xs.length->Pv i σ H->aM K H a xs)
  (hs:∀ i x σ H,xs[i]? = some x->Pv i σ H->g x σ H fun σ2 H2=>tb { D with nx:=Pv (i+1),ct:=Pv (i+1),bk:=D.nx } σ2 H2) (hd:∀ σ H,Pv xs.length σ H->D.nx σ H) :
  ∃ W:Nat->Nat->St->Hp->Prop,(∃ m,W 0 m σ H)/\∀ i m σ H,W i m σ H->
   ((jH K a).stop i H/\D.nx σ H) ∨ ((jH K a).go i H/\∃ N:St->Hp->Prop,(∀ σ' H',N σ' H'->∃ m',m' < m/\W (i+1) m' σ' H')/\∀ x H',(jH K a).yld i H x H'->g x σ H' fun σ2 H2=>tb { D with nx:=N,ct:=N,bk:=D.nx } σ2 H2):=by
 refine⟨fun i m σ H=>m=xs.length - i/\i<=xs.length/\Pv i σ H,⟨xs.length,by simp,aS3 _,h0⟩,?_⟩
 rintro i m σ H ⟨rfl,hi,p⟩
 have q:=hl i σ H hi p
 by_cases hlt:i < xs.length
 ·refine .inr ⟨⟨xs,xs[i],q,by simp [hlt]⟩,Pv (i+1),fun σ' H' p'=>⟨xs.length - (i+1),by lia,rfl,hlt,p'⟩,fun x H' y=>?_⟩
  obtain ⟨e,y⟩:=y
  subst e
  exact hs i x σ _ (y xs q) p
 ·have e:i=xs.length:=by lia
  subst e
  exact .inl ⟨⟨xs,q,aO0 _⟩,hd σ H p⟩
noncomputable abbrev R2:=V->V->Hp->VK->Prop
noncomputable def cE (X:Cx) (f:Value->Value->Sem Value) (r:R2):Prop:=
 ∀ (pins:List (Addr × Obj)) (s:Shared) (σ:St) (H:Hp) (x y:V) (v u:Value) (Q:VK),a6 X pins σ H s->aT x v->aT y u->r x y H Q->
  wpAny (model X.prog X.w) X.A (f v u) (EP X pins σ Q) X.xe s
noncomputable def cK (X:Cx) (f:Value) (r:List V->Hp->VK->Prop):Prop:=
 ∀ (pins:List (Addr × Obj)) (s:Shared) (σ:St) (H:Hp) (xs:List V) (us:List Value) (Q:VK),a6 X pins σ H s->aK xs us->r xs H Q->
  wpAny (model X.prog X.w) X.A (call f us) (EP X pins σ Q) X.xe s
noncomputable def aa0 (X:Cx) (r:V->Hp->(Bool->Hp->Prop)->Prop):Prop:=
 ∀ (pins:List (Addr × Obj)) (s:Shared) (σ:St) (H:Hp) (x:V) (v:Value) (Q:Bool->Hp->Prop),a6 X pins σ H s->aT x v->r x H Q->
  wpAny (model X.prog X.w) X.A (truthy v) (TP X pins σ Q) X.xe s
noncomputable def mB (r:R2) (ta tb:TE):TE:=fun σ H Q=>ta σ H fun x H1=>tb σ H1 fun y H2=>r x y H2 Q
noncomputable def rI (C:Int->Int->Prop) (g:Int->Int->V):R2:=fun x y H Q=>∃ i j,x = .int i/\y = .int j/\C i j/\Q (g i j) H
noncomputable def i5 (g:Int->Int->V):R2:=fun x y H Q=>∃ i j,x = .int i/\y = .int j/\Q (g i j) H
section
variable {X : Cx} {a b c : Expr} {ta tb tc : TE} {pos : Pos}
theorem rS (ha:PE X a ta) (hb:PE X b tb) {pins:List (Addr × Obj)}{s:Shared}{σ:St}{H:Hp}{R:V->V->Hp->Prop} (I:a6 X pins σ H s)
  (h:ta σ H fun x H1=>tb σ H1 fun y H2=>R x y H2) {Q:Value->Shared->Prop}{f:Value->Value->Sem Value}
  (hf:∀ v u s2 x y H2,a6 X pins σ H2 s2->aT x v->aT y u->R x y H2->wpAny (model X.prog X.w) X.A (f v u) Q X.xe s2) :
  wpAny (model X.prog X.w) X.A (eval a X.env) (fun v s₁=>wpAny (model X.prog X.w) X.A (eval b X.env) (fun u s₂=>wpAny (model X.prog X.w) X.A (f v u) Q X.xe s₂) X.xe s₁) X.xe s:=by
 refine aO (ha pins s σ H _ I h) fun v s1 ⟨x,H1,I1,r1,q1⟩=>?_
 refine aO (hb pins s1 σ H1 _ I1 q1) fun u s2 ⟨y,H2,I2,r2,q2⟩=>?_
 exact hf v u s2 x y H2 I2 r1 r2 q2
theorem aa1 {op:Operator}{r:R2} (ho:cE X (binaryOp op) r) (ha:PE X a ta) (hb:PE X b tb):PE X (.BinOp a op b pos) (mB r ta tb):=by
 intro pins s σ H Q I h
 exact wpAny_BinOp (rS ha hb I h fun v u s2 x y H2 I2 rx ry q=>ho pins s2 σ H2 x y v u Q I2 rx ry q)
theorem oC {f:Value->Value->Sem Value}{C:Int->Int->Prop}{g:Int->Int->Int}
  (rule:∀ (i j:Int) (t u:Tok) (s:Shared) (Q:Value->Shared->Prop) (E:Value->Shared->Prop),C i j->Q (.int (g i j) s.toks) { s with toks:=s.toks+1 }->wpAny (model X.prog X.w) X.A (f (.int i t) (.int j u)) Q E s) :
  cE X f (rI C fun i j=>.int (g i j)):=by
 intro pins s σ H x y v u Q I rx ry h
 obtain ⟨i,j,rfl,rfl,hc,q⟩:=h
 obtain ⟨t,rfl⟩:=rx
 obtain ⟨t',rfl⟩:=ry
 exact rule i j t t' s _ _ hc ⟨.int (g i j),H,I.tok _,⟨_,rfl⟩,q⟩
theorem wS {f:Value->Value->Sem Value}{g:Int->Int->Int}
  (rule:∀ (i j:Int) (t u:Tok) (s:Shared) (Q:Value->Shared->Prop) (E:Value->Shared->Prop),Q (.int (g i j) s.toks) { s with toks:=s.toks+1 }->wpAny (model X.prog X.w) X.A (f (.int i t) (.int j u)) Q E s) :
  cE X f (i5 fun i j=>.int (g i j)):=by
 intro pins s σ H x y v u Q I rx ry h
 obtain ⟨i,j,rfl,rfl,q⟩:=h
 obtain ⟨t,rfl⟩:=rx
 obtain ⟨t',rfl⟩:=ry
 exact rule i j t t' s _ _ ⟨.int (g i j),H,I.tok _,⟨_,rfl⟩,q⟩
theorem oD {f:Value->Value->Sem Value}{g:Int->Int->Bool}
  (rule:∀ (i j:Int) (t u:Tok) (s:Shared) (Q:Value->Shared->Prop) (E:Value->Shared->Prop),Q (.bool (g i j)) s->wpAny (model X.prog X.w) X.A (f (.int i t) (.int j u)) Q E s) :
  cE X f (i5 fun i j=>.bl (g i j)):=by
 intro pins s σ H x y v u Q I rx ry h
 obtain ⟨i,j,rfl,rfl,q⟩:=h
 obtain ⟨t,rfl⟩:=rx
 obtain ⟨t',rfl⟩:=ry
 exact rule i j t t' s _ _ ⟨.bl (g i j),H,I,rfl,q⟩
noncomputable def rT (i j:Int):Prop:=0 < j/\j < 1073741824
noncomputable def rU (i j:Int):Prop:=0<=j/\j<=1000000/\i.natAbs < 2 ^ 64
noncomputable def mC (i j:Int):Prop:=(-(2 ^ 64) < i/\i < 2 ^ 64) ∨ (-(2 ^ 64) < j/\j < 2 ^ 64)
theorem mC.ok {i j:Int} (h:mC i j):IntMulOk i j:=by
 rcases h with ⟨h1,h2⟩ | ⟨h1,h2⟩
 ·exact .of_left (intBits_le_64 h1 h2)
 ·exact .of_right (intBits_le_64 h1 h2)
theorem aa2:cE X (binaryOp .Add) (i5 fun i j=>.int (i+j)):=wS fun _ _ _ _ _ _ _ q=>add_int q
theorem aa3:cE X (binaryOp .Sub) (i5 fun i j=>.int (i - j)):=wS fun _ _ _ _ _ _ _ q=>sub_int q
theorem aa4:cE X (binaryOp .Mult) (rI mC fun i j=>.int (i * j)):=oC fun _ _ _ _ _ _ _ hc q=>mul_int q hc.ok
theorem aa5:cE X (binaryOp .FloorDiv) (rI rT fun i j=>.int (i / j)):=oC fun i j _ _ _ _ _ hc q=>by
 have h1:(0:Int) < j:=hc.1
 have h2:j < 1073741824:=hc.2
 exact floordiv_int (by lia) (by rw [Int.fdiv_eq_ediv_of_nonneg i (by lia)]; exact q) (.inl (PyProof.noPylong_small (by lia)))
theorem aa6:cE X (binaryOp .Mod) (rI (fun _ j=>0 < j) fun i j=>.int (i % j)):=oC fun i j _ _ _ _ _ hc q=>by
 have h1:(0:Int) < j:=hc
 exact mod_int' (by lia) (by rw [Int.fmod_eq_emod_of_nonneg i (by lia)]; exact q)
theorem aa7:cE X (binaryOp .Pow) (rI rU fun i j=>.int (i ^ j.toNat)):=oC fun _ _ _ _ _ _ _ hc q=>pow_int_small hc.1 hc.2.1 hc.2.2 q
end
noncomputable def wT:V->V->Bool
 | .non,.non=>true | .non,.int _=>true | .int _,.non=>true | .non,.bl _=>true | .bl _,.non=>true | .non,.str _=>true | .str _,.non=>true
 | .int _,.int _=>true | .bl _,.bl _=>true | .str _,.str _=>true | .byt _,.byt _=>true
 | .int _,.str _=>true | .str _,.int _=>true | .bl _,.str _=>true | .str _,.bl _=>true
 | _,_=>false
noncomputable def rV:R2:=fun x y H Q=>wT x y=true/\Q (.bl (decide (x=y))) H
noncomputable def rW:R2:=fun x y H Q=>wT x y=true/\Q (.bl (!decide (x=y))) H
theorem wU {i j:Int}:decide (V.int i=V.int j)=(i == j):=by
 rw [aV2]
 simp
theorem wV {i j:Bool}:decide (V.bl i=V.bl j)=(i == j):=by
 rw [aV2]
 simp
theorem wW {i j:Str}:decide (V.str i=V.str j)=(i == j):=by
 rw [aV2]
 simp
theorem wX {i j:Array UInt8}:decide (V.byt i=V.byt j)=(i.toList == j.toList):=by
 rw [aV2]
 cases i
 cases j
 simp
section
variable {X : Cx} {a b c : Expr} {ta tb tc : TE} {pos : Pos}
theorem bQ {pins:List (Addr × Obj)}{σ:St}{H:Hp}{s:Shared}{Q:VK}{k k':Bool} (I:a6 X pins σ H s) (q:Q (.bl k) H) (e:k=k'):EP X pins σ Q (.bool k') s:=by
 subst e
 exact⟨.bl k,H,I,rfl,q⟩
theorem rX:cE X (compareOp .Eq) rV:=by
 intro pins s σ H x y v u Q I rx ry h
 obtain ⟨hs,q⟩:=h
 cases x with
 | non=>
  cases rx
  cases y with
  | non=>cases ry; exact PySem.EqNone.eq_none_none (bQ I q (by simp))
  | bl j=>cases ry; exact PySem.EqNone.eq_none_bool (bQ I q (by simp))
  | int j=>obtain ⟨t',rfl⟩:=ry; exact PySem.EqNone.eq_none_int (bQ I q (by simp))
  | str j=>obtain ⟨t',rfl⟩:=ry; exact PySem.EqNone.eq_none_str (bQ I q (by simp))
  | _=>exact absurd (show false=true from hs) aP2
 | bl i=>
  cases rx
  cases y with
  | non=>cases ry; exact PySem.EqNone.eq_bool_none (bQ I q (by simp))
  | bl j=>cases ry; exact eq_bool (bQ I q wV)
  | str j=>obtain ⟨t',rfl⟩:=ry; exact PySem.EqMixed.eq_bool_str (bQ I q (by simp))
  | _=>exact absurd (show false=true from hs) aP2
 | int i=>
  obtain ⟨t,rfl⟩:=rx
  cases y with
  | non=>cases ry; exact PySem.EqNone.eq_int_none (bQ I q (by simp))
  | int j=>obtain ⟨t',rfl⟩:=ry; exact eq_int (bQ I q wU)
  | str j=>obtain ⟨t',rfl⟩:=ry; exact PySem.EqMixed.eq_int_str (bQ I q (by simp))
  | _=>exact absurd (show false=true from hs) aP2
 | str i=>
  obtain ⟨t,rfl⟩:=rx
  cases y with
  | non=>cases ry; exact PySem.EqNone.eq_str_none (bQ I q (by simp))
  | bl j=>cases ry; exact PySem.EqMixed.eq_str_bool (bQ I q (by simp))
  | int j=>obtain ⟨t',rfl⟩:=ry; exact PySem.EqMixed.eq_str_int (bQ I q (by simp))
  | str j=>obtain ⟨t',rfl⟩:=ry; exact eq_str (bQ I q wW)
  | _=>exact absurd (show false=true from hs) aP2
 | byt i=>
  obtain ⟨t,rfl⟩:=rx
  cases y with
  | byt j=>obtain ⟨t',rfl⟩:=ry; exact PySem.W.eq_bytes (bQ I q wX)
  | _=>exact absurd (show false=true from hs) aP2
 | _=>cases y <;> exact absurd (show false=true from hs) aP2
theorem wY:cE X (compareOp .NotEq) rW:=by
 intro pins s σ H x y v u Q I rx ry h
 obtain ⟨hs,q⟩:=h
 cases x with
 | non=>
  cases rx
  cases y with
  | non=>cases ry; exact PySem.EqNone.ne_none_none (bQ I q (by simp))
  | bl j=>cases ry; exact PySem.EqNone.ne_none_bool (bQ I q (by simp))
  | int j=>obtain ⟨t',rfl⟩:=ry; exact PySem.EqNone.ne_none_int (bQ I q (by simp))
  | str j=>obtain ⟨t',rfl⟩:=ry; exact PySem.EqNone.ne_none_str (bQ I q (by simp))
  | _=>exact absurd (show false=true from hs) aP2
 | bl i=>
  cases rx
  cases y with
  | non=>cases ry; exact PySem.EqNone.ne_bool_none (bQ I q (by simp))
  | bl j=>cases ry; exact ne_bool (bQ I q (congrArg not wV))
  | str j=>obtain ⟨t',rfl⟩:=ry; exact PySem.EqMixed.ne_bool_str (bQ I q (by simp))
  | _=>exact absurd (show false=true from hs) aP2
 | int i=>
  obtain ⟨t,rfl⟩:=rx
  cases y with
  | non=>cases ry; exact PySem.EqNone.ne_int_none (bQ I q (by simp))
  | int j=>obtain ⟨t',rfl⟩:=ry; exact ne_int (bQ I q (congrArg not wU))
  | str j=>obtain ⟨t',rfl⟩:=ry; exact PySem.EqMixed.ne_int_str (bQ I q (by simp))
  | _=>exact absurd (show false=true from hs) aP2
 | str i=>
  obtain ⟨t,rfl⟩:=rx
  cases y with
  | non=>cases ry; exact PySem.EqNone.ne_str_none (bQ I q (by simp))
  | bl j=>cases ry; exact PySem.EqMixed.ne_str_bool (bQ I q (by simp))
  | int j=>obtain ⟨t',rfl⟩:=ry; exact PySem.EqMixed.ne_str_int (bQ I q (by simp))
  | str j=>obtain ⟨t',rfl⟩:=ry; exact ne_str (bQ I q (congrArg not wW))
  | _=>exact absurd (show false=true from hs) aP2
 | byt i=>
  obtain ⟨t,rfl⟩:=rx
  cases y with
  | byt j=>obtain ⟨t',rfl⟩:=ry; exact PySem.W.ne_bytes (bQ I q (congrArg not wX))
  | _=>exact absurd (show false=true from hs) aP2
 | _=>cases y <;> exact absurd (show false=true from hs) aP2
theorem oE:cE X (compareOp .Lt) (i5 fun i j=>.bl (decide (i < j))):=oD fun _ _ _ _ _ _ _ q=>lt_int q
theorem aa8:cE X (compareOp .LtE) (i5 fun i j=>.bl (decide (i<=j))):=oD fun _ _ _ _ _ _ _ q=>le_int q
theorem aa9:cE X (compareOp .Gt) (i5 fun i j=>.bl (decide (j < i))):=oD fun _ _ _ _ _ _ _ q=>gt_int q
theorem wZ:cE X (compareOp .GtE) (i5 fun i j=>.bl (decide (j<=i))):=oD fun _ _ _ _ _ _ _ q=>ge_int q
theorem fH (b:Expr) {op:CmpOp} (h:op ≠ .In:=by decide) (h2:op ≠ .NotIn:=by decide):behindInMarks op b=false:=by
 have e1:(op == CmpOp.In)=false:=by cases op <;> first | rfl | exact absurd rfl h
 have e2:(op == CmpOp.NotIn)=false:=by cases op <;> first | rfl | exact absurd rfl h2
 cases b <;> simp [behindInMarks,e1,e2]
theorem rY {op:CmpOp}{r:R2} (ho:cE X (compareOp op) r) (ha:PE X a ta) (hb:PE X b tb) (hm:behindInMarks op b=false):PE X (.Compare a [op] [b] pos) (mB r ta tb):=by
 intro pins s σ H Q I h
 exact wpAny_Compare1 (rS ha hb I h fun v u s2 x y H2 I2 rx ry q=>ho pins s2 σ H2 x y v u Q I2 rx ry q) hm
noncomputable def ab0 (t:TE):TT:=fun σ H Q=>t σ H fun x H'=>∃ k,x = .bl k/\Q k H'
theorem ab1 {op:CmpOp}{r:R2} (ho:cE X (compareOp op) r) (ha:PE X a ta) (hb:PE X b tb) (hm:behindInMarks op b=false):PT X (.Compare a [op] [b] pos) (ab0 (mB r ta tb)):=by
 intro pins s σ H Q I h
 refine wpAny_isTrue_Compare1 (aO (ha pins s σ H _ I h) fun v s1 ⟨x,H1,I1,r1,q1⟩=>aO (hb pins s1 σ H1 _ I1 q1) fun u s2 ⟨y,H2,I2,r2,q2⟩=>
  aO (ho pins s2 σ H2 x y v u _ I2 r1 r2 q2) fun c s3 ⟨z,H3,I3,r3,k,e,q3⟩=>?_) hm
 subst e
 cases r3
 exact aX0 ⟨H3,I3,q3⟩
noncomputable def rZ (K:PySem.W.Frag) (x:V) (H:Hp) (k:Bool):Prop:=
 match x with
 | .non=>k=false
 | .bl b=>k=b
 | .int i=>k=(i != 0)
 | .str y=>y.length<=sizeLine/\k=((y.length:Int) != 0)
 | .byt y=>y.size<=sizeLine/\k=((y.size:Int) != 0)
 | .ref p=>(∃ xs,aJ K H p xs/\k = !xs.isEmpty) ∨ (∃ xs,aM K H p xs/\k = !xs.isEmpty) ∨ ∃ kvs,H p=some (.dK kvs)/\k = !kvs.isEmpty
 | _=>False
theorem ab2 {κ:Type}{kvs:List (κ × V)}{vs:List (κ × Value)} (r:KV kvs vs):(!vs.isEmpty) = !kvs.isEmpty:=by
 cases r <;> rfl
theorem x3 {xs:List V}{its:List Value} (r:aK xs its):(!its.toArray.isEmpty) = !xs.isEmpty:=by
 cases r <;> simp
theorem l6:(sizeLine:Nat) < 2 ^ 63:=by rw [sizeLine_eq]; decide
theorem ab3:aa0 X (fun x H Q=>∃ k,rZ X.K x H k/\Q k H):=by
 intro pins s σ H x v Q I rx h
 obtain ⟨k,e,q⟩:=h
 have hl:=l6
 have hs:sizeLine=16777216:=sizeLine_eq
 cases x with
 | non=>
  cases rx
  have e':k=false:=e
  subst e'
  exact truthy_none ⟨H,I,q⟩
 | bl b=>
  cases rx
  have e':k=b:=e
  subst e'
  exact aX0 ⟨H,I,q⟩
 | int i=>
  obtain ⟨t,rfl⟩:=rx
  have e':k=(i != 0):=e
  subst e'
  exact PySem.P.truthy_int ⟨H,I,q⟩
 | str y=>
  obtain ⟨t,rfl⟩:=rx
  obtain ⟨hy,e'⟩:y.length<=sizeLine/\k=((y.length:Int) != 0):=e
  subst e'
  exact PySem.P.truthy_str (by lia) ⟨H,I.tok _,q⟩
 | byt y=>
  obtain ⟨t,rfl⟩:=rx
  obtain ⟨hy,e'⟩:y.size<=sizeLine/\k=((y.size:Int) != 0):=e
  subst e'
  exact PySem.W.truthy_bytes (by lia) ⟨H,I.tok _,q⟩
 | ref p=>
  cases rx
  have e':(∃ xs,aJ X.K H p xs/\k = !xs.isEmpty) ∨ (∃ xs,aM X.K H p xs/\k = !xs.isEmpty) ∨ ∃ kvs,H p=some (.dK kvs)/\k = !kvs.isEmpty:=e
  rcases e' with ⟨xs,hx,e'⟩ | ⟨xs,hx,e'⟩ | ⟨kvs,hx,e'⟩
  ·subst e'
   obtain ⟨its,r,pl,hz⟩:=I.list hx
   have hlen:=r.length
   exact wpAny_truthy_list pl.isList (by simp only [aN3]; lia) ⟨H,I.tok _,by rw [x3 r]; exact q⟩
  ·subst e'
   obtain ⟨its,r,pl,hz⟩:=I.tuple hx
   have hlen:=r.length
   exact truthy_tuple pl (by simp only [aN3]; lia) ⟨H,I.tok _,by rw [x3 r]; exact q⟩
  ·subst e'
   obtain ⟨hz,hS,vs,r,m⟩:kvs.length<=sizeLine/\(p == sysModules)=false/\∃ vs,KV kvs vs/\s.heap.DictOf (eB X.prog X.w) p vs:=I.hok p _ hx
   have hlen:kvs.length=vs.length:=Paired.length r
   exact wpAny_truthy_dict hS m (by lia) ⟨H,I.tok _,by rw [ab2 r]; exact q⟩
 | _=>exact (show False from e).elim
theorem ab4 (ha:PE X a ta) (he:∀ whole,isTrue a X.env whole=(do let v <- whole; standAt a.pos; holding [v] (truthy v))) :
  PT X a (fun σ H Q=>ta σ H fun x H'=>∃ k,rZ X.K x H' k/\Q k H'):=by
 intro pins s σ H Q I h
 exact isTrue_plain (aO (ha pins s σ H _ I h) fun v s1 ⟨x,H1,I1,r1,q1⟩=>ab3 pins s1 σ H1 x v Q I1 r1 q1) (he _)
theorem gM {x:V}{us:List Value} (r:aK [x] us):∃ u,us = [u]/\aT x u:=by
 cases r with
 | cons r1 r2=>cases r2; exact⟨_,rfl,r1⟩
theorem oF {x y:V}{us:List Value} (r:aK [x,y] us):∃ u w',us = [u,w']/\aT x u/\aT y w':=by
 cases r with
 | cons r1 r2=>
  cases r2 with
  | cons r3 r4=>cases r4; exact⟨_,_,rfl,r1,r3⟩
theorem ab5 (hc:X.calm=true):cK X (.builtin "max") (fun xs H Q=>∃ i j,xs = [.int i,.int j]/\Q (.int (if j > i then j else i)) H):=by
 intro pins s σ H xs us Q I r h
 obtain ⟨i,j,rfl,q⟩:=h
 obtain ⟨u,w',rfl,⟨t,rfl⟩,⟨t',rfl⟩⟩:=oF r
 refine max_two_ints (I.ok.hd hc) fun h' tk k=>⟨_,H,I.kept k,?_,q⟩
 by_cases hj:j > i
 ·rw [if_pos hj,if_pos hj]; exact⟨_,rfl⟩
 ·rw [if_neg hj,if_neg hj]; exact⟨_,rfl⟩
theorem ab6 (hc:X.calm=true):cK X (.builtin "min") (fun xs H Q=>∃ i j,xs = [.int i,.int j]/\Q (.int (if j < i then j else i)) H):=by
 intro pins s σ H xs us Q I r h
 obtain ⟨i,j,rfl,q⟩:=h
 obtain ⟨u,w',rfl,⟨t,rfl⟩,⟨t',rfl⟩⟩:=oF r
 refine min_two_ints (I.ok.hd hc) fun h' tk k=>⟨_,H,I.kept k,?_,q⟩
 by_cases hj:j < i
 ·rw [if_pos hj,if_pos hj]; exact⟨_,rfl⟩
 ·rw [if_neg hj,if_neg hj]; exact⟨_,rfl⟩
end
structure sA (h:Heap) (x dx C:Addr) (mA:Str->Option Value):Prop where
 obj:h.get? x=some (PySem.W.instObj C dx)
 ns:h.Ns1 dx mA
 ne:dx ≠ x
theorem ab7 {h:Heap}{dx:Addr}{mA:Str->Option Value} (n:h.Ns1 dx mA):∃ od,h.get? dx=some od/\∀ name,PySem.W.lookIn name od=some (mA name):=by
 obtain ⟨o,es,ep,ho,hd,hk,_,hm⟩:=n
 refine⟨o,ho,fun name=>?_⟩
 have e:=hm name
 unfold nsFind findBy at e
 rw [<- Array.find?_toList] at e
 unfold PySem.W.lookIn
 rw [hd]
 dsimp only
 split
 ·rename_i y q
  rw [q] at e
  exact congrArg some e
 ·rename_i q
  rw [q] at e
  have a:es.toList.any (·.refKey)=false:=by
   rw [List.any_eq_false]
   intro y hy
   obtain ⟨z,t,hkey⟩:=hk y (Array.mem_toList_iff.mp hy)
   simp [DictEntry.refKey,hkey]
  have a' : ¬ es.toList.any (·.refKey)=true:=by rw [a]; exact aP2
  rw [if_neg a']
  exact congrArg some e
theorem sA.look {h:Heap}{x dx C:Addr}{mA:Str->Option Value} (I:sA h x dx C mA):∃ od,PySem.W.InstAt h x (PySem.W.instObj C dx) C (some od)/\∀ name,PySem.W.lookIn name od=some (mA name):=
 let ⟨od,ho,hl⟩:=ab7 I.ns
 ⟨od,⟨I.obj,rfl,rfl,ho⟩,hl⟩
section
variable {P : Program} {w : World} {H H' : Hp} {h h' : Heap} {a C dx : Addr} {fs fs' : List (Str × V)}
theorem ab8 (hok:bO P w H h) (e:H a=some (.ins C dx fs)):∃ mA,sA h a dx C mA/\(∀ f,jX (fs.lookup f) (mA f))/\PySem.Within mA (fs.map (·.1))/\fs.length<=1000/\H dx=some (.own a):=by
 obtain ⟨d,z,ne,ob,mA,n,r,q⟩:=(show bL P w H h a (.ins C dx fs) from hok a _ e)
 exact⟨mA,⟨ob,n,ne⟩,r,q,z,d⟩
end
structure sB (K:PySem.W.Frag) (C:Addr):Prop where
 pg:PySem.W.plainGet K C Str.empty=true
 hd:PySem.W.hasDictIn K C=true
 po:PySem.W.plainOver K C=true
 sa:PySem.W.findIn K (.ref C) "__setattr__" = some (some (.builtin "object.__setattr__"))
theorem sB.get {K:PySem.W.Frag}{C:Addr} (c:sB K C) (f:Str):PySem.W.plainGet K C f=true:=c.pg
section
variable {X : Cx} {pins : List (Addr × Obj)} {σ : St} {H : Hp} {s : Shared} {A : Around} {E : Value → Shared → Prop} {Q : Value → Shared → Prop} {c : Value} {b : Bool}
inductive fI (K:PySem.W.Frag) (H:Hp):V->Value->Prop where
 | non:fI K H .non (.type "NoneType")
 | bl (x:Bool):fI K H (.bl x) (.type "bool")
 | int (i:Int):fI K H (.int i) (.type "int")
 | str (x:Str):fI K H (.str x) (.type "str")
 | flt (x:UInt64):fI K H (.flt x) (.type "float")
 | lst {a:Addr}{xs:List V} (e:H a=some (.lst xs)):fI K H (.ref a) (.type "list")
 | frz {a:Addr}{o:Obj}{xs:List V} (e:H a=some (.frz o (.lst xs))):fI K H (.ref a) (.type "list")
 | tup {a:Addr}{xs:List V} (e:H a=some (.tup xs)):fI K H (.ref a) (.type "tuple")
 | dK {a:Addr}{kvs:List (aG × V)} (e:H a=some (.dK kvs)):fI K H (.ref a) (.type "dict")
 | dT {a:Addr}{kvs:List (List aG × V)} (e:H a=some (.dT kvs)):fI K H (.ref a) (.type "dict")
 | ins {a C dx:Addr}{fs:List (Str × V)} (e:H a=some (.ins C dx fs)) (cl:sB K C) (ha:PySem.W.findIn K (.ref C) "__class__" = some (some (.builtin "object.__class__")))
   (hn:PySem.W.specialIn K (.builtin "object.__class__") "__get__" = some (some (.builtin "getset_descriptor.__get__"))) (htk:PySem.W.takesIn K (.builtin "object.__class__")=some true)
   (hm:PySem.W.mroIn K C (.type "object")=some true):fI K H (.ref a) (.ref C)
theorem ab9 {x:V}{u t:Value} (I:a6 X pins σ H s) (rx:aT x u) (ty:fI X.K H x t) (e:PySem.W.kitOne X.K t c=some b) (h:∀ tk,Q (.bool b) { s with toks:=tk }) :
  wpAny (model X.prog X.w) A (call (.builtin "isinstance") [u,c]) Q E s:=by
 cases ty with
 | non=>cases (show u=Value.none from rx); exact aU2 PySem.W.kitx_none I.kIn bb1 e (fun z=>nomatch z) h
 | bl y=>cases (show u=Value.bool y from rx); exact aU2 PySem.W.kitx_bool I.kIn bb1 e (fun z=>nomatch z) h
 | int i=>obtain ⟨t,q⟩:=(show ∃ t,u=Value.int i t from rx); cases q; exact aU2 PySem.W.kitx_int I.kIn bb1 e (fun z=>nomatch z) h
 | str y=>obtain ⟨t,q⟩:=(show ∃ t,u=Value.str y t from rx); cases q; exact aU2 PySem.W.kitx_str I.kIn bb1 e (fun z=>nomatch z) h
 | flt y=>obtain ⟨t,q⟩:=(show ∃ t,u=Value.float y t from rx); cases q; exact aU2 PySem.W.kitx_float I.kIn bb1 e (fun z=>nomatch z) h
 | @lst a xs ea=>
  cases (show u=Value.ref a from rx)
  obtain ⟨_,_,n,_,h1⟩:=(show bL X.prog X.w H s.heap a (.lst xs) from I.hok a _ ea)
  exact aU2 PySem.W.kitx_list I.kIn ⟨_,h1,rfl⟩ e (fun z=>nomatch z) h
 | @frz a ob xs ea=>
  cases (show u=Value.ref a from rx)
  obtain ⟨_,_,_,n,_,h1⟩:=(show bL X.prog X.w H s.heap a (.frz ob (.lst xs)) from I.hok a _ ea)
  exact aU2 PySem.W.kitx_list I.kIn ⟨_,h1,rfl⟩ e (fun z=>nomatch z) h
 | @tup a xs ea=>
  cases (show u=Value.ref a from rx)
  obtain ⟨_,_,_,p,_⟩:=(show bL X.prog X.w H s.heap a (.tup xs) from I.hok a _ ea)
  obtain ⟨o,h1,h2,_⟩:=p
  exact aU2 PySem.W.kitx_tuple I.kIn ⟨o,h1,h2⟩ e (fun z=>nomatch z) h
 | @dK a kvs ea=>
  cases (show u=Value.ref a from rx)
  obtain ⟨_,_,vs,_,p⟩:=(show bL X.prog X.w H s.heap a (.dK kvs) from I.hok a _ ea)
  obtain ⟨o,es,ep,h1,h2,_⟩:=p
  exact aU2 PySem.W.kitx_dict I.kIn ⟨o,h1,h2.1⟩ e (fun z=>nomatch z) h
 | @dT a kvs ea=>
  cases (show u=Value.ref a from rx)
  obtain ⟨_,_,xs,_,o,es,ep,h1,h2,_⟩:=(show bL X.prog X.w H s.heap a (.dT kvs) from I.hok a _ ea)
  exact aU2 PySem.W.kitx_dict I.kIn ⟨o,h1,h2.1⟩ e (fun z=>nomatch z) h
 | @ins a C dx fs ea cl ha hn htk hm=>
  cases (show u=Value.ref a from rx)
  obtain ⟨mA,O,_⟩:=ab8 I.hok ea
  obtain ⟨od,J,_⟩:=O.look
  exact aU2 (PySem.W.kitx_own (cl.get _) cl.hd ha hn htk hm) I.kIn J e (fun z=>nomatch z) h
end
structure c6 (k:Nat) (A:Around):Prop where
 hd:A.handled=none
 dp:A.depth+3 * k+5 < recursionLimit
 un:A.units+16 * k+200 < cLine
theorem c6.mono {j k:Nat}{A:Around} (r:c6 k A) (h:j<=k):c6 j A:=⟨r.hd,by have:=r.dp; lia,by have:=r.un; lia⟩
theorem c6.deeper {k:Nat}{A:Around} (r:c6 (k+1) A) (env:Env):c6 k (A.deeper env):=
 ⟨r.hd,by have:=r.dp; show A.depth+1+3 * k+5 < _; lia,by have:=r.un; show A.units+3+16 * k+200 < _; lia⟩
theorem c6.depth {k:Nat}{A:Around} (r:c6 k A):A.depth < recursionLimit:=by have:=r.dp; lia
theorem c6.units {k:Nat}{A:Around} (r:c6 k A):A.units+64 < cLine:=by have:=r.un; lia
noncomputable def jI:TA:=fun _ H Q=>Q [] H
noncomputable def i6 (ta:TE) (tr:TA):TA:=fun σ H Q=>ta σ H fun x H1=>tr σ H1 fun xs H2=>Q (x :: xs) H2
section
variable {X : Cx} {e : Expr} {es : List Expr} {te : TE} {t : TA} {pos : Pos}
theorem dD:PA X [] jI:=fun _ _ _ _ H Q I h=>Calls.spliced_nil ⟨[],H,I,.nil,h⟩
theorem cL (ha:PE X e te) (hr:PA X es t) (hs:starEach (e :: es) X.env=(false,eval e X.env) :: starEach es X.env:=by rfl):PA X (e :: es) (i6 te t):=by
 intro pos pins s σ H Q I h
 rw [hs]
 show wpAny _ _ (spliced ((false,eval e X.env) :: backTo pos (starEach es X.env))) _ _ s
 refine Calls.spliced_cons (aO (ha pins s σ H _ I h) fun u s1 ⟨x,H1,I1,r1,q1⟩=>?_)
 exact aO (hr pos pins s1 σ H1 _ I1 q1) fun us s2 ⟨xs,H2,I2,r2,q2⟩=>⟨x :: xs,H2,I2,.cons r1 r2,q2⟩
noncomputable def sC (t:TA):TE:=fun σ H Q=>t σ H fun xs H1=>xs.length<=sizeLine/\∀ p,H1 p=none->Q (.ref p) (upd H1 p (.tup xs))
noncomputable def x4 (t:TA):TE:=fun σ H Q=>t σ H fun xs H1=>xs.length<=sizeLine/\∀ p,H1 p=none->Q (.ref p) (upd H1 p (.lst xs))
theorem x5 {x1} (h:PA X es t):PE X (.Tuple es x1 pos) (sC t):=by
 intro pins s σ H Q I hq
 refine wpAny_Tuple_spliced (aO (h pos pins s σ H _ I hq) fun us s1 ⟨xs,H1,I1,r,z,q⟩=>⟨by rw [<- r.length]; exact z,?_⟩)
 have hf:H1 s1.heap.objs.size=none:=I1.hok.fresh (aO0 _)
 refine⟨.ref s1.heap.objs.size,upd H1 s1.heap.objs.size (.tup xs),I1.laid (t':=s1.toks) (fun b u e=>aN4 _ e) (aO0 _) ?_,rfl,q _ hf⟩
 exact⟨z,us,r,⟨_,aP5 _ rfl,rfl,_,rfl⟩,iI.new _ _ rfl⟩
theorem sD (h:PA X es t):PE X (.List es pos) (x4 t):=by
 intro pins s σ H Q I hq
 refine wpAny_List_spliced (aO (h pos pins s σ H _ I hq) fun us s1 ⟨xs,H1,I1,r,z,q⟩=>⟨by rw [<- r.length]; exact z,?_⟩)
 have hf:H1 s1.heap.objs.size=none:=I1.hok.fresh (aO0 _)
 refine⟨.ref s1.heap.objs.size,upd H1 s1.heap.objs.size (.lst xs),I1.laid (t':=s1.toks) (fun b u e=>aN4 _ e) (aO0 _) ?_,rfl,q _ hf⟩
 exact⟨z,us,0,r,aP5 _ rfl⟩
end
noncomputable abbrev Sp:=List V->Hp->VK->XK->Prop
noncomputable abbrev gD:=List Env->Hp->Shared->XK->Value->Shared->Prop
structure oG (P:Program) (w:World) (K:PySem.W.Frag) (mg:Str->Option Value) (base:Heap) (A:Around) (outer:List Env) (s:Shared) (H:Hp):Prop where
 frames:A.frames=some outer
 mod:Mod K mg base
 bs:∀ b o,base.get? b=some o->s.heap.get? b=some o/\H b=none
 bsz:base.objs.size<=s.heap.objs.size
 funs:s.heap.FunFrames base outer
 frf:∀ b ∈ bP outer,H b=none
 hok:bO P w H s.heap
 bare:AllBare s.gens
noncomputable def CE (outer:List Env) (P:Program) (w:World) (H:Hp) (s:Shared) (Q:VK) (u:Value) (s':Shared):Prop:=
 ∃ v H',s'.os=s.os/\AllBare s'.gens/\Un (bP outer) [] H H' s.heap s'.heap/\bO P w H' s'.heap/\aT v u/\Q v H'
noncomputable def CR (CX:gD) (outer:List Env) (P:Program) (w:World) (H:Hp) (s:Shared) (Q:VK) (E:XK) (r:Result) (s':Shared):Prop:=
 match r with
 | .ok (.ret u)=>CE outer P w H s Q u s'
 | .ok _=>False
 | .error e=>CX outer H s E e s'
structure cH (P:Program) (w:World) (K:PySem.W.Frag) (mg:Str->Option Value) (base:Heap) (CX:gD) (k:Nat) (f:Addr) (fd:FuncData) (ps:List Str) (sp:Sp):Prop where
 len:∀ vs H Q E,sp vs H Q E->vs.length=ps.length
 run:∀ (A:Around) (outer:List Env) (s:Shared) (H:Hp) (args:Args) (us:List Value) (vs:List V) (Q:VK) (E:XK),c6 k A->oG P w K mg base A outer s H->BindsTo s fd args (ps.zip us)->aK vs us->sp vs H Q E->
  codeAny (model P w) A (.call (.ref f) args) (CR CX outer P w H s Q E) s
theorem cH.imp {P:Program}{w:World}{K:PySem.W.Frag}{mg:Str->Option Value}{base:Heap}{CX:gD}{k:Nat}{f:Addr}{fd:FuncData}{ps:List Str}{sp sp':Sp} (F:cH P w K mg base CX k f fd ps sp)
  (h:∀ vs H Q E,sp' vs H Q E->sp vs H Q E):cH P w K mg base CX k f fd ps sp':=
 ⟨fun vs H Q E q=>F.len vs H Q E (h _ _ _ _ q),fun A outer s H args us vs Q E hr he hb hv hs=>F.run A outer s H args us vs Q E hr he hb hv (h _ _ _ _ hs)⟩
section
variable {X : Cx} {pins : List (Addr × Obj)} {σ : St} {H : Hp} {s s' : Shared}
theorem a6.env0 (I:a6 X pins σ H s):oG X.prog X.w X.K X.mg X.base X.A X.stack s H:=
 ⟨I.ok.frames,I.ok.mod,I.bs,aS0 I.ok.bsz I.sz,I.stack,I.stkFree,I.hok,I.bare⟩
theorem a6.after {Q:VK}{u:Value} (I:a6 X pins σ H s) (h:CE X.stack X.prog X.w H s Q u s'):EP X pins σ Q u s':=by
 obtain ⟨v,H',os,bare,un,hok,r,q⟩:=h
 obtain ⟨hh,g,d,t,os'⟩:=s'
 obtain rfl:os'=s.os:=os
 exact⟨v,H',I.call (h':=hh) (g':=g) (d':=d) (t':=t) (ch:=[]) un hok bare (fun b z=>absurd z (by simp)),r,q⟩
end
noncomputable def sE (sp:Sp) (dvs:List V) (E:XK) (t:TA):TE:=fun σ H Q=>t σ H fun vs H1=>sp (vs ++ dvs) H1 Q E
noncomputable def i7 (K:PySem.W.Frag) (fd:FuncData) (ps:List Str) (ds:List Value):Prop:=
 ∀ (s:Shared) (us:List Value),K.In s.heap->(us ++ ds).length=ps.length->BindsTo s fd ⟨us,[]⟩ (ps.zip (us ++ ds))
theorem i7.all {K:PySem.W.Frag}{fd:FuncData}{ps:List Str} (h:∀ us:List Value,us.length=ps.length->bindArgs fd ⟨us,[]⟩=pure (ps.zip us)):i7 K fd ps []:=fun s us _ hl=>by
 rw [aY9] at hl ⊢
 exact .of_eq (h us hl)
noncomputable def mD (CX:gD) (X:Cx) (E:XK):Prop:=∀ (pins:List (Addr × Obj)) (σ:St) (H:Hp) (s:Shared) (e:Value) (s':Shared),a6 X pins σ H s->CX X.stack H s E e s'->X.xe e s'
section
variable {X : Cx} {CX : gD} {k : Nat} {f C : Addr} {fd : FuncData} {ps : List Str} {sp : Sp} {dvs : List V} {ds : List Value} {E : XK} {x m : Str} {p pos apos : Pos} {e o : Expr} {es : List Expr} {ta : TE} {t : TA}
theorem ac0 {pins:List (Addr × Obj)}{σ:St}{H:Hp}{s:Shared}{Q:VK}{us:List Value}{vs:List V} (F:cH X.prog X.w X.K X.mg X.base CX k f fd ps sp) (hr:c6 k X.A) (hb:i7 X.K fd ps ds) (hd:aK dvs ds) (hx:mD CX X E)
  (I:a6 X pins σ H s) (r:aK vs us) (h:sp (vs ++ dvs) H Q E):wpAny (model X.prog X.w) X.A (call (.ref f) us) (EP X pins σ Q) X.xe s:=by
 have r2:aK (vs ++ dvs) (us ++ ds):=r.append hd
 have hl:(us ++ ds).length=ps.length:=by rw [<- r2.length]; exact F.len _ _ _ _ h
 refine wpAny_call (codeAny_mono (F.run X.A X.stack s H ⟨us,[]⟩ (us ++ ds) (vs ++ dvs) Q E hr I.env0 (hb s us I.kIn hl) r2 h) fun r s' hq=>?_)
 cases r with
 | error e=>exact hx pins σ H s e s' I hq
 | ok fl=>
  cases fl with
  | ret u=>exact I.after hq
  | next=>exact False.elim hq
  | brk=>exact False.elim hq
  | cont=>exact False.elim hq
theorem sF (F:cH X.prog X.w X.K X.mg X.base CX k f fd ps sp) (hr:c6 k X.A) (hg:Gl X x) (hm:X.mg x=some (.ref f)) (hk:PySem.W.keepIn X.K (.ref f)=true) (hb:i7 X.K fd ps ds) (hd:aK dvs ds) (hx:mD CX X E)
  (ha:PA X (e :: es) t) (hdb:(x == ("__debug__" : Str))=false:=by decide) (he:starEach (e :: es) X.env=(false,eval e X.env) :: starEach es X.env:=by rfl) (hpl:(backTo pos (starEach es X.env)).any (·.1)=false:=by rfl) :
  PE X (.Call (.Name x p) (e :: es) [] pos) (sE sp dvs E t):=by
 intro pins s σ H Q I h
 refine wpAny_Call_Name_kw (w9 I hg hm ?_ hdb)
 refine PySem.W.callWith_K (h₀:=X.base) I.ok.mod.kin hk (aO (ha pos pins s σ H _ I h) fun us s1 ⟨vs,H1,I1,r,q⟩=>⟨I1.kIn,?_⟩) he hpl
 exact ac0 F hr hb hd hx I1 r q
end
noncomputable def PK (X:Cx) (kws:List Keyword) (t:TA):Prop:=
 ∀ (pos:Pos) (pins:List (Addr × Obj)) (s:Shared) (σ:St) (H:Hp) (Q:List V->Hp->Prop),a6 X pins σ H s->t σ H Q->wpAny (model X.prog X.w) X.A (evalAll ((backToKw pos (keywordEach kws X.env)).map (·.2))) (AP X pins σ Q) X.xe s
structure FnScope (N P:List Str) (sc:Scope):Prop where
 kind:sc.kind = .function
 co:sc.isCoroutine=false
 gen:sc.isGenerator=false
 nd:N.Nodup
 pre:N.take P.length=P
 par:∀ x ∈ P,sc.names.lookup x=some .local ∨ sc.names.lookup x=some .cell
 nofree:∀ y ∈ sc.names,y.2 ≠ .free
theorem x6 {kindOf:Str->Option NameKind}{x:Str}:∀ {binds:List (Str × Value)}{m:Str->Option Value},(∀ v,(x,v) ∉ binds)->bindL kindOf binds m x=m x
 | [],_,_=>rfl
 | (n,v) :: r,m,h=>by
  unfold bindL
  rw [x6 fun w hw=>h w (aO8 _ hw)]
  split
  ·have:x ≠ n:=by rintro rfl; exact h v aO1
   simp [this]
  ·rfl
theorem x8 {kindOf:Str->Option NameKind}{x:Str}:∀ {binds:List (Str × Value)}{m:Str->Option Value},(∀ v,(x,v) ∉ binds)->bindC kindOf binds m x=m x
 | [],_,_=>rfl
 | (n,v) :: r,m,h=>by
  unfold bindC
  rw [x8 fun w hw=>h w (aO8 _ hw)]
  split
  ·rfl
  ·have:x ≠ n:=by rintro rfl; exact h v aO1
   simp [this]
theorem x9 {kindOf:Str->Option NameKind}{x:Str}{v:Value}:∀ {P:List Str}{vs:List Value}{i:Nat}{m:Str->Option Value},P.Nodup->P[i]? = some x->vs[i]? = some v->kindOf x=some .local->
  bindL kindOf (P.zip vs) m x=some v
 | [],_,_,_,_,h,_,_=>by simp at h
 | _ :: _,[],_,_,_,_,h,_=>by simp at h
 | p :: P,w :: vs,0,m,nd,h1,h2,hk=>by
  simp at h1 h2; subst h1; subst h2
  show bindL kindOf ((p,w) :: P.zip vs) m p=_
  unfold bindL
  rw [x6 fun v hv=>(aV3.mp nd).1 (List.of_mem_zip hv).1,if_pos hk]
  simp
 | p :: P,w :: vs,i+1,m,nd,h1,h2,hk=>by
  show bindL kindOf ((p,w) :: P.zip vs) m x=_
  unfold bindL
  exact x9 (i:=i) (aV3.mp nd).2 (by simpa using h1) (by simpa using h2) hk
theorem xA {kindOf:Str->Option NameKind}{x:Str}{v:Value}:∀ {P:List Str}{vs:List Value}{i:Nat}{m:Str->Option Value},P.Nodup->P[i]? = some x->vs[i]? = some v->kindOf x ≠ some .local->
  bindC kindOf (P.zip vs) m x=some v
 | [],_,_,_,_,h,_,_=>by simp at h
 | _ :: _,[],_,_,_,_,h,_=>by simp at h
 | p :: P,w :: vs,0,m,nd,h1,h2,hk=>by
  simp at h1 h2; subst h1; subst h2
  show bindC kindOf ((p,w) :: P.zip vs) m p=_
  unfold bindC
  rw [x8 fun v hv=>(aV3.mp nd).1 (List.of_mem_zip hv).1,if_neg hk]
  simp
 | p :: P,w :: vs,i+1,m,nd,h1,h2,hk=>by
  show bindC kindOf ((p,w) :: P.zip vs) m x=_
  unfold bindC
  exact xA (i:=i) (aV3.mp nd).2 (by simpa using h1) (by simpa using h2) hk
noncomputable def start (N:List Str) (vs:List V):St:=vs.map some ++ List.replicate (N.length - vs.length) none
noncomputable def cZ (CX:gD) (P:Program) (w:World) (K:PySem.W.Frag) (mg:Str->Option Value) (base:Heap) (N:List Str) (qual:Str) (scope:Scope) (f:Addr) (cd:Value) (A:Around) (outer:List Env) (s:Shared) (H:Hp) (E:XK):Cx where
 prog:=P
 w:=w
 K:=K
 mg:=mg
 base:=base
 A:=A.deeper (envOfC qual scope s.heap.objs.size f cd)
 N:=N
 s₀:=s
 H₀:=H
 env:=envOfC qual scope s.heap.objs.size f cd
 outer:=outer
 stack:=envOfC qual scope s.heap.objs.size f cd :: outer
 ex:=[]
 calm:=true
 fn:=fun _=>true
 pn:=[]
 xe:=fun e s'=>wpAny (model P w) (A.deeper (envOfC qual scope s.heap.objs.size f cd)) (leaving (envOfC qual scope s.heap.objs.size f cd) e) (fun _ s''=>CX outer H s E e s'') (fun e' s''=>CX outer H s E e' s'') s'
theorem xB {sc:Scope}{n:Nat}{x:Str} (h:sc.names.lookup x=some .cell):∃ c,(cellsFrom n sc.names []).lookup x=some c:=by
 have q:=PySem.W.cellsFrom_some sc.names n [] (.inl h)
 exact Option.isSome_iff_exists.mp q
theorem ac1 {CX:gD}{P:Program}{w:World}{K:PySem.W.Frag}{mg:Str->Option Value}{base:Heap}{N ps:List Str}{qual:Str}{scope:Scope}{f:Addr}{cd:Value}{A:Around}{outer:List Env}{s s1:Shared}{H:Hp}{E:XK}{us:List Value}{vs:List V}
  (S:FnScope N ps scope) (hd:A.handled=none) (e0:oG P w K mg base A outer s H) (hl:vs.length=ps.length) (r:aK vs us)
  (x:InCallC s s.heap.objs.size (bindL (envOfC qual scope s.heap.objs.size f cd).kindOf (ps.zip us) fun _=>none) (cellsFrom (s.heap.objs.size+1) scope.names []) (bindC (envOfC qual scope s.heap.objs.size f cd).kindOf (ps.zip us) fun _=>none) s1) :
  a6 (cZ CX P w K mg base N qual scope f cd A outer s H E) [] (start N vs) H s1:=by
 have hpl:ps.length<=N.length:=by have:=congrArg List.length S.pre; rw [aV4] at this; lia
 obtain ⟨h1,tk,rfl,hk⟩:=x.done
 have noA:∀ b:Addr,b ∉ (cZ CX P w K mg base N qual scope f cd A outer s H E).ex:=fun b z=>absurd (show b ∈ ([]:List Addr) from z) (by simp)
 refine⟨⟨e0.mod,S.kind,rfl,rfl,aO0 _,fun y z c h1 h2=>?_,fun y hy=>?_,fun y c _ h=>?_,fun _=>hd,Around.frames_deeper e0.frames,.inr ⟨rfl,rfl⟩,fun b z=>absurd z (noA b),e0.bs,e0.bsz,fun b _ _=>noA b,fun b z=>absurd z (noA b),e0.funs,e0.frf⟩,
  rfl,e0.bare,Un.kept hk,⟨_,x.toInCall.ns,fun i y v h1 h2 h3=>?_⟩,fun y c h=>⟨_,x.cell y c h⟩,e0.hok.fresh (aO0 _),fun y c h=>?_,fun p hp=>absurd (show p ∈ ([]:List (Addr × Obj)) from hp) (by simp),e0.hok.kept hk,?_⟩
 ·exact name_of_addr x.apart (aS4 h1) (aS4 h2)
 ·have hy:scope.names.lookup y=some .cell ∨ scope.names.lookup y=some .free:=hy
  rcases hy with hy | hy
  ·exact xB hy
  ·exact absurd rfl (S.nofree _ (aS4 hy))
 ·exact aT1 (x.above y c (aS4 h))
 ·have hi:i < vs.length:=by
   unfold start at h2
   by_cases hi:i < vs.length
   ·exact hi
   ·rw [aX1 (by simpa using hi)] at h2
    rw [List.getElem?_replicate] at h2
    split at h2 <;> cases h2
  have ha:vs[i]? = some v:=by
   unfold start at h2
   rw [aQ6 (by simpa using hi),aO5] at h2
   cases e:vs[i]? with
   | none=>rw [e] at h2; cases h2
   | some a=>rw [e] at h2; cases h2; rfl
  obtain ⟨u,hu,rv⟩:=r.get ha
  have hp:ps[i]? = some y:=by
   rw [<- S.pre,List.getElem?_take_of_lt (by lia)]; exact h1
  have ndP:ps.Nodup:=by rw [<- S.pre]; exact S.nd.sublist (List.take_sublist _ _)
  refine⟨u,rv,?_⟩
  rcases S.par y (aN8 hp) with k | k
  ·exact .inl ⟨k,x9 ndP hp hu k⟩
  ·obtain ⟨c,e⟩:=xB (n:=s.heap.objs.size+1) k
   refine .inr ⟨.inl k,c,e,?_⟩
   have q:=x.cell y c e
   rw [xA ndP hp hu (by show scope.names.lookup y ≠ _; rw [k]; decide)] at q
   exact q
 ·exact e0.hok.fresh (aT1 (x.above y c (aS4 h)))
 ·unfold start
  show _=N.length
  rw [aP7,aN6,aW1]
  lia
theorem xC {CX:gD}{P:Program}{w:World}{K:PySem.W.Frag}{mg:Str->Option Value}{base:Heap}{k:Nat}{f:Addr}{name qual:Str}{params:Arguments}{body:List Stmt}{scope:Scope}{dV kV doc pm cdv ct oc:Value}{an od:Option Addr}
  {osl:Array (Option Value)}{N ps:List Str}{sp:Sp} (lk:K.lookup f=some ⟨oc,od,.func (PySem.W.fnOf name qual params body scope dV kV doc pm an cdv ct),osl⟩) (hcd:PySem.W.codeIn K cdv qual=true) (S:FnScope N ps scope)
  (len:∀ vs H Q E,sp vs H Q E->vs.length=ps.length)
  (hbody:∀ (A:Around) (outer:List Env) (s:Shared) (H:Hp) (vs:List V) (Q:VK) (E:XK),c6 k (A.deeper (envOfC qual scope s.heap.objs.size f cdv))->sp vs H Q E->
   ∃ t,e6 (cZ CX P w K mg base N qual scope f cdv A outer s H E) body t/\t { nx:=fun _ H'=>Q .non H',rt:=Q } (start N vs) H) :
  cH P w K mg base CX (k+1) f (PySem.W.fnOf name qual params body scope dV kV doc pm an cdv ct) ps sp:=by
 refine⟨len,fun A outer s H args us vs Q E hr e0 hb r hsp=>?_⟩
 have hl:=len _ _ _ _ hsp
 have KX:K.In s.heap:=e0.mod.kin.keeps fun b o e=>(e0.bs b o e).1
 have lim:s.heap.NoLimit:=e0.mod.nolimit.keeps fun b o e=>(e0.bs b o e).1
 have hkind:∀ y ∈ ps.zip us,scope.names.lookup y.1=some .local ∨ (scope.names.lookup y.1=some .cell/\((cellsFrom (s.heap.objs.size+1) scope.names []).lookup y.1).isSome=true):=fun ⟨n,v⟩ hy=>by
  rcases S.par n (List.of_mem_zip hy).1 with q | q
  ·exact .inl q
  ·exact .inr ⟨q,PySem.W.cellsFrom_some _ _ _ (.inl q)⟩
 refine codeAny_call_function hr.depth (KX _ _ lk) rfl S.co S.gen rfl (PySem.W.codeRec_of KX hcd) (hb _ _ _ _ ?_)
 refine wpAny_newFunctionEnv_cells S.kind hkind fun env he s1 x=>?_
 subst he
 refine⟨lim.keeps x.toInCall.keep,codeAny_func ?_⟩
 obtain ⟨t,ht,hq⟩:=hbody A outer s H vs Q E (hr.deeper _) hsp
 have I:a6 (cZ CX P w K mg base N qual scope f cdv A outer s H E) [] (start N vs) H s1:=ac1 S hr.hd e0 hl r x
 refine aV8 (ht [] s1 (start N vs) H _ I hq) (fun fl s' hs=>?_) fun e s' hs=>hs
 have fin:∀ {σ':St}{H':Hp}{v:V}{u:Value},a6 (cZ CX P w K mg base N qual scope f cdv A outer s H E) [] σ' H' s'->aT v u->Q v H'->CE outer P w H s Q u s':=
  fun {σ' H' v u} J rv q=>⟨v,H',J.os,J.bare,J.base,J.hok,rv,q⟩
 cases fl with
 | ret u=>
  obtain ⟨v,σ',H',J,rv,q⟩:=hs
  exact fin J rv q
 | next=>
  obtain ⟨σ',H',J,q⟩:=hs
  exact fin (v:=V.non) (u:=Value.none) J rfl q
 | brk=>
  obtain ⟨_,_,_,q⟩:=hs
  exact False.elim q
 | cont=>
  obtain ⟨_,_,_,q⟩:=hs
  exact False.elim q
section
variable {X : Cx} {x : Str} {p pos : Pos} {e : Expr} {es : List Expr} {t : TA} {id T : String} {r : List V → Hp → VK → Prop}
noncomputable def sG (r:List V->Hp->VK->Prop) (t:TA):TE:=fun σ H Q=>t σ H fun vs H1=>r vs H1 Q
theorem oH (hc:cK X (.builtin id) r) (hg:Gl X x) (hm:X.mg x=none) (hv:bootBuiltins x=some (.builtin id)) (ha:PA X (e :: es) t) (hn:x ≠ "__name__":=by decide) (hdb:(x == ("__debug__" : Str))=false:=by decide)
  (he:starEach (e :: es) X.env=(false,eval e X.env) :: starEach es X.env:=by rfl) (hpl:(backTo pos (starEach es X.env)).any (·.1)=false:=by rfl):PE X (.Call (.Name x p) (e :: es) [] pos) (sG r t):=by
 intro pins s σ H Q I h
 refine wpAny_Call_Name_kw (iL I hg hm hv ?_ hn hdb)
 exact PyProof.Rows.callWith_builtin1 (aO (ha pos pins s σ H _ I h) fun us s1 ⟨vs,H1,I1,r1,q1⟩=>hc pins s1 σ H1 vs us Q I1 r1 q1) he hpl
theorem xD (hc:cK X (.type T) r) (hg:Gl X x) (hm:X.mg x=none) (hv:bootBuiltins x=some (.type T)) (ha:PA X (e :: es) t) (hn:x ≠ "__name__":=by decide) (hdb:(x == ("__debug__" : Str))=false:=by decide)
  (he:starEach (e :: es) X.env=(false,eval e X.env) :: starEach es X.env:=by rfl) (hpl:(backTo pos (starEach es X.env)).any (·.1)=false:=by rfl):PE X (.Call (.Name x p) (e :: es) [] pos) (sG r t):=by
 intro pins s σ H Q I h
 refine wpAny_Call_Name_kw (iL I hg hm hv ?_ hn hdb)
 exact aT4 (aO (ha pos pins s σ H _ I h) fun us s1 ⟨vs,H1,I1,r1,q1⟩=>hc pins s1 σ H1 vs us Q I1 r1 q1) he hpl
end
end L2
namespace HT
open PySem PyProof.Rows
noncomputable def eS:List Int->List Int->Bool
 | [],[]=>false
 | [],_ :: _=>true
 | _ :: _,[]=>false
 | x :: xs,y :: ys=>if x=y then eS xs ys else decide (x < y)
theorem mE (x y:Int) (xs ys:List Int):eS (x :: xs) (y :: ys)=if x=y then eS xs ys else decide (x < y):=rfl
section
variable {prog : Program} {w : World} {A : Around} {E : Value → Shared → Prop} {s : Shared}
noncomputable def aV (n d:Nat):Option Int->Nat
 | none=>d
 | some v=>if v < 0 then (v+(n:Int)).toNat else min v.toNat n
theorem ac2 (n d:Nat):aV n d none=d:=rfl
theorem ac3 (n d k:Nat):aV n d (some (k:Int))=min k n:=by
 show (if (k:Int) < 0 then ((k:Int)+(n:Int)).toNat else min (k:Int).toNat n)=min k n
 rw [if_neg (by lia),aQ3]
theorem ac4 (n d:Nat) (hd:d<=n) (o:Option Int):aV n d o<=n:=by
 cases o with
 | none=>exact hd
 | some v=>
  show (if v < 0 then (v+(n:Int)).toNat else min v.toNat n)<=n
  by_cases hv:v < 0
  ·rw [if_pos hv]; lia
  ·rw [if_neg hv]; exact Nat.min_le_right _ _
theorem xE (v:Int) (n d:Nat):(if v < 0 then max (v+(n:Int)) 0 else min v (n:Int))=((aV n d (some v):Nat):Int):=by
 show (if v < 0 then max (v+(n:Int)) 0 else min v (n:Int))=(((if v < 0 then (v+(n:Int)).toNat else min v.toNat n):Nat):Int)
 by_cases hv:v < 0
 ·simp only [if_pos hv]; lia
 ·simp only [if_neg hv]; lia
theorem ac5 (lo hi:Option Int) (n:Nat):Builtin.Slice.sliceAdjust lo hi 1 (n:Int)=(((aV n 0 lo:Nat):Int),((aV n n hi:Nat):Int)):=by
 have h1 : ¬ ((1:Int) < 0):=by lia
 unfold Builtin.Slice.sliceAdjust
 simp only [h1,aT8]
 refine Prod.ext ?_ ?_
 ·cases lo with
  | none=>rfl
  | some v=>exact xE v n 0
 ·cases hi with
  | none=>rfl
  | some v=>exact xE v n n
theorem ac6 (i j:Nat):Builtin.Slice.slicePlaces (i:Int) (j:Int) 1=j - i:=by
 unfold Builtin.Slice.slicePlaces
 have h1:(1:Int) > 0:=by lia
 simp only [h1,if_true,Int.ediv_one]
 split <;> lia
theorem xF {v:Value}{o:Option Int}{Q:Option Int->Shared->Prop} (p:IsPart v o) (h:Q o s):wpAny (model prog w) A (Builtin.Slice.slicePartIndex v) Q E s:=by
 cases p with
 | none=>exact slicePart_none h
 | int i t=>exact slicePart_int h
theorem xG {sl:Addr}{vl vu:Value}{lo hi:Option Int}{n:Nat}{Q:Int × Int × Nat->Shared->Prop} (hs:s.heap.IsSliceOf sl vl vu .none) (pl:IsPart vl lo) (pu:IsPart vu hi)
  (h:Q (((aV n 0 lo:Nat):Int),1,aV n n hi - aV n 0 lo) s):wpAny (model prog w) A (Builtin.Slice.sliceApplied (.ref sl) (pure (n:Int))) Q E s:=by
 obtain ⟨os,hos,hcs,hds⟩:=id hs
 unfold Builtin.Slice.sliceApplied Builtin.Slice.sliceFields
 refine aN2 (aN2 (aV9 hos hds (x:=vl) rfl (aN2 (aV9 hos hds (x:=vu) rfl (aN2 (aV9 hos hds (x:=.none) rfl (aO6 ?_)))))))
 refine aN2 (slicePart_none ?_)
 show wpAny _ _ (if ((1:Int) == 0)=true then _ else _) _ _ s
 rw [if_neg (by decide)]
 refine aN2 (xF pl (aN2 (xF pu (aN2 (aO6 ?_)))))
 show wpAny _ _ (match Builtin.Slice.sliceAdjust lo hi 1 (n:Int) with | (lo,hi)=>pure (lo,(1:Int),Builtin.Slice.slicePlaces lo hi 1)) _ _ s
 rw [ac5 lo hi n]
 show wpAny _ _ (pure (((aV n 0 lo:Nat):Int),(1:Int),Builtin.Slice.slicePlaces ((aV n 0 lo:Nat):Int) ((aV n n hi:Nat):Int) 1)) _ _ s
 rw [ac6]
 exact aO6 h
theorem ac7 (xs:Array Value) (i k:Nat):((List.range k).filterMap fun (m:Nat)=>xs[((i:Int)+(m:Int) * 1).toNat]?).toArray=((xs.toList.drop i).take k).toArray:=by
 have e:(fun (m:Nat)=>xs[((i:Int)+(m:Int) * 1).toNat]?)=fun m=>xs[i+m]?:=by
  funext m
  have:((i:Int)+(m:Int) * 1).toNat=i+m:=by lia
  rw [this]
 rw [e]
 have:=pick_run xs i k
 rw [List.filterMap_map] at this
 have e2:((fun x=>xs[x]?) ∘ fun x=>i+x)=fun m=>xs[i+m]?:=rfl
 rw [e2] at this
 rw [this]
theorem ac8 {t sl:Addr}{items:Array Value}{vl vu:Value}{lo hi:Option Int}{Q:Value->Shared->Prop} (ht:IsTup s.heap t items) (hs:s.heap.IsSliceOf sl vl vu .none) (pl:IsPart vl lo) (pu:IsPart vu hi)
  (hw : ¬ (aV items.size 0 lo=0/\aV items.size items.size hi=items.size))
  (h:Q (.ref s.heap.objs.size) { s with heap:=s.heap.push { cls:=.type "tuple",data:=.seq ((items.toList.drop (aV items.size 0 lo)).take (aV items.size items.size hi - aV items.size 0 lo)).toArray } })
  (hsz:items.size<=sizeLine):wpAny (model prog w) A (getItem (.ref t) (.ref sl)) Q E s:=by
 have htake:sizeOk (.seq ((items.toList.drop (aV items.size 0 lo)).take (aV items.size items.size hi - aV items.size 0 lo)).toArray):=by
  show ((items.toList.drop (aV items.size 0 lo)).take (aV items.size items.size hi - aV items.size 0 lo)).toArray.size<=sizeLine
  rw [aN3,aV4,aW7,Array.length_toList]
  lia
 have hj:aV items.size items.size hi<=items.size:=ac4 _ _ (aO0 _) hi
 obtain ⟨os,hos,hcs,hds⟩:=id hs
 have hTs:s.TypeIs (.ref sl) "slice":=⟨os,hos,hcs⟩
 unfold getItem
 try with_reducible refine aZ2 ?_
 first | refine aN2 (aO6 ?_) | skip
 refine aN2 (wpAny_sequenceKey ht.typeIs (by decide) ?_)
 refine aN2 (aU7 (name:=Str.ofString "__getitem__") ht.typeIs aX7
  (aV5 aX7 ht.typeIs entry_tuple_getitem ?_ (args_tuple_getitem _ _)))
 show wpAny _ _ (Builtin.Tuple.tupleItemsOf (.ref t) >>= _) _ _ s
 refine aN2 (tupleItemsOf_ ht ?_)
 refine aN2 (wpAny_typeOf hTs ?_)
 rw [if_pos (by decide)]
 refine aN2 (xG hs pl pu ?_)
 have hno : ¬ ((((aV items.size 0 lo:Nat):Int) == 0 && (1:Int) == 1 && (aV items.size items.size hi - aV items.size 0 lo) == items.size)=true):=by
  intro q
  rw [aR4,aR4] at q
  have q1:((aV items.size 0 lo:Nat):Int)=0:=eq_of_beq q.1.1
  have q2:aV items.size items.size hi - aV items.size 0 lo=items.size:=eq_of_beq q.2
  exact hw ⟨by lia,by lia⟩
 show wpAny _ _ (if (((aV items.size 0 lo:Nat):Int) == 0 && (1:Int) == 1 && (aV items.size items.size hi - aV items.size 0 lo) == items.size)=true then _ else _) _ _ s
 rw [if_neg hno,ac7]
 first
  | exact aN2 (m:=Builtin.Tuple.tupleExact _) (aU0 (aO6 ⟨_,rfl,aO6 h⟩) htake)
  | exact aN2 (m:=Builtin.Tuple.tupleExact _) (aU0 (aN2 (aO6 (aO6 ⟨_,rfl,aO6 h⟩))) htake)
  | exact aN2 (aN2 (m:=Builtin.Tuple.tupleExact _) (aU0 (aO6 (aO6 ⟨_,rfl,aO6 h⟩)) htake))
  | exact aN2 (aN2 (m:=Builtin.Tuple.tupleExact _) (aU0 (aO6 ⟨_,rfl,aO6 h⟩) htake))
end
end HT
namespace L2
open PySem PySem.Spec PyProof.Rows
noncomputable abbrev TO:=St->Hp->(Option Int->Hp->Prop)->Prop
noncomputable def PO (X:Cx) (e:Option Expr) (t:TO):Prop:=
 ∀ (pins:List (Addr × Obj)) (s:Shared) (σ:St) (H:Hp) (Q:Option Int->Hp->Prop),a6 X pins σ H s->t σ H Q->
  wpAny (model X.prog X.w) X.A (evalPart e X.env) (fun u s'=>∃ o H',a6 X pins σ H' s'/\IsPart u o/\Q o H') X.xe s
noncomputable def ac9:TO:=fun _ H Q=>Q none H
noncomputable def ad0 (t:TE):TO:=fun σ H Q=>t σ H fun x H1=>∃ i,x = .int i/\Q (some i) H1
theorem oI {ns:List Int}:∀ {us:List Value},aK (ns.map V.int) us->IntsAre us ns:=by
 induction ns with
 | nil=>intro us r; rw [List.map_nil] at r; cases r; exact .nil
 | cons n ns ih=>
  intro us r
  rw [aS6] at r
  cases r with
  | cons r1 r2=>
   obtain ⟨t,e⟩:=r1
   subst e
   exact .cons n t (ih r2)
section
variable {X : Cx} {e : Expr} {te : TE} {lo hi : Option Expr} {tl th : TO} {pos p2 : Pos}
theorem sH:PO X none ac9:=by
 intro pins s σ H Q I h
 rw [evalPart_none]
 exact aO6 ⟨none,H,I,.none,h⟩
theorem sI (h:PE X e te):PO X (some e) (ad0 te):=by
 intro pins s σ H Q I hw
 rw [evalPart_some]
 refine aO (h pins s σ H _ I hw) fun u s1 ⟨x,H1,I1,r1,q1⟩=>?_
 obtain ⟨i,rfl,q⟩:=q1
 obtain ⟨t,rfl⟩:=r1
 exact⟨some i,H1,I1,.int i t,q⟩
noncomputable def jJ (X:Cx) (r:V->Option Int->Option Int->Hp->VK->Prop):Prop:=
 ∀ (pins:List (Addr × Obj)) (s:Shared) (σ:St) (H:Hp) (x:V) (v vl vu:Value) (lo hi:Option Int) (sl:Addr) (Q:VK),a6 X pins σ H s->aT x v->s.heap.IsSliceOf sl vl vu .none->IsPart vl lo->IsPart vu hi->r x lo hi H Q->
  ∃ T id,typeLookup (.type T) "__getitem__" = pure (some (.builtin id))/\s.TypeIs v T/\wpAny (model X.prog X.w) X.A (getItem v (.ref sl)) (EP X pins σ Q) X.xe s
theorem jJ.or {r r':V->Option Int->Option Int->Hp->VK->Prop} (h:jJ X r) (h':jJ X r'):jJ X (fun x lo hi H Q=>r x lo hi H Q ∨ r' x lo hi H Q):=by
 intro pins s σ H x v vl vu lo hi sl Q I rx hs pl pu q
 rcases q with q | q
 ·exact h pins s σ H x v vl vu lo hi sl Q I rx hs pl pu q
 ·exact h' pins s σ H x v vl vu lo hi sl Q I rx hs pl pu q
noncomputable def tSl (r:V->Option Int->Option Int->Hp->VK->Prop) (te:TE) (tl th:TO):TE:=fun σ H Q=>te σ H fun x H1=>tl σ H1 fun l H2=>th σ H2 fun u H3=>r x l u H3 Q
theorem sJ {r:V->Option Int->Option Int->Hp->VK->Prop} (hr:jJ X r) (he:PE X e te) (hl:PO X lo tl) (hu:PO X hi th):PE X (.Subscript e (.Slice lo hi none p2) pos) (tSl r te tl th):=by
 intro pins s σ H Q I h
 refine Subscript_ (aO (he pins s σ H _ I h) fun v s1 ⟨x,H1,I1,r1,q1⟩=>?_)
 refine wpAny_Slice (aO (hl pins s1 σ H1 _ I1 q1) fun vl s2 ⟨l,H2,I2,pl,q2⟩=>aO (hu pins s2 σ H2 _ I2 q2) fun vu s3 ⟨u,H3,I3,pu,q3⟩=>?_)
 rw [evalPart_none]
 refine aO6 ?_
 have I4:a6 X pins σ H3 { s3 with heap:=s3.heap.push { cls:=.type "slice",data:=.fields #[vl,vu,.none] } }:=I3.kept (t':=s3.toks) fun b ob q=>aN4 _ q
 obtain ⟨T,id,hT,ht,hg⟩:=hr pins { s3 with heap:=s3.heap.push { cls:=.type "slice",data:=.fields #[vl,vu,.none] } } σ H3 x v vl vu l u s3.heap.objs.size Q I4 r1 (Heap.IsSliceOf.new ..) pl pu q3
 show wpAny (model X.prog X.w) X.A (subscriptTail e (.Slice lo hi none p2) v (.ref s3.heap.objs.size)) (EP X pins σ Q) X.xe { s3 with heap:=s3.heap.push { cls:=.type "slice",data:=.fields #[vl,vu,.none] } }
 exact tail_any (ops:=[.ref s3.heap.objs.size,v]) ht hT hg (by with_unfolding_all rfl)
noncomputable def e7 (xs:List V) (lo hi:Option Int):List V:=(xs.drop (HT.aV xs.length 0 lo)).take (HT.aV xs.length xs.length hi - HT.aV xs.length 0 lo)
theorem xH (xs:List V) (lo hi:Option Int):(e7 xs lo hi).length<=xs.length:=by
 unfold e7
 rw [aV4,aW7]
 lia
noncomputable def ad1 (K:PySem.W.Frag):V->Option Int->Option Int->Hp->VK->Prop:=fun x lo hi H Q=>∃ a xs,x = .ref a/\aM K H a xs/\
 ¬ (HT.aV xs.length 0 lo=0/\HT.aV xs.length xs.length hi=xs.length)/\∀ p,H p=none->Q (.ref p) (upd H p (.tup (e7 xs lo hi)))
theorem ad2:jJ X (ad1 X.K):=by
 intro pins s σ H x v vl vu lo hi sl Q I rx hs pl pu h
 obtain ⟨a,xs,rfl,hx,hw,q⟩:=h
 cases rx
 obtain ⟨its,r,ht,hz⟩:=I.tuple hx
 have hlen:its.toArray.size=xs.length:=by rw [aN3]; exact r.length.symm
 refine⟨"tuple",_,PyProof.Rows.slot_tuple_getitem.lookup,ht.typeIs,?_⟩
 refine HT.ac8 ht hs pl pu (by rw [hlen]; exact hw) ?_ (by rw [hlen]; exact hz)
 rw [hlen]
 refine⟨.ref s.heap.objs.size,_,I.laid (t':=s.toks) (o:=.tup (e7 xs lo hi)) (fun b ob q=>aN4 _ q) (aO0 _) ?_,rfl,q _ (I.hok.fresh (aO0 _))⟩
 exact⟨aS0 (xH xs lo hi) hz,_,(r.drop (HT.aV xs.length 0 lo)).take (HT.aV xs.length xs.length hi - HT.aV xs.length 0 lo),IsTup.new _ _,iI.new _ _ rfl⟩
end
noncomputable def fJ (n:Nat) (i:Int):Option Nat:=if 0<=i then (if i < n then some i.toNat else none) else if -(n:Int)<=i then some (i+n).toNat else none
noncomputable def atI {α:Type} (xs:List α) (i:Int):Option α:=(fJ xs.length i).bind fun j=>xs[j]?
theorem xI {n:Nat}{i:Int}{j:Nat} (h:fJ n i=some j):seqIndex? i n=some j/\j < n/\-(n:Int)<=i/\i < n:=by
 unfold fJ at h
 by_cases h0:0<=i
 ·rw [if_pos h0] at h
  by_cases h1:i < n
  ·rw [if_pos h1] at h
   have e:i.toNat=j:=aQ5 h
   exact⟨by rw [seqIndex_of h0 h1,e],by lia,by lia,h1⟩
  ·rw [if_neg h1] at h; cases h
 ·rw [if_neg h0] at h
  by_cases h1 : -(n:Int)<=i
  ·rw [if_pos h1] at h
   have e:(i+n).toNat=j:=aQ5 h
   exact⟨by rw [seqIndex_neg (by lia) h1,e],by lia,h1,by lia⟩
  ·rw [if_neg h1] at h; cases h
theorem sK {α:Type}{xs:List α}{i:Int}{v:α} (h:atI xs i=some v):∃ j,seqIndex? i xs.length=some j/\xs[j]? = some v/\j < xs.length/\-(xs.length:Int)<=i/\i < xs.length:=by
 unfold atI at h
 cases e:fJ xs.length i with
 | none=>rw [e] at h; cases h
 | some j=>
  rw [e] at h
  obtain ⟨h1,h2,h3,h4⟩:=xI e
  exact⟨j,h1,h,h2,h3,h4⟩
theorem iN {α:Type}{xs:List α}{j:Nat}{v:α} (h:xs[j]? = some v):atI xs (j:Int)=some v:=by
 have hj:j < xs.length:=(aN9.mp h).1
 have e:fJ xs.length (j:Int)=some j:=by
  unfold fJ
  rw [if_pos (by lia),if_pos (by lia)]; simp
 unfold atI; rw [e]; exact h
noncomputable def xJ (b:Expr):Prop:=∀ o i,subscripted b false o i=operate [o,i] (getItem o i)
noncomputable def iO (X:Cx) (r:R2):Prop:=
 ∀ (value slice:Expr) (pins:List (Addr × Obj)) (s:Shared) (σ:St) (H:Hp) (x y:V) (v u:Value) (Q:VK),a6 X pins σ H s->aT x v->aT y u->r x y H Q->
  subscripted slice false v u=operate [v,u] (getItem v u)->wpAny (model X.prog X.w) X.A (subscriptTail value slice v u) (EP X pins σ Q) X.xe s
noncomputable def xK (X:Cx) (id:String) (r:V->List V->Hp->VK->Prop):Prop:=
 ∀ (pins:List (Addr × Obj)) (s:Shared) (σ:St) (H:Hp) (x:V) (xs:List V) (v:Value) (us:List Value) (Q:VK),a6 X pins σ H s->aT x v->aK xs us->r x xs H Q->
  wpAny (model X.prog X.w) X.A (call (.builtin id) (v :: us)) (EP X pins σ Q) X.xe s
section
variable {X : Cx} {a b : Expr} {ta tb : TE} {pos : Pos}
theorem iO.or {r r':R2} (h:iO X r) (h':iO X r'):iO X (fun x y H Q=>r x y H Q ∨ r' x y H Q):=by
 intro value slice pins s σ H x y v u Q I rx ry q hs
 rcases q with q | q
 ·exact h value slice pins s σ H x y v u Q I rx ry q hs
 ·exact h' value slice pins s σ H x y v u Q I rx ry q hs
theorem iP {r:R2} (hr:iO X r) (ha:PE X a ta) (hb:PE X b tb) (hs:xJ b):PE X (.Subscript a b pos) (mB r ta tb):=by
 intro pins s σ H Q I h
 exact Subscript_ (rS ha hb I h fun v u s2 x y H2 I2 rx ry q=>hr a b pins s2 σ H2 x y v u Q I2 rx ry q (hs _ _))
noncomputable def xM (K:PySem.W.Frag):R2:=fun x y H Q=>∃ p xs i v,x = .ref p/\y = .int i/\aJ K H p xs/\atI xs i=some v/\Q v H
noncomputable def xN (K:PySem.W.Frag):R2:=fun x y H Q=>∃ p xs i v,x = .ref p/\y = .int i/\aM K H p xs/\atI xs i=some v/\Q v H
noncomputable def xO:R2:=fun x y H Q=>∃ z i c,x = .str z/\y = .int i/\z.length<=sizeLine/\atI z.cps.toList i=some c/\Q (.str ⟨#[c]⟩) H
theorem mF:iO X (xM X.K):=by
 intro value slice pins s σ H x y v u Q I rx ry h hs
 obtain ⟨p,xs,i,z,rfl,rfl,hq,he,q⟩:=h
 cases rx
 obtain ⟨t,rfl⟩:=ry
 obtain ⟨its,r,pl,hz⟩:=I.list hq
 obtain ⟨j,h1,h2,h3,h4,h5⟩:=sK he
 obtain ⟨w,ew,rw'⟩:=r.get h2
 have hl:=r.length
 have hn:=l6
 have fin:EP X pins σ Q w s:=⟨z,H,I,rw',q⟩
 by_cases h0:0<=i
 ·have hj:i.toNat=j:=by
   rw [seqIndex_of h0 h5] at h1
   exact aQ5 h1
  exact item_listR pl.isList h0 (by lia) (by rw [hj]; simpa using ew) fin hs
 ·have hj:(i+(its.toArray.size:Int)).toNat=j:=by
   rw [seqIndex_neg (by lia) h4] at h1
   rw [aN3,<- hl]
   exact aQ5 h1
  exact subscriptTail_builtinR (x:=w) pl.isList.typeIs slot_list_getitem.lookup
   (wpAny_getItem_list_neg (Q:=fun r s'=>r=w/\EP X pins σ Q r s') pl.isList (by lia) (by rw [aN3] <;> lia) (by lia) (by rw [hj]; simpa using ew) ⟨rfl,fin⟩) hs
theorem mG:iO X (xN X.K):=by
 intro value slice pins s σ H x y v u Q I rx ry h hs
 obtain ⟨p,xs,i,z,rfl,rfl,hq,he,q⟩:=h
 cases rx
 obtain ⟨t,rfl⟩:=ry
 obtain ⟨its,r,pl,hz⟩:=I.tuple hq
 obtain ⟨j,h1,h2,h3,h4,h5⟩:=sK he
 obtain ⟨w,ew,rw'⟩:=r.get h2
 have hl:=r.length
 have hn:=l6
 have fin:EP X pins σ Q w s:=⟨z,H,I,rw',q⟩
 exact subscriptTail_builtinR (x:=w) pl.typeIs slot_tuple_getitem.lookup
  (getItem_tuple (j:=j) (Q:=fun r s'=>r=w/\EP X pins σ Q r s') pl (by lia) (by lia) (by rw [aN3,<- hl]; exact h1) (by simpa using ew) ⟨rfl,fin⟩) hs
theorem ad3:iO X xO:=by
 intro value slice pins s σ H x y v u Q I rx ry h hs
 obtain ⟨z,i,c,rfl,rfl,hz,he,q⟩:=h
 obtain ⟨t,rfl⟩:=rx
 obtain ⟨t',rfl⟩:=ry
 obtain ⟨j,h1,h2,h3,h4,h5⟩:=sK he
 have hl:z.cps.toList.length=z.length:=by simp [Str.length]
 rw [hl] at h1 h4 h5
 have hn:=l6
 exact tail_any (typeIs_str s z t) slot_str_getitem.lookup (getItem_str (c:=c) (by
  have e1:decide (i < -(2 ^ 63:Int))=false:=aP0 (by lia)
  have e2:decide (i >= 2 ^ 63)=false:=aP0 (by lia)
  rw [e1,e2,Bool.or_false]) (by rw [h1]; simpa using h2) ⟨.str ⟨#[c]⟩,H,I.tok _,⟨_,rfl⟩,q⟩) hs
noncomputable def xP (K:PySem.W.Frag):R2:=fun x y H Q=>xM K x y H Q ∨ xN K x y H Q ∨ xO x y H Q
theorem ad4:iO X (xP X.K):=mF.or (mG.or ad3)
theorem ad5 (its:List Value) (n j:Nat) (u:Value):Obj.mapSeq (·.setIfInBounds j u) { cls:=.type "list",data:=.seq its.toArray n }={ cls:=.type "list",data:=.seq (its.set j u).toArray n }:=by
 simp [Obj.mapSeq]
theorem a6.lst {pins:List (Addr × Obj)}{σ:St}{H:Hp}{s:Shared}{p:Addr}{xs:List V} (I:a6 X pins σ H s) (h:H p=some (.lst xs)) :
  ∃ (its:List Value) (n:Nat),aK xs its/\s.heap.get? p=some { cls:=.type "list",data:=.seq its.toArray n }/\xs.length<=sizeLine:=by
 obtain ⟨z,its,n,r,e⟩:=I.hok p _ h
 exact⟨its,n,r,e,z⟩
theorem a6.lstUpd {pins:List (Addr × Obj)}{σ:St}{H:Hp}{s:Shared}{p:Addr}{xs ys:List V}{its its':List Value}{n n':Nat}{f:Obj->Obj} (I:a6 X pins σ H s) (h:H p=some (.lst xs))
  (ho:s.heap.get? p=some { cls:=.type "list",data:=.seq its.toArray n }) (hf:f { cls:=.type "list",data:=.seq its.toArray n }={ cls:=.type "list",data:=.seq its'.toArray n' }) (r:aK ys its') (hz:ys.length<=sizeLine) (t:Nat) :
  a6 X pins σ (upd H p (.lst ys)) { s with heap:=s.heap.update p f,toks:=t }:=by
 have e:(s.heap.update p f).get? p=some { cls:=.type "list",data:=.seq its'.toArray n' }:=by
  rw [Heap.get?_update_self f ho (by rw [hf] <;> rfl),hf]
 refine I.write (x:=p) (e:=p) (by rw [h]; trivial) (.inl rfl) (fun b u hb q=>(Heap.get?_update_other _ _ (Ne.symm hb)).trans q) ⟨_,e⟩ ?_
 exact⟨hz,its',n',r,e⟩
noncomputable def sL:V->V->V->Hp->(Hp->Prop)->Prop:=fun o i v H Q=>∃ p xs k j,o = .ref p/\i = .int k/\H p=some (.lst xs)/\fJ xs.length k=some j/\Q (upd H p (.lst (xs.set j v)))
theorem ad6:wJ X sL:=by
 intro pins s σ H o i v ov iv u Q I ro ri rv h
 obtain ⟨p,xs,k,j,rfl,rfl,hp,hj,q⟩:=h
 cases ro
 obtain ⟨t,rfl⟩:=ri
 obtain ⟨its,n,r,ho,hz⟩:=I.lst hp
 obtain ⟨h1,h2,h3,h4⟩:=xI hj
 have hl:=r.length
 have hn:=l6
 have I':a6 X pins σ (upd H p (.lst (xs.set j v))) { s with heap:=s.heap.update p (Obj.mapSeq (·.setIfInBounds j u)) }:=
  I.lstUpd hp ho (ad5 its n j u) (r.set rv j) (by rw [aR7]; exact hz) s.toks
 by_cases h0:0<=k
 ·have hk:k.toNat=j:=by
   rw [seqIndex_of h0 h4] at h1
   exact aQ5 h1
  exact PySem.W.ki_setAt ho h0 (by lia) (by rw [aN3,<- hl]; exact h4) (by rw [hk]; exact⟨_,I',q⟩)
 ·have hk:(k+(its.toArray.size:Int)).toNat=j:=by
   rw [seqIndex_neg (by lia) h3] at h1
   rw [aN3,<- hl]
   exact aQ5 h1
  exact PySem.W.ki_setBack ho (by lia) (by rw [aN3,<- hl]; exact h3) (by lia) (by rw [hk]; exact⟨_,I',q⟩)
theorem ad7 (lo hi:Option Int) (n:Nat):(sliceBounds lo hi none n).1=((HT.aV n 0 lo:Nat):Int)/\(sliceBounds lo hi none n).2.1=((HT.aV n n hi:Nat):Int)/\(sliceBounds lo hi none n).2.2=1:=by
 refine⟨?_,?_,rfl⟩
 ·cases lo with
  | none=>simp [sliceBounds,HT.aV]
  | some i=>
   simp only [sliceBounds,HT.aV,Option.getD_none,show (1:Int) > 0 by decide,if_true]
   by_cases h:i < 0
   ·simp only [h,if_true] <;> lia
   ·simp only [h,aT8] <;> lia
 ·cases hi with
  | none=>simp [sliceBounds,HT.aV]
  | some i=>
   simp only [sliceBounds,HT.aV,Option.getD_none,show (1:Int) > 0 by decide,if_true]
   by_cases h:i < 0
   ·simp only [h,if_true] <;> lia
   ·simp only [h,aT8] <;> lia
theorem ad8 (its:List Value) (lo hi:Option Int):slicePick its.toArray lo hi none=((its.drop (HT.aV its.length 0 lo)).take (HT.aV its.length its.length hi - HT.aV its.length 0 lo)).toArray:=by
 obtain ⟨h1,h2,h3⟩:=ad7 lo hi its.toArray.size
 unfold slicePick
 rw [h1,h2,h3]
 simp only [sliceRange_one,pick_run,aN3] <;> rfl
noncomputable def ad9 (K:PySem.W.Frag):V->Option Int->Option Int->Hp->VK->Prop:=fun x lo hi H Q=>∃ a xs,x = .ref a/\aJ K H a xs/\∀ p,H p=none->Q (.ref p) (upd H p (.lst (e7 xs lo hi)))
theorem xQ:jJ X (ad9 X.K):=by
 intro pins s σ H x v vl vu lo hi sl Q I rx hs pl pu h
 obtain ⟨a,xs,rfl,hx,q⟩:=h
 cases rx
 obtain ⟨its,r,ht,hz⟩:=I.list hx
 have hlen:=r.length
 refine⟨"list",_,slot_list_getitem.lookup,ht.isList.typeIs,?_⟩
 refine wpAny_getItem_list_slice ht.isList hs pl pu .none (by simp) ?_ (by rw [aN3] <;> lia)
 rw [ad8,<- hlen]
 refine⟨.ref s.heap.objs.size,_,I.laid (t':=s.toks) (o:=.lst (e7 xs lo hi)) (fun b ob q=>aN4 _ q) (aO0 _) ?_,rfl,q _ (I.hok.fresh (aO0 _))⟩
 exact⟨aS0 (xH xs lo hi) hz,_,0,(r.drop (HT.aV xs.length 0 lo)).take (HT.aV xs.length xs.length hi - HT.aV xs.length 0 lo),aP5 _ rfl⟩
noncomputable def iQ:V->Bool
 | .non=>true
 | .bl _=>true
 | .int _=>true
 | .str _=>true
 | _=>false
noncomputable def gN:V->V->Bool
 | .non,.non=>true
 | .bl a,.bl b=>a == b
 | .bl a,.int b=>(if a then 1 else 0) == b
 | .int a,.bl b=>a == (if b then 1 else 0)
 | .int a,.int b=>a == b
 | .str a,.str b=>a == b
 | _,_=>false
theorem ae0 {A:Around}{s:Shared}{y x:V}{u v:Value} (ry:aT y u) (rx:aT x v) (fy:iQ y=true) (fx:iQ x=true):SeqAt.EqAt A s u v (gN y x):=by
 cases y with
 | non=>
  cases ry
  cases x with
  | non=>cases rx; exact SeqAt.EqAt.same _
  | bl b=>cases rx; exact SeqAt.EqAt.none_bool b
  | int b=>obtain ⟨t,rfl⟩:=rx; exact SeqAt.EqAt.none_int b t
  | str b=>obtain ⟨t,rfl⟩:=rx; exact SeqAt.EqAt.none_str b t
  | _=>exact absurd (show false=true from fx) aP2
 | bl a=>
  cases ry
  cases x with
  | non=>cases rx; exact SeqAt.EqAt.bool_none a
  | bl b=>cases rx; exact SeqAt.EqAt.bool_bool a b
  | int b=>obtain ⟨t,rfl⟩:=rx; exact SeqAt.EqAt.bool_int a b t
  | str b=>obtain ⟨t,rfl⟩:=rx; exact SeqAt.EqAt.bool_str a b t
  | _=>exact absurd (show false=true from fx) aP2
 | int a=>
  obtain ⟨t',rfl⟩:=ry
  cases x with
  | non=>cases rx; exact SeqAt.EqAt.int_none a t'
  | bl b=>cases rx; exact SeqAt.EqAt.int_bool a t' b
  | int b=>obtain ⟨t,rfl⟩:=rx; exact SeqAt.EqAt.int_int a t' b t
  | str b=>obtain ⟨t,rfl⟩:=rx; exact SeqAt.EqAt.int_str a t' b t
  | _=>exact absurd (show false=true from fx) aP2
 | str a=>
  obtain ⟨t',rfl⟩:=ry
  cases x with
  | non=>cases rx; exact SeqAt.EqAt.str_none a t'
  | bl b=>cases rx; exact SeqAt.EqAt.str_bool a t' b
  | int b=>obtain ⟨t,rfl⟩:=rx; exact SeqAt.EqAt.str_int a t' b t
  | str b=>obtain ⟨t,rfl⟩:=rx; exact SeqAt.EqAt.str_str a t' b t
  | _=>exact absurd (show false=true from fx) aP2
 | _=>exact absurd (show false=true from fy) aP2
noncomputable def iR (x:V) (u:Value):Bool:=match u with
 | .none=>gN .non x
 | .bool b=>gN (.bl b) x
 | .int i _=>gN (.int i) x
 | .str z _=>gN (.str z) x
 | _=>false
theorem xR {x y:V}{u:Value} (r:aT y u) (f:iQ y=true):iR x u=gN y x:=by
 cases y with
 | non=>cases r; rfl
 | bl b=>cases r; rfl
 | int i=>obtain ⟨t,rfl⟩:=r; rfl
 | str z=>obtain ⟨t,rfl⟩:=r; rfl
 | _=>exact absurd (show false=true from f) aP2
theorem sM {x:V}:∀ {xs:List V}{us:List Value},aK xs us->xs.all iQ=true->us.any (iR x)=xs.any fun y=>gN y x
 | _,_,.nil,_=>rfl
 | y :: xs,u :: us,.cons r t,f=>by
  rw [aW9,aR4] at f
  rw [aZ3,aZ3,xR r f.1,sM t f.2]
theorem sN {A:Around}{s:Shared}{x:V}{v:Value} (rx:aT x v) (fx:iQ x=true):∀ {xs:List V}{us:List Value},aK xs us->xs.all iQ=true->∀ u ∈ us,SeqAt.EqAt A s u v (iR x u)
 | _,_,.nil,_=>fun u hu=>by cases hu
 | y :: xs,u :: us,.cons r t,f=>fun u' hu=>by
  rw [aW9,aR4] at f
  rcases aO7.mp hu with rfl | hu
  ·rw [xR r f.1]; exact ae0 r rx f.1 fx
  ·exact sN rx fx t f.2 u' hu
noncomputable def mH (x:V) (xs:List V):Bool:=xs.any fun y=>gN y x
noncomputable def xS (K:PySem.W.Frag) (neg:Bool):R2:=fun x y H Q=>∃ p xs,y = .ref p/\(aJ K H p xs ∨ aM K H p xs)/\iQ x=true/\xs.all iQ=true/\Q (.bl (if neg then !mH x xs else mH x xs)) H
theorem ae1:cE X (compareOp .NotIn) (xS X.K true):=by
 intro pins s σ H x y v u Q I rx ry h
 obtain ⟨p,xs,rfl,hq,fx,fs,q⟩:=h
 cases ry
 rcases hq with hq | hq
 ·obtain ⟨its,r,pl,hz⟩:=I.list hq
  refine SeqAt.notIn_listAt (iR x) pl.isList (fun w hw=>sN rx fx r fs w (by simpa using hw)) ⟨.bl _,H,I,rfl,?_⟩
  rw [show its.toArray.any (iR x)=its.any (iR x) by simp,sM r fs]
  exact q
 ·obtain ⟨its,r,pl,hz⟩:=I.tuple hq
  refine SeqAt.notIn_tupleAt (iR x) pl (fun w hw=>sN rx fx r fs w (by simpa using hw)) ⟨.bl _,H,I,rfl,?_⟩
  rw [show its.toArray.any (iR x)=its.any (iR x) by simp,sM r fs]
  exact q
theorem ae2:cK X (.builtin "len") (fun xs H Q=>∃ p ys,xs = [.ref p]/\(aJ X.K H p ys ∨ aM X.K H p ys)/\Q (.int ys.length) H):=by
 intro pins s σ H xs us Q I r h
 obtain ⟨p,ys,rfl,hq,q⟩:=h
 obtain ⟨u,rfl,rx⟩:=gM r
 cases rx
 have hn:=l6
 rcases hq with hq | hq
 ·obtain ⟨its,r',pl,hz⟩:=I.list hq
  have hlen:=r'.length
  exact Calls.call_len_list pl.isList (by simp only [aN3] <;> lia) ⟨.int ys.length,H,I.tok _,⟨s.toks+1,by rw [aN3,hlen]⟩,q⟩
 ·obtain ⟨its,r',pl,hz⟩:=I.tuple hq
  have hlen:=r'.length
  exact len_tuple pl (by simp only [aN3] <;> lia) ⟨.int ys.length,H,I.tok _,⟨s.toks+1,by rw [aN3,hlen]⟩,q⟩
theorem cK.or {f:Value}{r r':List V->Hp->VK->Prop} (h:cK X f r) (h':cK X f r'):cK X f (fun xs H Q=>r xs H Q ∨ r' xs H Q):=by
 intro pins s σ H xs us Q I rs q
 rcases q with q | q
 ·exact h pins s σ H xs us Q I rs q
 ·exact h' pins s σ H xs us Q I rs q
theorem ae3:cK X (.type "list") (fun xs H Q=>∃ p ys,xs = [.ref p]/\(aJ X.K H p ys ∨ aM X.K H p ys)/\∀ l,H l=none->Q (.ref l) (upd H l (.lst ys))):=by
 intro pins s σ H xs us Q I r h
 obtain ⟨p,ys,rfl,hq,q⟩:=h
 obtain ⟨u,rfl,rx⟩:=gM r
 cases rx
 have fin:∀ (its:List Value),aK ys its->ys.length<=sizeLine->∀ (h':Heap) (c':Nat),(∀ b o',s.heap.get? b=some o'->h'.get? b=some o')->
   h'.get? s.heap.objs.size=some { cls:=.type "list",dict:=none,data:=.seq its.toArray c',slots:=#[] }->EP X pins σ Q (.ref s.heap.objs.size) { s with heap:=h' }:=fun its r' hz h' c' kp e=>
  ⟨.ref s.heap.objs.size,_,I.laid (t':=s.toks) kp (aO0 _) (show bL X.prog X.w _ h' _ (.lst ys) from ⟨hz,its,c',r',e⟩),rfl,q _ (I.hok.fresh (aO0 _))⟩
 rcases hq with hq | hq
 ·obtain ⟨its,r',pl,hz⟩:=I.list hq
  have hlen:=r'.length
  obtain ⟨o,ho,hc,n,hd⟩:=pl.isList
  exact call_list_seq p (.inl rfl) ho hc hd (fun h' c' kp e=>fin its r' hz h' c' kp e) (by simp only [aN3] <;> lia)
 ·obtain ⟨its,r',pl,hz⟩:=I.tuple hq
  have hlen:=r'.length
  obtain ⟨o,ho,hc,n,hd⟩:=pl
  exact call_list_seq p (.inr rfl) ho hc hd (fun h' c' kp e=>fin its r' hz h' c' kp e) (by simp only [aN3] <;> lia)
theorem ae4:cK X (.type "tuple") (fun xs H Q=>∃ p ys,xs = [.ref p]/\((aJ X.K H p ys/\∀ l,H l=none->Q (.ref l) (upd H l (.tup ys))) ∨ (aM X.K H p ys/\Q (.ref p) H))):=by
 intro pins s σ H xs us Q I r h
 obtain ⟨p,ys,rfl,h⟩:=h
 obtain ⟨u,rfl,rx⟩:=gM r
 cases rx
 rcases h with ⟨hq,q⟩ | ⟨hq,q⟩
 ·obtain ⟨its,r',pl,hz⟩:=I.list hq
  have hlen:=r'.length
  refine call_tuple_list pl.isList (fun h' kp=>?_) (by simp only [aN3] <;> lia)
  have I1:a6 X pins σ H { s with heap:=h' }:=I.kept (t':=s.toks) kp
  have I2:a6 X pins σ (upd H h'.objs.size (.tup ys)) { s with heap:=h'.push { cls:=.type "tuple",data:=.seq its.toArray } }:=
   I1.laid (t':=s.toks) (fun b o e=>aN4 _ e) (aO0 _) (show bL X.prog X.w _ _ _ (.tup ys) from ⟨hz,its,r',IsTup.new _ _,iI.new _ _ rfl⟩)
  exact⟨.ref h'.objs.size,_,I2,rfl,q _ (I1.hok.fresh (aO0 _))⟩
 ·obtain ⟨its,r',pl,hz⟩:=I.tuple hq
  exact call_tuple_same pl ⟨.ref p,H,I,rfl,q⟩
noncomputable def mI (K:PySem.W.Frag) (T:String) (x:V) (H:Hp):Prop:=match x with
 | .str _=>T="str"
 | .int _=>T="int"
 | .ref p=>(T="list"/\∃ xs,aJ K H p xs) ∨ (T="tuple"/\∃ o,K.lookup p=some o/\o.cls = .type "tuple"/\o.dict=none) ∨
   (T="dict"/\((∃ kvs,H p=some (.dK kvs)) ∨ ∃ kvs,H p=some (.dT kvs))) ∨ (T="set"/\∃ S n,H p=some (.set S n))
 | _=>False
theorem xT {pins:List (Addr × Obj)}{σ:St}{H:Hp}{s:Shared}{T:String}{x:V}{v:Value} (I:a6 X pins σ H s) (r:aT x v) (ty:mI X.K T x H) :
  s.TypeIs v T/\∀ a,v = .ref a->∃ ob,s.heap.get? a=some ob/\ob.dict=none:=by
 cases x with
 | str z=>
  obtain ⟨t,rfl⟩:=r
  cases (show T="str" from ty)
  exact⟨typeIs_str s z t,fun _ e=>nomatch e⟩
 | int i=>
  obtain ⟨t,rfl⟩:=r
  cases (show T="int" from ty)
  exact⟨typeIs_int s i t,fun _ e=>nomatch e⟩
 | ref p=>
  cases r
  rcases ty with ⟨rfl,xs,hq⟩ | ⟨rfl,o,hk,hc,hd⟩ | ⟨rfl,hk⟩ | ⟨rfl,S,n,hk⟩
  ·obtain ⟨its,_,pl,_⟩:=I.list hq
   refine⟨pl.isList.typeIs,fun a e=>?_⟩
   cases e
   obtain ⟨o,n,e,c,hd,_⟩:=pl
   exact⟨o,e,hd⟩
  ·refine⟨⟨o,I.kIn p o hk,hc⟩,fun a e=>?_⟩
   cases e
   exact⟨o,I.kIn _ o hk,hd⟩
  ·have z:∃ o,s.heap.get? p=some o/\o.ExactDict:=by
    rcases hk with ⟨kvs,hk⟩ | ⟨kvs,hk⟩
    ·obtain ⟨_,_,_,_,o,_,_,e,ex,_⟩:=I.hok p _ hk
     exact⟨o,e,ex⟩
    ·obtain ⟨_,_,_,_,o,_,_,e,ex,_⟩:=I.hok p _ hk
     exact⟨o,e,ex⟩
   obtain ⟨o,e,ex⟩:=z
   refine⟨⟨o,e,ex.1⟩,fun a e2=>?_⟩
   cases e2
   exact⟨o,e,ex.2.1⟩
  ·obtain ⟨o,_,_,_,e,ex,_⟩:=I.hok p _ hk
   refine⟨⟨o,e,ex.1⟩,fun a e2=>?_⟩
   cases e2
   exact⟨o,e,ex.2.1⟩
 | _=>exact False.elim ty
noncomputable def xV (K:PySem.W.Frag) (T:String) (r:V->List V->Hp->VK->Prop) (to:TE):TE:=fun σ H Q=>to σ H fun x H1=>mI K T x H1/\r x [] H1 Q
noncomputable def oJ (K:PySem.W.Frag) (T:String) (r:V->List V->Hp->VK->Prop) (to:TE) (t:TA):TE:=fun σ H Q=>to σ H fun x H1=>mI K T x H1/\t σ H1 fun xs H2=>r x xs H2 Q
variable {o e : Expr} {es : List Expr} {to : TE} {t : TA} {name : Str} {apos cpos : Pos} {T id : String} {r : V → List V → Hp → VK → Prop}
theorem ae5 (pa:PlainAttrs T) (slot:Slot T name id) (hty:typeOf (.builtin id)=pure (.type "method_descriptor")) (hm:xK X id r) (ho:PE X o to)
  (hbase:attributeBase o name X.env (eval o X.env)=eval o X.env:=by rfl) (hline:(apos.endLine == cpos.line)=true:=by rfl):PE X (.Call (.Attribute o name apos) [] [] cpos) (xV X.K T r to):=by
 intro pins s σ H Q I h
 refine wpAny_Call_method0_late hbase hline (aO (ho pins s σ H _ I h) fun v s1 ⟨x,H1,I1,r1,ty,q1⟩=>?_)
 obtain ⟨h1,h2⟩:=xT I1 r1 ty
 exact⟨T,id,pa,slot,hty,h1,h2,Calls.callWith_builtin rfl (PySem.evalArgs_none (hm pins s1 σ H1 x [] v [] Q I1 r1 .nil q1))⟩
theorem kB (pa:PlainAttrs T) (slot:Slot T name id) (hty:typeOf (.builtin id)=pure (.type "method_descriptor")) (hm:xK X id r) (ho:PE X o to) (ha:PA X (e :: es) t)
  (hbase:attributeBase o name X.env (eval o X.env)=eval o X.env:=by rfl)
  (hfew:((backTo cpos (starEach (e :: es) X.env)).all (fun x=>!x.1) && (backToKw cpos (keywordEach [] X.env)).all (fun x=>x.1.isSome)
   && decide ((e :: es).length+([]:List Keyword).length+(if ([]:List Keyword).isEmpty then 0 else 1) < 30))=true:=by rfl)
  (hline:(apos.endLine == cpos.line)=true:=by rfl) (hs:starEach (e :: es) X.env=(false,eval e X.env) :: starEach es X.env:=by rfl) (hplain:(backTo cpos (starEach es X.env)).any (·.1)=false:=by rfl) :
  PE X (.Call (.Attribute o name apos) (e :: es) [] cpos) (oJ X.K T r to t):=by
 intro pins s σ H Q I h
 refine wpAny_Call_method_late hbase hfew hline rfl (aO (ho pins s σ H _ I h) fun v s1 ⟨x,H1,I1,r1,ty,q1⟩=>?_)
 obtain ⟨h1,h2⟩:=xT I1 r1 ty
 refine⟨T,id,pa,slot,hty,h1,h2,?_⟩
 have hA:=ha cpos pins s1 σ H1 _ I1 q1
 rw [hs] at hA ⊢
 refine Calls.callWith_builtin (by show (false || (backTo cpos (starEach es X.env)).any (·.1))=false; rw [hplain] <;> rfl) (Calls.evalArgs_plain ?_)
 exact aO hA fun us s2 ⟨vs,H2,I2,r2,q2⟩=>hm pins s2 σ H2 x vs v us Q I2 r1 r2 q2
end
noncomputable def l7 (X:Cx) (id:String) (r:V->List V->Hp->VK->Prop):Prop:=
 ∀ (pins:List (Addr × Obj)) (s:Shared) (σ:St) (H:Hp) (x:V) (xs:List V) (v:Value) (us:List Value) (Q:VK),a6 X pins σ H s->aT x v->aK xs us->r x xs H Q->
  wpAny (model X.prog X.w) X.A (call (.builtin id) (v :: us)) (EP X pins σ Q) X.xe s
theorem aK.one {x:V}{us:List Value} (h:aK [x] us):∃ u,us = [u]/\aT x u:=by
 cases h with
 | cons r t=>
  cases t
  exact⟨_,rfl,r⟩
theorem aK.two {x y:V}{us:List Value} (h:aK [x,y] us):∃ u v,us = [u,v]/\aT x u/\aT y v:=by
 cases h with
 | cons r t=>
  cases t with
  | cons q t=>
   cases t
   exact⟨_,_,rfl,r,q⟩
theorem aK.zero:∀ {us:List Value},aK [] us->us = []
 | _,.nil=>rfl
theorem aK.dropLast {xs:List V}{us:List Value} (h:aK xs us):aK xs.dropLast us.dropLast:=by
 induction h with
 | nil=>exact .nil
 | cons r t ih=>
  cases t with
  | nil=>exact .nil
  | cons q t'=>exact .cons r ih
theorem aK.rep {xs:List V}{us:List Value} (h:aK xs us):∀ k:Nat,aK (List.replicate k xs).flatten (List.replicate k us).flatten
 | 0=>.nil
 | k+1=>by
  rw [aR8,aR8,aW0,aW0]
  exact aK.append h (aK.rep h k)
theorem ae6 {α:Type} (l:List α):l.eraseIdx (l.length - 1)=l.dropLast:=by
 induction l with
 | nil=>rfl
 | cons a r ih=>
  cases r with
  | nil=>rfl
  | cons b r=>
   have e:(a :: b :: r).length - 1=((b :: r).length - 1)+1:=by
    have h1:(a :: b :: r).length=r.length+2:=rfl
    have h2:(b :: r).length=r.length+1:=rfl
    lia
   rw [e,List.eraseIdx_cons_succ,ih]
   all_goals rfl
theorem xW (its:List Value):∀ (k:Nat) (acc:List Value),
  List.foldl (fun x1 x2=>x1 ++ x2) acc.toArray (List.replicate k its.toArray)=(acc ++ (List.replicate k its).flatten).toArray
 | 0,acc=>by simp
 | k+1,acc=>by
  have e:acc.toArray ++ its.toArray=(acc ++ its).toArray:=by simp
  have e2:(acc ++ its) ++ (List.replicate k its).flatten=acc ++ (List.replicate (k+1) its).flatten:=by
   rw [aR8,aW0,List.append_assoc]
  rw [<- e2,<- xW its k (acc ++ its),<- e,aR8,List.foldl_cons]
section
variable {X : Cx} {pins : List (Addr × Obj)} {σ : St} {H : Hp} {s : Shared} {l b : Addr} {xs ys zs : List V}
theorem a6.lset {its its':List Value}{n:Nat}{f:Array Value->Array Value}{t':Nat} (I:a6 X pins σ H s) (hH:H l=some (.lst xs))
  (e:s.heap.get? l=some { cls:=.type "list",data:=.seq its.toArray n }) (hf:f its.toArray=its'.toArray) (hv:aK ys its') (hz:ys.length<=sizeLine) :
  a6 X pins σ (upd H l (.lst ys)) { s with heap:=s.heap.update l (Obj.mapSeq f),toks:=t' }:=by
 have q:=PySem.IsL.update e f
 rw [hf] at q
 refine I.write (x:=l) (e:=l) (by rw [hH]; exact trivial) (.inl rfl) (fun b' u hb hu=>(Heap.get?_update_other s.heap (Obj.mapSeq f) (Ne.symm hb)).trans hu) ⟨_,q⟩ ?_
 exact⟨hz,its',_,hv,q⟩
theorem a6.lnew {its:List Value}{t':Nat} (I:a6 X pins σ H s) (hv:aK ys its) (hz:ys.length<=sizeLine) :
  a6 X pins σ (upd H s.heap.objs.size (.lst ys)) { s with heap:=s.heap.push { cls:=.type "list",data:=.seq its.toArray },toks:=t' }:=
 I.laid (fun _ _ q=>aN4 _ q) (aO0 _) ⟨hz,its,0,hv,aP5 _ rfl⟩
theorem a6.fresh (I:a6 X pins σ H s):H s.heap.objs.size=none:=I.hok.fresh (aO0 _)
theorem a6.lstM (I:a6 X pins σ H s) (hH:H l=some (.lst xs)):xs.length<=sizeLine/\∃ (its:List Value) (n:Nat),aK xs its/\xs.length=its.length/\s.heap.get? l=some { cls:=.type "list",data:=.seq its.toArray n }:=by
 obtain ⟨z,its,n,r,e⟩:=I.hok l _ hH
 exact⟨z,its,n,r,r.length,e⟩
theorem sO {n:Nat} (h:n<=sizeLine):Builtin.List.listTooLong n=false:=by
 unfold Builtin.List.listTooLong
 exact aP0 (by lia)
end
section
variable {X : Cx}
noncomputable def xX:V->List V->Hp->VK->Prop:=fun x vs H Q=>∃ l xs y,x = .ref l/\vs = [y]/\H l=some (.lst xs)/\xs.length < sizeLine/\Q .non (upd H l (.lst (xs ++ [y])))
theorem l8:l7 X "list.append" xX:=by
 intro pins s σ H x vs v us Q I rx rv h
 obtain ⟨l,xs,y,rfl,rfl,hH,hz,q⟩:=h
 cases rx
 obtain ⟨u,rfl,ru⟩:=rv.one
 obtain ⟨z,its,n,r,hl,e⟩:=I.lstM hH
 refine call_meets F.slot_list_append ⟨_,e,rfl⟩ F.entry_list_append (F.args_list_append_2 _ _) (PySem.list_append l its.toArray n u (by rw [aN3]; lia)) ⟨e,?_⟩
 refine⟨.non,_,I.lset (its':=its ++ [u]) hH e (by simp) (r.append (.cons ru .nil)) ?_,rfl,q⟩
 rw [aP7,aS2]
 lia
noncomputable def xY:V->List V->Hp->VK->Prop:=fun x vs H Q=>∃ l b xs zs,x = .ref l/\vs = [.ref b]/\H l=some (.lst xs)/\H b=some (.lst zs)/\xs.length+zs.length<=sizeLine/\Q .non (upd H l (.lst (xs ++ zs)))
theorem ae7:l7 X "list.extend" xY:=by
 intro pins s σ H x vs v us Q I rx rv h
 obtain ⟨l,b,xs,zs,rfl,rfl,hH,hB,hz,q⟩:=h
 cases rx
 obtain ⟨u,rfl,ru⟩:=rv.one
 cases ru
 obtain ⟨z,its,n,r,hl,e⟩:=I.lstM hH
 obtain ⟨z2,its2,n2,r2,hl2,e2⟩:=I.lstM hB
 have hsz:its.toArray.size+its2.toArray.size<=sizeLine:=by rw [aN3,aN3]; lia
 have hlong : ¬ (!its.toArray.isEmpty && Builtin.List.listTooLong (its.toArray.size+its2.toArray.size))=true:=by
  rw [sO hsz,aY3]
  exact aP2
 refine call_meets F.slot_list_extend ⟨_,e,rfl⟩ F.entry_list_extend (F.args_list_extend_2 _ _)
  (AutoSeq1.list_extend_list_list_0 l its.toArray n b its2.toArray n2 hlong (by rw [aN3]; lia) (by lia)) ⟨e,e2,?_⟩
 refine⟨.non,_,I.lset (its':=its ++ its2) hH e (by simp) (r.append r2) ?_,rfl,q⟩
 rw [aP7]
 lia
noncomputable def xZ:V->List V->Hp->VK->Prop:=fun x vs H Q=>∃ l xs y,x = .ref l/\vs = []/\H l=some (.lst xs)/\xs[xs.length - 1]? = some y/\Q y (upd H l (.lst xs.dropLast))
theorem ae8:l7 X "list.pop" xZ:=by
 intro pins s σ H x vs v us Q I rx rv h
 obtain ⟨l,xs,y,rfl,rfl,hH,hy,q⟩:=h
 cases rx
 have hus:=rv.zero
 subst hus
 obtain ⟨z,its,n,r,hl,e⟩:=I.lstM hH
 obtain ⟨u,hu,ru⟩:=r.get hy
 have hy':its.toArray[its.toArray.size - 1]? = some u:=by
  show its.toArray[its.length - 1]? = some u
  rw [<- Array.getElem?_toList,<- hl]
  exact hu
 refine call_meets F.slot_list_pop ⟨_,e,rfl⟩ F.entry_list_pop (F.args_list_pop_1 _) (MeetsSeq.list_pop_last l its.toArray n u hy' (by rw [aN3]; lia)) ⟨e,?_⟩
 refine⟨y,_,I.lset (its':=its.dropLast) hH e ?_ r.dropLast ?_,ru,q⟩
 ·show its.toArray.eraseIdxIfInBounds (its.toArray.size - 1)=its.dropLast.toArray
  rw [aN3,List.eraseIdxIfInBounds_toArray,ae6]
 ·rw [List.length_dropLast]
  lia
noncomputable def yA:R2:=fun x y H Q=>∃ l k xs,x = .ref l/\y = .int k/\H l=some (.lst xs)/\-(2 ^ 63)<=k/\k < 2 ^ 63/\xs.length * k.toNat<=sizeLine/\
 ∀ p,H p=none->Q (.ref p) (upd H p (.lst (List.replicate k.toNat xs).flatten))
theorem ae9 {α:Type} (xs:List α) (k:Nat):(List.replicate k xs).flatten.length=k * xs.length:=by
 induction k with
 | zero=>simp
 | succ k ih=>rw [aR8,aW0,aP7,ih,Nat.succ_mul,Nat.add_comm]
theorem af0:cE X (binaryOp .Mult) yA:=by
 intro pins s σ H x y v u Q I rx ry h
 obtain ⟨l,k,xs,rfl,rfl,hH,h1,h2,hz,q⟩:=h
 cases rx
 obtain ⟨t,rfl⟩:=ry
 obtain ⟨z,its,n,r,hl,e⟩:=I.lstM hH
 have hlen:its.toArray.size * k.toNat<=sizeLine:=by rw [aN3,<- hl]; exact hz
 have hcap : ¬ its.toArray.size * k.toNat > (2 ^ 63 - 1) / 8:=by
  have:(sizeLine:Nat)<=(2 ^ 63 - 1) / 8:=by decide
  lia
 have hfit : ¬ (!Builtin.List.listFitsIndex k)=true:=by
  rw [fitsIndex_both h1 h2]
  exact aP2
 have hlong : ¬ Builtin.List.listTooLong (its.toArray.size * k.toNat)=true:=by
  rw [sO hlen]
  exact aP2
 have hnew:List.foldl (fun x1 x2=>x1 ++ x2) #[] (List.replicate (if its.toArray.isEmpty=true then 0 else k.toNat) its.toArray)=(List.replicate k.toNat its).flatten.toArray:=by
  have f0:∀ m:Nat,List.foldl (fun x1 x2=>x1 ++ x2) #[] (List.replicate m its.toArray)=(List.replicate m its).flatten.toArray:=fun m=>by
   have:=xW its m []
   rw [List.nil_append] at this
   exact this
  rw [f0]
  cases its with
  | nil=>simp
  | cons a r'=>rw [if_neg (by simp)]
 refine wpAny_binaryOp_repeat_ref (T:="list") (U:="int") (by decide) ⟨_,e,rfl⟩ (fun s'=>typeIs_int s' k t) noFill_list_mul F.fills_int_mul F.slot_int_rmul repeat_list F.slot_int_index.lookup
  (call_meets F.slot_int_rmul (typeIs_int s k t) F.entry_int_rmul (F.args_int_rmul_2 _ _) (int___rmul___int_list k t l its.toArray n)
   ⟨e,rfl,⟨_,e,rfl⟩,call_meets F.slot_list_mul ⟨_,e,rfl⟩ F.entry_list_mul (F.args_list_mul_2 _ _) (AutoListH.list___mul___list_int_3 l its.toArray n k t hfit hcap hlong) ⟨e,?_⟩⟩)
 rw [hnew]
 exact⟨.ref _,_,I.lnew (t':=s.toks) (r.rep k.toNat) (by rw [ae9,Nat.mul_comm]; exact hz),rfl,q _ I.fresh⟩
end
section
variable {κ : Type} [DecidableEq κ]
noncomputable def eU (kvs:List (κ × V)) (k:κ):Option V:=(kvs.find? fun kv=>decide (kv.1=k)).map (·.2)
noncomputable def dU (kvs:List (κ × V)) (k:κ) (v:V):List (κ × V):=
 if (kvs.any fun kv=>decide (kv.1=k))=true then kvs.map (fun kv=>if kv.1=k then (kv.1,v) else kv) else kvs ++ [(k,v)]
theorem sP {p:κ × V}{r:List (κ × V)}{k:κ} (e:p.1=k):eU (p :: r) k=some p.2:=by simp [eU,aW5,e]
theorem sQ {p:κ × V}{r:List (κ × V)}{k:κ} (e : ¬ p.1=k):eU (p :: r) k=eU r k:=by simp [eU,aW5,e]
theorem yB (k:κ):∀ kvs:List (κ × V),(kvs.any fun kv=>decide (kv.1=k))=(eU kvs k).isSome
 | []=>rfl
 | p :: r=>by
  rw [aZ3]
  by_cases e:p.1=k
  ·simp only [sP e,aO2 e,Bool.true_or,Option.isSome_some]
  ·rw [sQ e,aP0 e,Bool.false_or]; exact yB k r
theorem sR (kvs:List (κ × V)) (k:κ) (v:V):(dU kvs k v).length<=kvs.length+1:=by
 unfold dU
 split
 ·rw [aN6]; lia
 ·rw [aP7,aP8,List.length_nil]; lia
theorem jX.isSome_eq {o:Option V}{u:Option Value} (r:jX o u):o.isSome=u.isSome:=by
 cases o with
 | none=>cases u with
  | none=>rfl
  | some _=>exact (show False from r).elim
 | some _=>cases u with
  | none=>exact (show False from r).elim
  | some _=>rfl
theorem KV.val {kvs:List (κ × V)}{vs:List (κ × Value)} (r:KV kvs vs) (k:κ):jX (eU kvs k) (valueAt vs k):=by
 unfold KV at r
 induction r with
 | nil=>exact bb1
 | @cons p q ps qs h t ih=>
  obtain ⟨h1,h2⟩:=h
  by_cases e:p.1=k
  ·have e':q.1=k:=h1.symm.trans e
   have b:valueAt (q :: qs) k=some q.2:=by simp [valueAt,aW5,e']
   rw [sP e,b]; exact h2
  ·have e' : ¬ q.1=k:=fun z=>e (h1.trans z)
   have b:valueAt (q :: qs) k=valueAt qs k:=by simp [valueAt,aW5,e']
   rw [sQ e,b]; exact ih
theorem KV.any {kvs:List (κ × V)}{vs:List (κ × Value)} (r:KV kvs vs) (k:κ):(kvs.any fun kv=>decide (kv.1=k))=vs.any fun kv=>decide (kv.1=k):=by
 unfold KV at r
 induction r with
 | nil=>rfl
 | cons h t ih=>rw [aZ3,aZ3,ih,h.1]
theorem KV.repl {kvs:List (κ × V)}{vs:List (κ × Value)} (r:KV kvs vs) (k:κ) {y:V}{u:Value} (ry:aT y u) :
  KV (kvs.map fun kv=>if kv.1=k then (kv.1,y) else kv) (vs.map fun kv=>if kv.1=k then (kv.1,u) else kv):=by
 unfold KV at r ⊢
 induction r with
 | nil=>exact .nil
 | @cons p q ps qs h t ih=>
  rw [aS6,aS6]
  refine .cons ?_ ih
  obtain ⟨h1,h2⟩:=h
  by_cases e:p.1=k
  ·rw [if_pos e,if_pos (h1.symm.trans e)]; exact⟨h1,ry⟩
  ·rw [if_neg e,if_neg (fun z=>e (h1.trans z))]; exact⟨h1,h2⟩
theorem KV.put {kvs:List (κ × V)}{vs:List (κ × Value)} (r:KV kvs vs) (k:κ) {y:V}{u:Value} (ry:aT y u):KV (dU kvs k y) (stored vs k u):=by
 unfold dU stored
 rw [r.any k]
 by_cases e:(vs.any fun kv=>decide (kv.1=k))=true
 ·rw [if_pos e,if_pos e]; exact r.repl k ry
 ·rw [if_neg e,if_neg e]; exact Paired.snoc r ⟨rfl,ry⟩
theorem KV.length {kvs:List (κ × V)}{vs:List (κ × Value)} (r:KV kvs vs):kvs.length=vs.length:=Paired.length r
end
theorem mJ {P:Program}{w:World}{k:aG}{u:Value} (r:aT (kV k) u):(eB P w).is k u=true:=by
 cases k with
 | inl i=>obtain ⟨t,e⟩:=(show ∃ t,u=Value.int i t from r); subst e; exact W5 P w i t
 | inr x=>obtain ⟨t,e⟩:=(show ∃ t,u=Value.str x t from r); subst e; exact W6 P w x t
theorem yC {P:Program}{w:World}:∀ {ks:List aG}{us:List Value},aK (ks.map kV) us->ItemsAre (eB P w) ks us
 | [],_,r=>by rw [List.map_nil] at r; cases r; exact .nil
 | k :: ks,_,r=>by
  rw [aS6] at r
  cases r with
  | cons h t=>exact .cons (mJ h) (yC t)
noncomputable abbrev KT (H:Hp):List (List aG × V)->List (List aG × Addr × Value)->Prop:=Paired fun p q=>p.1=q.1/\H q.2.1=some (.tup (p.1.map kV))/\aT p.2 q.2.2
theorem KT.val {H:Hp}{kvs:List (List aG × V)}{xs:List (List aG × Addr × Value)} (r:KT H kvs xs) (k:List aG):jX (eU kvs k) ((atKey xs k).map (·.2)):=by
 induction r with
 | nil=>exact bb1
 | @cons p q ps qs h t ih=>
  obtain ⟨h1,_,h2⟩:=h
  by_cases e:p.1=k
  ·have e':q.1=k:=h1.symm.trans e
   have b:atKey (q :: qs) k=some q.2:=by simp [atKey,aW5,e']
   rw [sP e,b]; exact h2
  ·have e' : ¬ q.1=k:=fun z=>e (h1.trans z)
   have b:atKey (q :: qs) k=atKey qs k:=by simp [atKey,aW5,e']
   rw [sQ e,b]; exact ih
theorem KT.repl {H:Hp}{kvs:List (List aG × V)}{xs:List (List aG × Addr × Value)} (r:KT H kvs xs) (k:List aG) {y:V}{u:Value} (ry:aT y u) :
  KT H (kvs.map fun kv=>if kv.1=k then (kv.1,y) else kv) (xs.map (putAt k u)):=by
 induction r with
 | nil=>exact .nil
 | @cons p q ps qs h t ih=>
  rw [aS6,aS6]
  refine .cons ?_ ih
  obtain ⟨h1,h2,h3⟩:=h
  unfold putAt
  by_cases e:p.1=k
  ·rw [if_pos e,if_pos (h1.symm.trans e)]; exact⟨h1,h2,ry⟩
  ·rw [if_neg e,if_neg (fun z=>e (h1.trans z))]; exact⟨h1,h2,h3⟩
theorem KT.put {H:Hp}{kvs:List (List aG × V)}{xs:List (List aG × Addr × Value)} (r:KT H kvs xs) (k:List aG) {b:Addr}{y:V}{u:Value} (hb:H b=some (.tup (k.map kV))) (ry:aT y u) :
  KT H (dU kvs k y) (storedH xs k b u):=by
 have e:(kvs.any fun kv=>decide (kv.1=k))=(atKey xs k).isSome:=by
  rw [yB,(r.val k).isSome_eq,Option.isSome_map]
 unfold dU storedH
 rw [e]
 by_cases q:(atKey xs k).isSome=true
 ·rw [if_pos q,if_pos q]; exact r.repl k ry
 ·rw [if_neg q,if_neg q]; exact Paired.snoc r ⟨rfl,hb,ry⟩
theorem KT.keeps {H H':Hp}{kvs:List (List aG × V)}{xs:List (List aG × Addr × Value)} (r:KT H kvs xs) (ht:∀ b ys,H b=some (.tup ys)->H' b=some (.tup ys)):KT H' kvs xs:=
 Paired.mapP r fun _ _ z=>⟨z.1,ht _ _ z.2.1,z.2.2⟩
section
variable {P : Program} {w : World} {H : Hp} {h : Heap} {a : Addr}
theorem yD {u:HO} (ok:bO P w H h) (e:Rd H a u):bL P w H h a u:=e.ok ok
theorem oK {kvs:List (aG × V)} (ok:bO P w H h) (e:Rd H a (.dK kvs)):kvs.length<=sizeLine/\(a == sysModules)=false/\∃ vs,KV kvs vs/\h.DictOf (eB P w) a vs:=
 show bL P w H h a (.dK kvs) from yD ok e
theorem yE {kvs:List (aG × V)} (ok:bO P w H h) (e:H a=some (.dK kvs)):kvs.length<=sizeLine/\(a == sysModules)=false/\∃ vs,KV kvs vs/\h.DictOf (eB P w) a vs:=oK ok (.inl e)
theorem oM {ks:List aG} (ok:bO P w H h) (e:H a=some (.tup (ks.map kV))):(tupleKind (eB P w)).is h ks a:=by
 obtain ⟨_,its,r,⟨o,h1,h2,n,h3⟩,_⟩:=(show bL P w H h a (.tup (ks.map kV)) from ok a _ e)
 exact⟨o,its.toArray,n,h1,h2,h3,by simpa using yC r⟩
theorem sS {kvs:List (List aG × V)} (ok:bO P w H h) (e:Rd H a (.dT kvs)):kvs.length<=sizeLine/\(a == sysModules)=false/\
  ∃ xs,KT H kvs xs/\h.DictOfH (tupleKind (eB P w)) a xs:=by
 obtain ⟨z,y,xs,r,o,es,ep,h1,h2,h3,h4,h5⟩:=(show bL P w H h a (.dT kvs) from yD ok e)
 refine⟨z,y,xs,r,o,es,ep,h1,h2,h3,h4,fun x hx=>?_,h5⟩
 have all:∀ {l:List (List aG × V)}{m:List (List aG × Addr × Value)},KT H l m->∀ x ∈ m,(tupleKind (eB P w)).is h x.1 x.2.1:=by
  intro l m q
  induction q with
  | nil=>intro x hx; exact nomatch hx
  | @cons p q ps qs hq t ih=>
   intro x hx
   rcases aO7.mp hx with e | hx
   ·subst e
    exact oM ok (by rw [<- hq.1]; exact hq.2.1)
   ·exact ih x hx
 exact all r x hx
theorem af1 {kvs:List (List aG × V)} (ok:bO P w H h) (e:H a=some (.dT kvs)):kvs.length<=sizeLine/\(a == sysModules)=false/\
  ∃ xs,KT H kvs xs/\h.DictOfH (tupleKind (eB P w)) a xs:=sS ok (.inl e)
end
noncomputable def gO (H:Hp) (a:Addr) (y:V) (r:Option V):Prop:=
 (∃ kvs k,Rd H a (.dK kvs)/\y=kV k/\r=eU kvs k) ∨ ∃ kvs k b,Rd H a (.dT kvs)/\y = .ref b/\H b=some (.tup (k.map kV))/\r=eU kvs k
noncomputable def mK (H:Hp) (a:Addr) (y v:V) (H':Hp):Prop:=
 (∃ kvs k,H a=some (.dK kvs)/\y=kV k/\kvs.length < sizeLine/\H'=upd H a (.dK (dU kvs k v))) ∨
 ∃ kvs k b,H a=some (.dT kvs)/\y = .ref b/\H b=some (.tup (k.map kV))/\kvs.length < sizeLine/\H'=upd H a (.dT (dU kvs k v))
theorem gO.k {H:Hp}{a:Addr}{kvs:List (aG × V)}{k:aG} (e:H a=some (.dK kvs)):gO H a (kV k) (eU kvs k):=.inl ⟨kvs,k,.inl e,rfl,rfl⟩
theorem gO.t {H:Hp}{a b:Addr}{kvs:List (List aG × V)}{k:List aG} (e:H a=some (.dT kvs)) (eb:H b=some (.tup (k.map kV))):gO H a (.ref b) (eU kvs k):=.inr ⟨kvs,k,b,.inl e,rfl,eb,rfl⟩
theorem mK.k {H:Hp}{a:Addr}{kvs:List (aG × V)}{k:aG}{v:V} (e:H a=some (.dK kvs)) (hl:kvs.length < sizeLine):mK H a (kV k) v (upd H a (.dK (dU kvs k v))):=.inl ⟨kvs,k,e,rfl,hl,rfl⟩
section
variable {X : Cx} {pins : List (Addr × Obj)} {σ : St} {H : Hp} {s : Shared} {a : Addr} {y v : V} {u r : Value} {o : Option V} {A : Around} {E : Value → Shared → Prop}
theorem a6.big (I:a6 X pins σ H s):sysModules < s.heap.objs.size:=by
 have h:mainGlobals < s.heap.objs.size:=(I.mod.glob.keeps I.bk).lt
 exact Nat.lt_trans (by decide) h
theorem af2 {Q:Value->Shared->Prop} (hu:A.units+1 < cLine) (I:a6 X pins σ H s) (g:gO H a y o) (ry:aT y u) (h:∀ s',a6 X pins σ H s'->Q (.bool o.isSome) s') :
  wpAny (model X.prog X.w) A (compareOp .In u (.ref a)) Q E s:=by
 rcases g with ⟨kvs,k,e,ey,l⟩ | ⟨kvs,k,b,e,ey,eb,l⟩
 ·subst ey
  obtain ⟨z,hd,vs,rel,dd⟩:=oK I.hok e
  refine wpAny_in_of (mJ ry) hd dd.mapOf ?_
  rw [<- (rel.val k).isSome_eq,<- l]
  exact h _ (I.tok _)
 ·subst ey
  cases (show u=Value.ref b from ry)
  obtain ⟨z,hd,xs,rel,dd⟩:=sS I.hok e
  refine wpAny_in_heap (tupleKind_room_in1 hu) (oM I.hok eb) hd dd ?_
  have q:=(rel.val k).isSome_eq
  rw [Option.isSome_map] at q
  rw [<- q,<- l]
  exact h _ (I.tok _)
theorem af3 {Q:Value->Shared->Prop} (hu:A.units+1 < cLine) (I:a6 X pins σ H s) (g:gO H a y o) (ry:aT y u) (h:∀ s',a6 X pins σ H s'->Q (.bool (!o.isSome)) s') :
  wpAny (model X.prog X.w) A (compareOp .NotIn u (.ref a)) Q E s:=by
 rcases g with ⟨kvs,k,e,ey,l⟩ | ⟨kvs,k,b,e,ey,eb,l⟩
 ·subst ey
  obtain ⟨z,hd,vs,rel,dd⟩:=oK I.hok e
  refine wpAny_notIn_of (mJ ry) hd dd.mapOf ?_
  rw [<- (rel.val k).isSome_eq,<- l]
  exact h _ (I.tok _)
 ·subst ey
  cases (show u=Value.ref b from ry)
  obtain ⟨z,hd,xs,rel,dd⟩:=sS I.hok e
  refine wpAny_notIn_heap (tupleKind_room_in1 hu) (oM I.hok eb) hd dd ?_
  have q:=(rel.val k).isSome_eq
  rw [Option.isSome_map] at q
  rw [<- q,<- l]
  exact h _ (I.tok _)
theorem sT {h':Heap}{t':Nat}{ob:HO} (I:a6 X pins σ H s) (mu:m6 (H a)) (hs:Heap.SameBut a s.heap h') (he:∃ q,h'.get? a=some q) (new:bL X.prog X.w (upd H a ob) h' a ob) :
  a6 X pins σ (upd H a ob) { s with heap:=h',toks:=t' }:=
 I.write (x:=a) (e:=a) mu (.inl rfl) (fun b q hb z=>(hs.2 b hb).trans z) he new
theorem yF {P:Program}{w:World}{H':Hp}{h':Heap}{kvs:List (aG × V)}{vs:List (aG × Value)} (z:kvs.length<=sizeLine) (hd:(a == sysModules)=false) (rel:KV kvs vs) (dd:h'.DictOf (eB P w) a vs) :
  bL P w H' h' a (.dK kvs):=⟨z,hd,vs,rel,dd⟩
theorem af4 {H':Hp}{Q:Unit->Shared->Prop} (hu:A.units+1 < cLine) (I:a6 X pins σ H s) (g:mK H a y v H') (ry:aT y u) (rv:aT v r) (h:∀ s',a6 X pins σ H' s'->Q () s') :
  wpAny (model X.prog X.w) A (setItem (.ref a) u r) Q E s:=by
 rcases g with ⟨kvs,k,e,ey,l,eH⟩ | ⟨kvs,k,b,e,ey,eb,l,eH⟩
 ·subst ey eH
  obtain ⟨z,hd,vs,rel,dd⟩:=yE I.hok e
  have hz:vs.length<=sizeLine:=by rw [<- rel.length]; exact z
  have hl:(dU kvs k v).length<=sizeLine:=by have:=sR kvs k v; lia
  refine wpAny_setItem_pairs (hsz:=hz) (mJ ry) dd fun h' dd' hs=>h _ ?_
  have he:∃ q,h'.get? a=some q:=let ⟨q,_,_,hq,_⟩:=dd'; ⟨q,hq⟩
  exact sT I (by rw [e]; exact bb1) hs he (yF hl hd (rel.put k rv) dd')
 ·subst ey eH
  cases (show u=Value.ref b from ry)
  obtain ⟨z,hd,xs,rel,dd⟩:=af1 I.hok e
  have hz:xs.length<=sizeLine:=by rw [<- Paired.length rel]; exact z
  have hl:(dU kvs k v).length<=sizeLine:=by have:=sR kvs k v; lia
  refine wpAny_setItem_heap (hsz:=hz) (tupleKind_room_in1 hu) (oM I.hok eb) dd fun h' dd' hs=>h _ ?_
  obtain ⟨q,es,ep,hq,h2,h3,h4,_,h5⟩:=dd'
  refine sT I (by rw [e]; exact bb1) hs ⟨q,hq⟩ ⟨hl,hd,_,(rel.put k eb rv).keeps fun c ys ec=>?_,q,es,ep,hq,h2,h3,h4,h5⟩
  rw [aZ (W7 ec e (fun z=>nomatch z))]
  exact ec
end
section
variable {X : Cx} {pins : List (Addr × Obj)} {σ : St} {H : Hp} {s : Shared} {a : Addr} {kvs : List (aG × V)} {k : aG} {u : Value} {A : Around} {E : Value → Shared → Prop}
theorem af5 {Q:Value->Shared->Prop} (I:a6 X pins σ H s) (e:Rd H a (.dK kvs)) (h:∀ t s',a6 X pins σ H s'->Q (.int kvs.length t) s'):wpAny (model X.prog X.w) A (call (.builtin "len") [.ref a]) Q E s:=by
 obtain ⟨z,hd,vs,rel,dd⟩:=oK I.hok e
 refine call_len_dict hd dd (by rw [<- rel.length]; rw [sizeLine_eq] at z; lia) ?_
 rw [<- rel.length]
 exact h _ _ (I.tok _)
end
noncomputable def yG (ty td:TE):TE:=fun σ H Q=>ty σ H fun y H1=>td σ H1 fun x H2=>∃ a o,x = .ref a/\gO H2 a y o/\Q (.bl o.isSome) H2
noncomputable def yH (ty td:TE):TE:=fun σ H Q=>ty σ H fun y H1=>td σ H1 fun x H2=>∃ a o,x = .ref a/\gO H2 a y o/\Q (.bl (!o.isSome)) H2
noncomputable def yI (td ty tv:TE):TS:=fun D σ H=>tv σ H fun v H1=>td σ H1 fun x H2=>ty σ H2 fun y H3=>∃ a H4,x = .ref a/\mK H3 a y v H4/\D.nx σ H4
section
variable {X : Cx} {o i e value : Expr} {pos pos' tpos : Pos} {td ty tv : TE}
theorem af6 (hu:X.A.units+1 < cLine) (hi:PE X i ty) (ho:PE X o td):PC X .In i o (yG ty td):=by
 intro pins s σ H Q I h
 refine aO (hi pins s σ H _ I h) fun iv s1 ⟨y,H1,I1,ry,q1⟩=>aO (ho pins s1 σ H1 _ I1 q1) fun u s2 ⟨x,H2,I2,rx,a,ov,ex,g,q2⟩=>?_
 subst ex
 obtain rfl:u=Value.ref a:=rx
 exact af2 hu I2 g ry fun s3 I3=>⟨.bl ov.isSome,H2,I3,rfl,q2⟩
theorem af7 (hu:X.A.units+1 < cLine) (hi:PE X i ty) (ho:PE X o td):PC X .NotIn i o (yH ty td):=by
 intro pins s σ H Q I h
 refine aO (hi pins s σ H _ I h) fun iv s1 ⟨y,H1,I1,ry,q1⟩=>aO (ho pins s1 σ H1 _ I1 q1) fun u s2 ⟨x,H2,I2,rx,a,ov,ex,g,q2⟩=>?_
 subst ex
 obtain rfl:u=Value.ref a:=rx
 exact af3 hu I2 g ry fun s3 I3=>⟨.bl (!ov.isSome),H2,I3,rfl,q2⟩
theorem af8 (hu:X.A.units+1 < cLine) (ho:PE X o td) (hi:PE X i ty) (hv:PE X value tv) (hs:swapsWith value (some (.Subscript o i pos')) pos.line X.env=pure false) :
  PS X (.Assign [.Subscript o i pos'] value pos) (yI td ty tv):=by
 intro pins s σ H D I h
 refine wpAny_Assign_Subscript (aO (hv pins s σ H _ I h) fun r s1 ⟨v,H1,I1,rv,q1⟩=>aO (ho pins s1 σ H1 _ I1 q1) fun u s2 ⟨x,H2,I2,rx,q2⟩=>aO (hi pins s2 σ H2 _ I2 q2) fun iv s3 ⟨y,H3,I3,ry,a,H4,ex,g,q3⟩=>?_) hs
 subst ex
 obtain rfl:u=Value.ref a:=rx
 exact af4 hu I3 g ry rv fun s4 I4=>⟨σ,H4,I4,q3⟩
end
theorem yJ {P:Program}{w:World}{H:Hp} (h:Heap) (hb:sysModules < h.objs.size):bL P w H (h.push { cls:=.type "dict",data:=.dict #[] }) h.objs.size (.dK []):=
 ⟨aS3 _,beq_eq_false_iff_ne.mpr (Ne.symm (aR2 hb)),[],.nil,Heap.DictOf.new h⟩
noncomputable def yK:TE:=fun _ H Q=>∀ p,H p=none->Q (.ref p) (upd H p (.dK []))
section
variable {X : Cx} {pos : Pos}
theorem af9:PE X (.Dict [] [] pos) yK:=fun pins s σ H Q I h=>
 wpAny_Dict_empty ⟨.ref s.heap.objs.size,_,I.laid (a:=s.heap.objs.size) (o:=.dK []) (t':=s.toks) (fun _ _ q=>aN4 _ q) (aO0 _) (yJ s.heap I.big),rfl,h _ (I.hok.fresh (aO0 _))⟩
end
noncomputable def sU:List (TE × TE)->St->Hp->(List (V × V)->Hp->Prop)->Prop
 | [],_,H,Q=>Q [] H
 | (tk,tv) :: r,σ,H,Q=>tk σ H fun x H1=>tv σ H1 fun y H2=>sU r σ H2 fun ps H3=>Q ((x,y) :: ps) H3
noncomputable abbrev VV:List (V × V)->List (Value × Value)->Prop:=Paired fun p q=>aT p.1 q.1/\aT p.2 q.2
noncomputable def oN (X:Cx) (pos:Pos) (keys:List (Option Expr)) (values:List Expr) (trs:List (TE × TE)):Prop:=
 ∀ (pins:List (Addr × Obj)) (s:Shared) (σ:St) (H:Hp) (Q:List (V × V)->Hp->Prop),a6 X pins σ H s->sU trs σ H Q->
  wpAny (model X.prog X.w) X.A (evalPairs (pairTrees keys values X.env pos)) (fun vs s'=>∃ ps H',a6 X pins σ H' s'/\VV ps vs/\Q ps H') X.xe s
theorem ag0 {X:Cx}{pos:Pos}:oN X pos [] [] []:=fun pins s σ H Q I h=>pairTrees_nil_walk ⟨[],H,I,.nil,h⟩
theorem ag1 {X:Cx}{pos:Pos}{k v:Expr}{ks:List (Option Expr)}{vs:List Expr}{tk tv:TE}{trs:List (TE × TE)} (hk:PE X k tk) (hv:PE X v tv) (hr:oN X pos ks vs trs) :
  oN X pos (some k :: ks) (v :: vs) ((tk,tv) :: trs):=fun pins s σ H Q I h=>
 pairTrees_cons_walk (aO (hk pins s σ H _ I h) fun u s1 ⟨x,H1,I1,rx,q1⟩=>aO (hv pins s1 σ H1 _ I1 q1) fun w2 s2 ⟨y,H2,I2,ry,q2⟩=>
  aO (hr pins s2 σ H2 _ I2 q2) fun ws s3 ⟨ps,H3,I3,rel,q3⟩=>⟨(x,y) :: ps,H3,I3,.cons ⟨rx,ry⟩ rel,q3⟩)
noncomputable def l9 (kvs more:List (aG × V)):List (aG × V):=more.foldl (fun acc kv=>dU acc kv.1 kv.2) kvs
theorem KV.merge:∀ {more:List (aG × V)}{rs:List (aG × Value)}{kvs:List (aG × V)}{vs:List (aG × Value)},KV more rs->KV kvs vs->KV (l9 kvs more) (merged vs rs):=by
 intro more rs kvs vs r
 unfold KV at r
 induction r generalizing kvs vs with
 | nil=>intro q; exact q
 | @cons p q ps qs h t ih=>
  intro r0
  have e:KV (dU kvs p.1 p.2) (stored vs q.1 q.2):=by
   have:=r0.put p.1 h.2
   rw [<- h.1]; exact this
  exact ih e
theorem yM:∀ (more kvs:List (aG × V)),(l9 kvs more).length<=kvs.length+more.length
 | [],kvs=>by show kvs.length<=kvs.length+0; lia
 | p :: r,kvs=>by
  have h1:=yM r (dU kvs p.1 p.2)
  have h2:=sR kvs p.1 p.2
  show (l9 (dU kvs p.1 p.2) r).length<=_
  rw [aP8]; lia
theorem yN {P:Program}{w:World}:∀ {kvs:List (aG × V)}{ws:List (Value × Value)},VV (kvs.map fun kv=>(kV kv.1,kv.2)) ws->∃ rs,Carries (eB P w) ws rs/\KV kvs rs
 | [],_,r=>by rw [List.map_nil] at r; cases r; exact⟨[],bb1,.nil⟩
 | p :: kvs,_,r=>by
  rw [aS6] at r
  cases r with
  | @cons a b as bs h t=>
   obtain ⟨rs,c,q⟩:=yN (P:=P) (w:=w) t
   obtain ⟨b1,b2⟩:=b
   exact⟨(p.1,b2) :: rs,⟨mJ h.1,rfl,c⟩,.cons ⟨rfl,h.2⟩ q⟩
noncomputable def yO (trs:List (TE × TE)):TE:=fun σ H Q=>∀ p,H p=none->sU trs σ (upd H p (.dK [])) fun ps H2=>H2 p=some (.dK [])/\∃ kvs:List (aG × V),ps=kvs.map (fun kv=>(kV kv.1,kv.2))/\kvs.length<=15/\Q (.ref p) (upd H2 p (.dK (l9 [] kvs)))
theorem ag2 {X:Cx}{pos:Pos}{keys:List (Option Expr)}{values:List Expr}{trs:List (TE × TE)} (h:oN X pos keys values trs) (hall:keys.all (·.isSome)=true) (hl:keys.length=values.length) (h0:keys ≠ [])
  (h15:keys.length<=15):PE X (.Dict keys values pos) (yO trs):=by
 intro pins s σ H Q I q
 have hn:=I.hok.fresh (aO0 s.heap.objs.size)
 have I1:=I.laid (a:=s.heap.objs.size) (o:=.dK []) (h':=s.heap.push { cls:=.type "dict",data:=.dict #[] }) (t':=s.toks) (fun _ _ q=>aN4 _ q) (aO0 _) (yJ s.heap I.big)
 refine wpAny_Dict_walk (knd:=eB X.prog X.w) hall hl h0 h15 (aO (h pins _ σ _ _ I1 (q _ hn)) fun ws s2 ⟨ps,H2,I2,rel,e,kvs,ep,lk,q2⟩=>?_)
 subst ep
 obtain ⟨rs,c,rk⟩:=yN (P:=X.prog) (w:=X.w) rel
 obtain ⟨z,hd,vs0,r0,dd⟩:=yE I2.hok e
 cases r0
 refine⟨rs,c,dd,fun h' dd' hs=>⟨.ref s.heap.objs.size,_,?_,rfl,q2⟩⟩
 have hz:(l9 [] kvs).length<=sizeLine:=by
  have h1:=yM kvs []
  rw [List.length_nil] at h1
  rw [sizeLine_eq]; lia
 have he:∃ q,h'.get? s.heap.objs.size=some q:=let ⟨q,_,_,hq,_⟩:=dd'; ⟨q,hq⟩
 exact sT I2 (by rw [e]; exact bb1) hs he (yF hz hd (rk.merge .nil) dd')
structure M2 (X:Cx) (o:Expr) (m:Str) (apos:Pos) (e f:Expr) (cpos:Pos):Prop where
 base:attributeBase o m X.env (eval o X.env)=eval o X.env
 few:((backTo cpos (starEach [e,f] X.env)).all (fun x=>!x.1) && (backToKw cpos (keywordEach [] X.env)).all (fun x=>x.1.isSome)
  && decide (([e,f]:List Expr).length+([]:List Keyword).length+(if ([]:List Keyword).isEmpty then 0 else 1) < 30))=true
 line:(apos.endLine == cpos.line)=true
 trees:backTo cpos (starEach [e,f] X.env) = [(false,eval e X.env),(false,eval f X.env)]
end L2
namespace Att
open PySem PySem.W PySem.Calls PyProof.Rows
theorem ag3 {P:Params}{h:Heap}:∀ (ns:List Int) (vs:List Value),WellAll P h vs (ns.map WData.int)->IntsAre vs ns:=by
 intro ns
 induction ns with
 | nil=>
  intro vs w
  rw [List.map_nil] at w
  cases w
  exact .nil
 | cons n ns ih=>
  intro vs w
  rw [aS6] at w
  cases w with
  | cons a b=>
   cases a
   exact .cons _ _ (ih _ b)
theorem yQ {l:OpenLaw}{n:Nat} (hn:l.most=some n) {P:Params}{h:Heap}{args:List WData}{vals:List Value}
  (hpre:l.row.toRowW.claim.pre args=true) (hwl:WellAll P h vals args) :
  ∃ a vs ns,vals = [Value.ref a]/\args = [WData.list (ns.map WData.int)]/\h.get? a=some { cls:=.type "list",data:=.seq vs.toArray }/\IntsAre vs ns/\ns.length<=n:=by
 have hsh:WShape.hasAll [] args [.list .int]=true:=(pre_splitW hpre).1
 have hc:l.pre.holds [] { args:=args }=true:=(pre_splitW hpre).2
 obtain ⟨d,r,rfl,h1,h2⟩:=hasAllW_cons hsh
 obtain rfl:=hasAllW_nil h2
 obtain ⟨xs,rfl,h3⟩:=hasW_list h1
 obtain ⟨ns,rfl⟩:=items_int h3
 have hlen:ns.length<=n:=by
  unfold OpenLaw.pre at hc
  have h4:(WTm.not (.lt (.lit (.int (n:Int))) (.len (.arg 0)))).holds [] { args:=[.list (ns.map .int)] }=true:=by
   have h4:=(holds_andW hc).1
   rw [hn] at h4
   exact h4
  have h5:=condW_of h4 (w_not (w_lt w_lit (w_len_list (w_arg rfl))))
  rw [aN6] at h5
  refine aZ4 fun q=>?_
  have q':(n:Int) < ((ns.length:Nat):Int):=by lia
  first
   | (rw [aO2 q'] at h5; exact absurd h5 (by decide))
   | (simp at h5; lia)
 cases hwl with
 | cons w1 w2=>
  cases w2
  cases w1 with
  | list ho hall=>exact⟨_,_,ns,rfl,rfl,ho,ag3 ns _ hall,hlen⟩
theorem yR (l:OpenLaw) (args:List WData):l.row.toRowW.claim.post args (.bool true) args=true:=
 postW_of (r:=l.row.toRowW) (X:=(true == true))
  (show WShape.has [] (.bool true) .bool=true by first | rfl | decide | simp [WShape.has,WShape.arms,WShape.armsAll])
  (show (WTm.eq .res (.lit (.bool true))).value [] { args:=args,res:=some (.bool true),after:=args }=some (.bool (true == true)) from w_eq_bool (w_res rfl) w_lit) rfl
theorem aM8 {l:OpenLaw}{n:Nat}{q:Program}{loose:List Str}{XP:(Str->Option Value)->Heap->Prop}{YP:World->Heap->Prop}{d:DefRec}{x:Str}
  (hn:l.most=some n) (hdf:d.params.defaults = [])
  (hbind:∀ pm cd doc v:Value,bindArgs (docDef d.name d.params d.body d.scope pm cd doc) ⟨[v],[]⟩=pure [(x,v)])
  (hx:d.scope.names.lookup x=some .local ∨ d.scope.names.lookup x=some .cell)
  (hk:d.scope.kind = .function) (hco:d.scope.isCoroutine=false) (hgen:d.scope.isGenerator=false)
  (body:∀ (w:World) (s₀ s₁ s:Shared) (mg mb:Str->Option Value) (fa:Addr) (o:Obj) (pm cd doc:Value) (a:Addr) (vs:List Value) (ns:List Int),
   Ground q loose [] XP w s₀ mg mb s₁.heap->YP w s₁.heap->
   s₁.heap.get? fa=some o->o.data = .func (docDef d.name d.params d.body d.scope pm cd doc)->s₁.heap.CodeRec cd d.name->mg d.name=some (.ref fa)->
   s₁.heap.get? a=some { cls:=.type "list",data:=.seq vs.toArray }->IntsAre vs ns->ns.length<=n->
   s.gens = #[]->s.os=s₁.os->
   Fr s₁.heap s₁.heap.objs.size s.heap (bindL (envOfC d.name d.scope s₁.heap.objs.size fa cd).kindOf [(x,.ref a)] fun _=>none)->
   Cl s₁.heap.objs.size (cellsFrom (s₁.heap.objs.size+1) d.scope.names []) s.heap (bindC (envOfC d.name d.scope s₁.heap.objs.size fa cd).kindOf [(x,.ref a)] fun _=>none)->
   wpAny (model l.prog w) (callerA.deeper (envOfC d.name d.scope s₁.heap.objs.size fa cd)) (execs d.body (envOfC d.name d.scope s₁.heap.objs.size fa cd))
    (fun f s'=>f = .ret (.bool true)/\OldK s₁.heap s'.heap/\s'.os=s₁.os/\AllBare s'.gens) (fun _ _=>False) s) :
  WalkO q loose XP YP l.row.toRowW d [] (fun f vs=>PySem.call f vs):=by
 intro w s₀ s₁ mg mb G Y fa o pm cd doc dV kV ho hd hcd hD hmg hg args vals as hpre hlay hrd hwl hlo
 obtain rfl:dV = .none:=Dflts.none hD hdf
 obtain rfl:kV = .none:=Dflts.noKw hD
 obtain ⟨a,vs,ns,rfl,rfl,hobj,hints,hlen⟩:=yQ hn hpre hwl
 refine enter_call ?_
 refine call_cells_ret (o:=o) (by rw [depth_caller]; decide) ho (fd_plain hd) G.T.nolimit hcd (hbind pm cd doc (.ref a)) (fun y hy=>?_) (fun h₁ tk F X=>?_) hco hgen hk
 ·obtain rfl:y=(x,Value.ref a):=aN7.mp hy
  rcases hx with e | e
  ·exact .inl e
  ·exact .inr ⟨e,cellsFrom_some _ _ _ (.inl e)⟩
 ·refine aV8 (body w s₀ s₁ { s₁ with heap:=h₁,toks:=tk } mg mb fa o pm cd doc a vs ns G Y ho (fd_plain hd) hcd hmg hobj hints hlen hg rfl F X) (fun f s' hq=>?_) (fun _ _ hq=>hq)
  obtain ⟨rfl,h2,h3,h4⟩:=hq
  exact⟨.inl ⟨.bool true,.bool true,[],rfl,fun _=>rfl,.bool true,yR l _,fun _=>⟨aY4,fun _ hm=>(nomatch hm)⟩⟩,h2,h3,h4⟩
theorem ag4 {l:OpenLaw}{n:Nat}{q:Program}{loose:List Str}{XP:(Str->Option Value)->Heap->Prop}{YP:World->Heap->Prop}{d:DefRec}
  (hn:l.most=some n) (hdf:d.params.defaults = [])
  (call:∀ (w:World) (s₀ s₁:Shared) (mg mb:Str->Option Value) (fa:Addr) (o:Obj) (pm cd doc:Value) (a:Addr) (vs:List Value) (ns:List Int),
   Ground q loose [] XP w s₀ mg mb s₁.heap->YP w s₁.heap->
   s₁.heap.get? fa=some o->o.data = .func (docDef d.name d.params d.body d.scope pm cd doc)->s₁.heap.CodeRec cd d.name->mg d.name=some (.ref fa)->
   s₁.heap.get? a=some { cls:=.type "list",data:=.seq vs.toArray }->IntsAre vs ns->ns.length<=n->s₁.gens = #[]->
   codeAny (model l.prog w) callerA (.call (.ref fa) ⟨[.ref a],[]⟩) (fun r s'=>r = .ok (.ret (.bool true))/\OldK s₁.heap s'.heap/\s'.os=s₁.os/\AllBare s'.gens) s₁) :
  WalkO q loose XP YP l.row.toRowW d [] (fun f vs=>PySem.call f vs):=by
 intro w s₀ s₁ mg mb G Y fa o pm cd doc dV kV ho hd hcd hD hmg hg args vals as hpre hlay hrd hwl hlo
 obtain rfl:dV = .none:=Dflts.none hD hdf
 obtain rfl:kV = .none:=Dflts.noKw hD
 obtain ⟨a,vs,ns,rfl,rfl,hobj,hints,hlen⟩:=yQ hn hpre hwl
 refine enter_call (codeAny_mono (call w s₀ s₁ mg mb fa o pm cd doc a vs ns G Y ho (fd_plain hd) hcd hmg hobj hints hlen hg) fun r s' hq=>?_)
 obtain ⟨rfl,h2,h3,h4⟩:=hq
 exact⟨.inl ⟨.bool true,.bool true,[],rfl,fun _=>rfl,.bool true,yR l _,fun _=>⟨aY4,fun _ hm=>(nomatch hm)⟩⟩,h2,h3,h4⟩
section
variable {prog : Program} {w : World} {A : Around} {E : Value → Shared → Prop} {s : Shared} {K : Frag}
noncomputable def aM9 (h:Heap) (L d:Addr):List (Addr × Obj):=(List.range h.objs.size).filterMap fun a=>if a=L ∨ a=d then none else (h.get? a).map fun o=>(a,o)
end
end Att
namespace L2
open PySem PySem.Spec PyProof.Rows
theorem oO:∀ {vs:List Value}{ns:List Int},IntsAre vs ns->aK (ns.map V.int) vs
 | _,_,.nil=>.nil
 | _,_,.cons n t h=>.cons ⟨t,rfl⟩ (oO h)
noncomputable def oP (H:Hp):Prop:=∀ b,H b=none ∨ ∃ o xs,H b=some (.frz o (.lst xs))
theorem ag5 {P:Program}{w:World}{K:PySem.W.Frag}{mg mb:Str->Option Value}{CX:gD}{k:Nat}{fa a:Addr}{fd:FuncData}{x:Str}{sp:Sp}{s₁:Shared}{vs:List Value}{ns:List Int}
  (KX:K.In s₁.heap) (hns:s₁.heap.Ns mainGlobals mg) (hb:s₁.heap.Ns builtinsNs mb) (hbb:∀ x:Str,x ≠ "__name__"->mb x=bootBuiltins x) (hlim:s₁.heap.NoLimit) (hg:s₁.gens = #[])
  (ha:s₁.heap.get? a=some { cls:=.type "list",data:=.seq vs.toArray }) (hi:IntsAre vs ns) (hl:ns.length<=sizeLine) (hr:c6 k callerA)
  (F:∀ base:Heap,K.In base->base.Ns mainGlobals mg->cH P w K mg base CX k fa fd [x] sp) (hbind:∀ (s:Shared) (u:Value),BindsTo s fd ⟨[u],[]⟩ [(x,u)])
  (hsp:∀ H:Hp,oP H->aJ K H a (ns.map V.int)->sp [.ref a] H (fun v _=>v = .bl true) fun _ _ _=>False)
  (hCX:∀ H e s',CX [] H s₁ (fun _ _ _=>False) e s'->False) :
  codeAny (model P w) callerA (.call (.ref fa) ⟨[.ref a],[]⟩) (fun r s'=>r = .ok (.ret (.bool true))/\OldK s₁.heap s'.heap/\s'.os=s₁.os/\AllBare s'.gens) s₁:=by
 have rv:=oO hi
 have lenV:=hi.length
 have core:∀ H:Hp,oP H->aJ K H a (ns.map V.int)->bO P w H s₁.heap->(∀ b,H b ≠ none->b=a)->(H a ≠ none->K.lookup a=none)->
   codeAny (model P w) callerA (.call (.ref fa) ⟨[.ref a],[]⟩) (fun r s'=>r = .ok (.ret (.bool true))/\OldK s₁.heap s'.heap/\s'.os=s₁.os/\AllBare s'.gens) s₁:=by
  intro H hO hS hok hA hK
  have base_of:∀ {b:Addr}{o:Obj},s₁.heap.get? b=some o->H b=none->(iJ s₁.heap H).get? b=some o:=fun e n=>W9 e n
  have noA:∀ {b:Addr}{o:Obj}{es:Array DictEntry}{ep:Nat},s₁.heap.get? b=some o->o.data = .dict es ep->H b=none:=fun {b o es ep} e d=>by
   cases q:H b with
   | none=>rfl
   | some u=>
    have e':b=a:=hA b (by rw [q]; simp)
    subst e'
    rw [ha] at e; cases e
    have d':Data.seq vs.toArray _=Data.dict es ep:=d
    cases d'
  have nsK:∀ {b:Addr}{m:Str->Option Value},s₁.heap.Ns b m->(iJ s₁.heap H).Ns b m:=fun {b m} ⟨o,es,ep,e,d,r⟩=>⟨o,es,ep,base_of e (noA e d),d,r⟩
  have hKb:K.In (iJ s₁.heap H):=fun b o e=>base_of (KX b o e) (by
   cases q:H b with
   | none=>rfl
   | some u=>
    have e':b=a:=hA b (by rw [q]; simp)
    subst e'
    rw [hK (by rw [q]; simp)] at e; cases e)
  have hM:Mod K mg (iJ s₁.heap H):=⟨hKb,nsK hns,⟨mb,nsK hb,hbb⟩,let ⟨mc,h1,h2⟩:=hlim; ⟨mc,nsK h1,h2⟩⟩
  have e0:oG P w K mg (iJ s₁.heap H) callerA [] s₁ H:=⟨rfl,hM,fun b o e=>X0 e,Nat.le_of_eq (W8 _ _),trivial,fun b hb=>absurd (show b ∈ ([]:List Addr) from hb) (by simp),hok,.of_eq hg⟩
  refine codeAny_mono ((F _ hKb (nsK hns)).run callerA [] s₁ H ⟨[.ref a],[]⟩ [.ref a] [.ref a] _ _ hr e0 (hbind s₁ (.ref a)) (.cons rfl .nil) (hsp H hO hS)) fun r s' h=>?_
  cases r with
  | error e=>exact (hCX H e s' h).elim
  | ok fl=>
   cases fl with
   | next=>exact False.elim h
   | brk=>exact False.elim h
   | cont=>exact False.elim h
   | ret u=>
    obtain ⟨v,H',os,bare,un,hok',r',q⟩:=h
    have q':v = .bl true:=q
    subst q'
    obtain rfl:u=Value.bool true:=r'
    refine⟨rfl,OldK.of_keep fun b o e=>?_,os,bare⟩
    cases q:H b with
    | none=>exact un.keep b o e q (by intro z; exact absurd (show b ∈ ([]:List Addr) from z) (by simp)) (by simp)
    | some u=>
     rcases hO b with z | ⟨ob,xs,z⟩
     ·rw [q] at z; cases z
     ·have z2:=un.frzs b ob _ z
      obtain ⟨e1,_⟩:=hok b _ z
      obtain ⟨e2,_⟩:=hok' b _ z2
      rw [e] at e1; cases e1
      exact e2
 cases hk:K.lookup a with
 | some o=>
  have e:=KX a o hk
  rw [ha] at e
  cases e
  refine core (fun _=>none) (fun _=>.inl rfl) (.inr ⟨_,vs.toArray,_,hk,rfl,rfl,rfl,by rw [aN3,lenV]; exact hl,by simpa using rv⟩) (fun b u z=>by have z':(none:Option HO)=some u:=z; cases z') (fun b z=>absurd rfl z) fun z=>absurd rfl z
 | none=>
  refine core (fun b=>if b=a then some (.frz { cls:=.type "list",data:=.seq vs.toArray } (.lst (ns.map V.int))) else none) (fun b=>?_) (.inl (.inr ⟨{ cls:=.type "list",data:=.seq vs.toArray },if_pos rfl⟩)) (fun b u z=>?_) (fun b z=>?_) fun _=>hk
  ·by_cases hb:b=a
   ·exact .inr ⟨_,_,if_pos hb⟩
   ·exact .inl (if_neg hb)
  ·by_cases hb:b=a
   ·have z':=(if_pos hb).symm.trans z
    cases z'
    subst hb
    exact⟨ha,by rw [aN6]; exact hl,vs,_,rv,ha⟩
   ·have z':=(if_neg hb).symm.trans z
    cases z'
  ·by_cases hb:b=a
   ·exact hb
   ·exact absurd (if_neg hb) z
theorem ag6 {l:PySem.W.OpenLaw}{n k:Nat}{q:Program}{loose:List Str}{XP:(Str->Option Value)->Heap->Prop}{YP:World->Heap->Prop}{d:DefRec}{K:Params->PySem.W.Frag}{CX:World->gD}{sp:World->Sp}{x:Str}
  (hn:l.most=some n) (hn2:n<=sizeLine) (hdf:d.params.defaults = []) (hr:c6 k callerA)
  (hY:∀ (w:World) (h:Heap),YP w h->(K w.params).In h)
  (F:∀ (w:World) (mg:Str->Option Value) (fa:Addr) (h:Heap),(K w.params).In h->h.Ns mainGlobals mg->mg d.name=some (.ref fa)->
   ∃ fd:FuncData,(∀ (s:Shared) (u:Value),BindsTo s fd ⟨[u],[]⟩ [(x,u)])/\
    ∀ base:Heap,(K w.params).In base->base.Ns mainGlobals mg->cH l.prog w (K w.params) mg base (CX w) k fa fd [x] (sp w))
  (hsp:∀ (w:World) (H:Hp) (a:Addr) (ns:List Int),ns.length<=n->oP H->aJ (K w.params) H a (ns.map V.int)->sp w [.ref a] H (fun v _=>v = .bl true) fun _ _ _=>False)
  (hCX:∀ (w:World) (H:Hp) (s:Shared) (e:Value) (s':Shared),CX w [] H s (fun _ _ _=>False) e s'->False) :
  PySem.W.WalkO q loose XP YP l.row.toRowW d [] (fun f vs=>PySem.call f vs):=by
 refine Att.ag4 hn hdf fun w s₀ s₁ mg mb fa o pm cd doc a vs ns G Y ho hd hcd hmg hobj hints hlen hg=>?_
 have KX:=hY w _ Y
 obtain ⟨fd,hb,hF⟩:=F w mg fa _ KX G.T.g hmg
 exact ag5 KX G.T.g G.T.b G.T.builtins G.T.nolimit hg hobj hints (aS0 hlen hn2) hr hF hb (fun H hO hS=>hsp w H a ns hlen hO hS) fun H e s'=>hCX w H s₁ e s'
noncomputable def iS (s:Stmt):Arguments:=match s with
 | .FunctionDef _ a _ _ _ _ _ _ _ _=>a
 | _=>{ posonlyargs:=[],args:=[],vararg:=none,kwonlyargs:=[],kw_defaults:=[],kwarg:=none,defaults:=[] }
noncomputable def eD (s:Stmt):List Stmt:=match s with
 | .FunctionDef _ _ b _ _ _ _ _ _ _=>b
 | _=>[]
noncomputable def aY (s:Stmt):Scope:=match s with
 | .FunctionDef _ _ _ _ _ _ sc _ _ _=>sc
 | _=>{ kind:=.function,names:=[],isGenerator:=false,isCoroutine:=false }
noncomputable abbrev dE:gD:=fun _ _ _ _ _ _=>False
noncomputable abbrev E0:XK:=fun _ _ _=>False
theorem ag7 {X:Cx}:mD dE X E0:=fun _ _ _ _ _ _ _ h=>h.elim
structure eF (K:PySem.W.Frag) (x qual:Str) (st:Stmt) (f:Addr) (fd:FuncData):Prop where
 ex:∃ (oc:Value) (od:Option Addr) (kV doc pm:Value) (an:Option Addr) (cdv ct:Value) (osl:Array (Option Value)),
  fd=PySem.W.fnOf x qual (iS st) (eD st) (aY st) .none kV doc pm an cdv ct/\K.lookup f=some ⟨oc,od,.func fd,osl⟩/\PySem.W.codeIn K cdv qual=true
 kp:PySem.W.keepIn K (.ref f)=true
section
variable {P : Program} {w : World} {K : PySem.W.Frag} {mg : Str → Option Value} {base : Heap}
theorem eF.ok {x qual:Str}{st:Stmt}{f:Addr}{fd:FuncData}{N ps:List Str}{k:Nat}{sp:Sp} (F:eF K x qual st f fd) (S:FnScope N ps (aY st)) (len:∀ vs H Q E,sp vs H Q E->vs.length=ps.length)
  (hbody:∀ (cdv:Value) (A:Around) (outer:List Env) (s:Shared) (H:Hp) (vs:List V) (Q:VK) (E:XK),c6 k (A.deeper (envOfC qual (aY st) s.heap.objs.size f cdv))->sp vs H Q E->
   ∃ t,e6 (cZ dE P w K mg base N qual (aY st) f cdv A outer s H E).nox (eD st) t/\t { nx:=fun _ H'=>Q .non H',rt:=Q } (start N vs) H):cH P w K mg base dE (k+1) f fd ps sp:=by
 obtain ⟨oc,od,kV,doc,pm,an,cdv,ct,osl,rfl,lk,hcd⟩:=F.ex
 refine xC lk hcd S len fun A outer s H vs Q E hr hsp=>?_
 obtain ⟨t,h,q⟩:=hbody cdv A outer s H vs Q E hr hsp
 exact⟨t,h.nox,q⟩
theorem eF.binds {x qual:Str}{st:Stmt}{f:Addr}{fd:FuncData}{ps:List Str} (F:eF K x qual st f fd)
  (h:∀ (kV doc pm:Value) (an:Option Addr) (cdv ct:Value) (us:List Value),us.length=ps.length->bindArgs (PySem.W.fnOf x qual (iS st) (eD st) (aY st) .none kV doc pm an cdv ct) ⟨us,[]⟩=pure (ps.zip us)):i7 K fd ps []:=by
 obtain ⟨oc,od,kV,doc,pm,an,cdv,ct,osl,rfl,lk,hcd⟩:=F.ex
 exact .all (h kV doc pm an cdv ct)
theorem ag8 {x qual:Str}{st:Stmt}{f:Addr}{oc:Value}{od an:Option Addr}{osl:Array (Option Value)}{kV doc pm cdv ct:Value} (l:K.lookup f=some ⟨oc,od,.func (PySem.W.fnOf x qual (iS st) (eD st) (aY st) .none kV doc pm an cdv ct),osl⟩)
  (c:PySem.W.codeIn K cdv qual=true) (k:PySem.W.keepIn K (.ref f)=true):eF K x qual st f (PySem.W.fnOf x qual (iS st) (eD st) (aY st) .none kV doc pm an cdv ct):=⟨⟨oc,od,kV,doc,pm,an,cdv,ct,osl,rfl,l,c⟩,k⟩
end
theorem sV {A:Around}{k:Nat} (hr:c6 k A):A.units+1 < cLine:=Nat.lt_of_le_of_lt (Nat.add_le_add_left (by decide:1<=64) _) hr.units
theorem mL {n:Nat} (h:n<=1000):n < sizeLine:=Nat.lt_of_le_of_lt h (by decide)
section
variable {X : Cx}
theorem pv (i:Nat) {x:Str}{pos:Pos} (hN:X.N[i]? = some x:=by rfl) (hv:gA X.env.scope x:=by first | exact Or.inl rfl | exact Or.inr (Or.inl rfl) | exact Or.inr (Or.inr rfl)) (hd:(x == ("__debug__" : Str))=false:=by decide)
  (hcd:(x == ("__classdict__" : Str))=false:=by decide):PE X (.Name x pos) (i4 i):=iK hN hv hd hcd
theorem ag9:cK X (.builtin "len") (fun xs H Q=>∃ a kvs,xs = [V.ref a]/\H a=some (.dK kvs)/\Q (.int kvs.length) H):=by
 intro pins s σ H xs us Q I r h
 obtain ⟨a,kvs,rfl,ha,q⟩:=h
 obtain ⟨u,rfl,ru⟩:=gM r
 cases ru
 exact af5 I (.inl ha) fun t s' I'=>⟨.int kvs.length,H,I',⟨t,rfl⟩,q⟩
end
theorem bC {A B:Prop} (h:B):if false=true then A else B:=by
 rw [if_neg aP2]
 exact h
theorem bW {A B:Prop} (h:A):if true=true then A else B:=by
 rw [if_pos rfl]
 exact h
noncomputable def aB (H H':Hp):Prop:=∀ b o,H b=some o->H' b=some o
theorem aB.refl (H:Hp):aB H H:=fun _ _ h=>h
theorem aB.trans {H H1 H2:Hp} (a:aB H H1) (b:aB H1 H2):aB H H2:=fun c o h=>b c o (a c o h)
theorem aB.free {H H':Hp} (e:aB H H') {l:Addr} (h:H' l=Option.none):H l=Option.none:=by
 cases q:H l with
 | none=>rfl
 | some o=>
  rw [e l o q] at h
  cases h
theorem aB.seq {K:PySem.W.Frag}{H H':Hp}{a:Addr}{xs:List V} (e:aB H H') (h:aJ K H a xs):aJ K H' a xs:=by
 rcases h with (h | ⟨o,h⟩) | h
 ·exact .inl (.inl (e _ _ h))
 ·exact .inl (.inr ⟨o,e _ _ h⟩)
 ·exact .inr h
noncomputable def e8 (cells:List (Str × Addr)):List (Str × NameKind)->List (Str × Addr)->List (Str × Addr)
 | [],cs=>cs
 | (n,k) :: r,cs=>e8 cells r (if k == .free then (n,(cells.lookup n).getD 0) :: cs else cs)
theorem sW {env:Env}:∀ (ns:List (Str × NameKind)) (cs:List (Str × Addr)),(∀ x ∈ ns,x.2 = .free->∃ c,env.cells.lookup x.1=some c)->
  (forIn ns cs (fun (x:Str × NameKind) r=>(match x with
   | (name,kind)=>if (kind == .free)=true then (do let y <- cellOf env name; pure (ForInStep.yield ((name,y) :: r))) else pure (ForInStep.yield r)):_->_->Sem _))=(pure (e8 env.cells ns cs):Sem (List (Str × Addr)))
 | [],cs,_=>by rw [List.forIn_nil]; rfl
 | (n,k) :: r,cs,h=>by
  rw [List.forIn_cons]
  have hr:∀ x ∈ r,x.2 = .free->∃ c,env.cells.lookup x.1=some c:=fun x hx=>h x (aO8 _ hx)
  cases hk:(k == NameKind.free) with
  | true=>
   have e:k = .free:=by simpa using hk
   obtain ⟨c,hc⟩:=h (n,k) aO1 e
   simp only [hk,if_true]
   have e1:cellOf env n=pure c:=by unfold cellOf; rw [hc]
   rw [e1]
   show ((pure c >>= fun y=>pure (ForInStep.yield ((n,y) :: cs))) >>= _:Sem _)=_
   rw [pure_bind,pure_bind]
   have:=sW (env:=env) r ((n,c) :: cs) hr
   refine this.trans ?_
   unfold e8
   simp only [hk,if_true,hc,Option.getD_some]
   cases r <;> rfl
  | false=>
   simp only [hk,aQ2,aT8]
   rw [pure_bind]
   have:=sW (env:=env) r cs hr
   refine this.trans ?_
   conv=>rhs; unfold e8
   simp only [hk,aQ2,aT8]
theorem oQ {scope:Scope}{env:Env} (h:∀ x ∈ scope.names,x.2 = .free->∃ c,env.cells.lookup x.1=some c):closureFor scope env=pure (e8 env.cells scope.names []):=by
 have e:=sW (env:=env) scope.names [] h
 unfold closureFor
 rw [show (pure (e8 env.cells scope.names []):Sem (List (Str × Addr)))=(pure (e8 env.cells scope.names []) >>= pure) by rw [pure_bind]]
 rw [<- e]
theorem oR {cells:List (Str × Addr)}:∀ (ns:List (Str × NameKind)) (cs:List (Str × Addr)) {x:Str}{c:Addr},(∀ y ∈ ns,y.2 = .free->∃ c,cells.lookup y.1=some c)->
  (∀ x c,cs.lookup x=some c->cells.lookup x=some c)->(e8 cells ns cs).lookup x=some c->cells.lookup x=some c
 | [],cs,x,c,_,hc,h=>hc x c h
 | (n,k) :: r,cs,x,c,hn,hc,h=>by
  unfold e8 at h
  have hr:∀ y ∈ r,y.2 = .free->∃ c,cells.lookup y.1=some c:=fun y hy=>hn y (aO8 _ hy)
  cases hk:(k == NameKind.free) with
  | false=>
   simp only [hk,aQ2,aT8] at h
   exact oR r cs hr hc h
  | true=>
   simp only [hk,if_true] at h
   refine oR r _ hr (fun y d e=>?_) h
   obtain ⟨c0,h0⟩:=hn (n,k) aO1 (by simpa using hk)
   have h0:cells.lookup n=some c0:=h0
   rw [h0] at e
   rw [aT0] at e
   by_cases hyn:y=n
   ·subst hyn
    simp only [aV6,Option.getD_some] at e
    rw [h0]; exact e
   ·have:(y == n)=false:=beq_eq_false_iff_ne.mpr hyn
    simp only [this] at e
    exact hc y d e
theorem sX {cells:List (Str × Addr)}:∀ (ns:List (Str × NameKind)) (cs:List (Str × Addr)) {x:Str},((x,NameKind.free) ∈ ns ∨ ∃ c,cs.lookup x=some c)->∃ c,(e8 cells ns cs).lookup x=some c
 | [],cs,x,h=>by
  rcases h with h | h
  ·simp at h
  ·exact h
 | (n,k) :: r,cs,x,h=>by
  unfold e8
  refine sX r _ ?_
  rcases h with h | ⟨c,h⟩
  ·rcases aO7.mp h with e | e
   ·cases e
    exact .inr ⟨_,by simp [aT0]; rfl⟩
   ·exact .inl e
  ·right
   cases hk:(k == NameKind.free) with
   | false=>exact⟨c,by simpa [hk] using h⟩
   | true=>
    simp only [if_true]
    rw [aT0]
    by_cases hxn:(x == n)=true
    ·simp only [hxn]; exact⟨_,rfl⟩
    ·simp only [aY5.mpr hxn]; exact⟨c,h⟩
theorem oS {env:Env}:∀ {names:List (Str × NameKind)}{x:Str}{k:NameKind},(names.map fun (n,k)=>if (k == NameKind.free && env.scope.kind == .function && env.kindOf n == some .cell) then (n,NameKind.cell) else (n,k)).lookup x=some k->
  names.lookup x=some k ∨ (names.lookup x=some .free/\k = .cell)
 | [],_,_,h=>by simp at h
 | (n,q) :: r,x,k,h=>by
  have ih:=@oS env r x k
  rw [aS6] at h
  by_cases hx:(x == n)=true
  ·have e:x=n:=by simpa using hx
   subst e
   by_cases hc:(q == NameKind.free && env.scope.kind == .function && env.kindOf x == some .cell)=true
   ·simp only [hc,if_true,aT0,aV6] at h
    have hq:q = .free:=by simp at hc; exact hc.1.1
    exact .inr ⟨by simp [aT0,hq],(aQ5 h).symm⟩
   ·simp only [hc,aQ2,aT8,aT0,aV6] at h
    exact .inl (by simp [aT0]; exact aQ5 h)
  ·have hx':(x == n)=false:=aY5.mpr hx
   have h':(r.map fun (n,k)=>if (k == NameKind.free && env.scope.kind == .function && env.kindOf n == some .cell) then (n,NameKind.cell) else (n,k)).lookup x=some k:=by
    by_cases hc:(q == NameKind.free && env.scope.kind == .function && env.kindOf n == some .cell)=true
    ·simp only [hc,if_true,aT0,hx'] at h; exact h
    ·simp only [hc,aQ2,aT8,aT0,hx'] at h; exact h
   simp only [aT0,hx']
   exact ih h'
noncomputable def fL (fr:List (Option Nat)) (σ:St):St:=fr.map fun o=>o.bind fun j=>(σ[j]?).join
noncomputable def Wk (σ₁ σ₂:St):Prop:=σ₁.length=σ₂.length/\∀ (i:Nat) v,σ₁[i]? = some (some v)->σ₂[i]? = some (some v)
theorem Wk.refl (σ:St):Wk σ σ:=⟨rfl,fun _ _ h=>h⟩
theorem Wk.set {σ τ:St}{i:Nat}{v:V} (h:Wk σ τ) (hi:σ[i]? = some none):Wk σ (τ.set i (some v)):=by
 refine⟨by rw [aR7]; exact h.1,fun j w e=>?_⟩
 by_cases hj:j=i
 ·subst hj; rw [hi] at e; cases e
 ·rw [aR0 (Ne.symm hj)]; exact h.2 j w e
theorem iT:∀ (ns:List (Str × NameKind)) (n:Nat) (cs:List (Str × Addr)),cellsFrom n ns cs=cellsFrom n ns [] ++ cs
 | [],_,_=>rfl
 | (x,k) :: r,n,cs=>by
  unfold cellsFrom
  split
  ·rw [iT r (n+1) ((x,n) :: cs),iT r (n+1) [(x,n)]]; simp
  ·exact iT r n cs
theorem sY:∀ (ns:List (Str × NameKind)) (n:Nat) {x:Str}{c:Addr},(x,c) ∈ cellsFrom n ns []->(x,NameKind.cell) ∈ ns
 | [],_,_,_,h=>by simp [cellsFrom] at h
 | (y,k) :: r,n,x,c,h=>by
  unfold cellsFrom at h
  split at h
  ·rename_i hk
   rw [iT] at h
   rcases aO4.mp h with z | z
   ·exact aO8 _ (sY r _ z)
   ·rw [aN7] at z
    cases z
    have:k = .cell:=by simpa using hk
    rw [this]; exact aO1
  ·exact aO8 _ (sY r _ h)
theorem oT:∀ (ns:List (Str × NameKind)) (n:Nat) {x:Str},(x,NameKind.cell) ∈ ns->∃ c,(x,c) ∈ cellsFrom n ns []
 | (y,k) :: r,n,x,h=>by
  unfold cellsFrom
  rcases aO7.mp h with z | z
  ·cases z
   rw [if_pos (by rfl),iT]
   exact⟨n,aQ4 _ (by simp)⟩
  ·split
   ·obtain ⟨c,hc⟩:=oT r (n+1) z
    rw [iT]
    exact⟨c,aQ9 _ hc⟩
   ·exact oT r n z
theorem sZ {α:Type}:∀ {l:List (Str × α)}{x:Str}{c:α},(x,c) ∈ l->∃ d,l.lookup x=some d
 | (y,v) :: r,x,c,h=>by
  rw [aT0]
  cases hb:x == y with
  | true=>exact⟨v,rfl⟩
  | false=>
   rcases aO7.mp h with z | z
   ·cases z; simp at hb
   ·exact sZ z
theorem oU {α:Type}{x:Str}:∀ (l r:List (Str × α)),(l ++ r).lookup x=(match l.lookup x with | some v=>some v | none=>r.lookup x)
 | [],_=>rfl
 | (y,v) :: l,r=>by
  rw [List.cons_append,aT0,aT0]
  cases hb:x == y with
  | true=>rfl
  | false=>exact oU l r
noncomputable def gE (X:Cx) (scope:Scope) (C:Addr):List (Str × Addr):=cellsFrom (C+1) scope.names (e8 X.env.cells scope.names [])
theorem kC {X:Cx}{scope:Scope}{C:Addr}{x:Str}{c:Addr} (h:(gE X scope C).lookup x=some c) :
  (x,c) ∈ cellsFrom (C+1) scope.names [] ∨ ((∀ d,(x,d) ∉ cellsFrom (C+1) scope.names [])/\(e8 X.env.cells scope.names []).lookup x=some c):=by
 unfold gE at h
 rw [iT,oU] at h
 cases e:(cellsFrom (C+1) scope.names []).lookup x with
 | some v=>rw [e] at h; cases h; exact .inl (aS4 e)
 | none=>
  rw [e] at h
  refine .inr ⟨fun d hd=>?_,h⟩
  obtain ⟨d',z⟩:=sZ hd
  rw [e] at z; cases z
theorem ah0 {X:Cx}{scope:Scope}{C:Addr}{x:Str}{c:Addr} (hn:(x,NameKind.cell) ∉ scope.names) (h:(e8 X.env.cells scope.names []).lookup x=some c):(gE X scope C).lookup x=some c:=by
 unfold gE
 rw [iT,oU]
 cases e:(cellsFrom (C+1) scope.names []).lookup x with
 | some v=>exact absurd (sY _ _ (aS4 e)) hn
 | none=>exact h
theorem yT {X:Cx}{scope:Scope}{C:Addr}{x:Str} (h:(x,NameKind.cell) ∈ scope.names ∨ ∃ c,(e8 X.env.cells scope.names []).lookup x=some c):∃ c,(gE X scope C).lookup x=some c:=by
 unfold gE
 rw [iT,oU]
 cases e:(cellsFrom (C+1) scope.names []).lookup x with
 | some v=>exact⟨v,rfl⟩
 | none=>
  rcases h with h | h
  ·obtain ⟨c,hc⟩:=oT scope.names (C+1) h
   obtain ⟨d,hd⟩:=sZ hc
   rw [e] at hd; cases hd
  ·exact h
noncomputable def bF (X:Cx) (scope:Scope) (N:List Str) (s:Shared) (H:Hp) (C:Addr) (fp:List Addr) (E:Value->Shared->Prop):Cx:=
 { X with N:=N,s₀:=s,H₀:=H,env:=compEnvC scope (gE X scope C) C X.env,outer:=X.stack,ex:=fp,fn:=fun x=>scope.names.lookup x == some .cell,pn:=[],xe:=E }
structure c7 (X:Cx) (scope:Scope) (N:List Str) (fr:List (Option Nat)):Prop where
 kind:scope.kind = .function
 own:∀ y ∈ scope.names,y.2 = .cell->scope.names.lookup y.1=some .cell
 names:∀ y ∈ scope.names,y.2 = .local->scope.names.lookup y.1=some .local
 free:∀ y ∈ scope.names,y.2 = .free->X.env.scope.names.lookup y.1=some .cell ∨ X.env.scope.names.lookup y.1=some .free
 len:fr.length=N.length
 from_:∀ (i j:Nat),fr[i]? = some (some j)->∃ x,N[i]? = some x/\X.N[j]? = some x/\scope.names.lookup x=some .free
section
variable {X : Cx} {pins : List (Addr × Obj)} {σ : St} {H : Hp} {s : Shared} {scope : Scope} {N : List Str} {fr : List (Option Nat)}
theorem c7.cells (S:c7 X scope N fr) (I:a6 X pins σ H s):∀ y ∈ scope.names,y.2 = .free->∃ c,X.env.cells.lookup y.1=some c:=fun y hy hk=>I.ok.has y.1 (S.free y hy hk)
theorem ah1 {C D:Addr}{fp:List Addr}{E:Value->Shared->Prop}{h1:Heap}{tk:Nat}{m:Str->Option Value} (S:c7 X scope N fr) (I:a6 X pins σ H s)
  (hf:∀ b ∈ fp,gC X pins H b) (hfl:∀ b ∈ fp,b < s.heap.objs.size) (hD:s.heap.objs.size<=D) (hC:s.heap.objs.size<=C) (hDC:D < C)
  (old:∀ b o,s.heap.get? b=some o->h1.get? b=some o) (hns:h1.Ns C m) (hacc:h1.get? D=some { cls:=.type "list",data:=.seq #[] 0 }) (hco:CellsOk h1 (C+1) (cellsFrom (C+1) scope.names [])) :
  a6 (bF X scope N s H C fp E) [] (fL fr σ) (upd H D (.lst [])) { s with heap:=h1,toks:=tk }:=by
 have hHD:H D=none:=I.hok.fresh hD
 have cl:=S.cells I
 have cs:∀ {x:Str}{c:Addr},(e8 X.env.cells scope.names []).lookup x=some c->X.env.cells.lookup x=some c:=fun {x c} h=>oR scope.names [] cl (fun _ _ z=>by simp at z) h
 have clt:∀ {x:Str}{c:Addr},X.env.cells.lookup x=some c->c < s.heap.objs.size:=fun {x c} h=>by obtain ⟨v,z⟩:=I.cell x c h; exact z.lt
 have nge:∀ {x:Str}{c:Addr},(x,c) ∈ cellsFrom (C+1) scope.names []->C < c:=fun {x c} h=>(hco.empty x c h).2
 refine⟨⟨I.ok.mod,?_,I.ok.glob,I.ok.blt,hC,?_,?_,?_,I.ok.hd,I.ok.frames,.inl rfl,?_,I.bs,aS0 I.ok.bsz I.sz,?_,?_,I.stack,I.stkFree⟩,rfl,I.bare,Un.laid old hD hHD,⟨m,hns,?_⟩,?_,?_,?_,fun p hp=>absurd (show p ∈ ([]:List (Addr × Obj)) from hp) (by simp),?_,?_⟩
 ·exact S.kind
 ·intro x y c h1 h2
  rcases kC h1 with a | ⟨_,a⟩ <;> rcases kC h2 with b | ⟨_,b⟩
  ·exact name_of_addr hco.apart a b
  ·exact absurd (aO9 (Nat.lt_trans (nge a) (clt (cs b))) hC) (aS1 _)
  ·exact absurd (aO9 (Nat.lt_trans (nge b) (clt (cs a))) hC) (aS1 _)
  ·exact I.ok.inj x y c (cs a) (cs b)
 ·intro x hx
  have hx:(relabel scope X.env).names.lookup x=some .cell ∨ (relabel scope X.env).names.lookup x=some .free:=hx
  have fin:(x,NameKind.free) ∈ scope.names->∃ c,(gE X scope C).lookup x=some c:=fun z=>yT (.inr (sX scope.names [] (.inl z)))
  rcases hx with hx | hx
  ·rcases oS hx with z | z
   ·exact yT (.inl (aS4 z))
   ·exact fin (aS4 z.1)
  ·rcases oS hx with z | z
   ·exact fin (aS4 z)
   ·exact absurd z.2 (by decide)
 ·intro x c hx h
  have hx:(scope.names.lookup x == some NameKind.cell)=true:=hx
  have hx:scope.names.lookup x=some .cell:=by simpa using hx
  rcases kC h with a | ⟨a,_⟩
  ·exact aS0 hC (aT1 (nge a))
  ·obtain ⟨d,hd⟩:=oT scope.names (C+1) (aS4 hx)
   exact absurd hd (a d)
 ·intro b hb
  refine⟨aR2 (aO9 (hfl b hb) hC),fun x c e=>?_⟩
  rcases kC e with a | ⟨_,a⟩
  ·exact aW4 (Nat.lt_trans (aO9 (hfl b hb) hC) (nge a))
  ·exact (hf b hb).2.2.2.2.1 x c (cs a)
 ·intro b o e hb
  rcases (hf b hb).2.2.2.1 with z | z
  ·exact I.ok.noex b o e z
  ·exact absurd (aO9 (aP1 e) (aS0 I.ok.bsz z)) (aS1 _)
 ·intro b hb z
  rcases aO7.mp (I.stkSub b z) with e | e
  ·exact (hf b hb).2.1 e
  ·exact (hf b hb).2.2.1 e
 ·intro i x v e1 e2 e3
  have e2:(fr.map fun o=>o.bind fun j=>(σ[j]?).join)[i]? = some (some v):=e2
  rw [aO5] at e2
  cases ef:fr[i]? with
  | none=>rw [ef] at e2; cases e2
  | some o=>
   rw [ef] at e2
   cases o with
   | none=>cases e2
   | some j=>
    have e2:some ((σ[j]?).join)=some (some v):=e2
    have ej:σ[j]? = some (some v):=by
     cases q:σ[j]? with
     | none=>rw [q] at e2; cases e2
     | some w=>rw [q] at e2; cases w with
      | none=>cases e2
      | some w=>cases e2; rfl
    obtain ⟨y,a1,a2,a4⟩:=S.from_ i j ef
    have e1:N[i]? = some x:=e1
    rw [e1] at a1
    cases a1
    have a3:(x,NameKind.free) ∈ scope.names:=aS4 a4
    have vis:gA X.env.scope x:=(S.free _ a3 rfl).elim (fun z=>.inr (.inl z)) fun z=>.inr (.inr z)
    obtain ⟨m0,hn0,hl0⟩:=I.loc
    obtain ⟨u,r,l⟩:=hl0 j x v a2 ej vis
    refine⟨u,r,.inr ⟨?_,?_⟩⟩
    ·have e3:(relabel scope X.env).names.lookup x=some .local ∨ (relabel scope X.env).names.lookup x=some .cell ∨ (relabel scope X.env).names.lookup x=some .free:=e3
     rcases e3 with z | z | z
     ·rcases oS z with y | y
      ·rw [a4] at y; cases y
      ·exact absurd y.2 (by decide)
     ·exact .inl z
     ·exact .inr z
    ·obtain ⟨c,hc⟩:=sX (cells:=X.env.cells) scope.names [] (x:=x) (.inl a3)
     refine⟨c,ah0 (fun z=>by have:=S.own _ z rfl; rw [a4] at this; cases this) hc,?_⟩
     have hc':=cs hc
     have S1:=S.free (x,.free) a3 rfl
     rcases l with ⟨k,_⟩ | ⟨_,c2,hc2,z⟩
     ·have k:X.env.scope.names.lookup x=some .local:=k
      rcases S1 with q | q <;> (have q:X.env.scope.names.lookup x=_:=q; rw [k] at q; cases q)
     ·rw [hc'] at hc2; cases hc2
      obtain ⟨oc,ho,hd⟩:=z
      exact⟨oc,old c oc ho,hd⟩
 ·intro x c e
  rcases kC e with a | ⟨_,a⟩
  ·exact⟨_,(hco.empty x c a).1⟩
  ·obtain ⟨v,oc,ho,hd⟩:=I.cell x c (cs a)
   exact⟨v,oc,old c oc ho,hd⟩
 ·show upd H D (.lst []) C=none
  rw [aZ (aW4 hDC)]; exact I.hok.fresh hC
 ·intro x c e
  show upd H D (.lst []) c=none
  rcases kC e with a | ⟨_,a⟩
  ·rw [aZ (aW4 (Nat.lt_trans hDC (nge a)))]; exact I.hok.fresh (aS0 hC (aT1 (nge a)))
  ·have q:=cs a
   rw [aZ (aR2 (aO9 (clt q) hD))]
   exact I.freeC x c q
 ·exact I.hok.laid old hD ⟨aS3 _,[],0,.nil,hacc⟩
 ·show (fL fr σ).length=N.length
  unfold fL; rw [aN6]; exact S.len
end
noncomputable def jK (X:Cx) (ifs:List Expr) (t:TT):Prop:=
 ∀ (pins:List (Addr × Obj)) (s:Shared) (σ:St) (H:Hp) (Q:Bool->Hp->Prop),a6 X pins σ H s->t σ H Q->
  wpAny (model X.prog X.w) X.A (forIn ifs true fun c r=>if r=true then do let ok <- isTrue c X.env (eval c X.env); pure (ForInStep.yield ok) else pure (ForInStep.yield r)) (TP X pins σ Q) X.xe s
noncomputable def t4:TT:=fun _ H Q=>Q true H
theorem mM {X:Cx}:jK X [] t4:=fun _ _ _ H _ I h=>wpAny_tests_nil ⟨H,I,h⟩
theorem yU {X:Cx}{c:Expr}{t:TT} (h:PT X c t):jK X [c] t:=fun pins s σ H Q I hq=>wpAny_tests_one (h pins s σ H Q I hq)
section
variable {prog : Program} {w : World} {A : Around}
noncomputable def t5 (prog:Program) (w:World) (A:Around) (elt tg:Expr) (ifs:List Expr) (it acc:Value) (env:Env) (lost:Value->Shared->Prop) (stop next:Shared->Prop) (s:Shared):Prop:=
 let M:=model prog w
 let tests:Sem Bool:=forIn ifs true fun c r=>if r=true then do let ok <- isTrue c env (eval c env); pure (ForInStep.yield ok) else pure (ForInStep.yield r)
 let put:Shared->Prop:=wpAny M A (eval elt env) (fun x=>wpAny M A (call (.builtin "list.append") [acc,x]) (fun _=>next) lost) lost
 let taken:Value->Shared->Prop:=fun v=>wpAny M A (letOwnedTupleGo tg it v) (fun _=>wpAny M A (assign tg env v) (fun _=>wpAny M A tests (fun ok s'=>if ok=true then put s' else next s') lost) lost) lost
 wpAny M A (pyNext it) (fun r s'=>match r with
  | none=>stop s'
  | some v=>taken v s') lost s
theorem ah2 {R:Result->Shared->Prop}{s:Shared}{elt tg iter:Expr}{ifs:List Expr}{scope:Scope}{pos:Pos}{it acc:Value}{env:Env} (I:Nat->Shared->Prop)
  (turn:∀ n s,I n s->t5 prog w A elt tg ifs it acc env (notedBy (model prog w) A env fun e=>R (.error e)) (R (.ok .next)) (fun s'=>∃ m,m < n/\I m s') s) (n:Nat) (h:I n s) :
  codeAny (model prog w) A (.compLoop (.ListComp elt [⟨tg,iter,ifs,0⟩] scope pos) 0 it acc env) R s:=by
 apply codeAny_loop rfl I _ n h
 intro k s1 h1
 change wpAny _ A ((compTurn _ 0 it acc env).onRaise (fun x=>do noteFrame x env; theTreesLotGoes x)) _ _ s1
 apply wpAny_noted
 rw [compTurn_list]
 have t:=turn k s1 h1
 unfold t5 at t
 apply aN2
 apply wpAny_standAt
 apply aN2
 refine aV8 t (fun r s2 h2=>?_) fun _ _ z=>z
 cases r with
 | none=>exact aO6 h2
 | some v=>
  apply aN2
  refine aV8 h2 (fun _ s3 h3=>?_) fun _ _ z=>z
  apply aN2
  refine aV8 h3 (fun _ s4 h4=>?_) fun _ _ z=>z
  apply aN2
  refine aV8 h4 (fun ok s5 h5=>?_) fun _ _ z=>z
  cases ok with
  | false=>exact aO6 ⟨rfl,h5⟩
  | true=>
   apply aN2
   apply aN2
   refine aV8 h5 (fun x s6 h6=>?_) fun _ _ z=>z
   apply aN2
   exact aV8 h6 (fun _ s7 h7=>aO6 (aO6 ⟨rfl,h7⟩)) fun _ _ z=>z
end
noncomputable def mO (g:TG) (tc:TT) (te:TE) (σ0:St) (J:It) (D:Addr) (Q:VK) (W:Nat->Nat->List V->Hp->Prop):Prop:=
 ∀ i m acc H',W i m acc H'->H' D=some (.lst acc)/\((J.stop i H'/\Q (.ref D) H') ∨ (J.go i H'/\∀ x H2,J.yld i H' x H2->g x σ0 H2 fun σ2 H3=>Wk σ0 σ2/\tc σ2 H3 fun b H4=>
  if b=true then te σ2 H4 fun v H5=>H5 D=some (.lst acc)/\acc.length < sizeLine/\∃ m',m' < m/\W (i+1) m' (acc ++ [v]) (upd H5 D (.lst (acc ++ [v]))) else ∃ m',m' < m/\W (i+1) m' acc H4))
noncomputable def yV (wi:TI) (fr:List (Option Nat)) (g:TG) (tc:TT) (te:TE):TE:=fun σ H Q=>wi σ H fun J H1=>∀ D,H1 D=none->
 ∃ W:Nat->Nat->List V->Hp->Prop,(∃ m,W 0 m [] (upd H1 D (.lst [])))/\mO g tc te (fL fr σ) J D Q W
section
variable {M : Model} {A : Around} {E : Value → Shared → Prop} {s : Shared}
theorem ah3 {scope:Scope}{globals:Addr}{cl:List (Str × Addr)}{qual:Str}{func:Option Addr}{code:Value}{builtins:Addr}{outer:Env}{Q:Env->Shared->Prop}
  (hQ:∀ h',h'.Ns s.heap.objs.size (fun _=>none)->(∀ b o,s.heap.get? b=some o->h'.get? b=some o)->CellsOk h' (s.heap.objs.size+1) (cellsFrom (s.heap.objs.size+1) scope.names [])->
   Q (newEnv scope s.heap.objs.size globals (cellsFrom (s.heap.objs.size+1) scope.names cl) qual func code (some outer) builtins) { s with heap:=h' }) :
  wpAny M A (newFunctionEnv scope globals cl [] qual func code (some outer) builtins) Q E s:=by
 simp only [newFunctionEnv,Option.isSome_some,if_true]
 refine aN2 (wpAny_alloc ?_)
 refine aN2 (wpAny_layCells _ (fun name kind cells=>by cases hkc:kind == NameKind.cell <;> simp [hkc]) _ _ _ _ ?_)
 have ok:=cellsFrom_ok scope.names (s.heap.push { cls:=.type "dict",data:=.dict #[] }) (s.heap.objs.size+1) [] ⟨fun _ _ hm=>(nomatch hm),aY4⟩ (by rw [bb4]; exact aO0 _)
 rw [bb4] at ok
 rw [show ({ s with heap:=s.heap.push { cls:=.type "dict",data:=.dict #[] } }:Shared).heap.objs.size=s.heap.objs.size+1 from bb4 ..]
 rw [List.forIn_nil]
 refine aN2 (aO6 (aO6 (hQ _ ((Heap.Ns.new s.heap (.type "dict")).keeps (pushCells_keeps _ _)) (fun b o e=>pushCells_keeps _ _ b o (aN4 _ e)) ok)))
end
section
variable {X : Cx} {pins : List (Addr × Obj)} {σ : St} {H : Hp} {s : Shared} {scope : Scope} {N : List Str} {fr : List (Option Nat)} {tg iter elt : Expr} {ifs : List Expr} {pos : Pos} {wi : TI} {g : TG} {tc : TT} {te : TE}
structure lA (X:Cx) (scope:Scope) (N:List Str) (tg:Expr) (ifs:List Expr) (elt:Expr) (s:Shared) (H:Hp) (g:TG) (tc:TT) (te:TE):Prop where
 tg:∀ (C:Addr) (fp:List Addr),PG (bF X scope N s H C fp fun _ _=>False) tg g
 ifs:∀ (C:Addr) (fp:List Addr),jK (bF X scope N s H C fp fun _ _=>False) ifs tc
 elt:∀ (C:Addr) (fp:List Addr),PE (bF X scope N s H C fp fun _ _=>False) elt te
structure mP (X:Cx) (scope:Scope) (N:List Str) (tg:Expr) (ifs:List Expr) (elt:Expr) (g:TG) (tc:TT) (te:TE):Prop where
 tg:∀ (s:Shared) (H:Hp) (C:Addr) (fp:List Addr),PG (bF X scope N s H C fp fun _ _=>False) tg g
 ifs:∀ (s:Shared) (H:Hp) (C:Addr) (fp:List Addr),jK (bF X scope N s H C fp fun _ _=>False) ifs tc
 elt:∀ (s:Shared) (H:Hp) (C:Addr) (fp:List Addr),PE (bF X scope N s H C fp fun _ _=>False) elt te
theorem mP.at (B:mP X scope N tg ifs elt g tc te) (s:Shared) (H:Hp):lA X scope N tg ifs elt s H g tc te:=⟨B.tg s H,B.ifs s H,B.elt s H⟩
theorem ah4 {C:Addr}{fp:List Addr}{E:Value->Shared->Prop}{pins':List (Addr × Obj)}{σ':St}{H':Hp}{s':Shared} (I:a6 X pins σ H s) (hf:∀ b ∈ fp,gC X pins H b) (I':a6 (bF X scope N s H C fp E) pins' σ' H' s'):a6 X pins σ H' s':=
 I.call' (ch:=fp) I'.os I'.base I'.hok I'.bare fun b hb=>⟨(hf b hb).2.2.2.1,(hf b hb).2.1,(hf b hb).2.2.2.2.1,(hf b hb).2.2.2.2.2⟩
theorem oV {Rr:Value->Addr->Result->Shared->Prop}{J:It}{fp:List Addr}{it:Addr}{tn:Nat->Heap->Prop}{Q:VK}
  (hc:X.calm=true) (S:c7 X scope N fr) (B:lA X scope N tg ifs elt s H g tc te) (I:a6 X pins σ H s) (T:iM X.prog X.w X.K tg J fp it tn) (hst:tn 0 s.heap) (hf:∀ b ∈ fp,gC X pins H b)
  (h:∀ D,H D=none->∃ W:Nat->Nat->List V->Hp->Prop,(∃ m,W 0 m [] (upd H D (.lst [])))/\mO g tc te (fL fr σ) J D Q W)
  (hend:∀ (D C:Addr) (s':Shared) (H':Hp) (m:Str->Option Value),s.heap.objs.size<=C->s.heap.objs.size<=D->a6 X pins σ H' s'->s'.heap.Ns C m->H' C=none->Q (.ref D) H'->Rr (.ref D) C (.ok .next) s') :
  wpAny (model X.prog X.w) X.A (newList []) (fun acc s₃=>wpAny (model X.prog X.w) X.A (newFunctionEnv scope X.env.globals (e8 X.env.cells scope.names []) [] X.env.qual none .none (some X.env)) (fun cenv s₄=>
   codeAny (model X.prog X.w) X.A (.compStart (.ListComp elt [⟨tg,iter,ifs,0⟩] scope pos) 0 (.ref it) acc { cenv with scope:=relabel scope X.env }) (Rr acc cenv.locals) s₄) X.xe s₃) X.xe s:=by
 refine aU0 (ah3 (fun h₁ hns₁ keep₁ hco₁=>?_))
 dsimp only at hns₁ keep₁ hco₁ ⊢
 generalize hH2:s.heap.push { cls:=.type "list",dict:=none,data:=.seq ([]:List Value).toArray }=H2 at hns₁ keep₁ hco₁ ⊢
 have hC:H2.objs.size=s.heap.objs.size+1:=by rw [<- hH2,bb4]
 have hDC:s.heap.objs.size < H2.objs.size:=by rw [hC]; exact Nat.lt_succ_self _
 have hCle:s.heap.objs.size<=H2.objs.size:=by rw [hC]; exact Nat.le_succ _
 have old:∀ b o,s.heap.get? b=some o->h₁.get? b=some o:=fun b o e=>keep₁ b o (hH2 ▸ aN4 _ e)
 have hacc:h₁.get? s.heap.objs.size=some { cls:=.type "list",data:=.seq #[] 0 }:=keep₁ _ _ (hH2 ▸ aP5 _ rfl)
 have hfl:∀ b ∈ fp,b < s.heap.objs.size:=fun b hb=>by obtain ⟨o,e,_⟩:=T.obj _ _ hst b hb; exact aP1 e
 obtain ⟨W,⟨m0,w0⟩,turn⟩:=h s.heap.objs.size (I.hok.fresh (aO0 _))
 have st1:tn 0 h₁:=T.keep _ _ _ hst fun b _ o e=>old b o e
 have fr0:∀ b ∈ fp,upd H s.heap.objs.size (.lst []) b=none:=fun b hb=>by rw [aZ (aR2 (hfl b hb))]; exact (hf b hb).1
 have stat:∀ {H':Hp},(∀ b ∈ fp,H' b=none)->∀ b ∈ fp,gC (bF X scope N s H H2.objs.size fp fun _ _=>False) [] H' b:=fun {H'} hn b hb=>by
  have f:=hf b hb
  refine⟨hn b hb,aR2 (aO9 (hfl b hb) hCle),fun z=>?_,.inl hb,fun x c e=>(kC e).elim (fun z=>aW4 (Nat.lt_trans (aO9 (hfl b hb) hCle) (hco₁.empty x c z).2)) fun z=>f.2.2.2.2.1 x c (oR scope.names [] (S.cells I) (fun _ _ z=>by simp at z) z.2),fun p hp=>absurd (show p ∈ ([]:List (Addr × Obj)) from hp) (by simp)⟩
  rcases aO7.mp (I.stkSub b z) with e | e
  ·exact f.2.1 e
  ·exact f.2.2.1 e
 generalize hX:bF X scope N s H H2.objs.size fp (fun _ _=>False)=Y at stat
 have I0:a6 Y [] (fL fr σ) (upd H s.heap.objs.size (.lst [])) { s with heap:=h₁ }:=hX ▸ ah1 S I hf hfl (aO0 _) hCle hDC old hns₁ hacc hco₁
 have bt:PG Y tg g:=hX ▸ B.tg H2.objs.size fp
 have bi:jK Y ifs tc:=hX ▸ B.ifs H2.objs.size fp
 have be:PE Y elt te:=hX ▸ B.elt H2.objs.size fp
 have eP:Y.prog=X.prog:=by rw [<- hX]; rfl
 have ew:Y.w=X.w:=by rw [<- hX]; rfl
 have eK:Y.K=X.K:=by rw [<- hX]; rfl
 have eA:Y.A=X.A:=by rw [<- hX]; rfl
 have eE:Y.env=compEnvC scope (gE X scope H2.objs.size) H2.objs.size X.env:=by rw [<- hX]; rfl
 have eX:Y.xe=fun _ _=>False:=by rw [<- hX]; rfl
 have ec:Y.calm=true:=by rw [<- hX]; exact hc
 have never:∀ {E:Value->Shared->Prop} (e:Value) (s':Shared),Y.xe e s'->E e s':=fun {E} e s' z=>by rw [eX] at z; exact z.elim
 have out:∀ {pins' σ' H' s'},a6 Y pins' σ' H' s'->a6 X pins σ H' s':=fun {_ _ _ _} I'=>ah4 (C:=H2.objs.size) (E:=fun _ _=>False) (scope:=scope) (N:=N) I hf (hX ▸ I')
 have loop:codeAny (model X.prog X.w) X.A (.compLoop (.ListComp elt [⟨tg,iter,ifs,0⟩] scope pos) 0 (.ref it) (.ref s.heap.objs.size) (compEnvC scope (gE X scope H2.objs.size) H2.objs.size X.env))
   (Rr (.ref s.heap.objs.size) H2.objs.size) { s with heap:=h₁ }:=by
  refine ah2 (fun n s'=>∃ i acc H',a6 Y [] (fL fr σ) H' s'/\tn i s'.heap/\(∀ b ∈ fp,H' b=none)/\W i n acc H') ?_ m0 ⟨0,[],_,I0,st1,fr0,w0⟩
  rintro n s3 ⟨i,acc,H3,I3,st3,fr3,w3⟩
  unfold t5
  dsimp only
  obtain ⟨hD3,step⟩:=turn i n acc H3 w3
  rcases step with ⟨stop,qn⟩ | ⟨go,step⟩
  ·have z:=T.done Y eP ew eK ec i [] s3 _ H3 (notedBy (model X.prog X.w) X.A (compEnvC scope (gE X scope H2.objs.size) H2.objs.size X.env) fun e s'=>Rr (.ref s.heap.objs.size) H2.objs.size (.error e) s') I3 (stat fr3) st3 stop
   rw [eA] at z
   refine aO z fun r s4 ⟨hr,I4⟩=>?_
   subst hr
   obtain ⟨m4,hn4,_⟩:=I4.loc
   rw [eE] at hn4
   have f4:=I4.free
   rw [eE] at f4
   exact hend _ _ s4 H3 m4 hCle (aO0 _) (out I4) hn4 f4 qn
  ·have z:=T.item Y eP ew eK ec i [] s3 _ H3 (notedBy (model X.prog X.w) X.A (compEnvC scope (gE X scope H2.objs.size) H2.objs.size X.env) fun e s'=>Rr (.ref s.heap.objs.size) H2.objs.size (.error e) s') I3 (stat fr3) st3 go
   rw [eA] at z
   refine aO z fun r s4 ⟨u,hr,h4⟩=>?_
   subst hr
   refine aO h4 fun _ s5 ⟨x,H5,I5,r5,y5,st5,fr5⟩=>?_
   have I5':=I5.pinned (stat fr5) (T.obj _ _ st5)
   have q1:=bt _ s5 _ H5 x u _ I5' r5 (step x H5 y5)
   rw [eP,ew,eA,eE] at q1
   refine aV8 q1 (fun _ s6 ⟨σ6,H6,I6,wk,q6⟩=>?_) never
   have q2:=bi _ s6 σ6 H6 _ I6 q6
   rw [eP,ew,eA,eE] at q2
   refine aV8 q2 (fun b s7 ⟨H7,I7,q7⟩=>?_) never
   have again:∀ {H8:Hp}{s8:Shared}{acc':List V},a6 Y ([] ++ m9 fp s5.heap) σ6 H8 s8->(∃ m',m' < n/\W (i+1) m' acc' H8)->∃ m,m < n/\∃ i acc H',a6 Y [] (fL fr σ) H' s8/\tn i s8.heap/\(∀ b ∈ fp,H' b=none)/\W i m acc H':=fun {H8 s8 acc'} I8 n8=>by
    obtain ⟨m',hm,w8⟩:=n8
    refine⟨m',hm,i+1,acc',H8,(I8.unpinned).weak wk.1 wk.2,T.keep _ _ _ st5 fun b hb o e=>(I8.pin (b,o) (aQ4 _ (aQ4 _ (oB hb e)))).1,fun b hb=>?_,w8⟩
    obtain ⟨o,e,d⟩:=T.obj _ _ st5 b hb
    exact (I8.pin (b,o) (aQ4 _ (aQ4 _ (oB hb e)))).2.1
   cases b with
   | false=>
    rw [if_neg aP2] at q7 ⊢
    exact again I7 q7
   | true=>
    rw [if_pos rfl] at q7 ⊢
    have q3:=be _ s7 σ6 H7 _ I7 q7
    rw [eP,ew,eA,eE] at q3
    refine aV8 q3 (fun v s8 ⟨y,H8,I8,r8,hD8,hz8,q8⟩=>?_) never
    have q4:=l8 _ s8 σ6 H8 (.ref s.heap.objs.size) [y] (.ref s.heap.objs.size) [v] (fun _ H9=>∃ m',m' < n/\W (i+1) m' (acc ++ [y]) H9) I8 rfl (.cons r8 .nil) ⟨_,_,_,rfl,rfl,hD8,hz8,q8⟩
    rw [eP,ew,eA] at q4
    exact aV8 q4 (fun _ s9 ⟨_,H9,I9,_,q9⟩=>again I9 q9) never
 exact codeAny_compStart_list loop (T.self _ 0 _ _ _ st1 loop)
end
section
variable {X : Cx} {scope : Scope} {N : List Str} {fr : List (Option Nat)} {tg iter elt : Expr} {ifs : List Expr} {pos : Pos} {wi : TI} {g : TG} {tc : TT} {te : TE}
theorem a6.drop {pins:List (Addr × Obj)}{σ:St}{H H':Hp}{s s':Shared}{C:Addr}{h':Heap} (I0:a6 X pins σ H s) (hC:s.heap.objs.size<=C) {σ':St} (I:a6 X pins σ' H' s') (hn:H' C=none) (sb:Heap.SameBut C s'.heap h'):a6 X pins σ' H' { s' with heap:=h' }:=by
 refine I.turned (t':=s'.toks) (it:=C) (fun b o hb e=>(sb.2 b hb).trans e) hn (aW4 (aO9 I0.lt hC)) (.inr (aS0 I0.sz hC)) (fun x c e z=>?_) fun p hp z=>?_
 ·obtain ⟨v,q⟩:=I0.cell x c e
  exact absurd (aO9 q.lt (by rw [z]; exact hC)) (aS1 _)
 ·exact absurd (aO9 (aP1 (I0.pin p hp).1) (by rw [z]; exact hC)) (aS1 _)
theorem yW (hc:X.calm=true) (S:c7 X scope N fr) (hi:PI X tg iter wi) (B:mP X scope N tg ifs elt g tc te)
  (hs:∀ x,foldedSetIterable iter X.env x=pure x:=by intro _; rfl):PE X (.ListComp elt [⟨tg,iter,ifs,0⟩] scope pos) (yV wi fr g tc te):=by
 intro pins s σ H Q I h
 rw [eval_ListComp]
 refine wpAny_comprehension_free (use:=none) rfl hs (oQ (S.cells I)) S.kind S.names (aO (hi pins s σ H _ I h) fun v s1 h1=>aO h1 fun itv s2 h2=>?_)
 obtain ⟨it,fp,tn,J,H2,e,I2,T,st2,f2,hW⟩:=h2
 subst e
 refine oV (Rr:=fun acc C=>compPost (model X.prog X.w) X.A X.xe none (EP X pins σ Q) acc C) hc S (B.at _ _) I2 T st2 f2 hW ?_
 intro D C s' H' m hC hD I' hns hHC q
 exact⟨m,hns,fun h' sb=>⟨.ref D,H',I2.drop hC I' hHC sb,rfl,q⟩⟩
theorem yX {i:Nat}{x:Str}{px spos:Pos} (hc:X.calm=true) (S:c7 X scope N fr) (hi:PI X tg iter wi) (B:mP X scope N tg ifs elt g tc te) (hN:X.N.Nodup) (hix:X.N[i]? = some x) (hx:X.env.scope.names.lookup x=some .local)
  (hsw:swapsWith (.ListComp elt [⟨tg,iter,ifs,0⟩] scope pos) (some (.Name x px)) spos.line X.env=pure true) (hs:∀ x,foldedSetIterable iter X.env x=pure x:=by intro _; rfl) :
  PS X (.Assign [.Name x px] (.ListComp elt [⟨tg,iter,ifs,0⟩] scope pos) spos) (jG (yV wi fr g tc te) (cC i)):=by
 intro pins s σ H D I h
 rw [exec_Assign_Name_used _ _ _ _ hsw]
 refine aN2 (wpAny_standAt (aN2 ?_))
 show wpAny _ _ (do let _ <- comprehension (.ListComp elt [⟨tg,iter,ifs,0⟩] scope pos) scope X.env _ (newList []) false (eval iter X.env) (some (assign (.Name x px) X.env))) _ _ s
 refine aN2 (aV8 (wpAny_comprehension_free (Q:=fun _ s'=>SP X pins D .next s') (use:=some (assign (.Name x px) X.env)) rfl hs (oQ (S.cells I)) S.kind S.names (aO (hi pins s σ H _ I h) fun v s1 h1=>aO h1 fun itv s2 h2=>?_))
  (fun _ s' hq=>aO6 (aO6 hq)) fun _ _ e=>e)
 obtain ⟨it,fp,tn,J,H2,e,I2,T,st2,f2,hW⟩:=h2
 subst e
 refine oV (Rr:=fun acc C=>compPost (model X.prog X.w) X.A X.xe (some (assign (.Name x px) X.env)) (fun _ s'=>SP X pins D .next s') acc C) hc S (B.at _ _) I2 T st2 f2 hW ?_
 intro D' C s' H' m hC hD I' hns hHC q
 refine wpAny_assign_Name (rM I' hN hix (.inl hx) (v:=.ref D') rfl (fun s'' I'' sb=>?_) (.inr hx))
 obtain ⟨a,sb,ha⟩:=sb
 have hCa:C ≠ a:=by
  rcases ha with z | z
  ·rw [z]; exact aW4 (aO9 I2.lt hC)
  ·intro e; subst e
   obtain ⟨v,q⟩:=I2.cell x _ z
   exact absurd (aO9 q.lt hC) (aS1 _)
 exact⟨m,hns.sameBut sb hCa,fun h' sb'=>⟨_,H',I2.drop hC I'' hHC sb',q⟩⟩
variable {gh : Hp → TG} {tch : Hp → TT} {teh : Hp → TE}
noncomputable def t6 (wi:TI) (fr:List (Option Nat)) (gh:Hp->TG) (tch:Hp->TT) (teh:Hp->TE):TE:=fun σ H Q=>wi σ H fun J H1=>∀ D,H1 D=none->
 ∃ W:Nat->Nat->List V->Hp->Prop,(∃ m,W 0 m [] (upd H1 D (.lst [])))/\mO (gh H1) (tch H1) (teh H1) (fL fr σ) J D Q W
theorem t7 (hc:X.calm=true) (S:c7 X scope N fr) (hi:PI X tg iter wi) (B:∀ (s:Shared) (H:Hp),lA X scope N tg ifs elt s H (gh H) (tch H) (teh H))
  (hs:∀ x,foldedSetIterable iter X.env x=pure x:=by intro _; rfl):PE X (.ListComp elt [⟨tg,iter,ifs,0⟩] scope pos) (t6 wi fr gh tch teh):=by
 intro pins s σ H Q I h
 rw [eval_ListComp]
 refine wpAny_comprehension_free (use:=none) rfl hs (oQ (S.cells I)) S.kind S.names (aO (hi pins s σ H _ I h) fun v s1 h1=>aO h1 fun itv s2 h2=>?_)
 obtain ⟨it,fp,tn,J,H2,e,I2,T,st2,f2,hW⟩:=h2
 subst e
 refine oV (Rr:=fun acc C=>compPost (model X.prog X.w) X.A X.xe none (EP X pins σ Q) acc C) hc S (B _ _) I2 T st2 f2 hW ?_
 intro D C s' H' m hC hD I' hns hHC q
 exact⟨m,hns,fun h' sb=>⟨.ref D,H',I2.drop hC I' hHC sb,rfl,q⟩⟩
theorem oW {i:Nat}{x:Str}{px spos:Pos} (hc:X.calm=true) (S:c7 X scope N fr) (hi:PI X tg iter wi) (B:∀ (s:Shared) (H:Hp),lA X scope N tg ifs elt s H (gh H) (tch H) (teh H)) (hN:X.N.Nodup) (hix:X.N[i]? = some x) (hx:X.env.scope.names.lookup x=some .local)
  (hsw:swapsWith (.ListComp elt [⟨tg,iter,ifs,0⟩] scope pos) (some (.Name x px)) spos.line X.env=pure true) (hs:∀ x,foldedSetIterable iter X.env x=pure x:=by intro _; rfl) :
  PS X (.Assign [.Name x px] (.ListComp elt [⟨tg,iter,ifs,0⟩] scope pos) spos) (jG (t6 wi fr gh tch teh) (cC i)):=by
 intro pins s σ H D I h
 rw [exec_Assign_Name_used _ _ _ _ hsw]
 refine aN2 (wpAny_standAt (aN2 ?_))
 show wpAny _ _ (do let _ <- comprehension (.ListComp elt [⟨tg,iter,ifs,0⟩] scope pos) scope X.env _ (newList []) false (eval iter X.env) (some (assign (.Name x px) X.env))) _ _ s
 refine aN2 (aV8 (wpAny_comprehension_free (Q:=fun _ s'=>SP X pins D .next s') (use:=some (assign (.Name x px) X.env)) rfl hs (oQ (S.cells I)) S.kind S.names (aO (hi pins s σ H _ I h) fun v s1 h1=>aO h1 fun itv s2 h2=>?_))
  (fun _ s' hq=>aO6 (aO6 hq)) fun _ _ e=>e)
 obtain ⟨it,fp,tn,J,H2,e,I2,T,st2,f2,hW⟩:=h2
 subst e
 refine oV (Rr:=fun acc C=>compPost (model X.prog X.w) X.A X.xe (some (assign (.Name x px) X.env)) (fun _ s'=>SP X pins D .next s') acc C) hc S (B _ _) I2 T st2 f2 hW ?_
 intro D' C s' H' m hC hD I' hns hHC q
 refine wpAny_assign_Name (rM I' hN hix (.inl hx) (v:=.ref D') rfl (fun s'' I'' sb=>?_) (.inr hx))
 obtain ⟨a,sb,ha⟩:=sb
 have hCa:C ≠ a:=by
  rcases ha with z | z
  ·rw [z]; exact aW4 (aO9 I2.lt hC)
  ·intro e; subst e
   obtain ⟨v,q⟩:=I2.cell x _ z
   exact absurd (aO9 q.lt hC) (aS1 _)
 exact⟨m,hns.sameBut sb hCa,fun h' sb'=>⟨_,H',I2.drop hC I'' hHC sb',q⟩⟩
end
theorem bK {H:Hp}{p:Addr} (h:H p=none) (o:HO):aB H (upd H p o):=fun b u q=>by rw [aZ (dC q h)]; exact q
theorem aB.tup {K:PySem.W.Frag}{H H':Hp}{a:Addr}{xs:List V} (e:aB H H') (h:aM K H a xs):aM K H' a xs:=by
 rcases h with (h | ⟨o,h⟩) | h
 ·exact .inl (.inl (e _ _ h))
 ·exact .inl (.inr ⟨o,e _ _ h⟩)
 ·exact .inr h
structure yY (H:Hp) (J:It) (xs:List V):Prop where
 go:∀ i H',aB H H'->i < xs.length->J.go i H'
 yld:∀ i H' x H2,aB H H'->J.yld i H' x H2->i < xs.length->xs[i]? = some x/\H2=H'
 stop:∀ H',aB H H'->J.stop xs.length H'
theorem yZ {K:PySem.W.Frag}{H:Hp}{a:Addr}{xs:List V} (h:aM K H a xs):yY H (jH K a) xs:=
 ⟨fun i H' e hi=>⟨xs,xs[i],e.tup h,by simp [hi]⟩,fun i H' x H2 e y hi=>⟨y.2 xs (e.tup h),y.1⟩,fun H' e=>⟨xs,e.tup h,aO0 _⟩⟩
noncomputable def iU (lo:Int) (n:Nat):List V:=(List.range n).map fun (i:Nat)=>V.int (lo+(i:Int))
theorem t8 (lo:Int) (n:Nat):(iU lo n).length=n:=by unfold iU; rw [aN6,List.length_range]
noncomputable def CW (H1:Hp) (D:Addr) (n:Nat) (Pv:Nat->List V->Hp->Prop):Nat->Nat->List V->Hp->Prop:=fun i m acc H'=>m=n - i/\i<=n/\acc.length<=i/\aB H1 H'/\H' D=some (.lst acc)/\Pv i acc H'
noncomputable def t9 (H1:Hp) (D:Addr) (n:Nat) (Pv:Nat->List V->Hp->Prop) (i:Nat) (acc:List V) (v:V) (H5:Hp):Prop:=H5 D=some (.lst acc)/\acc.length < sizeLine/\∃ m',m' < n - i/\CW H1 D n Pv (i+1) m' (acc ++ [v]) (upd H5 D (.lst (acc ++ [v])))
noncomputable def z9 (H1:Hp) (D:Addr) (n:Nat) (Pv:Nat->List V->Hp->Prop) (i:Nat) (acc:List V) (H4:Hp):Prop:=∃ m',m' < n - i/\CW H1 D n Pv (i+1) m' acc H4
structure oX (H1:Hp) (D:Addr) (n i:Nat) (acc:List V) (H':Hp):Prop where
 lt:i < n
 few:acc.length<=i
 sz:n<=sizeLine
 same:aB H1 H'
 new:H1 D=none
 acc:H' D=some (.lst acc)
theorem oX.yes {H1:Hp}{D:Addr}{n i:Nat}{acc:List V}{H' H5:Hp}{Pv:Nat->List V->Hp->Prop}{v:V} (c:oX H1 D n i acc H') (s:aB H' H5) (p:Pv (i+1) (acc ++ [v]) (upd H5 D (.lst (acc ++ [v])))):t9 H1 D n Pv i acc v H5:=by
 refine⟨s _ _ c.acc,Nat.lt_of_le_of_lt c.few (aO9 c.lt c.sz),_,?_,rfl,c.lt,?_,fun b o e=>?_,bJ,p⟩
 ·have:=c.lt; lia
 ·rw [aP7,aS2]; exact Nat.succ_le_succ c.few
 ·rw [aZ (dC e c.new)]; exact s _ _ (c.same _ _ e)
theorem zA {H1:Hp}{J:It}{xs:List V}{g:TG}{tc:TT}{te:TE}{σ0:St}{Q:VK} (O:yY H1 J xs) (Pv:Nat->List V->Hp->Prop) (hn:xs.length<=sizeLine)
  (h0:∀ D,H1 D=none->Pv 0 [] (upd H1 D (.lst [])))
  (hs:∀ i x acc D H',xs[i]? = some x->oX H1 D xs.length i acc H'->Pv i acc H'->g x σ0 H' fun σ2 H3=>Wk σ0 σ2/\tc σ2 H3 fun b H4=>
   if b=true then te σ2 H4 fun v H5=>t9 H1 D xs.length Pv i acc v H5 else z9 H1 D xs.length Pv i acc H4)
  (hd:∀ D acc H',H1 D=none->aB H1 H'->H' D=some (.lst acc)->acc.length<=xs.length->Pv xs.length acc H'->Q (.ref D) H') :
  ∀ D,H1 D=none->∃ W:Nat->Nat->List V->Hp->Prop,(∃ m,W 0 m [] (upd H1 D (.lst [])))/\mO g tc te σ0 J D Q W:=by
 intro D hD
 refine⟨CW H1 D xs.length Pv,⟨xs.length,rfl,aS3 _,aO0 _,bK hD _,bJ,h0 D hD⟩,?_⟩
 rintro i m acc H' ⟨rfl,hi,ha,sm,hDa,p⟩
 refine⟨hDa,?_⟩
 by_cases hlt:i < xs.length
 ·refine .inr ⟨O.go i H' sm hlt,fun x H2 y=>?_⟩
  obtain ⟨hx,e⟩:=O.yld i H' x H2 sm y hlt
  subst e
  exact hs i x acc D H2 hx ⟨hlt,ha,hn,sm,hD,hDa⟩ p
 ·have e:i=xs.length:=by lia
  subst e
  exact .inl ⟨O.stop H' sm,hd D acc H' hD sm hDa ha p⟩
end L2
namespace Srt
open PySem PySem.W PyProof.Rows
noncomputable abbrev G (p:Array Nat) (i:Nat):Nat:=p.getD i 0
theorem mQ {p q:Array Nat}{i j:Nat} (h:p[i]? = q[j]?):G p i=G q j:=by
 unfold G; rw [aZ1,aZ1,h]
theorem tD {p:Array Nat}{i j:Nat} (hj:j<=p.size) (k:Nat):G (kas_rev p i j) k=if i<=k/\k < j then G p (i+j - 1 - k) else G p k:=by
 have e:=getElem?_mirror_all (i:=i) hj k
 unfold kas_rev
 by_cases h1:i<=k/\k < j
 ·rw [if_pos h1] at e ⊢; exact mQ e
 ·rw [if_neg h1] at e ⊢; exact mQ e
theorem ah5 {p:Array Nat}{src d:Nat} (hs:src < p.size) (hd:d<=src) (k:Nat):G (bubble p src d) k=if k=src - d then G p src else if src - d < k/\k<=src then G p (k - 1) else G p k:=by
 have e:=getElem?_bubble hs d hd k
 by_cases h1:k=src - d
 ·rw [if_pos h1] at e ⊢; exact mQ e
 ·rw [if_neg h1] at e ⊢
  by_cases h2:src - d < k/\k<=src
  ·rw [if_pos h2] at e ⊢; exact mQ e
  ·rw [if_neg h2] at e ⊢; exact mQ e
noncomputable def PP (n:Nat) (p:Array Nat):Prop:=p.toList.Perm (List.range n)
theorem PP.size {n:Nat}{p:Array Nat} (h:PP n p):p.size=n:=by
 have:=h.length_eq
 rw [List.length_range] at this
 simpa using this
theorem PP.lt {n:Nat}{p:Array Nat} (h:PP n p) {k:Nat} (hk:k < n):G p k < n:=by
 have hs:=h.size
 have hk':k < p.toList.length:=by simpa [hs] using hk
 have e:G p k=p.toList[k]:=by
  unfold G; rw [aZ1]; simp [hs,hk]
 have m:p.toList[k] ∈ p.toList:=List.getElem_mem hk'
 rw [e]
 exact aZ5.mp (h.mem_iff.mp m)
theorem PP.of {n:Nat}{p q:Array Nat} (h:PP n p) (e:q.Perm p):PP n q:=(Array.perm_iff_toList_perm.mp e).trans h
theorem PP.rev {n:Nat}{p:Array Nat} (h:PP n p) (i j:Nat):PP n (kas_rev p i j):=h.of (mirror_perm _ _ _ _)
theorem PP.bub {n:Nat}{p:Array Nat} (h:PP n p) (i j:Nat):PP n (bubble p i j):=h.of (bubble_perm _ _ _)
structure tE (c:Nat->Nat->Bool):Prop where
 asym:∀ {i j},c i j=true->c j i=false
 ntr:∀ {i j k},c i j=false->c j k=false->c i k=false
section
variable {c : Nat → Nat → Bool} (O : tE c)
noncomputable def Le (c:Nat->Nat->Bool) (i j:Nat):Prop:=c j i=false
include O
theorem le_refl (i:Nat):Le c i i:=by
 unfold Le
 cases h:c i i with
 | false=>rfl
 | true=>have:=O.asym h; rw [h] at this; exact this
theorem le_trans {i j k:Nat} (h1:Le c i j) (h2:Le c j k):Le c i k:=O.ntr h2 h1
theorem oY {i j:Nat} (h:c i j=true):Le c i j:=O.asym h
omit O
noncomputable def fM (c:Nat->Nat->Bool) (p:Array Nat) (n:Nat):Prop:=∀ a b,a<=b->b < n->Le c (G p a) (G p b)
noncomputable def jL (c:Nat->Nat->Bool) (p:Array Nat) (n:Nat):Prop:=∀ a b,a<=b->b < n->Le c (G p b) (G p a)
include O
theorem ah6 {p:Array Nat}{n:Nat} (h:fM c p n) (h1:1<=n) (hl:Le c (G p (n - 1)) (G p n)):fM c p (n+1):=fun a b hab hb=>by
 by_cases hbn:b < n
 ·exact h a b hab hbn
 ·have e:b=n:=by lia
  subst e
  by_cases han:a=b
  ·subst han; exact le_refl O _
  ·exact le_trans O (h a (b - 1) (by lia) (by lia)) hl
theorem oZ {p:Array Nat}{n:Nat} (h:jL c p n) (h1:1<=n) (hl:Le c (G p n) (G p (n - 1))):jL c p (n+1):=fun a b hab hb=>by
 by_cases hbn:b < n
 ·exact h a b hab hbn
 ·have e:b=n:=by lia
  subst e
  by_cases han:a=b
  ·subst han; exact le_refl O _
  ·exact le_trans O hl (h a (b - 1) (by lia) (by lia))
omit O
noncomputable def bR {α:Type} (n:Nat) (c:Nat->Nat->Bool) (R:α->Prop):KasT α->Prop
 | .ret a=>R a
 | .ask i j k=>i < n/\j < n/\bR n c R (k (c i j))
theorem bR.mono {α:Type}{n:Nat}{R R':α->Prop} (h:∀ a,R a->R' a):∀ (t:KasT α),bR n c R t->bR n c R' t
 | .ret a,q=>h a q
 | .ask i j k,q=>⟨q.1,q.2.1,bR.mono h (k (c i j)) q.2.2⟩
theorem bR.bind {α β:Type}{n:Nat}{R:α->Prop}{R':β->Prop}{f:α->KasT β} (h:∀ a,R a->bR n c R' (f a)):∀ (t:KasT α),bR n c R t->bR n c R' (t.bind f)
 | .ret a,q=>h a q
 | .ask i j k,q=>⟨q.1,q.2.1,bR.bind h (k (c i j)) q.2.2⟩
theorem bR.run {α:Type}{n:Nat}{R:α->Prop}{I:Shared->Prop}{cmp:Nat->Nat->(Bool->Shared->Prop)->Shared->Prop}{Q:α->Shared->Prop}
  (hc:∀ i j C s,i < n->j < n->I s->(∀ s',I s'->C (c i j) s')->cmp i j C s) (hQ:∀ a s,R a->I s->Q a s):∀ (t:KasT α) (s:Shared),I s->bR n c R t->t.kasWp cmp Q s
 | .ret a,s,hI,q=>hQ a s q hI
 | .ask i j k,s,hI,q=>hc i j _ s q.1 q.2.1 hI fun s' hI'=>bR.run hc hQ (k (c i j)) s' hI' q.2.2
include O
theorem tF {n:Nat}{p:Array Nat} (hp:PP n p):∀ (f m:Nat),1<=m->m+f<=n->fM c p m->bR n c (fun r=>m<=r/\r<=m+f/\fM c p r/\(r < m+f->c (G p r) (G p (r - 1))=true)) (kas_asc p f m)
 | 0,m,_,_,h=>⟨aO0 _,aO0 _,h,fun z=>absurd z (aS1 _)⟩
 | f+1,m,h1,h2,h=>by
  refine⟨hp.lt (by lia),hp.lt (by lia),?_⟩
  by_cases hc:c (p.getD m 0) (p.getD (m - 1) 0)=true
  ·simp only [hc,if_true]
   exact⟨aO0 _,by lia,h,fun _=>hc⟩
  ·have hc':c (p.getD m 0) (p.getD (m - 1) 0)=false:=aY5.mpr hc
   simp only [hc',aQ2,aT8]
   refine bR.mono (fun r q=>⟨by lia,by lia,q.2.2.1,fun z=>q.2.2.2 (by lia)⟩) _ (tF hp f (m+1) (by lia) (by lia) (ah6 O h h1 hc'))
omit O
noncomputable def kD (c:Nat->Nat->Bool) (i j:Nat):Prop:=Le c i j/\Le c j i
include O
theorem tG {p q:Array Nat}{n:Nat} (h:jL c p n) (e:∀ k,k < n->kD c (G q k) (G p k)):jL c q n:=fun a b hab hb=>
 le_trans O (e b hb).1 (le_trans O (h a b hab hb) (e a (by lia)).2)
theorem zB {n m i:Nat}{p:Array Nat} (hp:PP n p) (hm:m<=n) (h:∀ a,i<=a->a < m->kD c (G p a) (G p (m - 1))):∀ k,kD c (G (kas_rev p i m) k) (G p k):=fun k=>by
 rw [tD (by rw [hp.size]; exact hm)]
 by_cases hk:i<=k/\k < m
 ·rw [if_pos hk]
  have h1:=h (i+m - 1 - k) (by lia) (by lia)
  have h2:=h k hk.1 hk.2
  exact⟨le_trans O h1.1 h2.2,le_trans O h2.1 h1.2⟩
 ·rw [if_neg hk]; exact⟨le_refl O _,le_refl O _⟩
omit O
noncomputable def DI (c:Nat->Nat->Bool) (n:Nat) (p:Array Nat) (m q:Nat):Prop:=PP n p/\1<=m/\m<=n/\jL c p m/\q+1<=m/\∀ a,m - (q+1)<=a->a < m->kD c (G p a) (G p (m - 1))
include O
theorem zC {n m q:Nat}{p:Array Nat} (h:DI c n p m q):PP n (kas_rev p (m - (q+1)) m)/\∀ k,kD c (G (kas_rev p (m - (q+1)) m) k) (G p k):=
 ⟨h.1.rev _ _,zB O h.1 h.2.2.1 h.2.2.2.2.2⟩
theorem p5 {n:Nat}:∀ (f:Nat) (p:Array Nat) (m q:Nat),m+f<=n->DI c n p m q->bR n c (fun r=>DI c n r.1 r.2.1 r.2.2) (kas_desc f p m q)
 | 0,p,m,q,_,h=>h
 | f+1,p,m,q,hf,h=>by
  have hp:=h.1
  have h1:=h.2.1
  refine⟨hp.lt (by lia),hp.lt (by lia),?_⟩
  by_cases hc:c (p.getD m 0) (p.getD (m - 1) 0)=true
  ·simp only [hc,if_true]
   have dn:jL c p (m+1):=oZ O h.2.2.2.1 h1 (oY O hc)
   by_cases hq:q > 0
   ·simp only [hq,if_true]
    obtain ⟨pr,er⟩:=zC O h
    refine p5 f _ (m+1) 0 (by lia) ⟨pr,by lia,by lia,tG O dn fun k _=>er k,by lia,fun a h1 h2=>?_⟩
    have e:a=m+1 - 1:=by lia
    rw [e]; exact⟨le_refl O _,le_refl O _⟩
   ·simp only [hq,aT8]
    refine p5 f p (m+1) 0 (by lia) ⟨hp,by lia,by lia,dn,by lia,fun a h1 h2=>?_⟩
    have e:a=m+1 - 1:=by lia
    rw [e]; exact⟨le_refl O _,le_refl O _⟩
  ·have hc':c (p.getD m 0) (p.getD (m - 1) 0)=false:=aY5.mpr hc
   simp only [hc',aQ2,aT8]
   refine⟨hp.lt (by lia),hp.lt (by lia),?_⟩
   by_cases hd:c (p.getD (m - 1) 0) (p.getD m 0)=true
   ·simp only [hd,if_true]
    exact h
   ·have hd':c (p.getD (m - 1) 0) (p.getD m 0)=false:=aY5.mpr hd
    simp only [hd',aQ2,aT8]
    have ee:kD c (G p (m - 1)) (G p m):=⟨hc',hd'⟩
    refine p5 f p (m+1) (q+1) (by lia) ⟨hp,by lia,by lia,oZ O h.2.2.2.1 h1 ee.2,by have:=h.2.2.2.2.1; lia,fun a h1 h2=>?_⟩
    rw [Nat.add_sub_cancel]
    by_cases ha:a=m
    ·rw [ha]; exact⟨le_refl O _,le_refl O _⟩
    ·have z:=h.2.2.2.2.2 a (by lia) (by lia)
     exact⟨le_trans O z.1 ee.1,le_trans O ee.2 z.2⟩
omit O
noncomputable def CI (c:Nat->Nat->Bool) (n:Nat) (r:Nat × Array Nat):Prop:=PP n r.2/\1<=r.1/\r.1<=n/\fM c r.2 r.1
include O
theorem zD {n m:Nat}{p:Array Nat} (hp:PP n p) (h1:1<=m) (hm:m<=n) (h:jL c p m):bR n c (CI c n) (kas_tail3 m n p):=by
 have ha:fM c (kas_rev p 0 m) m:=fun a b hab hb=>by
  rw [tD (by rw [hp.size]; exact hm),tD (by rw [hp.size]; exact hm),if_pos ⟨aS3 _,by lia⟩,if_pos ⟨aS3 _,hb⟩]
  exact h _ _ (by lia) (by lia)
 refine bR.bind (R:=fun r=>m<=r/\r<=m+(n - m)/\fM c (kas_rev p 0 m) r/\_) (fun r q=>?_) _ (tF O (hp.rev 0 m) (n - m) m h1 (by lia) ha)
 exact⟨hp.rev _ _,by have:=q.1; lia,by have:=q.2.1; lia,q.2.2.1⟩
theorem zE {n m:Nat}{p:Array Nat} (hp:PP n p) (h1:1<=m) (hm:m+1<=n) (h:jL c p (m+1)):bR n c (CI c n) (kas_descPart m n p):=by
 refine bR.bind (R:=fun r=>DI c n r.1 r.2.1 r.2.2) (fun r q=>?_) _ (p5 O (n - (m+1)) p (m+1) 0 (by lia) ⟨hp,by lia,hm,h,by lia,fun a h1 h2=>?_⟩)
 ·by_cases hq:r.2.2 > 0
  ·rw [if_pos hq]
   obtain ⟨pr,er⟩:=zC O q
   exact zD O pr q.2.1 q.2.2.1 (tG O q.2.2.2.1 fun k _=>er k)
  ·rw [if_neg hq]
   exact zD O q.1 q.2.1 q.2.2.1 q.2.2.2.1
 ·have e:a=m+1 - 1:=by lia
  rw [e]; exact⟨le_refl O _,le_refl O _⟩
theorem ah7 {n:Nat}{p:Array Nat} (hp:PP n p) (hn:1<=n):bR n c (CI c n) (kas_count n p):=by
 have a1:fM c p 1:=fun a b hab hb=>by
  have e1:a=0:=by lia
  have e2:b=0:=by lia
  rw [e1,e2]; exact le_refl O _
 refine bR.bind (R:=fun r=>1<=r/\r<=1+(n - 1)/\fM c p r/\(r < 1+(n - 1)->c (G p r) (G p (r - 1))=true)) (fun m q=>?_) _ (tF O hp (n - 1) 1 (aO0 _) (by lia) a1)
 obtain ⟨q1,q2,q3,q4⟩:=q
 by_cases hm:(m == n)=true
 ·rw [if_pos hm]
  exact⟨hp,q1,by lia,q3⟩
 ·rw [if_neg hm]
  have hne:m ≠ n:=by simpa using hm
  have hc:=q4 (by lia)
  by_cases h1:m > 1
  ·rw [if_pos h1]
   refine⟨hp.lt (by lia),hp.lt (by lia),?_⟩
   by_cases hd:c (p.getD 0 0) (p.getD (m - 1) 0)=true
   ·simp only [hd,if_true]
    exact⟨hp,q1,by lia,q3⟩
   ·have hd':c (p.getD 0 0) (p.getD (m - 1) 0)=false:=aY5.mpr hd
    simp only [hd',aQ2,aT8]
    have eq:∀ a,0<=a->a < m->kD c (G p a) (G p (m - 1)):=fun a _ ha=>⟨q3 a (m - 1) (by lia) (by lia),le_trans O hd' (q3 0 a (aS3 _) ha)⟩
    have er:=zB O hp (by lia:m<=n) eq
    refine zE O (hp.rev 0 m) q1 (by lia) (tG O (p:=p) ?_ fun k _=>er k)
    refine oZ O (fun a b hab hb=>?_) q1 (oY O hc)
    exact le_trans O (eq b (aS3 _) hb).1 (eq a (aS3 _) (by lia)).2
  ·rw [if_neg h1]
   have e:m=1:=by lia
   subst e
   refine zE O hp (aO0 _) (by lia) (oZ O (fun a b hab hb=>?_) (aO0 _) (oY O hc))
   have e1:a=0:=by lia
   have e2:b=0:=by lia
   rw [e1,e2]; exact le_refl O _
theorem tH {n k:Nat}{p:Array Nat} (hp:PP n p) (hk:k < n) (ha:fM c p k):∀ (f l r:Nat),l<=r->r<=k->r - l<=f->(∀ a,a < l->Le c (G p a) (G p k))->(∀ a,r<=a->a < k->Le c (G p k) (G p a))->
  bR n c (fun l=>l<=k/\(∀ a,a < l->Le c (G p a) (G p k))/\∀ a,l<=a->a < k->Le c (G p k) (G p a)) (kas_place p k f l r)
 | 0,l,r,h1,h2,h3,hl,hr=>⟨by lia,hl,fun a h4 h5=>hr a (by lia) h5⟩
 | f+1,l,r,h1,h2,h3,hl,hr=>by
  unfold kas_place
  by_cases hlr:l >= r
  ·rw [if_pos hlr]
   exact⟨by lia,hl,fun a h4 h5=>hr a (by lia) h5⟩
  ·rw [if_neg hlr]
   refine⟨hp.lt hk,hp.lt (by lia),?_⟩
   by_cases hc:c (p.getD k 0) (p.getD ((l+r) / 2) 0)=true
   ·simp only [hc,if_true]
    exact tH hp hk ha f l ((l+r) / 2) (by lia) (by lia) (by lia) hl fun a h4 h5=>le_trans O (oY O hc) (ha _ _ h4 h5)
   ·have hc':c (p.getD k 0) (p.getD ((l+r) / 2) 0)=false:=aY5.mpr hc
    simp only [hc',aQ2,aT8]
    exact tH hp hk ha f ((l+r) / 2+1) r (by lia) h2 (by lia) (fun a h4=>le_trans O (ha a ((l+r) / 2) (by lia) (by lia)) hc') hr
theorem zF {n:Nat}:∀ (f:Nat) (p:Array Nat) (k:Nat),PP n p->k+f<=n->fM c p k->bR n c (fun q=>PP n q/\fM c q (k+f)) (kas_bin f p k)
 | 0,p,k,hp,_,h=>⟨hp,h⟩
 | f+1,p,k,hp,hk,h=>by
  refine bR.bind (R:=fun l=>l<=k/\(∀ a,a < l->Le c (G p a) (G p k))/\∀ a,l<=a->a < k->Le c (G p k) (G p a)) (fun l q=>?_) _ (tH O hp (by lia) h k 0 k (aS3 _) (aO0 _) (by lia) (fun a z=>absurd z (Nat.not_lt_zero _)) fun a h1 h2=>absurd h2 (by lia))
  obtain ⟨q1,q2,q3⟩:=q
  have e:∀ a,G (bubble p k (k - l)) a=if a=l then G p k else if l < a/\a<=k then G p (a - 1) else G p a:=fun a=>by
   rw [ah5 (by rw [hp.size]; lia) (by lia),show k - (k - l)=l by lia]
  refine bR.mono (fun r z=>⟨z.1,by rw [show k+(f+1)=k+1+f by lia]; exact z.2⟩) _ (zF f _ (k+1) (hp.bub _ _) (by lia) fun a b hab hb=>?_)
  rw [e,e]
  by_cases ha:a=l
  ·rw [if_pos ha]
   by_cases hb':b=l
   ·rw [if_pos hb']; exact le_refl O _
   ·rw [if_neg hb',if_pos (by lia)]; exact q3 _ (by lia) (by lia)
  ·rw [if_neg ha]
   by_cases ha2:l < a/\a<=k
   ·rw [if_pos ha2,if_neg (by lia),if_pos (by lia)]
    exact h _ _ (by lia) (by lia)
   ·rw [if_neg ha2]
    by_cases hb':b=l
    ·rw [if_pos hb']; exact q2 a (by lia)
    ·rw [if_neg hb']
     by_cases hb2:l < b/\b<=k
     ·rw [if_pos hb2]; exact h _ _ (by lia) (by lia)
     ·rw [if_neg hb2]; exact h _ _ hab (by lia)
theorem ah8 {n:Nat} (hn:1<=n):bR n c (fun q=>PP n q/\fM c q n) (kas_sort n):=by
 have hp:PP n (List.toArray (List.range n)):=by unfold PP; simp
 refine bR.bind (R:=CI c n) (fun r q=>?_) _ (ah7 O hp hn)
 obtain ⟨q1,q2,q3,q4⟩:=q
 by_cases h:r.1 < n
 ·rw [if_pos h]
  have e:max r.1 1=r.1:=by lia
  rw [e]
  exact bR.mono (fun p z=>⟨z.1,by rw [show r.1+(n - r.1)=n by lia] at z; exact z.2⟩) _ (zF O (n - r.1) r.2 r.1 q1 (by lia) q4)
 ·rw [if_neg h]
  have e:r.1=n:=by lia
  exact⟨q1,by rw [e] at q4; exact q4⟩
end
end Srt
namespace L2
open PySem PySem.Spec PyProof.Rows
theorem bL.there {P:Program}{w:World}{H:Hp}{h:Heap}{a:Addr}{o:HO} (x:bL P w H h a o):∃ u,h.get? a=some u:=by
 cases o with
 | lst xs=>obtain ⟨_,_,_,_,e⟩:=x; exact⟨_,e⟩
 | tup xs=>obtain ⟨_,_,_,⟨o,e,_⟩,_⟩:=x; exact⟨_,e⟩
 | dK kvs=>obtain ⟨_,_,_,_,o,_,_,e,_⟩:=x; exact⟨_,e⟩
 | dT kvs=>obtain ⟨_,_,_,_,o,_,_,e,_⟩:=x; exact⟨_,e⟩
 | set S n=>obtain ⟨o,_,_,_,e,_⟩:=x; exact⟨_,e⟩
 | ins C dx fs=>obtain ⟨_,_,_,e,_⟩:=x; exact⟨_,e⟩
 | own y=>exact x
 | xd fs=>obtain ⟨_,⟨_,_,_,e,_⟩,_⟩:=x; exact⟨_,e⟩
 | rng lo hi=>obtain ⟨_,_,_,e⟩:=x; exact⟨_,e⟩
 | frz ob u=>obtain ⟨e,_⟩:=x; exact⟨_,e⟩
 | tbl ps=>exact⟨_,(show h.get? a=some _ from x)⟩
 | met f y=>exact⟨_,(show h.get? a=some _ from x)⟩
 | ext φ=>obtain ⟨_,z,_⟩:=x; exact z
section
variable {X : Cx} {pins : List (Addr × Obj)} {σ : St} {H : Hp} {s : Shared} {h' : Heap} {a : Addr} {o : HO} {t' : Nat}
theorem a6.laidF (I:a6 X pins σ H s) (hn:s.heap.get? a=none) (k:∀ b u,b ≠ X.env.locals->s.heap.get? b=some u->h'.get? b=some u) (ns:∀ m,s.heap.Ns X.env.locals m->h'.Ns X.env.locals m)
  (new:bL X.prog X.w (upd H a o) h' a o):H a=none/\a6 X pins σ (upd H a o) { s with heap:=h',toks:=t' }:=by
 have hHn:H a=none:=by
  cases q:H a with
  | none=>rfl
  | some u=>obtain ⟨z,e⟩:=(I.hok a u q).there; rw [hn] at e; cases e
 have ne:∀ b u,s.heap.get? b=some u->b ≠ a:=fun b u e z=>by rw [z,hn] at e; cases e
 have hL:=I.free
 refine⟨hHn,I.step (g':=s.gens) (d':=s.drawn) (ch:=[]) (fun _ z=>nomatch z) (fun b o' h1 _ _ e _=>k b o' h1 e) (fun b o' h1 _ _ e _=>⟨o'.slots,k b o' h1 e⟩) (fun b o' _ e n=>by rw [aZ (ne b o' e)]; exact n) (fun b o' _ e=>?_)
  (fun b xs q=>by rw [aZ (dC q hHn)]; exact q) (fun b u xs q=>by rw [aZ (dC q hHn)]; exact q) (fun b ps q=>⟨#[],by rw [aZ (dC q hHn),q]; simp⟩) ns (fun b u q=>?_) I.bare⟩
 ·by_cases hb:b=X.env.locals
  ·obtain ⟨m,hm,_⟩:=I.loc
   obtain ⟨o2,_,_,e2,_⟩:=ns m hm
   exact⟨o2,by rw [hb]; exact e2⟩
  ·exact⟨o',k b o' hb e⟩
 ·by_cases hb:b=a
  ·subst hb; rw [bJ] at q; cases q; exact new
  ·rw [aZ hb] at q
   refine (I.hok b u q).stay (fun c v hc e=>k c v ?_ e) (fun c e=>by rw [aZ (dC e hHn)]; exact e) fun c xs e=>by rw [aZ (dC e hHn)]; exact e
   rcases hc with z | z
   ·rw [z]; intro y; rw [y,hL] at q; cases q
   ·intro y; rw [y,hL] at z; cases z
theorem a6.newsAll (I:a6 X pins σ H s) {news:List (Addr × Obj)}{m:Str->Option Value} (hs:∀ p ∈ m7 X.base s.heap X.env.locals,p ∈ news) (F:Fr X.base X.env.locals h' m) (N:News X.base X.env.locals h' news) :
  ∀ b o,b ≠ X.env.locals->s.heap.get? b=some o->h'.get? b=some o:=fun b o h1 e=>by
 cases q:X.base.get? b with
 | some u=>
  have:=I.bk b u q
  rw [e] at this; cases this
  exact F.keep b _ q
 | none=>exact (N (b,o) (hs _ (vZ h1 q e))).1
end
theorem ah9 {α:Type}{d:α} (l:List α) {p:List Nat} (h:p.Perm (List.range l.length)):(p.map fun i=>l.getD i d).Perm l:=by
 have e:(List.range l.length).map (fun i=>l.getD i d)=l:=by
  apply List.ext_getElem
  ·simp
  ·intro i h1 h2
   simp at h1
   simp [h1]
 have:=h.map fun i=>l.getD i d
 rw [e] at this
 exact this
theorem tI:∀ {xs:List V}{us:List Value} (i:Nat),i < xs.length->aK xs us->aT (xs.getD i .non) (us.getD i Value.none)
 | _,_,_,h,.nil=>by simp at h
 | _,_,0,_,.cons r _=>by simpa using r
 | _,_,i+1,h,.cons _ t=>by
  have:=tI i (by simpa using h) t
  simpa using this
theorem zG {xs:List V}{us:List Value} (r:aK xs us):∀ {p:List Nat},(∀ i ∈ p,i < xs.length)->aK (p.map fun i=>xs.getD i .non) (p.map fun i=>us.getD i Value.none)
 | [],_=>.nil
 | i :: p,h=>.cons (tI i (h i aO1) r) (zG r fun j hj=>h j (aO8 _ hj))
theorem zH {α:Type}:∀ l:List α,(l.zip l).map (·.2)=l
 | []=>rfl
 | a :: l=>by
  show a :: ((l.zip l).map (·.2))=a :: l
  rw [zH l]
theorem ai0 {prog:Program}{w:World}{A:Around}{E:Value->Shared->Prop}{s:Shared}{a:Addr}{vs:List Value}{n:Nat}{P:PySem.Fin->Shared->Prop} (e:s.heap.get? a=some (seqObj "list" vs.toArray n)) (few:vs.length < 2)
  (q:P (.done (.ret .none)) { s with heap:=sortedHeap s.heap a vs vs.toArray }):wpAny (model prog w) A (Builtin.«list.sort» ⟨[.ref a],[]⟩) P E s:=by
 have big:vs.length<=sizeLine:=aS0 (aT1 few) (by decide)
 have la:=aP1 e
 have c:vs.toArray.size < 2:=by simpa using few
 have same:(arrOf (SortSt.mk' general' (vs.toArray.zip vs.toArray) #[] 7 none)).map (·.2)=vs.toArray:=by
  change (vs.toArray.zip vs.toArray).map (·.2)=vs.toArray
  apply Array.ext'
  simpa using zH vs
 obtain ⟨k,ek⟩:∃ k,(s.heap.update a (Obj.mapSeq fun _=>#[])).get? a=some (seqObj "list" #[] k):=⟨_,get?_update_seq e fun _=>#[]⟩
 have there:(((s.heap.update a (Obj.mapSeq fun _=>#[])).push (seqObj "tuple" vs.toArray 0)).push (seqObj "list" #[] 0)).get? a=some (seqObj "list" #[] k):=
  aN4 _ (aN4 _ ek)
 rw [list_sort_plain]
 apply aN2
 apply listItems_at e rfl
 apply aN2
 refine listUpdate_at e rfl ?_ (by simpa using big) (aS3 _)
 apply aN2
 apply seqEpoch_at ek rfl
 apply aN2
 refine wpAny_newTuple ?_ big
 apply aN2
 refine wpAny_newList ?_ (aS3 _)
 apply aZ2
 simp only [c,if_true,StateT.run_pure]
 apply aN2
 apply aO6
 apply aN2
 apply aO6
 apply aN2
 apply seqEpoch_at there rfl
 apply aN2
 refine listUpdate_at there rfl ?_ (aS3 _) (by rw [same,aN3]; exact Nat.le_succ_of_le big)
 rw [same]
 simp only [bne_self_eq_false,aQ2,aT8]
 exact aO6 q
theorem ai1 {prog:Program}{w:World}{A:Around}{E:Value->Shared->Prop}{s:Shared}{l:Addr}{vs:List Value}{Q:Value->Shared->Prop} (hl:s.heap.IsList l vs.toArray) (few:vs.length < 2)
  (q:Q (.ref (s.heap.objs.size+1)) { s with heap:=sortedAll s.heap vs vs.toArray }):wpAny (model prog w) A (call (.builtin "sorted") [.ref l]) Q E s:=by
 have big:vs.length<=sizeLine:=aS0 (aT1 few) (by decide)
 apply Calls.call_function_entry kind_sorted plain_sorted entry_sorted (args_sorted1 _)
 simp only [Builtin.«sorted»]
 apply aN2 (m:=checkCount "sorted" 1 1 _)
 apply aO6
 apply aN2
 refine collect_list hl ?_ big
 apply aN2
 refine wpAny_newList ?_ big
 have one:((s.heap.push (seqObj "list" #[] 0)).update s.heap.objs.size (Obj.mapSeq (· ++ vs.toArray))).objs.size=s.heap.objs.size+1:=(Heap.size_update _ _ _).trans (size_push' _ _)
 have at1:(((s.heap.push (seqObj "list" #[] 0)).update s.heap.objs.size (Obj.mapSeq (· ++ vs.toArray))).push (seqObj "list" vs.toArray 0)).get? (s.heap.objs.size+1)=some (seqObj "list" vs.toArray 0):=one ▸ aP5 _ rfl
 change wpAny _ _ _ _ _ { s with heap:=((s.heap.push (seqObj "list" #[] 0)).update s.heap.objs.size (Obj.mapSeq (· ++ vs.toArray))).push (seqObj "list" vs.toArray 0) }
 rw [one]
 apply aN2
 apply aZ2
 refine aV5 slot_list_sort ⟨_,at1,rfl⟩ entry_list_sort ?_ (args_list_sort _)
 refine ai0 at1 few ⟨_,rfl,?_⟩
 exact aO6 ⟨_,rfl,q⟩
noncomputable def zI (K:PySem.W.Frag):List V->Hp->VK->Prop:=fun xs H Q=>∃ a ns,xs = [.ref a]/\aJ K H a (ns.map V.int)/\ns.length < 64/\∀ l (ms:List Int),H l=none->ms.Perm ns->ms.Pairwise (· <= ·)->Q (.ref l) (upd H l (.lst (ms.map V.int)))
theorem ai2 {X:Cx}:cK X (.builtin "sorted") (zI X.K):=by
 intro pins s σ H xs us Q I r h
 obtain ⟨a,ns,rfl,hs,h64,q⟩:=h
 obtain ⟨u,rfl,ru⟩:=gM r
 cases ru
 obtain ⟨its,rv,p,hz⟩:=I.list hs
 have hl:=rv.length
 rw [aN6] at hl
 refine sorted_ints p.isList (oI rv) (by lia) fun out ns' a1 a2 a3=>?_
 obtain ⟨e,he⟩:=sortedAll_at s.heap its out
 have hn:s.heap.objs.size<=s.heap.objs.size+1:=Nat.le_succ _
 have hlen:ns'.length=ns.length:=a2.length_eq
 refine⟨.ref (s.heap.objs.size+1),upd H (s.heap.objs.size+1) (.lst (ns'.map V.int)),I.laid (t':=s.toks) (fun _ _=>sortedAll_old) hn ⟨?_,out.toList,e,oO a1,by simpa using he⟩,rfl,q _ ns' (I.hok.fresh hn) a2 a3⟩
 rw [aN6,hlen]
 exact aT1 (mL (by lia))
theorem zJ:∀ {a b:List Int},HT.eS a b=true->HT.eS b a=false
 | [],[],h=>by cases h
 | [],_ :: _,_=>rfl
 | _ :: _,[],h=>by cases h
 | x :: xs,y :: ys,h=>by
  rw [HT.mE] at h ⊢
  by_cases e:x=y
  ·rw [if_pos e] at h; rw [if_pos e.symm]; exact zJ h
  ·rw [if_neg e] at h; rw [if_neg (Ne.symm e)]
   have:=aT3 h
   exact aP0 (by lia)
theorem zK:∀ {a b c:List Int},HT.eS a b=false->HT.eS b c=false->HT.eS a c=false
 | [],[],c,_,h=>h
 | [],_ :: _,_,h,_=>by cases h
 | _ :: _,[],[],_,_=>rfl
 | _ :: _,[],_ :: _,_,h=>by cases h
 | _ :: _,_ :: _,[],_,_=>rfl
 | x :: xs,y :: ys,z :: zs,h1,h2=>by
  rw [HT.mE] at h1 h2 ⊢
  by_cases e1:x=y
  ·rw [if_pos e1] at h1
   by_cases e2:y=z
   ·rw [if_pos e2] at h2; rw [if_pos (e1.trans e2)]; exact zK h1 h2
   ·rw [if_neg e2] at h2; rw [if_neg (by rw [e1]; exact e2)]; rw [e1]; exact h2
  ·rw [if_neg e1] at h1
   have k1:=of_decide_eq_false h1
   by_cases e2:y=z
   ·rw [<- e2,if_neg e1]; exact h1
   ·rw [if_neg e2] at h2
    have k2:=of_decide_eq_false h2
    rw [if_neg (by lia)]
    exact aP0 (by lia)
section
variable {prog : Program} {w : World} {A : Around} {s : Shared} {Q : Bool → Shared → Prop}
theorem zL:∀ {us ws:List Value}{xs ys:List Int} (i:Nat),IntsAre us xs->IntsAre ws ys->Q (HT.eS xs ys) s->PySem.W.KatLex prog w A true (decide (us.length < ws.length)) Q (us.zip ws) i s
 | _,_,_,_,_,.nil,.nil,h=>h
 | _,_,_,_,_,.nil,.cons _ _ _,h=>h
 | _,_,_,_,_,.cons _ _ _,.nil,h=>h
 | _,_,_,_,i,.cons (vs:=us) x t hx,.cons (vs:=ws) y u hy,h=>by
  refine PySem.W.kat_cons (wpAny_eqBool_int ?_)
  rw [HT.mE] at h
  by_cases e:x=y
  ·rw [if_pos e] at h
   have eb:(x == y)=true:=by simpa using e
   rw [eb]
   refine PySem.W.kat_yes ?_
   have e2:decide ((Value.int x t :: us).length < (Value.int y u :: ws).length)=decide (us.length < ws.length):=by simp
   rw [e2]
   exact zL (i+1) hx hy h
  ·rw [if_neg e] at h
   have eb:(x == y)=false:=by simpa using e
   rw [eb]
   refine PySem.W.kat_no ?_
   cases hi:(true && i == 0) with
   | true=>exact PySem.W.kat_lt_int h
   | false=>exact PySem.W.kat_one _ _ (lt_int h)
end
noncomputable def zM (K:PySem.W.Frag):List V->Hp->VK->Prop:=fun xs H Q=>∃ (a:Addr) (ys:List V) (key:V->List Int),xs = [.ref a]/\aJ K H a ys/\ys.length < 64/\(∀ y ∈ ys,∃ b,y = .ref b/\aM K H b ((key y).map V.int)/\key y ≠ [])/\
 ∀ l (zs:List V),H l=none->zs.Perm ys->zs.Pairwise (fun u v=>HT.eS (key v) (key u)=false)->Q (.ref l) (upd H l (.lst zs))
theorem ai3 {c:Nat->Nat->Bool}{R:V->V->Prop}{ys:List V}{p:Array Nat}{n:Nat} (hp:Srt.PP n p) (ha:Srt.fM c p n) (hR:∀ i j,Srt.Le c i j->R (ys.getD i .non) (ys.getD j .non)) :
  (p.toList.map fun i=>ys.getD i .non).Pairwise R:=by
 rw [aX2,List.pairwise_iff_getElem]
 intro i j hi hj hij
 have hs:=hp.size
 have h1:i < n:=by rw [<- hs]; simpa using hi
 have h2:j < n:=by rw [<- hs]; simpa using hj
 have q:=ha i j (aT1 hij) h2
 have e:∀ k (hk:k < p.toList.length),Srt.G p k=p.toList[k]:=fun k hk=>by
  have hk':k < p.size:=by simpa using hk
  unfold Srt.G; rw [aZ1]; simp [hk']
 rw [e i hi,e j hj] at q
 exact hR _ _ q
theorem ai4 {X:Cx}:cK X (.builtin "sorted") (zM X.K):=by
 intro pins s σ H xs us Q I r h
 obtain ⟨a,ys,key,rfl,hs,h64,hk,q⟩:=h
 obtain ⟨u,rfl,ru⟩:=gM r
 cases ru
 obtain ⟨its,rv,p,hz⟩:=I.list hs
 have hl:=rv.length
 by_cases h2:its.length < 2
 ·
  refine ai1 p.isList h2 ?_
  obtain ⟨e,he⟩:=sortedAll_at s.heap its its.toArray
  have hn:s.heap.objs.size<=s.heap.objs.size+1:=Nat.le_succ _
  refine⟨.ref (s.heap.objs.size+1),upd H (s.heap.objs.size+1) (.lst ys),I.laid (t':=s.toks) (fun _ _=>sortedAll_old) hn ⟨hz,its,e,rv,he⟩,rfl,q _ ys (I.hok.fresh hn) (List.Perm.refl _) ?_⟩
  match ys,hl with
  | [],_=>exact aY4
  | [_],_=>exact aQ1 _ _
  | _ :: _ :: _,hl=>simp at hl; lia
 ·obtain ⟨m,F⟩:=I.fr
  have hL:∀ {b:Addr}{k:List Int},aM X.K H b (k.map V.int)->b ≠ X.env.locals:=fun {b k} z e=>by
   obtain ⟨its',_,⟨ob,e1,c1,_⟩,_⟩:=I.tuple z
   obtain ⟨m',⟨o',es',ep',e2,d2,_⟩,_⟩:=I.loc
   rcases z with (z | ⟨_,z⟩) | ⟨o3,its3,n3,z3,zc,zd,_⟩
   ·rw [e,I.free] at z; cases z
   ·rw [e,I.free] at z; cases z
   ·have:=I.kIn b o3 z3
    rw [e,e2] at this
    cases this
    rw [d2] at zd; cases zd
  refine PySem.W.kat_sorted F (X2 (g:=X.base) (h:=s.heap) (L:=X.env.locals)) p.isList (by lia) (by lia) fun D e1 h' F' N' hD=>?_
  have keep:=I.newsAll (fun p hp=>aO8 _ hp) F' N'
  have look:∀ i,i < ys.length->∃ (b:Addr) (ob:Obj) (us:List Value) (n:Nat),its.getD i Value.none = .ref b/\h'.get? b=some ob/\ob.cls = .type "tuple"/\ob.data = .seq us.toArray n/\IntsAre us (key (ys.getD i .non))/\key (ys.getD i .non) ≠ []:=fun i hi=>by
   have hy:ys.getD i .non ∈ ys:=by
    rw [aO3,aN5 hi]; exact List.getElem_mem hi
   obtain ⟨b,eb,sq,ne⟩:=hk _ hy
   have rr:=tI i hi rv
   rw [eb] at rr
   have rr:its.getD i Value.none = .ref b:=rr
   obtain ⟨us,ru,⟨ob,e1,c1,n1,d1⟩,_⟩:=I.tuple sq
   exact⟨b,ob,us,n1,rr,keep b ob (hL sq) e1,c1,d1,oI ru,ne⟩
  have firsts:∀ {xs:List V}{vs:List Value},aK xs vs->(∀ y ∈ xs,∃ b,y = .ref b/\aM X.K H b ((key y).map V.int)/\key y ≠ [])->∃ fs:List Value,PySem.W.KatTups h' vs fs/\fs.length=vs.length/\∀ v ∈ fs,∃ i t,v=Value.int i t:=by
   intro xs vs r
   induction r with
   | nil=>intro _; exact⟨[],PySem.W.KatTups.nil,rfl,fun _ z=>nomatch z⟩
   | @cons x v xs vs rx rt ih=>
    intro hh
    obtain ⟨fs,t1,t2,t3⟩:=ih fun y hy=>hh y (aO8 _ hy)
    obtain ⟨b,eb,sq,ne⟩:=hh x aO1
    subst eb
    cases rx
    obtain ⟨us,ru,⟨ob,e1,c1,n1,d1⟩,_⟩:=I.tuple sq
    have ia:=oI ru
    generalize key (V.ref b)=kk at ia ne
    cases ia with
    | nil=>exact absurd rfl ne
    | @cons n t vs0 ns0 ht=>
     exact⟨Value.int n t :: fs,PySem.W.KatTups.cons (keep b ob (hL sq) e1) c1 d1 (by simp) t1,by simp [t2],fun v hv=>(aO7.mp hv).elim (fun z=>⟨n,t,z⟩) (t3 v)⟩
  obtain ⟨fs,t1,t2,t3⟩:=firsts rv hk
  refine PySem.W.kat_kind (T:=.type "int") t1 (by lia) (fun v hv=>?_) (by decide) ?_
  ·obtain ⟨i,t,rfl⟩:=t3 v hv
   exact PySem.W.Looks.now
  let c:Nat->Nat->Bool:=fun i j=>HT.eS (key (ys.getD i .non)) (key (ys.getD j .non))
  have O:Srt.tE c:=⟨fun h=>zJ h,fun h1 h2=>zK h1 h2⟩
  have ok:=Srt.ah8 (n:=its.length) O (by lia)
  refine Srt.bR.run (I:=fun s'=>s'={ s with heap:=h' }) (fun i j C s' hi hj hI hC=>?_) (fun pa s' hR hI=>?_) _ _ rfl ok
  ·subst hI
   obtain ⟨b1,o1,u1,n1,g1,g2,_,g4,g5,_⟩:=look i (by lia)
   obtain ⟨b2,o2,u2,n2,k1,k2,_,k4,k5,_⟩:=look j (by lia)
   show wpAny _ _ (keyLt' (tuples' (Value.type "int" != Value.type "tuple")) (its.getD i Value.none) (its.getD j Value.none)) _ _ _
   rw [g1,k1]
   have eT:(Value.type "int" != Value.type "tuple")=true:=by decide
   rw [eT]
   refine PySem.W.kat_lt g2 g4 k2 k4 ?_
   have:=zL (prog:=X.prog) (w:=X.w) (A:=X.A.in1.in1) (s:={ s with heap:=h' }) (Q:=C) 0 g5 k5 (hC _ rfl)
   simpa using this
  ·subst hI
   obtain ⟨hp,hasc⟩:=hR
   refine PySem.W.KasFin.intro F' N' (PySem.W.UpdF.head fun p hp=>aR2 (hD p hp)) fun h2 cc F2 N2=>?_
   have keep2:=I.newsAll (fun p hp=>aO8 _ hp) F2 N2
   have hDn:s.heap.get? D=none:=by
    cases z:s.heap.get? D with
    | none=>rfl
    | some o=>
     obtain ⟨_,n1,n2⟩:=N2 (D,_) aO1
     exact absurd (hD _ (vZ n1 n2 z)) (aS1 _)
   have hpl:∀ i ∈ pa.toList,i < ys.length:=fun i hi=>by
    have:=aZ5.mp (hp.mem_iff.mp hi); lia
   have hp':pa.toList.Perm (List.range ys.length):=by rw [hl]; exact hp
   have pm:=ah9 (d:=V.non) ys hp'
   obtain ⟨hDo,hDL,hDb⟩:=N2 (D,_) aO1
   obtain ⟨hHD,I2⟩:=I.laidF (t':=s.toks) (a:=D) (o:=.lst (pa.toList.map fun i=>ys.getD i .non)) hDn keep2 (fun m' hm'=>by
     have e:m'=m:=funext fun nm=>Heap.Ns.agree hm' F.ns nm
     rw [e]; exact F2.ns) ⟨by rw [pm.length_eq]; exact hz,_,cc,zG rv hpl,hDo⟩
   exact⟨.ref D,_,I2,rfl,q D _ hHD pm (ai3 hp hasc fun i j hle=>hle)⟩
end L2
namespace Raw
open PySem PySem.W PySem.Calls PyProof.Rows
noncomputable def gF (h:Heap) (d:Addr) (es:Array DictEntry) (ep:Nat):Prop:=∃ o,h.get? d=some o/\o.ExactDict/\o.data = .dict es ep
theorem gF.ty {s:Shared}{d:Addr}{es:Array DictEntry}{ep:Nat} (x:gF s.heap d es ep):s.TypeIs (.ref d) "dict":=x.elim fun o y=>⟨o,y.1,y.2.1.1⟩
theorem gF.lt {h:Heap}{d:Addr}{es:Array DictEntry}{ep:Nat} (x:gF h d es ep):d < h.objs.size:=x.elim fun _ y=>aP1 y.1
theorem gF.keep {h h':Heap}{d:Addr}{es:Array DictEntry}{ep:Nat} (x:gF h d es ep) (k:∀ o,h.get? d=some o->h'.get? d=some o):gF h' d es ep:=x.elim fun o y=>⟨o,k o y.1,y.2⟩
section
variable {prog : Program} {w : World} {A : Around} {E : Value → Shared → Prop} {s : Shared} {d it : Addr} {es : Array DictEntry} {ep i : Nat}
theorem made (far:(d == sysModules)=false) (x:gF s.heap d es ep) {Q:Value->Shared->Prop}
  (q:Q (.ref s.heap.objs.size) { s with heap:=s.heap.push { cls:=.type "dict_keyiterator",data:=.fields #[.ref d,.int 0 0,.int es.size 0,.int ep 0] } }):wpAny (model prog w) A (pyIter (.ref d)) Q E s:=by
 have T:=x.ty
 obtain ⟨o,e1,e2,e3⟩:=x
 apply wpAny_pyIter_slot T PySem.F.slot_dict_iter
 apply aV5 PySem.F.slot_dict_iter T PySem.F.entry_dict_iter _ (PySem.F.args_dict_iter_1 _)
 simp only [Builtin.«dict.__iter__»,Builtin.Dict.dictSlotNone]
 apply aN2
 apply aN2
 apply wpAny_notOrdered_dict T
 apply aO6
 change wpAny _ _ (Builtin.Dict.showsAll d >>= _) _ _ s
 have far':Builtin.Dict.showsAll d=pure ():=by
  unfold Builtin.Dict.showsAll
  simp only [far,aQ2,aT8]
 rw [far',pure_bind]
 apply aN2
 apply wpAny_dictEntries e1 e3
 apply aN2
 apply wpAny_dictEpoch e1 e3
 apply aN2
 refine aU0 (aO6 ?_)
 refine⟨.ref s.heap.objs.size,rfl,"dict_keyiterator",_,⟨_,aP5 _ rfl,rfl⟩,PySem.F.slot_dict_keyiterator_next.lookup,?_⟩
 simpa only [rawInt] using q
theorem turn (hh:A.handled=none) (hi:s.heap.IsKeyIter it d i es.size ep) (x:gF s.heap d es ep) {Q:Option Value->Shared->Prop}
  (yes:∀ (lt:i < es.size) h',h'.IsKeyIter it d (i+1) es.size ep->Heap.SameBut it s.heap h'->Q (some es[i].key) { s with heap:=h' })
  (no:es.size<=i->∀ h',Heap.ExtBut it s.heap h'->Q none { s with heap:=h' }):wpAny (model prog w) A (pyNext (.ref it)) Q E s:=by
 have T:=hi.typeIs
 obtain ⟨oi,f1,f2,f3⟩:=hi
 obtain ⟨o,e1,e2,e3⟩:=x
 have slot:=PySem.F.slot_dict_keyiterator_next
 have plain:Builtin.Dict_items.ownsTuple "dict_keyiterator" = false:=by decide
 have isref:(Value.ref d == Value.none)=false:=rfl
 have nn : ¬ (i:Int) < 0:=by lia
 unfold pyNext
 apply aN2
 apply wpAny_attempt
 apply aU7 (name:=Str.ofString "__next__") T slot
 apply aV5 slot T PySem.F.entry_dict_keyiterator_next _ (PySem.F.args_dict_keyiterator_next_1 _)
 apply aN2
 apply aO6
 apply aN2
 apply aN2
 apply aN2
 first
  | apply wpAny_typeNameOfWhole_keyiter T
  | apply wpAny_typeNameOf_keyiter T
 apply aO6
 apply aN2
 apply wpAny_fieldsOf f1 f3
 simp only [plain,aQ2,aT8]
 change wpAny _ _ (if (Value.ref d == Value.none)=true then _ else _) _ _ s
 have adr:Builtin.Dict_items.addrOf (Value.ref d)=pure d:=rfl
 simp only [isref,aQ2,aT8,adr,pure_bind]
 apply aN2
 apply wpAny_dictEntries e1 e3
 simp only [bne_self_eq_false,aQ2,aT8]
 apply aN2
 apply wpAny_dictEpoch e1 e3
 simp only [bne_self_eq_false,aQ2,aT8]
 apply aO6
 simp only [nn,aT8,aQ3]
 by_cases lt:i < es.size
 ·simp only [Array.getElem?_eq_getElem lt]
  apply aN2
  apply aN2
  first
   | apply wpAny_typeNameOfWhole_keyiter T
   | apply wpAny_typeNameOf_keyiter T
  apply aO6
  apply aN2
  apply wpAny_isOneOf_keyiter T
  change wpAny _ _ (setField (.ref it) 1 (rawInt ((i:Int)+1)) >>= _) _ _ s
  apply aN2
  refine wpAny_setField f1 f3 (by simp) ?_
  have again:(s.heap.update it (Obj.mapFields (·.setIfInBounds 1 (rawInt ((i:Int)+1))))).IsKeyIter it d (i+1) es.size ep:=by
   refine⟨_,Heap.get?_update_self _ f1 (Obj.isFreed_of_fields (Obj.data_mapFields f3 _)),?_,?_⟩
   ·rw [Obj.cls_mapFields]; exact f2
   ·rw [Obj.data_mapFields f3]; simp [rawInt]
  apply aN2
  apply aZ2
  apply aN2
  refine wpAny_isOneOf_keyiter (s:={ s with heap:=s.heap.update it (Obj.mapFields (·.setIfInBounds 1 (rawInt ((i:Int)+1)))) }) again.typeIs ?_
  change wpAny _ _ (pure es[i].key) _ _ _
  apply aO6
  apply aO6
  exact⟨es[i].key,rfl,aO6 (yes lt _ again (Heap.SameBut.update ..))⟩
 ·have ge:es.size<=i:=aZ4 lt
  simp only [Array.getElem?_eq_none ge]
  apply aN2
  apply aN2
  first
   | apply wpAny_typeNameOfWhole_keyiter T
   | apply wpAny_typeNameOf_keyiter T
  apply aO6
  change wpAny _ _ (setField (.ref it) 0 .none >>= _) _ _ s
  apply aN2
  refine wpAny_setField f1 f3 (by simp) ?_
  apply aN2
  simp only [newExc,newTuple]
  apply aN2
  refine aU0 ?_ (by size_fits)
  apply aN2
  refine wpAny_of_eq (a:=Value.none) (by first | rfl | (simp only [firstArgMember]; rfl)) ?_
  refine aU0 ?_ (by size_fits)
  unfold raiseNew
  apply aN2
  apply wpAny_handled
  have quiet:A.in1.handled=none:=hh
  rw [quiet]
  refine wpAny_throw ?_
  apply aN2
  refine wpAny_isInstance (T:="StopIteration") (b:=true) ⟨_,aP5 _ rfl,rfl⟩ isSubtype_stop ?_
  exact aO6 (no ge _ (((Heap.SameBut.update ..).extBut.push _).push _))
theorem ai5 (hh:A.handled=none) (ne:d ≠ it):Walks prog w A it [it,d] [it] es.size (fun i v=>∃ lt:i < es.size,es[i].key=v) (fun i h=>h.IsKeyIter it d i es.size ep/\gF h d es ep) where
 sub:=by intro b hb; rw [aN7.mp hb]; exact aO1
 frame:=by
  intro i h h' st hk
  exact⟨st.1.at (hk it aO1),st.2.keep (hk d (aO8 _ aO1))⟩
 item:=by
  intro i s Q E lt st hQ
  refine turn hh st.1 st.2 (fun lt' h' again sb=>?_) fun ge=>absurd lt (Nat.not_lt.mpr ge)
  exact hQ _ h' s.toks ⟨lt',rfl⟩ ⟨again,st.2.keep fun o e=>sb.extBut d o ne e⟩ fun b o hb e=>sb.extBut b o (fun z=>hb (aN7.mpr z)) e
 done:=by
  intro s Q E st hQ
  refine turn hh st.1 st.2 (fun lt=>absurd lt (aS1 _)) fun _ h' eb=>?_
  exact hQ h' s.toks fun b o hb e=>eb b o (fun z=>hb (aN7.mpr z)) e
 self:=by intro i s Q E st hQ; exact wpAny_pyIter_keyiter st.1 hQ
theorem ai6 (far:(d == sysModules)=false):KdlSrc prog w "dict" d d es.size (fun i v=>∃ lt:i < es.size,es[i].key=v) (fun h=>gF h d es ep) where
 type:=fun _ x=>x.ty
 there:=fun _ x=>⟨x.lt,x.lt⟩
 keep:=fun _ _ x k=>x.keep (k d (.inl rfl))
 notList:=by decide
 notTuple:=by decide
 hint:=fun _ _ _ _ x q=>kdl_hint_dict x.ty q
 iter:=fun _ _ hh x=>⟨_,_,fun _ _ q=>made far x q,ai5 hh (aR2 x.lt),⟨_,aP5 _ rfl,rfl,rfl⟩,x.keep fun o e=>aN4 _ e⟩
end
end Raw
namespace L2
open PySem PySem.Spec PyProof.Rows
section
variable {X : Cx} {pins : List (Addr × Obj)} {σ : St} {H : Hp} {s : Shared} {a : Addr}
theorem ai7 {kvs:List (aG × V)} (I:a6 X pins σ H s) (h:H a=some (.dK kvs)):∃ es ep,Raw.gF s.heap a es ep/\(a == sysModules)=false/\aK (kvs.map fun p=>kV p.1) (es.toList.map (·.key))/\kvs.length<=sizeLine:=by
 obtain ⟨z,far,vs,rel,o,es,ep,e1,e2,e3,kk,pr,nd⟩:=(show bL X.prog X.w H s.heap a (.dK kvs) from I.hok a _ h)
 refine⟨es,ep,⟨o,e1,e2,e3⟩,far,?_,z⟩
 clear z far e1 e2 e3 kk nd h
 generalize es.toList=l at pr
 induction pr generalizing kvs with
 | nil=>cases rel; exact .nil
 | @cons e k es' kvs' h1 h2 _ ih=>
  cases rel with
  | @cons p q ps qs r rs=>
   refine .cons ?_ (ih rs)
   obtain ⟨r1,_⟩:=r
   show aT (kV p.1) e.key
   rw [r1]
   rcases hZ h1 with ⟨n,t,e4,e5⟩ | ⟨x,t,e4,e5⟩
   ·rw [e4,e5]; exact⟨t,rfl⟩
   ·rw [e4,e5]; exact⟨t,rfl⟩
theorem ai8 {es:Array DictEntry}{acc:Array Value} (h:ItemsOf (fun i v=>∃ lt:i < es.size,es[i].key=v) acc es.size):acc.toList=es.toList.map (·.key):=by
 apply List.ext_getElem?
 intro j
 have h1:=h.1
 by_cases hj:j < es.size
 ·have hj':j < acc.size:=by rw [h1]; exact hj
  obtain ⟨_,e⟩:=h.2 j acc[j] (by simp [hj'])
  rw [aO5]
  simp [hj,hj',e]
 ·have hj' : ¬ j < acc.size:=by rw [h1]; exact hj
  rw [aO5]
  simp [aZ4 hj,aZ4 hj']
end
section
variable {X : Cx}
theorem ai9:cK X (.builtin "isinstance") (fun xs H Q=>∃ x t n b,xs = [x,.ty n]/\fI X.K H x t/\PySem.W.kitOne X.K t (.type n)=some b/\Q (.bl b) H):=by
 intro pins s σ H xs us Q I r h
 obtain ⟨x,t,n,b,rfl,ty,e,q⟩:=h
 obtain ⟨u,u',rfl,ru,ru'⟩:=oF r
 cases ru'
 exact ab9 I ru ty e fun tk=>⟨.bl b,H,I.tok tk,rfl,q⟩
end
noncomputable def zN (outer:List (Str × NameKind)) (XN:List Str) (names:List (Str × NameKind)) (N:List Str) (fr:List (Option Nat)):Bool:=
 names.all (fun y=>!(y.2 == .cell) || names.lookup y.1 == some .cell) && names.all (fun y=>!(y.2 == .local) || names.lookup y.1 == some .local) &&
 names.all (fun y=>!(y.2 == .free) || (outer.lookup y.1 == some .cell || outer.lookup y.1 == some .free)) && fr.length == N.length &&
 (fr.zip N).all (fun p=>match p.1 with
  | none=>true
  | some j=>XN[j]? == some p.2 && names.lookup p.2 == some .free)
theorem c7.of {X:Cx}{scope:Scope}{N:List Str}{fr:List (Option Nat)} (hk:scope.kind = .function) (h:zN X.env.scope.names X.N scope.names N fr=true):c7 X scope N fr:=by
 unfold zN at h
 simp only [aR4] at h
 obtain ⟨⟨⟨⟨h1,h2⟩,h3⟩,h4⟩,h5⟩:=h
 refine⟨hk,fun y hy e=>?_,fun y hy e=>?_,fun y hy e=>?_,by simpa using h4,fun i j e=>?_⟩
 ·have:=aV7.mp h1 y hy
  rw [e] at this; simpa using this
 ·have:=aV7.mp h2 y hy
  rw [e] at this; simpa using this
 ·have:=aV7.mp h3 y hy
  rw [e] at this; simpa using this
 ·have hl:fr.length=N.length:=by simpa using h4
  have hi:i < fr.length:=(aN9.mp e).1
  have m:(some j,N[i]'(by lia)) ∈ fr.zip N:=by
   have:(fr.zip N)[i]? = some (some j,N[i]'(by lia)):=by
    rw [List.getElem?_zip_eq_some]
    exact⟨e,by simp⟩
   exact aN8 this
  have:=aV7.mp h5 _ m
  simp only [aR4,beq_iff_eq] at this
  exact⟨N[i]'(by lia),by simp,this.1,this.2⟩
theorem zO {n:Option V}{r:St}{v:V}:Wk (none :: r) (some v :: r):=(Wk.refl (none :: r)).set (i:=0) rfl
noncomputable def mR (H:Hp) (ys:List V) (ls:List (Int × Int)):Prop:=Paired (fun y l=>∃ b,y = .ref b/\H b=some (.tup [.int l.1,.int l.2])) ys ls
structure zP (H:Hp) (v:V) (ws:List Int) (ls:List (Int × Int)):Prop where
 at_:∃ a p q ys,v = .ref a/\H a=some (.tup [.ref p,.ref q])/\H p=some (.tup (ws.map V.int))/\H q=some (.tup ys)/\mR H ys ls
theorem mR.get {H:Hp}:∀ {ys:List V}{ls:List (Int × Int)}{i:Nat}{y:V},mR H ys ls->ys[i]? = some y->∃ l b,ls[i]? = some l/\y = .ref b/\H b=some (.tup [.int l.1,.int l.2])
 | _,_,_,_,.nil,e=>by simp at e
 | _,_,0,_,.cons (b:=l) ⟨b,h1,h2⟩ _,e=>by simp at e; subst e; exact⟨l,b,rfl,h1,h2⟩
 | _,_,i+1,_,.cons _ t,e=>by
  obtain ⟨l,b,h1,h2⟩:=mR.get (i:=i) t (by simpa using e)
  exact⟨l,b,by simpa using h1,h2⟩
noncomputable def aN (ls:List (Int × Int)) (k:Int):List Int:=ls.flatMap fun l=>(if l.1=k then [l.2] else []) ++ (if l.2=k then [l.1] else [])
theorem aj0 (ls:List (Int × Int)) (l:Int × Int) (k:Int):aN (ls ++ [l]) k=aN ls k ++ ((if l.1=k then [l.2] else []) ++ (if l.2=k then [l.1] else [])):=by
 unfold aN; rw [List.flatMap_append]; simp
theorem zQ {ls:List (Int × Int)}{i:Nat}{l:Int × Int} (h:ls[i]? = some l) (k:Int):aN (ls.take (i+1)) k=aN (ls.take i) k ++ ((if l.1=k then [l.2] else []) ++ (if l.2=k then [l.1] else [])):=by
 rw [aR5,h]; exact aj0 _ _ _
structure gP (H H':Hp) (r:Addr) (bs:List Addr) (f:Nat->List Int):Prop where
 new:H r=none
 news:∀ b ∈ bs,H b=none/\b ≠ r
 nd:bs.Nodup
 row:H' r=some (.lst (bs.map V.ref))
 rows:∀ (k:Nat) (b:Addr),bs[k]? = some b->H' b=some (.lst ((f k).map V.int))
 same:aB H H'
theorem gP.congr {H H':Hp}{r:Addr}{bs:List Addr}{f g:Nat->List Int} (h:gP H H' r bs f) (e:∀ k,k < bs.length->f k=g k):gP H H' r bs g:=
 ⟨h.new,h.news,h.nd,h.row,fun k b hb=>by rw [<- e k (aN9.mp hb).1]; exact h.rows k b hb,h.same⟩
theorem gP.app {H H':Hp}{r:Addr}{bs:List Addr}{f:Nat->List Int} (h:gP H H' r bs f) {k:Nat}{b:Addr} (hb:bs[k]? = some b) (x:Int) :
  gP H (upd H' b (.lst ((f k).map V.int ++ [V.int x]))) r bs (fun j=>if j=k then f j ++ [x] else f j):=by
 have hm:b ∈ bs:=aN8 hb
 refine⟨h.new,h.news,h.nd,by rw [aZ (Ne.symm (h.news b hm).2)]; exact h.row,fun j c hc=>?_,fun c o e=>by rw [aZ (dC e (h.news b hm).1)]; exact h.same c o e⟩
 by_cases hj:j=k
 ·subst hj
  rw [hb] at hc; cases hc
  rw [bJ,if_pos rfl]; simp
 ·rw [if_neg hj]
  have ne:c ≠ b:=fun z=>by
   subst z
   obtain ⟨i1,e1⟩:=aN9.mp hb
   obtain ⟨i2,e2⟩:=aN9.mp hc
   refine hj (Nat.le_antisymm (aZ4 fun z=>?_) (aZ4 fun z=>?_))
   ·exact List.pairwise_iff_getElem.mp h.nd _ _ i1 i2 z (e1.trans e2.symm)
   ·exact List.pairwise_iff_getElem.mp h.nd _ _ i2 i1 z (e2.trans e1.symm)
  rw [aZ ne]; exact h.rows j c hc
theorem p6 (ls:List (Int × Int)) (k:Int):(aN ls k).length<=2 * ls.length:=by
 induction ls with
 | nil=>exact aO0 _
 | cons l r ih=>
  have e:aN (l :: r) k=((if l.1=k then [l.2] else []) ++ (if l.2=k then [l.1] else [])) ++ aN r k:=rfl
  rw [e,aP7,aP7,aP8]
  have h1:(if l.1=k then [l.2] else []).length<=1:=by split <;> simp
  have h2:(if l.2=k then [l.1] else []).length<=1:=by split <;> simp
  lia
theorem lB {α:Type}{xs:List α}{i:Int}{v:α} (h0:0<=i) (h:xs[i.toNat]? = some v):atI xs i=some v:=by
 have:=iN h
 rwa [show ((i.toNat:Nat):Int)=i by lia] at this
theorem gG {n:Nat} (h:n<=16000000):n < sizeLine:=by rw [sizeLine_eq]; lia
theorem mS {σ:St}{H:Hp}{A B:Hp->Prop} (h:A H):t4 σ H fun b H4=>if b=true then A H4 else B H4:=by
 show if true=true then A H else B H
 rw [if_pos rfl]; exact h
theorem jM {K:PySem.W.Frag}{H:Hp}{p:Addr}{xs:List V} (h:aJ K H p xs):mI K "list" (.ref p) H:=.inl ⟨rfl,xs,h⟩
theorem mT {l:Int × Int}{k x:Int}:x ∈ (if l.1=k then [l.2] else []) ++ (if l.2=k then [l.1] else []) ↔ (l.1=k/\x=l.2) ∨ (l.2=k/\x=l.1):=by
 rw [aO4]
 by_cases h1:l.1=k <;> by_cases h2:l.2=k <;> simp [h1,h2]
theorem cS {ls:List (Int × Int)}{k x:Int}:x ∈ aN ls k ↔ (k,x) ∈ ls ∨ (x,k) ∈ ls:=by
 unfold aN
 rw [List.mem_flatMap]
 constructor
 ·rintro ⟨l,hl,hx⟩
  rcases mT.mp hx with ⟨h1,h2⟩ | ⟨h1,h2⟩
  ·left; rw [<- h1,h2]; exact hl
  ·right; rw [<- h1,h2]; exact hl
 ·rintro (h | h)
  ·exact⟨_,h,mT.mpr (.inl ⟨rfl,rfl⟩)⟩
  ·exact⟨_,h,mT.mpr (.inr ⟨rfl,rfl⟩)⟩
theorem iV {ls:List (Int × Int)}{k x:Int} (h:x ∈ aN ls k):k ∈ aN ls x:=cS.mpr (cS.mp h).symm
end L2
namespace Zp
open PySem PyProof.Rows
section
variable {prog : Program} {w : World} {A : Around} {E : Value → Shared → Prop} {s : Shared}
theorem aj1 {it t:Addr}{i:Nat}{items:Array Value}{x:Value}{Q:Value->Shared->Prop} (hi:s.heap.IsTupleIter it t i) (ht:s.heap.IsTuple t items) (hx:items[i]? = some x)
  (q:∀ h',h'.IsTupleIter it t (i+1)->Heap.SameBut it s.heap h'->Q x { s with heap:=h' }):wpAny (model prog w) A (Builtin.SmallTypes.nextOf (.ref it)) Q E s:=by
 have T:=hi.typeIs
 obtain ⟨o,e1,e2,e3⟩:=hi
 obtain ⟨u,f1,_,k,f3⟩:=ht
 have slot:=PySem.F.slot_tuple_iterator_next
 have isref:(Value.ref t == Value.none)=false:=rfl
 unfold Builtin.SmallTypes.nextOf
 apply aN2
 apply aU7 (name:=Str.ofString "__next__") T slot
 apply aV5 slot T PySem.F.entry_tuple_iterator_next _ (PySem.F.args_tuple_iterator_next_1 _)
 change wpAny _ _ (field (.ref it) 0 >>= _) _ _ s
 apply aN2
 refine aV9 e1 e3 (x:=.ref t) rfl ?_
 change wpAny _ _ (if (Value.ref t == Value.none)=true then _ else _) _ _ s
 simp only [isref,aQ2,aT8]
 change wpAny _ _ (field (.ref it) 1 >>= _) _ _ s
 apply aN2
 refine aV9 e1 e3 (x:=.int i 0) rfl ?_
 change wpAny _ _ (seqItems? (.ref t) >>= _) _ _ s
 apply aN2
 apply ba0 f1 f3
 simp only [aQ3,hx]
 apply aN2
 refine wpAny_setField e1 e3 (by simp) ?_
 apply aO6
 refine⟨x,rfl,aO6 (q _ ⟨_,Heap.get?_update_self _ e1 (Obj.isFreed_of_fields (Obj.data_mapFields e3 _)),?_,?_⟩ (Heap.SameBut.update ..))⟩
 ·rw [Obj.cls_mapFields]; exact e2
 ·rw [Obj.data_mapFields e3]; simp [rawInt]
theorem aj2 {it t:Addr}{i:Nat}{items:Array Value}{Q:Value->Shared->Prop} (hh:A.handled=none) (hi:s.heap.IsTupleIter it t i) (ht:s.heap.IsTuple t items) (hx:items[i]? = none)
  (q:∀ h' e,Heap.ExtBut it s.heap h'->(∃ o,h'.get? e=some o/\o.cls = .type "StopIteration")->E (.ref e) { s with heap:=h' }):wpAny (model prog w) A (Builtin.SmallTypes.nextOf (.ref it)) Q E s:=by
 have T:=hi.typeIs
 obtain ⟨o,e1,e2,e3⟩:=hi
 obtain ⟨u,f1,_,k,f3⟩:=ht
 have slot:=PySem.F.slot_tuple_iterator_next
 have isref:(Value.ref t == Value.none)=false:=rfl
 unfold Builtin.SmallTypes.nextOf
 apply aN2
 apply aU7 (name:=Str.ofString "__next__") T slot
 apply aV5 slot T PySem.F.entry_tuple_iterator_next _ (PySem.F.args_tuple_iterator_next_1 _)
 change wpAny _ _ (field (.ref it) 0 >>= _) _ _ s
 apply aN2
 refine aV9 e1 e3 (x:=.ref t) rfl ?_
 change wpAny _ _ (if (Value.ref t == Value.none)=true then _ else _) _ _ s
 simp only [isref,aQ2,aT8]
 change wpAny _ _ (field (.ref it) 1 >>= _) _ _ s
 apply aN2
 refine aV9 e1 e3 (x:=.int i 0) rfl ?_
 change wpAny _ _ (seqItems? (.ref t) >>= _) _ _ s
 apply aN2
 apply ba0 f1 f3
 simp only [aQ3,hx]
 apply aN2
 apply wpAny_rule
 apply aN2
 refine wpAny_setField e1 e3 (by simp) ?_
 apply aN2
 simp only [newExc,newTuple]
 apply aN2
 refine aU0 ?_ (by size_fits)
 apply aN2
 refine wpAny_of_eq (a:=Value.none) (by first | rfl | (simp only [firstArgMember]; rfl)) ?_
 refine aU0 ?_ (by size_fits)
 unfold raiseNew
 apply aN2
 apply wpAny_handled
 have quiet:A.in1.handled=none:=hh
 rw [quiet]
 refine wpAny_throw ?_
 exact q _ _ (((Heap.SameBut.update ..).extBut.push _).push _) ⟨_,aP5 _ rfl,rfl⟩
theorem aj3 (hh:A.handled=none) (it t:Addr) (ne:t ≠ it) (items:Array Value):Draws prog w A it [it,t] items.size (fun i v=>items[i]? = some v) (fun i h=>h.IsTupleIter it t i/\h.IsTuple t items) where
 live:=fun _ _ st=>st.1.elim fun o y=>⟨o,y.1⟩
 frame:=fun _ _ _ st k=>⟨st.1.at fun o e=>k it aO1 o e,st.2.elim fun o y=>⟨o,k t (aO8 _ aO1) o y.1,y.2⟩⟩
 item:=fun i s Q E lt st q=>aj1 st.1 st.2 (Array.getElem?_eq_getElem lt) fun h' again sb=>q _ h' s.toks (Array.getElem?_eq_getElem lt) ⟨again,st.2.elim fun o y=>⟨o,sb.extBut t o ne y.1,y.2⟩⟩ sb
 done:=fun s Q E st q=>aj2 hh st.1 st.2 (Array.getElem?_eq_none (aO0 _)) q
end
structure Ap (z TI TO i1 i2:Addr) (fp1 fp2:List Addr):Prop where
 TIz:TI ≠ z
 TOz:TO ≠ z
 TITO:TI ≠ TO
 z1:z ∉ fp1
 z2:z ∉ fp2
 o1:TO ∉ fp1
 o2:TO ∉ fp2
 t1:TI ∉ fp1
 t2:TI ∉ fp2
 m1:i1 ∈ fp1
 m2:i2 ∈ fp2
 n1:i1 ∉ fp2
 n2:i2 ∉ fp1
structure tJ (z TI TO i1 i2:Addr) (St1 St2:Nat->Heap->Prop) (f0:Value) (i j:Nat) (h:Heap):Prop where
 zz:IsZip h z TI TO f0
 ti:IsPair h TI (.ref i1) (.ref i2)
 to_:∃ a b,IsPair h TO a b
 s1:St1 i h
 s2:St2 j h
section
variable {prog : Program} {w : World} {A : Around} {E : Value → Shared → Prop} {s : Shared} {z TI TO i1 i2 : Addr} {fp1 fp2 : List Addr} {n1 n2 : Nat} {P1 P2 : Nat → Value → Prop} {St1 St2 : Nat → Heap → Prop}
theorem lC (ap:Ap z TI TO i1 i2 fp1 fp2) {b:Addr} (h:b ∉ fp1):b ≠ i1:=fun e=>h (e ▸ ap.m1)
theorem p7 (ap:Ap z TI TO i1 i2 fp1 fp2) {b:Addr} (h:b ∉ fp2):b ≠ i2:=fun e=>h (e ▸ ap.m2)
theorem item (D1:Draws prog w A.in1 i1 fp1 n1 P1 St1) (D2:Draws prog w A.in1 i2 fp2 n2 P2 St2) (ap:Ap z TI TO i1 i2 fp1 fp2) {i:Nat} (l1:i < n1) (l2:i < n2) (st:tJ z TI TO i1 i2 St1 St2 .none i i s.heap) {Q:Option Value->Shared->Prop}
  (q:∀ x y h' tk,P1 i x->P2 i y->tJ z TI TO i1 i2 St1 St2 (rawInt s.heap.objs.size) (i+1) (i+1) h'->IsPair h' s.heap.objs.size x y->(∀ c o,c ≠ z->c ≠ TO->c ≠ i1->c ≠ i2->s.heap.get? c=some o->h'.get? c=some o)->
   h'.objs.size=s.heap.objs.size+1->Q (some (.ref s.heap.objs.size)) { s with heap:=h',toks:=tk }):wpAny (model prog w) A (pyNext (.ref z)) Q E s:=by
 obtain ⟨hz,hti,⟨a,b,hto⟩,h1,h2⟩:=st
 have T:s.TypeIs (.ref z) "zip":=⟨_,hz,rfl⟩
 have slot:=PySem.F.slot_zip_next
 unfold pyNext
 apply aN2
 apply wpAny_attempt
 apply aU7 (name:=Str.ofString "__next__") T slot
 apply aV5 slot T PySem.F.entry_zip_next _ (PySem.F.args_zip_next_1 _)
 change wpAny _ _ (field (.ref z) 2 >>= _) _ _ _
 apply aN2
 refine aV9 hz rfl (x:=.bool false) rfl ?_
 change wpAny _ _ (field (.ref z) 3 >>= _) _ _ _
 apply aN2
 refine aV9 hz rfl (x:=.ref TI) rfl ?_
 apply aN2
 apply ba0 hti rfl
 change wpAny _ _ (Builtin.SmallTypes.ownedTupleIsFree (.ref z) >>= _) _ _ _
 apply aN2
 unfold Builtin.SmallTypes.ownedTupleIsFree
 apply aN2
 refine aV9 hz rfl (x:=.none) rfl (aO6 ?_)
 simp only [if_true]
 apply aN2
 apply wpAny_rule
 apply aN2
 refine aV9 hz rfl (x:=.ref TO) rfl ?_
 apply aN2
 refine ba1 hz (by simp) fun g1 hz1 sb1=>?_
 have k1:∀ c o,c ≠ z->s.heap.get? c=some o->g1.get? c=some o:=fun c o c1 e=>sb1.extBut c o c1 e
 apply aN2
 simp only [List.zipIdx_cons,List.zipIdx_nil,List.forIn_cons,List.forIn_nil]
 apply aN2
 apply aN2
 apply wpAny_onRaise
 change wpAny _ _ (Builtin.SmallTypes.nextOf (.ref i1) >>= _) _ _ _
 apply aN2
 refine D1.item i { s with heap:=g1 } _ _ l1 (D1.frame _ _ _ h1 fun c hc o e=>k1 c o (fun y=>ap.z1 (y ▸ hc)) e) fun x g2 tk2 px st1 sb2=>aO6 ?_
 have k2:∀ c o,c ≠ z->c ≠ i1->s.heap.get? c=some o->g2.get? c=some o:=fun c o c1 c2 e=>sb2.extBut c o c2 (k1 c o c1 e)
 have to2:IsPair g2 TO a b:=k2 _ _ ap.TOz (lC ap ap.o1) hto
 apply aN2
 apply ba0 to2 rfl
 apply aN2
 refine wpAny_updateSeq_pair to2 fun g3 to3 sb3=>?_
 have to3:IsPair g3 TO x b:=to3
 apply aN2
 apply wpAny_letGo
 apply aO6
 apply aN2
 apply aN2
 apply wpAny_onRaise
 change wpAny _ _ (Builtin.SmallTypes.nextOf (.ref i2) >>= _) _ _ _
 apply aN2
 have k3:∀ c o,c ≠ z->c ≠ i1->c ≠ TO->s.heap.get? c=some o->g3.get? c=some o:=fun c o c1 c2 c3 e=>sb3.extBut c o c3 (k2 c o c1 c2 e)
 refine D2.item i { s with heap:=g3,toks:=tk2 } _ _ l2 (D2.frame _ _ _ h2 fun c hc o e=>k3 c o (fun y=>ap.z2 (y ▸ hc)) (fun y=>ap.n1 (y ▸ hc)) (fun y=>ap.o2 (y ▸ hc)) e) fun y g4 tk4 py st2 sb4=>aO6 ?_
 have to4:IsPair g4 TO x b:=sb4.extBut _ _ (p7 ap ap.o2) to3
 apply aN2
 apply ba0 to4 rfl
 apply aN2
 refine wpAny_updateSeq_pair to4 fun g5 to5 sb5=>?_
 have to5:IsPair g5 TO x y:=to5
 apply aN2
 apply wpAny_letGo
 apply aO6
 apply aO6
 apply aN2
 apply ba0 to5 rfl
 apply aN2
 refine wpAny_newTuple ?_ (by show 2<=sizeLine; decide)
 have size:g5.objs.size=s.heap.objs.size:=by rw [sb5.1,sb4.1,sb3.1,sb2.1,sb1.1]
 have k5:∀ c o,c ≠ z->c ≠ TO->c ≠ i1->c ≠ i2->s.heap.get? c=some o->g5.get? c=some o:=fun c o c1 c2 c3 c4 e=>sb5.extBut c o c2 (sb4.extBut c o c4 (k3 c o c1 c3 c2 e))
 have z5:IsZip g5 z TI TO .ellipsis:=sb5.extBut _ _ (Ne.symm ap.TOz) (sb4.extBut _ _ (p7 ap ap.z2) (sb3.extBut _ _ (Ne.symm ap.TOz) (sb2.extBut _ _ (lC ap ap.z1) hz1)))
 change wpAny _ _ (Builtin.SmallTypes.ownedTupleHandOut (.ref z) (.ref g5.objs.size) >>= _) _ _ _
 apply aN2
 unfold Builtin.SmallTypes.ownedTupleHandOut
 apply aN2
 have z6:IsZip (g5.push { cls:=.type "tuple",data:=.seq #[x,y] }) z TI TO .ellipsis:=aN4 _ z5
 refine ba1 z6 (by simp) fun g7 z7 sb7=>?_
 have z7:IsZip g7 z TI TO (rawInt g5.objs.size):=z7
 refine ba1 z7 (by simp) fun g8 z8 sb8=>?_
 have z8:IsZip g8 z TI TO (rawInt g5.objs.size):=z8
 have zlt:z < g5.objs.size:=aP1 z5
 have up:∀ c o,c ≠ z->g5.get? c=some o->g8.get? c=some o:=fun c o c1 e=>sb8.extBut c o c1 (sb7.extBut c o c1 (aN4 _ e))
 have p8:IsPair g8 g5.objs.size x y:=sb8.extBut _ _ (aW4 zlt) (sb7.extBut _ _ (aW4 zlt) (aP5 _ rfl))
 have s8:g8.objs.size=g5.objs.size+1:=by rw [sb8.1,sb7.1,bb4]
 have f1:St1 (i+1) g8:=D1.frame _ _ _ st1 fun c hc o e=>up c o (fun y=>ap.z1 (y ▸ hc)) (sb5.extBut c o (fun y=>ap.o1 (y ▸ hc)) (sb4.extBut c o (fun y=>ap.n2 (y ▸ hc)) (sb3.extBut c o (fun y=>ap.o1 (y ▸ hc)) e)))
 have f2:St2 (i+1) g8:=D2.frame _ _ _ st2 fun c hc o e=>up c o (fun y=>ap.z2 (y ▸ hc)) (sb5.extBut c o (fun y=>ap.o2 (y ▸ hc)) e)
 have ti8:IsPair g8 TI (.ref i1) (.ref i2):=up _ _ ap.TIz (k5 _ _ ap.TIz ap.TITO (lC ap ap.t1) (p7 ap ap.t2) hti)
 rw [size] at z8 p8 s8
 apply aO6
 refine⟨_,rfl,aO6 ?_⟩
 change Q (some (.ref g5.objs.size)) _
 rw [size]
 exact q x y g8 tk4 px py ⟨z8,ti8,⟨x,y,up _ _ ap.TOz to5⟩,f1,f2⟩ p8 (fun c o c1 c2 c3 c4 e=>up c o c1 (k5 c o c1 c2 c3 c4 e)) s8
theorem fin (D1:Draws prog w A.in1 i1 fp1 n1 P1 St1) (D2:Draws prog w A.in1 i2 fp2 n2 P2 St2) (ap:Ap z TI TO i1 i2 fp1 fp2) {i:Nat} (le:i=n1 ∨ (i < n1/\i=n2)) (st:tJ z TI TO i1 i2 St1 St2 .none i i s.heap) {Q:Option Value->Shared->Prop}
  (q:∀ h' tk,(∀ c o,c ≠ z->c ≠ TO->c ≠ i1->c ≠ i2->s.heap.get? c=some o->h'.get? c=some o)->Q none { s with heap:=h',toks:=tk }):wpAny (model prog w) A (pyNext (.ref z)) Q E s:=by
 obtain ⟨hz,hti,⟨a,b,hto⟩,h1,h2⟩:=st
 have T:s.TypeIs (.ref z) "zip":=⟨_,hz,rfl⟩
 have slot:=PySem.F.slot_zip_next
 unfold pyNext
 apply aN2
 apply wpAny_attempt
 apply aU7 (name:=Str.ofString "__next__") T slot
 apply aV5 slot T PySem.F.entry_zip_next _ (PySem.F.args_zip_next_1 _)
 change wpAny _ _ (field (.ref z) 2 >>= _) _ _ _
 apply aN2
 refine aV9 hz rfl (x:=.bool false) rfl ?_
 change wpAny _ _ (field (.ref z) 3 >>= _) _ _ _
 apply aN2
 refine aV9 hz rfl (x:=.ref TI) rfl ?_
 apply aN2
 apply ba0 hti rfl
 change wpAny _ _ (Builtin.SmallTypes.ownedTupleIsFree (.ref z) >>= _) _ _ _
 apply aN2
 unfold Builtin.SmallTypes.ownedTupleIsFree
 apply aN2
 refine aV9 hz rfl (x:=.none) rfl (aO6 ?_)
 simp only [if_true]
 apply aN2
 apply wpAny_rule
 apply aN2
 refine aV9 hz rfl (x:=.ref TO) rfl ?_
 apply aN2
 refine ba1 hz (by simp) fun g1 hz1 sb1=>?_
 have k1:∀ c o,c ≠ z->s.heap.get? c=some o->g1.get? c=some o:=fun c o c1 e=>sb1.extBut c o c1 e
 apply aN2
 simp only [List.zipIdx_cons,List.zipIdx_nil,List.forIn_cons,List.forIn_nil]
 apply aN2
 apply aN2
 apply wpAny_onRaise
 change wpAny _ _ (Builtin.SmallTypes.nextOf (.ref i1) >>= _) _ _ _
 apply aN2
 have z1:IsZip g1 z TI TO .ellipsis:=hz1
 rcases le with rfl | ⟨lt,rfl⟩
 ·refine D1.done { s with heap:=g1 } _ _ (D1.frame _ _ _ h1 fun c hc o e=>k1 c o (fun y=>ap.z1 (y ▸ hc)) e) fun g2 e eb ex=>?_
  have z2:IsZip g2 z TI TO .ellipsis:=eb _ _ (lC ap ap.z1) z1
  refine ba1 z2 (by simp) fun g3 z3 sb3=>?_
  obtain ⟨oe,eo,co⟩:=ex
  have ne:e ≠ z:=fun y=>by
   rw [y,z2] at eo
   have:=aQ5 eo
   rw [<- this] at co; exact absurd (show Value.type "zip" = Value.type "StopIteration" from co) (by decide)
  apply aN2
  refine wpAny_isInstance (T:="StopIteration") (b:=true) ⟨oe,sb3.extBut _ _ ne eo,co⟩ isSubtype_stop ?_
  exact aO6 (q g3 s.toks fun c o c1 _ c3 _ e=>sb3.extBut c o c1 (eb c o c3 (k1 c o c1 e)))
 ·refine D1.item i { s with heap:=g1 } _ _ lt (D1.frame _ _ _ h1 fun c hc o e=>k1 c o (fun y=>ap.z1 (y ▸ hc)) e) fun x g2 tk2 px st1 sb2=>aO6 ?_
  have k2:∀ c o,c ≠ z->c ≠ i1->s.heap.get? c=some o->g2.get? c=some o:=fun c o c1 c2 e=>sb2.extBut c o c2 (k1 c o c1 e)
  have to2:IsPair g2 TO a b:=k2 _ _ ap.TOz (lC ap ap.o1) hto
  apply aN2
  apply ba0 to2 rfl
  apply aN2
  refine wpAny_updateSeq_pair to2 fun g3 to3 sb3=>?_
  apply aN2
  apply wpAny_letGo
  apply aO6
  apply aN2
  apply aN2
  apply wpAny_onRaise
  change wpAny _ _ (Builtin.SmallTypes.nextOf (.ref i2) >>= _) _ _ _
  apply aN2
  have k3:∀ c o,c ≠ z->c ≠ i1->c ≠ TO->s.heap.get? c=some o->g3.get? c=some o:=fun c o c1 c2 c3 e=>sb3.extBut c o c3 (k2 c o c1 c2 e)
  refine D2.done { s with heap:=g3,toks:=tk2 } _ _ (D2.frame _ _ _ h2 fun c hc o e=>k3 c o (fun y=>ap.z2 (y ▸ hc)) (fun y=>ap.n1 (y ▸ hc)) (fun y=>ap.o2 (y ▸ hc)) e) fun g4 e eb ex=>?_
  have z4:IsZip g4 z TI TO .ellipsis:=eb _ _ (p7 ap ap.z2) (sb3.extBut _ _ (Ne.symm ap.TOz) (sb2.extBut _ _ (lC ap ap.z1) z1))
  refine ba1 z4 (by simp) fun g5 z5 sb5=>?_
  obtain ⟨oe,eo,co⟩:=ex
  have ne:e ≠ z:=fun y=>by
   rw [y,z4] at eo
   have:=aQ5 eo
   rw [<- this] at co; exact absurd (show Value.type "zip" = Value.type "StopIteration" from co) (by decide)
  apply aN2
  refine wpAny_isInstance (T:="StopIteration") (b:=true) ⟨oe,sb5.extBut _ _ ne eo,co⟩ isSubtype_stop ?_
  exact aO6 (q g5 tk2 fun c o c1 c2 c3 c4 e=>sb5.extBut c o c1 (eb c o c4 (k3 c o c1 c3 c2 e)))
end
noncomputable def fV (h:Heap) (t u:Addr):Heap:=
 ((((h.push { cls:=.type "tuple_iterator",data:=.fields #[.ref t,.int 0 0] }).push { cls:=.type "tuple_iterator",data:=.fields #[.ref u,.int 0 0] }).push { cls:=.type "tuple",data:=.seq #[.ref h.objs.size,.ref (h.objs.size+1)] }).push
  { cls:=.type "tuple",data:=.seq #[.none,.none] }).push { cls:=.type "zip",data:=.fields #[.none,.bool false,.bool false,.ref (h.objs.size+2),.ref (h.objs.size+3)] }
theorem aj4 (t u:Addr) (xs ys:Array Value):Meets (Builtin.«zip.__new__» ⟨[.type "zip",.ref t,.ref u],[]⟩) (fun _ R s=>s.heap.IsTuple t xs/\s.heap.IsTuple u ys/\R (.ok (.ret (.ref (s.heap.objs.size+4)))) { s with heap:=fV s.heap t u }):=
 .of_wp fun prog w A R s h=>by
  obtain ⟨hp,g,d,tk,os⟩:=s
  obtain ⟨ht,hu,h⟩:=h
  have sub:=sub_zip
  have a1:Heap.IsTuple (Shared.heap ⟨hp,g,d,tk,os⟩) t xs:=ht
  have a2:Heap.IsTuple (Shared.heap ⟨hp.push { cls:=.type "tuple_iterator",data:=.fields #[.ref t,.int 0 0] },g,d,tk,os⟩) u ys:=hu.elim fun o y=>⟨o,aN4 _ y.1,y.2⟩
  wp_walk using wpAny_pyIter_tuple a1,wpAny_pyIter_tuple a2
  have e:∀ (o:Obj) (k:Heap),(k.push o).objs.size=k.objs.size+1:=fun o k=>bb4 ..
  refine⟨_,rfl,?_⟩
  simp only [fV,e] at h ⊢
  exact h
section
variable {prog : Program} {w : World} {A : Around} {E : Value → Shared → Prop} {s : Shared}
theorem aj5 {t u:Addr}{xs ys:Array Value}{Q:Value->Shared->Prop} (ht:s.heap.IsTuple t xs) (hu:s.heap.IsTuple u ys)
  (q:∀ h',IsZip h' (s.heap.objs.size+4) (s.heap.objs.size+2) (s.heap.objs.size+3) .none->IsPair h' (s.heap.objs.size+2) (.ref s.heap.objs.size) (.ref (s.heap.objs.size+1))->
   IsPair h' (s.heap.objs.size+3) .none .none->h'.IsTupleIter s.heap.objs.size t 0->h'.IsTupleIter (s.heap.objs.size+1) u 0->(∀ c o,s.heap.get? c=some o->h'.get? c=some o)->Q (.ref (s.heap.objs.size+4)) { s with heap:=h' }) :
  wpAny (model prog w) A (call (.type "zip") [.ref t,.ref u]) Q E s:=by
 refine callType_new PySem.F.called_zip (by decide) (PySem.F.typeCall_zip_2 _ _) (PySem.F.newCall_zip_2 _ _) (fun obj=>PySem.F.args_object_init_3 obj _ _) PySem.F.entry_zip_new (aj4 t u xs ys) ⟨ht,hu,?_⟩
 have e:∀ (o:Obj) (k:Heap),(k.push o).objs.size=k.objs.size+1:=fun o k=>bb4 ..
 have p0:∀ (k:Heap) (o:Obj) (m:Nat),o.isFreed=false->m=k.objs.size->(k.push o).get? m=some o:=fun k o m f z=>by rw [z]; exact aP5 _ f
 have g0:(fV s.heap t u).get? s.heap.objs.size=some { cls:=.type "tuple_iterator",data:=.fields #[.ref t,.int 0 0] }:=by
  unfold fV
  exact aN4 _ (aN4 _ (aN4 _ (aN4 _ (p0 _ _ _ rfl rfl))))
 have g1:(fV s.heap t u).get? (s.heap.objs.size+1)=some { cls:=.type "tuple_iterator",data:=.fields #[.ref u,.int 0 0] }:=by
  unfold fV
  exact aN4 _ (aN4 _ (aN4 _ (p0 _ _ _ rfl (by simp only [e]))))
 have g2:(fV s.heap t u).get? (s.heap.objs.size+2)=some { cls:=.type "tuple",data:=.seq #[.ref s.heap.objs.size,.ref (s.heap.objs.size+1)] }:=by
  unfold fV
  exact aN4 _ (aN4 _ (p0 _ _ _ rfl (by simp only [e])))
 have g3:(fV s.heap t u).get? (s.heap.objs.size+3)=some { cls:=.type "tuple",data:=.seq #[.none,.none] }:=by
  unfold fV
  exact aN4 _ (p0 _ _ _ rfl (by simp only [e]))
 have g4:(fV s.heap t u).get? (s.heap.objs.size+4)=some { cls:=.type "zip",data:=.fields #[.none,.bool false,.bool false,.ref (s.heap.objs.size+2),.ref (s.heap.objs.size+3)] }:=by
  unfold fV
  exact p0 _ _ _ rfl (by simp only [e])
 refine⟨⟨_,g4,rfl⟩,q _ g4 g2 g3 ⟨_,g0,rfl,rfl⟩ ⟨_,g1,rfl,rfl⟩ fun c o z=>?_⟩
 unfold fV
 exact aN4 _ (aN4 _ (aN4 _ (aN4 _ (aN4 _ z))))
end
end Zp
namespace L2
open PySem PySem.Spec PyProof.Rows
noncomputable def tK (K:PySem.W.Frag) (a b:Addr):It:=
  ⟨fun i H=>∃ xs ys x y,aM K H a xs/\aM K H b ys/\xs[i]? = some x/\ys[i]? = some y,
   fun i H v H'=>∃ T x y,H T=none/\v = .ref T/\H'=upd H T (.tup [x,y])/\∀ xs ys,aM K H a xs->aM K H b ys->xs[i]? = some x/\ys[i]? = some y,
   fun i H=>∃ xs ys,aM K H a xs/\aM K H b ys/\(i=xs.length ∨ (i < xs.length/\i=ys.length))⟩
noncomputable def Sq (t:Bool) (K:PySem.W.Frag) (H:Hp) (a:Addr) (xs:List V):Prop:=match t with
 | true=>aM K H a xs
 | false=>aJ K H a xs
noncomputable def fW (t:Bool) (h:Heap) (i a:Addr) (n:Nat):Prop:=match t with
 | true=>h.IsTupleIter i a n
 | false=>h.IsListIter i a n
noncomputable def zR (t:Bool) (h:Heap) (a:Addr) (xs:Array Value):Prop:=match t with
 | true=>h.IsTuple a xs
 | false=>h.IsList a xs
theorem fW.at {h h':Heap}{i a:Addr}{n:Nat}:∀ {t:Bool},fW t h i a n->(∀ o,h.get? i=some o->h'.get? i=some o)->fW t h' i a n
 | true,x,k=>Heap.IsTupleIter.at x k
 | false,x,k=>Heap.IsListIter.at x k
theorem fW.ob {h:Heap}{i a:Addr}{n:Nat}:∀ {t:Bool},fW t h i a n->∃ o,h.get? i=some o/\∀ v,o.data ≠ .cell v
 | true,⟨o,f,_,d⟩=>⟨o,f,fun v q=>by rw [d] at q; cases q⟩
 | false,⟨o,f,_,d⟩=>⟨o,f,fun v q=>by rw [d] at q; cases q⟩
theorem fW.draws {prog:Program}{w:World}{A:Around}:∀ (t:Bool) (hh:A.handled=none) (it a:Addr) (ne:a ≠ it) (items:Array Value),Draws prog w A it [it,a] items.size (fun i v=>items[i]? = some v) (fun i h=>fW t h it a i/\zR t h a items)
 | true,hh,it,a,ne,items=>Zp.aj3 hh it a ne items
 | false,hh,it,a,ne,items=>Draws.list hh it a ne items
section
variable {X : Cx} {pins : List (Addr × Obj)} {σ : St} {H : Hp} {s : Shared} {a : Addr} {xs ys : List V}
theorem Sq.get (I:a6 X pins σ H s):∀ {t:Bool},Sq t X.K H a xs->∃ us,aK xs us/\zR t s.heap a us.toArray
 | true,h=>by obtain ⟨us,r,p,_⟩:=I.tuple h; exact⟨us,r,p⟩
 | false,h=>by obtain ⟨us,r,p,_⟩:=I.list h; exact⟨us,r,p.isList⟩
theorem Sq.inj (I:a6 X pins σ H s):∀ {t:Bool},Sq t X.K H a xs->Sq t X.K H a ys->xs=ys
 | true,h,g=>I.tuple_inj h g
 | false,h,g=>I.list_inj h g
theorem Sq.off (I:a6 X pins σ H s) (he:H a=none) (hb:X.base.get? a=none):∀ {t:Bool},Sq t X.K H a xs->False
 | true,h=>by
  rcases h with (h | ⟨_,h⟩) | ⟨o,_,_,h,_⟩
  ·rw [he] at h; cases h
  ·rw [he] at h; cases h
  ·have:=I.ok.mod.kin a o h
   rw [hb] at this; cases this
 | false,h=>by
  rcases h with (h | ⟨_,h⟩) | ⟨o,_,_,h,_⟩
  ·rw [he] at h; cases h
  ·rw [he] at h; cases h
  ·have:=I.ok.mod.kin a o h
   rw [hb] at this; cases this
end
noncomputable def aj6 (t1 t2:Bool) (K:PySem.W.Frag) (a b:Addr):It:=
  ⟨fun i H=>∃ xs ys x y,Sq t1 K H a xs/\Sq t2 K H b ys/\xs[i]? = some x/\ys[i]? = some y,
   fun i H v H'=>∃ T x y,H T=none/\v = .ref T/\H'=upd H T (.tup [x,y])/\∀ xs ys,Sq t1 K H a xs->Sq t2 K H b ys->xs[i]? = some x/\ys[i]? = some y,
   fun i H=>∃ xs ys,Sq t1 K H a xs/\Sq t2 K H b ys/\(i=xs.length ∨ (i < xs.length/\i=ys.length))⟩
structure tL (t1 t2:Bool) (z TI TO i1 i2 a b:Addr) (i:Nat) (h:Heap):Prop where
 zz:IsZip h z TI TO .none
 ti:IsPair h TI (.ref i1) (.ref i2)
 to_:∃ x y,IsPair h TO x y
 s1:fW t1 h i1 a i
 s2:fW t2 h i2 b i
theorem zT (t1 t2:Bool) {P:Program}{w:World}{K:PySem.W.Frag}{elts:List Expr}{k:Nat}{pos:Pos} (a b z TI TO i1 i2:Addr) (d : [z,TI,TO,i1,i2].Nodup) :
  iM P w K (.Tuple elts k pos) (aj6 t1 t2 K a b) [z,TI,TO,i1,i2] z (tL t1 t2 z TI TO i1 i2 a b):=by
 have nd:z ≠ TI/\z ≠ TO/\z ≠ i1/\z ≠ i2/\TI ≠ TO/\TI ≠ i1/\TI ≠ i2/\TO ≠ i1/\TO ≠ i2/\i1 ≠ i2:=by
  simp only [aV3,aO7,aR1,aX3,not_or] at d
  obtain ⟨⟨a1,a2,a3,a4⟩,⟨b1,b2,b3⟩,⟨c1,c2⟩,e1,_⟩:=d
  exact⟨a1,a2,a3,a4,b1,b2,b3,c1,c2,e1⟩
 obtain ⟨n1,n2,n3,n4,n5,n6,n7,n8,n9,n10⟩:=nd
 have offBase:∀ {X:Cx}{pins:List (Addr × Obj)}{σ:St}{H:Hp}{s:Shared},a6 X pins σ H s->(∀ c ∈ [z,TI,TO,i1,i2],gC X pins H c)->∀ c ∈ [z,TI,TO,i1,i2],X.base.get? c=none:=by
  intro X pins σ H s I hf c hc
  cases q:X.base.get? c with
  | none=>rfl
  | some o=>
   rcases (hf c hc).2.2.2.1 with h | h
   ·exact absurd h (I.ok.noex c o q)
   ·exact absurd (aO9 (aP1 q) (aS0 I.ok.bsz h)) (aS1 _)
 have off:∀ {t:Bool}{X:Cx}{pins:List (Addr × Obj)}{σ:St}{H:Hp}{s:Shared}{c:Addr}{zs:List V},a6 X pins σ H s->(∀ c ∈ [z,TI,TO,i1,i2],gC X pins H c)->Sq t X.K H c zs->c ∉ [z,TI,TO,i1,i2]:=by
  intro t X pins σ H s c zs I hf hc hm
  exact Sq.off I (hf c hm).1 (offBase I hf c hm) hc
 have ap:∀ {c e:Addr},c ∉ [z,TI,TO,i1,i2]->e ∉ [z,TI,TO,i1,i2]->Zp.Ap z TI TO i1 i2 [i1,c] [i2,e]:=fun {c e} hc he=>by
  simp only [aO7,aR1,aX3,not_or] at hc he
  obtain ⟨c1,c2,c3,c4,c5⟩:=hc
  obtain ⟨e1,e2,e3,e4,e5⟩:=he
  have two:∀ {q u v:Addr},q ≠ u->q ≠ v->q ∉ [u,v]:=fun {q u v} h1 h2 hm=>by
   simp only [aO7,aR1,aX3] at hm
   exact hm.elim h1 h2
  exact⟨n1.symm,n2.symm,n5,two n3 (Ne.symm c1),two n4 (Ne.symm e1),two n8 (Ne.symm c3),two n9 (Ne.symm e3),two n6 (Ne.symm c2),two n7 (Ne.symm e2),aO1,aO1,two n10 (Ne.symm e4),two n10.symm (Ne.symm c5)⟩
 refine⟨by simp,fun i h st c hc=>?_,fun i h h' st kp=>?_,?_,?_,fun A i s Q E st q=>wpAny_pyIter_zip st.zz q⟩
 ·simp only [aO7,aR1,aX3] at hc
  obtain ⟨x,y,to⟩:=st.to_
  rcases hc with rfl | rfl | rfl | rfl | rfl
  ·exact⟨_,st.zz,fun v q=>by cases q⟩
  ·exact⟨_,st.ti,fun v q=>by cases q⟩
  ·exact⟨_,to,fun v q=>by cases q⟩
  ·exact st.s1.ob
  ·exact st.s2.ob
 ·obtain ⟨x,y,to⟩:=st.to_
  exact⟨kp z (by simp) _ st.zz,kp TI (by simp) _ st.ti,⟨x,y,kp TO (by simp) _ to⟩,st.s1.at fun o e=>kp i1 (by simp) o e,st.s2.at fun o e=>kp i2 (by simp) o e⟩
 ·
  intro X hP hw hK hc i pins s σ H E I hf st hg
  subst hP hw hK
  obtain ⟨xs,ys,x,y,ha,hb,hx,hy⟩:=hg
  obtain ⟨us,ru,pu⟩:=Sq.get I ha
  obtain ⟨vs,rv,pv'⟩:=Sq.get I hb
  obtain ⟨ux,eux,rux⟩:=ru.get hx
  obtain ⟨vy,evy,rvy⟩:=rv.get hy
  have fa:=off I hf ha
  have fb:=off I hf hb
  have hh:X.A.in1.handled=none:=I.ok.hd hc
  have l1:i < us.toArray.size:=by simpa using (aN9.mp eux).1
  have l2:i < vs.toArray.size:=by simpa using (aN9.mp evy).1
  have fa':a ≠ i1:=fun q=>fa (by rw [q]; simp)
  have fb':b ≠ i2:=fun q=>fb (by rw [q]; simp)
  have D1:=fW.draws t1 (prog:=X.prog) (w:=X.w) hh i1 a fa' us.toArray
  have D2:=fW.draws t2 (prog:=X.prog) (w:=X.w) hh i2 b fb' vs.toArray
  refine Zp.item D1 D2 (ap fa fb) l1 l2 ⟨st.zz,st.ti,st.to_,⟨st.s1,pu⟩,⟨st.s2,pv'⟩⟩ fun p q h' tk hp hq st' pr kp sz=>⟨_,rfl,?_⟩
  obtain rfl:p=ux:=by
   have:us.toArray[i]? = some ux:=by simpa using eux
   rw [this] at hp; exact (aQ5 hp).symm
  obtain rfl:q=vy:=by
   have:vs.toArray[i]? = some vy:=by simpa using evy
   rw [this] at hq; exact (aQ5 hq).symm
  refine wpAny_letOwnedTupleGo_zip (s:={ s with heap:=h',toks:=tk }) st'.zz fun g zz sb=>?_
  have hzl:z < s.heap.objs.size:=aP1 st.zz
  have up:∀ c o,c ≠ z->c ≠ TO->c ≠ i1->c ≠ i2->s.heap.get? c=some o->g.get? c=some o:=fun c o c1 c2 c3 c4 e=>sb.extBut c o c1 (kp c o c1 c2 c3 c4 e)
  have hT:H s.heap.objs.size=none:=I.hok.fresh (aO0 _)
  have prG:IsPair g s.heap.objs.size p q:=sb.extBut _ _ (aW4 hzl) pr
  have fpn:∀ c u,H c=some u->c ∉ [z,TI,TO,i1,i2]:=fun c u e hm=>by rw [(hf c hm).1] at e; cases e
  have upH:∀ c o u,H c=some u->s.heap.get? c=some o->g.get? c=some o:=fun c o u e z=>by
   have:=fpn c u e
   simp only [aO7,aR1,aX3,not_or] at this
   exact up c o this.1 this.2.2.1 this.2.2.2.1 this.2.2.2.2 z
  have ns:∀ m,s.heap.Ns X.env.locals m->g.Ns X.env.locals m:=fun m hm=>by
   obtain ⟨o,es,ep,e1,e2⟩:=hm
   exact⟨o,es,ep,up _ o (Ne.symm (hf z (by simp)).2.1) (Ne.symm (hf TO (by simp)).2.1) (Ne.symm (hf i1 (by simp)).2.1) (Ne.symm (hf i2 (by simp)).2.1) e1,e2⟩
  have I2:a6 X pins σ (upd H s.heap.objs.size (.tup [x,y])) { s with heap:=g,toks:=tk }:=by
   refine I.step (g':=s.gens) (d':=s.drawn) (ch:=[z,TO,i1,i2]) (fun c hc'=>?_) (fun c o _ _ hc' e _=>?_) (fun c o _ _ hc' e _=>⟨o.slots,?_⟩) (fun c o _ e n=>?_) (fun c o hc' e=>⟨o,?_⟩)
    (fun c zs e=>by rw [aZ (dC e hT)]; exact e) (fun c u zs e=>by rw [aZ (dC e hT)]; exact e) (fun c ps e=>⟨#[],by rw [aZ (dC e hT),e]; simp⟩) ns (fun c u e=>?_) I.bare
   ·have hm:c ∈ [z,TI,TO,i1,i2]:=by
     simp only [aO7,aR1,aX3] at hc' ⊢
     rcases hc' with h | h | h | h <;> simp [h]
    exact⟨(hf c hm).2.2.2.1,(hf c hm).2.1,(hf c hm).2.2.2.2.1,(hf c hm).2.2.2.2.2⟩
   ·simp only [aO7,aR1,aX3,not_or] at hc'
    exact up c o hc'.1 hc'.2.1 hc'.2.2.1 hc'.2.2.2 e
   ·simp only [aO7,aR1,aX3,not_or] at hc'
    exact up c o hc'.1 hc'.2.1 hc'.2.2.1 hc'.2.2.2 e
   ·rw [aZ (aR2 (aP1 e))]; exact n
   ·simp only [aO7,aR1,aX3,not_or] at hc'
    exact up c o hc'.1 hc'.2.1 hc'.2.2.1 hc'.2.2.2 e
   ·by_cases hcT:c=s.heap.objs.size
    ·subst hcT
     rw [bJ] at e; cases e
     exact⟨by show 2<=sizeLine; decide,[p,q],.cons rux (.cons rvy .nil),⟨_,prG,rfl,_,rfl⟩,fun u e=>by rw [prG] at e; cases e; rfl⟩
    ·rw [aZ hcT] at e
     refine (I.hok c u e).stay (fun c' o' hc2 q'=>?_) (fun c' q'=>by rw [aZ (dC q' hT)]; exact q') fun c' zs q'=>by rw [aZ (dC q' hT)]; exact q'
     rcases hc2 with rfl | hc2
     ·exact upH _ _ _ e q'
     ·exact upH _ _ _ hc2 q'
  obtain ⟨x',y',to'⟩:=st'.to_
  refine⟨.ref s.heap.objs.size,_,I2,rfl,⟨_,x,y,hT,rfl,rfl,fun xs' ys' ha' hb'=>?_⟩,⟨zz,sb.extBut _ _ n1.symm st'.ti,⟨x',y',sb.extBut _ _ n2.symm to'⟩,st'.s1.1.at fun o e=>sb.extBut _ o n3.symm e,st'.s2.1.at fun o e=>sb.extBut _ o n4.symm e⟩,fun c hc'=>?_⟩
  ·rw [Sq.inj I ha' ha,Sq.inj I hb' hb]; exact⟨hx,hy⟩
  ·obtain ⟨o,e,_⟩:∃ o,s.heap.get? c=some o/\True:=by
    simp only [aO7,aR1,aX3] at hc'
    obtain ⟨x2,y2,to2⟩:=st.to_
    obtain ⟨o1,f1,_⟩:=st.s1.ob
    obtain ⟨o2,f2,_⟩:=st.s2.ob
    rcases hc' with rfl | rfl | rfl | rfl | rfl
    ·exact⟨_,st.zz,trivial⟩
    ·exact⟨_,st.ti,trivial⟩
    ·exact⟨_,to2,trivial⟩
    ·exact⟨_,f1,trivial⟩
    ·exact⟨_,f2,trivial⟩
   rw [aZ (aR2 (aP1 e))]; exact (hf c hc').1
 ·
  intro X hP hw hK hc i pins s σ H E I hf st hg
  subst hP hw hK
  obtain ⟨xs,ys,ha,hb,hi⟩:=hg
  obtain ⟨us,ru,pu⟩:=Sq.get I ha
  obtain ⟨vs,rv,pv'⟩:=Sq.get I hb
  have fa:=off I hf ha
  have fb:=off I hf hb
  have hh:X.A.in1.handled=none:=I.ok.hd hc
  have fa':a ≠ i1:=fun q=>fa (by rw [q]; simp)
  have fb':b ≠ i2:=fun q=>fb (by rw [q]; simp)
  have D1:=fW.draws t1 (prog:=X.prog) (w:=X.w) hh i1 a fa' us.toArray
  have D2:=fW.draws t2 (prog:=X.prog) (w:=X.w) hh i2 b fb' vs.toArray
  have e1:=ru.length
  have e2:=rv.length
  refine Zp.fin D1 D2 (ap fa fb) (by simp only [aN3]; lia) ⟨st.zz,st.ti,st.to_,⟨st.s1,pu⟩,⟨st.s2,pv'⟩⟩ fun g tk kp=>⟨rfl,?_⟩
  have fpn:∀ c u,H c=some u->c ∉ [z,TI,TO,i1,i2]:=fun c u e hm=>by rw [(hf c hm).1] at e; cases e
  have upH:∀ c o u,H c=some u->s.heap.get? c=some o->g.get? c=some o:=fun c o u e z=>by
   have:=fpn c u e
   simp only [aO7,aR1,aX3,not_or] at this
   exact kp c o this.1 this.2.2.1 this.2.2.2.1 this.2.2.2.2 z
  have ns:∀ m,s.heap.Ns X.env.locals m->g.Ns X.env.locals m:=fun m hm=>by
   obtain ⟨o,es,ep,e1,e2⟩:=hm
   exact⟨o,es,ep,kp _ o (Ne.symm (hf z (by simp)).2.1) (Ne.symm (hf TO (by simp)).2.1) (Ne.symm (hf i1 (by simp)).2.1) (Ne.symm (hf i2 (by simp)).2.1) e1,e2⟩
  refine I.step (g':=s.gens) (d':=s.drawn) (ch:=[z,TO,i1,i2]) (fun c hc'=>?_) (fun c o _ _ hc' e _=>?_) (fun c o _ _ hc' e _=>⟨o.slots,?_⟩) (fun c o _ e n=>n) (fun c o hc' e=>⟨o,?_⟩)
   (fun c zs e=>e) (fun c u zs e=>e) (fun c ps e=>⟨#[],by rw [e]; simp⟩) ns (fun c u e=>?_) I.bare
  ·have hm:c ∈ [z,TI,TO,i1,i2]:=by
    simp only [aO7,aR1,aX3] at hc' ⊢
    rcases hc' with h | h | h | h <;> simp [h]
   exact⟨(hf c hm).2.2.2.1,(hf c hm).2.1,(hf c hm).2.2.2.2.1,(hf c hm).2.2.2.2.2⟩
  ·simp only [aO7,aR1,aX3,not_or] at hc'
   exact kp c o hc'.1 hc'.2.1 hc'.2.2.1 hc'.2.2.2 e
  ·simp only [aO7,aR1,aX3,not_or] at hc'
   exact kp c o hc'.1 hc'.2.1 hc'.2.2.1 hc'.2.2.2 e
  ·simp only [aO7,aR1,aX3,not_or] at hc'
   exact kp c o hc'.1 hc'.2.1 hc'.2.2.1 hc'.2.2.2 e
  ·refine (I.hok c u e).stay (fun c' o' hc2 q'=>?_) (fun _ q'=>q') fun _ _ q'=>q'
   rcases hc2 with rfl | hc2
   ·exact upH _ _ _ e q'
   ·exact upH _ _ _ hc2 q'
noncomputable abbrev aj7:=tL true true
theorem aj8 {P:Program}{w:World}{K:PySem.W.Frag}{elts:List Expr}{k:Nat}{pos:Pos} (a b z TI TO i1 i2:Addr) (d : [z,TI,TO,i1,i2].Nodup) :
  iM P w K (.Tuple elts k pos) (tK K a b) [z,TI,TO,i1,i2] z (aj7 z TI TO i1 i2 a b):=zT true true a b z TI TO i1 i2 d
section
variable {X : Cx}
noncomputable def aj9 (K:PySem.W.Frag) (ta:TA):TI:=fun σ H R=>ta σ H fun vs H1=>∃ a b xs ys,vs = [.ref a,.ref b]/\aM K H1 a xs/\aM K H1 b ys/\R (tK K a b) H1
theorem ak0 {elts:List Expr}{kt:Nat}{pt:Pos}{a b:Expr}{ta:TA}{p pos:Pos} (hg:Gl X "zip") (hm:X.mg "zip" = none) (ha:PA X [a,b] ta) (hs:starEach [a,b] X.env = [(false,eval a X.env),(false,eval b X.env)]:=by rfl) (hs2:starEach [b] X.env = [(false,eval b X.env)]:=by rfl) :
  PI X (.Tuple elts kt pt) (.Call (.Name "zip" p) [a,b] [] pos) (aj9 X.K ta):=by
 intro pins s σ H R I h
 refine Call_ (iL I hg hm PyProof.Rows.boot_zip (aT4 (aO (ha pos pins s σ H _ I h) fun us s1 ⟨vs,H1,I1,r1,q1⟩=>?_) (by rw [hs,hs2]) (by rw [hs2]; rfl)))
 obtain ⟨a',b',xs,ys,e,h1,h2,q⟩:=q1
 subst e
 cases r1 with
 | cons r rr=>
  cases rr with
  | cons r' rr=>
   cases rr
   cases r
   cases r'
   obtain ⟨us,_,p1,_⟩:=I1.tuple h1
   obtain ⟨ws,_,p2,_⟩:=I1.tuple h2
   refine Zp.aj5 p1 p2 fun h' z ti to s1' s2' kp=>wpAny_pyIter_zip z ?_
   have fresh:∀ k,H1 (s1.heap.objs.size+k)=none:=fun k=>I1.hok.fresh (aU4 _ _)
   refine⟨s1.heap.objs.size+4,[s1.heap.objs.size+4,s1.heap.objs.size+2,s1.heap.objs.size+3,s1.heap.objs.size,s1.heap.objs.size+1],_,_,H1,rfl,I1.kept (t':=s1.toks) kp,
    aj8 a' b' _ _ _ _ _ (by simp),⟨z,ti,⟨_,_,to⟩,s1',s2'⟩,fun c hc=>?_,q⟩
   simp only [aO7,aR1,aX3] at hc
   rcases hc with rfl | rfl | rfl | rfl | rfl
   ·exact I1.fpOk (aU4 _ _) (fresh 4)
   ·exact I1.fpOk (aU4 _ _) (fresh 2)
   ·exact I1.fpOk (aU4 _ _) (fresh 3)
   ·exact I1.fpOk (aO0 _) (fresh 0)
   ·exact I1.fpOk (aU4 _ _) (fresh 1)
theorem tM (hc:X.calm=true):cK X (.builtin "all") (fun xs H Q=>∃ (a:Addr) (bs:List Bool),xs = [.ref a]/\aJ X.K H a (bs.map V.bl)/\Q (.bl (bs.all id)) H):=by
 intro pins s σ H xs us Q I r h
 obtain ⟨a,bs,rfl,hq,q⟩:=h
 obtain ⟨u,rfl,ru⟩:=gM r
 cases ru
 obtain ⟨its,rv,p,hz⟩:=I.list hq
 have hl:=rv.length
 rw [aN6] at hl
 have hlt:a < s.heap.objs.size:=by obtain ⟨o,e,_⟩:=p.isList; exact aP1 e
 refine call_all_walk (wpAny_pyIter_list p.isList ?_)
 have hh:X.A.in1.handled=none:=I.ok.hd hc
 refine⟨s.heap.objs.size,_,_,_,_,_,fun i=>bs.getD i false,rfl,Walks.list hh s.heap.objs.size a (aR2 hlt) its.toArray,⟨⟨_,aP5 _ rfl,rfl,rfl⟩,p.isList.push _⟩,?_,fun h' tk kp=>?_⟩
 ·intro i v s' Q' E' hP hQ'
  have hi:its[i]? = some v:=by simpa using hP
  have hil:i < bs.length:=by rw [hl]; exact (aN9.mp hi).1
  obtain ⟨u,e1,e2⟩:=rv.get (i:=i) (x:=.bl bs[i]) (by simp [hil])
  rw [hi] at e1; cases e1
  cases e2
  have:bs.getD i false=bs[i]:=by rw [aO3,aN5 hil]; rfl
  have hQ2:Q' (bs.getD i false) s':=hQ'
  rw [this] at hQ2
  exact aX0 hQ2
 ·have all_eq:(List.range its.toArray.size).all (fun i=>bs.getD i false)=bs.all id:=by
   rw [aN3,<- hl]
   clear q rv hz hl hq hlt p hh kp
   induction bs with
   | nil=>rfl
   | cons b r ih=>
    rw [aP8,List.range_succ_eq_map,aW9,List.all_map,aW9,<- ih]
    rfl
  rw [all_eq]
  refine⟨.bl (bs.all id),H,I.kept (t':=tk) (h':=h') fun b o e=>kp b o (fun z=>?_) (aN4 _ e),rfl,q⟩
  rw [aN7.mp z] at e
  exact absurd (aP1 e) (aS1 _)
end
structure tN (H:Hp) (J:It) (n:Nat) (R:Nat->V->Hp->Prop):Prop where
 go:∀ i H',aB H H'->i < n->J.go i H'
 yld:∀ i H' x H2,aB H H'->J.yld i H' x H2->i < n->aB H' H2/\R i x H2
 stop:∀ H',aB H H'->J.stop n H'
theorem tO {H1:Hp}{J:It}{n:Nat}{R:Nat->V->Hp->Prop}{g:TG}{tc:TT}{te:TE}{σ0:St}{Q:VK} (O:tN H1 J n R) (Pv:Nat->List V->Hp->Prop) (hn:n<=sizeLine)
  (h0:∀ D,H1 D=none->Pv 0 [] (upd H1 D (.lst [])))
  (mono:∀ i acc H' H2,aB H' H2->Pv i acc H'->Pv i acc H2)
  (hs:∀ i x acc D H',i < n->R i x H'->oX H1 D n i acc H'->Pv i acc H'->g x σ0 H' fun σ2 H3=>Wk σ0 σ2/\tc σ2 H3 fun b H4=>
   if b=true then te σ2 H4 fun v H5=>t9 H1 D n Pv i acc v H5 else z9 H1 D n Pv i acc H4)
  (hd:∀ D acc H',H1 D=none->aB H1 H'->H' D=some (.lst acc)->acc.length<=n->Pv n acc H'->Q (.ref D) H') :
  ∀ D,H1 D=none->∃ W:Nat->Nat->List V->Hp->Prop,(∃ m,W 0 m [] (upd H1 D (.lst [])))/\mO g tc te σ0 J D Q W:=by
 intro D hD
 refine⟨CW H1 D n Pv,⟨n,rfl,aS3 _,aO0 _,bK hD _,bJ,h0 D hD⟩,?_⟩
 rintro i m acc H' ⟨rfl,hi,ha,sm,hDa,p⟩
 refine⟨hDa,?_⟩
 by_cases hlt:i < n
 ·refine .inr ⟨O.go i H' sm hlt,fun x H2 y=>?_⟩
  obtain ⟨s2,r2⟩:=O.yld i H' x H2 sm y hlt
  exact hs i x acc D H2 hlt r2 ⟨hlt,ha,hn,sm.trans s2,hD,s2 _ _ hDa⟩ (mono i acc H' H2 s2 p)
 ·have e:i=n:=by lia
  subst e
  exact .inl ⟨O.stop H' sm,hd D acc H' hD sm hDa ha p⟩
theorem zU {K:PySem.W.Frag}{H:Hp}{a b:Addr}{xs ys:List V} (ha:aM K H a xs) (hb:aM K H b ys) (hl:ys.length<=xs.length) :
  tN H (tK K a b) ys.length (fun i v H2=>∃ T x y,v = .ref T/\H2 T=some (.tup [x,y])/\xs[i]? = some x/\ys[i]? = some y):=by
 refine⟨fun i H' sm hi=>⟨xs,ys,xs[i]'(by lia),ys[i],sm.tup ha,sm.tup hb,by simp,by simp⟩,fun i H' v H2 sm y hi=>?_,fun H' sm=>⟨xs,ys,sm.tup ha,sm.tup hb,by lia⟩⟩
 obtain ⟨T,x,y',hT,hv,e,hxy⟩:=y
 subst e
 obtain ⟨h1,h2⟩:=hxy xs ys (sm.tup ha) (sm.tup hb)
 exact⟨bK hT _,T,x,y',hv,bJ,h1,h2⟩
end L2
namespace HT
open PySem PyProof.Rows
section
variable {prog : Program} {w : World} {A : Around} {E : Value → Shared → Prop} {s : Shared}
theorem ak1 {t sl:Addr}{items:Array Value}{vl vu:Value}{lo hi:Option Int}{Q:Value->Shared->Prop} (ht:IsTup s.heap t items) (hs:s.heap.IsSliceOf sl vl vu .none) (pl:IsPart vl lo) (pu:IsPart vu hi)
  (h1:aV items.size 0 lo=0) (h2:aV items.size items.size hi=items.size) (h:Q (.ref t) s):wpAny (model prog w) A (getItem (.ref t) (.ref sl)) Q E s:=by
 obtain ⟨o,e1,e2,e3⟩:=id hs
 have T:s.TypeIs (.ref sl) "slice":=⟨o,e1,e2⟩
 unfold getItem
 try with_reducible refine aZ2 ?_
 first | refine aN2 (aO6 ?_) | skip
 apply aN2
 apply wpAny_sequenceKey ht.typeIs (by decide)
 apply aN2
 apply aU7 (name:=Str.ofString "__getitem__") ht.typeIs aX7
 apply aV5 aX7 ht.typeIs entry_tuple_getitem _ (args_tuple_getitem _ _)
 change wpAny _ _ (Builtin.Tuple.tupleItemsOf (.ref t) >>= _) _ _ s
 apply aN2
 apply tupleItemsOf_ ht
 apply aN2
 apply wpAny_typeOf T
 rw [if_pos (by decide)]
 apply aN2
 apply xG hs pl pu
 rw [h1,h2]
 have yes:((((0:Nat):Int) == 0 && (1:Int) == 1 && (items.size - 0) == items.size)=true):=by simp
 change wpAny _ _ (if ((((0:Nat):Int) == 0 && (1:Int) == 1 && (items.size - 0) == items.size)=true) then _ else _) _ _ s
 rw [if_pos yes]
 apply aN2
 unfold Builtin.Tuple.tupleIsExact
 apply aN2
 apply wpAny_typeOf ht.typeIs
 apply aO6
 change wpAny _ _ (rule "tuple.getitem.whole" >>= fun _=>ret (Value.ref t)) _ _ s
 apply aN2
 apply wpAny_rule
 exact aO6 ⟨_,rfl,aO6 h⟩
end
end HT
namespace L2
open PySem PySem.Spec PyProof.Rows
section
variable {X : Cx}
noncomputable def ak2 (K:PySem.W.Frag):V->Option Int->Option Int->Hp->VK->Prop:=fun x lo hi H Q=>∃ a xs,x = .ref a/\aM K H a xs/\(∀ p,H p=none->Q (.ref p) (upd H p (.tup (e7 xs lo hi))))/\(e7 xs lo hi=xs->Q (.ref a) H)
theorem zV:jJ X (ak2 X.K):=by
 intro pins s σ H x v vl vu lo hi sl Q I rx hs pl pu h
 obtain ⟨a,xs,ex,hx,q1,q2⟩:=h
 by_cases hw:HT.aV xs.length 0 lo=0/\HT.aV xs.length xs.length hi=xs.length
 ·subst ex
  cases rx
  obtain ⟨its,r,ht,hz⟩:=I.tuple hx
  have hlen:its.toArray.size=xs.length:=by rw [aN3]; exact r.length.symm
  refine⟨"tuple",_,PyProof.Rows.slot_tuple_getitem.lookup,ht.typeIs,?_⟩
  refine HT.ak1 ht hs pl pu (by rw [hlen]; exact hw.1) (by rw [hlen]; exact hw.2) ⟨.ref a,H,I,rfl,q2 ?_⟩
  unfold e7
  rw [hw.1,hw.2]
  simp
 ·exact ad2 pins s σ H x v vl vu lo hi sl Q I rx hs pl pu ⟨a,xs,ex,hx,hw,q1⟩
end
theorem tP (xs:List V):e7 xs (some 1) none=xs.drop 1:=by
 unfold e7
 have e1:HT.aV xs.length 0 (some 1)=min 1 xs.length:=HT.ac3 xs.length 0 1
 have e2:HT.aV xs.length xs.length none=xs.length:=rfl
 rw [e1,e2]
 cases xs with
 | nil=>rfl
 | cons x r=>
  have:min 1 (x :: r).length=1:=by simp
  rw [this]
  simp
noncomputable def tQ (K:PySem.W.Frag) (a b:Addr):It:=
  ⟨fun i H=>∃ xs ys x y,aJ K H a xs/\aJ K H b ys/\xs[i]? = some x/\ys[i]? = some y,
   fun i H v H'=>∃ T x y,H T=none/\v = .ref T/\H'=upd H T (.tup [x,y])/\∀ xs ys,aJ K H a xs->aJ K H b ys->xs[i]? = some x/\ys[i]? = some y,
   fun i H=>∃ xs ys,aJ K H a xs/\aJ K H b ys/\(i=xs.length ∨ (i < xs.length/\i=ys.length))⟩
noncomputable abbrev ak3:=tL false false
theorem ak4 {P:Program}{w:World}{K:PySem.W.Frag}{elts:List Expr}{k:Nat}{pos:Pos} (a b z TI TO i1 i2:Addr) (d : [z,TI,TO,i1,i2].Nodup) :
  iM P w K (.Tuple elts k pos) (tQ K a b) [z,TI,TO,i1,i2] z (ak3 z TI TO i1 i2 a b):=zT false false a b z TI TO i1 i2 d
section
variable {X : Cx}
noncomputable def ak5 (K:PySem.W.Frag) (ta:TA):TI:=fun σ H R=>ta σ H fun vs H1=>∃ a b xs ys,vs = [.ref a,.ref b]/\aJ K H1 a xs/\aJ K H1 b ys/\R (tQ K a b) H1
theorem ak6 {elts:List Expr}{kt:Nat}{pt:Pos}{a b:Expr}{ta:TA}{p pos:Pos} (hg:Gl X "zip") (hm:X.mg "zip" = none) (ha:PA X [a,b] ta) (hs:starEach [a,b] X.env = [(false,eval a X.env),(false,eval b X.env)]:=by rfl) (hs2:starEach [b] X.env = [(false,eval b X.env)]:=by rfl) :
  PI X (.Tuple elts kt pt) (.Call (.Name "zip" p) [a,b] [] pos) (ak5 X.K ta):=by
 intro pins s σ H R I h
 refine Call_ (iL I hg hm PyProof.Rows.boot_zip (aT4 (aO (ha pos pins s σ H _ I h) fun us s1 ⟨vs,H1,I1,r1,q1⟩=>?_) (by rw [hs,hs2]) (by rw [hs2]; rfl)))
 obtain ⟨a',b',xs,ys,e,h1,h2,q⟩:=q1
 subst e
 cases r1 with
 | cons r rr=>
  cases rr with
  | cons r' rr=>
   cases rr
   cases r
   cases r'
   obtain ⟨us,_,p1,_⟩:=I1.list h1
   obtain ⟨ws,_,p2,_⟩:=I1.list h2
   refine call_zip_2 p1.isList p2.isList fun h' z ti to s1' s2' _ kp=>wpAny_pyIter_zip z ?_
   have fresh:∀ k,H1 (s1.heap.objs.size+k)=none:=fun k=>I1.hok.fresh (aU4 _ _)
   refine⟨s1.heap.objs.size+4,[s1.heap.objs.size+4,s1.heap.objs.size+2,s1.heap.objs.size+3,s1.heap.objs.size,s1.heap.objs.size+1],_,_,H1,rfl,I1.kept (t':=s1.toks) kp,
    ak4 a' b' _ _ _ _ _ (by simp),⟨z,ti,⟨_,_,to⟩,s1',s2'⟩,fun c hc=>?_,q⟩
   simp only [aO7,aR1,aX3] at hc
   rcases hc with rfl | rfl | rfl | rfl | rfl
   ·exact I1.fpOk (aU4 _ _) (fresh 4)
   ·exact I1.fpOk (aU4 _ _) (fresh 2)
   ·exact I1.fpOk (aU4 _ _) (fresh 3)
   ·exact I1.fpOk (aO0 _) (fresh 0)
   ·exact I1.fpOk (aU4 _ _) (fresh 1)
end
theorem ak7 {K:PySem.W.Frag}{H:Hp}{a b:Addr}{xs ys:List V} (ha:aJ K H a xs) (hb:aJ K H b ys) (hl:ys.length<=xs.length) :
  tN H (tQ K a b) ys.length (fun i v H2=>∃ T x y,v = .ref T/\H2 T=some (.tup [x,y])/\xs[i]? = some x/\ys[i]? = some y):=by
 refine⟨fun i H' sm hi=>⟨xs,ys,xs[i]'(by lia),ys[i],sm.seq ha,sm.seq hb,by simp,by simp⟩,fun i H' v H2 sm y hi=>?_,fun H' sm=>⟨xs,ys,sm.seq ha,sm.seq hb,by lia⟩⟩
 obtain ⟨T,x,y',hT,hv,e,hxy⟩:=y
 subst e
 obtain ⟨h1,h2⟩:=hxy xs ys (sm.seq ha) (sm.seq hb)
 exact⟨bK hT _,T,x,y',hv,bJ,h1,h2⟩
theorem ak8 (l:Addr) (items:Array Value) (n:Nat) (b:Addr) (items2:Array Value) (n2:Nat) (dd:Option Addr) (ss:Array (Option Value)) (h0 : ¬(!items.isEmpty && Builtin.List.listTooLong (items.size+items2.size))=true) (h1:items.size<=sizeLine) (h2:items.size+items2.size<=sizeLine+1) :
  Meets (Builtin.«list.extend» ⟨[.ref l,.ref b],[]⟩) (fun _ R s=>s.heap.get? l=some { cls:=.type "list",dict:=none,data:=.seq items n,slots:=#[] }/\s.heap.get? b=some { cls:=.type "tuple",dict:=dd,data:=.seq items2 n2,slots:=ss }/\R (.ok (.ret Value.none)) { s with heap:=s.heap.update l (Obj.mapSeq fun x=>x ++ items2),toks:=s.toks }):=
 .of_wp fun prog w A R s h=>by
  obtain ⟨hp,g,d,tk,os⟩:=s; obtain ⟨hl,hb,h⟩:=h; have f2:=AutoSeq1.sub_tuple_tuple; have f3:=AutoSeq1.sub_list_list; have f4:=AutoSeq1.sub_tuple_list; have f5:=AutoSeq1.sub_list_tuple
  have hz':(items ++ items2).size<=sizeLine+1:=by rw [Array.size_append]; exact h2
  wp_walk using (wpAny_updateSeq hl rfl (hz:=h1) (_hz':=hz')),AutoSeq1.wpAny_loadPart' hl,AutoSeq1.wpAny_loadPart' hb
  exact⟨_,rfl,h⟩
noncomputable def zW (K:PySem.W.Frag):V->List V->Hp->VK->Prop:=fun x vs H Q=>∃ (l b:Addr) (xs zs:List V),x = .ref l/\vs = [.ref b]/\H l=some (.lst xs)/\aM K H b zs/\xs.length+zs.length<=sizeLine/\Q .non (upd H l (.lst (xs ++ zs)))
theorem ak9 {X:Cx}:l7 X "list.extend" (zW X.K):=by
 intro pins s σ H x vs v us Q I rx rv h
 obtain ⟨l,b,xs,zs,rfl,rfl,hH,hB,hz,q⟩:=h
 cases rx
 obtain ⟨u,rfl,ru⟩:=rv.one
 cases ru
 obtain ⟨z,its,n,r,hl,e⟩:=I.lstM hH
 obtain ⟨its2,r2,⟨⟨cls,dd,data,ss⟩,e2,hc,n2,hd⟩,z2⟩:=I.tuple hB
 cases hc
 cases hd
 have hl2:=r2.length
 have hsz:its.toArray.size+its2.toArray.size<=sizeLine:=by rw [aN3,aN3]; lia
 have hlong : ¬ (!its.toArray.isEmpty && Builtin.List.listTooLong (its.toArray.size+its2.toArray.size))=true:=by
  rw [sO hsz,aY3]
  exact aP2
 refine call_meets F.slot_list_extend ⟨_,e,rfl⟩ F.entry_list_extend (F.args_list_extend_2 _ _)
  (ak8 l its.toArray n b its2.toArray n2 dd ss hlong (by rw [aN3]; lia) (by lia)) ⟨e,e2,?_⟩
 refine⟨.non,_,I.lset (its':=its ++ its2) hH e (by simp) (r.append r2) ?_,rfl,q⟩
 rw [aP7]
 lia
end L2
namespace PP
open PySem L2
inductive PV where
 | non | bl (b:Bool) | int (i:Int) | str (x:Str) | tup (xs:List PV) | lst (xs:List PV)
 | dK (kvs:List (aG × PV)) | dT (kvs:List (List aG × PV)) | scr (ns:List Int) | kt (xs:List PV) | exc (c:Str) | fK (kvs:List (aG × PV)) | fT (kvs:List (List aG × PV))
mutual
noncomputable def flat:PV->Bool
 | .tup xs=>flats xs
 | .lst _=>false
 | .dK _=>false
 | .dT _=>false
 | .non=>true
 | .bl _=>true
 | .int _=>true
 | .str _=>true
 | .scr _=>true
 | .kt xs=>flats xs
 | .exc _=>true
 | .fK _=>false
 | .fT _=>false
noncomputable def flats:List PV->Bool
 | []=>true
 | x :: r=>flat x && flats r
end
noncomputable def iW (K:PySem.W.Frag) (H:Hp) (a:Addr) (ns:List Int):Prop:=(∃ o,H a=some (.frz o (.lst (ns.map V.int)))) ∨
  ∃ (o:Obj) (its:Array Value) (n:Nat),K.lookup a=some o/\o.cls = .type "list"/\o.dict=none/\o.data = .seq its n/\its.size<=sizeLine/\aK (ns.map V.int) its.toList
noncomputable def lD (K:PySem.W.Frag) (a:Addr) (us:List V):Prop:=∃ (o:Obj) (its:Array Value) (n:Nat),K.lookup a=some o/\o.cls = .type "tuple"/\o.data = .seq its n/\its.size<=sizeLine/\aK us its.toList
mutual
inductive aF (K:PySem.W.Frag) (M:Addr->Prop) (H:Hp):V->PV->Prop
 | non:aF K M H .non .non
 | bl (b:Bool):aF K M H (.bl b) (.bl b)
 | int (i:Int):aF K M H (.int i) (.int i)
 | str (x:Str):aF K M H (.str x) (.str x)
 | tup {a:Addr}{us:List V}{xs:List PV}:H a=some (.tup us)->Reps K M H us xs->aF K M H (.ref a) (.tup xs)
 | lst {a:Addr}{us:List V}{xs:List PV}:M a->H a=some (.lst us)->Reps K M H us xs->aF K M H (.ref a) (.lst xs)
 | dK {a:Addr}{kvs:List (aG × V)}{ps:List (aG × PV)}:M a->H a=some (.dK kvs)->kvs.map (·.1)=ps.map (·.1)->Reps K M H (kvs.map (·.2)) (ps.map (·.2))->aF K M H (.ref a) (.dK ps)
 | dT {a:Addr}{kvs:List (List aG × V)}{ps:List (List aG × PV)}:M a->H a=some (.dT kvs)->kvs.map (·.1)=ps.map (·.1)->Reps K M H (kvs.map (·.2)) (ps.map (·.2))->aF K M H (.ref a) (.dT ps)
 | scr {a:Addr}{ns:List Int}:iW K H a ns->aF K M H (.ref a) (.scr ns)
 | kt {a:Addr}{us:List V}{xs:List PV}:lD K a us->Reps K M H us xs->aF K M H (.ref a) (.kt xs)
 | exc {a C:Addr}{o:Obj}{c:Str}:H a=some (.frz o (.own a))->PySem.W.nsIn K mainGlobals c=some (some (.ref C))->o.cls = .ref C->aF K M H (.ref a) (.exc c)
 | fK {a:Addr}{o:Obj}{kvs:List (aG × V)}{ps:List (aG × PV)}:H a=some (.frz o (.dK kvs))->kvs.map (·.1)=ps.map (·.1)->Reps K M H (kvs.map (·.2)) (ps.map (·.2))->aF K M H (.ref a) (.fK ps)
 | fT {a:Addr}{o:Obj}{kvs:List (List aG × V)}{ps:List (List aG × PV)}:H a=some (.frz o (.dT kvs))->kvs.map (·.1)=ps.map (·.1)->Reps K M H (kvs.map (·.2)) (ps.map (·.2))->aF K M H (.ref a) (.fT ps)
inductive Reps (K:PySem.W.Frag) (M:Addr->Prop) (H:Hp):List V->List PV->Prop
 | nil:Reps K M H [] []
 | cons {v:V}{x:PV}{vs:List V}{xs:List PV}:aF K M H v x->Reps K M H vs xs->Reps K M H (v :: vs) (x :: xs)
end
structure gQ (M M':Addr->Prop) (H H':Hp):Prop where
 lst:∀ a us,M a->H a=some (.lst us)->M' a/\H' a=some (.lst us)
 dK:∀ a kvs,M a->H a=some (.dK kvs)->M' a/\H' a=some (.dK kvs)
 dT:∀ a kvs,M a->H a=some (.dT kvs)->M' a/\H' a=some (.dT kvs)
 tup:∀ a us,H a=some (.tup us)->H' a=some (.tup us)
 frz:∀ a o u,H a=some (.frz o u)->H' a=some (.frz o u)
theorem iW.keep {K:PySem.W.Frag}{H H':Hp}{a:Addr}{ns:List Int} (k:∀ a o u,H a=some (.frz o u)->H' a=some (.frz o u)) (h:iW K H a ns):iW K H' a ns:=
 h.elim (fun ⟨o,e⟩=>.inl ⟨o,k _ _ _ e⟩) .inr
mutual
theorem aF.keep {K:PySem.W.Frag}{M M':Addr->Prop}{H H':Hp} (k:gQ M M' H H'):∀ {v:V}{x:PV},aF K M H v x->aF K M' H' v x
 | _,_,.non=>.non
 | _,_,.bl b=>.bl b
 | _,_,.int i=>.int i
 | _,_,.str x=>.str x
 | _,_,.tup h r=>.tup (k.tup _ _ h) (Reps.keep k r)
 | _,_,.lst m h r=>.lst (k.lst _ _ m h).1 (k.lst _ _ m h).2 (Reps.keep k r)
 | _,_,.dK m h e r=>.dK (k.dK _ _ m h).1 (k.dK _ _ m h).2 e (Reps.keep k r)
 | _,_,.dT m h e r=>.dT (k.dT _ _ m h).1 (k.dT _ _ m h).2 e (Reps.keep k r)
 | _,_,.scr h=>.scr (h.keep k.frz)
 | _,_,.kt h r=>.kt h (Reps.keep k r)
 | _,_,.exc h e c=>.exc (k.frz _ _ _ h) e c
 | _,_,.fK h e r=>.fK (k.frz _ _ _ h) e (Reps.keep k r)
 | _,_,.fT h e r=>.fT (k.frz _ _ _ h) e (Reps.keep k r)
theorem Reps.keep {K:PySem.W.Frag}{M M':Addr->Prop}{H H':Hp} (k:gQ M M' H H'):∀ {vs:List V}{xs:List PV},Reps K M H vs xs->Reps K M' H' vs xs
 | _,_,.nil=>.nil
 | _,_,.cons r t=>.cons (aF.keep k r) (Reps.keep k t)
end
mutual
theorem aF.flat {K:PySem.W.Frag}{M M':Addr->Prop}{H:Hp}{v:V}{x:PV} (f:flat x=true) (r:aF K M H v x):aF K M' H v x:=by
 cases r with
 | non=>exact .non
 | bl b=>exact .bl b
 | int i=>exact .int i
 | str x=>exact .str x
 | tup h r=>exact .tup h (Reps.flat (by unfold PP.flat at f; exact f) r)
 | lst m h r=>unfold PP.flat at f; cases f
 | dK m h e r=>unfold PP.flat at f; cases f
 | dT m h e r=>unfold PP.flat at f; cases f
 | scr h=>exact .scr h
 | kt h r=>exact .kt h (Reps.flat (by unfold PP.flat at f; exact f) r)
 | exc h e c=>exact .exc h e c
 | fK h e r=>unfold PP.flat at f; cases f
 | fT h e r=>unfold PP.flat at f; cases f
theorem Reps.flat {K:PySem.W.Frag}{M M':Addr->Prop}{H:Hp}{vs:List V}{xs:List PV} (f:flats xs=true) (r:Reps K M H vs xs):Reps K M' H vs xs:=by
 cases r with
 | nil=>exact .nil
 | cons r t=>
  unfold PP.flats at f
  rw [aR4] at f
  exact .cons (aF.flat f.1 r) (Reps.flat f.2 t)
end
theorem gQ.same {M M':Addr->Prop}{H H':Hp} (s:aB H H') (m:∀ a,M a->M' a):gQ M M' H H':=
 ⟨fun a _ h e=>⟨m a h,s _ _ e⟩,fun a _ h e=>⟨m a h,s _ _ e⟩,fun a _ h e=>⟨m a h,s _ _ e⟩,fun _ _ e=>s _ _ e,fun _ _ _ e=>s _ _ e⟩
theorem aF.same {K:PySem.W.Frag}{M M':Addr->Prop}{H H':Hp}{v:V}{x:PV} (r:aF K M H v x) (s:aB H H') (m:∀ a,M a->M' a):aF K M' H' v x:=r.keep (.same s m)
theorem Reps.same {K:PySem.W.Frag}{M M':Addr->Prop}{H H':Hp}{v:List V}{x:List PV} (r:Reps K M H v x) (s:aB H H') (m:∀ a,M a->M' a):Reps K M' H' v x:=r.keep (.same s m)
noncomputable def iX:HO->Bool
 | .lst _=>true
 | .dK _=>true
 | .dT _=>true
 | _=>false
theorem gQ.upd {M M':Addr->Prop}{H:Hp}{a:Addr}{o o':HO} (h:H a=some o') (mu:iX o'=true) (m:∀ b,M b->b ≠ a/\M' b):gQ M M' H (upd H a o):=
 ⟨fun b _ hb e=>⟨(m b hb).2,by rw [aZ (m b hb).1]; exact e⟩,fun b _ hb e=>⟨(m b hb).2,by rw [aZ (m b hb).1]; exact e⟩,fun b _ hb e=>⟨(m b hb).2,by rw [aZ (m b hb).1]; exact e⟩,
  fun b _ e=>by rw [aZ (fun z=>by rw [z,h] at e; cases e; cases mu)]; exact e,
  fun b _ _ e=>by rw [aZ (fun z=>by rw [z,h] at e; cases e; cases mu)]; exact e⟩
theorem Reps.length {K:PySem.W.Frag}{M:Addr->Prop}{H:Hp}:∀ {vs:List V}{xs:List PV},Reps K M H vs xs->vs.length=xs.length
 | _,_,.nil=>rfl
 | _,_,.cons _ t=>congrArg (· + 1) t.length
theorem Reps.get {K:PySem.W.Frag}{M:Addr->Prop}{H:Hp}:∀ {vs:List V}{xs:List PV}{i:Nat}{v:V},Reps K M H vs xs->vs[i]? = some v->∃ x,xs[i]? = some x/\aF K M H v x
 | _,_,_,_,.nil,e=>by simp at e
 | _,_,0,_,.cons r _,e=>by simp at e; subst e; exact⟨_,rfl,r⟩
 | _,_,i+1,v,.cons _ t,e=>by
  rw [aU8] at e
  obtain ⟨x,h1,h2⟩:=t.get e
  exact⟨x,by rw [aU8]; exact h1,h2⟩
theorem Reps.at {K:PySem.W.Frag}{M:Addr->Prop}{H:Hp}:∀ {vs:List V}{xs:List PV}{i:Nat}{x:PV},Reps K M H vs xs->xs[i]? = some x->∃ v,vs[i]? = some v/\aF K M H v x
 | _,_,_,_,.nil,e=>by simp at e
 | _,_,0,_,.cons r _,e=>by simp at e; subst e; exact⟨_,rfl,r⟩
 | _,_,i+1,v,.cons _ t,e=>by
  rw [aU8] at e
  obtain ⟨x,h1,h2⟩:=t.at e
  exact⟨x,by rw [aU8]; exact h1,h2⟩
theorem Reps.append {K:PySem.W.Frag}{M:Addr->Prop}{H:Hp}:∀ {vs:List V}{xs:List PV}{us:List V}{ys:List PV},Reps K M H vs xs->Reps K M H us ys->Reps K M H (vs ++ us) (xs ++ ys)
 | _,_,_,_,.nil,s=>s
 | _,_,_,_,.cons r t,s=>.cons r (t.append s)
theorem Reps.set {K:PySem.W.Frag}{M:Addr->Prop}{H:Hp}{v:V}{x:PV} (q:aF K M H v x):∀ (i:Nat) {vs:List V}{xs:List PV},Reps K M H vs xs->Reps K M H (vs.set i v) (xs.set i x)
 | _,_,_,.nil=>.nil
 | 0,_,_,.cons r t=>.cons q t
 | i+1,_,_,.cons r t=>.cons r (Reps.set q i t)
theorem Reps.take {K:PySem.W.Frag}{M:Addr->Prop}{H:Hp}:∀ (n:Nat) {vs:List V}{xs:List PV},Reps K M H vs xs->Reps K M H (vs.take n) (xs.take n)
 | 0,_,_,_=>by simp; exact .nil
 | _+1,_,_,.nil=>.nil
 | n+1,_,_,.cons r t=>.cons r (Reps.take n t)
theorem Reps.drop {K:PySem.W.Frag}{M:Addr->Prop}{H:Hp}:∀ (n:Nat) {vs:List V}{xs:List PV},Reps K M H vs xs->Reps K M H (vs.drop n) (xs.drop n)
 | 0,_,_,r=>r
 | _+1,_,_,.nil=>.nil
 | n+1,_,_,.cons _ t=>Reps.drop n t
noncomputable abbrev intz (ns:List Int):List PV:=ns.map PV.int
theorem Reps.intz {K:PySem.W.Frag}{M:Addr->Prop}{H:Hp}:∀ (ns:List Int),Reps K M H (ns.map V.int) (intz ns)
 | []=>.nil
 | n :: r=>.cons (.int n) (Reps.intz r)
theorem Reps.ofInts {K:PySem.W.Frag}{M:Addr->Prop}{H:Hp}:∀ {ns:List Int}{us:List V},Reps K M H us (PP.intz ns)->us=ns.map V.int
 | [],_,.nil=>rfl
 | n :: r,_,.cons q t=>by
  cases q
  rw [Reps.ofInts t]; rfl
theorem dW:∀ (ns:List Int),flats (intz ns)=true
 | []=>rfl
 | n :: r=>by show (flat (.int n) && flats (intz r))=true; rw [dW r]; rfl
inductive Tg | rd | sh | nw | fr
inductive Slot | sh (g:Bool) (x:PV) | own (x:PV)
noncomputable def Slot.val:Slot->PV
 | .sh _ x=>x
 | .own x=>x
noncomputable def Slot.tag:Slot->Tg
 | .sh true _=>.nw
 | .sh false _=>.sh
 | .own _=>.rd
noncomputable abbrev bG:=List (Option Slot)
noncomputable def Ms (H0:Hp) (W:Addr->Prop):Bool->Addr->Prop
 | false,a=>¬ W a
 | true,a=>¬ W a/\H0 a=none
noncomputable def Mg (H0:Hp) (W:Addr->Prop) (Hs:Hp):Tg->Addr->Prop
 | .rd,_=>True
 | .sh,a=>¬ W a
 | .nw,a=>¬ W a/\H0 a=none
 | .fr,a=>Hs a=none
noncomputable def gR (K:PySem.W.Frag) (M:Addr->Prop) (H:Hp) (a:Addr):PV->Prop
 | .lst xs=>∃ us,H a=some (.lst us)/\Reps K M H us xs
 | .dK ps=>∃ kvs,H a=some (.dK kvs)/\kvs.map (·.1)=ps.map (·.1)/\Reps K M H (kvs.map (·.2)) (ps.map (·.2))
 | .dT ps=>∃ kvs,H a=some (.dT kvs)/\kvs.map (·.1)=ps.map (·.1)/\Reps K M H (kvs.map (·.2)) (ps.map (·.2))
 | _=>False
noncomputable def zX (K:PySem.W.Frag) (H0:Hp) (W:Addr->Prop) (H:Hp) (v:V):Slot->Prop
 | .sh g x=>aF K (Ms H0 W g) H v x
 | .own x=>∃ a,v = .ref a/\W a/\gR K (Ms H0 W true) H a x
structure PX (K:PySem.W.Frag) (H0:Hp) (W:Addr->Prop) (σ:St) (ρ:bG) (H:Hp):Prop where
 len:ρ.length=σ.length
 same:aB H0 H
 wm:∀ a,W a->H0 a=none/\∃ o,H a=some o/\iX o=true
 sl:∀ (i:Nat) (m:Slot),ρ[i]? = some (some m)->∃ v,σ[i]? = some (some v)/\zX K H0 W H v m
 dis:∀ (i j:Nat) (x y:PV) (a:Addr),ρ[i]? = some (some (.own x))->ρ[j]? = some (some (.own y))->σ[i]? = some (some (.ref a))->σ[j]? = some (some (.ref a))->i=j
theorem gR.keep {K:PySem.W.Frag}{M M':Addr->Prop}{H H':Hp}{a:Addr} (k:gQ M M' H H') (ha:∀ o,H a=some o->H' a=some o):∀ {x:PV},gR K M H a x->gR K M' H' a x
 | .lst _,⟨us,e,r⟩=>⟨us,ha _ e,r.keep k⟩
 | .dK _,⟨us,e,q,r⟩=>⟨us,ha _ e,q,r.keep k⟩
 | .dT _,⟨us,e,q,r⟩=>⟨us,ha _ e,q,r.keep k⟩
theorem gR.at {K:PySem.W.Frag}{M:Addr->Prop}{H:Hp}{a:Addr}:∀ {x:PV},gR K M H a x->∃ o,H a=some o/\iX o=true
 | .lst _,⟨us,e,r⟩=>⟨_,e,rfl⟩
 | .dK _,⟨us,e,q,r⟩=>⟨_,e,rfl⟩
 | .dT _,⟨us,e,q,r⟩=>⟨_,e,rfl⟩
theorem gR.rep {K:PySem.W.Frag}{M M':Addr->Prop}{H:Hp}{a:Addr} (m:∀ b,M b->M' b) (ha:M' a):∀ {x:PV},gR K M H a x->aF K M' H (.ref a) x
 | .lst _,⟨us,e,r⟩=>.lst ha e (r.same (aB.refl _) m)
 | .dK _,⟨us,e,q,r⟩=>.dK ha e q (r.same (aB.refl _) m)
 | .dT _,⟨us,e,q,r⟩=>.dT ha e q (r.same (aB.refl _) m)
section
variable {K : PySem.W.Frag} {H0 : Hp} {W W' : Addr → Prop} {σ : St} {ρ : bG} {H H' : Hp}
theorem PX.mono (p:PX K H0 W σ ρ H) (s:aB H H'):PX K H0 W σ ρ H':=by
 refine⟨p.len,p.same.trans s,fun a h=>⟨(p.wm a h).1,let ⟨o,e,m⟩:=(p.wm a h).2; ⟨o,s _ _ e,m⟩⟩,fun i m h=>?_,p.dis⟩
 obtain ⟨v,e,r⟩:=p.sl i m h
 refine⟨v,e,?_⟩
 cases m with
 | sh g x=>exact aF.same r s fun _ z=>z
 | own x=>
  obtain ⟨a,e1,e2,r⟩:=r
  exact⟨a,e1,e2,r.keep (.same s fun _ z=>z) fun _ z=>s _ _ z⟩
theorem PX.new (p:PX K H0 W σ ρ H) {a:Addr} (h:H a=none) : ¬ W a/\H0 a=none:=
 ⟨fun z=>(by obtain ⟨_,o,e,_⟩:=p.wm a z; rw [h] at e; cases e),p.same.free h⟩
theorem Mg.back {g:Tg}{H1:Hp} (s:aB H H1) {a:Addr} (h:Mg H0 W H1 g a):Mg H0 W H g a:=by
 cases g with
 | fr=>exact s.free h
 | rd=>exact h
 | sh=>exact h
 | nw=>exact h
end
noncomputable abbrev PK:=PV->Tg->Prop
noncomputable abbrev aH:=bG->PK->Prop
noncomputable abbrev c9:=bG->(Bool->Prop)->Prop
noncomputable abbrev cT:=bG->(List (PV × Tg)->Prop)->Prop
inductive gH (K:PySem.W.Frag) (H0:Hp) (W:Addr->Prop) (Hs H:Hp):List V->List (PV × Tg)->Prop
 | nil:gH K H0 W Hs H [] []
 | cons {v:V}{x:PV}{g:Tg}{vs:List V}{xs:List (PV × Tg)}:aF K (Mg H0 W Hs g) H v x->gH K H0 W Hs H vs xs->gH K H0 W Hs H (v :: vs) ((x,g) :: xs)
noncomputable def p9 (K:PySem.W.Frag) (H0:Hp) (W:Addr->Prop) (H:Hp) (Q:PK) (Q':VK):Prop:=∀ v H' x g,aB H H'->aF K (Mg H0 W H g) H' v x->Q x g->Q' v H'
noncomputable def LE (X:Cx) (t:aH):TE:=fun σ H Q'=>∃ (W:Addr->Prop) (ρ:bG) (Q:PK),PX X.K X.H₀ W σ ρ H/\t ρ Q/\p9 X.K X.H₀ W H Q Q'
noncomputable def LT (X:Cx) (t:c9):TT:=fun σ H Q'=>∃ (W:Addr->Prop) (ρ:bG) (Q:Bool->Prop),PX X.K X.H₀ W σ ρ H/\t ρ Q/\∀ b H',aB H H'->Q b->Q' b H'
noncomputable def LA (X:Cx) (t:cT):TA:=fun σ H Q'=>∃ (W:Addr->Prop) (ρ:bG) (Q:List (PV × Tg)->Prop),PX X.K X.H₀ W σ ρ H/\t ρ Q/\∀ vs H' xs,aB H H'->gH X.K X.H₀ W H H' vs xs->Q xs->Q' vs H'
theorem gH.same {K:PySem.W.Frag}{H0:Hp}{W:Addr->Prop}{Hs Hs' H H':Hp} (s:aB H H') (b:aB Hs' Hs):∀ {vs:List V}{xs:List (PV × Tg)},gH K H0 W Hs H vs xs->gH K H0 W Hs' H' vs xs
 | _,_,.nil=>.nil
 | _,_,.cons r t=>.cons (r.same s fun _ z=>Mg.back b z) (t.same s b)
theorem gH.any {K:PySem.W.Frag}{H0:Hp}{W:Addr->Prop}{Hs H:Hp}:∀ {vs:List V}{xs:List (PV × Tg)},gH K H0 W Hs H vs xs->Reps K (fun _=>True) H vs (xs.map (·.1))
 | _,_,.nil=>.nil
 | _,_,.cons r t=>.cons (r.same (aB.refl _) fun _ _=>trivial) t.any
noncomputable def Nw:Tg->PV->Prop
 | .fr,_=>True
 | .nw,_=>True
 | _,x=>flat x=true
noncomputable def lE (xs:List (PV × Tg)):Prop:=∀ p ∈ xs,Nw p.2 p.1
section
variable {K : PySem.W.Frag} {H0 Hs H : Hp} {W : Addr → Prop} {σ : St} {ρ : bG}
theorem Nw.rep {g:Tg}{x:PV}{v:V} (px:PX K H0 W σ ρ Hs) (n:Nw g x) (r:aF K (Mg H0 W Hs g) H v x):aF K (Ms H0 W true) H v x:=by
 cases g with
 | fr=>exact r.same (aB.refl _) fun a z=>px.new z
 | nw=>exact r.same (aB.refl _) fun a z=>z
 | sh=>exact r.flat n
 | rd=>exact r.flat n
theorem lE.reps {vs:List V}:∀ {xs:List (PV × Tg)}{vs:List V},PX K H0 W σ ρ Hs->lE xs->gH K H0 W Hs H vs xs->Reps K (Ms H0 W true) H vs (xs.map (·.1))
 | _,_,px,n,.nil=>.nil
 | _,_,px,n,.cons r t=>.cons (Nw.rep px (n _ aO1) r) (lE.reps (vs:=vs) px (fun p hp=>n p (aO8 _ hp)) t)
theorem zY {v:V}{m:Slot} (r:zX K H0 W H v m):aF K (Mg H0 W Hs m.tag) H v m.val:=by
 cases m with
 | sh g x=>
  cases g with
  | true=>exact aF.same r (aB.refl _) fun _ z=>z
  | false=>exact aF.same r (aB.refl _) fun _ z=>z
 | own x=>
  obtain ⟨a,rfl,_,r⟩:=r
  exact r.rep (fun _ _=>trivial) trivial
end
section
variable {X : Cx} {σ : St} {H : Hp} {Q' : VK} {ta tb : aH}
noncomputable def a5 (i:Nat):aH:=fun ρ Q=>∃ m,ρ[i]? = some (some m)/\Q m.val m.tag
noncomputable def qC (x:PV):aH:=fun _ Q=>Q x .fr
theorem al0 {i:Nat} (h:LE X (a5 i) σ H Q'):i4 i σ H Q':=by
 obtain ⟨W,ρ,Q,px,⟨m,e,q⟩,k⟩:=h
 obtain ⟨v,ev,r⟩:=px.sl i m e
 exact⟨v,ev,k v H _ _ (aB.refl _) (zY r) q⟩
theorem pA {x:PV}{v:V} (hr:∀ M,aF X.K M H v x) (h:LE X (qC x) σ H Q'):tC v σ H Q':=by
 obtain ⟨W,ρ,Q,px,q,k⟩:=h
 exact k v H _ _ (aB.refl _) (hr _) q
noncomputable def eV (X:Cx) (R:PV->Tg->PV->Tg->PK->Prop) (r:R2):Prop:=∀ (W:Addr->Prop) (Hs H:Hp) (u v:V) (x y:PV) (g g':Tg) (Q:PK) (Q':VK),aB Hs H->
 (∀ a,Hs a=none->¬ W a/\X.H₀ a=none)->aF X.K (Mg X.H₀ W Hs g) H u x->aF X.K (Mg X.H₀ W Hs g') H v y->R x g y g' Q->(∀ w H' z gz,aB H H'->aF X.K (Mg X.H₀ W Hs gz) H' w z->Q z gz->Q' w H')->r u v H Q'
noncomputable def q2 (R:PV->Tg->PV->Tg->PK->Prop) (ta tb:aH):aH:=fun ρ Q=>ta ρ fun x g=>tb ρ fun y g'=>R x g y g' Q
theorem pB {R:PV->Tg->PV->Tg->PK->Prop}{r:R2} (c:eV X R r) (h:LE X (q2 R ta tb) σ H Q'):mB r (LE X ta) (LE X tb) σ H Q':=by
 obtain ⟨W,ρ,Q,px,q,k⟩:=h
 refine⟨W,ρ,_,px,q,fun u H1 x g s1 r1 q1=>⟨W,ρ,_,px.mono s1,q1,fun v H2 y g' s2 r2 q2=>?_⟩⟩
 exact c W H H2 u v x y g g' Q Q' (s1.trans s2) (fun a z=>px.new z) (r1.same s2 fun _ z=>z) (r2.same (aB.refl _) fun _ z=>Mg.back s1 z) q2 fun w H' z gz s3 r3 q3=>k w H' z gz ((s1.trans s2).trans s3) r3 q3
noncomputable def RI (C:Int->Int->Prop) (f:Int->Int->PV):PV->Tg->PV->Tg->PK->Prop:=fun x _ y _ Q=>∃ i j,x = .int i/\y = .int j/\C i j/\Q (f i j) .fr
noncomputable def eG (f:Int->Int->PV):PV->Tg->PV->Tg->PK->Prop:=fun x _ y _ Q=>∃ i j,x = .int i/\y = .int j/\Q (f i j) .fr
theorem pC {C:Int->Int->Prop}{f:Int->Int->Int}:eV X (RI C fun i j=>.int (f i j)) (rI C fun i j=>.int (f i j)):=by
 rintro W Hs H u v x y g g' Q Q' s n r1 r2 ⟨i,j,rfl,rfl,c,q⟩ k
 cases r1; cases r2
 exact⟨i,j,rfl,rfl,c,k _ _ _ _ (aB.refl _) (.int _) q⟩
theorem zZ {f:Int->Int->Int}:eV X (eG fun i j=>.int (f i j)) (i5 fun i j=>.int (f i j)):=by
 rintro W Hs H u v x y g g' Q Q' s n r1 r2 ⟨i,j,rfl,rfl,q⟩ k
 cases r1; cases r2
 exact⟨i,j,rfl,rfl,k _ _ _ _ (aB.refl _) (.int _) q⟩
theorem lF {f:Int->Int->Bool}:eV X (eG fun i j=>.bl (f i j)) (i5 fun i j=>.bl (f i j)):=by
 rintro W Hs H u v x y g g' Q Q' s n r1 r2 ⟨i,j,rfl,rfl,q⟩ k
 cases r1; cases r2
 exact⟨i,j,rfl,rfl,k _ _ _ _ (aB.refl _) (.bl _) q⟩
noncomputable def kE (neg:Bool):PV->Tg->PV->Tg->PK->Prop:=fun x _ y _ Q=>(∃ i j,x = .int i/\y = .int j/\Q (.bl (if neg=true then !decide (i=j) else decide (i=j))) .fr) ∨ (∃ i j,x = .bl i/\y = .bl j/\Q (.bl (if neg=true then !decide (i=j) else decide (i=j))) .fr)
theorem A0 (i j:Int):decide (V.int i=V.int j)=decide (i=j):=by
 rw [aV2,aX4,aX4]; exact⟨fun z=>V.int.inj z,fun z=>congrArg V.int z⟩
theorem A1 (i j:Bool):decide (V.bl i=V.bl j)=decide (i=j):=by
 rw [aV2,aX4,aX4]; exact⟨fun z=>V.bl.inj z,fun z=>congrArg V.bl z⟩
theorem A2:eV X (kE false) rV:=by
 rintro W Hs H u v x y g g' Q Q' s n r1 r2 (⟨i,j,rfl,rfl,q⟩ | ⟨i,j,rfl,rfl,q⟩) k
 ·cases r1; cases r2
  exact⟨rfl,by rw [A0]; exact k _ _ _ _ (aB.refl _) (.bl _) q⟩
 ·cases r1; cases r2
  exact⟨rfl,by rw [A1]; exact k _ _ _ _ (aB.refl _) (.bl _) q⟩
theorem al1:eV X (kE true) rW:=by
 rintro W Hs H u v x y g g' Q Q' s n r1 r2 (⟨i,j,rfl,rfl,q⟩ | ⟨i,j,rfl,rfl,q⟩) k
 ·cases r1; cases r2
  exact⟨rfl,by rw [A0]; exact k _ _ _ _ (aB.refl _) (.bl _) q⟩
 ·cases r1; cases r2
  exact⟨rfl,by rw [A1]; exact k _ _ _ _ (aB.refl _) (.bl _) q⟩
noncomputable def bA (t:aH):c9:=fun ρ Q=>t ρ fun x _=>∃ b,x = .bl b/\Q b
theorem pD {t:aH}{Q':Bool->Hp->Prop} (h:LT X (bA t) σ H Q'):LE X t σ H fun x H'=>∃ k,x = .bl k/\Q' k H':=by
 obtain ⟨W,ρ,Q,px,q,k⟩:=h
 refine⟨W,ρ,_,px,q,?_⟩
 rintro v H1 x g s r ⟨b,rfl,q⟩
 cases r
 exact⟨b,rfl,k _ _ s q⟩
noncomputable def tR (t u:c9):c9:=fun ρ Q=>t ρ fun c=>if c=true then u ρ Q else Q false
noncomputable def kF (t u:c9):c9:=fun ρ Q=>t ρ fun c=>if c=true then Q true else u ρ Q
noncomputable def jN (t:c9):c9:=fun ρ Q=>t ρ fun c=>Q (!c)
variable {t u : c9} {Qb : Bool → Hp → Prop}
theorem al2 (h:LT X (tR t u) σ H Qb):wB (LT X t) (LT X u) σ H Qb:=by
 obtain ⟨W,ρ,Q,px,q,k⟩:=h
 refine⟨W,ρ,_,px,q,fun b H1 s1 q1=>?_⟩
 cases b with
 | true=>exact bW ⟨W,ρ,Q,px.mono s1,by simpa using q1,fun b H2 s2 q2=>k _ _ (s1.trans s2) q2⟩
 | false=>exact bC (k _ _ s1 (by simpa using q1))
theorem al3 (h:LT X (kF t u) σ H Qb):wC (LT X t) (LT X u) σ H Qb:=by
 obtain ⟨W,ρ,Q,px,q,k⟩:=h
 refine⟨W,ρ,_,px,q,fun b H1 s1 q1=>?_⟩
 cases b with
 | false=>exact bC ⟨W,ρ,Q,px.mono s1,by simpa using q1,fun b H2 s2 q2=>k _ _ (s1.trans s2) q2⟩
 | true=>exact bW (k _ _ s1 (by simpa using q1))
theorem al4 (h:LT X (jN t) σ H Qb):wD (LT X t) σ H Qb:=by
 obtain ⟨W,ρ,Q,px,q,k⟩:=h
 exact⟨W,ρ,_,px,q,fun b H1 s1 q1=>k _ _ s1 q1⟩
noncomputable def mU (ta tb:aH):aH:=fun ρ Q=>ta ρ fun x _=>∃ c,x = .bl c/\if c=true then tb ρ Q else Q (.bl false) .fr
noncomputable def tS (ta:aH):aH:=fun ρ Q=>ta ρ fun x _=>∃ c,x = .bl c/\Q (.bl (!c)) .fr
theorem p9.back {K:PySem.W.Frag}{H0:Hp}{W:Addr->Prop}{H H1:Hp}{Q:PK} (k:p9 K H0 W H Q Q') (s:aB H H1):p9 K H0 W H1 Q Q':=fun v H' x g s' r q=>k v H' x g (s.trans s') (r.same (aB.refl _) fun _ z=>Mg.back s z) q
theorem al5 (h:LE X (mU ta tb) σ H Q'):wE (LE X ta) (LE X tb) σ H Q':=by
 obtain ⟨W,ρ,Q,px,q,k⟩:=h
 refine⟨W,ρ,_,px,q,?_⟩
 rintro v H1 x g s1 r ⟨c,rfl,q⟩
 cases r
 refine⟨c,rfl,?_⟩
 cases c with
 | true=>exact bW ⟨W,ρ,Q,px.mono s1,by simpa using q,k.back s1⟩
 | false=>exact bC (k _ _ _ _ s1 (.bl _) (by simpa using q))
theorem al6 (h:LE X (tS ta) σ H Q'):wF (LE X ta) σ H Q':=by
 obtain ⟨W,ρ,Q,px,q,k⟩:=h
 refine⟨W,ρ,_,px,q,?_⟩
 rintro v H1 x g s1 r ⟨c,rfl,q⟩
 cases r
 exact⟨c,rfl,k _ _ _ _ s1 (.bl _) q⟩
noncomputable def a9:cT:=fun _ Q=>Q []
noncomputable def a7 (te:aH) (tr:cT):cT:=fun ρ Q=>te ρ fun x g=>tr ρ fun xs=>Q ((x,g) :: xs)
variable {Qa : List V → Hp → Prop} {tr : cT}
theorem al7 (h:LA X a9 σ H Qa):jI σ H Qa:=by
 obtain ⟨W,ρ,Q,px,q,k⟩:=h
 exact k _ _ _ (aB.refl _) .nil q
theorem al8 (h:LA X (a7 ta tr) σ H Qa):i6 (LE X ta) (LA X tr) σ H Qa:=by
 obtain ⟨W,ρ,Q,px,q,k⟩:=h
 refine⟨W,ρ,_,px,q,fun v H1 x g s1 r1 q1=>⟨W,ρ,_,px.mono s1,q1,fun vs H2 xs s2 r2 q2=>?_⟩⟩
 exact k _ _ _ (s1.trans s2) (.cons (r1.same s2 fun _ z=>z) (r2.same (aB.refl _) s1)) q2
noncomputable def tT (t:cT):aH:=fun ρ Q=>t ρ fun xs=>xs.length<=1000/\lE xs/\Q (.tup (xs.map (·.1))) .nw
noncomputable def i8 (t:cT):aH:=fun ρ Q=>t ρ fun xs=>xs.length<=1000/\flats (xs.map (·.1))=true/\Q (.tup (xs.map (·.1))) .fr
noncomputable def eI (t:cT):aH:=fun ρ Q=>t ρ fun xs=>xs.length<=1000/\flats (xs.map (·.1))=true/\Q (.lst (xs.map (·.1))) .fr
theorem gH.length {K:PySem.W.Frag}{H0:Hp}{W:Addr->Prop}{Hs H:Hp}:∀ {vs:List V}{xs:List (PV × Tg)},gH K H0 W Hs H vs xs->vs.length=xs.length
 | _,_,.nil=>rfl
 | _,_,.cons _ t=>congrArg (· + 1) t.length
theorem pE {n:Nat} (h:n<=1000):n<=sizeLine:=aT1 (mL h)
theorem al9 (h:LE X (tT tr) σ H Q'):sC (LA X tr) σ H Q':=by
 obtain ⟨W,ρ,Q,px,q,k⟩:=h
 refine⟨W,ρ,_,px,q,?_⟩
 rintro vs H1 xs s1 r ⟨hl,n,q⟩
 refine⟨by rw [r.length]; exact pE hl,fun p hp=>k _ _ _ .nw (s1.trans (bK hp _)) (.tup bJ ?_) q⟩
 exact (lE.reps (vs:=vs) px n r).same (bK hp _) fun _ z=>z
theorem am0 (h:LE X (i8 tr) σ H Q'):sC (LA X tr) σ H Q':=by
 obtain ⟨W,ρ,Q,px,q,k⟩:=h
 refine⟨W,ρ,_,px,q,?_⟩
 rintro vs H1 xs s1 r ⟨hl,n,q⟩
 refine⟨by rw [r.length]; exact pE hl,fun p hp=>k _ _ _ .fr (s1.trans (bK hp _)) (.tup bJ ?_) q⟩
 exact (r.any.flat n).same (bK hp _) fun _ z=>z
theorem am1 (h:LE X (eI tr) σ H Q'):x4 (LA X tr) σ H Q':=by
 obtain ⟨W,ρ,Q,px,q,k⟩:=h
 refine⟨W,ρ,_,px,q,?_⟩
 rintro vs H1 xs s1 r ⟨hl,n,q⟩
 refine⟨by rw [r.length]; exact pE hl,fun p hp=>k _ _ _ .fr (s1.trans (bK hp _)) (.lst (s1.free hp) bJ ?_) q⟩
 exact (r.any.flat n).same (bK hp _) fun _ z=>z
noncomputable def fN (X:Cx) (R:List PV->(PV->Prop)->Prop) (r:List V->Hp->VK->Prop):Prop:=∀ (H:Hp) (vs:List V) (xs:List PV) (Q:PV->Prop) (Q':VK),Reps X.K (fun _=>True) H vs xs->R xs Q->
 (∀ w H' z,aB H H'->aF X.K (fun a=>H a=none) H' w z->Q z->Q' w H')->r vs H Q'
noncomputable def aC (R:List PV->(PV->Prop)->Prop) (t:cT):aH:=fun ρ Q=>t ρ fun xs=>R (xs.map (·.1)) fun z=>Q z .fr
theorem A3 {R:List PV->(PV->Prop)->Prop}{r:List V->Hp->VK->Prop} (c:fN X R r) (h:LE X (aC R tr) σ H Q'):sG r (LA X tr) σ H Q':=by
 obtain ⟨W,ρ,Q,px,q,k⟩:=h
 refine⟨W,ρ,_,px,q,fun vs H1 xs s1 r1 q1=>c H1 vs _ _ Q' r1.any q1 fun w H' z s2 r2 q2=>k w H' z .fr (s1.trans s2) (r2.same (aB.refl _) fun _ z=>s1.free z) q2⟩
end
structure gS where
 nx:bG->Prop
 rt:PV->Prop
 bk:bG->Prop:=fun _=>False
 ct:bG->Prop:=fun _=>False
noncomputable abbrev aQ:=gS->bG->Prop
noncomputable def Ev (W:Addr->Prop) (H:Hp) (W':Addr->Prop) (H':Hp):Prop:=∀ b o,H b=some o->¬ W b->H' b=some o/\¬ W' b
theorem Ev.trans {W W1 W2:Addr->Prop}{H H1 H2:Hp} (a:Ev W H W1 H1) (b:Ev W1 H1 W2 H2):Ev W H W2 H2:=fun c o h n=>let ⟨h1,n1⟩:=a c o h n; b c o h1 n1
theorem Ev.same {W:Addr->Prop}{H H':Hp} (s:aB H H'):Ev W H W H':=fun c o h n=>⟨s _ _ h,n⟩
theorem Ev.refl (W:Addr->Prop) (H:Hp):Ev W H W H:=Ev.same (aB.refl _)
structure pF (X:Cx) (W:Addr->Prop) (H:Hp) (D':gS) (D:dZ):Prop where
 nx:∀ W' σ' H' ρ',Ev W H W' H'->PX X.K X.H₀ W' σ' ρ' H'->D'.nx ρ'->D.nx σ' H'
 rt:∀ v H' x,aB X.H₀ H'->aF X.K (fun a=>X.H₀ a=none) H' v x->D'.rt x->D.rt v H'
 bk:∀ W' σ' H' ρ',Ev W H W' H'->PX X.K X.H₀ W' σ' ρ' H'->D'.bk ρ'->D.bk σ' H'
 ct:∀ W' σ' H' ρ',Ev W H W' H'->PX X.K X.H₀ W' σ' ρ' H'->D'.ct ρ'->D.ct σ' H'
theorem pF.step {X:Cx}{W W1:Addr->Prop}{H H1:Hp}{D':gS}{D:dZ} (k:pF X W H D' D) (e:Ev W H W1 H1):pF X W1 H1 D' D:=
 ⟨fun W' σ' H' ρ' e'=>k.nx W' σ' H' ρ' (e.trans e'),k.rt,fun W' σ' H' ρ' e'=>k.bk W' σ' H' ρ' (e.trans e'),fun W' σ' H' ρ' e'=>k.ct W' σ' H' ρ' (e.trans e')⟩
noncomputable def LS (X:Cx) (t:aQ):TS:=fun D σ H=>∃ (W:Addr->Prop) (ρ:bG) (D':gS),PX X.K X.H₀ W σ ρ H/\t D' ρ/\pF X W H D' D
theorem fX {α:Type}{l:List α}{i j:Nat}{a b:α} (h:(l.set i a)[j]? = some b):(j=i/\i < l.length/\b=a) ∨ (j ≠ i/\l[j]? = some b):=by
 by_cases e:j=i
 ·subst e
  have hl:j < (l.set j a).length:=(aN9.mp h).1
  rw [aR7] at hl
  rw [aT2 hl] at h
  exact .inl ⟨rfl,hl,(aQ5 h).symm⟩
 ·rw [aR0 (Ne.symm e)] at h
  exact .inr ⟨e,h⟩
section
variable {K : PySem.W.Frag} {H0 : Hp} {W W' : Addr → Prop} {σ : St} {ρ : bG} {H H' Hs : Hp}
theorem PX.setSh {i:Nat}{v:V}{g:Bool}{x:PV} (p:PX K H0 W σ ρ H) (r:aF K (Ms H0 W g) H v x):PX K H0 W (σ.set i (some v)) (ρ.set i (some (.sh g x))) H:=by
 refine⟨by rw [aR7,aR7]; exact p.len,p.same,p.wm,fun j m h=>?_,fun j k y z a h1 h2 h3 h4=>?_⟩
 ·rcases fX h with ⟨rfl,hl,e⟩ | ⟨hne,h⟩
  ·cases e
   rw [p.len] at hl
   exact⟨v,aT2 hl,r⟩
  ·obtain ⟨u,e,q⟩:=p.sl j m h
   exact⟨u,by rw [aR0 (Ne.symm hne)]; exact e,q⟩
 ·rcases fX h1 with ⟨_,_,e⟩ | ⟨n1,h1⟩
  ·cases e
  ·rcases fX h2 with ⟨_,_,e⟩ | ⟨n2,h2⟩
   ·cases e
   ·rw [aR0 (Ne.symm n1)] at h3
    rw [aR0 (Ne.symm n2)] at h4
    exact p.dis j k y z a h1 h2 h3 h4
noncomputable def lG (W:Addr->Prop) (a:Addr):Addr->Prop:=fun b=>W b ∨ b=a
theorem tU {g:Bool}{a b:Addr} (n:b ≠ a) (h:Ms H0 W g b):Ms H0 (lG W a) g b:=by
 cases g with
 | true=>exact⟨fun z=>z.elim h.1 n,h.2⟩
 | false=>exact fun z=>z.elim h n
theorem PX.setOwn {i:Nat}{a:Addr}{x:PV} (p:PX K H0 W σ ρ Hs) (s:aB Hs H) (ha:Hs a=none) (r:gR K (Ms H0 (lG W a) true) H a x):PX K H0 (lG W a) (σ.set i (some (.ref a))) (ρ.set i (some (.own x))) H:=by
 have old:∀ b o,Hs b=some o->b ≠ a:=fun b o e z=>by rw [z,ha] at e; cases e
 have kp:∀ g,gQ (Ms H0 W g) (Ms H0 (lG W a) g) Hs H:=fun g=>⟨fun b _ m e=>⟨tU (old _ _ e) m,s _ _ e⟩,fun b _ m e=>⟨tU (old _ _ e) m,s _ _ e⟩,fun b _ m e=>⟨tU (old _ _ e) m,s _ _ e⟩,fun _ _ e=>s _ _ e,fun _ _ _ e=>s _ _ e⟩
 have wa : ¬ W a:=(p.new ha).1
 refine⟨by rw [aR7,aR7]; exact p.len,p.same.trans s,fun b z=>?_,fun j m h=>?_,fun j k y z b h1 h2 h3 h4=>?_⟩
 ·rcases z with z | rfl
  ·obtain ⟨h1,o,h2,h3⟩:=p.wm b z
   exact⟨h1,o,s _ _ h2,h3⟩
  ·exact⟨(p.new ha).2,r.at⟩
 ·rcases fX h with ⟨rfl,hl,e⟩ | ⟨hne,h⟩
  ·cases e
   rw [p.len] at hl
   exact⟨_,aT2 hl,a,rfl,.inr rfl,r⟩
  ·obtain ⟨u,e,q⟩:=p.sl j m h
   refine⟨u,by rw [aR0 (Ne.symm hne)]; exact e,?_⟩
   cases m with
   | sh g y=>exact aF.keep (kp g) q
   | own y=>
    obtain ⟨b,e1,e2,q⟩:=q
    exact⟨b,e1,.inl e2,q.keep (kp true) fun o z=>s _ _ z⟩
 ·have ne:∀ {j:Nat}{y:PV},ρ[j]? = some (some (.own y))->σ[j]? ≠ some (some (.ref a)):=fun {j y} h1 h2=>by
   obtain ⟨u,e,c,e1,e2,_⟩:=p.sl j _ h1
   rw [h2] at e
   cases e
   cases e1
   exact wa e2
  rcases fX h1 with ⟨e1,l1,_⟩ | ⟨n1,h1⟩
  ·rcases fX h2 with ⟨e2,_,_⟩ | ⟨n2,h2⟩
   ·rw [e1,e2]
   ·rw [e1,aT2 (by rw [<- p.len]; exact l1)] at h3
    rw [aR0 (Ne.symm n2)] at h4
    cases h3
    exact absurd h4 (ne h2)
  ·rw [aR0 (Ne.symm n1)] at h3
   rcases fX h2 with ⟨e2,l2,_⟩ | ⟨n2,h2⟩
   ·rw [e2,aT2 (by rw [<- p.len]; exact l2)] at h4
    cases h4
    exact absurd h3 (ne h1)
   ·rw [aR0 (Ne.symm n2)] at h4
    exact p.dis j k y z b h1 h2 h3 h4
theorem Ev.own {a:Addr} (s:aB Hs H) (ha:Hs a=none):Ev W Hs (lG W a) H:=fun b o e n=>⟨s _ _ e,fun z=>z.elim n fun z=>by rw [z,ha] at e; cases e⟩
theorem kG {g:Bool}{a b:Addr} (wa:W a) (h:Ms H0 W g b):b ≠ a:=by
 cases g with
 | true=>exact fun z=>h.1 (by rw [z]; exact wa)
 | false=>exact fun z=>h (by rw [z]; exact wa)
theorem PX.updOwn {i:Nat}{a:Addr}{x y:PV}{o:HO} (p:PX K H0 W σ ρ H) (hi:ρ[i]? = some (some (.own x))) (ha:σ[i]? = some (some (.ref a))) (wa:W a) (mu:iX o=true) (r:gR K (Ms H0 W true) (upd H a o) a y) :
  PX K H0 W σ (ρ.set i (some (.own y))) (upd H a o):=by
 obtain ⟨w0,o',e',mu'⟩:=p.wm a wa
 have kp:∀ g,gQ (Ms H0 W g) (Ms H0 W g) H (upd H a o):=fun g=>.upd e' mu' fun b m=>⟨kG wa m,m⟩
 refine⟨by rw [aR7]; exact p.len,fun b u e=>by rw [aZ (fun z=>by rw [z,w0] at e; cases e)]; exact p.same _ _ e,fun b z=>?_,fun j m h=>?_,fun j k y' z b h1 h2 h3 h4=>?_⟩
 ·by_cases e:b=a
  ·subst e; exact⟨w0,o,bJ,mu⟩
  ·obtain ⟨h1,o2,h2,h3⟩:=p.wm b z
   exact⟨h1,o2,by rw [aZ e]; exact h2,h3⟩
 ·rcases fX h with ⟨rfl,hl,e⟩ | ⟨hne,h⟩
  ·cases e
   exact⟨_,ha,a,rfl,wa,r⟩
  ·obtain ⟨u,e,q⟩:=p.sl j m h
   refine⟨u,e,?_⟩
   cases m with
   | sh g y=>exact aF.keep (kp g) q
   | own y=>
    obtain ⟨b,e1,e2,q⟩:=q
    have hb:b ≠ a:=fun z=>by
     subst e1
     rw [z] at e
     exact hne (p.dis j i _ _ a h hi e ha)
    exact⟨b,e1,e2,q.keep (kp true) fun o z=>by rw [aZ hb]; exact z⟩
 ·have g1:∃ y,ρ[j]? = some (some (.own y)):=by
   rcases fX h1 with ⟨e,_,_⟩ | ⟨_,h⟩
   ·exact⟨x,by rw [e]; exact hi⟩
   ·exact⟨_,h⟩
  have g2:∃ y,ρ[k]? = some (some (.own y)):=by
   rcases fX h2 with ⟨e,_,_⟩ | ⟨_,h⟩
   ·exact⟨x,by rw [e]; exact hi⟩
   ·exact⟨_,h⟩
  obtain ⟨y1,g1⟩:=g1
  obtain ⟨y2,g2⟩:=g2
  exact p.dis j k y1 y2 b g1 g2 h3 h4
theorem Ev.upd {a:Addr}{o:HO} (wa:W a):Ev W H W (upd H a o):=fun b u e n=>⟨by rw [aZ (fun z=>n (by rw [z]; exact wa))]; exact e,n⟩
noncomputable def mV (W:Addr->Prop) (a:Addr):Addr->Prop:=fun b=>W b/\b ≠ a
theorem tV {g:Bool}{a b:Addr} (h:Ms H0 W g b):Ms H0 (mV W a) g b:=by
 cases g with
 | true=>exact⟨fun z=>h.1 z.1,h.2⟩
 | false=>exact fun z=>h z.1
theorem PX.freeze {i:Nat}{a:Addr}{x:PV} (p:PX K H0 W σ ρ H) (hi:ρ[i]? = some (some (.own x))) (ha:σ[i]? = some (some (.ref a))):PX K H0 (mV W a) σ (ρ.set i (some (.sh true x))) H:=by
 obtain ⟨v,ev,a',e1,wa,r⟩:=p.sl i _ hi
 rw [ha] at ev
 cases ev
 cases e1
 refine⟨by rw [aR7]; exact p.len,p.same,fun b z=>p.wm b z.1,fun j m h=>?_,fun j k y' z b h1 h2 h3 h4=>?_⟩
 ·rcases fX h with ⟨rfl,hl,e⟩ | ⟨hne,h⟩
  ·cases e
   exact⟨_,ha,r.rep (M':=Ms H0 (mV W a) true) (fun b m=>tV (g:=true) m) (show Ms H0 (mV W a) true a from ⟨fun z=>z.2 rfl,(p.wm a wa).1⟩)⟩
  ·obtain ⟨u,e,q⟩:=p.sl j m h
   refine⟨u,e,?_⟩
   cases m with
   | sh g y=>exact aF.same q (aB.refl _) fun _ m=>tV m
   | own y=>
    obtain ⟨b,e1,e2,q⟩:=q
    have hb:b ≠ a:=fun z=>by
     subst e1
     rw [z] at e
     exact hne (p.dis j i _ _ a h hi e ha)
    exact⟨b,e1,⟨e2,hb⟩,q.keep (.same (aB.refl _) fun _ m=>tV m) fun _ z=>z⟩
 ·rcases fX h1 with ⟨_,_,e⟩ | ⟨_,h1⟩
  ·cases e
  ·rcases fX h2 with ⟨_,_,e⟩ | ⟨_,h2⟩
   ·cases e
   ·exact p.dis j k _ _ b h1 h2 h3 h4
theorem Ev.off {a:Addr}:Ev W H (mV W a) H:=fun b u e n=>⟨e,fun z=>n z.1⟩
end
section
variable {X : Cx} {σ : St} {H : Hp} {D : dZ} {te : aH} {t u : aQ}
noncomputable def cI:aQ:=fun D ρ=>D.nx ρ
noncomputable def aE (t u:aQ):aQ:=fun D ρ=>t { D with nx:=u D } ρ
theorem am2 (h:LS X cI D σ H):wG D σ H:=by
 obtain ⟨W,ρ,D',px,q,k⟩:=h
 exact k.nx W σ H ρ (Ev.refl _ _) px q
theorem am3 (h:LS X (aE t u) D σ H):wH (LS X t) (LS X u) D σ H:=by
 obtain ⟨W,ρ,D',px,q,k⟩:=h
 exact⟨W,ρ,_,px,q,fun W' σ' H' ρ' e px' q'=>⟨W',ρ',D',px',q',k.step e⟩,k.rt,k.bk,k.ct⟩
noncomputable def A4:Tg->PV->Bool
 | .fr,_=>true
 | .nw,_=>true
 | _,x=>flat x
noncomputable def A5:Tg->PV->Prop
 | .rd,x=>flat x=true
 | _,_=>True
theorem am4 {K:PySem.W.Frag}{H0 Hs H:Hp}{W:Addr->Prop}{σ:St}{ρ:bG}{g:Tg}{x:PV}{v:V} (px:PX K H0 W σ ρ Hs) (n:A5 g x) (r:aF K (Mg H0 W Hs g) H v x):aF K (Ms H0 W (A4 g x)) H v x:=by
 cases g with
 | fr=>exact Nw.rep (g:=.fr) px trivial r
 | nw=>exact Nw.rep (g:=.nw) px trivial r
 | sh=>
  show aF K (Ms H0 W (flat x)) H v x
  cases e:flat x with
  | true=>exact r.flat e
  | false=>exact r.same (aB.refl _) fun _ z=>z
 | rd=>exact r.flat n
noncomputable def b4 (i:Nat) (te:aH):aQ:=fun D ρ=>te ρ fun x g=>A5 g x/\D.nx (ρ.set i (some (.sh (A4 g x) x)))
theorem pG {i:Nat} (h:LS X (b4 i te) D σ H):jG (LE X te) (cC i) D σ H:=by
 obtain ⟨W,ρ,D',px,q,k⟩:=h
 refine⟨W,ρ,_,px,q,?_⟩
 rintro v H1 x g s r ⟨n,q⟩
 exact k.nx W _ H1 _ (Ev.same s) ((px.mono s).setSh (am4 px n r)) q
noncomputable def A6:PV->Bool
 | .lst xs=>flats xs
 | .dK ps=>flats (ps.map (·.2))
 | .dT ps=>flats (ps.map (·.2))
 | _=>false
theorem am5 {K:PySem.W.Frag}{M:Addr->Prop}{H:Hp}{v:V}{x:PV} (r:aF K M H v x) (o:A6 x=true):∃ a,v = .ref a/\M a/\∀ M',gR K M' H a x:=by
 cases r with
 | lst m e r=>exact⟨_,rfl,m,fun _=>⟨_,e,r.flat o⟩⟩
 | dK m e q r=>exact⟨_,rfl,m,fun _=>⟨_,e,q,r.flat o⟩⟩
 | dT m e q r=>exact⟨_,rfl,m,fun _=>⟨_,e,q,r.flat o⟩⟩
 | _=>cases o
noncomputable def dN (i:Nat) (te:aH):aQ:=fun D ρ=>te ρ fun x g=>g = .fr/\A6 x=true/\D.nx (ρ.set i (some (.own x)))
theorem A7 {i:Nat} (h:LS X (dN i te) D σ H):jG (LE X te) (cC i) D σ H:=by
 obtain ⟨W,ρ,D',px,q,k⟩:=h
 refine⟨W,ρ,_,px,q,?_⟩
 rintro v H1 x g s r ⟨rfl,o,q⟩
 obtain ⟨a,rfl,m,w⟩:=am5 r o
 exact k.nx _ _ H1 _ (Ev.own s m) (px.setOwn s m (w _)) q
noncomputable def mW (i:Nat) (t:aQ):aQ:=fun D ρ=>∃ x,ρ[i]? = some (some (.own x))/\t D (ρ.set i (some (.sh true x)))
theorem am6 {i:Nat} (h:LS X (mW i t) D σ H):LS X t D σ H:=by
 obtain ⟨W,ρ,D',px,⟨x,hi,q⟩,k⟩:=h
 obtain ⟨v,ev,a,rfl,wa,r⟩:=px.sl i _ hi
 exact⟨_,_,D',px.freeze hi ev,q,k.step Ev.off⟩
noncomputable def bM (te:aH):aQ:=fun D ρ=>te ρ fun x g=>Nw g x/\D.rt x
theorem am7 (h:LS X (bM te) D σ H):rN (LE X te) D σ H:=by
 obtain ⟨W,ρ,D',px,q,k⟩:=h
 refine⟨W,ρ,_,px,q,?_⟩
 rintro v H1 x g s r ⟨n,q⟩
 exact k.rt v H1 x (px.same.trans s) ((Nw.rep px n r).same (aB.refl _) fun _ z=>z.2) q
noncomputable def Slot.nw:Slot->Prop
 | .own _=>True
 | .sh true _=>True
 | .sh false x=>flat x=true
noncomputable def jO (i:Nat):aQ:=fun D ρ=>∃ m,ρ[i]? = some (some m)/\m.nw/\D.rt m.val
theorem am8 {i:Nat} (h:LS X (jO i) D σ H):rN (i4 i) D σ H:=by
 obtain ⟨W,ρ,D',px,⟨m,hi,n,q⟩,k⟩:=h
 obtain ⟨v,ev,r⟩:=px.sl i _ hi
 refine⟨v,ev,k.rt v H _ px.same ?_ q⟩
 cases m with
 | own x=>
  obtain ⟨a,rfl,wa,r⟩:=r
  exact r.rep (fun _ z=>z.2) (px.wm a wa).1
 | sh g x=>
  cases g with
  | true=>exact aF.same r (aB.refl _) fun _ z=>z.2
  | false=>exact aF.flat n r
noncomputable def cJ (c:c9) (t u:aQ):aQ:=fun D ρ=>c ρ fun b=>if b=true then t D ρ else u D ρ
theorem am9 {c:c9} (h:LS X (cJ c t u) D σ H):wI (LT X c) (LS X t) (LS X u) D σ H:=by
 obtain ⟨W,ρ,D',px,q,k⟩:=h
 refine⟨W,ρ,_,px,q,fun b H1 s q1=>?_⟩
 cases b with
 | true=>exact bW ⟨W,ρ,D',px.mono s,by simpa using q1,k.step (Ev.same s)⟩
 | false=>exact bC ⟨W,ρ,D',px.mono s,by simpa using q1,k.step (Ev.same s)⟩
noncomputable def lH (c:c9) (tb:aQ):aQ:=fun D ρ=>∃ I:Nat->bG->Prop,(∃ m,I m ρ)/\∀ m ρ',I m ρ'->c ρ' fun b=>if b=true then tb { D with nx:=fun ρ2=>∃ m',m' < m/\I m' ρ2,ct:=fun ρ2=>∃ m',m' < m/\I m' ρ2,bk:=D.nx } ρ' else D.nx ρ'
theorem an0 {c:c9}{tb:aQ} (h:LS X (lH c tb) D σ H):wK (LT X c) (LS X tb) D σ H:=by
 obtain ⟨W,ρ,D',px,⟨I,⟨m0,i0⟩,turn⟩,k⟩:=h
 refine⟨fun m σ2 H2=>∃ W2 ρ2,PX X.K X.H₀ W2 σ2 ρ2 H2/\Ev W H W2 H2/\I m ρ2,⟨m0,W,ρ,px,Ev.refl _ _,i0⟩,?_⟩
 rintro m σ2 H2 ⟨W2,ρ2,px2,e2,i2⟩
 refine⟨W2,ρ2,_,px2,turn m ρ2 i2,fun b H3 s3 q3=>?_⟩
 cases b with
 | true=>
  refine bW ⟨fun σ4 H4=>∃ W4 ρ4,PX X.K X.H₀ W4 σ4 ρ4 H4/\Ev W H W4 H4/\∃ m',m' < m/\I m' ρ4,fun σ4 H4 ⟨W4,ρ4,a,b,m',c,d⟩=>⟨m',c,W4,ρ4,a,b,d⟩,W2,ρ2,_,px2.mono s3,by simpa using q3,?_⟩
  have e3:Ev W H W2 H3:=e2.trans (Ev.same s3)
  exact⟨fun W' σ' H' ρ' e p q=>⟨W',ρ',p,e3.trans e,q⟩,k.rt,fun W' σ' H' ρ' e p q=>k.nx W' σ' H' ρ' (e3.trans e) p q,fun W' σ' H' ρ' e p q=>⟨W',ρ',p,e3.trans e,q⟩⟩
 | false=>exact bC (k.nx W2 σ2 H3 ρ2 (e2.trans (Ev.same s3)) (px2.mono s3) (by simpa using q3))
end
theorem lim {n:Nat} (h:n<=16000000):n<=sizeLine:=aT1 (gG h)
theorem aF.sqT {K:PySem.W.Frag}{M:Addr->Prop}{H:Hp}{v:V}{xs:List PV} (r:aF K M H v (.tup xs)):∃ a us,v = .ref a/\H a=some (.tup us)/\Reps K M H us xs:=by
 cases r with
 | tup e r=>exact⟨_,_,rfl,e,r⟩
theorem aF.sqL {K:PySem.W.Frag}{M:Addr->Prop}{H:Hp}{v:V}{xs:List PV} (r:aF K M H v (.lst xs)):∃ a us,v = .ref a/\M a/\H a=some (.lst us)/\Reps K M H us xs:=by
 cases r with
 | lst m e r=>exact⟨_,_,rfl,m,e,r⟩
theorem iW.sqL {K:PySem.W.Frag}{H:Hp}{a:Addr}{ns:List Int} (h:iW K H a ns):aJ K H a (ns.map V.int):=h.elim (fun z=>.inl (.inr z)) .inr
noncomputable def iY:PV->Option (List PV)
 | .tup xs=>some xs
 | .lst xs=>some xs
 | .scr ns=>some (intz ns)
 | .kt xs=>some xs
 | _=>none
theorem aF.seq {K:PySem.W.Frag}{M:Addr->Prop}{H:Hp}{v:V}{x:PV}{xs:List PV} (r:aF K M H v x) (e:iY x=some xs):∃ a us,v = .ref a/\(aJ K H a us ∨ aM K H a us)/\Reps K M H us xs:=by
 cases r with
 | tup h r=>cases e; exact⟨_,_,rfl,.inr (aM.of h),r⟩
 | lst m h r=>cases e; exact⟨_,_,rfl,.inl (aJ.of h),r⟩
 | scr h=>cases e; exact⟨_,_,rfl,.inl h.sqL,Reps.intz _⟩
 | kt h r=>cases e; exact⟨_,_,rfl,.inr (.inr h),r⟩
 | _=>cases e
section
variable {X : Cx} {σ : St} {H : Hp} {D : dZ} {te ti to : aH} {t u : aQ} {Q' : VK}
theorem _root_.PP.PX.updL {K:PySem.W.Frag}{H0:Hp}{W:Addr->Prop}{σ:St}{ρ:bG}{H:Hp}{i:Nat}{a:Addr}{x:PV}{us:List V}{ys:List PV} (p:PX K H0 W σ ρ H) (hi:ρ[i]? = some (some (.own x))) (ha:σ[i]? = some (some (.ref a))) (wa:W a) (r:Reps K (Ms H0 W true) (upd H a (.lst us)) us ys) :
  PX K H0 W σ (ρ.set i (some (.own (.lst ys)))) (upd H a (.lst us)):=p.updOwn hi ha wa rfl (y:=.lst ys) ⟨us,bJ,r⟩
noncomputable def gI (i:Nat) (te:aH):aQ:=fun D ρ=>∃ xs,ρ[i]? = some (some (.own (.lst xs)))/\te ρ fun x g=>Nw g x/\xs.length < 16000000/\D.nx (ρ.set i (some (.own (.lst (xs ++ [x])))))
theorem an1 {i:Nat} (h:LS X (gI i te) D σ H):o7 (oJ X.K "list" xX (i4 i) (i6 (LE X te) jI)) D σ H:=by
 obtain ⟨W,ρ,D',px,⟨xs,hi,q⟩,k⟩:=h
 obtain ⟨v,ev,a,rfl,wa,us,ea,r⟩:=px.sl i _ hi
 refine⟨_,ev,jM (aJ.of ea),W,ρ,_,px,q,?_⟩
 rintro w H1 x g s rx ⟨n,hl,q⟩
 have ea1:=s _ _ ea
 refine⟨a,us,w,rfl,rfl,ea1,gG (by rw [r.length]; lia),?_⟩
 refine k.nx W σ _ _ ((Ev.same s).trans (Ev.upd wa)) ((px.mono s).updL hi ev wa ?_) q
 exact ((r.same s fun _ z=>z).append (.cons (Nw.rep px n rx) .nil)).keep (.upd ea1 rfl fun b m=>⟨kG wa m,m⟩)
noncomputable def A8 (K:PySem.W.Frag):V->List V->Hp->VK->Prop:=fun x vs H Q=>xY x vs H Q ∨ zW K x vs H Q
noncomputable def tW (i:Nat) (te:aH):aQ:=fun D ρ=>∃ xs,ρ[i]? = some (some (.own (.lst xs)))/\te ρ fun y g=>∃ ys,(y = .tup ys ∨ y = .lst ys)/\(Nw g y ∨ flats ys=true)/\xs.length+ys.length<=16000000/\D.nx (ρ.set i (some (.own (.lst (xs ++ ys)))))
theorem an2 {i:Nat} (h:LS X (tW i te) D σ H):o7 (oJ X.K "list" (A8 X.K) (i4 i) (i6 (LE X te) jI)) D σ H:=by
 obtain ⟨W,ρ,D',px,⟨xs,hi,q⟩,k⟩:=h
 obtain ⟨v,ev,a,rfl,wa,us,ea,r⟩:=px.sl i _ hi
 refine⟨_,ev,jM (aJ.of ea),W,ρ,_,px,q,?_⟩
 rintro w H1 y g s ry ⟨ys,hy,n,hl,q⟩
 have ea1:=s _ _ ea
 have key:∀ (zs:List V),Reps X.K (Ms X.H₀ W true) H1 zs ys->D.nx σ (upd H1 a (.lst (us ++ zs))):=fun zs rz=>by
  refine k.nx W σ _ _ ((Ev.same s).trans (Ev.upd wa)) ((px.mono s).updL hi ev wa ?_) q
  exact ((r.same s fun _ z=>z).append rz).keep (.upd ea1 rfl fun b m=>⟨kG wa m,m⟩)
 have lr:=r.length
 rcases hy with rfl | rfl
 ·obtain ⟨b,zs,rfl,eb,rz⟩:=ry.sqT
  have lz:=rz.length
  refine .inr ⟨a,b,us,zs,rfl,rfl,ea1,aM.of eb,lim (by lia),key zs ?_⟩
  rcases n with n | n
  ·obtain ⟨b',zs',e1,e2,rz'⟩:=(Nw.rep px n ry).sqT
   cases e1; rw [eb] at e2; cases e2; exact rz'
  ·exact rz.flat n
 ·obtain ⟨b,zs,rfl,_,eb,rz⟩:=ry.sqL
  have lz:=rz.length
  refine .inl ⟨a,b,us,zs,rfl,rfl,ea1,eb,lim (by lia),key zs ?_⟩
  rcases n with n | n
  ·obtain ⟨b',zs',e1,_,e2,rz'⟩:=(Nw.rep px n ry).sqL
   cases e1; rw [eb] at e2; cases e2; exact rz'
  ·exact rz.flat n
noncomputable def kH (i:Nat) (tk te:aH):aQ:=fun D ρ=>te ρ fun x g=>∃ xs,ρ[i]? = some (some (.own (.lst xs)))/\tk ρ fun y _=>∃ n j,y = .int n/\fJ xs.length n=some j/\Nw g x/\D.nx (ρ.set i (some (.own (.lst (xs.set j x)))))
theorem an3 {i:Nat}{tk:aH} (h:LS X (kH i tk te) D σ H):jG (LE X te) (rP (i4 i) (LE X tk) sL) D σ H:=by
 obtain ⟨W,ρ,D',px,q,k⟩:=h
 refine⟨W,ρ,_,px,q,?_⟩
 rintro w H1 x g s rx ⟨xs,hi,q1⟩
 obtain ⟨v,ev,a,rfl,wa,us,ea,r⟩:=(px.mono s).sl i _ hi
 refine⟨_,ev,W,ρ,_,px.mono s,q1,?_⟩
 rintro kv H2 y gy s2 ry ⟨n,j,rfl,hj,nw,q2⟩
 cases ry
 have ea2:=s2 _ _ ea
 refine⟨a,us,n,j,rfl,rfl,ea2,by rw [r.length]; exact hj,?_⟩
 refine k.nx W σ _ _ ((Ev.same (s.trans s2)).trans (Ev.upd wa)) ((px.mono (s.trans s2)).updL hi ev wa ?_) q2
 exact (Reps.set ((Nw.rep px nw rx).same s2 fun _ z=>z) j (r.same s2 fun _ z=>z)).keep (.upd ea2 rfl fun b m=>⟨kG wa m,m⟩)
noncomputable def tX (i j:Nat):aQ:=fun D ρ=>∃ xs y,ρ[i]? = some (some (.own (.lst (xs ++ [y]))))/\D.nx ((ρ.set i (some (.own (.lst xs)))).set j (some (.sh true y)))
theorem Reps.snoc_inv {K:PySem.W.Frag}{M:Addr->Prop}{H:Hp}{us:List V}{xs:List PV}{y:PV} (r:Reps K M H us (xs ++ [y])):∃ vs v,us=vs ++ [v]/\Reps K M H vs xs/\aF K M H v y:=by
 have l:=r.length
 have h1:=r.take xs.length
 have h2:=r.drop xs.length
 rw [List.take_left] at h1
 rw [List.drop_left] at h2
 generalize hd:us.drop xs.length=ds at h2
 cases h2 with
 | cons q t=>
  cases t
  exact⟨_,_,by rw [<- hd,List.take_append_drop],h1,q⟩
theorem an4 {i j:Nat} (h:LS X (tX i j) D σ H):jG (xV X.K "list" xZ (i4 i)) (cC j) D σ H:=by
 obtain ⟨W,ρ,D',px,⟨xs,y,hi,q⟩,k⟩:=h
 obtain ⟨v,ev,a,rfl,wa,us,ea,r⟩:=px.sl i _ hi
 obtain ⟨vs,w,rfl,r1,ry⟩:=r.snoc_inv
 refine⟨_,ev,jM (aJ.of ea),a,_,w,rfl,rfl,ea,by simp,?_⟩
 rw [List.dropLast_concat]
 have kp:gQ (Ms X.H₀ W true) (Ms X.H₀ W true) H (upd H a (.lst vs)):=.upd ea rfl fun b m=>⟨kG wa m,m⟩
 exact k.nx W _ _ _ (Ev.upd wa) ((px.updL hi ev wa (r1.keep kp)).setSh (ry.keep kp)) q
end
theorem Reps.atI {K:PySem.W.Frag}{M:Addr->Prop}{H:Hp}{us:List V}{xs:List PV}{i:Int}{z:PV} (r:Reps K M H us xs) (h:L2.atI xs i=some z):∃ v,L2.atI us i=some v/\aF K M H v z:=by
 unfold L2.atI at h ⊢
 rw [r.length]
 cases e:fJ xs.length i with
 | none=>rw [e] at h; cases h
 | some j=>rw [e] at h; exact r.at h
section
variable {X : Cx} {σ : St} {H : Hp} {Q' : VK} {ta tb te : aH} {tr : cT}
noncomputable def tY:PV->Tg->PV->Tg->PK->Prop:=fun x g y _ Q=>∃ xs i z,iY x=some xs/\y = .int i/\L2.atI xs i=some z/\Q z g
theorem an5:eV X tY (xP X.K):=by
 rintro W Hs H u v x y g g' Q Q' s n r1 r2 ⟨xs,i,z,e,rfl,hz,q⟩ k
 cases r2
 obtain ⟨a,us,rfl,hs,r⟩:=r1.seq e
 obtain ⟨v,hv,rv⟩:=r.atI hz
 rcases hs with hs | hs
 ·exact .inl ⟨a,us,i,v,rfl,rfl,hs,hv,k v H z g (aB.refl _) rv q⟩
 ·exact .inr (.inl ⟨a,us,i,v,rfl,rfl,hs,hv,k v H z g (aB.refl _) rv q⟩)
noncomputable def tZ:PV->Option Nat
 | .tup xs=>some xs.length
 | .lst xs=>some xs.length
 | .scr ns=>some ns.length
 | .dK ps=>some ps.length
 | .kt xs=>some xs.length
 | _=>none
noncomputable def dF:List PV->(PV->Prop)->Prop:=fun xs Q=>∃ x n,xs = [x]/\tZ x=some n/\Q (.int n)
theorem Reps.one {K:PySem.W.Frag}{M:Addr->Prop}{H:Hp}{vs:List V}{x:PV} (r:Reps K M H vs [x]):∃ v,vs = [v]/\aF K M H v x:=by
 cases r with
 | cons r t=>cases t; exact⟨_,rfl,r⟩
theorem Reps.two {K:PySem.W.Frag}{M:Addr->Prop}{H:Hp}{vs:List V}{x y:PV} (r:Reps K M H vs [x,y]):∃ v w,vs = [v,w]/\aF K M H v x/\aF K M H w y:=by
 cases r with
 | cons r t=>
  obtain ⟨w,rfl,q⟩:=t.one
  exact⟨_,_,rfl,r,q⟩
theorem an6:fN X dF (fun xs H Q=>(∃ p ys,xs = [.ref p]/\(aJ X.K H p ys ∨ aM X.K H p ys)/\Q (.int ys.length) H) ∨ ∃ a kvs,xs = [V.ref a]/\H a=some (.dK kvs)/\Q (.int kvs.length) H):=by
 rintro H vs xs Q Q' r ⟨x,n,rfl,e,q⟩ k
 obtain ⟨v,rfl,r1⟩:=r.one
 have fin:∀ {m:Nat},m=n->Q' (.int m) H:=fun {m} z=>by rw [z]; exact k _ _ _ (aB.refl _) (.int _) q
 cases r1 with
 | tup h r2=>cases e; exact .inl ⟨_,_,rfl,.inr (aM.of h),fin r2.length⟩
 | lst m h r2=>cases e; exact .inl ⟨_,_,rfl,.inl (aJ.of h),fin r2.length⟩
 | scr h=>cases e; exact .inl ⟨_,_,rfl,.inl h.sqL,fin (by rw [aN6])⟩
 | kt h r2=>cases e; exact .inl ⟨_,_,rfl,.inr (.inr h),fin r2.length⟩
 | dK m h e' r=>
  cases e
  refine .inr ⟨_,_,rfl,h,fin ?_⟩
  have:=congrArg List.length e'
  rw [aN6,aN6] at this
  exact this
 | _=>cases e
noncomputable def seqT:PV->Option (List PV)
 | .kt _=>none
 | x=>iY x
noncomputable def A9:List PV->(PV->Prop)->Prop:=fun xs Q=>∃ x ys,xs = [x]/\seqT x=some ys/\flats ys=true/\Q (.tup ys)
noncomputable def u0:List PV->(PV->Prop)->Prop:=fun xs Q=>∃ x ys,xs = [x]/\iY x=some ys/\flats ys=true/\Q (.lst ys)
theorem an7:fN X (fun xs Q=>A9 xs Q/\∀ ns,xs ≠ [.scr ns]) (fun xs H Q=>∃ p ys,xs = [.ref p]/\((aJ X.K H p ys/\∀ l,H l=none->Q (.ref l) (upd H l (.tup ys))) ∨ (aM X.K H p ys/\Q (.ref p) H))):=by
 rintro H vs xs Q Q' r ⟨⟨x,ys,rfl,e,f,q⟩,nsc⟩ k
 obtain ⟨v,rfl,r1⟩:=r.one
 cases r1 with
 | tup h r2=>cases e; exact⟨_,_,rfl,.inr ⟨aM.of h,k _ _ _ (aB.refl _) (.tup h (r2.flat f)) q⟩⟩
 | lst m h r2=>cases e; exact⟨_,_,rfl,.inl ⟨aJ.of h,fun l hl=>k _ _ _ (bK hl _) (.tup bJ ((r2.flat f).same (bK hl _) fun _ z=>z)) q⟩⟩
 | scr h=>exact absurd rfl (nsc _)
 | _=>cases e
theorem an8:fN X u0 (fun xs H Q=>∃ p ys,xs = [.ref p]/\(aJ X.K H p ys ∨ aM X.K H p ys)/\∀ l,H l=none->Q (.ref l) (upd H l (.lst ys))):=by
 rintro H vs xs Q Q' r ⟨x,ys,rfl,e,f,q⟩ k
 obtain ⟨v,rfl,r1⟩:=r.one
 obtain ⟨a,us,rfl,hs,r2⟩:=r1.seq e
 exact⟨_,_,rfl,hs,fun l hl=>k _ _ _ (bK hl _) (.lst hl bJ ((r2.flat f).same (bK hl _) fun _ z=>z)) q⟩
noncomputable def pH:List PV->(PV->Prop)->Prop:=fun xs Q=>∃ ns,xs = [.lst (intz ns)]/\ns.length < 64/\∀ ms:List Int,ms.Perm ns->ms.Pairwise (· <= ·)->Q (.lst (intz ms))
theorem an9:fN X pH (zI X.K):=by
 rintro H vs xs Q Q' r ⟨ns,rfl,hl,q⟩ k
 obtain ⟨v,rfl,r1⟩:=r.one
 obtain ⟨a,us,rfl,_,h,r2⟩:=r1.sqL
 obtain rfl:=r2.ofInts
 exact⟨a,ns,rfl,aJ.of h,hl,fun l ms hl' p o=>k _ _ _ (bK hl' _) (.lst hl' bJ (Reps.intz ms)) (q ms p o)⟩
noncomputable def u3:List PV->(PV->Prop)->Prop:=fun xs Q=>∃ bs:List Bool,xs = [.lst (bs.map PV.bl)]/\Q (.bl (bs.all id))
theorem Reps.ofBls {K:PySem.W.Frag}{M:Addr->Prop}{H:Hp}:∀ {ns:List Bool}{us:List V},Reps K M H us (ns.map PV.bl)->us=ns.map V.bl
 | [],_,.nil=>rfl
 | n :: r,_,.cons q t=>by
  cases q
  rw [Reps.ofBls t]; rfl
theorem ao0:fN X u3 (fun xs H Q=>∃ (a:Addr) (bs:List Bool),xs = [.ref a]/\aJ X.K H a (bs.map V.bl)/\Q (.bl (bs.all id)) H):=by
 rintro H vs xs Q Q' r ⟨bs,rfl,q⟩ k
 obtain ⟨v,rfl,r1⟩:=r.one
 obtain ⟨a,us,rfl,_,h,r2⟩:=r1.sqL
 obtain rfl:=r2.ofBls
 exact⟨a,bs,rfl,aJ.of h,k _ _ _ (aB.refl _) (.bl _) q⟩
noncomputable def kI:List PV->(PV->Prop)->Prop:=fun xs Q=>∃ i j,xs = [.int i,.int j]/\Q (.int (if j < i then j else i))
noncomputable def kJ:List PV->(PV->Prop)->Prop:=fun xs Q=>∃ i j,xs = [.int i,.int j]/\Q (.int (if j > i then j else i))
theorem ao1:fN X kI (fun xs H Q=>∃ i j,xs = [.int i,.int j]/\Q (.int (if j < i then j else i)) H):=by
 rintro H vs xs Q Q' r ⟨i,j,rfl,q⟩ k
 obtain ⟨v,w,rfl,r1,r2⟩:=r.two
 cases r1; cases r2
 exact⟨i,j,rfl,k _ _ _ (aB.refl _) (.int _) q⟩
theorem ao2:fN X kJ (fun xs H Q=>∃ i j,xs = [.int i,.int j]/\Q (.int (if j > i then j else i)) H):=by
 rintro H vs xs Q Q' r ⟨i,j,rfl,q⟩ k
 obtain ⟨v,w,rfl,r1,r2⟩:=r.two
 cases r1; cases r2
 exact⟨i,j,rfl,k _ _ _ (aB.refl _) (.int _) q⟩
noncomputable abbrev bE:=List PV->(PV->Prop)->Prop
noncomputable def mX (K:PySem.W.Frag) (p:bE):Sp:=fun vs H Q _=>∃ xs Qp,Reps K (fun _=>True) H vs xs/\p xs Qp/\∀ v H' x,aB H H'->aF K (fun a=>H a=none) H' v x->Qp x->Q v H'
theorem ao3 {p:bE}{E:XK} (h:LE X (aC p tr) σ H Q'):sE (mX X.K p) [] E (LA X tr) σ H Q':=by
 obtain ⟨W,ρ,Q,px,q,k⟩:=h
 refine⟨W,ρ,_,px,q,fun vs H1 xs s1 r1 q1=>⟨_,_,by rw [aY9]; exact r1.any,q1,fun v H' x s2 r2 q2=>k v H' x .fr (s1.trans s2) (r2.same (aB.refl _) fun _ z=>s1.free z) q2⟩⟩
noncomputable def ao4:PV->Option Bool
 | .non=>some false
 | .bl b=>some b
 | .int i=>some (i != 0)
 | .tup xs=>some (!xs.isEmpty)
 | .lst xs=>some (!xs.isEmpty)
 | .dK ps=>some (!ps.isEmpty)
 | _=>none
noncomputable def lI (t:aH):c9:=fun ρ Q=>t ρ fun x _=>∃ b,ao4 x=some b/\Q b
theorem u4 {α β:Type}:∀ {l:List α}{m:List β},l.length=m.length->l.isEmpty=m.isEmpty
 | [],[],_=>rfl
 | _ :: _,_ :: _,_=>rfl
theorem ao5 {t:aH}{Qb:Bool->Hp->Prop} (h:LT X (lI t) σ H Qb):LE X t σ H fun x H'=>∃ k,rZ X.K x H' k/\Qb k H':=by
 obtain ⟨W,ρ,Q,px,q,k⟩:=h
 refine⟨W,ρ,_,px,q,?_⟩
 rintro v H1 x g s r ⟨b,e,q⟩
 refine⟨b,?_,k _ _ s q⟩
 cases r with
 | non=>cases e; rfl
 | bl b=>cases e; rfl
 | int i=>cases e; rfl
 | str x=>cases e
 | tup h r=>cases e; exact .inr (.inl ⟨_,aM.of h,by rw [u4 r.length]⟩)
 | lst m h r=>cases e; exact .inl ⟨_,aJ.of h,by rw [u4 r.length]⟩
 | dK m h e' r=>
  cases e
  refine .inr (.inr ⟨_,h,?_⟩)
  have:=congrArg List.length e'
  rw [aN6,aN6] at this
  rw [u4 this]
 | dT m h e' r=>cases e
 | scr h=>cases e
 | kt h r=>cases e
 | exc h e' c=>cases e
 | fK h e' r=>cases e
 | fT h e' r=>cases e
end
structure pI (K:PySem.W.Frag) (H0:Hp) (W:Addr->Prop) (g:Bool) (H1:Hp) (J:It) (xs:List PV):Prop where
 go:∀ W' H' i,Ev W H1 W' H'->i < xs.length->J.go i H'
 yld:∀ W' H' i v H2,Ev W H1 W' H'->J.yld i H' v H2->i < xs.length->aB H' H2/\∃ x,xs[i]? = some x/\aF K (Ms H0 W' g) H2 v x
 stop:∀ W' H',Ev W H1 W' H'->J.stop xs.length H'
noncomputable abbrev eW:=bG->(List PV->Bool->Prop)->Prop
noncomputable def LI (X:Cx) (t:eW):TI:=fun σ H R=>∃ (W:Addr->Prop) (ρ:bG) (Q:List PV->Bool->Prop),PX X.K X.H₀ W σ ρ H/\t ρ Q/\∀ J H1 xs g,aB H H1->pI X.K X.H₀ W g H1 J xs->Q xs g->R J H1
theorem Ev.keep {H0:Hp}{W W':Addr->Prop}{H H':Hp}{g:Bool} (e:Ev W H W' H') (tw:∀ a,W a->∃ o,H a=some o/\iX o=true):gQ (Ms H0 W g) (Ms H0 W' g) H H':=by
 have m:∀ {a:Addr}{o:HO},Ms H0 W g a->H a=some o->Ms H0 W' g a/\H' a=some o:=fun {a o} z h=>by
  cases g with
  | true=>
   obtain ⟨h1,h2⟩:=e a _ h z.1
   exact⟨⟨h2,z.2⟩,h1⟩
  | false=>
   obtain ⟨h1,h2⟩:=e a _ h z
   exact⟨h2,h1⟩
 refine⟨fun a _ z h=>m z h,fun a _ z h=>m z h,fun a _ z h=>m z h,fun a _ h=>(e a _ h fun z=>?_).1,fun a _ _ h=>(e a _ h fun z=>?_).1⟩
 ·obtain ⟨o,h',mu⟩:=tw a z; rw [h] at h'; cases h'; cases mu
 ·obtain ⟨o,h',mu⟩:=tw a z; rw [h] at h'; cases h'; cases mu
section
variable {X : Cx} {σ : St} {H : Hp} {te : aH} {tr : cT} {R : It → Hp → Prop}
noncomputable def B0 (K:PySem.W.Frag) (tl:TE):TI:=fun σ H R=>tl σ H fun x H1=>∃ a,x = .ref a/\((∃ xs,aJ K H1 a xs/\R (l5 K a) H1) ∨ (∃ xs,aM K H1 a xs/\R (jH K a) H1))
noncomputable def u5:Tg->List PV->Bool
 | .fr,_=>true
 | .nw,_=>true
 | _,xs=>flats xs
noncomputable def dO (te:aH):eW:=fun ρ Q=>te ρ fun x g=>∃ xs,iY x=some xs/\(g = .rd->flat x=true)/\Q xs (u5 g xs)
theorem B1 {K:PySem.W.Frag}{H0:Hp}{W:Addr->Prop}{g:Bool}{H1:Hp}{a:Addr}{us:List V}{xs:List PV} (tw:∀ a,W a->∃ o,H1 a=some o/\iX o=true) (ha:∀ W' H',Ev W H1 W' H'->aJ K H' a us) (r:Reps K (Ms H0 W g) H1 us xs):pI K H0 W g H1 (l5 K a) xs:=by
 have lr:=r.length
 refine⟨fun W' H' i e hi=>⟨us,us[i]'(by lia),ha W' H' e,by simp⟩,fun W' H' i v H2 e y hi=>?_,fun W' H' e=>⟨us,ha W' H' e,by lia⟩⟩
 obtain ⟨rfl,y⟩:=y
 obtain ⟨x,hx,rx⟩:=r.get (y us (ha W' _ e))
 exact⟨aB.refl _,x,hx,rx.keep (e.keep tw)⟩
theorem B2 {K:PySem.W.Frag}{H0:Hp}{W:Addr->Prop}{g:Bool}{H1:Hp}{a:Addr}{us:List V}{xs:List PV} (tw:∀ a,W a->∃ o,H1 a=some o/\iX o=true) (ha:∀ W' H',Ev W H1 W' H'->aM K H' a us) (r:Reps K (Ms H0 W g) H1 us xs):pI K H0 W g H1 (jH K a) xs:=by
 have lr:=r.length
 refine⟨fun W' H' i e hi=>⟨us,us[i]'(by lia),ha W' H' e,by simp⟩,fun W' H' i v H2 e y hi=>?_,fun W' H' e=>⟨us,ha W' H' e,by lia⟩⟩
 obtain ⟨rfl,y⟩:=y
 obtain ⟨x,hx,rx⟩:=r.get (y us (ha W' _ e))
 exact⟨aB.refl _,x,hx,rx.keep (e.keep tw)⟩
theorem mY {K:PySem.W.Frag}{H0 Hs H:Hp}{W:Addr->Prop}{σ:St}{ρ:bG}{g:Tg}{us:List V}{xs:List PV} (px:PX K H0 W σ ρ Hs) (hg:g = .rd->flats xs=true) (r:Reps K (Mg H0 W Hs g) H us xs):Reps K (Ms H0 W (u5 g xs)) H us xs:=by
 cases g with
 | fr=>exact r.same (aB.refl _) fun _ z=>px.new z
 | nw=>exact r.same (aB.refl _) fun _ z=>z
 | sh=>
  show Reps K (Ms H0 W (flats xs)) H us xs
  cases e:flats xs with
  | true=>exact r.flat e
  | false=>exact r.same (aB.refl _) fun _ z=>z
 | rd=>exact r.flat (hg rfl)
theorem ao6 (h:LI X (dO te) σ H R):B0 X.K (LE X te) σ H R:=by
 obtain ⟨W,ρ,Q,px,q,k⟩:=h
 refine⟨W,ρ,_,px,q,?_⟩
 rintro v H1 x g s r ⟨xs,e,hg,q⟩
 have px1:=px.mono s
 have tw:∀ a,W a->∃ o,H1 a=some o/\iX o=true:=fun a z=>(px1.wm a z).2
 cases r with
 | tup h r=>
  cases e
  refine⟨_,rfl,.inr ⟨_,aM.of h,k _ _ _ _ s (B2 tw (fun W' H' e=>aM.of (e _ _ h fun z=>?_).1) (mY px (fun z=>by have:=hg z; unfold flat at this; exact this) r)) q⟩⟩
  obtain ⟨o,h',mu⟩:=tw _ z; rw [h] at h'; cases h'; cases mu
 | @lst a us xs' m h r=>
  cases e
  have wa : ¬ W a:=by
   cases g with
   | fr=>exact (px.new m).1
   | nw=>exact m.1
   | sh=>exact m
   | rd=>have:=hg rfl; unfold flat at this; cases this
  exact⟨_,rfl,.inl ⟨_,aJ.of h,k _ _ _ _ s (B1 tw (fun W' H' e=>aJ.of (e _ _ h wa).1) (mY px (fun z=>by have:=hg z; unfold flat at this; cases this) r)) q⟩⟩
 | scr h=>
  cases e
  refine⟨_,rfl,.inl ⟨_,h.sqL,k _ _ _ _ s (B1 tw (fun W' H' e=>(iW.keep (fun a o u hz=>(e _ _ hz fun z=>?_).1) h).sqL) (mY (g:=g) px (fun z=>dW _) (Reps.intz _))) q⟩⟩
  obtain ⟨o,h',mu⟩:=tw _ z; rw [hz] at h'; cases h'; cases mu
 | kt h r=>
  cases e
  exact⟨_,rfl,.inr ⟨_,.inr h,k _ _ _ _ s (B2 tw (fun W' H' e=>.inr h) (mY px (fun z=>by have:=hg z; unfold flat at this; exact this) r)) q⟩⟩
 | _=>cases e
noncomputable def eJ (lo:Int) (n:Nat):List PV:=(List.range n).map fun (i:Nat)=>PV.int (lo+(i:Int))
theorem gJ (lo:Int) (n:Nat):(eJ lo n).length=n:=by unfold eJ; rw [aN6,List.length_range]
theorem u6 {lo:Int}{n i:Nat} (h:i < n):(eJ lo n)[i]? = some (.int (lo+i)):=by unfold eJ; rw [aO5,List.getElem?_range h]; rfl
noncomputable def jP (te:aH):eW:=fun ρ Q=>te ρ fun x _=>∃ j:Int,x = .int j/\-1000000<=j/\j<=1000000/\Q (eJ 0 j.toNat) true
noncomputable def pJ (ta tb:aH):eW:=fun ρ Q=>ta ρ fun x _=>tb ρ fun y _=>∃ i j:Int,x = .int i/\y = .int j/\(-1000000<=i/\i<=1000000/\-1000000<=j/\j<=1000000)/\Q (eJ i (j - i).toNat) true
theorem B3 {K:PySem.W.Frag}{H0:Hp}{W:Addr->Prop}{H1:Hp} (lo:Int) (n:Nat):pI K H0 W true H1 (m8 lo n) (eJ lo n):=by
 refine⟨fun W' H' i e hi=>by rw [gJ] at hi; exact hi,fun W' H' i v H2 e y hi=>?_,fun W' H' e=>by show n<=(eJ lo n).length; rw [gJ]; exact aO0 _⟩
 rw [gJ] at hi
 obtain ⟨rfl,rfl⟩:=y
 exact⟨aB.refl _,_,u6 hi,.int _⟩
theorem ao7 (h:LI X (jP te) σ H R):wO (i6 (LE X te) jI) σ H R:=by
 obtain ⟨W,ρ,Q,px,q,k⟩:=h
 refine⟨W,ρ,_,px,q,?_⟩
 rintro v H1 x g s r ⟨j,rfl,h1,h2,q⟩
 cases r
 exact⟨j,rfl,by lia,by lia,k _ _ _ _ s (B3 0 j.toNat) q⟩
theorem ao8 {ta tb:aH} (h:LI X (pJ ta tb) σ H R):wP (i6 (LE X ta) (i6 (LE X tb) jI)) σ H R:=by
 obtain ⟨W,ρ,Q,px,q,k⟩:=h
 refine⟨W,ρ,_,px,q,fun v H1 x g s r q=>⟨W,ρ,_,px.mono s,q,?_⟩⟩
 rintro w H2 y g' s2 r2 ⟨i,j,rfl,rfl,h,q⟩
 cases r; cases r2
 exact⟨i,j,rfl,by lia,k _ _ _ _ (s.trans s2) (B3 i (j - i).toNat) q⟩
end
noncomputable abbrev jQ:=PV->Bool->bG->(bG->Prop)->Prop
noncomputable def mZ (K:PySem.W.Frag) (own:Nat->Prop) (p:jQ) (t:TG):Prop:=∀ (H0:Hp) (W:Addr->Prop) (σ:St) (ρ:bG) (H:Hp) (v:V) (x:PV) (g:Bool) (Q:bG->Prop) (Q':St->Hp->Prop),
 PX K H0 W σ ρ H->aF K (Ms H0 W g) H v x->p x g ρ Q->(∀ σ' ρ',PX K H0 W σ' ρ' H->(∀ i,¬ own i->σ'[i]? = σ[i]?)->σ'.length=σ.length->Q ρ'->Q' σ' H)->t v σ H Q'
noncomputable def bT (i:Nat):jQ:=fun x g ρ Q=>Q (ρ.set i (some (.sh (g || flat x) x)))
theorem pK {K:PySem.W.Frag}{H0 H:Hp}{W:Addr->Prop}{v:V}{x:PV}{g:Bool} (r:aF K (Ms H0 W g) H v x):aF K (Ms H0 W (g || flat x)) H v x:=by
 cases g with
 | true=>exact r
 | false=>
  show aF K (Ms H0 W (flat x)) H v x
  cases e:flat x with
  | true=>exact r.flat e
  | false=>exact r
theorem lJ (K:PySem.W.Frag) (i:Nat):mZ K (· = i) (bT i) (cC i):=by
 intro H0 W σ ρ H v x g Q Q' px r q k
 exact k _ _ (px.setSh (pK r)) (fun j hj=>by rw [aR0 (Ne.symm hj)]) (aR7 ..) q
noncomputable def i9 (i j:Nat):jQ:=fun x g ρ Q=>∃ y z,x = .tup [y,z]/\Q ((ρ.set i (some (.sh (g || flat y) y))).set j (some (.sh (g || flat z) z)))
theorem u7 (K:PySem.W.Frag) (i j:Nat):mZ K (fun k=>k=i ∨ k=j) (i9 i j) (kA K 2 (fU (cC i) (fU (cC j) k9))):=by
 intro H0 W σ ρ H v x g Q Q' px r q k
 obtain ⟨y,z,rfl,q⟩:=q
 obtain ⟨a,us,rfl,h,r⟩:=r.sqT
 obtain ⟨u1,u2,rfl,r1,r2⟩:=r.two
 refine⟨a,_,rfl,aM.of h,rfl,u1,_,rfl,u2,_,rfl,rfl,k _ _ ((px.setSh (pK r1)).setSh (pK r2)) (fun k hk=>?_) (by rw [aR7,aR7]) q⟩
 rw [aR0 (fun e=>hk (.inr e.symm)),aR0 (fun e=>hk (.inl e.symm))]
section
variable {X : Cx} {σ : St} {H : Hp} {D : dZ}
noncomputable def eM (ti:eW) (p:jQ) (tb:aQ):aQ:=fun D ρ=>ti ρ fun xs g=>∃ I:Nat->bG->Prop,I 0 ρ/\(∀ i x ρ',xs[i]? = some x->I i ρ'->p x g ρ' fun ρ2=>tb { D with nx:=I (i+1),ct:=I (i+1),bk:=D.nx } ρ2)/\∀ ρ',I xs.length ρ'->D.nx ρ'
theorem ao9 {ti:eW}{p:jQ}{g:TG}{tb:aQ}{own:Nat->Prop} (hg:mZ X.K own p g) (h:LS X (eM ti p tb) D σ H):wQ (LI X ti) g (LS X tb) D σ H:=by
 obtain ⟨W,ρ,D',px,q,k⟩:=h
 refine⟨W,ρ,_,px,q,?_⟩
 rintro J H1 xs gb s it ⟨I,i0,turn,fin⟩
 refine⟨fun i m σ2 H2=>m=xs.length - i/\i<=xs.length/\∃ W2 ρ2,PX X.K X.H₀ W2 σ2 ρ2 H2/\Ev W H1 W2 H2/\I i ρ2,⟨xs.length,by lia,aS3 _,W,ρ,px.mono s,Ev.refl _ _,i0⟩,?_⟩
 rintro i m σ2 H2 ⟨rfl,hi,W2,ρ2,px2,e2,i2⟩
 have e0:Ev W H W2 H2:=(Ev.same s).trans e2
 by_cases hlt:i < xs.length
 ·refine .inr ⟨it.go W2 H2 i e2 hlt,fun σ3 H3=>∃ W3 ρ3,PX X.K X.H₀ W3 σ3 ρ3 H3/\Ev W H1 W3 H3/\I (i+1) ρ3,fun σ3 H3 ⟨W3,ρ3,a,b,c⟩=>⟨xs.length - (i+1),by lia,rfl,hlt,W3,ρ3,a,b,c⟩,fun v H3 y=>?_⟩
  obtain ⟨s3,x,hx,rx⟩:=it.yld W2 H2 i v H3 e2 y hlt
  refine hg X.H₀ W2 σ2 ρ2 H3 v x gb _ _ (px2.mono s3) rx (turn i x ρ2 hx i2) fun σ4 ρ4 px4 _ _ q4=>?_
  have e3:Ev W H1 W2 H3:=e2.trans (Ev.same s3)
  have e3':Ev W H W2 H3:=e0.trans (Ev.same s3)
  exact⟨W2,ρ4,_,px4,q4,fun W' σ' H' ρ' e p q=>⟨W',ρ',p,e3.trans e,q⟩,k.rt,fun W' σ' H' ρ' e p q=>k.nx W' σ' H' ρ' (e3'.trans e) p q,fun W' σ' H' ρ' e p q=>⟨W',ρ',p,e3.trans e,q⟩⟩
 ·have e:i=xs.length:=by lia
  subst e
  exact .inl ⟨it.stop W2 H2 e2,k.nx W2 σ2 H2 ρ2 e0 px2 (fin ρ2 i2)⟩
end
noncomputable def lK (fr:List (Option Nat)) (ρ:bG):bG:=fr.map fun o=>o.bind fun j=>(ρ[j]?).join.map fun m=>Slot.sh false m.val
noncomputable def kK (D:Addr):Addr->Prop:=fun a=>a=D
theorem ap0 {K:PySem.W.Frag}{H0:Hp}{W:Addr->Prop}{σ:St}{ρ:bG}{H1 H':Hp}{D:Addr}{acc:List V}{fr:List (Option Nat)} (px:PX K H0 W σ ρ H1) (hD:H1 D=none) (s:aB H1 H') (ha:H' D=some (.lst acc)) :
  PX K H1 (kK D) (fL fr σ) (lK fr ρ) H':=by
 have old:∀ {a:Addr}{o:HO},H1 a=some o->a ≠ D:=fun {a o} e z=>by rw [z,hD] at e; cases e
 refine⟨by unfold fL lK; rw [aN6,aN6],s,fun a z=>by cases z; exact⟨hD,_,ha,rfl⟩,fun i m h=>?_,fun i j x y a h1=>?_⟩
 ·unfold lK at h
  rw [aO5] at h
  cases ef:fr[i]? with
  | none=>rw [ef] at h; cases h
  | some o=>
   rw [ef] at h
   cases o with
   | none=>cases h
   | some j=>
    have h:some ((ρ[j]?).join.map fun m=>Slot.sh false m.val)=some (some m):=h
    cases er:ρ[j]? with
    | none=>rw [er] at h; cases h
    | some o=>
     rw [er] at h
     cases o with
     | none=>cases h
     | some m0=>
      cases h
      obtain ⟨v,ev,r⟩:=px.sl j m0 er
      refine⟨v,?_,?_⟩
      ·unfold fL
       rw [aO5,ef]
       show some ((σ[j]?).join)=_
       rw [ev]; rfl
      ·have r':aF K (fun _=>True) H1 v m0.val:=(zY (Hs:=H1) r).same (aB.refl _) fun _ _=>trivial
       exact r'.keep ⟨fun a _ _ e=>⟨old e,s _ _ e⟩,fun a _ _ e=>⟨old e,s _ _ e⟩,fun a _ _ e=>⟨old e,s _ _ e⟩,fun _ _ e=>s _ _ e,fun _ _ _ e=>s _ _ e⟩
 ·unfold lK at h1
  rw [aO5] at h1
  cases ef:fr[i]? with
  | none=>rw [ef] at h1; cases h1
  | some o=>
   rw [ef] at h1
   cases o with
   | none=>cases h1
   | some j=>
    have h1:some ((ρ[j]?).join.map fun m=>Slot.sh false m.val)=some (some (Slot.own x)):=h1
    cases er:ρ[j]? with
    | none=>rw [er] at h1; cases h1
    | some o=>
     rw [er] at h1
     cases o with
     | none=>cases h1
     | some m0=>cases h1
section
variable {X : Cx} {σ : St} {H : Hp} {Q' : VK}
noncomputable abbrev _root_.L2.Cx.frm (X:Cx) (H1:Hp):Cx:={ X with H₀:=H1 }
noncomputable def cU (ti:eW) (fr:List (Option Nat)) (p:jQ) (tc:c9) (te:aH):aH:=fun ρ Q=>ti ρ fun xs g=>xs.length<=16000000/\∃ I:Nat->List PV->Prop,I 0 []/\
 (∀ i x acc,xs[i]? = some x->I i acc->p x false (lK fr ρ) fun ρ2=>tc ρ2 fun b=>if b=true then te ρ2 fun y gy=>Nw gy y/\I (i+1) (acc ++ [y]) else I (i+1) acc)/\∀ acc,I xs.length acc->Q (.lst acc) .fr
theorem kL {ti:eW}{fr:List (Option Nat)}{p:jQ}{g:TG}{tc:c9}{te:aH}{own:Nat->Prop} (hg:mZ X.K own p g) (ho:∀ i,own i->fr[i]? = some none) (h:LE X (cU ti fr p tc te) σ H Q') :
  t6 (LI X ti) fr (fun _=>g) (fun H1=>LT (X.frm H1) tc) (fun H1=>LE (X.frm H1) te) σ H Q':=by
 obtain ⟨W,ρ,Q,px,q,k⟩:=h
 refine⟨W,ρ,_,px,q,?_⟩
 rintro J H1 xs gb s it ⟨hl,I,i0,turn,fin⟩ D hD
 have px1:=px.mono s
 refine⟨fun i m acc H'=>m=xs.length - i/\i<=xs.length/\aB H1 H'/\H' D=some (.lst acc)/\∃ ys,Reps X.K (Ms H1 (kK D) true) H' acc ys/\ys.length<=i/\I i ys,⟨xs.length,by lia,aS3 _,bK hD _,bJ,[],.nil,aO0 _,i0⟩,?_⟩
 rintro i m acc H' ⟨rfl,hi,sm,ha,ys,ry,hy,iy⟩
 refine⟨ha,?_⟩
 have ev:Ev W H1 (lG W D) H':=Ev.own sm hD
 by_cases hlt:i < xs.length
 ·refine .inr ⟨it.go _ H' i ev hlt,fun v H2 y=>?_⟩
  obtain ⟨s2,x,hx,rx⟩:=it.yld _ H' i v H2 ev y hlt
  have ha2:=s2 _ _ ha
  have pxb:PX X.K H1 (kK D) (fL fr σ) (lK fr ρ) H2:=ap0 px1 hD (sm.trans s2) ha2
  have rx':aF X.K (Ms H1 (kK D) false) H2 v x:=rx.same (aB.refl _) fun a z=>by
   cases gb with
   | true=>exact fun e=>z.1 (.inr e)
   | false=>exact fun e=>z (.inr e)
  refine hg H1 (kK D) _ _ H2 v x false _ _ pxb rx' (turn i x ys hx iy) fun σ2 ρ2 px2 hown hlen q2=>⟨⟨hlen.symm,fun j w e=>?_⟩,?_⟩
  ·by_cases oj:own j
   ·have:=ho j oj
    unfold fL at e
    rw [aO5,this] at e
    cases e
   ·rw [hown j oj]; exact e
  ·refine⟨kK D,ρ2,_,px2,q2,fun b H4 s4 q4=>?_⟩
   have ha4:=s4 _ _ ha2
   have sm4:=(sm.trans s2).trans s4
   cases b with
   | false=>
    refine bC ⟨xs.length - (i+1),by lia,rfl,hlt,sm4,ha4,ys,ry.same (s2.trans s4) fun _ z=>z,by lia,by simpa using q4⟩
   | true=>
    refine bW ⟨kK D,ρ2,_,px2.mono s4,by simpa using q4,?_⟩
    rintro w H5 y gy s5 ryy ⟨nw,q5⟩
    have ha5:=s5 _ _ ha4
    have lr:=ry.length
    refine⟨ha5,gG (by lia),xs.length - (i+1),by lia,rfl,hlt,fun b o e=>?_,bJ,ys ++ [y],?_,by rw [aP7,aS2]; lia,q5⟩
    ·rw [aZ (fun z=>by rw [z,hD] at e; cases e)]
     exact s5 _ _ (sm4 _ _ e)
    ·exact ((ry.same ((s2.trans s4).trans s5) fun _ z=>z).append (.cons (Nw.rep (px2.mono s4) nw ryy) .nil)).keep (.upd ha5 rfl fun b m=>⟨m.1,m⟩)
 ·have e:i=xs.length:=by lia
  subst e
  refine .inl ⟨it.stop _ H' ev,k _ H' _ .fr (s.trans sm) (.lst (s.free hD) ha (ry.same (aB.refl _) fun _ z=>s.free z.2)) (fin ys iy)⟩
noncomputable def cM:c9:=fun _ Q=>Q true
theorem ap1 {Qb:Bool->Hp->Prop} (h:LT X cM σ H Qb):t4 σ H Qb:=by
 obtain ⟨W,ρ,Q,px,q,k⟩:=h
 exact k _ _ (aB.refl _) q
end
section
variable {κ : Type} [DecidableEq κ]
noncomputable def cF (ps:List (κ × PV)) (k:κ):Option PV:=(ps.find? fun p=>decide (p.1=k)).map (·.2)
noncomputable def eY (ps:List (κ × PV)) (k:κ) (x:PV):List (κ × PV):=if (ps.any fun p=>decide (p.1=k))=true then ps.map (fun p=>if p.1=k then (p.1,x) else p) else ps ++ [(k,x)]
variable {K : PySem.W.Frag} {M : Addr → Prop} {H : Hp}
theorem iZ (k:κ):∀ {kvs:List (κ × V)}{ps:List (κ × PV)},kvs.map (·.1)=ps.map (·.1)->Reps K M H (kvs.map (·.2)) (ps.map (·.2))->(cF ps k=none->eU kvs k=none)/\∀ x,cF ps k=some x->∃ v,eU kvs k=some v/\aF K M H v x
 | [],[],_,_=>⟨fun _=>rfl,fun x h=>by cases h⟩
 | [],_ :: _,e,_=>by cases e
 | _ :: _,[],e,_=>by cases e
 | (k1,v) :: kvs,(k2,x) :: ps,e,r=>by
  injection e with e1 e2
  have e1:k1=k2:=e1
  subst e1
  cases r with
  | cons r t=>
   obtain ⟨h1,h2⟩:=iZ k e2 t
   unfold cF eU at h1 h2 ⊢
   by_cases e:k1=k
   ·simp only [aW5,e,decide_true,Option.map_some]
    exact⟨fun z=>(by cases z),fun y z=>(by cases z; exact⟨v,rfl,r⟩)⟩
   ·simp only [aW5,e,decide_false]
    exact⟨h1,h2⟩
theorem ap2 (k:κ) {kvs:List (κ × V)}{ps:List (κ × PV)} (e:kvs.map (·.1)=ps.map (·.1)):(kvs.any fun p=>decide (p.1=k))=ps.any fun p=>decide (p.1=k):=by
 have h1:(kvs.any fun p=>decide (p.1=k))=(kvs.map (·.1)).any fun z=>decide (z=k):=by rw [List.any_map]; rfl
 have h2:(ps.any fun p=>decide (p.1=k))=(ps.map (·.1)).any fun z=>decide (z=k):=by rw [List.any_map]; rfl
 rw [h1,h2,e]
theorem B4 (k:κ) {w:V}{y:PV} (q:aF K M H w y):∀ {kvs:List (κ × V)}{ps:List (κ × PV)},kvs.map (·.1)=ps.map (·.1)->Reps K M H (kvs.map (·.2)) (ps.map (·.2))->
  (kvs.map fun kv=>if kv.1=k then (kv.1,w) else kv).map (·.1)=(ps.map fun kv=>if kv.1=k then (kv.1,y) else kv).map (·.1)/\Reps K M H ((kvs.map fun kv=>if kv.1=k then (kv.1,w) else kv).map (·.2)) ((ps.map fun kv=>if kv.1=k then (kv.1,y) else kv).map (·.2))
 | [],[],_,_=>⟨rfl,.nil⟩
 | [],_ :: _,e,_=>by cases e
 | _ :: _,[],e,_=>by cases e
 | (k1,v) :: kvs,(k2,x) :: ps,e,r=>by
  injection e with e1 e2
  have e1:k1=k2:=e1
  subst e1
  cases r with
  | cons r t=>
   obtain ⟨h1,h2⟩:=B4 k q e2 t
   by_cases e:k1=k
   ·simp only [aS6,e,if_true]
    exact⟨by rw [h1],.cons q h2⟩
   ·simp only [aS6,e,aT8]
    exact⟨by rw [h1],.cons r h2⟩
theorem ap3 (k:κ) {w:V}{y:PV} (q:aF K M H w y) {kvs:List (κ × V)}{ps:List (κ × PV)} (e:kvs.map (·.1)=ps.map (·.1)) (r:Reps K M H (kvs.map (·.2)) (ps.map (·.2))) :
  (dU kvs k w).map (·.1)=(eY ps k y).map (·.1)/\Reps K M H ((dU kvs k w).map (·.2)) ((eY ps k y).map (·.2)):=by
 unfold dU eY
 rw [ap2 k e]
 split
 ·exact B4 k q e r
 ·rw [aQ0,aQ0,aQ0,aQ0,e]
  exact⟨rfl,r.append (.cons q .nil)⟩
end
noncomputable def kP:aG->PV
 | .inl i=>.int i
 | .inr x=>.str x
theorem u8 {K:PySem.W.Frag}{M:Addr->Prop}{H:Hp}{v:V}{k:aG} (r:aF K M H v (kP k)):v=kV k:=by
 cases k with
 | inl i=>cases r; rfl
 | inr x=>cases r; rfl
theorem B5 {K:PySem.W.Frag}{M:Addr->Prop}{H:Hp}:∀ {ks:List aG}{us:List V},Reps K M H us (ks.map kP)->us=ks.map kV
 | [],_,.nil=>rfl
 | k :: r,_,.cons q t=>by rw [u8 q,B5 t]; rfl
noncomputable def B6:PV->PV
 | .fK ps=>.dK ps
 | .fT ps=>.dT ps
 | x=>x
noncomputable def B7 (x y:PV) (o:Option PV):Prop:=(∃ ps k,B6 x = .dK ps/\y=kP k/\o=cF ps k) ∨ (∃ ps k,B6 x = .dT ps/\y = .tup (k.map kP)/\o=cF ps k)
theorem B8 {K:PySem.W.Frag}{M M2:Addr->Prop}{H:Hp}{v w:V}{x y:PV}{o:Option PV} (h:B7 x y o) (rx:aF K M H v x) (ry:aF K M2 H w y):∃ a o',v = .ref a/\gO H a w o'/\(o=none->o'=none)/\∀ z,o=some z->∃ u,o'=some u/\aF K M H u z:=by
 rcases h with ⟨ps,k,ex,rfl,rfl⟩ | ⟨ps,k,ex,rfl,rfl⟩
 ·obtain rfl:=u8 ry
  cases rx with
  | dK m h e r=>cases ex; exact⟨_,_,rfl,gO.k h,(iZ k e r).1,(iZ k e r).2⟩
  | fK h e r=>cases ex; exact⟨_,_,rfl,.inl ⟨_,k,.inr ⟨_,h⟩,rfl,rfl⟩,(iZ k e r).1,(iZ k e r).2⟩
  | _=>cases ex
 ·obtain ⟨b,us,rfl,hb,rb⟩:=ry.sqT
  obtain rfl:=B5 rb
  cases rx with
  | dT m h e r=>cases ex; exact⟨_,_,rfl,gO.t h hb,(iZ k e r).1,(iZ k e r).2⟩
  | fT h e r=>cases ex; exact⟨_,_,rfl,.inr ⟨_,k,b,.inr ⟨_,h⟩,rfl,hb,rfl⟩,(iZ k e r).1,(iZ k e r).2⟩
  | _=>cases ex
section
variable {X : Cx} {σ : St} {H : Hp} {D : dZ} {tk td te : aH} {Q' : VK}
noncomputable def kM (neg:Bool) (tk td:aH):aH:=fun ρ Q=>tk ρ fun y _=>td ρ fun x _=>∃ o,B7 x y o/\Q (.bl (if neg=true then !o.isSome else o.isSome)) .fr
theorem B9 {α β:Type}{o:Option α}{o':Option β}{P:β->α->Prop} (h1:o=none->o'=none) (h2:∀ z,o=some z->∃ u,o'=some u/\P u z):o'.isSome=o.isSome:=by
 cases o with
 | none=>rw [h1 rfl]; rfl
 | some z=>obtain ⟨u,e,_⟩:=h2 z rfl; rw [e]; rfl
theorem ap4 (h:LE X (kM false tk td) σ H Q'):yG (LE X tk) (LE X td) σ H Q':=by
 obtain ⟨W,ρ,Q,px,q,k⟩:=h
 refine⟨W,ρ,_,px,q,fun w H1 y g s r q=>⟨W,ρ,_,px.mono s,q,?_⟩⟩
 rintro v H2 x g' s2 r2 ⟨o,ak,q⟩
 obtain ⟨a,o',rfl,dg,h1,h2⟩:=B8 ak r2 (r.same s2 fun _ z=>z)
 refine⟨a,o',rfl,dg,?_⟩
 rw [B9 h1 h2]
 exact k _ _ _ .fr (s.trans s2) (.bl _) q
theorem ap5 (h:LE X (kM true tk td) σ H Q'):yH (LE X tk) (LE X td) σ H Q':=by
 obtain ⟨W,ρ,Q,px,q,k⟩:=h
 refine⟨W,ρ,_,px,q,fun w H1 y g s r q=>⟨W,ρ,_,px.mono s,q,?_⟩⟩
 rintro v H2 x g' s2 r2 ⟨o,ak,q⟩
 obtain ⟨a,o',rfl,dg,h1,h2⟩:=B8 ak r2 (r.same s2 fun _ z=>z)
 refine⟨a,o',rfl,dg,?_⟩
 rw [B9 h1 h2]
 exact k _ _ _ .fr (s.trans s2) (.bl _) q
theorem PX.updD {K:PySem.W.Frag}{H0:Hp}{W:Addr->Prop}{σ:St}{ρ:bG}{H:Hp}{i:Nat}{a:Addr}{x:PV}{kvs:List (aG × V)}{ps:List (aG × PV)} (p:PX K H0 W σ ρ H) (hi:ρ[i]? = some (some (.own x))) (ha:σ[i]? = some (some (.ref a))) (wa:W a)
  (r:kvs.map (·.1)=ps.map (·.1)/\Reps K (Ms H0 W true) (upd H a (.dK kvs)) (kvs.map (·.2)) (ps.map (·.2))):PX K H0 W σ (ρ.set i (some (.own (.dK ps)))) (upd H a (.dK kvs)):=p.updOwn hi ha wa rfl (y:=.dK ps) ⟨kvs,bJ,r⟩
theorem ap6 {κ α β:Type}{l:List (κ × α)}{m:List (κ × β)} (e:l.map (·.1)=m.map (·.1)):l.length=m.length:=by
 have:=congrArg List.length e
 rw [aN6,aN6] at this
 exact this
noncomputable def pL (i:Nat) (tk te:aH):aQ:=fun D ρ=>te ρ fun z g=>∃ ps,ρ[i]? = some (some (.own (.dK ps)))/\tk ρ fun y _=>∃ k,y=kP k/\Nw g z/\ps.length < 16000000/\D.nx (ρ.set i (some (.own (.dK (eY ps k z)))))
theorem ap7 {i:Nat} (h:LS X (pL i tk te) D σ H):yI (i4 i) (LE X tk) (LE X te) D σ H:=by
 obtain ⟨W,ρ,D',px,q,k⟩:=h
 refine⟨W,ρ,_,px,q,?_⟩
 rintro w H1 z g s rz ⟨ps,hi,q⟩
 obtain ⟨v,ev,a,rfl,wa,kvs,ea,e1,r⟩:=(px.mono s).sl i _ hi
 refine⟨_,ev,W,ρ,_,px.mono s,q,?_⟩
 rintro kv H2 y g' s2 ry ⟨kk,rfl,nw,hl,q⟩
 obtain rfl:=u8 ry
 have ea2:=s2 _ _ ea
 refine⟨a,_,rfl,mK.k ea2 (gG (by rw [ap6 e1]; lia)),?_⟩
 refine k.nx W σ _ _ ((Ev.same (s.trans s2)).trans (Ev.upd wa)) ((px.mono (s.trans s2)).updD hi ev wa ?_) q
 obtain ⟨h1,h2⟩:=ap3 kk ((Nw.rep px nw rz).same s2 fun _ z=>z) e1 (r.same s2 fun _ z=>z)
 exact⟨h1,h2.keep (.upd ea2 rfl fun b m=>⟨kG wa m,m⟩)⟩
theorem ap8 (h:LE X (qC (.dK [])) σ H Q'):yK σ H Q':=by
 obtain ⟨W,ρ,Q,px,q,k⟩:=h
 exact fun p hp=>k _ _ _ .fr (bK hp _) (.dK hp bJ rfl .nil) q
end
noncomputable def bN:Nat->PV->PV->Bool
 | _,.non,.non=>true
 | _,.bl a,.bl b=>a == b
 | _,.int a,.int b=>a == b
 | _,.str a,.str b=>a == b
 | n+1,.tup xs,.tup ys=>(xs.zip ys).all (fun p=>bN n p.1 p.2) && xs.length == ys.length
 | n+1,.lst xs,.lst ys=>(xs.zip ys).all (fun p=>bN n p.1 p.2) && xs.length == ys.length
 | n+1,.kt xs,.kt ys=>(xs.zip ys).all (fun p=>bN n p.1 p.2) && xs.length == ys.length
 | _,_,_=>false
noncomputable def cN:Nat->PV->PV->Bool
 | _,.non,.non=>true
 | _,.bl _,.bl _=>true
 | _,.int _,.int _=>true
 | _,.str _,.str _=>true
 | _,.non,.int _=>true
 | _,.int _,.non=>true
 | n+1,.tup xs,.tup ys=>(xs.zip ys).all (fun p=>cN n p.1 p.2)
 | n+1,.lst xs,.lst ys=>(xs.zip ys).all (fun p=>cN n p.1 p.2)
 | n+1,.kt xs,.kt ys=>(xs.zip ys).all (fun p=>cN n p.1 p.2)
 | _+1,.non,.tup _=>true
 | _+1,.tup _,.non=>true
 | _,_,_=>false
theorem ap9 (n:Nat) (a b:Int):bN n (.int a) (.int b)=(a == b):=by cases n <;> rfl
theorem u9 (n:Nat):∀ (a b:List Int),((((intz a).zip (intz b)).all fun p=>bN n p.1 p.2) && (intz a).length == (intz b).length)=decide (a=b)
 | [],[]=>rfl
 | [],_ :: _=>by simp
 | _ :: _,[]=>by simp
 | x :: a,y :: b=>by
  have ih:=u9 n a b
  simp only [aS6,ba2,aW9,aP8,ap9] at ih ⊢
  by_cases e:x=y
  ·subst e
   have:((intz a).length+1 == (intz b).length+1)=((intz a).length == (intz b).length):=by simp
   rw [this,aV6,Bool.true_and,ih]
   simp
  ·have:(x == y)=false:=beq_eq_false_iff_ne.mpr e
   rw [this,aZ8,aZ8]
   simp [e]
theorem C0 (n:Nat) (a b:List Int):bN (n+1) (.tup (intz a)) (.tup (intz b))=decide (a=b):=u9 n a b
theorem aq0 (n:Nat) (a b:List Int):bN (n+1) (.lst (intz a)) (.lst (intz b))=decide (a=b):=u9 n a b
theorem uA (n:Nat):∀ (a b:List Int),(((intz a).zip (intz b)).all fun p=>cN n p.1 p.2)=true
 | [],_=>by simp
 | _ :: _,[]=>by simp
 | x :: a,y :: b=>by
  simp only [aS6,ba2,aW9,uA n a b,Bool.and_true]
  cases n <;> rfl
theorem C1 (n:Nat) (a b:List Int):cN (n+1) (.tup (intz a)) (.tup (intz b))=true:=uA n a b
theorem aq1 (n:Nat) (a b:List Int):cN (n+1) (.lst (intz a)) (.lst (intz b))=true:=uA n a b
noncomputable def pM (neg:Bool):PV->Tg->PV->Tg->PK->Prop:=fun x _ y _ Q=>∃ i ns,x = .int i/\iY y=some (intz ns)/\Q (.bl (if neg=true then !decide (i ∈ ns) else decide (i ∈ ns))) .fr
noncomputable def C2:PV->Option String
 | .non=>some "NoneType"
 | .bl _=>some "bool"
 | .int _=>some "int"
 | .str _=>some "str"
 | .tup _=>some "tuple"
 | .kt _=>some "tuple"
 | .lst _=>some "list"
 | _=>none
noncomputable def jR (K:PySem.W.Frag) (n:String) (te:aH):aH:=fun ρ Q=>te ρ fun x _=>∃ T b,C2 x=some T/\PySem.W.kitOne K (.type T) (.type n)=some b/\Q (.bl b) .fr
noncomputable def nA (n:Nat) (neg:Bool):PV->Tg->PV->Tg->PK->Prop:=fun x _ y _ Q=>((∃ xs ys,x = .tup xs/\y = .tup ys) ∨ (∃ xs ys,x = .lst xs/\y = .lst ys))/\cN (n+1) x y=true/\Q (.bl (if neg=true then !bN (n+1) x y else bN (n+1) x y)) .fr
noncomputable abbrev lM:=bG->(Option Int->Prop)->Prop
noncomputable def gT (xs:List PV) (lo hi:Option Int):List PV:=(xs.drop (HT.aV xs.length 0 lo)).take (HT.aV xs.length xs.length hi - HT.aV xs.length 0 lo)
noncomputable def aq2:PV->List PV->PV
 | .tup _,ys=>.tup ys
 | .kt _,ys=>.tup ys
 | _,ys=>.lst ys
noncomputable def uB:lM:=fun _ Q=>Q none
noncomputable def nB (te:aH):lM:=fun ρ Q=>te ρ fun x _=>∃ i,x = .int i/\Q (some i)
noncomputable def pN (te:aH) (tl th:lM):aH:=fun ρ Q=>te ρ fun x _=>tl ρ fun lo=>th ρ fun hi=>∃ xs,seqT x=some xs/\flats xs=true/\Q (aq2 x (gT xs lo hi)) .fr
noncomputable def fO (N:List Str) (xs:List PV):bG:=xs.map (fun x=>some (.sh (flat x) x)) ++ List.replicate (N.length - xs.length) none
noncomputable abbrev bX (ta tb:aH):aH:=q2 (eG fun i j=>.int (i+j)) ta tb
noncomputable abbrev j3 (ta tb:aH):aH:=q2 (eG fun i j=>.int (i - j)) ta tb
noncomputable abbrev nC (ta tb:aH):aH:=q2 (RI mC fun i j=>.int (i * j)) ta tb
noncomputable abbrev gU (ta tb:aH):aH:=q2 (RI rT fun i j=>.int (i / j)) ta tb
noncomputable abbrev cA (ta tb:aH):aH:=q2 (RI (fun _ j=>0 < j) fun i j=>.int (i % j)) ta tb
noncomputable abbrev pO (ta tb:aH):aH:=q2 (RI rU fun i j=>.int (i ^ j.toNat)) ta tb
noncomputable abbrev lN (ta tb:aH):aH:=q2 (eG fun i j=>.bl (decide (i < j))) ta tb
noncomputable abbrev qLe (ta tb:aH):aH:=q2 (eG fun i j=>.bl (decide (i<=j))) ta tb
noncomputable abbrev qGt (ta tb:aH):aH:=q2 (eG fun i j=>.bl (decide (j < i))) ta tb
noncomputable abbrev C3 (ta tb:aH):aH:=q2 (eG fun i j=>.bl (decide (j<=i))) ta tb
noncomputable abbrev lO (ta tb:aH):aH:=q2 (kE false) ta tb
noncomputable abbrev uC (ta tb:aH):aH:=q2 (kE true) ta tb
noncomputable abbrev b8 (ta tb:aH):aH:=q2 tY ta tb
noncomputable def iA:List PV->(PV->Prop)->Prop:=fun xs Q=>A9 xs Q/\∀ ns,xs ≠ [.scr ns]
noncomputable def pP:aQ:=fun _ _=>False
noncomputable def QE (X:Cx) (e:Expr) (t:aH):Prop:=PE X e (LE X t)
noncomputable def QT (X:Cx) (e:Expr) (t:c9):Prop:=PT X e (LT X t)
noncomputable def QW (X:Cx) (e:Expr) (t:c9):Prop:=PW X e (LT X t)
noncomputable def QA (X:Cx) (es:List Expr) (t:cT):Prop:=PA X es (LA X t)
noncomputable def QS (X:Cx) (st:Stmt) (t:aQ):Prop:=PS X st (LS X t)
noncomputable def eZ (X:Cx) (st:List Stmt) (t:aQ):Prop:=e6 X st (LS X t)
noncomputable def QI (X:Cx) (tg iter:Expr) (t:eW):Prop:=PI X tg iter (LI X t)
section
variable {X : Cx}
theorem cD {e:Expr}{t t':TE} (h:PE X e t) (m:∀ σ H Q,t' σ H Q->t σ H Q):PE X e t':=fun pins s σ H Q I q=>h pins s σ H Q I (m σ H Q q)
theorem lP {e:Expr}{t t':TT} (h:PT X e t) (m:∀ σ H Q,t' σ H Q->t σ H Q):PT X e t':=fun pins s σ H Q I q=>h pins s σ H Q I (m σ H Q q)
theorem C4 {e:Expr}{t t':TT} (h:PW X e t) (m:∀ σ H Q,t' σ H Q->t σ H Q):PW X e t':=fun wh pins s σ H Q I q=>h wh pins s σ H Q I (m σ H Q q)
theorem C5 {e:List Expr}{t t':TA} (h:PA X e t) (m:∀ σ H Q,t' σ H Q->t σ H Q):PA X e t':=fun pos pins s σ H Q I q=>h pos pins s σ H Q I (m σ H Q q)
theorem dG {e:Stmt}{t t':TS} (h:PS X e t) (m:∀ D σ H,t' D σ H->t D σ H):PS X e t':=fun pins s σ H D I q=>h pins s σ H D I (m D σ H q)
theorem C6 {e:List Stmt}{t t':TS} (h:e6 X e t) (m:∀ D σ H,t' D σ H->t D σ H):e6 X e t':=fun pins s σ H D I q=>h pins s σ H D I (m D σ H q)
theorem pQ {tg e:Expr}{t t':TI} (h:PI X tg e t) (m:∀ σ H R,t' σ H R->t σ H R):PI X tg e t':=fun pins s σ H R I q=>h pins s σ H R I (m σ H R q)
variable {a b c e o : Expr} {es dM : List Expr} {ta tb te to tk : aH} {tr : cT} {tA tB' tc : c9} {pos p2 px : Pos} {st : Stmt} {sts : List Stmt} {t u : aQ}
theorem qv (i:Nat) {x:Str}{pos:Pos} (hN:X.N[i]? = some x:=by rfl) (hv:gA X.env.scope x:=by first | exact Or.inl rfl | exact Or.inr (Or.inl rfl) | exact Or.inr (Or.inr rfl)) (hd:(x == ("__debug__" : Str))=false:=by decide)
  (hcd:(x == ("__classdict__" : Str))=false:=by decide):QE X (.Name x pos) (a5 i):=cD (iK hN hv hd hcd) fun _ _ _=>al0
theorem aD {i j}:QE X (.Constant (.int i) j pos) (qC (.int i)):=cD jY fun _ _ _=>pA fun _=>.int i
theorem kN {i j}:QE X (.Constant (.bool i) j pos) (qC (.bl i)):=cD w6 fun _ _ _=>pA fun _=>.bl i
theorem C7 {j}:QE X (.Constant .none j pos) (qC .non):=cD X4 fun _ _ _=>pA fun _=>.non
theorem aq3 {i j}:QE X (.Constant (.str i) j pos) (qC (.str i)):=cD X5 fun _ _ _=>pA fun _=>.str i
theorem kO {op:Operator}{R:PV->Tg->PV->Tg->PK->Prop}{r:R2} (ho:cE X (binaryOp op) r) (cv:eV X R r) (ha:QE X a ta) (hb:QE X b tb):QE X (.BinOp a op b pos) (q2 R ta tb):=cD (aa1 ho ha hb) fun _ _ _=>pB cv
theorem cG (ha:QE X a ta) (hb:QE X b tb):QE X (.BinOp a .Add b pos) (q2 (eG fun i j=>.int (i+j)) ta tb):=kO aa2 zZ ha hb
theorem j4 (ha:QE X a ta) (hb:QE X b tb):QE X (.BinOp a .Sub b pos) (q2 (eG fun i j=>.int (i - j)) ta tb):=kO aa3 zZ ha hb
theorem nD (ha:QE X a ta) (hb:QE X b tb):QE X (.BinOp a .Mult b pos) (q2 (RI mC fun i j=>.int (i * j)) ta tb):=kO aa4 pC ha hb
theorem iB (ha:QE X a ta) (hb:QE X b tb):QE X (.BinOp a .FloorDiv b pos) (q2 (RI rT fun i j=>.int (i / j)) ta tb):=kO aa5 pC ha hb
theorem dA (ha:QE X a ta) (hb:QE X b tb):QE X (.BinOp a .Mod b pos) (q2 (RI (fun _ j=>0 < j) fun i j=>.int (i % j)) ta tb):=kO aa6 pC ha hb
theorem C8 (ha:QE X a ta) (hb:QE X b tb):QE X (.BinOp a .Pow b pos) (q2 (RI rU fun i j=>.int (i ^ j.toNat)) ta tb):=kO aa7 pC ha hb
theorem uD {op:CmpOp}{R:PV->Tg->PV->Tg->PK->Prop}{r:R2} (ho:cE X (compareOp op) r) (cv:eV X R r) (ha:QE X a ta) (hb:QE X b tb) (hm:behindInMarks op b=false):QE X (.Compare a [op] [b] pos) (q2 R ta tb):=cD (rY ho ha hb hm) fun _ _ _=>pB cv
theorem iC {op:CmpOp}{R:PV->Tg->PV->Tg->PK->Prop}{r:R2} (ho:cE X (compareOp op) r) (cv:eV X R r) (ha:QE X a ta) (hb:QE X b tb) (hm:behindInMarks op b=false):QT X (.Compare a [op] [b] pos) (bA (q2 R ta tb)):=lP (ab1 ho ha hb hm) fun _ _ _ h=>pB cv (pD h)
theorem C9 (ha:QE X a ta) (hb:QE X b tb):QE X (.Compare a [.Lt] [b] pos) (q2 (eG fun i j=>.bl (decide (i < j))) ta tb):=uD oE lF ha hb (fH _)
theorem aq4 (ha:QE X a ta) (hb:QE X b tb):QE X (.Compare a [.GtE] [b] pos) (q2 (eG fun i j=>.bl (decide (j<=i))) ta tb):=uD wZ lF ha hb (fH _)
theorem E1 (ha:QE X a ta) (hb:QE X b tb):QE X (.Compare a [.Eq] [b] pos) (q2 (kE false) ta tb):=uD rX A2 ha hb (fH _)
theorem pR (ha:QE X a ta) (hb:QE X b tb):QT X (.Compare a [.Lt] [b] pos) (bA (q2 (eG fun i j=>.bl (decide (i < j))) ta tb)):=iC oE lF ha hb (fH _)
theorem aq5 (ha:QE X a ta) (hb:QE X b tb):QT X (.Compare a [.LtE] [b] pos) (bA (q2 (eG fun i j=>.bl (decide (i<=j))) ta tb)):=iC aa8 lF ha hb (fH _)
theorem aq6 (ha:QE X a ta) (hb:QE X b tb):QT X (.Compare a [.Gt] [b] pos) (bA (q2 (eG fun i j=>.bl (decide (j < i))) ta tb)):=iC aa9 lF ha hb (fH _)
theorem aq7 (ha:QE X a ta) (hb:QE X b tb):QT X (.Compare a [.GtE] [b] pos) (bA (q2 (eG fun i j=>.bl (decide (j<=i))) ta tb)):=iC wZ lF ha hb (fH _)
theorem pS (ha:QE X a ta) (hb:QE X b tb):QT X (.Compare a [.Eq] [b] pos) (bA (q2 (kE false) ta tb)):=iC rX A2 ha hb (fH _)
theorem uE (ha:QE X a ta) (hb:QE X b tb):QT X (.Compare a [.NotEq] [b] pos) (bA (q2 (kE true) ta tb)):=iC wY al1 ha hb (fH _)
theorem aq8 (hu:X.A.units+1 < cLine) (hk:QE X a tk) (hd:QE X b te) (hm:behindInMarks .In b=false:=by rfl):QT X (.Compare a [.In] [b] pos) (bA (kM false tk te)):=lP (wA (af6 hu hk hd) hm) fun _ _ _ h=>ap4 (pD h)
theorem E2 (hu:X.A.units+1 < cLine) (hk:QE X a tk) (hd:QE X b te) (hm:behindInMarks .NotIn b=false:=by rfl):QT X (.Compare a [.NotIn] [b] pos) (bA (kM true tk te)):=lP (wA (af7 hu hk hd) hm) fun _ _ _ h=>ap5 (pD h)
theorem kQ (h:QE X e te) (he:∀ whole,isTrue e X.env whole=(do let v <- whole; standAt e.pos; holding [v] (truthy v)):=by intro _; rfl):QT X e (bA te):=lP (X7 h he) fun _ _ _ h=>pD h
theorem pT (h:QE X e te) (he:∀ whole,isTrue e X.env whole=(do let v <- whole; standAt e.pos; holding [v] (truthy v)):=by intro _; rfl):QT X e (lI te):=lP (ab4 h he) fun _ _ _ h=>ao5 h
theorem aq9 (ha:QT X a tA):QW X (.BoolOp .And [a] pos) tA:=X8 ha
theorem E3 (ha:QT X a tA):QW X (.BoolOp .Or [a] pos) tA:=X9 ha
theorem ar0 (ha:QT X a tA) (hb:QW X (.BoolOp .And (b :: dM) pos) tB'):QW X (.BoolOp .And (a :: b :: dM) pos) (tR tA tB'):=C4 (Y0 ha hb) fun _ _ _=>al2
theorem nE (ha:QT X a tA) (hb:QW X (.BoolOp .Or (b :: dM) pos) tB'):QW X (.BoolOp .Or (a :: b :: dM) pos) (kF tA tB'):=C4 (Y1 ha hb) fun _ _ _=>al3
theorem uF (h:QW X e tA):QT X e tA:=PW.pt h
theorem lQ (ha:QT X a tA):QT X (.UnaryOp .Not a pos) (jN tA):=lP (Y2 ha) fun _ _ _=>al4
theorem uG {op} (h:QE X a ta):QE X (.BoolOp op [a] pos) ta:=Y3 h
theorem uH (ha:QE X a ta) (hb:QE X (.BoolOp .And (b :: dM) pos) tb):QE X (.BoolOp .And (a :: b :: dM) pos) (mU ta tb):=cD (Y4 ha hb) fun _ _ _=>al5
theorem ar1 (ha:QE X a ta):QE X (.UnaryOp .Not a pos) (tS ta):=cD (Y5 ha) fun _ _ _=>al6
theorem aA:QA X [] a9:=C5 dD fun _ _ _=>al7
theorem a8 (ha:QE X e te) (hr:QA X es tr) (hs:starEach (e :: es) X.env=(false,eval e X.env) :: starEach es X.env:=by rfl):QA X (e :: es) (a7 te tr):=C5 (cL ha hr hs) fun _ _ _=>al8
theorem jS {x1} (h:QA X es tr):QE X (.Tuple es x1 pos) (i8 tr):=cD (x5 h) fun _ _ _=>am0
theorem ar2 {x1} (h:QA X es tr):QE X (.Tuple es x1 pos) (tT tr):=cD (x5 h) fun _ _ _=>al9
theorem fY (h:QA X es tr):QE X (.List es pos) (eI tr):=cD (sD h) fun _ _ _=>am1
theorem b9 (ha:QE X a ta) (hb:QE X b tb) (hs:xJ b:=by exact fun _ _=>rfl):QE X (.Subscript a b pos) (q2 tY ta tb):=cD (iP ad4 ha hb hs) fun _ _ _=>pB an5
theorem ar3:QE X (.Dict [] [] pos) (qC (.dK [])):=cD af9 fun _ _ _=>ap8
theorem j5 {x:Str}{id:String}{R:List PV->(PV->Prop)->Prop}{r:List V->Hp->VK->Prop} (hc:cK X (.builtin id) r) (cv:fN X R r) (hg:Gl X x) (hm:X.mg x=none) (hv:bootBuiltins x=some (.builtin id)) (ha:QA X (e :: es) tr) (hn:x ≠ "__name__":=by decide) (hdb:(x == ("__debug__" : Str))=false:=by decide)
  (he:starEach (e :: es) X.env=(false,eval e X.env) :: starEach es X.env:=by rfl) (hpl:(backTo pos (starEach es X.env)).any (·.1)=false:=by rfl):QE X (.Call (.Name x p2) (e :: es) [] pos) (aC R tr):=cD (oH hc hg hm hv ha hn hdb he hpl) fun _ _ _=>A3 cv
theorem E4 {x:Str}{T:String}{R:List PV->(PV->Prop)->Prop}{r:List V->Hp->VK->Prop} (hc:cK X (.type T) r) (cv:fN X R r) (hg:Gl X x) (hm:X.mg x=none) (hv:bootBuiltins x=some (.type T)) (ha:QA X (e :: es) tr) (hn:x ≠ "__name__":=by decide) (hdb:(x == ("__debug__" : Str))=false:=by decide)
  (he:starEach (e :: es) X.env=(false,eval e X.env) :: starEach es X.env:=by rfl) (hpl:(backTo pos (starEach es X.env)).any (·.1)=false:=by rfl):QE X (.Call (.Name x p2) (e :: es) [] pos) (aC R tr):=cD (xD hc hg hm hv ha hn hdb he hpl) fun _ _ _=>A3 cv
theorem cV:eZ X [] cI:=C6 Y7 fun _ _ _=>am2
theorem aI (h1:QS X st t) (h2:eZ X sts u):eZ X (st :: sts) (aE t u):=C6 (jZ h1 h2) fun _ _ _=>am3
theorem aW (h1:QS X st t):eZ X [st] t:=k6 h1
theorem uI:QS X st pP:=dG Z0 fun _ _ _ ⟨_,_,_,_,h,_⟩=>h
theorem bB {i:Nat}{x:Str} (hN:X.N.Nodup) (he:QE X e te) (hi:X.N[i]? = some x:=by rfl) (hx:i3 X.env.scope x:=by first | exact Or.inl rfl | exact Or.inr rfl) (hs:swapsWith e (some (.Name x p2)) pos.line X.env=pure false:=by rfl) (hf:X.fn x=true ∨ X.env.scope.names.lookup x=some .local:=by first | exact .inl rfl | exact .inr rfl) :
  QS X (.Assign [.Name x p2] e pos) (b4 i te):=dG (rQ hN hi hx he hs hf) fun _ _ _=>pG
theorem fA {i:Nat}{x:Str} (hN:X.N.Nodup) (he:QE X e te) (hi:X.N[i]? = some x:=by rfl) (hx:i3 X.env.scope x:=by first | exact Or.inl rfl | exact Or.inr rfl) (hs:swapsWith e (some (.Name x p2)) pos.line X.env=pure false:=by rfl) (hf:X.fn x=true ∨ X.env.scope.names.lookup x=some .local:=by first | exact .inl rfl | exact .inr rfl) :
  QS X (.Assign [.Name x p2] e pos) (dN i te):=dG (rQ hN hi hx he hs hf) fun _ _ _=>A7
theorem uJ (i:Nat) (h:QS X st t):QS X st (mW i t):=dG h fun _ _ _=>am6
theorem bV (he:QE X e te):QS X (.Return (some e) pos) (bM te):=dG (kY he) fun _ _ _=>am7
theorem nF (i:Nat) {x:Str} (hN:X.N[i]? = some x:=by rfl) (hv:gA X.env.scope x:=by first | exact Or.inl rfl | exact Or.inr (Or.inl rfl) | exact Or.inr (Or.inr rfl)) (hd:(x == ("__debug__" : Str))=false:=by decide) (hcd:(x == ("__classdict__" : Str))=false:=by decide) :
  QS X (.Return (some (.Name x p2)) pos) (jO i):=dG (kY (iK hN hv hd hcd)) fun _ _ _=>am8
theorem cW {sa sb:List Stmt} (hc:QT X c tc) (ha:eZ X sa t) (hb:eZ X sb u):QS X (.If c sa sb pos) (cJ tc t u):=dG (Y8 hc ha hb) fun _ _ _=>am9
theorem pU {body:List Stmt} (hp:PassesOwn (model X.prog X.w) X.A X.env X.xe) (hc:QT X c tc) (hb:eZ X body t):QS X (.While c body [] pos) (lH tc t):=dG (Z3 hp hc hb) fun _ _ _=>an0
theorem jT (i:Nat) {x:Str}{apos cpos xpos:Pos} (he:QE X e te) (hN:X.N[i]? = some x:=by rfl) (hv:gA X.env.scope x:=by first | exact Or.inl rfl | exact Or.inr (Or.inl rfl) | exact Or.inr (Or.inr rfl)) (hd:(x == ("__debug__" : Str))=false:=by decide) (hcd:(x == ("__classdict__" : Str))=false:=by decide)
  (hbase:attributeBase (.Name x xpos) "append" X.env (eval (.Name x xpos) X.env)=eval (.Name x xpos) X.env:=by rfl)
  (hfew:((backTo cpos (starEach [e] X.env)).all (fun x=>!x.1) && (backToKw cpos (keywordEach [] X.env)).all (fun x=>x.1.isSome) && decide (([e]:List Expr).length+([]:List Keyword).length+(if ([]:List Keyword).isEmpty then 0 else 1) < 30))=true:=by rfl)
  (hline:(apos.endLine == cpos.line)=true:=by rfl) (hs:starEach [e] X.env=(false,eval e X.env) :: starEach [] X.env:=by rfl) (hplain:(backTo cpos (starEach [] X.env)).any (·.1)=false:=by rfl)
  (hsw:swapsWith (.Call (.Attribute (.Name x xpos) "append" apos) [e] [] cpos) none pos.line X.env=pure false:=by rfl) :
  QS X (.Expr (.Call (.Attribute (.Name x xpos) "append" apos) [e] [] cpos) pos) (gI i te):=
 dG (k7 (kB aT9 aY0 aY1 l8 (iK hN hv hd hcd) (cL he dD hs) hbase hfew hline hs hplain) hsw) fun _ _ _=>an1
theorem E5 {i:Nat}{x:Str}{xpos tpos:Pos} (hu:X.A.units+1 < cLine) (hk:QE X a tk) (he:QE X e te) (hN:X.N[i]? = some x:=by rfl) (hv:gA X.env.scope x:=by first | exact Or.inl rfl | exact Or.inr (Or.inl rfl) | exact Or.inr (Or.inr rfl)) (hd:(x == ("__debug__" : Str))=false:=by decide) (hcd:(x == ("__classdict__" : Str))=false:=by decide)
  (hs:swapsWith e (some (.Subscript (.Name x xpos) a tpos)) pos.line X.env=pure false:=by rfl):QS X (.Assign [.Subscript (.Name x xpos) a tpos] e pos) (pL i tk te):=dG (af8 hu (iK hN hv hd hcd) hk he hs) fun _ _ _=>ap7
theorem ar4 {tg l:Expr}{tl:TE} (hl:PE X l tl):PI X tg l (B0 X.K tl):=by
 intro pins s σ H R I h
 refine aO (hl pins s σ H _ I h) fun v s1 ⟨x,H1,I1,r1,q1⟩=>?_
 obtain ⟨a,e,q⟩:=q1
 subst e
 cases r1
 rcases q with ⟨xs,hq,q⟩ | ⟨xs,hq,q⟩
 ·obtain ⟨its,rv,p,hz⟩:=I1.list hq
  refine wpAny_pyIter_list p.isList ?_
  refine⟨s1.heap.objs.size,[s1.heap.objs.size],_,_,H1,rfl,I1.kept (t':=s1.toks) fun b o e=>aN4 _ e,Z4 a _,⟨_,aP5 _ rfl,rfl,rfl⟩,fun b hb=>?_,q⟩
  have e:b=s1.heap.objs.size:=by simpa using hb
  subst e
  exact I1.fpOk (aO0 _) (I1.hok.fresh (aO0 _))
 ·obtain ⟨its,rv,p,hz⟩:=I1.tuple hq
  refine wpAny_pyIter_tuple (show s1.heap.IsTuple a its.toArray from p) ?_
  refine⟨s1.heap.objs.size,[s1.heap.objs.size],_,_,H1,rfl,I1.kept (t':=s1.toks) fun b o e=>aN4 _ e,wM a _,⟨_,aP5 _ rfl,rfl,rfl⟩,fun b hb=>?_,q⟩
  have e:b=s1.heap.objs.size:=by simpa using hb
  subst e
  exact I1.fpOk (aO0 _) (I1.hok.fresh (aO0 _))
theorem eN {tg l:Expr} (hl:QE X l te):QI X tg l (dO te):=pQ (ar4 hl) fun _ _ _=>ao6
theorem lR {tg:Expr} (hg:Gl X "range") (hm:X.mg "range" = none) (ha:QE X a ta) (hs:starEach [a] X.env = [(false,eval a X.env)]:=by rfl):QI X tg (.Call (.Name "range" p2) [a] [] pos) (jP ta):=pQ (Z7 hg hm (cL ha dD hs) hs) fun _ _ _=>ao7
theorem E6 {tg:Expr} (hg:Gl X "range") (hm:X.mg "range" = none) (ha:QE X a ta) (hb:QE X b tb) (hs:starEach [a,b] X.env = [(false,eval a X.env),(false,eval b X.env)]:=by rfl) (hs2:starEach [b] X.env = [(false,eval b X.env)]:=by rfl) :
  QI X tg (.Call (.Name "range" p2) [a,b] [] pos) (pJ ta tb):=pQ (Z8 hg hm (cL ha (cL hb dD hs2) (by rw [hs,hs2])) hs hs2) fun _ _ _=>ao8
theorem E7 {tg:Expr}{body:List Stmt}{ti:eW}{p:jQ}{g:TG}{own:Nat->Prop} (hp:PassesOwn (model X.prog X.w) X.A X.env X.xe) (hc:X.calm=true) (hi:QI X tg e ti) (hg:PG X tg g) (ht:mZ X.K own p g) (hb:eZ X body t)
  (hs:∀ x,foldedSetIterable e X.env x=pure x:=by intro _; rfl):QS X (.For tg e body [] pos) (eM ti p t):=dG (rR hp hc hi hg hb hs) fun _ _ _=>ao9 ht
end
section
variable {X : Cx} {pins : List (Addr × Obj)} {σ : St} {H : Hp} {s : Shared} {K : PySem.W.Frag} {M M' : Addr → Prop}
theorem lD.inj {a:Addr}{us ws:List V} (h:lD K a us) (h':lD K a ws):us=ws:=by
 obtain ⟨o,its,n,e1,_,e2,_,v⟩:=h
 obtain ⟨o',its',n',e1',_,e2',_,v'⟩:=h'
 rw [e1] at e1'; cases e1'
 rw [e2] at e2'; cases e2'
 exact v.inj v'
theorem Reps.self_of {n:Nat} (ih:∀ {v:V}{x y:PV},aF K M H v x->aF K M' H v y->cN n x y=true->bN n x y=true):∀ {vs:List V}{xs ys:List PV},Reps K M H vs xs->Reps K M' H vs ys->((xs.zip ys).all fun p=>cN n p.1 p.2)=true->(((xs.zip ys).all fun p=>bN n p.1 p.2) && xs.length == ys.length)=true
 | _,_,_,.nil,.nil,_=>rfl
 | _,_,_,.cons r t,.cons r' t',o=>by
  simp only [ba2,aW9,aR4] at o
  have h1:=ih r r' o.1
  have h2:=Reps.self_of ih t t' o.2
  simp only [ba2,aW9,h1,Bool.true_and,aP8] at h2 ⊢
  rw [<- h2]
  congr 1
  simp
theorem aF.self:∀ (n:Nat) {v:V}{x y:PV},aF K M H v x->aF K M' H v y->cN n x y=true->bN n x y=true:=by
 intro n
 induction n with
 | zero=>
  intro v x y r r' o
  cases r with
  | non=>cases r'; rfl
  | bl b=>cases r'; exact aV6 b
  | int i=>cases r'; exact aV6 i
  | str z=>cases r'; exact aV6 z
  | _=>cases o
 | succ n ih=>
  intro v x y r r' o
  cases r with
  | non=>cases r'; rfl
  | bl b=>cases r'; exact aV6 b
  | int i=>cases r'; exact aV6 i
  | str z=>cases r'; exact aV6 z
  | tup h rr=>
   cases r' with
   | tup h' rr'=>rw [h] at h'; cases h'; exact Reps.self_of ih rr rr' o
   | _=>cases o
  | lst _ h rr=>
   cases r' with
   | lst _ h' rr'=>rw [h] at h'; cases h'; exact Reps.self_of ih rr rr' o
   | _=>cases o
  | kt h rr=>
   cases r' with
   | kt h' rr'=>cases lD.inj h h'; exact Reps.self_of ih rr rr' o
   | _=>cases o
  | _=>cases o
theorem Reps.self (n:Nat) {vs:List V}{xs ys:List PV} (r:Reps K M H vs xs) (r':Reps K M' H vs ys) (o:((xs.zip ys).all fun p=>cN n p.1 p.2)=true):(((xs.zip ys).all fun p=>bN n p.1 p.2) && xs.length == ys.length)=true:=Reps.self_of (aF.self n) r r' o
theorem j6 (n:Nat) (xs ys:List PV):(List.range (min xs.length ys.length)).all (fun j=>bN n (xs.getD j .non) (ys.getD j .non))=(xs.zip ys).all fun p=>bN n p.1 p.2:=by
 rw [aV2]
 simp only [aV7,aZ5]
 constructor
 ·intro h p hp
  obtain ⟨j,hj,e⟩:=List.getElem_of_mem hp
  have hj':j < min xs.length ys.length:=by simpa using hj
  have:=h j hj'
  rw [List.getElem_zip] at e
  subst e
  have h1:j < xs.length:=by lia
  have h2:j < ys.length:=by lia
  simpa [aO3,h1,h2] using this
 ·intro h j hj
  have h1:j < xs.length:=by lia
  have h2:j < ys.length:=by lia
  have hz:j < (xs.zip ys).length:=by simp; lia
  have:=h _ (List.getElem_mem hz)
  rw [List.getElem_zip] at this
  simpa [aO3,h1,h2] using this
theorem ar5 (I:a6 X pins σ H s):∀ (n:Nat) {A:Around}{v w:V}{x y:PV}{a b:Value},A.units+n < cLine->aF X.K M H v x->aF X.K M' H w y->aT v a->aT w b->cN n x y=true->SeqAt.EqAt A s a b (bN n x y):=by
 intro n
 induction n with
 | zero=>
  intro A v w x y a b hu rx ry ra rb o
  cases rx with
  | non=>
   cases ra
   cases ry with
   | non=>cases rb; exact SeqAt.EqAt.same _
   | int i=>obtain ⟨t',rfl⟩:=rb; exact SeqAt.EqAt.none_int _ _
   | _=>cases o
  | bl i=>
   cases ra
   cases ry with
   | bl j=>cases rb; exact SeqAt.EqAt.bool_bool _ _
   | _=>cases o
  | int i=>
   obtain ⟨t,rfl⟩:=ra
   cases ry with
   | int j=>obtain ⟨t',rfl⟩:=rb; exact SeqAt.EqAt.int_int _ _ _ _
   | non=>cases rb; exact SeqAt.EqAt.int_none _ _
   | _=>cases o
  | str i=>
   obtain ⟨t,rfl⟩:=ra
   cases ry with
   | str j=>obtain ⟨t',rfl⟩:=rb; exact SeqAt.EqAt.str_str _ _ _ _
   | _=>cases o
  | _=>cases o
 | succ n ih=>
  intro A v w x y a b hu rx ry ra rb o
  have items:∀ {us ws:List V}{xs ys:List PV}{its its2:List Value},Reps X.K M H us xs->Reps X.K M' H ws ys->aK us its->aK ws its2->((xs.zip ys).all fun p=>cN n p.1 p.2)=true->
    ∀ j (h1:j < its.toArray.size) (h2:j < its2.toArray.size),SeqAt.EqAt A.in1 s its.toArray[j] its2.toArray[j] (bN n (xs.getD j .non) (ys.getD j .non)):=fun {us ws xs ys its its2} r1 r2 v1 v2 ok j h1 h2=>by
   have l1:=v1.length
   have l2:=v2.length
   have m1:=r1.length
   have m2:=r2.length
   have k1:j < its.length:=by simpa using h1
   have k2:j < its2.length:=by simpa using h2
   have j1:j < us.length:=by lia
   have j2:j < ws.length:=by lia
   have i1:j < xs.length:=by lia
   have i2:j < ys.length:=by lia
   obtain ⟨u,hu',ru⟩:=v1.get (aN5 j1)
   obtain ⟨u2,hu2',ru2⟩:=v2.get (aN5 j2)
   obtain ⟨x,hx,rx⟩:=r1.get (aN5 j1)
   obtain ⟨y,hy,ry⟩:=r2.get (aN5 j2)
   have e1:its.toArray[j]=u:=by
    rw [aN5 k1] at hu'
    simpa using hu'
   have e2:its2.toArray[j]=u2:=by
    rw [aN5 k2] at hu2'
    simpa using hu2'
   have ok':cN n x y=true:=by
    rw [aV7] at ok
    have hz:j < (xs.zip ys).length:=by simp; lia
    have:=ok _ (List.getElem_mem hz)
    rw [List.getElem_zip] at this
    rw [aN5 i1] at hx
    rw [aN5 i2] at hy
    cases hx; cases hy
    exact this
   rw [e1,e2]
   have g1:xs.getD j .non=x:=by rw [aO3,hx]; rfl
   have g2:ys.getD j .non=y:=by rw [aO3,hy]; rfl
   rw [g1,g2]
   exact ih (by show A.units+1+n < cLine; lia) rx ry ru ru2 ok'
  have huA:A.units < cLine:=by lia
  cases rx with
  | @kt p us xs h1 r1=>
   obtain ⟨its,v1,p1,_⟩:=I.tuple (.inr h1)
   cases (show a=Value.ref p from ra)
   cases ry with
   | @kt p2 ws ys h2 r2=>
    obtain ⟨its2,v2,p2',_⟩:=I.tuple (.inr h2)
    cases (show b=Value.ref p2 from rb)
    by_cases e:p=p2
    ·subst e
     have:=aF.self (K:=X.K) (M:=M) (M':=M') (n+1) (.kt h1 r1) (.kt h2 r2) o
     rw [this]
     exact SeqAt.EqAt.same _
    ·have:=SeqAt.RcAt.tuples p1 p2' huA (items r1 r2 v1 v2 o)
     refine .of_refs e ?_
     have l1:=v1.length
     have l2:=v2.length
     have m1:=r1.length
     have m2:=r2.length
     rw [aN3,aN3,<- l1,<- l2,m1,m2,j6] at this
     exact this
   | _=>cases o
  | @tup p us xs h1 r1=>
   obtain ⟨its,v1,p1,_⟩:=I.tuple (aM.of (K:=X.K) h1)
   cases (show a=Value.ref p from ra)
   cases ry with
   | @tup p2 ws ys h2 r2=>
    obtain ⟨its2,v2,p2',_⟩:=I.tuple (aM.of (K:=X.K) h2)
    cases (show b=Value.ref p2 from rb)
    by_cases e:p=p2
    ·subst e
     have:=aF.self (K:=X.K) (M:=M) (M':=M') (n+1) (.tup h1 r1) (.tup h2 r2) o
     rw [this]
     exact SeqAt.EqAt.same _
    ·have:=SeqAt.RcAt.tuples p1 p2' huA (items r1 r2 v1 v2 o)
     refine .of_refs e ?_
     have l1:=v1.length
     have l2:=v2.length
     have m1:=r1.length
     have m2:=r2.length
     rw [aN3,aN3,<- l1,<- l2,m1,m2,j6] at this
     exact this
   | non=>cases rb; exact SeqAt.EqAt.tuple_none p1 huA
   | _=>cases o
  | @lst p us xs _ h1 r1=>
   obtain ⟨its,v1,p1,_⟩:=I.list (aJ.of (K:=X.K) h1)
   cases (show a=Value.ref p from ra)
   cases ry with
   | @lst p2 ws ys _ h2 r2=>
    obtain ⟨its2,v2,p2',_⟩:=I.list (aJ.of (K:=X.K) h2)
    cases (show b=Value.ref p2 from rb)
    have l1:=v1.length
    have l2:=v2.length
    have m1:=r1.length
    have m2:=r2.length
    by_cases e:p=p2
    ·subst e
     rw [h1] at h2; cases h2
     have:=Reps.self n r1 r2 o
     show SeqAt.EqAt A s _ _ ((xs.zip ys).all (fun p=>bN n p.1 p.2) && xs.length == ys.length)
     rw [this]
     exact SeqAt.EqAt.same _
    ·refine .of_refs e ?_
     by_cases hl:xs.length=ys.length
     ·have:=SeqAt.RcAt.lists p1.isList p2'.isList (by rw [aN3,aN3]; lia) huA (items r1 r2 v1 v2 o)
      have hm:min xs.length ys.length=its.length:=by lia
      rw [aN3,<- hm,j6] at this
      show SeqAt.RcAt A s _ _ ((xs.zip ys).all (fun p=>bN n p.1 p.2) && xs.length == ys.length)
      rw [show (xs.length == ys.length)=true by simpa using hl,Bool.and_true]
      exact this
     ·have:=SeqAt.RcAt.lists_lengths (A:=A) p1.isList p2'.isList (by rw [aN3,aN3]; simp; lia) huA
      show SeqAt.RcAt A s _ _ ((xs.zip ys).all (fun p=>bN n p.1 p.2) && xs.length == ys.length)
      rw [show (xs.length == ys.length)=false by simpa using hl,aY3]
      exact this
   | _=>cases o
  | non=>
   cases ra
   cases ry with
   | non=>cases rb; exact SeqAt.EqAt.same _
   | int i=>obtain ⟨t',rfl⟩:=rb; exact SeqAt.EqAt.none_int _ _
   | @tup p2 ws ys h2 r2=>
    obtain ⟨its2,v2,p2',_⟩:=I.tuple (aM.of (K:=X.K) h2)
    cases (show b=Value.ref p2 from rb)
    exact SeqAt.EqAt.none_tuple p2' huA
   | _=>cases o
  | bl i=>
   cases ra
   cases ry with
   | bl j=>cases rb; exact SeqAt.EqAt.bool_bool _ _
   | _=>cases o
  | int i=>
   obtain ⟨t,rfl⟩:=ra
   cases ry with
   | int j=>obtain ⟨t',rfl⟩:=rb; exact SeqAt.EqAt.int_int _ _ _ _
   | non=>cases rb; exact SeqAt.EqAt.int_none _ _
   | _=>cases o
  | str i=>
   obtain ⟨t,rfl⟩:=ra
   cases ry with
   | str j=>obtain ⟨t',rfl⟩:=rb; exact SeqAt.EqAt.str_str _ _ _ _
   | _=>cases o
  | _=>cases o
end
structure Bt (mg:Str->Option Value):Prop where
 len:mg "len" = none
 range:mg "range" = none
 tuple:mg "tuple" = none
 list:mg "list" = none
 sorted:mg "sorted" = none
 all:mg "all" = none
 any:mg "any" = none
 zip:mg "zip" = none
 min:mg "min" = none
 max:mg "max" = none
 sum:mg "sum" = none
 isinst:mg "isinstance" = none
 int:mg "int" = none
 bool:mg "bool" = none
 enum:mg "enumerate" = none
section
variable {X : Cx} {a b c e o : Expr} {es dM : List Expr} {ta tb te to tk : aH} {tr : cT} {tA tB' tc : c9} {pos p2 px : Pos} {st : Stmt} {sts : List Stmt} {t u : aQ}
theorem dX (B:Bt X.mg) (ha:QA X [e] tr) (hg:Gl X "len":=by rfl) (he:starEach [e] X.env=(false,eval e X.env) :: starEach [] X.env:=by rfl) (hpl:(backTo pos (starEach [] X.env)).any (·.1)=false:=by rfl):QE X (.Call (.Name "len" p2) [e] [] pos) (aC dF tr):=
 j5 (ae2.or ag9) an6 hg B.len PySem.boot_len ha (he:=he) (hpl:=hpl)
theorem j7 (B:Bt X.mg) (ha:QA X [e] tr) (hg:Gl X "tuple":=by rfl) (he:starEach [e] X.env=(false,eval e X.env) :: starEach [] X.env:=by rfl) (hpl:(backTo pos (starEach [] X.env)).any (·.1)=false:=by rfl):QE X (.Call (.Name "tuple" p2) [e] [] pos) (aC iA tr):=
 E4 ae4 an7 hg B.tuple PyProof.Rows.boot_tuple ha (he:=he) (hpl:=hpl)
theorem ar6 (B:Bt X.mg) (ha:QA X [e] tr) (hg:Gl X "list":=by rfl) (he:starEach [e] X.env=(false,eval e X.env) :: starEach [] X.env:=by rfl) (hpl:(backTo pos (starEach [] X.env)).any (·.1)=false:=by rfl):QE X (.Call (.Name "list" p2) [e] [] pos) (aC u0 tr):=
 E4 ae3 an8 hg B.list PyProof.Rows.boot_list ha (he:=he) (hpl:=hpl)
theorem E8 (B:Bt X.mg) (ha:QA X [e] tr) (hg:Gl X "sorted":=by rfl) (he:starEach [e] X.env=(false,eval e X.env) :: starEach [] X.env:=by rfl) (hpl:(backTo pos (starEach [] X.env)).any (·.1)=false:=by rfl):QE X (.Call (.Name "sorted" p2) [e] [] pos) (aC pH tr):=
 j5 ai2 an9 hg B.sorted PyProof.Rows.boot_sorted ha (he:=he) (hpl:=hpl)
theorem ar7 (B:Bt X.mg) (hc:X.calm=true) (ha:QA X [e] tr) (hg:Gl X "all":=by rfl) (he:starEach [e] X.env=(false,eval e X.env) :: starEach [] X.env:=by rfl) (hpl:(backTo pos (starEach [] X.env)).any (·.1)=false:=by rfl):QE X (.Call (.Name "all" p2) [e] [] pos) (aC u3 tr):=
 j5 (tM hc) ao0 hg B.all PyProof.Rows.boot_all ha (he:=he) (hpl:=hpl)
theorem nG (B:Bt X.mg) (hc:X.calm=true) (ha:QA X [a,b] tr) (hg:Gl X "min":=by rfl) (he:starEach [a,b] X.env=(false,eval a X.env) :: starEach [b] X.env:=by rfl) (hpl:(backTo pos (starEach [b] X.env)).any (·.1)=false:=by rfl):QE X (.Call (.Name "min" p2) [a,b] [] pos) (aC kI tr):=
 j5 (ab6 hc) ao1 hg B.min PyProof.Rows.boot_min ha (he:=he) (hpl:=hpl)
theorem nH (B:Bt X.mg) (hc:X.calm=true) (ha:QA X [a,b] tr) (hg:Gl X "max":=by rfl) (he:starEach [a,b] X.env=(false,eval a X.env) :: starEach [b] X.env:=by rfl) (hpl:(backTo pos (starEach [b] X.env)).any (·.1)=false:=by rfl):QE X (.Call (.Name "max" p2) [a,b] [] pos) (aC kJ tr):=
 j5 (ab5 hc) ao2 hg B.max PyProof.Rows.boot_max ha (he:=he) (hpl:=hpl)
theorem E9 (x:Int):∀ (xs:List Int),mH (.int x) (xs.map V.int)=decide (x ∈ xs)
 | []=>by simp [mH]
 | y :: r=>by
  have ih:=E9 x r
  unfold mH at ih ⊢
  rw [aS6,aZ3,ih]
  by_cases e:y=x
  ·subst e; simp [gN]
  ·have:gN (.int y) (.int x)=false:=by simpa [gN] using e
   rw [this,Bool.false_or,aV2]
   simp [Ne.symm e]
theorem F0:∀ (xs:List Int),(xs.map V.int).all iQ=true
 | []=>rfl
 | _ :: r=>by rw [aS6,aW9,F0 r]; rfl
theorem ar8 (neg:Bool):eV X (pM neg) (xS X.K neg):=by
 rintro W Hs H u v x y g g' Q Q' s n r1 r2 ⟨i,ns,rfl,e,q⟩ k
 cases r1
 obtain ⟨a,us,rfl,hs,r⟩:=r2.seq e
 obtain rfl:=r.ofInts
 refine⟨a,_,rfl,hs,rfl,F0 ns,?_⟩
 have:=k _ _ _ .fr (aB.refl _) (.bl _) q
 rw [E9]
 cases neg <;> exact this
theorem F1 (ha:QE X a ta) (hb:QE X b tb) (hm:behindInMarks .NotIn b=false:=by rfl):QT X (.Compare a [.NotIn] [b] pos) (bA (q2 (pM true) ta tb)):=iC ae1 (ar8 true) ha hb hm
theorem aF.kt_ {K:PySem.W.Frag}{M:Addr->Prop}{H:Hp}{v:V}{xs:List PV} (r:aF K M H v (.kt xs)):∃ a us,v = .ref a/\lD K a us/\Reps K M H us xs:=by
 cases r with
 | kt h r=>exact⟨_,_,rfl,h,r⟩
noncomputable def F3 (K:PySem.W.Frag) (H:Hp) (x:V) (t:Value):Prop:=fI K H x t ∨ ∃ a us,x = .ref a/\aM K H a us/\t = .type "tuple"
theorem ar9:cK X (.builtin "isinstance") (fun xs H Q=>∃ x t n b,xs = [x,.ty n]/\F3 X.K H x t/\PySem.W.kitOne X.K t (.type n)=some b/\Q (.bl b) H):=by
 intro pins s σ H xs us Q I r h
 obtain ⟨x,t,n,b,rfl,ty,e,q⟩:=h
 rcases ty with ty | ⟨a,ws,rfl,hs,rfl⟩
 ·exact ai9 pins s σ H _ us Q I r ⟨x,t,n,b,rfl,ty,e,q⟩
 obtain ⟨u,u',rfl,ru,ru'⟩:=oF r
 cases ru'
 cases (show u=Value.ref a from ru)
 obtain ⟨its,_,⟨o,h1,h2,_⟩,_⟩:=I.tuple hs
 exact aU2 PySem.W.kitx_tuple I.kIn ⟨o,h1,h2⟩ e (fun z=>nomatch z) fun tk=>⟨.bl b,H,I.tok tk,rfl,q⟩
theorem as0 {K:PySem.W.Frag}{M:Addr->Prop}{H:Hp}{v:V}{x:PV}{T:String} (r:aF K M H v x) (e:C2 x=some T):F3 K H v (.type T):=by
 cases r with
 | non=>cases e; exact .inl .non
 | bl b=>cases e; exact .inl (.bl b)
 | int i=>cases e; exact .inl (.int i)
 | str i=>cases e; exact .inl (.str i)
 | tup h _=>cases e; exact .inl (.tup h)
 | lst _ h _=>cases e; exact .inl (.lst h)
 | kt h _=>cases e; exact .inr ⟨_,_,rfl,.inr h,rfl⟩
 | _=>cases e
theorem uK {x:Str}{n:String} (B:Bt X.mg) (hn:bootBuiltins x=some (.type n)) (hm:X.mg x=none) (ha:QE X a ta) (hg:Gl X "isinstance":=by rfl) (hgx:Gl X x:=by rfl) (hx:x ≠ "__name__":=by decide) (hdx:(x == ("__debug__" : Str))=false:=by decide)
  (he:starEach [a,.Name x px] X.env=(false,eval a X.env) :: starEach [.Name x px] X.env:=by rfl) (he2:starEach [.Name x px] X.env=(false,eval (.Name x px) X.env) :: starEach [] X.env:=by rfl) (hpl:(backTo pos (starEach [.Name x px] X.env)).any (·.1)=false:=by rfl):QE X (.Call (.Name "isinstance" p2) [a,.Name x px] [] pos) (jR X.K n ta):=
 cD (oH ar9 hg B.isinst PyProof.Rows.boot_isinstance (cL ha (cL (X6 (v:=.ty n) hgx hm hn rfl hx hdx) dD he2) he) (he:=he) (hpl:=hpl)) fun σ H Q' h=>by
  obtain ⟨W,ρ,Q,px,q,k⟩:=h
  refine⟨W,ρ,_,px,q,?_⟩
  rintro v H1 x g s r ⟨T,b,e,kt,q⟩
  exact⟨v,_,n,b,rfl,as0 r e,kt,k _ _ _ .fr s (.bl _) q⟩
theorem as1 (B:Bt X.mg) (ha:QE X a ta) (hg:Gl X "isinstance":=by rfl) (hgx:Gl X "int":=by rfl)
  (he:starEach [a,.Name "int" px] X.env=(false,eval a X.env) :: starEach [.Name "int" px] X.env:=by rfl) (he2:starEach [.Name "int" px] X.env=(false,eval (.Name "int" px) X.env) :: starEach [] X.env:=by rfl) (hpl:(backTo pos (starEach [.Name "int" px] X.env)).any (·.1)=false:=by rfl):QE X (.Call (.Name "isinstance" p2) [a,.Name "int" px] [] pos) (jR X.K "int" ta):=uK B PyProof.Rows.boot_int B.int ha (hg:=hg) (hgx:=hgx) (he:=he) (he2:=he2) (hpl:=hpl)
theorem as2 (B:Bt X.mg) (ha:QE X a ta) (hg:Gl X "isinstance":=by rfl) (hgx:Gl X "bool":=by rfl)
  (he:starEach [a,.Name "bool" px] X.env=(false,eval a X.env) :: starEach [.Name "bool" px] X.env:=by rfl) (he2:starEach [.Name "bool" px] X.env=(false,eval (.Name "bool" px) X.env) :: starEach [] X.env:=by rfl) (hpl:(backTo pos (starEach [.Name "bool" px] X.env)).any (·.1)=false:=by rfl):QE X (.Call (.Name "isinstance" p2) [a,.Name "bool" px] [] pos) (jR X.K "bool" ta):=uK B PyProof.Rows.boot_bool B.bool ha (hg:=hg) (hgx:=hgx) (he:=he) (he2:=he2) (hpl:=hpl)
theorem F4 (B:Bt X.mg) (ha:QE X a ta) (hg:Gl X "isinstance":=by rfl) (hgx:Gl X "tuple":=by rfl)
  (he:starEach [a,.Name "tuple" px] X.env=(false,eval a X.env) :: starEach [.Name "tuple" px] X.env:=by rfl) (he2:starEach [.Name "tuple" px] X.env=(false,eval (.Name "tuple" px) X.env) :: starEach [] X.env:=by rfl) (hpl:(backTo pos (starEach [.Name "tuple" px] X.env)).any (·.1)=false:=by rfl):QE X (.Call (.Name "isinstance" p2) [a,.Name "tuple" px] [] pos) (jR X.K "tuple" ta):=uK B PyProof.Rows.boot_tuple B.tuple ha (hg:=hg) (hgx:=hgx) (he:=he) (he2:=he2) (hpl:=hpl)
noncomputable def uL (K:PySem.W.Frag) (n:Nat) (neg:Bool):R2:=fun v w H Q=>∃ x y,aF K (fun _=>True) H v x/\aF K (fun _=>True) H w y/\((∃ xs ys,x = .tup xs/\y = .tup ys) ∨ (∃ xs ys,x = .lst xs/\y = .lst ys) ∨ (∃ xs ys,x = .kt xs/\y = .kt ys))/\cN (n+1) x y=true/\Q (.bl (if neg=true then !bN (n+1) x y else bN (n+1) x y)) H
theorem lS {pins:List (Addr × Obj)}{σ:St}{H:Hp}{s:Shared}{M M':Addr->Prop} (I:a6 X pins σ H s) {n:Nat}{A:Around} (hu:A.units+(n+1) < cLine) {us ws:List V}{xs ys:List PV}{its its2:List Value} (r1:Reps X.K M H us xs) (r2:Reps X.K M' H ws ys) (v1:aK us its) (v2:aK ws its2)
  (ok:((xs.zip ys).all fun p=>cN n p.1 p.2)=true):∀ j (h1:j < its.toArray.size) (h2:j < its2.toArray.size),SeqAt.EqAt A.in1 s its.toArray[j] its2.toArray[j] (bN n (xs.getD j .non) (ys.getD j .non)):=by
 intro j h1 h2
 have l1:=v1.length
 have l2:=v2.length
 have m1:=r1.length
 have m2:=r2.length
 have k1:j < its.length:=by simpa using h1
 have k2:j < its2.length:=by simpa using h2
 have j1:j < us.length:=by lia
 have j2:j < ws.length:=by lia
 have i1:j < xs.length:=by lia
 have i2:j < ys.length:=by lia
 obtain ⟨u,hu',ru⟩:=v1.get (aN5 j1)
 obtain ⟨u2,hu2',ru2⟩:=v2.get (aN5 j2)
 obtain ⟨x,hx,rx⟩:=r1.get (aN5 j1)
 obtain ⟨y,hy,ry⟩:=r2.get (aN5 j2)
 have e1:its.toArray[j]=u:=by
  rw [aN5 k1] at hu'
  simpa using hu'
 have e2:its2.toArray[j]=u2:=by
  rw [aN5 k2] at hu2'
  simpa using hu2'
 have ok':cN n x y=true:=by
  rw [aV7] at ok
  have hz:j < (xs.zip ys).length:=by simp; lia
  have:=ok _ (List.getElem_mem hz)
  rw [List.getElem_zip] at this
  rw [aN5 i1] at hx
  rw [aN5 i2] at hy
  cases hx; cases hy
  exact this
 rw [e1,e2]
 have g1:xs.getD j .non=x:=by rw [aO3,hx]; rfl
 have g2:ys.getD j .non=y:=by rw [aO3,hy]; rfl
 rw [g1,g2]
 exact ar5 I n (by show A.units+1+n < cLine; lia) rx ry ru ru2 ok'
theorem aN0 (n:Nat) (hu:X.A.units+(n+1) < cLine):cE X (compareOp .Eq) (uL X.K n false):=by
 intro pins s σ H v w a b Q I ra rb h
 obtain ⟨x,y,rx,ry,kd,o,q⟩:=h
 have hu0:X.A.units < cLine:=by lia
 rcases kd with ⟨xs,ys,rfl,rfl⟩ | ⟨xs,ys,rfl,rfl⟩ | ⟨xs,ys,rfl,rfl⟩
 ·obtain ⟨p,us,rfl,h1,r1⟩:=rx.sqT
  obtain ⟨p2,ws,rfl,h2,r2⟩:=ry.sqT
  cases ra; cases rb
  obtain ⟨its,v1,p1,_⟩:=I.tuple (aM.of (K:=X.K) h1)
  obtain ⟨its2,v2,p2',_⟩:=I.tuple (aM.of (K:=X.K) h2)
  have l1:=v1.length
  have l2:=v2.length
  have m1:=r1.length
  have m2:=r2.length
  have:=SeqAt.RcAt.tuples p1 p2' hu0 (lS I hu r1 r2 v1 v2 o)
  rw [aN3,aN3,<- l1,<- l2,m1,m2,j6] at this
  exact this _ _ _ _ ⟨.bl _,H,I,rfl,q⟩
 ·obtain ⟨p,us,rfl,_,h1,r1⟩:=rx.sqL
  obtain ⟨p2,ws,rfl,_,h2,r2⟩:=ry.sqL
  cases ra; cases rb
  obtain ⟨its,v1,p1,_⟩:=I.list (aJ.of (K:=X.K) h1)
  obtain ⟨its2,v2,p2',_⟩:=I.list (aJ.of (K:=X.K) h2)
  have l1:=v1.length
  have l2:=v2.length
  have m1:=r1.length
  have m2:=r2.length
  have q:Q (.bl ((xs.zip ys).all (fun p=>bN n p.1 p.2) && xs.length == ys.length)) H:=q
  by_cases hl:xs.length=ys.length
  ·have:=SeqAt.RcAt.lists p1.isList p2'.isList (by rw [aN3,aN3]; lia) hu0 (lS I hu r1 r2 v1 v2 o)
   have hm:min xs.length ys.length=its.length:=by lia
   rw [aN3,<- hm,j6] at this
   rw [show (xs.length == ys.length)=true by simpa using hl,Bool.and_true] at q
   exact this _ _ _ _ ⟨.bl _,H,I,rfl,q⟩
  ·have:=SeqAt.RcAt.lists_lengths (A:=X.A) p1.isList p2'.isList (by rw [aN3,aN3]; simp; lia) hu0
   rw [show (xs.length == ys.length)=false by simpa using hl,aY3] at q
   exact this _ _ _ _ ⟨.bl _,H,I,rfl,q⟩
 ·obtain ⟨p,us,rfl,h1,r1⟩:=rx.kt_
  obtain ⟨p2,ws,rfl,h2,r2⟩:=ry.kt_
  cases ra; cases rb
  obtain ⟨its,v1,p1,_⟩:=I.tuple (.inr h1)
  obtain ⟨its2,v2,p2',_⟩:=I.tuple (.inr h2)
  have l1:=v1.length
  have l2:=v2.length
  have m1:=r1.length
  have m2:=r2.length
  have:=SeqAt.RcAt.tuples p1 p2' hu0 (lS I hu r1 r2 v1 v2 o)
  rw [aN3,aN3,<- l1,<- l2,m1,m2,j6] at this
  exact this _ _ _ _ ⟨.bl _,H,I,rfl,q⟩
theorem as3 (n:Nat) (hu:X.A.units+(n+1) < cLine):cE X (compareOp .NotEq) (uL X.K n true):=by
 intro pins s σ H v w a b Q I ra rb h
 obtain ⟨x,y,rx,ry,kd,o,q⟩:=h
 have hu0:X.A.units < cLine:=by lia
 rcases kd with ⟨xs,ys,rfl,rfl⟩ | ⟨xs,ys,rfl,rfl⟩ | ⟨xs,ys,rfl,rfl⟩
 ·obtain ⟨p,us,rfl,h1,r1⟩:=rx.sqT
  obtain ⟨p2,ws,rfl,h2,r2⟩:=ry.sqT
  cases ra; cases rb
  obtain ⟨its,v1,p1,_⟩:=I.tuple (aM.of (K:=X.K) h1)
  obtain ⟨its2,v2,p2',_⟩:=I.tuple (aM.of (K:=X.K) h2)
  have l1:=v1.length
  have l2:=v2.length
  have m1:=r1.length
  have m2:=r2.length
  have:=SeqAt.RcNeAt.tuples p1 p2' hu0 (lS I hu r1 r2 v1 v2 o)
  rw [aN3,aN3,<- l1,<- l2,m1,m2,j6] at this
  exact this _ _ _ _ ⟨.bl _,H,I,rfl,q⟩
 ·obtain ⟨p,us,rfl,_,h1,r1⟩:=rx.sqL
  obtain ⟨p2,ws,rfl,_,h2,r2⟩:=ry.sqL
  cases ra; cases rb
  obtain ⟨its,v1,p1,_⟩:=I.list (aJ.of (K:=X.K) h1)
  obtain ⟨its2,v2,p2',_⟩:=I.list (aJ.of (K:=X.K) h2)
  have l1:=v1.length
  have l2:=v2.length
  have m1:=r1.length
  have m2:=r2.length
  have q:Q (.bl (!((xs.zip ys).all (fun p=>bN n p.1 p.2) && xs.length == ys.length))) H:=q
  by_cases hl:xs.length=ys.length
  ·have:=SeqAt.RcNeAt.lists p1.isList p2'.isList (by rw [aN3,aN3]; lia) hu0 (lS I hu r1 r2 v1 v2 o)
   have hm:min xs.length ys.length=its.length:=by lia
   rw [aN3,<- hm,j6] at this
   rw [show (xs.length == ys.length)=true by simpa using hl,Bool.and_true] at q
   exact this _ _ _ _ ⟨.bl _,H,I,rfl,q⟩
  ·have:=SeqAt.RcNeAt.lists_lengths (A:=X.A) p1.isList p2'.isList (by rw [aN3,aN3]; simp; lia) hu0
   rw [show (xs.length == ys.length)=false by simpa using hl,aY3] at q
   exact this _ _ _ _ ⟨.bl _,H,I,rfl,q⟩
 ·obtain ⟨p,us,rfl,h1,r1⟩:=rx.kt_
  obtain ⟨p2,ws,rfl,h2,r2⟩:=ry.kt_
  cases ra; cases rb
  obtain ⟨its,v1,p1,_⟩:=I.tuple (.inr h1)
  obtain ⟨its2,v2,p2',_⟩:=I.tuple (.inr h2)
  have l1:=v1.length
  have l2:=v2.length
  have m1:=r1.length
  have m2:=r2.length
  have:=SeqAt.RcNeAt.tuples p1 p2' hu0 (lS I hu r1 r2 v1 v2 o)
  rw [aN3,aN3,<- l1,<- l2,m1,m2,j6] at this
  exact this _ _ _ _ ⟨.bl _,H,I,rfl,q⟩
theorem as4 {n:Nat}{neg:Bool}:eV X (nA n neg) (uL X.K n neg):=by
 rintro W Hs H u v x y g g' Q Q' s n r1 r2 ⟨kd,o,q⟩ k
 exact⟨x,y,r1.same (aB.refl _) fun _ _=>trivial,r2.same (aB.refl _) fun _ _=>trivial,kd.elim .inl fun z=>.inr (.inl z),o,k _ _ _ .fr (aB.refl _) (.bl _) q⟩
theorem uM (hu:X.A.units+3 < cLine) (ha:QE X a ta) (hb:QE X b tb):QT X (.Compare a [.NotEq] [b] pos) (bA (q2 (nA 2 true) ta tb)):=iC (as3 2 hu) as4 ha hb (fH _)
end
end PP
namespace PP
open PySem L2 PyProof.Rows
noncomputable def LO (X:Cx) (t:lM):TO:=fun σ H Q'=>∃ (W:Addr->Prop) (ρ:bG) (Q:Option Int->Prop),PX X.K X.H₀ W σ ρ H/\t ρ Q/\∀ o H',aB H H'->Q o->Q' o H'
noncomputable def QO (X:Cx) (e:Option Expr) (t:lM):Prop:=PO X e (LO X t)
theorem Reps.cut {K:PySem.W.Frag}{M:Addr->Prop}{H:Hp}{us:List V}{xs:List PV} (r:Reps K M H us xs) (lo hi:Option Int):Reps K M H (e7 us lo hi) (gT xs lo hi):=by
 unfold e7 gT
 rw [r.length]
 exact (r.drop _).take _
section
variable {X : Cx} {a b c e o : Expr} {es dM : List Expr} {ta tb te to tk : aH} {tr : cT} {tA tB' tc : c9} {pos p2 px : Pos} {st : Stmt} {sts : List Stmt} {t u : aQ}
theorem F5:QO X none uB:=fun pins s σ H Q I h=>sH pins s σ H Q I (by
 obtain ⟨W,ρ,Q1,px,q,k⟩:=h
 exact k _ _ (aB.refl _) q)
theorem pV (h:QE X e te):QO X (some e) (nB te):=fun pins s σ H Q I hq=>sI h pins s σ H Q I (by
 obtain ⟨W,ρ,Q1,px,q,k⟩:=hq
 refine⟨W,ρ,_,px,q,?_⟩
 rintro v H1 x g s r ⟨i,rfl,q⟩
 cases r
 exact⟨i,rfl,k _ _ s q⟩)
theorem uN {lo hi:Option Expr}{tl th:lM}{sp:Pos} (he:QE X e te) (hl:QO X lo tl) (hh:QO X hi th):QE X (.Subscript e (.Slice lo hi none sp) pos) (pN te tl th):=cD (sJ (xQ.or zV) he hl hh) fun σ H Q' h=>by
 obtain ⟨W,ρ,Q,px,q,k⟩:=h
 refine⟨W,ρ,_,px,q,fun v H1 x g s1 r1 q1=>⟨W,ρ,_,px.mono s1,q1,fun lo H2 s2 q2=>⟨W,ρ,_,px.mono (s1.trans s2),q2,?_⟩⟩⟩
 rintro hi H3 s3 ⟨xs,e,f,q3⟩
 have S:=(s1.trans s2).trans s3
 have r3:=r1.same (M':=Mg X.H₀ W H g) (s2.trans s3) fun _ z=>z
 cases r3 with
 | tup h r=>
  cases e
  refine .inr ⟨_,_,rfl,aM.of h,fun p hp=>k _ _ _ .fr (S.trans (bK hp _)) (.tup bJ (((r.flat f).cut lo hi).same (bK hp _) fun _ z=>z)) q3,fun ec=>k _ _ _ .fr S (.tup h ?_) q3⟩
  have:=(r.flat (M':=Mg X.H₀ W H .fr) f).cut lo hi
  rw [ec] at this
  exact this
 | lst m h r=>
  cases e
  exact .inl ⟨_,_,rfl,aJ.of h,fun p hp=>k _ _ _ .fr (S.trans (bK hp _)) (.lst (S.free hp) bJ (((r.flat f).cut lo hi).same (bK hp _) fun _ z=>z)) q3⟩
 | scr h=>
  cases e
  exact .inl ⟨_,_,rfl,h.sqL,fun p hp=>k _ _ _ .fr (S.trans (bK hp _)) (.lst (S.free hp) bJ (((Reps.intz _).cut lo hi).same (bK hp _) fun _ z=>z)) q3⟩
 | _=>cases e
structure Df (P:Program) (w:World) (K:PySem.W.Frag) (mg:Str->Option Value) (base:Heap) (k:Nat) (x:Str) (ps:List Str) (p:bE):Prop where
 ex:∃ f fd,cH P w K mg base dE k f fd ps (mX K p)/\i7 K fd ps []/\PySem.W.keepIn K (.ref f)=true/\mg x=some (.ref f)
theorem b6 {k j:Nat}{x:Str}{ps:List Str}{p:bE} (d:Df X.prog X.w X.K X.mg X.base k x ps p) (hr:c6 j X.A) (ha:QA X (e :: es) tr) (hkj:k<=j:=by decide) (hg:Gl X x:=by rfl) (hdb:(x == ("__debug__" : Str))=false:=by decide)
  (he:starEach (e :: es) X.env=(false,eval e X.env) :: starEach es X.env:=by rfl) (hpl:(backTo pos (starEach es X.env)).any (·.1)=false:=by rfl):QE X (.Call (.Name x p2) (e :: es) [] pos) (aC p tr):=by
 obtain ⟨f,fd,F,b,kp,m⟩:=d.ex
 exact cD (sF F (hr.mono hkj) hg m kp b .nil ag7 ha hdb he hpl) fun _ _ _=>ao3
theorem uO {K:PySem.W.Frag}{H:Hp}{N:List Str}{vs:List V}{xs:List PV} (r:Reps K (fun _=>True) H vs xs):PX K H (fun _=>False) (L2.start N vs) (fO N xs) H:=by
 have lr:=r.length
 have own:∀ {i:Nat}{m:Slot},(fO N xs)[i]? = some (some m)->∃ x,xs[i]? = some x/\m = .sh (flat x) x:=fun {i m} h=>by
  unfold fO at h
  by_cases hi:i < xs.length
  ·rw [aQ6 (by simpa using hi),aO5] at h
   rw [aN5 hi] at h ⊢
   cases h
   exact⟨_,rfl,rfl⟩
  ·rw [aX1 (by simpa using hi),List.getElem?_replicate] at h
   split at h <;> cases h
 refine⟨by unfold L2.start fO; simp [lr],aB.refl _,fun a z=>z.elim,fun i m h=>?_,fun i j x y a h1=>?_⟩
 ·obtain ⟨x,hx,rfl⟩:=own h
  obtain ⟨v,hv,rx⟩:=r.at hx
  refine⟨v,?_,pK (g:=false) (rx.same (aB.refl _) fun _ _ z=>z)⟩
  have hi:i < vs.length:=(aN9.mp hv).1
  unfold L2.start
  rw [aQ6 (by simpa using hi),aO5,hv]; rfl
 ·obtain ⟨x,_,e⟩:=own h1
  cases e
theorem Df.of {P:Program}{w:World}{K:PySem.W.Frag}{mg:Str->Option Value}{base:Heap}{k:Nat}{x:Str}{ps N:List Str}{p:bE}{st:Stmt}{f:Addr}{fd:FuncData} (F:eF K x x st f fd) (m:mg x=some (.ref f)) (S:FnScope N ps (aY st))
  (hb:∀ (kV doc pm:Value) (an:Option Addr) (cdv ct:Value) (us:List Value),us.length=ps.length->bindArgs (PySem.W.fnOf x x (iS st) (eD st) (aY st) .none kV doc pm an cdv ct) ⟨us,[]⟩=pure (ps.zip us))
  (len:∀ xs Q,p xs Q->xs.length=ps.length)
  (body:∀ (cdv:Value) (A:Around) (outer:List Env) (s:Shared) (H:Hp) (E:XK),c6 k (A.deeper (envOfC x (aY st) s.heap.objs.size f cdv))->
   ∃ t,eZ (cZ dE P w K mg base N x (aY st) f cdv A outer s H E).nox (eD st) t/\∀ xs Q,p xs Q->t { nx:=fun _=>Q .non,rt:=Q } (fO N xs)):Df P w K mg base (k+1) x ps p:=by
 refine⟨f,fd,F.ok S (fun vs H Q E h=>?_) (fun cdv A outer s H vs Q E hr h=>?_),F.binds hb,F.kp,m⟩
 ·obtain ⟨xs,Qp,r,q,_⟩:=h
  rw [r.length]; exact len xs Qp q
 ·obtain ⟨xs,Qp,r,q,k⟩:=h
  obtain ⟨t,ht,hq⟩:=body cdv A outer s H E hr
  refine⟨_,ht,fun _=>False,fO N xs,_,uO r,hq xs Qp q,?_,?_,?_,?_⟩
  ·exact fun W' σ' H' ρ' e px q=>k _ _ _ px.same .non q
  ·exact fun v H' x s r q=>k _ _ _ s r q
  ·exact fun W' σ' H' ρ' e px q=>q
  ·exact fun W' σ' H' ρ' e px q=>q
theorem gV (i:Nat) {x:Str}{tp:Pos}{body:List Stmt}{ti:eW} (hN:X.N.Nodup) (hi:QI X (.Name x tp) e ti) (hb:eZ X body t) (hx:X.N[i]? = some x:=by rfl) (hl:i3 X.env.scope x:=by first | exact Or.inl rfl | exact Or.inr rfl) (hf:X.fn x=true ∨ X.env.scope.names.lookup x=some .local:=by first | exact .inl rfl | exact .inr rfl)
  (hp:PassesOwn (model X.prog X.w) X.A X.env X.xe:=by exact ba7) (hc:X.calm=true:=by rfl) (hs:∀ x,foldedSetIterable e X.env x=pure x:=by intro _; rfl):QS X (.For (.Name x tp) e body [] pos) (eM ti (bT i) t):=
 E7 hp hc hi (eC hN hx hl hf) (lJ _ i) hb hs
theorem as5 (i j:Nat) {x y:Str}{tp xp yp:Pos}{kt:Nat}{body:List Stmt}{ti:eW} (hN:X.N.Nodup) (hi:QI X (.Tuple [.Name x xp,.Name y yp] kt tp) e ti) (hb:eZ X body t) (hx:X.N[i]? = some x:=by rfl) (hy:X.N[j]? = some y:=by rfl) (hlx:i3 X.env.scope x:=by first | exact Or.inl rfl | exact Or.inr rfl) (hly:i3 X.env.scope y:=by first | exact Or.inl rfl | exact Or.inr rfl)
  (hfx:X.fn x=true ∨ X.env.scope.names.lookup x=some .local:=by first | exact .inl rfl | exact .inr rfl) (hfy:X.fn y=true ∨ X.env.scope.names.lookup y=some .local:=by first | exact .inl rfl | exact .inr rfl)
  (hp:PassesOwn (model X.prog X.w) X.A X.env X.xe:=by exact ba7) (hc:X.calm=true:=by rfl) (hs:∀ x,foldedSetIterable e X.env x=pure x:=by intro _; rfl):QS X (.For (.Tuple [.Name x xp,.Name y yp] kt tp) e body [] pos) (eM ti (i9 i j) t):=
 E7 hp hc hi (l4 hc (gB (eC hN hx hlx hfx) (gB (eC hN hy hly hfy) kZ))) (u7 _ i j) hb hs
noncomputable abbrev bY:Value->Shared->Prop:=fun _ _=>False
section
variable {scope : Scope} {N : List Str} {fr : List (Option Nat)} {x y : Str} {tp xp yp : Pos} {kt : Nat} {iter elt : Expr} {ti : eW}
theorem nI {ifs:List Expr}{tcs:c9} (he:∀ (s:Shared) (H:Hp) (C:Addr) (fp:List Addr),QE (bF X scope N s H C fp bY) elt te) (hi:∀ (s:Shared) (H:Hp) (C:Addr) (fp:List Addr),jK (bF X scope N s H C fp bY) ifs (LT (bF X scope N s H C fp bY) tcs))
  (hN:N.Nodup) (h0:N[0]? = some x) (hl:∀ (s:Shared) (H:Hp) (C:Addr) (fp:List Addr),(bF X scope N s H C fp bY).env.scope.names.lookup x=some .local) (s:Shared) (H:Hp) :
  lA X scope N (.Name x tp) ifs elt s H (cC 0) (LT (X.frm H) tcs) (LE (X.frm H) te):=
 ⟨fun C fp=>eC (X:=bF X scope N s H C fp bY) hN h0 (.inl (hl s H C fp)) (.inr (hl s H C fp)),fun C fp=>hi s H C fp,fun C fp=>he s H C fp⟩
theorem nJ {Y:Cx}:jK Y [] (LT Y cM):=fun pins s σ H Q I h=>mM pins s σ H Q I (ap1 h)
theorem nK (hi:QI X (.Name x tp) iter ti) (he:∀ (s:Shared) (H:Hp) (C:Addr) (fp:List Addr),QE (bF X scope N s H C fp bY) elt te)
  (hc:X.calm=true:=by rfl) (S:c7 X scope N fr:=by exact c7.of rfl rfl) (hN:N.Nodup:=by decide +kernel) (h0:N[0]? = some x:=by rfl) (hl:∀ (s:Shared) (H:Hp) (C:Addr) (fp:List Addr),(bF X scope N s H C fp bY).env.scope.names.lookup x=some .local:=by intro _ _ _ _; rfl) (hf:fr[0]? = some none:=by rfl)
  (hs:∀ x,foldedSetIterable iter X.env x=pure x:=by intro _; rfl):QE X (.ListComp elt [⟨.Name x tp,iter,[],0⟩] scope pos) (cU ti fr (bT 0) cM te):=
 cD (t7 (gh:=fun _=>cC 0) (tch:=fun H=>LT (X.frm H) cM) (teh:=fun H=>LE (X.frm H) te) hc S hi (nI he (fun _ _ _ _=>nJ) hN h0 hl) hs) fun _ _ _=>kL (lJ _ 0) (fun i e=>by subst e; exact hf)
theorem F6 {c:Expr}{tcs:c9} (hi:QI X (.Name x tp) iter ti) (ht:∀ (s:Shared) (H:Hp) (C:Addr) (fp:List Addr),QT (bF X scope N s H C fp bY) c tcs) (he:∀ (s:Shared) (H:Hp) (C:Addr) (fp:List Addr),QE (bF X scope N s H C fp bY) elt te)
  (hc:X.calm=true:=by rfl) (S:c7 X scope N fr:=by exact c7.of rfl rfl) (hN:N.Nodup:=by decide +kernel) (h0:N[0]? = some x:=by rfl) (hl:∀ (s:Shared) (H:Hp) (C:Addr) (fp:List Addr),(bF X scope N s H C fp bY).env.scope.names.lookup x=some .local:=by intro _ _ _ _; rfl) (hf:fr[0]? = some none:=by rfl)
  (hs:∀ x,foldedSetIterable iter X.env x=pure x:=by intro _; rfl):QE X (.ListComp elt [⟨.Name x tp,iter,[c],0⟩] scope pos) (cU ti fr (bT 0) tcs te):=
 cD (t7 (gh:=fun _=>cC 0) (tch:=fun H=>LT (X.frm H) tcs) (teh:=fun H=>LE (X.frm H) te) hc S hi (nI he (fun s H C fp=>yU (ht s H C fp)) hN h0 hl) hs) fun _ _ _=>kL (lJ _ 0) (fun i e=>by subst e; exact hf)
theorem as6 {i:Nat}{z:Str}{zp:Pos} (nd:X.N.Nodup) (hi:QI X (.Name x tp) iter ti) (he:∀ (s:Shared) (H:Hp) (C:Addr) (fp:List Addr),QE (bF X scope N s H C fp bY) elt te)
  (hz:X.N[i]? = some z:=by rfl) (hzl:X.env.scope.names.lookup z=some .local:=by rfl) (hsw:swapsWith (.ListComp elt [⟨.Name x tp,iter,[],0⟩] scope p2) (some (.Name z zp)) pos.line X.env=pure true:=by rfl)
  (hc:X.calm=true:=by rfl) (S:c7 X scope N fr:=by exact c7.of rfl rfl) (hN:N.Nodup:=by decide +kernel) (h0:N[0]? = some x:=by rfl) (hl:∀ (s:Shared) (H:Hp) (C:Addr) (fp:List Addr),(bF X scope N s H C fp bY).env.scope.names.lookup x=some .local:=by intro _ _ _ _; rfl) (hf:fr[0]? = some none:=by rfl)
  (hs:∀ x,foldedSetIterable iter X.env x=pure x:=by intro _; rfl):QS X (.Assign [.Name z zp] (.ListComp elt [⟨.Name x tp,iter,[],0⟩] scope p2) pos) (b4 i (cU ti fr (bT 0) cM te)):=
 dG (oW (gh:=fun _=>cC 0) (tch:=fun H=>LT (X.frm H) cM) (teh:=fun H=>LE (X.frm H) te) hc S hi (nI he (fun _ _ _ _=>nJ) hN h0 hl) nd hz hzl hsw hs) fun D σ H h=>kL (lJ _ 0) (fun i e=>by subst e; exact hf) (pG h)
theorem as7 {c:Expr}{tcs:c9}{i:Nat}{z:Str}{zp:Pos} (nd:X.N.Nodup) (hi:QI X (.Name x tp) iter ti) (ht:∀ (s:Shared) (H:Hp) (C:Addr) (fp:List Addr),QT (bF X scope N s H C fp bY) c tcs) (he:∀ (s:Shared) (H:Hp) (C:Addr) (fp:List Addr),QE (bF X scope N s H C fp bY) elt te)
  (hz:X.N[i]? = some z:=by rfl) (hzl:X.env.scope.names.lookup z=some .local:=by rfl) (hsw:swapsWith (.ListComp elt [⟨.Name x tp,iter,[c],0⟩] scope p2) (some (.Name z zp)) pos.line X.env=pure true:=by rfl)
  (hc:X.calm=true:=by rfl) (S:c7 X scope N fr:=by exact c7.of rfl rfl) (hN:N.Nodup:=by decide +kernel) (h0:N[0]? = some x:=by rfl) (hl:∀ (s:Shared) (H:Hp) (C:Addr) (fp:List Addr),(bF X scope N s H C fp bY).env.scope.names.lookup x=some .local:=by intro _ _ _ _; rfl) (hf:fr[0]? = some none:=by rfl)
  (hs:∀ x,foldedSetIterable iter X.env x=pure x:=by intro _; rfl):QS X (.Assign [.Name z zp] (.ListComp elt [⟨.Name x tp,iter,[c],0⟩] scope p2) pos) (b4 i (cU ti fr (bT 0) tcs te)):=
 dG (oW (gh:=fun _=>cC 0) (tch:=fun H=>LT (X.frm H) tcs) (teh:=fun H=>LE (X.frm H) te) hc S hi (nI he (fun s H C fp=>yU (ht s H C fp)) hN h0 hl) nd hz hzl hsw hs) fun D σ H h=>kL (lJ _ 0) (fun i e=>by subst e; exact hf) (pG h)
theorem as8 {i:Nat}{z:Str}{zp:Pos} (nd:X.N.Nodup) (hi:QI X (.Name x tp) iter ti) (he:∀ (s:Shared) (H:Hp) (C:Addr) (fp:List Addr),QE (bF X scope N s H C fp bY) elt te)
  (hz:X.N[i]? = some z:=by rfl) (hzl:X.env.scope.names.lookup z=some .local:=by rfl) (hsw:swapsWith (.ListComp elt [⟨.Name x tp,iter,[],0⟩] scope p2) (some (.Name z zp)) pos.line X.env=pure true:=by rfl)
  (hc:X.calm=true:=by rfl) (S:c7 X scope N fr:=by exact c7.of rfl rfl) (hN:N.Nodup:=by decide +kernel) (h0:N[0]? = some x:=by rfl) (hl:∀ (s:Shared) (H:Hp) (C:Addr) (fp:List Addr),(bF X scope N s H C fp bY).env.scope.names.lookup x=some .local:=by intro _ _ _ _; rfl) (hf:fr[0]? = some none:=by rfl)
  (hs:∀ x,foldedSetIterable iter X.env x=pure x:=by intro _; rfl):QS X (.Assign [.Name z zp] (.ListComp elt [⟨.Name x tp,iter,[],0⟩] scope p2) pos) (dN i (cU ti fr (bT 0) cM te)):=
 dG (oW (gh:=fun _=>cC 0) (tch:=fun H=>LT (X.frm H) cM) (teh:=fun H=>LE (X.frm H) te) hc S hi (nI he (fun _ _ _ _=>nJ) hN h0 hl) nd hz hzl hsw hs) fun D σ H h=>kL (lJ _ 0) (fun i e=>by subst e; exact hf) (A7 h)
end
theorem as9:l7 X "list.extend" (A8 X.K):=fun pins s σ H x xs v us Q I rx rs h=>h.elim (ae7 pins s σ H x xs v us Q I rx rs) (ak9 pins s σ H x xs v us Q I rx rs)
theorem at0 (i:Nat) {x:Str}{apos cpos xpos:Pos} (he:QE X e te) (hN:X.N[i]? = some x:=by rfl) (hv:gA X.env.scope x:=by first | exact Or.inl rfl | exact Or.inr (Or.inl rfl) | exact Or.inr (Or.inr rfl)) (hd:(x == ("__debug__" : Str))=false:=by decide) (hcd:(x == ("__classdict__" : Str))=false:=by decide)
  (hbase:attributeBase (.Name x xpos) "extend" X.env (eval (.Name x xpos) X.env)=eval (.Name x xpos) X.env:=by rfl)
  (hfew:((backTo cpos (starEach [e] X.env)).all (fun x=>!x.1) && (backToKw cpos (keywordEach [] X.env)).all (fun x=>x.1.isSome) && decide (([e]:List Expr).length+([]:List Keyword).length+(if ([]:List Keyword).isEmpty then 0 else 1) < 30))=true:=by rfl)
  (hline:(apos.endLine == cpos.line)=true:=by rfl) (hs:starEach [e] X.env=(false,eval e X.env) :: starEach [] X.env:=by rfl) (hplain:(backTo cpos (starEach [] X.env)).any (·.1)=false:=by rfl)
  (hsw:swapsWith (.Call (.Attribute (.Name x xpos) "extend" apos) [e] [] cpos) none pos.line X.env=pure false:=by rfl) :
  QS X (.Expr (.Call (.Attribute (.Name x xpos) "extend" apos) [e] [] cpos) pos) (tW i te):=
 dG (k7 (kB aT9 PySem.F.slot_list_extend PySem.F.type_list_extend as9 (iK hN hv hd hcd) (cL he dD hs) hbase hfew hline hs hplain) hsw) fun _ _ _=>an2
theorem nL {i:Nat}{x:Str}{xpos tpos:Pos} (hk:QE X a tk) (he:QE X e te) (hN:X.N[i]? = some x:=by rfl) (hv:gA X.env.scope x:=by first | exact Or.inl rfl | exact Or.inr (Or.inl rfl) | exact Or.inr (Or.inr rfl)) (hd:(x == ("__debug__" : Str))=false:=by decide) (hcd:(x == ("__classdict__" : Str))=false:=by decide)
  (hp:∀ (tx:TE) (tg:TE),PE X (.Name x xpos) tx->PE X a tg->PG X (.Subscript (.Name x xpos) a tpos) (rP tx tg sL):=by intro _ _ h1 h2; exact Z1 h1 h2 ad6)
  (hs:swapsWithSole [.Subscript (.Name x xpos) a tpos] e pos.line X.env=pure false:=by rfl) (hw:swappedStores [.Subscript (.Name x xpos) a tpos] e X.env=pure none:=by rfl) :
  QS X (.Assign [.Subscript (.Name x xpos) a tpos] e pos) (kH i tk te):=dG (Z2 he (hp _ _ (iK hN hv hd hcd) hk) hs hw) fun _ _ _=>an3
end
end PP
namespace SO
open PySem PyProof.Rows
variable {rk : Keyed → Int}
section
variable {κ : SortKind} {a0 : Array Keyed} {pd : Array (Nat × Nat × Nat)} {st : SortSt} {prog : Program} {w : World} {A : Around} {E : Value → Shared → Prop} {s : Shared} {Ok : Keyed → Prop}
noncomputable abbrev DS:=Option (Option Nat) × Nat × Nat
end
noncomputable abbrev LS:=Option (Array Keyed) × Array Keyed × Nat × Nat × Nat × Nat × Nat
noncomputable abbrev LO:=Option (Array Keyed) × Array Keyed × Nat × Nat × Nat
variable {rk : Keyed → Int} {xs ys o : List Keyed} {i j : Nat}
variable {rk : Keyed → Int} {xs ys o : List Keyed} {i j : Nat}
variable {rk : Keyed → Int}
noncomputable def Ch:Nat->List (Nat × Nat)->Nat->Prop
 | a,[],b=>a=b
 | a,(p,n) :: r,b=>p=a/\0 < n/\Ch (a+n) r b
variable {rk : Keyed → Int} {κ : SortKind} {a0 : Array Keyed} {pd : Array (Nat × Nat × Nat)} {st : SortSt} {prog : Program} {w : World} {A : Around} {E : Value → Shared → Prop} {s : Shared} {Ok : Keyed → Prop}
end SO
namespace L2
open PySem PySem.Spec PyProof.Rows
theorem bL.at {P:Program}{w:World}{H:Hp}{h:Heap}{a:Addr}{o:HO} (x:bL P w H h a o):∃ ob,h.get? a=some ob:=by
 cases o with
 | lst xs=>obtain ⟨_,_,_,_,e⟩:=x; exact⟨_,e⟩
 | tup xs=>obtain ⟨_,_,_,⟨_,e,_⟩,_⟩:=x; exact⟨_,e⟩
 | dK kvs=>obtain ⟨_,_,_,_,_,_,_,e,_⟩:=x; exact⟨_,e⟩
 | dT kvs=>obtain ⟨_,_,_,_,_,_,_,e,_⟩:=x; exact⟨_,e⟩
 | set S n=>obtain ⟨_,_,_,_,e,_⟩:=x; exact⟨_,e⟩
 | ins C dx fs=>obtain ⟨_,_,_,e,_⟩:=x; exact⟨_,e⟩
 | own y=>exact x
 | xd fs=>obtain ⟨_,⟨_,_,_,e,_⟩,_⟩:=x; exact⟨_,e⟩
 | rng lo hi=>obtain ⟨_,_,_,e⟩:=x; exact⟨_,e⟩
 | frz ob u=>obtain ⟨e,_⟩:=x; exact⟨_,e⟩
 | tbl ps=>exact⟨_,x⟩
 | met f y=>exact⟨_,x⟩
 | ext φ=>exact x.2.1
structure uP (P:Program) (w:World) (outer:List Env) (H:Hp) (s:Shared) (H':Hp) (B:Heap) (a C:Addr) (s':Shared):Prop where
 os:s'.os=s.os
 bare:AllBare s'.gens
 un:Un (bP outer) [] H H' s.heap s'.heap
 hok:bO P w H' s'.heap
 fly:∃ a0,Heap.FlyingW B outer a (.ref C) a0 s'.heap
 b0:∀ b o,s.heap.get? b=some o->b ∉ bP outer->∃ o',B.get? b=some o'
 b1:∀ b o,s.heap.get? b=some o->H b=none->b ∉ bP outer->B.get? b=some o
 b2:∀ b u o,H' b=some u->s'.heap.get? b=some o->B.get? b=some o
noncomputable def eO (P:Program) (w:World):gD:=fun outer H s E e s'=>∃ (H':Hp) (B:Heap) (a C:Addr),e = .ref a/\uP P w outer H s H' B a C s'/\E (.ref C) none H'
section
variable {P : Program} {w : World} {outer : List Env} {H H' : Hp} {s s' : Shared} {B h2 : Heap} {a C : Addr}
theorem uP.hok2 (f:uP P w outer H s H' B a C s') (k:B.StaysIn h2):bO P w H' h2:=fun b u e=>
 (f.hok b u e).stay (fun c v hc q=>by
  rcases hc with z | z
  ·subst z; exact k _ _ (f.b2 _ _ _ e q)
  ·exact k _ _ (f.b2 _ _ _ z q)) (fun _ q=>q) fun _ _ q=>q
end
section
variable {P : Program} {w : World} {K : PySem.W.Frag} {mg : Str → Option Value} {base : Heap} {N : List Str} {qual : Str} {scope : Scope} {f : Addr} {cd : Value} {A : Around} {outer : List Env} {s₀ : Shared} {H₀ : Hp} {E₀ E₁ : XK}
theorem pW {pins:List (Addr × Obj)}{σ:St}{H:Hp}{s:Shared} (I:a6 (cZ (eO P w) P w K mg base N qual scope f cd A outer s₀ H₀ E₀) pins σ H s) {b:Addr}{o:Obj} (e:s₀.heap.get? b=some o) (n:b ∉ bP outer) :
  b ∉ bP (envOfC qual scope s₀.heap.objs.size f cd :: outer):=fun z=>by
 rcases aO7.mp (I.stkSub b z) with y | y
 ·have l:=aP1 e
  have y:b=s₀.heap.objs.size:=y
  exact absurd l (by rw [y]; exact aS1 _)
 ·exact n y
theorem at2 (hE:∀ c d H',E₁ c d H'->E₀ c d H'):mD (eO P w) (cZ (eO P w) P w K mg base N qual scope f cd A outer s₀ H₀ E₀) E₁:=by
 intro pins σ H s e s' I hx
 obtain ⟨H',B,a,C,e1,fl,q⟩:=hx
 subst e1
 have I':=I.call' fl.os fl.un fl.hok fl.bare (ch:=[]) (fun b z=>absurd z (by simp))
 obtain ⟨a0,fly⟩:=fl.fly
 refine wpAny_leaves_onW I.ok.frames rfl fly fun h' fly' up=>?_
 have slot:∀ b o,s₀.heap.get? b=some o->b ∈ bP outer->∃ sl,h'.get? b=some { o with slots:=sl }:=fun b o e hb=>by
  obtain ⟨sl,e1⟩:=I'.base.slot b o e (I.ok.frf b hb) hb (fun z=>nomatch z)
  obtain ⟨_,o2,e2,nf⟩:=I.ok.funs.mem hb
  rw [show (cZ (eO P w) P w K mg base N qual scope f cd A outer s₀ H₀ E₀).s₀=s₀ from rfl,e] at e2
  cases e2
  obtain ⟨sl',e3⟩:=up b _ e1 nf
  exact⟨sl',e3⟩
 have old:∀ b o,s₀.heap.get? b=some o->H₀ b=none->b ∉ bP outer->B.get? b=some o:=fun b o e n hb=>
  fl.b1 b o (I.base.keep b o e n hb (fun z=>nomatch z)) (I.base.free b o e n (fun z=>nomatch z)) (pW I e hb)
 have old0:∀ b o,s₀.heap.get? b=some o->b ∉ bP outer->∃ o',B.get? b=some o':=fun b o e hb=>by
  obtain ⟨o1,e1⟩:=I.base.there b o e (fun z=>nomatch z)
  exact fl.b0 b o1 e1 (pW I e hb)
 refine⟨H',B,a,C,rfl,⟨I'.os,I'.bare,⟨fun b o e n hb _=>fly'.1 _ _ (old b o e n hb),fun b o e n hb _=>slot b o e hb,fun b o e n hx=>I'.base.free b o e n hx,fun b o e _=>?_,I'.base.tups,I'.base.frzs,I'.base.tbls⟩,fl.hok2 fly'.1,⟨a0,fly'⟩,old0,old,fun b u o e h=>?_⟩,hE _ _ _ q⟩
 ·by_cases hb:b ∈ bP outer
  ·obtain ⟨sl,e1⟩:=slot b o e hb
   exact⟨_,e1⟩
  ·obtain ⟨o',e1⟩:=old0 b o e hb
   exact⟨o',fly'.1 _ _ e1⟩
 ·obtain ⟨ob,e1⟩:=(fl.hok b u e).at
  have e2:=fl.b2 b u ob e e1
  have e3:=fly'.1 _ _ e2
  have h:h'.get? b=some o:=h
  rw [h] at e3; cases e3; exact e2
theorem at3 {pins:List (Addr × Obj)}{σ:St}{H:Hp}{s:Shared}{h':Heap}{e C:Addr}{args:List Value} (I:a6 (cZ (eO P w) P w K mg base N qual scope f cd A outer s₀ H₀ E₀) pins σ H s) (mx:Heap.MadeExcOf s.heap h' e (.ref C) args) (q:E₀ (.ref C) none H) :
  (cZ (eO P w) P w K mg base N qual scope f cd A outer s₀ H₀ E₀).xe (.ref e) { s with heap:=h' }:=by
 have tr:∀ b u,H b=some u->b ∉ bP (envOfC qual scope s₀.heap.objs.size f cd :: outer):=fun b u z n=>by
  rw [I.stkFree b n] at z; cases z
 have inB:∀ b o,s.heap.get? b=some o->b ∉ bP (envOfC qual scope s₀.heap.objs.size f cd :: outer)->(PySem.W.hideAll s.heap (bP (envOfC qual scope s₀.heap.objs.size f cd :: outer))).get? b=some o:=fun b o z n=>PySem.W.hideAll_get _ z n
 refine wpAny_leaves_madeW (base:=PySem.W.hideAll s.heap (bP (envOfC qual scope s₀.heap.objs.size f cd :: outer))) I.ok.frames rfl (fun b o z=>PySem.W.of_hideAll _ z) (PySem.W.funFrames_hide I.stack fun env he b hb=>aZ6.mpr ⟨env,he,hb⟩) mx fun h'' t fly _ _ up=>?_
 have slot:∀ b o,s₀.heap.get? b=some o->b ∈ bP outer->∃ sl,h''.get? b=some { o with slots:=sl }:=fun b o e hb=>by
  obtain ⟨sl,e1⟩:=I.base.slot b o e (I.ok.frf b hb) hb (fun z=>nomatch z)
  obtain ⟨_,o2,e2,nf⟩:=I.ok.funs.mem hb
  rw [show (cZ (eO P w) P w K mg base N qual scope f cd A outer s₀ H₀ E₀).s₀=s₀ from rfl,e] at e2
  cases e2
  obtain ⟨sl',e3⟩:=up b _ (mx.keeps _ _ e1) nf
  exact⟨sl',e3⟩
 have old:∀ b o,s₀.heap.get? b=some o->H₀ b=none->b ∉ bP outer->(PySem.W.hideAll s.heap (bP (envOfC qual scope s₀.heap.objs.size f cd :: outer))).get? b=some o:=fun b o e n hb=>
  inB b o (I.base.keep b o e n hb (fun z=>nomatch z)) (pW I e hb)
 have old0:∀ b o,s₀.heap.get? b=some o->b ∉ bP outer->∃ o',(PySem.W.hideAll s.heap (bP (envOfC qual scope s₀.heap.objs.size f cd :: outer))).get? b=some o':=fun b o e hb=>by
  obtain ⟨o1,e1⟩:=I.base.there b o e (fun z=>nomatch z)
  exact⟨o1,inB b o1 e1 (pW I e hb)⟩
 refine⟨H,_,e,C,rfl,⟨I.os,I.bare,⟨fun b o e n hb _=>fly.1 _ _ (old b o e n hb),fun b o e n hb _=>slot b o e hb,fun b o e n hx=>I.base.free b o e n hx,fun b o e _=>?_,I.base.tups,I.base.frzs,I.base.tbls⟩,fun b u z=>?_,⟨_,fly⟩,old0,old,fun b u o z h=>?_⟩,q⟩
 ·by_cases hb:b ∈ bP outer
  ·obtain ⟨sl,e1⟩:=slot b o e hb
   exact⟨_,e1⟩
  ·obtain ⟨o',e1⟩:=old0 b o e hb
   exact⟨o',fly.1 _ _ e1⟩
 ·refine (I.hok b u z).stay (fun c v hc y=>?_) (fun _ y=>y) fun _ _ y=>y
  rcases hc with z' | z'
  ·subst z'; exact fly.1 _ _ (inB _ _ y (tr _ _ z))
  ·exact fly.1 _ _ (inB _ _ y (tr _ _ z'))
 ·obtain ⟨ob,e1⟩:=(I.hok b u z).at
  have e2:=inB b ob e1 (tr b u z)
  have e3:=fly.1 _ _ e2
  have h:h''.get? b=some o:=h
  rw [h] at e3; cases e3; exact e2
end
structure lT (X:Cx) (E:XK):Prop where
 pass:mD (eO X.prog X.w) X E
 made:∀ (pins:List (Addr × Obj)) (σ:St) (H:Hp) (s:Shared) (h':Heap) (e C:Addr) (args:List Value),a6 X pins σ H s->Heap.MadeExcOf s.heap h' e (.ref C) args->E (.ref C) none H->X.xe (.ref e) { s with heap:=h' }
 own:PassesOwn (model X.prog X.w) X.A X.env X.xe
theorem at5 {P:Program}{w:World}{K:PySem.W.Frag}{mg:Str->Option Value}{base:Heap}{N:List Str}{qual:Str}{scope:Scope}{f:Addr}{cd:Value}{A:Around}{outer:List Env}{s₀:Shared}{H₀:Hp}{E₀ E₁:XK} (hE:∀ c d H',E₁ c d H'->E₀ c d H') :
  lT (cZ (eO P w) P w K mg base N qual scope f cd A outer s₀ H₀ E₀) E₁:=
 ⟨at2 hE,fun _ _ _ _ _ _ _ _ I mx q=>at3 I mx (hE _ _ _ q),PassesOwn.leaving⟩
noncomputable def F7 (E:XK) (C:Addr) (t:TA):TS:=fun _ σ H=>t σ H fun vs H1=>vs.length<=sizeLine/\E (.ref C) none H1
theorem at6 {X:Cx}{E:XK}{x:Str}{C:Addr}{bm:List Value}{B newId initId:String}{np cpos pos:Pos}{e:Expr}{es:List Expr}{t:TA} (hX:lT X E) (hc:X.calm=true) (O:OwnCls x C bm newId X.mg X.base) (FB:ExcBaseFacts B newId initId bm) (ha:PA X (e :: es) t) (hg:Gl X x)
  (hd:(x == ("__debug__" : Str))=false:=by decide) (he:starEach (e :: es) X.env=(false,eval e X.env) :: starEach es X.env:=by rfl) (hpl:(backTo cpos (starEach es X.env)).any (·.1)=false:=by rfl) :
  PS X (.Raise (some (.Call (.Name x np) (e :: es) [] cpos)) none pos) (F7 E C t):=by
 intro pins s σ H D I h
 obtain ⟨tl,Na,nm,qn,bs,hx,sn,sub,ab,col,dd,k0,k1,k2,k3,k5,mN,hC,hN,hni,T⟩:=O.obj
 refine wpAny_Raise_call_subT (nm:=nm) (q:=qn) (N:=Na) (bs:=bs) (bm:=tl) (hdct:=hx) (sn:=sn) (sub:=sub) (ab:=ab) (col:=col) (dd:=dd) (k0:=k0) (k1:=k1) (k2:=k2) (k3:=k3) (k5:=k5) FB (C:=C) (mN:=mN) (T.hasType FB.hasBase) (I.ok.hd hc) (by rw [he]; show (false || (backTo cpos (starEach es X.env)).any (·.1))=false; rw [hpl]; rfl) hni (w9 I hg O.bound ⟨rfl,?_⟩ hd)
 have h1:=ha cpos pins s σ H _ I h
 rw [he] at h1 ⊢
 refine Calls.evalArgs_plain (aV8 h1 (fun us s2 h2=>?_) fun _ _ y=>y)
 obtain ⟨vs,H2,I2,r,hl,q⟩:=h2
 have r:aK vs us:=r
 exact⟨rfl,by show us.length<=sizeLine; rw [<- r.length]; exact hl,I2.bk _ _ hC,hN.keeps I2.bk,T.keeps I2.bk,fun h' e' mx=>hX.made pins σ H2 s2 h' e' C _ I2 mx q⟩
theorem eF.okX {P:Program}{w:World}{K:PySem.W.Frag}{mg:Str->Option Value}{base:Heap}{x qual:Str}{st:Stmt}{f:Addr}{fd:FuncData}{N ps:List Str}{k:Nat}{sp:Sp} (F:eF K x qual st f fd) (S:FnScope N ps (aY st)) (len:∀ vs H Q E,sp vs H Q E->vs.length=ps.length)
  (hbody:∀ (cdv:Value) (A:Around) (outer:List Env) (s:Shared) (H:Hp) (vs:List V) (Q:VK) (E:XK),c6 k (A.deeper (envOfC qual (aY st) s.heap.objs.size f cdv))->sp vs H Q E->
   ∃ t,e6 (cZ (eO P w) P w K mg base N qual (aY st) f cdv A outer s H E) (eD st) t/\t { nx:=fun _ H'=>Q .non H',rt:=Q } (start N vs) H):cH P w K mg base (eO P w) (k+1) f fd ps sp:=by
 obtain ⟨oc,od,kV,doc,pm,an,cdv,ct,osl,rfl,lk,hcd⟩:=F.ex
 exact xC lk hcd S len fun A outer s H vs Q E hr hsp=>hbody cdv A outer s H vs Q E hr hsp
section
variable {X : Cx} {pins : List (Addr × Obj)} {σ : St} {H H1 H' : Hp} {s s1 s' : Shared} {B h2 : Heap} {a C : Addr}
noncomputable abbrev Cx.suite (X:Cx) (a:Addr):Cx:={ X with A:=X.A.mark (some (.ref a)),calm:=false,xe:=fun _ _=>False }
end
noncomputable abbrev TB:=dZ->XK->St->Hp->Prop
section
variable {X : Cx}
noncomputable def F8:V->List V->Hp->VK->Prop:=fun x vs H Q=>∃ l xs y,∃ k:Nat,x = .ref l/\vs = [.int k,y]/\H l=some (.lst xs)/\k<=xs.length/\xs.length < sizeLine/\Q .non (upd H l (.lst (xs.take k ++ y :: xs.drop k)))
theorem at7:l7 X "list.insert" F8:=by
 intro pins s σ H x vs v us Q I rx rv h
 obtain ⟨l,xs,y,k,rfl,rfl,hH,hk,hz,q⟩:=h
 obtain ⟨u1,u2,rfl,⟨t,rfl⟩,r2⟩:=rv.two
 obtain rfl:v=Value.ref l:=rx
 obtain ⟨z,its,n,r,hl,e⟩:=I.lstM hH
 have hs:sizeLine=16777216:=sizeLine_eq
 obtain ⟨x,hx⟩:∃ x:Int,x=(k:Int):=⟨_,rfl⟩
 rw [<- hx]
 have hf : ¬(!Builtin.List.listFitsIndex x)=true:=by
  have h1:Builtin.List.listFitsIndex x=true:=by
   unfold Builtin.List.listFitsIndex
   rw [aR4]
   exact⟨aO2 (by lia),aO2 (by lia)⟩
  rw [h1]; exact aP2
 have hz2:its.toArray.size<=sizeLine:=by rw [aN3]; lia
 refine call_meets PySem.F.slot_list_insert ⟨_,e,rfl⟩ PySem.F.entry_list_insert (PySem.F.args_list_insert_3 _ _ _) (AutoSeq1.list_insert_list_int_val_1 l its.toArray n x t u2 hf hz2) ⟨e,.non,_,?_,rfl,q⟩
 refine I.lset (its':=its.take k ++ u2 :: its.drop k) hH e ?_ ((r.take k).append (.cons r2 (r.drop k))) ?_
 ·have e1:(if x < 0 then (x+(its.toArray.size:Int)).toNat else min x.toNat its.toArray.size)=k:=by
   rw [if_neg (by lia),aN3]
   lia
  dsimp only
  rw [e1]
  apply Array.toList_inj.mp
  simp only [Array.toList_append,Array.toList_push,Array.toList_extract,List.extract_eq_drop_take]
  simp
  rw [aR3 (by rw [aW7]; lia)]
 ·rw [aP7,aP8,aV4,aW7]
  lia
end
end L2
namespace Core
open PySem L2 PP
noncomputable def gW (ns:List Int):Bool:=((ns.zip (ns.drop 1)).map fun p=>decide (p.1 < p.2)).all id
theorem pX {α β:Type}{l:List α}{f:α->β}{i:Nat}{x:α} (h:l[i]? = some x):(l.take (i+1)).map f=(l.take i).map f ++ [f x]:=by
 rw [aR5,h]; simp
theorem fP:∀ {ns:List Int},gW ns=true->ns.Pairwise (· < ·)
 | [],_=>.nil
 | [x],_=>aQ1 _ _
 | x :: y :: r,h=>by
  have e:gW (x :: y :: r)=(decide (x < y) && gW (y :: r)):=rfl
  rw [e,aR4] at h
  have ih:=fP h.2
  refine aV1.mpr ⟨fun z hz=>?_,ih⟩
  rcases aO7.mp hz with rfl | hz
  ·exact aT3 h.1
  ·exact Int.lt_trans (aT3 h.1) (List.rel_of_pairwise_cons ih hz)
theorem uQ:∀ {ns:List Int},ns.Pairwise (· < ·)->gW ns=true
 | [],_=>rfl
 | [x],_=>rfl
 | x :: y :: r,h=>by
  have e:gW (x :: y :: r)=(decide (x < y) && gW (y :: r)):=rfl
  have h':=aV1.mp h
  rw [e,uQ h'.2,Bool.and_true]
  exact aO2 (h'.1 y aO1)
noncomputable def kin (ws:List Int) (ls:List (Int × Int)) (S:List Int) (h:Int):Bool:=!decide (h ∈ S) && decide (ws.getD h.toNat 0<=(((aN ls h).filter fun x=>decide (x ∈ S)).length:Int))
noncomputable def nextOf (ws:List Int) (ls:List (Int × Int)) (S:List Int):List Int:=((List.range ws.length).map fun (i:Nat)=>(i:Int)).filter (kin ws ls S)
noncomputable def nM (ws:List Int) (ls:List (Int × Int)) (S:List Int):Nat->List Int
 | 0=>S
 | k+1=>nM ws ls S k ++ nextOf ws ls (nM ws ls S k)
noncomputable def F9 (ws:List Int) (S:List Int):Nat:=(((List.range ws.length).map fun (i:Nat)=>(i:Int)).filter fun x=>!decide (x ∈ S)).length
theorem G0 {α:Type} (p q:α->Bool) (h:∀ x,q x=true->p x=false):∀ L:List α,(L.filter fun x=>!p x && !q x).length+(L.filter q).length=(L.filter fun x=>!p x).length
 | []=>rfl
 | x :: r=>by
  have ih:=G0 p q h r
  cases e1:p x with
  | true=>
   have e2:q x=false:=by
    cases e:q x with
    | false=>rfl
    | true=>have:=h x e; rw [e1] at this; cases this
   simp only [aX8,e1,e2,Bool.not_true,aZ8,aQ2,aT8]
   exact ih
  | false=>
   cases e2:q x with
   | true=>
    simp only [aX8,e1,e2,Bool.not_true,Bool.not_false,aY3,aQ2,aT8,if_true,aP8]
    lia
   | false=>
    simp only [aX8,e1,e2,Bool.not_false,Bool.and_true,aQ2,aT8,if_true,aP8]
    lia
noncomputable def after (ws:List Int) (ls:List (Int × Int)) (S:List Int) (m:Nat):List (List Int):=(List.range m).map fun k=>nextOf ws ls (nM ws ls S k)
theorem at8 {ws ns:List Int} (hu:ns.Pairwise (· < ·)) (hin:∀ x ∈ ns,0<=x/\x < (ws.length:Int)):ns.length+F9 ws ns<=ws.length:=by
 have nd:ns.Nodup:=hu.imp fun h=>aX5 h
 have sub:ns ⊆ ((List.range ws.length).map fun (i:Nat)=>(i:Int)).filter fun x=>decide (x ∈ ns):=fun x hx=>by
  refine aP6.mpr ⟨aP4.mpr ⟨x.toNat,aZ5.mpr ?_,?_⟩,aO2 hx⟩
  ·have:=hin x hx; lia
  ·have:=hin x hx; lia
 have h1:=nd.length_le_of_subset sub
 have h2:=G0 (fun _=>false) (fun x=>decide (x ∈ ns)) (fun _ _=>rfl) ((List.range ws.length).map fun (i:Nat)=>(i:Int))
 have h3:(((List.range ws.length).map fun (i:Nat)=>(i:Int)).filter fun x=>!false && !decide (x ∈ ns)).length=F9 ws ns:=rfl
 have h4:(((List.range ws.length).map fun (i:Nat)=>(i:Int)).filter fun x=>!false).length<=ws.length:=by
  refine aS0 (aS8 _ _) ?_
  rw [aN6,List.length_range]; exact aO0 _
 rw [h3] at h2
 lia
noncomputable def dZ (ws:List Int) (ls:List (Int × Int)) (ns:List Int) (m:Nat):Prop:=(∀ k < m,nextOf ws ls (nM ws ls ns k) ≠ [])/\nextOf ws ls (nM ws ls ns m) = []
theorem j8 {ns:List Int}{i:Nat}{x:PV} (h:(intz ns)[i]? = some x):∃ n,x = .int n/\ns[i]? = some n:=by
 rw [aO5] at h
 cases e:ns[i]? with
 | none=>rw [e] at h; cases h
 | some n=>rw [e] at h; exact⟨n,(aQ5 h).symm,rfl⟩
theorem jU {lo:Int}{n i:Nat}{x:PV} (h:(eJ lo n)[i]? = some x):x = .int (lo+i)/\i < n:=by
 have hi:i < n:=by
  have:=(aN9.mp h).1
  rwa [gJ] at this
 rw [u6 hi] at h
 exact⟨(aQ5 h).symm,hi⟩
noncomputable def rng (n:Nat):List Int:=(List.range n).map fun (i:Nat)=>(i:Int)
theorem dP (n:Nat):(rng n).length=n:=by unfold rng; rw [aN6,List.length_range]
theorem G1 {n i:Nat} (h:i < n):(rng n)[i]? = some (i:Int):=by unfold rng; rw [aO5,List.getElem?_range h]; rfl
theorem cX {n:Nat}{x:Int}:x ∈ rng n ↔ 0<=x/\x < (n:Int):=by
 unfold rng
 rw [aP4]
 constructor
 ·rintro ⟨i,hi,rfl⟩
  have:=aZ5.mp hi
  lia
 ·intro h
  exact⟨x.toNat,aZ5.mpr (by lia),by lia⟩
theorem uR {α:Type}{l:List α}{p:α->Bool}{i:Nat}{x:α} (h:l[i]? = some x):(l.take (i+1)).filter p=(l.take i).filter p ++ (if p x=true then [x] else []):=by
 rw [aR5,h,List.filter_append]
 congr 1
 cases e:p x <;> simp [e]
theorem fQ (a b:List Int):intz (a ++ b)=intz a ++ intz b:=aQ0
theorem bH (a:List Int):(intz a).length=a.length:=aN6 _
noncomputable def bZ (ws:List Int) (ls:List (Int × Int)):PV:=.tup [.tup (intz ws),.tup (ls.map fun l=>.tup [.int l.1,.int l.2])]
structure Wb (ws:List Int) (ls:List (Int × Int)):Prop where
 few:ws.length<=40
 most:ls.length<=1700
 links:∀ l ∈ ls,(0<=l.1/\l.1 < ws.length)/\0<=l.2/\l.2 < ws.length
noncomputable def dQ (x:PV) (ns:List Int):Prop:=x = .tup (intz ns) ∨ x = .lst (intz ns)
theorem dQ.seq {x:PV}{ns:List Int} (h:dQ x ns):iY x=some (intz ns):=by rcases h with rfl | rfl <;> rfl
theorem dQ.seqT {x:PV}{ns:List Int} (h:dQ x ns):seqT x=some (intz ns):=by rcases h with rfl | rfl <;> rfl
theorem nN:∀ (ls:List (Int × Int)),flats (ls.map fun l=>PV.tup [.int l.1,.int l.2])=true
 | []=>rfl
 | l :: r=>by
  show (flat (.tup [.int l.1,.int l.2]) && flats (r.map fun l=>PV.tup [.int l.1,.int l.2]))=true
  rw [nN r]; rfl
theorem at9 (ws:List Int) (ls:List (Int × Int)):flat (bZ ws ls)=true:=by
 show flats [.tup (intz ws),.tup (ls.map fun l=>PV.tup [.int l.1,.int l.2])]=true
 show (flat (.tup (intz ws)) && (flat (.tup (ls.map fun l=>PV.tup [.int l.1,.int l.2])) && true))=true
 show (flats (intz ws) && (flats (ls.map fun l=>PV.tup [.int l.1,.int l.2]) && true))=true
 rw [dW,nN]; rfl
noncomputable def gX:bE:=fun xs Q=>∃ ws ls,xs = [bZ ws ls]/\Q (.int ws.length)
noncomputable def G2:aQ:=(bM (aC dF (a7 (b8 (a5 0) (qC (.int 0))) a9)))
noncomputable abbrev cB (t:aQ) (N:List Str) (p:bE):Prop:=∀ xs Q,p xs Q->t { nx:=fun _=>Q .non,rt:=Q } (fO N xs)
theorem au0:cB G2 ["web"] gX:=by
 rintro xs Q ⟨ws,ls,rfl,q⟩
 refine⟨_,rfl,_,_,_,rfl,rfl,rfl,_,_,rfl,rfl,trivial,?_⟩
 rw [bH]; exact q
noncomputable def uS:bE:=fun xs Q=>∃ x ns,xs = [x]/\dQ x ns/\ns.length<=1000/\Q (.bl (gW ns))
noncomputable def inB (n:Nat) (x:Int):Bool:=decide (0<=x) && decide (x < (n:Int))
noncomputable def pY:bE:=fun xs Q=>∃ ws ls n,xs = [bZ ws ls,.int n]/\Q (.bl (inB ws.length n))
noncomputable def G3:aQ:=(bM (mU (C3 (a5 1) (qC (.int 0))) (lN (a5 1) (aC gX (a7 (a5 0) a9)))))
theorem au1:cB G3 ["web","number"] pY:=by
 rintro xs Q ⟨ws,ls,n,rfl,q⟩
 refine⟨_,rfl,_,_,rfl,rfl,_,rfl,?_⟩
 unfold inB at q
 by_cases h:(0:Int)<=n
 ·rw [aO2 h] at q ⊢
  refine bW ⟨_,rfl,_,rfl,ws,ls,rfl,_,_,rfl,rfl,trivial,?_⟩
  simpa using q
 ·rw [aP0 h] at q ⊢
  exact bC ⟨trivial,by simpa using q⟩
noncomputable def b7 (n:Nat) (ns:List Int):Bool:=gW ns && (ns.map (inB n)).all id
noncomputable def pZ:bE:=fun xs Q=>∃ ws ls x ns,xs = [bZ ws ls,x]/\dQ x ns/\ns.length<=1000/\Q (.bl (b7 ws.length ns))
noncomputable def G4:aQ:=(bM (mU (aC uS (a7 (a5 1) a9)) (aC u3 (a7 (cU (dO (a5 1)) [none,some 0] (bT 0) cM (aC pY (a7 (a5 1) (a7 (a5 0) a9)))) a9))))
theorem q0 {x:PV}{ns:List Int} (h:dQ x ns):(Slot.sh (flat x) x).tag = .rd->flat x=true:=by
 cases flat x <;> intro z <;> cases z
theorem au2:cB G4 ["web","numbers"] pZ:=by
 rintro xs Q ⟨ws,ls,x,ns,rfl,hx,hl,q⟩
 refine⟨_,rfl,x,ns,rfl,hx,hl,_,rfl,?_⟩
 unfold b7 at q
 cases h:gW ns with
 | false=>rw [h] at q; exact bC ⟨trivial,q⟩
 | true=>
  rw [h] at q
  refine bW ⟨_,rfl,_,hx.seq,q0 hx,by rw [bH]; lia,fun i acc=>acc=(((ns.take i).map (inB ws.length)).map PV.bl),rfl,?_,?_⟩
  ·rintro i y acc hy rfl
   obtain ⟨n,rfl,hn⟩:=j8 hy
   have tk:((ns.take (i+1)).map (inB ws.length)).map PV.bl=((ns.take i).map (inB ws.length)).map PV.bl ++ [PV.bl (inB ws.length n)]:=by rw [pX hn,aQ0]; rfl
   exact⟨_,rfl,_,rfl,ws,ls,n,rfl,trivial,tk.symm⟩
  ·rintro acc rfl
   rw [bH,aU5]
   exact⟨_,rfl,trivial,by simpa using q⟩
theorem dQ.noscr {x:PV}{ns:List Int} (h:dQ x ns):∀ ms,([x]:List PV) ≠ [.scr ms]:=by
 rcases h with rfl | rfl <;> intro ms z <;> cases z
structure DS (ps:List (aG × PV)) (S:List Int):Prop where
 has:∀ i:Int,(cF ps (Sum.inl i:aG)).isSome=decide (i ∈ S)
 len:ps.length<=S.length
 fl:flats (ps.map (·.2))=true
theorem DS.nil:DS [] []:=⟨fun i=>rfl,aO0 _,rfl⟩
section
variable {κ : Type} [DecidableEq κ]
theorem j9 {p:κ × PV}{r:List (κ × PV)}{k:κ} (e:p.1=k):cF (p :: r) k=some p.2:=by simp [cF,aW5,e]
theorem jA {p:κ × PV}{r:List (κ × PV)}{k:κ} (e : ¬ p.1=k):cF (p :: r) k=cF r k:=by simp [cF,aW5,e]
theorem qA (k:κ):∀ kvs:List (κ × PV),(kvs.any fun kv=>decide (kv.1=k))=(cF kvs k).isSome
 | []=>rfl
 | p :: r=>by
  rw [aZ3]
  by_cases e:p.1=k
  ·simp only [j9 e,aO2 e,Bool.true_or,Option.isSome_some]
  ·rw [jA e,aP0 e,Bool.false_or]; exact qA k r
theorem G5 (k j:κ) (y:PV):∀ kvs:List (κ × PV),cF (kvs.map fun kv=>if kv.1=k then (kv.1,y) else kv) j=(cF kvs j).map fun x=>if j=k then y else x
 | []=>rfl
 | p :: r=>by
  have ih:=G5 k j y r
  rw [aS6]
  by_cases h:p.1=k
  ·rw [if_pos h]
   by_cases e:p.1=j
   ·rw [j9 (p:=(p.1,y)) e,j9 e,Option.map_some,if_pos (e.symm.trans h)]
   ·rw [jA (p:=(p.1,y)) e,jA e,ih]
  ·rw [if_neg h]
   by_cases e:p.1=j
   ·rw [j9 (p:=p) e,j9 e,Option.map_some,if_neg (fun z=>h (e.trans z))]
   ·rw [jA (p:=p) e,jA e,ih]
theorem G6 (k j:κ) (y:PV):∀ kvs:List (κ × PV),cF kvs k=none->cF (kvs ++ [(k,y)]) j=if j=k then some y else cF kvs j
 | [],_=>by
  by_cases e:k=j
  ·rw [if_pos e.symm]; exact j9 (p:=(k,y)) e
  ·rw [if_neg (fun z=>e z.symm)]; exact jA (p:=(k,y)) e
 | p :: r,hn=>by
  rw [List.cons_append]
  have hk : ¬ p.1=k:=fun z=>by rw [j9 z] at hn; cases hn
  rw [jA hk] at hn
  have ih:=G6 k j y r hn
  by_cases e:p.1=j
  ·rw [j9 e,j9 e,if_neg (fun z=>hk (e.trans z))]
  ·rw [jA e,jA e,ih]
theorem au3 (kvs:List (κ × PV)) (k j:κ) (y:PV):cF (eY kvs k y) j=if j=k then some y else cF kvs j:=by
 unfold eY
 by_cases a:(kvs.any fun kv=>decide (kv.1=k))=true
 ·rw [if_pos a,G5]
  rw [qA] at a
  by_cases e:j=k
  ·obtain ⟨x,hx⟩:=Option.isSome_iff_exists.mp a
   rw [if_pos e,e,hx,Option.map_some,if_pos rfl]
  ·rw [if_neg e]
   cases cF kvs j with
   | none=>rfl
   | some x=>rw [Option.map_some,if_neg e]
 ·rw [if_neg a]
  refine G6 k j y kvs ?_
  rw [qA] at a
  cases q:cF kvs k with
  | none=>rfl
  | some x=>rw [q] at a; exact (a rfl).elim
theorem au4 (kvs:List (κ × PV)) (k:κ) (v:PV):(eY kvs k v).length<=kvs.length+1:=by
 unfold eY
 split
 ·rw [aN6]; lia
 ·rw [aP7,aP8,List.length_nil]; lia
end
theorem G7:∀ (xs:List PV),flats xs=true ↔ ∀ x ∈ xs,flat x=true
 | []=>by simp [flats]
 | x :: r=>by
  unfold flats
  rw [aR4,G7 r]; simp
theorem au5 {κ:Type} [DecidableEq κ] {ps:List (κ × PV)}{k:κ}{v:PV}{p:κ × PV} (h:p ∈ eY ps k v):p.2=v ∨ p ∈ ps:=by
 unfold eY at h
 split at h
 ·obtain ⟨q,hq,e⟩:=aP4.mp h
  split at e
  ·subst e; exact .inl rfl
  ·subst e; exact .inr hq
 ·rcases aO4.mp h with h | h
  ·exact .inr h
  ·rw [aN7.mp h]; exact .inl rfl
theorem au6 {κ:Type} [DecidableEq κ] {ps:List (κ × PV)}{k:κ}{v:PV} (h:flats (ps.map (·.2))=true) (hv:flat v=true):flats ((eY ps k v).map (·.2))=true:=by
 rw [G7] at h ⊢
 intro x hx
 obtain ⟨p,hp,rfl⟩:=aP4.mp hx
 rcases au5 hp with e | e
 ·rw [e]; exact hv
 ·exact h _ (aP4.mpr ⟨p,e,rfl⟩)
theorem DS.put {ps:List (aG × PV)}{S:List Int} (h:DS ps S) (x:Int) (v:PV) (hv:flat v=true):DS (eY ps (Sum.inl x:aG) v) (S ++ [x]):=by
 refine⟨fun i=>?_,?_,au6 h.fl hv⟩
 ·rw [au3]
  by_cases e:i=x
  ·subst e; rw [if_pos rfl]; simp
  ·rw [if_neg (fun z=>e (Sum.inl.inj z)),h.has]
   simp [e]
 ·have:=au4 ps (Sum.inl x:aG) v
  have:=h.len
  rw [aP7,aS2]; lia
noncomputable def lU:bE:=fun xs Q=>∃ x ns,xs = [x]/\dQ x ns/\ns.length<=1000/\∀ ps,DS ps ns->Q (.dK ps)
noncomputable def G8:aQ:=(aE (dN 1 (qC (.dK [])))
 (aE (eM (dO (a5 0)) (bT 2)
  (pL 1 (a5 2) (qC (.bl true))))
 (jO 1)))
theorem au7:cB G8 ["hearths","inside","hearth"] lU:=by
 rintro xs Q ⟨x,ns,rfl,hx,hl,q⟩
 refine⟨rfl,rfl,_,rfl,_,hx.seq,q0 hx,fun i ρ=>∃ y ps,ρ = [some (.sh (flat x) x),some (.own (.dK ps)),y]/\DS ps (ns.take i),⟨none,[],rfl,DS.nil⟩,?_,?_⟩
 ·rintro i y ρ hy ⟨y0,ps,rfl,d⟩
  obtain ⟨n,rfl,hn⟩:=j8 hy
  have hlen:=d.len
  rw [aV4] at hlen
  refine⟨_,rfl,_,rfl,Sum.inl n,rfl,trivial,by lia,_,_,rfl,?_⟩
  rw [aR5,hn]
  exact d.put n _ rfl
 ·rintro ρ ⟨y,ps,rfl,d⟩
  rw [bH,aU5] at d
  exact⟨_,rfl,trivial,q ps d⟩
noncomputable def cO (n:Nat) (ls:List (Int × Int)):List PV:=(List.range n).map fun (k:Nat)=>PV.lst (intz (aN ls k))
noncomputable def jB:bE:=fun xs Q=>∃ ws ls,xs = [bZ ws ls]/\Wb ws ls/\Q (.lst (cO ws.length ls))
theorem uT {n:Nat}{ls:List (Int × Int)}{h:Int} (h0:0<=h) (h1:h < (n:Int)):atI (cO n ls) h=some (.lst (intz (aN ls h))):=by
 refine lB h0 ?_
 unfold cO
 rw [aO5,List.getElem?_range (by lia)]
 show some (PV.lst (intz (aN ls ((h.toNat:Nat):Int))))=_
 rw [show ((h.toNat:Nat):Int)=h by lia]
theorem au8 {ws:List Int}{h:Int} (h0:0<=h) (h1:h < (ws.length:Int)):atI (intz ws) h=some (.int (ws.getD h.toNat 0)):=by
 refine lB h0 ?_
 have:h.toNat < ws.length:=by lia
 rw [aO5,aO3,aN5 this]; rfl
noncomputable def tups (rs:List (List Int)):List PV:=rs.map fun r=>PV.tup (intz r)
theorem qB (rs:List (List Int)):(tups rs).length=rs.length:=aN6 _
theorem fB {n:Nat}{ns:List Int} (h:b7 n ns=true):gW ns=true/\∀ x ∈ ns,0<=x/\x < (n:Int):=by
 unfold b7 at h
 rw [aR4,aV7] at h
 refine⟨h.1,fun x hx=>?_⟩
 have:=h.2 _ (aP4.mpr ⟨x,hx,rfl⟩)
 unfold inB at this
 simpa using this
theorem qD {n:Nat}{ns:List Int} (h:b7 n ns=true):ns.length<=n:=by
 obtain ⟨h1,h2⟩:=fB h
 have:=at8 (ws:=List.replicate n (0:Int)) (fP h1) (by rw [aW1]; exact h2)
 rw [aW1] at this
 lia
end Core
namespace PP
open PySem L2
noncomputable def uU (te:aH):aH:=fun ρ Q=>te ρ fun x _=>∃ n:Int,x = .int n/\0<=n/\n<=1000000/\Q (.lst (eJ 0 n.toNat)) .fr
noncomputable def qE:List PV->(PV->Prop)->Prop:=fun xs Q=>∃ ys:List (List Int),xs = [.lst (ys.map fun r=>PV.tup (intz r))]/\ys.length < 64/\(∀ y ∈ ys,y ≠ [])/\∀ zs:List (List Int),zs.Perm ys->zs.Pairwise (fun u v=>HT.eS v u=false)->Q (.lst (zs.map fun r=>PV.tup (intz r)))
end PP
namespace Core
open PySem L2 PP
theorem au9 (g:Tg) (n:Int):Nw g (.int n):=by cases g <;> first | exact trivial | rfl
noncomputable def nO (x:PV) (ns:List Int):Prop:=x = .scr ns ∨ x = .lst (intz ns)
theorem nO.seq {x:PV}{ns:List Int} (h:nO x ns):iY x=some (intz ns):=by rcases h with rfl | rfl <;> rfl
theorem nO.len {x:PV}{ns:List Int} (h:nO x ns):tZ x=some ns.length:=by
 rcases h with rfl | rfl
 ·rfl
 ·show some (intz ns).length=_
  rw [bH]
noncomputable def fC:bE:=fun xs Q=>∃ x ns k,xs = [x,.int k]/\nO x ns/\0<=k/\Q (.int (ns.getD k.toNat 0))
noncomputable def G9:aQ:=(aE (cJ (bA (lN (a5 1) (aC dF (a7 (a5 0) a9)))) (bM (b8 (a5 0) (a5 1))) cI)
 (bM (qC (.int 0))))
theorem av0:cB G9 ["script","k"] fC:=by
 rintro xs Q ⟨x,ns,k,rfl,hx,h0,q⟩
 refine⟨_,rfl,_,rfl,_,_,rfl,hx.len,_,_,rfl,rfl,_,rfl,?_⟩
 by_cases h:k < (ns.length:Int)
 ·rw [aO2 h]
  exact bW ⟨_,rfl,_,rfl,_,_,_,hx.seq,rfl,au8 h0 h,au9 _ _,q⟩
 ·rw [aP0 h]
  rw [aO3,ba4 (by lia)] at q
  exact bC ⟨trivial,q⟩
noncomputable def aX (ls:List (Int × Int)):List PV:=ls.map fun l=>PV.tup [.int l.1,.int l.2]
theorem iD (ls:List (Int × Int)):(aX ls).length=ls.length:=aN6 _
noncomputable def iE (l m:Int × Int):Prop:=l.1 < m.1 ∨ (l.1=m.1/\l.2 < m.2)
noncomputable abbrev si (n:Int):Option Slot:=some (.sh true (.int n))
noncomputable def nP:bE:=fun xs Q=>∃ i,xs = [.int i]/\Q (.bl true)
noncomputable def J0 (K:PySem.W.Frag):aQ:=(bM (mU (jR K "int" (a5 0)) (tS (jR K "bool" (a5 0)))))
theorem dQ.len {x:PV}{ns:List Int} (h:dQ x ns):tZ x=some ns.length:=by
 rcases h with rfl | rfl <;> (show some (intz ns).length=_; rw [bH])
theorem av1 {K:PySem.W.Frag} (k1:PySem.W.kitOne K (.type "int") (.type "int")=some true) (k2:PySem.W.kitOne K (.type "int") (.type "bool")=some false):cB (J0 K) ["found"] nP:=by
 rintro xs Q ⟨i,rfl,q⟩
 exact⟨_,rfl,_,_,rfl,k1,_,rfl,bW ⟨_,rfl,_,_,rfl,k2,_,rfl,trivial,q⟩⟩
theorem qF {ls:List (Int × Int)}{i:Nat}{x:PV} (h:(aX ls)[i]? = some x):∃ l,x = .tup [.int l.1,.int l.2]/\ls[i]? = some l:=by
 unfold aX at h
 rw [aO5] at h
 cases e:ls[i]? with
 | none=>rw [e] at h; cases h
 | some n=>rw [e] at h; exact⟨n,(aQ5 h).symm,rfl⟩
end Core
namespace PP
open PySem L2 PyProof.Rows
theorem Reps.rep {K:PySem.W.Frag}{M:Addr->Prop}{H:Hp}{us:List V}{xs:List PV} (r:Reps K M H us xs):∀ k:Nat,Reps K M H (List.replicate k us).flatten (List.replicate k xs).flatten
 | 0=>.nil
 | k+1=>by rw [aR8,aR8,aW0,aW0]; exact r.append (Reps.rep r k)
section
variable {X : Cx} {a b e : Expr} {ta tb te : aH} {tr : cT} {pos p2 p3 pos2 : Pos}
theorem av2 {tA:TA} (hg:Gl X "range") (hm:X.mg "range" = none) (ha:PA X [a] tA) (hs:starEach [a] X.env = [(false,eval a X.env)]:=by rfl) :
  PE X (.Call (.Name "range" p2) [a] [] pos) (fun σ H Q=>tA σ H fun vs H1=>∃ j:Int,vs = [.int j]/\∀ r,H1 r=none->Q (.ref r) (upd H1 r (.rng 0 j))):=by
 intro pins s σ H Q I h
 refine Call_ (iL I hg hm boot_range (aT4 (aO (ha pos pins s σ H _ I h) fun us s1 ⟨vs,H1,I1,r1,q1⟩=>?_) hs rfl))
 obtain ⟨j,e,q⟩:=q1
 subst e
 cases r1 with
 | cons r rr=>
  cases rr
  obtain ⟨t,rfl⟩:=r
  refine call_range_1 ?_
  exact⟨.ref s1.heap.objs.size,_,I1.laid (o:=.rng 0 j) (fun b ob q=>aN4 _ q) (aO0 _) ⟨_,_,_,aP5 _ rfl⟩,rfl,q _ (I1.hok.fresh (aO0 _))⟩
theorem J1:∀ {xs:List V}{us:List Value},xs.length=us.length->(∀ (i:Nat) x u,xs[i]? = some x->us[i]? = some u->aT x u)->aK xs us
 | [],[],_,_=>.nil
 | x :: xs,u :: us,hl,h=>.cons (h 0 x u rfl rfl) (J1 (by simpa using hl) fun i y w h1 h2=>h (i+1) y w (by rw [aU8]; exact h1) (by rw [aU8]; exact h2))
theorem av3 {n:Nat}{acc:Array Value} (h:ItemsOf (fun i v=>∃ t,v = .int (0+(i:Int) * 1) t) acc n):aK (iU 0 n) acc.toList:=by
 obtain ⟨h1,h2⟩:=h
 refine J1 (by rw [t8]; simp [h1]) fun i x u hx hu=>?_
 have hi:i < n:=by
  have:=(aN9.mp hx).1
  rwa [t8] at this
 unfold iU at hx
 rw [aO5,List.getElem?_range hi] at hx
 cases hx
 obtain ⟨t,rfl⟩:=h2 i u (by rw [<- Array.getElem?_toList]; exact hu)
 exact⟨t,by congr 1; lia⟩
theorem av4 (hc:X.calm=true):cK X (.type "list") (fun xs H Q=>∃ r j,xs = [.ref r]/\H r=some (.rng 0 j)/\0<=j/\j<=1000000/\∀ l,H l=none->Q (.ref l) (upd H l (.lst (iU 0 j.toNat)))):=by
 intro pins s σ H xs us Q I r h
 obtain ⟨p,j,rfl,hq,h0,h1,q⟩:=h
 obtain ⟨u,rfl,rx⟩:=gM r
 cases rx
 obtain ⟨t,u,v,ho⟩:=(show bL X.prog X.w H s.heap p (.rng 0 j) from I.hok p _ hq)
 refine PySem.call_list_range (a:=0) (b:=j) (c:=1) (n:=j.toNat) (I.ok.hd hc) ho (small_one (by decide) (by decide) (by lia) (by lia)) (by rw [rangeSize_one]; split <;> lia) (by lia) fun h' tk acc' c' kp e it=>?_
 have vv:=av3 it
 have eq:acc'.toList.toArray=acc':=by simp
 exact⟨.ref s.heap.objs.size,_,I.laid (t':=tk) (o:=.lst (iU 0 j.toNat)) kp (aO0 _) ⟨by rw [t8]; exact lim (by lia),acc'.toList,c',vv,by rw [eq]; exact e⟩,rfl,q _ (I.hok.fresh (aO0 _))⟩
theorem av5 {K:PySem.W.Frag}{M:Addr->Prop}{H:Hp} (lo:Int) (n:Nat):Reps K M H (iU lo n) (eJ lo n):=by
 unfold iU eJ
 generalize List.range n=l
 induction l with
 | nil=>exact .nil
 | cons a r ih=>exact .cons (.int _) ih
theorem J2 (B:Bt X.mg) (ha:QE X a ta) (hc:X.calm=true:=by rfl) (hg:Gl X "list":=by rfl) (hgr:Gl X "range":=by rfl) (hs:starEach [a] X.env = [(false,eval a X.env)]:=by rfl)
  (he:starEach [.Call (.Name "range" p3) [a] [] pos2] X.env=(false,eval (.Call (.Name "range" p3) [a] [] pos2) X.env) :: starEach [] X.env:=by rfl) (hpl:(backTo pos (starEach [] X.env)).any (·.1)=false:=by rfl) :
  QE X (.Call (.Name "list" p2) [.Call (.Name "range" p3) [a] [] pos2] [] pos) (uU ta):=
 cD (xD (av4 hc) hg B.list PyProof.Rows.boot_list (cL (av2 hgr B.range (cL ha dD hs) hs) dD he) (he:=he) (hpl:=hpl)) fun σ H Q' h=>by
  obtain ⟨W,ρ,Q,px,q,k⟩:=h
  refine⟨W,ρ,_,px,q,?_⟩
  rintro v H1 x g s r ⟨n,rfl,h0,h1,q⟩
  cases r
  refine⟨n,rfl,fun r hr=>⟨r,n,rfl,bJ,h0,h1,fun l hl=>?_⟩⟩
  have S:aB H (upd (upd H1 r (.rng 0 n)) l (.lst (iU 0 n.toNat))):=(s.trans (bK hr _)).trans (bK hl _)
  exact k _ _ _ .fr S (.lst (((s.trans (bK hr _))).free hl) bJ (av5 0 n.toNat)) q
noncomputable def uV:V->Int
 | .int i=>i
 | _=>0
noncomputable def kR (H:Hp):V->List Int
 | .ref a=>match H a with
  | some (.tup us)=>us.map uV
  | _=>[]
 | _=>[]
theorem av6 {H:Hp}{a:Addr}{ns:List Int} (h:H a=some (.tup (ns.map V.int))):kR H (.ref a)=ns:=by
 show (match H a with | some (.tup us)=>us.map uV | _=>[])=ns
 rw [h]
 show (ns.map V.int).map uV=ns
 rw [aT6]
 exact List.map_id _
theorem J3 {K:PySem.W.Frag}{M:Addr->Prop}{H:Hp}:∀ {us:List V}{ys:List (List Int)},Reps K M H us (ys.map fun r=>PV.tup (intz r))->us.map (kR H)=ys/\∀ u ∈ us,∃ b,u = .ref b/\H b=some (.tup ((kR H u).map V.int))
 | _,[],.nil=>⟨rfl,fun u h=>nomatch h⟩
 | _,y :: ys,.cons r t=>by
  obtain ⟨a,us,rfl,h,r1⟩:=r.sqT
  obtain rfl:=r1.ofInts
  obtain ⟨h1,h2⟩:=J3 t
  have hk:=av6 h
  refine⟨by rw [aS6,h1,hk],fun u hu=>?_⟩
  rcases aO7.mp hu with rfl | hu
  ·exact⟨a,rfl,by rw [hk]; exact h⟩
  ·exact h2 u hu
theorem J4 {K:PySem.W.Frag}{M:Addr->Prop}{H:Hp}:∀ {us:List V},(∀ u ∈ us,∃ b,u = .ref b/\H b=some (.tup ((kR H u).map V.int)))->Reps K M H us ((us.map (kR H)).map fun r=>PV.tup (intz r))
 | [],_=>.nil
 | u :: us,h=>by
  obtain ⟨b,rfl,hb⟩:=h u aO1
  exact .cons (.tup hb (Reps.intz _)) (J4 fun v hv=>h v (aO8 _ hv))
theorem av7:fN X qE (zM X.K):=by
 rintro H vs xs Q Q' r ⟨ys,rfl,hl,hne,q⟩ k
 obtain ⟨v,rfl,r1⟩:=r.one
 obtain ⟨a,us,rfl,_,h,r2⟩:=r1.sqL
 obtain ⟨h1,h2⟩:=J3 r2
 have lr:=r2.length
 rw [aN6] at lr
 refine⟨a,us,kR H,rfl,aJ.of h,by lia,fun y hy=>?_,fun l zs hl' pm so=>?_⟩
 ·obtain ⟨b,rfl,hb⟩:=h2 y hy
  refine⟨b,rfl,aM.of hb,hne _ ?_⟩
  rw [<- h1]; exact aP4.mpr ⟨_,hy,rfl⟩
 ·have hz:∀ u ∈ zs,∃ b,u = .ref b/\H b=some (.tup ((kR H u).map V.int)):=fun u hu=>h2 u (pm.mem_iff.mp hu)
  refine k _ _ _ (bK hl' _) (.lst hl' bJ ((J4 hz).same (bK hl' _) fun _ z=>z)) (q _ ?_ ?_)
  ·rw [<- h1]; exact pm.map _
  ·rw [aX2]; exact so
theorem av8 (B:Bt X.mg) (ha:QA X [e] tr) (hg:Gl X "sorted":=by rfl) (he:starEach [e] X.env=(false,eval e X.env) :: starEach [] X.env:=by rfl) (hpl:(backTo pos (starEach [] X.env)).any (·.1)=false:=by rfl):QE X (.Call (.Name "sorted" p2) [e] [] pos) (aC qE tr):=
 j5 ai4 av7 hg B.sorted PyProof.Rows.boot_sorted ha (he:=he) (hpl:=hpl)
end
noncomputable def J5 (K:PySem.W.Frag):Sp:=fun vs H Q _=>∃ (a:Addr) (ns:List Int),vs = [.ref a]/\(aM K H a (ns.map V.int) ∨ aJ K H a (ns.map V.int))/\ns.length<=1000/\∀ H',aB H H'->Q (.bl (Core.gW ns)) H'
noncomputable def qG:Sp:=fun vs H Q _=>∃ v ws ls,vs = [v]/\zP H v ws ls/\ws.length<=1000/\ls.length<=2000/\(∀ l ∈ ls,(0<=l.1/\l.1 < ws.length)/\0<=l.2/\l.2 < ws.length)/\
 ∀ (r:Addr) (bs:List Addr) (H':Hp),bs.length=ws.length->gP H H' r bs (fun k=>aN ls k)->Q (.ref r) H'
section
variable {P : Program} {w : World} {K : PySem.W.Frag} {mg : Str → Option Value} {base : Heap} {f : Addr} {fd : FuncData} {k : Nat}
theorem av9 (F:cH P w K mg base dE k f fd ["things"] (J5 K)) (b:i7 K fd ["things"] []) (kp:PySem.W.keepIn K (.ref f)=true) (m:mg "rises" = some (.ref f)):Df P w K mg base k "rises" ["things"] Core.uS:=by
 refine⟨f,fd,F.imp fun vs H Q E h=>?_,b,kp,m⟩
 obtain ⟨xs,Qp,r,⟨x,ns,rfl,hx,hl,q⟩,k⟩:=h
 obtain ⟨v,rfl,r1⟩:=r.one
 rcases hx with rfl | rfl
 ·obtain ⟨a,us,rfl,h,r2⟩:=r1.sqT
  obtain rfl:=r2.ofInts
  exact⟨a,ns,rfl,.inl (aM.of h),hl,fun H' s=>k _ H' _ s (.bl _) q⟩
 ·obtain ⟨a,us,rfl,_,h,r2⟩:=r1.sqL
  obtain rfl:=r2.ofInts
  exact⟨a,ns,rfl,.inr (aJ.of h),hl,fun H' s=>k _ H' _ s (.bl _) q⟩
theorem J6 {M:Addr->Prop}{H:Hp}:∀ {us:List V}{ls:List (Int × Int)},Reps K M H us (ls.map fun l=>PV.tup [.int l.1,.int l.2])->mR H us ls
 | _,[],.nil=>.nil
 | _,l :: ls,.cons r t=>by
  obtain ⟨a,us,rfl,h,r1⟩:=r.sqT
  obtain ⟨u1,u2,rfl,q1,q2⟩:=r1.two
  cases q1; cases q2
  exact .cons ⟨a,rfl,h⟩ (J6 t)
theorem J7 {M:Addr->Prop}{H:Hp}{v:V}{ws:List Int}{ls:List (Int × Int)} (r:aF K M H v (Core.bZ ws ls)):zP H v ws ls:=by
 obtain ⟨a,us,rfl,h,r1⟩:=aF.sqT r
 obtain ⟨u1,u2,rfl,q1,q2⟩:=r1.two
 obtain ⟨p,up,rfl,hp,rp⟩:=q1.sqT
 obtain ⟨q,uq,rfl,hq,rq⟩:=q2.sqT
 obtain rfl:=rp.ofInts
 exact⟨a,p,q,uq,rfl,h,hp,hq,J6 rq⟩
theorem uW {M:Addr->Prop}{H:Hp}:∀ {bs:List Addr}{ls:List (Int × Int)} (off:Nat),(∀ b ∈ bs,M b)->(∀ (k:Nat) b,bs[k]? = some b->H b=some (.lst ((aN ls ((off+k:Nat):Int)).map V.int)))->Reps K M H (bs.map V.ref) ((List.range' off bs.length).map fun (k:Nat)=>PV.lst (intz (aN ls k)))
 | [],_,_,_,_=>.nil
 | b :: bs,ls,off,hm,h=>by
  refine .cons (.lst (hm b aO1) (h 0 b rfl) (Reps.intz _)) (uW (off+1) (fun c hc=>hm c (aO8 _ hc)) fun k c hk=>?_)
  have:=h (k+1) c (by rw [aU8]; exact hk)
  rw [show off+1+k=off+(k+1) by lia]; exact this
theorem aw0 (F:cH P w K mg base dE k f fd ["web"] qG) (b:i7 K fd ["web"] []) (kp:PySem.W.keepIn K (.ref f)=true) (m:mg "near_lists" = some (.ref f)):Df P w K mg base k "near_lists" ["web"] Core.jB:=by
 refine⟨f,fd,F.imp fun vs H Q E h=>?_,b,kp,m⟩
 obtain ⟨xs,Qp,r,⟨ws,ls,rfl,wb,q⟩,k⟩:=h
 obtain ⟨v,rfl,r1⟩:=r.one
 have:=wb.few
 have:=wb.most
 refine⟨v,ws,ls,rfl,J7 r1,by lia,by lia,wb.links,fun t bs H' hb R=>k _ H' _ R.same (.lst R.new R.row ?_) q⟩
 have:=uW (K:=K) (M:=fun a=>H a=none) (H:=H') (bs:=bs) (ls:=ls) 0 (fun b hb=>(R.news b hb).1) fun k b hk=>by rw [Nat.zero_add]; exact R.rows k b hk
 rw [hb,<- List.range_eq_range'] at this
 exact this
end
end PP
namespace Core
open PySem L2 PP
theorem aw1 (n:Nat):eJ 0 n=intz (rng n):=by
 unfold eJ rng
 show _=List.map PV.int (List.map (fun (i:Nat)=>(i:Int)) (List.range n))
 rw [aT6]
 refine List.map_congr_left fun i _=>?_
 show PV.int (0+(i:Int))=PV.int (i:Int)
 rw [Int.zero_add]
noncomputable def two (l:Int × Int):List Int:=[l.1,l.2]
noncomputable def nQ (r:List Int):Int × Int:=(r.getD 0 0,r.getD 1 0)
theorem nR (ls:List (Int × Int)):aX ls=(ls.map two).map fun r=>PV.tup (intz r):=by
 unfold aX
 rw [aT6]; rfl
theorem aw2 {zs:List (List Int)}{ls:List (Int × Int)} (h:zs.Perm (ls.map two)):∃ ls':List (Int × Int),zs=ls'.map two/\ls'.Perm ls:=by
 refine⟨zs.map nQ,?_,?_⟩
 ·rw [aT6]
  have:∀ z ∈ zs,(two ∘ nQ) z=z:=fun z hz=>by
   obtain ⟨l,_,rfl⟩:=aP4.mp (h.mem_iff.mp hz)
   rfl
  rw [List.map_congr_left this,List.map_id']
 ·have:=h.map nQ
  rw [aT6] at this
  have e:ls.map (nQ ∘ two)=ls:=by
   have:∀ l ∈ ls,(nQ ∘ two) l=id l:=fun l _=>rfl
   rw [List.map_congr_left this,List.map_id]
  rw [e] at this
  exact this
theorem aw3 {ls:List (Int × Int)} (so:(ls.map two).Pairwise fun u v=>HT.eS v u=false) (nd:ls.Nodup):ls.Pairwise iE:=by
 rw [aX2] at so
 refine (List.pairwise_and_iff.mpr ⟨so,nd⟩).imp fun {a b} h=>?_
 obtain ⟨h1,h2⟩:=h
 unfold two at h1
 rw [HT.mE] at h1
 unfold iE
 by_cases e:b.1=a.1
 ·rw [if_pos e,HT.mE] at h1
  by_cases e2:b.2=a.2
  ·exact absurd (Prod.ext e.symm e2.symm) h2
  ·rw [if_neg e2] at h1
   have:=of_decide_eq_false h1
   lia
 ·rw [if_neg e] at h1
  have:=of_decide_eq_false h1
  lia
structure nS (i:Int) (ms:List Int):Prop where
 up:ms.Pairwise (· < ·)
 inn:∀ x ∈ ms,0<=x/\x < i
 len:(ms.length:Int)<=i
theorem nS.set {n:Nat}{ms:List Int} (h:nS (n:Int) ms):b7 n ms=true:=by
 unfold b7
 rw [uQ h.up,Bool.true_and,aV7]
 intro b hb
 obtain ⟨x,hx,rfl⟩:=aP4.mp hb
 have:=h.inn x hx
 unfold inB
 simp [this]
theorem uX:∀ {a b:List Int},a.Perm b->a.Pairwise (· <= ·)->b.Pairwise (· <= ·)->a=b:=by
 intro a b h ha hb
 exact h.eq_of_pairwise (fun x y _ _ h1 h2=>Int.le_antisymm h1 h2) ha hb
noncomputable def J8:bE:=fun xs Q=>∃ ns:List Int,xs = [.scr ns]/\ns.length<=63/\Q (.bl true)
structure aw4 (K:PySem.W.Frag):Prop where
 ii:PySem.W.kitOne K (.type "int") (.type "int")=some true
 ib:PySem.W.kitOne K (.type "int") (.type "bool")=some false
 tt:PySem.W.kitOne K (.type "tuple") (.type "tuple")=some true
 ll:PySem.W.kitOne K (.type "list") (.type "list")=some true
 bb:PySem.W.kitOne K (.type "bool") (.type "bool")=some true
theorem uY (K:PySem.W.Frag):aw4 K:=by
 have same:∀ n:String,PySem.W.kitMeta n=true->True:=fun _ _=>trivial
 refine⟨?_,?_,?_,?_,?_⟩
 ·unfold PySem.W.kitOne; rw [if_pos (by decide)]
 ·have e:(if PySem.W.kitMeta "bool" = true then (fastBuiltinMro "int").map (·.contains (Value.type "bool")) else none)=some false:=by decide +kernel
  unfold PySem.W.kitOne
  rw [if_neg (by decide)]
  exact e
 ·unfold PySem.W.kitOne; rw [if_pos (by decide)]
 ·unfold PySem.W.kitOne; rw [if_pos (by decide)]
 ·unfold PySem.W.kitOne; rw [if_pos (by decide)]
end Core
namespace PP
open PySem L2 PyProof.Rows
theorem aw5 {P:Program}{w:World}{K:PySem.W.Frag}{mg:Str->Option Value}{base:Heap}{k:Nat}{x:Str}{ps N:List Str}{p:bE}{st:Stmt}{f:Addr}{fd:FuncData} (F:eF K x x st f fd) (S:FnScope N ps (aY st))
  (len:∀ xs Q,p xs Q->xs.length=ps.length)
  (body:∀ (cdv:Value) (A:Around) (outer:List Env) (s:Shared) (H:Hp) (E:XK),c6 k (A.deeper (envOfC x (aY st) s.heap.objs.size f cdv))->
   ∃ t,eZ (cZ dE P w K mg base N x (aY st) f cdv A outer s H E).nox (eD st) t/\∀ xs Q,p xs Q->t { nx:=fun _=>Q .non,rt:=Q } (fO N xs)):cH P w K mg base dE (k+1) f fd ps (mX K p):=by
 refine F.ok S (fun vs H Q E h=>?_) (fun cdv A outer s H vs Q E hr h=>?_)
 ·obtain ⟨xs,Qp,r,q,_⟩:=h
  rw [r.length]; exact len xs Qp q
 ·obtain ⟨xs,Qp,r,q,k⟩:=h
  obtain ⟨t,ht,hq⟩:=body cdv A outer s H E hr
  refine⟨_,ht,fun _=>False,fO N xs,_,uO r,hq xs Qp q,?_,?_,?_,?_⟩
  ·exact fun W' σ' H' ρ' e px q=>k _ _ _ px.same .non q
  ·exact fun v H' x s r q=>k _ _ _ s r q
  ·exact fun W' σ' H' ρ' e px q=>q
  ·exact fun W' σ' H' ρ' e px q=>q
noncomputable def qH (K:PySem.W.Frag):Sp:=fun vs H Q _=>∃ (a:Addr) (ns:List Int),vs = [.ref a]/\iW K H a ns/\ns.length<=63/\∀ H',Q (.bl true) H'
theorem aw6 {P:Program}{w:World}{K:PySem.W.Frag}{mg:Str->Option Value}{base:Heap}{k:Nat}{f:Addr}{fd:FuncData} (F:cH P w K mg base dE k f fd ["script"] (mX K Core.J8)):cH P w K mg base dE k f fd ["script"] (qH K):=
 F.imp fun vs H Q E h=>by
  obtain ⟨a,ns,rfl,hs,hl,q⟩:=h
  refine⟨[.scr ns],fun z=>z = .bl true,.cons (.scr hs) .nil,⟨ns,rfl,hl,rfl⟩,?_⟩
  rintro v H' x _ r rfl
  cases r
  exact q H'
theorem aw7 {K:PySem.W.Frag}{H:Hp}{a:Addr}{ns:List Int} (hO:oP H) (h:aJ K H a (ns.map V.int)):iW K H a ns:=by
 rcases h with (h | ⟨o,h⟩) | h
 ·rcases hO a with e | ⟨o,xs,e⟩ <;> (rw [h] at e; cases e)
 ·exact .inl ⟨o,h⟩
 ·exact .inr h
end PP
namespace PyProof.Rows
open PySem
end PyProof.Rows
namespace PP
open PySem L2 PyProof.Rows
section
variable {X : Cx} {e : Expr} {te : aH} {pos p2 : Pos} {scope : Scope} {N : List Str} {fr : List (Option Nat)} {x y : Str} {tp xp yp : Pos} {kt : Nat} {iter elt : Expr} {ti : eW}
noncomputable abbrev lV (x y:Str) (xp yp:Pos) (kt:Nat) (tp:Pos):Expr:=.Tuple [.Name x xp,.Name y yp] kt tp
theorem J9 {ifs:List Expr}{tcs:c9} (hc:X.calm=true) (he:∀ (s:Shared) (H:Hp) (C:Addr) (fp:List Addr),QE (bF X scope N s H C fp bY) elt te) (hi:∀ (s:Shared) (H:Hp) (C:Addr) (fp:List Addr),jK (bF X scope N s H C fp bY) ifs (LT (bF X scope N s H C fp bY) tcs))
  (hN:N.Nodup) (h0:N[0]? = some x) (h1:N[1]? = some y) (hl:∀ (s:Shared) (H:Hp) (C:Addr) (fp:List Addr),(bF X scope N s H C fp bY).env.scope.names.lookup x=some .local) (hl2:∀ (s:Shared) (H:Hp) (C:Addr) (fp:List Addr),(bF X scope N s H C fp bY).env.scope.names.lookup y=some .local) (s:Shared) (H:Hp) :
  lA X scope N (lV x y xp yp kt tp) ifs elt s H (kA X.K 2 (fU (cC 0) (fU (cC 1) k9))) (LT (X.frm H) tcs) (LE (X.frm H) te):=
 ⟨fun C fp=>l4 (X:=bF X scope N s H C fp bY) hc (gB (eC hN h0 (.inl (hl s H C fp)) (.inr (hl s H C fp))) (gB (eC hN h1 (.inl (hl2 s H C fp)) (.inr (hl2 s H C fp))) kZ)),fun C fp=>hi s H C fp,fun C fp=>he s H C fp⟩
theorem K0 (hi:QI X (lV x y xp yp kt tp) iter ti) (he:∀ (s:Shared) (H:Hp) (C:Addr) (fp:List Addr),QE (bF X scope N s H C fp bY) elt te)
  (hc:X.calm=true:=by rfl) (S:c7 X scope N fr:=by exact c7.of rfl rfl) (hN:N.Nodup:=by decide +kernel) (h0:N[0]? = some x:=by rfl) (h1:N[1]? = some y:=by rfl) (hl:∀ (s:Shared) (H:Hp) (C:Addr) (fp:List Addr),(bF X scope N s H C fp bY).env.scope.names.lookup x=some .local:=by intro _ _ _ _; rfl) (hl2:∀ (s:Shared) (H:Hp) (C:Addr) (fp:List Addr),(bF X scope N s H C fp bY).env.scope.names.lookup y=some .local:=by intro _ _ _ _; rfl) (hf:fr[0]? = some none:=by rfl) (hf2:fr[1]? = some none:=by rfl)
  (hs:∀ x,foldedSetIterable iter X.env x=pure x:=by intro _; rfl):QE X (.ListComp elt [⟨lV x y xp yp kt tp,iter,[],0⟩] scope pos) (cU ti fr (i9 0 1) cM te):=
 cD (t7 (gh:=fun _=>kA X.K 2 (fU (cC 0) (fU (cC 1) k9))) (tch:=fun H=>LT (X.frm H) cM) (teh:=fun H=>LE (X.frm H) te) hc S hi (J9 hc he (fun _ _ _ _=>nJ) hN h0 h1 hl hl2) hs) fun _ _ _=>kL (u7 _ 0 1) (fun i e=>by rcases e with e | e <;> (subst e; assumption))
theorem aw8 {i:Nat}{z:Str}{zp:Pos} (nd:X.N.Nodup) (hi:QI X (lV x y xp yp kt tp) iter ti) (he:∀ (s:Shared) (H:Hp) (C:Addr) (fp:List Addr),QE (bF X scope N s H C fp bY) elt te)
  (hz:X.N[i]? = some z:=by rfl) (hzl:X.env.scope.names.lookup z=some .local:=by rfl) (hsw:swapsWith (.ListComp elt [⟨lV x y xp yp kt tp,iter,[],0⟩] scope p2) (some (.Name z zp)) pos.line X.env=pure true:=by rfl)
  (hc:X.calm=true:=by rfl) (S:c7 X scope N fr:=by exact c7.of rfl rfl) (hN:N.Nodup:=by decide +kernel) (h0:N[0]? = some x:=by rfl) (h1:N[1]? = some y:=by rfl) (hl:∀ (s:Shared) (H:Hp) (C:Addr) (fp:List Addr),(bF X scope N s H C fp bY).env.scope.names.lookup x=some .local:=by intro _ _ _ _; rfl) (hl2:∀ (s:Shared) (H:Hp) (C:Addr) (fp:List Addr),(bF X scope N s H C fp bY).env.scope.names.lookup y=some .local:=by intro _ _ _ _; rfl) (hf:fr[0]? = some none:=by rfl) (hf2:fr[1]? = some none:=by rfl)
  (hs:∀ x,foldedSetIterable iter X.env x=pure x:=by intro _; rfl):QS X (.Assign [.Name z zp] (.ListComp elt [⟨lV x y xp yp kt tp,iter,[],0⟩] scope p2) pos) (b4 i (cU ti fr (i9 0 1) cM te)):=
 dG (oW (gh:=fun _=>kA X.K 2 (fU (cC 0) (fU (cC 1) k9))) (tch:=fun H=>LT (X.frm H) cM) (teh:=fun H=>LE (X.frm H) te) hc S hi (J9 hc he (fun _ _ _ _=>nJ) hN h0 h1 hl hl2) nd hz hzl hsw hs) fun D σ H h=>kL (u7 _ 0 1) (fun i e=>by rcases e with e | e <;> (subst e; assumption)) (pG h)
end
section
variable {X : Cx} {a b e o f : Expr} {ta tb te td tk tx : aH} {pos p2 apos cpos : Pos} {σ : L2.St} {H : Hp} {Q' : VK}
noncomputable def K1:PV->Tg->PV->Tg->PK->Prop:=fun x _ y _ Q=>∃ xs n,x = .lst xs/\y = .int n/\flats xs=true/\-1000000<=n/\n<=1000000/\xs.length<=10/\Q (.lst (List.replicate n.toNat xs).flatten) .fr
noncomputable abbrev nT (ta tb:aH):aH:=q2 K1 ta tb
theorem aw9:eV X K1 yA:=by
 rintro W Hs H u v x y g g' Q Q' s n r1 r2 ⟨xs,m,rfl,rfl,f,h1,h2,hl,q⟩ k
 cases r2
 obtain ⟨a,us,rfl,mm,h,r⟩:=r1.sqL
 have lr:=r.length
 refine⟨a,m,us,rfl,rfl,h,by lia,by lia,lim ?_,fun p hp=>k _ _ _ .fr (bK hp _) (.lst (s.free hp) bJ (((r.flat f).rep m.toNat).same (bK hp _) fun _ z=>z)) q⟩
 have h3:us.length<=10:=by lia
 have h4:m.toNat<=1000000:=by lia
 calc us.length * m.toNat<=10 * 1000000:=Nat.mul_le_mul h3 h4
  _<=16000000:=by decide
theorem qI (ha:QE X a ta) (hb:QE X b tb):QE X (.BinOp a .Mult b pos) (nT ta tb):=kO af0 aw9 ha hb
end
end PP
namespace Core
open PySem L2 PP
section
variable {ws : List Int} {ls : List (Int × Int)} {os ns : List Int}
noncomputable def ax0 (ws:List Int) (ls:List (Int × Int)) (T:List Int):Prop:=∀ h ∈ rng ws.length,kin ws ls T h=false
end
noncomputable def jC:Option Int->PV
 | none=>.non
 | some h=>.int h
theorem iF {i:Nat}{h:Int}{g:Bool}{ρ:bG}{Q:bG->Prop} (q:Q (ρ.set i (some (.sh true (.int h))))):bT i (.int h) g ρ Q:=by
 show Q (ρ.set i (some (.sh (g || true) (.int h))))
 rw [Bool.or_true]; exact q
noncomputable def ax1 (ns S:List Int):Int:=(ns.length:Int) - (((ns.filter fun x=>decide (x ∈ S)).length:Nat):Int)
noncomputable def lW:bE:=fun xs Q=>∃ x ns y ms,xs = [x,y]/\dQ x ns/\dQ y ms/\ns.length<=10000/\ms.length<=1000/\Q (.tup (intz (ns.filter fun z=>!decide (z ∈ ms))))
noncomputable def K2:aQ:=(aE (b4 2 (aC lU (a7 (a5 1) a9)))
 (bM (aC iA (a7 (cU (dO (a5 0)) [none,some 2] (bT 0) (bA (kM true (a5 0) (a5 1))) (a5 0)) a9))))
theorem ax2:cB K2 ["hearths","some","gone"] lW:=by
 rintro xs Q ⟨x,ns,y,ms,rfl,hx,hy,hl,hm,q⟩
 refine⟨_,rfl,y,ms,rfl,hy,hm,fun ps d=>⟨trivial,?_⟩⟩
 refine⟨_,rfl,_,hx.seq,q0 hx,by rw [bH]; lia,fun i acc=>acc=intz ((ns.take i).filter fun z=>!decide (z ∈ ms)),rfl,?_,?_⟩
 ·rintro i z acc hz rfl
  obtain ⟨n,rfl,hn⟩:=j8 hz
  have tk:=uR (p:=fun z=>!decide (z ∈ ms)) hn
  refine⟨_,rfl,_,rfl,_,.inl ⟨ps,Sum.inl n,rfl,rfl,rfl⟩,_,rfl,?_⟩
  show if (!(cF ps (Sum.inl n:aG)).isSome)=true then _ else _
  rw [d.has n]
  by_cases h:n ∈ ms
  ·rw [aO2 h] at tk ⊢
   refine bC ?_
   show _=intz (List.filter _ (List.take (i+1) ns))
   rw [tk]; exact congrArg intz (aY9 _).symm
  ·rw [aP0 h] at tk ⊢
   refine bW ⟨_,rfl,trivial,?_⟩
   show _=intz (List.filter _ (List.take (i+1) ns))
   rw [tk,fQ]; rfl
 ·rintro acc rfl
  rw [bH,aU5]
  exact⟨⟨_,_,rfl,rfl,dW _,trivial,q⟩,fun ns z=>by cases z⟩
noncomputable def ax3 (ws:List Int) (ls:List (Int × Int)) (S:List Int) (h:Int):Bool:=decide (ax1 (aN ls h) S < ws.getD h.toNat 0)
noncomputable def stay (ws:List Int) (ls:List (Int × Int)) (S:List Int):List Int:=S.filter (ax3 ws ls S)
theorem qJ {n:Nat}{S:List Int} (h:b7 n S=true) (p:Int->Bool):b7 n (S.filter p)=true:=by
 obtain ⟨h1,h2⟩:=fB h
 have u:nS (n:Int) (S.filter p):=⟨(fP h1).filter p,fun x hx=>h2 x (aP6.mp hx).1,by
  have:=qD h
  have:=aS8 p S
  lia⟩
 exact u.set
section
variable {ws : List Int} {ls : List (Int × Int)} {S T : List Int}
theorem K3 {n:Nat}{A B:List Int} (ha:b7 n A=true) (hb:b7 n B=true) (h:∀ x,x ∈ A ↔ x ∈ B):A=B:=by
 have ua:=fP (fB ha).1
 have ub:=fP (fB hb).1
 have p:A.Perm B:=(List.perm_ext_iff_of_nodup (ua.imp fun z=>aX5 z) (ub.imp fun z=>aX5 z)).mpr h
 exact uX p (ua.imp fun z=>Int.le_of_lt z) (ub.imp fun z=>Int.le_of_lt z)
end
section
variable {ws : List Int} {ls : List (Int × Int)} {ns : List Int}
noncomputable def uZ (n:Nat) (S:List Int):List Int:=(rng n).filter fun x=>!decide (x ∈ S)
end
end Core
namespace Raw
open PySem PySem.W PyProof.Rows
section
variable {prog : Program} {w : World} {A : Around} {E : Value → Shared → Prop} {s : Shared} {T : String} {r d : Addr} {n : Nat} {P : Nat → Value → Prop} {OK : Heap → Prop}
theorem ax4 {R:Result->Shared->Prop} (K:KdlSrc prog w T r d n P OK) (hh:A.handled=none) (hok:OK s.heap) (hn:n<=sizeLine)
  (hR:∀ h' tk acc c,(∀ b o,b ≠ s.heap.objs.size->(s.heap.push { cls:=.type "list",data:=.seq ([]:List Value).toArray }).get? b=some o->h'.get? b=some o)->h'.get? s.heap.objs.size=some { cls:=.type "list",dict:=none,data:=.seq acc c,slots:=#[] }->ItemsOf P acc n->R (.ok (.ret (.ref s.heap.objs.size))) { s with heap:=h',toks:=tk }) :
  codeAny (model prog w) A (.builtin "proto.collect" ⟨[.ref r],[]⟩) R s:=by
 have lt:=K.there _ hok
 refine codeAny_builtin PySem.F.entry_proto_collect ?_
 rw [Around.under_plainId PySem.F.plain_proto_collect _]
 show wpAny _ A.in1 (newList [] >>= fun l=>again (.builtin "list.__iadd__" ⟨[l,.ref r],[]⟩)) _ _ s
 refine aN2 (aU0 ?_)
 refine aO6 ⟨plainId_quiet PySem.F.plain_list_iadd _,codeAny_builtin PySem.F.entry_list_iadd ?_⟩
 rw [Around.under_plainId PySem.F.plain_list_iadd _]
 show wpAny _ A.in1 (Builtin.List.listExtendWith (.ref s.heap.objs.size) (.ref r) (.ref s.heap.objs.size)) _ _ _
 exact kdl_extend (s:={ s with heap:=s.heap.push { cls:=.type "list",data:=.seq ([]:List Value).toArray } }) (R:=R) K hh (K.keep _ _ hok fun b _ o e=>aN4 _ e) s.heap.objs.size (aW4 lt.1) (aW4 lt.2) _ 0 (aP5 _ rfl) hR hn
theorem ax5 {Q:List Value->Shared->Prop} (K:KdlSrc prog w T r d n P OK) (hh:A.handled=none) (hok:OK s.heap) (hn:n<=sizeLine)
  (hQ:∀ h' tk acc,(∀ b o,s.heap.get? b=some o->h'.get? b=some o)->s.heap.objs.size<=h'.objs.size->ItemsOf P acc n->Q acc.toList { s with heap:=h',toks:=tk }) :
  wpAny (model prog w) A (collect (.ref r)) Q E s:=by
 unfold collect
 refine aN2 (wpAny_runValue (ax4 (s:=s) K hh hok hn fun h' tk acc c kp at1 it=>?_))
 show wpAny _ A (load s.heap.objs.size >>= _) _ _ _
 refine aN2 (wpAny_load at1 ?_)
 exact aO6 (hQ h' tk acc (fun b o e=>kp b o (aR2 (aP1 e)) (aN4 _ e)) (aT1 (aP1 at1)) it)
theorem ax6 {Q:Value->Shared->Prop}{G:List Int->Prop} (K:KdlSrc prog w T r d n P OK) (hh:A.handled=none) (hok:OK s.heap) (hn:n < 64)
  (hI:∀ acc,ItemsOf P acc n->∃ ns,IntsAre acc.toList ns/\G ns)
  (h:∀ h' tk a (out:Array Value) (ns ns':List Int) e,(∀ b o,s.heap.get? b=some o->h'.get? b=some o)->s.heap.objs.size<=a->h'.get? a=some (seqObj "list" out e)->IntsAre out.toList ns'->G ns->ns'.Perm ns->ns'.Pairwise (· <= ·)->Q (.ref a) { s with heap:=h',toks:=tk }) :
  wpAny (model prog w) A (call (.builtin "sorted") [.ref r]) Q E s:=by
 have hsl:n<=sizeLine:=aS0 (aT1 hn) (by decide)
 refine Calls.call_function_entry kind_sorted plain_sorted entry_sorted (args_sorted1 _) ?_
 unfold Builtin.«sorted»
 refine aN2 (m:=checkCount "sorted" 1 1 _) (aO6 ?_)
 refine aN2 (ax5 (s:=s) K hh hok hsl fun h' tk acc kp hs it=>?_)
 obtain ⟨ns,hi,g⟩:=hI acc it
 have hz:acc.toList.length < 64:=by rw [Array.length_toList,it.1]; exact hn
 refine aN2 (wpAny_newList ?_ (aS0 (aT1 hz) (by decide)))
 have hoL:(h'.push (seqObj "list" acc.toList.toArray 0)).get? h'.objs.size=some (seqObj "list" acc.toList.toArray 0):=aP5 _ rfl
 show wpAny _ _ _ _ _ { s with heap:=h'.push (seqObj "list" acc.toList.toArray 0),toks:=tk }
 refine aN2 (aZ2 (aV5 slot_list_sort ⟨_,hoL,rfl⟩ entry_list_sort (list_sort_tree hoL hi hz fun out ns' a1 a2 a3=>⟨_,rfl,?_⟩) (args_list_sort _)))
 obtain ⟨e,he⟩:=sortedHeap_at (vs:=acc.toList) (out:=out) hoL
 refine aO6 ⟨_,rfl,h _ tk h'.objs.size out ns ns' e (fun b o hb=>?_) hs he a1 g a2 a3⟩
 have lt:=aP1 (kp b o hb)
 rw [sortedHeap_old (aR2 lt) (by rw [size_push']; exact Nat.lt_succ_of_lt lt)]
 exact aN4 _ (kp b o hb)
end
end Raw
namespace L2
open PySem PySem.Spec PyProof.Rows
section
variable {X : Cx}
theorem ax7 (hc:X.calm=true):cK X (.builtin "sorted") (fun xs H Q=>∃ a kvs ns,xs = [.ref a]/\H a=some (.dK kvs)/\kvs.map (·.1)=ns.map Sum.inl/\ns.length < 64/\∀ l (ms:List Int),H l=none->ms.Perm ns->ms.Pairwise (· <= ·)->Q (.ref l) (upd H l (.lst (ms.map V.int)))):=by
 intro pins s σ H xs us Q I r h
 obtain ⟨a,kvs,ns,rfl,ha,hk,h64,q⟩:=h
 obtain ⟨u,rfl,ru⟩:=gM r
 cases ru
 obtain ⟨es,ep,rd,far,vk,z⟩:=ai7 I ha
 have hl:=vk.length
 have hl2:=congrArg List.length hk
 rw [aN6,aN6] at hl hl2
 have hsz:es.toList.length=es.size:=Array.length_toList
 have e1:(kvs.map fun p=>kV p.1)=ns.map V.int:=by
  have:(kvs.map fun p=>kV p.1)=(kvs.map (·.1)).map kV:=by rw [aT6]; rfl
  rw [this,hk,aT6]; rfl
 rw [e1] at vk
 refine Raw.ax6 (G:=fun ms=>ms=ns) (Raw.ai6 far) (I.ok.hd hc) rd (by lia) (fun acc it=>⟨ns,by rw [ai8 it]; exact oI vk,rfl⟩) fun h' tk l out ns1 ns' e kp hn he a1 g a2 a3=>?_
 subst g
 have hlen:ns'.length=ns1.length:=a2.length_eq
 refine⟨.ref l,upd H l (.lst (ns'.map V.int)),I.laid (t':=tk) kp hn ⟨?_,out.toList,e,oO a1,by simpa using he⟩,rfl,q _ ns' (I.hok.fresh hn) a2 a3⟩
 rw [aN6,hlen]
 exact aT1 (mL (by lia))
end
end L2
namespace PP
open PySem L2 PyProof.Rows
section
variable {X : Cx} {a b e : Expr} {ta tb te : aH} {tr : cT} {pos p2 : Pos}
noncomputable def v0:List PV->(PV->Prop)->Prop:=fun xs Q=>∃ (ps:List (aG × PV)) (ns:List Int),xs = [.dK ps]/\ps.map (·.1)=ns.map Sum.inl/\ns.length < 64/\∀ ms:List Int,ms.Perm ns->ms.Pairwise (· <= ·)->Q (.lst (intz ms))
theorem ax8:fN X v0 (fun xs H Q=>∃ a kvs ns,xs = [.ref a]/\H a=some (.dK kvs)/\kvs.map (·.1)=ns.map Sum.inl/\ns.length < 64/\∀ l (ms:List Int),H l=none->ms.Perm ns->ms.Pairwise (· <= ·)->Q (.ref l) (upd H l (.lst (ms.map V.int)))):=by
 rintro H vs xs Q Q' r ⟨ps,ns,rfl,e,hl,q⟩ k
 obtain ⟨v,rfl,r1⟩:=r.one
 cases r1 with
 | @dK a kvs _ m h e2 r2=>
  exact⟨a,kvs,ns,rfl,h,e2.trans e,hl,fun l ms hl' p o=>k _ _ _ (bK hl' _) (.lst hl' bJ (Reps.intz ms)) (q ms p o)⟩
theorem ax9 (B:Bt X.mg) (hc:X.calm=true) (ha:QA X [e] tr) (hg:Gl X "sorted":=by rfl) (he:starEach [e] X.env=(false,eval e X.env) :: starEach [] X.env:=by rfl) (hpl:(backTo pos (starEach [] X.env)).any (·.1)=false:=by rfl):QE X (.Call (.Name "sorted" p2) [e] [] pos) (aC v0 tr):=
 j5 (ax7 hc) ax8 hg B.sorted PyProof.Rows.boot_sorted ha (he:=he) (hpl:=hpl)
end
end PP
namespace Core
open PySem L2 PP
theorem ay0 {ps:List (aG × PV)}{h:Int}{v:PV}{S:List Int} (e:ps.map (·.1)=S.map Sum.inl) (hn:h ∉ S):eY ps (Sum.inl h:aG) v=ps ++ [(Sum.inl h,v)]:=by
 unfold eY
 rw [if_neg]
 intro z
 rw [List.any_eq_true] at z
 obtain ⟨p,hp,hq⟩:=z
 have:p.1 ∈ ps.map (·.1):=aP4.mpr ⟨p,hp,rfl⟩
 rw [e,aT3 hq] at this
 obtain ⟨y,hy,e2⟩:=aP4.mp this
 exact hn (Sum.inl.inj e2 ▸ hy)
theorem K4 {xs:List PV}{w:Int} (h:0<=w):gT xs none (some w)=xs.take w.toNat:=by
 unfold gT
 rw [HT.ac2,List.drop_zero,Nat.sub_zero]
 have:HT.aV xs.length xs.length (some w)=min w.toNat xs.length:=by
  show (if w < 0 then (w+(xs.length:Int)).toNat else min w.toNat xs.length)=_
  rw [if_neg (by lia)]
 rw [this,<- List.take_take,aU5]
theorem cS {ls:List (Int × Int)}{h x:Int}:x ∈ aN ls h ↔ ∃ l ∈ ls,(l.1=h/\l.2=x) ∨ (l.2=h/\l.1=x):=by
 unfold aN
 rw [List.mem_flatMap]
 constructor
 ·rintro ⟨l,hl,hx⟩
  refine⟨l,hl,?_⟩
  rcases aO4.mp hx with hx | hx
  ·split at hx
   ·rename_i e; exact .inl ⟨e,(aN7.mp hx).symm⟩
   ·cases hx
  ·split at hx
   ·rename_i e; exact .inr ⟨e,(aN7.mp hx).symm⟩
   ·cases hx
 ·rintro ⟨l,hl,⟨e1,e2⟩ | ⟨e1,e2⟩⟩
  ·exact⟨l,hl,aQ9 _ (by rw [if_pos e1,e2]; exact aY6 _)⟩
  ·exact⟨l,hl,aQ4 _ (by rw [if_pos e1,e2]; exact aY6 _)⟩
theorem K5 {h:Int}:∀ {ls:List (Int × Int)},(∀ l ∈ ls,l.1 < l.2)->ls.Pairwise iE->(aN ls h).Nodup
 | [],_,_=>.nil
 | l :: r,hl,hp=>by
  have ih:=K5 (h:=h) (ls:=r) (fun m hm=>hl m (aO8 _ hm)) (aV1.mp hp).2
  have h0:=hl l aO1
  have e:aN (l :: r) h=((if l.1=h then [l.2] else []) ++ (if l.2=h then [l.1] else [])) ++ aN r h:=rfl
  rw [e]
  refine aX6.mpr ⟨?_,ih,fun x hx y hy q=>?_⟩
  ·by_cases e1:l.1=h
   ·rw [if_pos e1,if_neg (by lia),aY9]; exact aQ1 _ _
   ·rw [if_neg e1]
    split
    ·exact aQ1 _ _
    ·exact .nil
  ·subst q
   obtain ⟨m,hm,c⟩:=cS.mp hy
   have h1:=hl m (aO8 _ hm)
   have h2:=(aV1.mp hp).1 m hm
   have c':(l.1=h/\l.2=x) ∨ (l.2=h/\l.1=x):=by
    rcases aO4.mp hx with hx | hx
    ·split at hx
     ·rename_i e; exact .inl ⟨e,(aN7.mp hx).symm⟩
     ·cases hx
    ·split at hx
     ·rename_i e; exact .inr ⟨e,(aN7.mp hx).symm⟩
     ·cases hx
   unfold iE at h2
   lia
end Core
namespace L2
open PySem PySem.Spec PyProof.Rows
theorem K6:∀ (n:Nat) (ns:List Int),n<=ns.length->preSum (fun i=>ns.getD i 0) n=(ns.take n).sum
 | 0,_,_=>by simp [preSum]
 | n+1,ns,h=>by
  show preSum (fun i=>ns.getD i 0) n+ns.getD n 0=_
  have h1:ns[n]? = some (ns[n]'(by lia)):=aN5 (by lia)
  have h2:ns.take (n+1)=ns.take n ++ [ns[n]'(by lia)]:=by rw [aR5,h1]; rfl
  have h3:ns.getD n 0=ns[n]'(by lia):=by rw [aO3,h1]; rfl
  rw [K6 n ns (by lia),h2,h3,List.sum_append,List.sum_cons,List.sum_nil]
  lia
section
variable {X : Cx}
theorem ay1 (hc:X.calm=true):cK X (.builtin "sum") (fun xs H Q=>∃ (a:Addr) (ns:List Int),xs = [.ref a]/\(aJ X.K H a (ns.map V.int) ∨ aM X.K H a (ns.map V.int))/\Q (.int ns.sum) H):=by
 intro pins s σ H xs us Q I r h
 obtain ⟨a,ns,rfl,hq,q⟩:=h
 obtain ⟨u,rfl,ru⟩:=gM r
 cases ru
 have hh:X.A.in1.handled=none:=I.ok.hd hc
 have fin:∀ (its:List Value) (o:Obj) (wr:List Addr) (hw:∀ b ∈ wr,s.heap.objs.size<=b),aK (ns.map V.int) its->∀ s' t',Moved wr (fun a b=>b=a) { s with heap:=s.heap.push o } s'->
   ∃ x H',a6 X pins σ H' s'/\aT x (.int (preSum (fun i=>ns.getD i 0) its.toArray.size) t')/\Q x H':=fun its o wr hw rv s' t' hm=>by
  have hl:=rv.length
  rw [aN6] at hl
  have e:=Moved.eq_with hm
  have e2:preSum (fun i=>ns.getD i 0) its.toArray.size=ns.sum:=by rw [aN3,<- hl,K6 _ _ (aO0 _),aU5]
  rw [e2,e]
  refine⟨.int ns.sum,H,I.kept (t':=s'.toks) (h':=s'.heap) fun b o' eb=>hm.heap b o' (fun z=>?_) (aN4 _ eb),⟨t',rfl⟩,q⟩
  exact absurd (aP1 eb) (Nat.not_lt.mpr (hw b z))
 have val:∀ (its:List Value),aK (ns.map V.int) its->∀ (i:Nat) (v:Value),its.toArray[i]? = some v->∃ t,v = .int (ns.getD i 0) t:=fun its rv i v hv=>by
  have hi:its[i]? = some v:=by simpa using hv
  have hl:=rv.length
  rw [aN6] at hl
  have hil:i < ns.length:=by rw [hl]; exact (aN9.mp hi).1
  obtain ⟨u,e1,e2⟩:=rv.get (i:=i) (x:=.int ns[i]) (by simp [hil])
  rw [hi] at e1; cases e1
  obtain ⟨t,rfl⟩:=e2
  exact⟨t,by rw [aO3,aN5 hil]; rfl⟩
 rcases hq with hq | hq
 ·obtain ⟨its,rv,p,hz⟩:=I.list hq
  have hlt:a < s.heap.objs.size:=by obtain ⟨o,e,_⟩:=p.isList; exact aP1 e
  refine call_sum_walkAnyS (wpAny_pyIter_list p.isList ?_)
  refine⟨s.heap.objs.size,_,_,_,_,_,_,fun i=>ns.getD i 0,rfl,(Walks.list hh s.heap.objs.size a (aR2 hlt) its.toArray).toS,⟨⟨_,aP5 _ rfl,rfl,rfl⟩,p.isList.push _⟩,?_,val its rv,fun s' t' hm=>fin its _ _ ?_ rv s' t' hm⟩
  ·intro b hb
   have hs:(s.heap.push { cls:=.type "list_iterator",data:=.fields #[.ref a,.int 0 0] }).objs.size=s.heap.objs.size+1:=size_push' _ _
   show b < (s.heap.push _).objs.size
   rw [size_push']
   rcases aO7.mp hb with rfl | hb
   ·exact Nat.lt_succ_self _
   ·rw [aN7.mp hb]; exact Nat.lt_succ_of_lt hlt
  ·intro b hb
   rw [aN7.mp hb]; exact aO0 _
 ·obtain ⟨its,rv,p,hz⟩:=I.tuple hq
  have hlt:a < s.heap.objs.size:=by obtain ⟨o,e,_⟩:=p; exact aP1 e
  refine call_sum_walkAnyS (wpAny_pyIter_tuple p ?_)
  refine⟨s.heap.objs.size,_,_,_,_,_,_,fun i=>ns.getD i 0,rfl,(Walks.tuple hh s.heap.objs.size a (aR2 hlt) its.toArray).toS,⟨⟨_,aP5 _ rfl,rfl,rfl⟩,?_⟩,?_,val its rv,fun s' t' hm=>fin its _ _ ?_ rv s' t' hm⟩
  ·obtain ⟨o,e,h⟩:=p
   exact⟨o,aN4 _ e,h⟩
  ·intro b hb
   show b < (s.heap.push _).objs.size
   rw [size_push']
   rcases aO7.mp hb with rfl | hb
   ·exact Nat.lt_succ_self _
   ·rw [aN7.mp hb]; exact Nat.lt_succ_of_lt hlt
  ·intro b hb
   rw [aN7.mp hb]; exact aO0 _
theorem ay2 (hc:X.calm=true):cK X (.builtin "any") (fun xs H Q=>∃ (a:Addr) (bs:List Bool),xs = [.ref a]/\aJ X.K H a (bs.map V.bl)/\Q (.bl (bs.any id)) H):=by
 intro pins s σ H xs us Q I r h
 obtain ⟨a,bs,rfl,hq,q⟩:=h
 obtain ⟨u,rfl,ru⟩:=gM r
 cases ru
 obtain ⟨its,rv,p,hz⟩:=I.list hq
 have hl:=rv.length
 rw [aN6] at hl
 have hlt:a < s.heap.objs.size:=by obtain ⟨o,e,_⟩:=p.isList; exact aP1 e
 refine call_any_walk (wpAny_pyIter_list p.isList ?_)
 have hh:X.A.in1.handled=none:=I.ok.hd hc
 refine⟨s.heap.objs.size,_,_,_,_,_,fun i=>bs.getD i false,rfl,Walks.list hh s.heap.objs.size a (aR2 hlt) its.toArray,⟨⟨_,aP5 _ rfl,rfl,rfl⟩,p.isList.push _⟩,?_,fun h' tk kp=>?_⟩
 ·intro i v s' Q' E' hP hQ'
  have hi:its[i]? = some v:=by simpa using hP
  have hil:i < bs.length:=by rw [hl]; exact (aN9.mp hi).1
  obtain ⟨u,e1,e2⟩:=rv.get (i:=i) (x:=.bl bs[i]) (by simp [hil])
  rw [hi] at e1; cases e1
  cases e2
  have:bs.getD i false=bs[i]:=by rw [aO3,aN5 hil]; rfl
  have hQ2:Q' (bs.getD i false) s':=hQ'
  rw [this] at hQ2
  exact aX0 hQ2
 ·have any_eq:(List.range its.toArray.size).any (fun i=>bs.getD i false)=bs.any id:=by
   rw [aN3,<- hl]
   clear q rv hz hl hq hlt p hh kp
   induction bs with
   | nil=>rfl
   | cons b r ih=>
    rw [aP8,List.range_succ_eq_map,aZ3,List.any_map,aZ3,<- ih]
    rfl
  rw [any_eq]
  refine⟨.bl (bs.any id),H,I.kept (t':=tk) (h':=h') fun b o e=>kp b o (fun z=>?_) (aN4 _ e),rfl,q⟩
  rw [aN7.mp z] at e
  exact absurd (aP1 e) (aS1 _)
end
end L2
namespace PP
open PySem L2 PyProof.Rows
section
variable {X : Cx} {a b e : Expr} {ta tb te : aH} {tr : cT} {pos p2 : Pos}
noncomputable def kS:List PV->(PV->Prop)->Prop:=fun xs Q=>∃ x ns,xs = [x]/\iY x=some (intz ns)/\Q (.int ns.sum)
theorem ay3:fN X kS (fun xs H Q=>∃ (a:Addr) (ns:List Int),xs = [.ref a]/\(aJ X.K H a (ns.map V.int) ∨ aM X.K H a (ns.map V.int))/\Q (.int ns.sum) H):=by
 rintro H vs xs Q Q' r ⟨x,ns,rfl,e,q⟩ k
 obtain ⟨v,rfl,r1⟩:=r.one
 obtain ⟨a,us,rfl,hs,r2⟩:=r1.seq e
 obtain rfl:=r2.ofInts
 exact⟨a,ns,rfl,hs,k _ _ _ (aB.refl _) (.int _) q⟩
theorem qK (B:Bt X.mg) (hc:X.calm=true) (ha:QA X [e] tr) (hg:Gl X "sum":=by rfl) (he:starEach [e] X.env=(false,eval e X.env) :: starEach [] X.env:=by rfl) (hpl:(backTo pos (starEach [] X.env)).any (·.1)=false:=by rfl):QE X (.Call (.Name "sum" p2) [e] [] pos) (aC kS tr):=
 j5 (ay1 hc) ay3 hg B.sum PyProof.Rows.boot_sum ha (he:=he) (hpl:=hpl)
noncomputable def v3:List PV->(PV->Prop)->Prop:=fun xs Q=>∃ bs:List Bool,xs = [.lst (bs.map PV.bl)]/\Q (.bl (bs.any id))
theorem ay4:fN X v3 (fun xs H Q=>∃ (a:Addr) (bs:List Bool),xs = [.ref a]/\aJ X.K H a (bs.map V.bl)/\Q (.bl (bs.any id)) H):=by
 rintro H vs xs Q Q' r ⟨bs,rfl,q⟩ k
 obtain ⟨v,rfl,r1⟩:=r.one
 obtain ⟨a,us,rfl,_,h,r2⟩:=r1.sqL
 obtain rfl:=r2.ofBls
 exact⟨a,bs,rfl,aJ.of h,k _ _ _ (aB.refl _) (.bl _) q⟩
theorem ay5 (B:Bt X.mg) (hc:X.calm=true) (ha:QA X [e] tr) (hg:Gl X "any":=by rfl) (he:starEach [e] X.env=(false,eval e X.env) :: starEach [] X.env:=by rfl) (hpl:(backTo pos (starEach [] X.env)).any (·.1)=false:=by rfl):QE X (.Call (.Name "any" p2) [e] [] pos) (aC v3 tr):=
 j5 (ay2 hc) ay4 hg B.any PyProof.Rows.boot_any ha (he:=he) (hpl:=hpl)
end
end PP
namespace Core
open PySem L2 PP
noncomputable def qL:bE:=fun xs Q=>∃ (x:PV) (ns:List Int) (m:Nat),xs = [x,.int m]/\dQ x ns/\ns.length=m/\m<=1000000/\(∀ w ∈ ns,0<=w)/\Q (.tup (intz ns))
noncomputable def K7:aQ:=(aE (cJ (bA (uC (aC dF (a7 (a5 0) a9)) (a5 1))) pP cI)
 (aE (cJ (bA (aC v3 (a7 (cU (dO (a5 0)) [none] (bT 0) cM (lN (a5 0) (qC (.int 0)))) a9))) pP cI)
 (bM (aC iA (a7 (a5 0) a9)))))
theorem ay6:cB K7 ["prices","many"] qL:=by
 rintro xs Q ⟨x,ns,m,rfl,hx,hl,hm,hp,q⟩
 refine⟨_,rfl,_,_,rfl,hx.len,_,rfl,.inl ⟨_,_,rfl,rfl,_,rfl,?_⟩⟩
 show if (!decide ((ns.length:Int)=(m:Int)))=true then _ else _
 rw [aO2 (by lia)]
 refine bC ⟨_,rfl,_,hx.seq,q0 hx,by rw [bH]; lia,fun i acc=>acc=List.replicate i (PV.bl false),rfl,?_,?_⟩
 ·rintro i y acc hy rfl
  obtain ⟨n,rfl,hn⟩:=j8 hy
  refine⟨_,rfl,_,_,rfl,rfl,trivial,?_⟩
  dsimp only
  rw [aP0 (by have:=hp n (aN8 hn); lia),List.replicate_succ']
 ·rintro acc rfl
  refine⟨List.replicate (intz ns).length false,by rw [List.map_replicate]; rfl,_,rfl,?_⟩
  have:(List.replicate (intz ns).length false).any id=false:=by
   rw [List.any_eq_false]; intro x hx; rw [(List.mem_replicate.mp hx).2]; decide
  rw [this]
  exact bC ⟨_,rfl,⟨_,_,rfl,hx.seqT,dW _,trivial,q⟩,hx.noscr⟩
theorem v4 (n:Nat):(rng n).Pairwise (· < ·):=by
 unfold rng
 rw [aX2]
 exact (List.pairwise_lt_range (n:=n)).imp fun h=>by lia
theorem ay7 (n:Nat) (p:Int->Bool):b7 n ((rng n).filter p)=true:=by
 refine nS.set ⟨(v4 n).sublist List.filter_sublist,fun x hx=>?_,?_⟩
 ·have:=cX.mp (aP6.mp hx).1
  exact this
 ·have:=aS8 p (rng n)
  rw [dP] at this
  lia
section
variable {ws : List Int} {ls : List (Int × Int)} {ns wts : List Int} {m : Nat}
noncomputable def loose (ls:List (Int × Int)) (wts ns:List Int):List ((Int × Int) × Int):=(ls.zip wts).filter fun z=>!(decide (z.1.1 ∈ ns) && decide (z.1.2 ∈ ns))
end
end Core
set_option maxHeartbeats 1000000
set_option maxHeartbeats 1000000
set_option maxHeartbeats 1000000
set_option maxHeartbeats 1000000
namespace PP
open PySem L2 PyProof.Rows
noncomputable abbrev gK:=(Str->Prop)->bE
noncomputable def EX (K:PySem.W.Frag) (H0:Hp) (Ep:Str->Prop):XK:=fun c d H'=>d=none/\aB H0 H'/\∃ n C,c = .ref C/\PySem.W.nsIn K mainGlobals n=some (some (.ref C))/\Ep n
noncomputable def K8 (K:PySem.W.Frag) (p:gK):Sp:=fun vs H Q E=>∃ xs Qp Ep,Reps K (fun _=>True) H vs xs/\p Ep xs Qp/\(∀ v H' x,aB H H'->aF K (fun a=>H a=none) H' v x->Qp x->Q v H')/\
 ∀ n C H',aB H H'->PySem.W.nsIn K mainGlobals n=some (some (.ref C))->Ep n->E (.ref C) none H'
structure fZ (P:Program) (w:World) (K:PySem.W.Frag) (mg:Str->Option Value) (base:Heap) (k:Nat) (x:Str) (ps:List Str) (p:gK):Prop where
 ex:∃ f fd,cH P w K mg base (eO P w) k f fd ps (K8 K p)/\i7 K fd ps []/\PySem.W.keepIn K (.ref f)=true/\mg x=some (.ref f)
section
variable {X : Cx} {σ : L2.St} {H : Hp} {D : dZ} {tr : cT} {Q' : VK} {a b c e : Expr} {es : List Expr} {pos p2 cp np hp : Pos} {t : aQ} {te : aH} {tc : c9}
noncomputable def v5 (Ep:Str->Prop) (p:gK) (t:cT):aH:=aC (p Ep) t
theorem K9 {p:gK}{Ep:Str->Prop} (h:LE X (v5 Ep p tr) σ H Q'):sE (K8 X.K p) [] (EX X.K X.H₀ Ep) (LA X tr) σ H Q':=by
 obtain ⟨W,ρ,Q,px,q,k⟩:=h
 refine⟨W,ρ,_,px,q,fun vs H1 xs s1 r1 q1=>⟨_,_,Ep,by rw [aY9]; exact r1.any,q1,fun v H' x s2 r2 q2=>k v H' x .fr (s1.trans s2) (r2.same (aB.refl _) fun _ z=>s1.free z) q2,fun n C H' s2 z1 z2=>⟨rfl,(px.same.trans s1).trans s2,n,C,rfl,z1,z2⟩⟩⟩
theorem ay8 {Ep:Str->Prop}{k j:Nat}{x:Str}{ps:List Str}{p:gK} (hX:lT X (EX X.K X.H₀ Ep)) (d:fZ X.prog X.w X.K X.mg X.base k x ps p) (hr:c6 j X.A) (ha:QA X (e :: es) tr) (hkj:k<=j:=by decide) (hg:Gl X x:=by rfl) (hdb:(x == ("__debug__" : Str))=false:=by decide)
  (he:starEach (e :: es) X.env=(false,eval e X.env) :: starEach es X.env:=by rfl) (hpl:(backTo pos (starEach es X.env)).any (·.1)=false:=by rfl):QE X (.Call (.Name x p2) (e :: es) [] pos) (v5 Ep p tr):=by
 obtain ⟨f,fd,F,b,kp,m⟩:=d.ex
 exact cD (sF F (hr.mono hkj) hg m kp b .nil hX.pass ha hdb he hpl) fun _ _ _=>K9
theorem ay9 {k j:Nat}{x:Str}{ps:List Str}{p:gK} (d:fZ X.prog X.w X.K X.mg X.base k x ps p) (hr:c6 j X.A) (ha:QA X (e :: es) tr) (hkj:k<=j:=by decide) (hg:Gl X x:=by rfl) (hdb:(x == ("__debug__" : Str))=false:=by decide)
  (he:starEach (e :: es) X.env=(false,eval e X.env) :: starEach es X.env:=by rfl) (hpl:(backTo pos (starEach es X.env)).any (·.1)=false:=by rfl):QE X (.Call (.Name x p2) (e :: es) [] pos) (aC (p fun _=>False) tr):=by
 obtain ⟨f,fd,F,b,kp,m⟩:=d.ex
 refine cD (sF F (E:=EX X.K X.H₀ fun _=>False) (hr.mono hkj) hg m kp b .nil (fun _ _ _ _ _ _ _ h=>?_) ha hdb he hpl) fun _ _ _ h=>K9 (Ep:=fun _=>False) h
 obtain ⟨_,_,_,_,_,_,_,_,_,_,_,_,z⟩:=h
 exact z.elim
noncomputable def v6 (Ep:Str->Prop) (n:Str) (t:cT):aQ:=fun _ ρ=>t ρ fun xs=>xs.length<=1000/\Ep n
theorem az0 {Ep:Str->Prop}{n:Str}{C:Addr} (hn:PySem.W.nsIn X.K mainGlobals n=some (some (.ref C))) (h:LS X (v6 Ep n tr) D σ H):F7 (EX X.K X.H₀ Ep) C (LA X tr) D σ H:=by
 obtain ⟨W,ρ,D',px,q,k⟩:=h
 exact⟨W,ρ,_,px,q,fun vs H1 xs s1 r z=>⟨by rw [r.length]; exact pE z.1,rfl,px.same.trans s1,n,C,rfl,hn,z.2⟩⟩
structure Xc (K:PySem.W.Frag) (mg:Str->Option Value) (base:Heap) (n:Str):Prop where
 ex:∃ C B newId initId bm,OwnCls n C bm newId mg base/\ExcBaseFacts B newId initId bm/\PySem.W.nsIn K mainGlobals n=some (some (.ref C))
theorem az1 {Ep:Str->Prop}{n:Str} (hX:lT X (EX X.K X.H₀ Ep)) (x:Xc X.K X.mg X.base n) (ha:QA X (e :: es) tr) (hc:X.calm=true:=by rfl) (hg:Gl X n:=by rfl) (hd:(n == ("__debug__" : Str))=false:=by decide)
  (he:starEach (e :: es) X.env=(false,eval e X.env) :: starEach es X.env:=by rfl) (hpl:(backTo cp (starEach es X.env)).any (·.1)=false:=by rfl):QS X (.Raise (some (.Call (.Name n np) (e :: es) [] cp)) none pos) (v6 Ep n tr):=by
 obtain ⟨C,B,newId,initId,bm,O,FB,hn⟩:=x.ex
 exact dG (at6 hX hc O FB ha hg hd he hpl) fun _ _ _=>az0 hn
noncomputable def mI:V->Value
 | .ref a=>.ref a
 | .ty n=>.type n
 | _=>.none
end
structure qM (K:PySem.W.Frag) (C:Addr):Prop where
 cls:PySem.W.isClsIn K C=true
 ty:PySem.W.typeIn K (.ref C)=some (.type "type")
 ga:PySem.W.findIn K (.ref C) "__getattribute__" = some (some (.builtin "BaseException.__getattribute__"))
 gt:PySem.W.findIn K (.ref C) "__getattr__" = some none
 fc:PySem.W.findIn K (.ref C) "__class__" = some (some (.builtin "object.__class__"))
 fg:PySem.W.specialIn K (.builtin "object.__class__") "__get__" = some (some (.builtin "getset_descriptor.__get__"))
 ft:PySem.W.takesIn K (.builtin "object.__class__")=some true
 ob:PySem.W.mroIn K C (.type "object")=some true
 be:PySem.W.mroIn K C (.type "BaseException")=some true
theorem az2 {K:PySem.W.Frag}{h₀:Heap}{mg:Str->Option Value}{x:Str}{C:Addr}{bmB:List Value}{newId:String} (X:K.In h₀) (m:mg x=some (.ref C)) (q:PySem.W.excIn K C bmB newId=true):OwnCls x C bmB newId mg h₀:=by
 refine⟨m,?_⟩
 unfold PySem.W.excIn at q
 split at q
 case h_2=>cases q
 rename_i dd cd sl ho
 split at q
 case h_2=>cases q
 rename_i C' bm k0 k1 k2 k3 n k5 hm hs
 simp only [aR4,beq_iff_eq,Bool.not_eq_true'] at q
 obtain ⟨⟨⟨⟨⟨rfl,rfl⟩,dl⟩,ht⟩,hok⟩,hni⟩:=q
 obtain ⟨nm,bs,mro,ns,qn,hd,sn,sub,ab,col,del⟩:=cd
 dsimp only at hm dl hok hni
 subst hm dl
 obtain rfl:sl = #[k0,k1,k2,k3,some (.builtin n),k5]:=by
  obtain ⟨l⟩:=sl
  exact congrArg Array.mk hs
 exact⟨bm,ns,nm,qn,bs,hd,sn,sub,ab,col,dd,k0,k1,k2,k3,k5,_,X _ _ ho,.of_isNs (PySem.W.isNs_of_in X hok),PySem.W.nsMap_none_of_in X hok hni,PySem.W.tail_of_in X ht⟩
theorem fZ.of {P:Program}{w:World}{K:PySem.W.Frag}{mg:Str->Option Value}{base:Heap}{k:Nat}{x:Str}{ps N:List Str}{p:gK}{st:Stmt}{f:Addr}{fd:FuncData} (F:eF K x x st f fd) (m:mg x=some (.ref f)) (S:FnScope N ps (aY st))
  (hb:∀ (kV doc pm:Value) (an:Option Addr) (cdv ct:Value) (us:List Value),us.length=ps.length->bindArgs (PySem.W.fnOf x x (iS st) (eD st) (aY st) .none kV doc pm an cdv ct) ⟨us,[]⟩=pure (ps.zip us))
  (t:(Str->Prop)->aQ) (len:∀ Ep xs Q,p Ep xs Q->xs.length=ps.length) (rd:∀ Ep xs Q,p Ep xs Q->t Ep { nx:=fun _=>Q .non,rt:=Q } (fO N xs))
  (body:∀ (cdv:Value) (A:Around) (outer:List Env) (s:Shared) (H:Hp) (E:XK) (Ep:Str->Prop),c6 k (A.deeper (envOfC x (aY st) s.heap.objs.size f cdv))->lT (cZ (eO P w) P w K mg base N x (aY st) f cdv A outer s H E) (EX K H Ep)->
   eZ (cZ (eO P w) P w K mg base N x (aY st) f cdv A outer s H E) (eD st) (t Ep)):fZ P w K mg base (k+1) x ps p:=by
 refine⟨f,fd,F.okX S (fun vs H Q E h=>?_) (fun cdv A outer s H vs Q E hr h=>?_),F.binds hb,F.kp,m⟩
 ·obtain ⟨xs,Qp,Ep,r,q,_⟩:=h
  rw [r.length]; exact len Ep xs Qp q
 ·obtain ⟨xs,Qp,Ep,r,q,k,ke⟩:=h
  have ht:=body cdv A outer s H E Ep hr (at5 fun c d H' z=>?_)
  ·refine⟨_,ht,fun _=>False,fO N xs,_,uO r,rd Ep xs Qp q,?_,?_,?_,?_⟩
   ·exact fun W' σ' H' ρ' e px q=>k _ _ _ px.same .non q
   ·exact fun v H' x s r q=>k _ _ _ s r q
   ·exact fun W' σ' H' ρ' e px q=>q
   ·exact fun W' σ' H' ρ' e px q=>q
  ·obtain ⟨rfl,s1,n,C,rfl,z1,z2⟩:=z
   exact ke n C H' s1 z1 z2
end PP
namespace Core
open PySem L2 PP
noncomputable abbrev L0 (t:(Str->Prop)->aQ) (N:List Str) (p:gK):Prop:=∀ Ep xs Q,p Ep xs Q->t Ep { nx:=fun _=>Q .non,rt:=Q } (fO N xs)
noncomputable def qN:gK:=fun Ep xs Q=>∃ ws ls x ns,xs = [bZ ws ls,x]/\dQ x ns/\ns.length<=1000/\(b7 ws.length ns=true->Q (.tup (intz ns)))/\(b7 ws.length ns=false->Ep "BadSet")
noncomputable def L1 (Ep:Str->Prop):aQ:=(aE (cJ (jN (bA (aC pZ (a7 (a5 0) (a7 (a5 1) a9))))) (v6 Ep "BadSet" (a7 (qC (.str "a set is of rising hearths of the web")) a9)) cI)
 (bM (aC iA (a7 (a5 1) a9))))
theorem az3:L0 L1 ["web","hearths"] qN:=by
 rintro Ep xs Q ⟨ws,ls,x,ns,rfl,hx,hl,q1,q2⟩
 refine⟨_,rfl,_,rfl,ws,ls,x,ns,rfl,hx,hl,_,rfl,?_⟩
 cases h:b7 ws.length ns with
 | true=>exact bC ⟨_,rfl,⟨_,_,rfl,hx.seqT,dW _,trivial,q1 h⟩,hx.noscr⟩
 | false=>exact bW ⟨by decide,q2 h⟩
end Core
namespace PP
open PySem L2
theorem lX {us:List Value} (h:us.length=1):∃ a,us = [a]:=List.length_eq_one_iff.mp h
theorem v7 {us:List Value} (h:us.length=2):∃ a b,us = [a,b]:=by
 cases us with
 | nil=>cases h
 | cons a r=>
  obtain ⟨b,rfl⟩:=lX (us:=r) (by simpa using h)
  exact⟨a,b,rfl⟩
theorem L3 {us:List Value} (h:us.length=3):∃ a b c,us = [a,b,c]:=by
 cases us with
 | nil=>cases h
 | cons a r=>
  obtain ⟨b,c,rfl⟩:=v7 (us:=r) (by simpa using h)
  exact⟨a,b,c,rfl⟩
end PP
namespace Core
open PySem L2 PP
noncomputable def NN (zs:List Int):Prop:=∀ z ∈ zs,(0:Int)<=z
theorem NN.set {zs:List Int}{z:Int} (h:NN zs) (hz:0<=z) (j:Nat):NN (zs.set j z):=fun y hy=>by
 rcases List.mem_or_eq_of_mem_set hy with hy | rfl
 ·exact h y hy
 ·exact hz
noncomputable def v8 (i:Nat) (S:List Int):Prop:=S.Pairwise (· < ·)/\∀ x ∈ S,0<=x/\x < (i:Int)
theorem v8.set {i:Nat}{S:List Int} (h:v8 i S):b7 i S=true:=by
 unfold b7
 rw [uQ h.1,Bool.true_and,aV7]
 intro b hb
 obtain ⟨x,hx,rfl⟩:=aP4.mp hb
 have:=h.2 x hx
 unfold inB
 simp only [id,aR4,aX4]
 exact this
end Core
namespace PP
open PySem L2
section
variable {X : Cx} {a b e : Expr} {ta tb : aH} {tr : cT} {D : dZ} {σ : St} {H : Hp} {pos p2 p3 p4 : Pos}
noncomputable def qO (i:Nat) (ta tb:aH):aQ:=fun D ρ=>∃ xs,ρ[i]? = some (some (.own (.lst xs)))/\ta ρ fun x _=>∃ k:Nat,x = .int k/\k<=xs.length/\xs.length < 16000000/\tb ρ fun y g=>Nw g y/\D.nx (ρ.set i (some (.own (.lst (xs.take k ++ y :: xs.drop k)))))
theorem az4 {i:Nat} (h:LS X (qO i ta tb) D σ H):o7 (oJ X.K "list" F8 (i4 i) (i6 (LE X ta) (i6 (LE X tb) jI))) D σ H:=by
 obtain ⟨W,ρ,D',px,⟨xs,hi,q⟩,k⟩:=h
 obtain ⟨v,ev,a,rfl,wa,us,ea,r⟩:=px.sl i _ hi
 refine⟨_,ev,jM (aJ.of ea),W,ρ,_,px,q,?_⟩
 rintro w H1 x g s rx ⟨j,rfl,hj,hl,q⟩
 cases rx
 refine⟨W,ρ,_,px.mono s,q,?_⟩
 rintro w H2 y g s2 ry ⟨n,q⟩
 have ea2:=s2 _ _ (s _ _ ea)
 have s3:=s.trans s2
 refine⟨a,us,w,j,rfl,rfl,ea2,by rw [r.length]; exact hj,gG (by rw [r.length]; lia),?_⟩
 refine k.nx W σ _ _ ((Ev.same s3).trans (Ev.upd wa)) ((px.mono s3).updL hi ev wa ?_) q
 have r2:=r.same s3 fun _ z=>z
 exact ((r2.take j).append (.cons (Nw.rep (px.mono s) n ry) (r2.drop j))).keep (.upd ea2 rfl fun b m=>⟨kG wa m,m⟩)
theorem az5 (i:Nat) {x:Str}{apos cpos xpos:Pos} (ha:QE X a ta) (hb:QE X b tb) (hN:X.N[i]? = some x:=by rfl) (hv:gA X.env.scope x:=by first | exact Or.inl rfl | exact Or.inr (Or.inl rfl) | exact Or.inr (Or.inr rfl)) (hd:(x == ("__debug__" : Str))=false:=by decide) (hcd:(x == ("__classdict__" : Str))=false:=by decide)
  (hbase:attributeBase (.Name x xpos) "insert" X.env (eval (.Name x xpos) X.env)=eval (.Name x xpos) X.env:=by rfl)
  (hfew:((backTo cpos (starEach [a,b] X.env)).all (fun x=>!x.1) && (backToKw cpos (keywordEach [] X.env)).all (fun x=>x.1.isSome) && decide (([a,b]:List Expr).length+([]:List Keyword).length+(if ([]:List Keyword).isEmpty then 0 else 1) < 30))=true:=by rfl)
  (hline:(apos.endLine == cpos.line)=true:=by rfl) (hs:starEach [a,b] X.env=(false,eval a X.env) :: starEach [b] X.env:=by rfl) (hs2:starEach [b] X.env=(false,eval b X.env) :: starEach [] X.env:=by rfl) (hplain:(backTo cpos (starEach [b] X.env)).any (·.1)=false:=by rfl)
  (hsw:swapsWith (.Call (.Attribute (.Name x xpos) "insert" apos) [a,b] [] cpos) none pos.line X.env=pure false:=by rfl) :
  QS X (.Expr (.Call (.Attribute (.Name x xpos) "insert" apos) [a,b] [] cpos) pos) (qO i ta tb):=
 dG (k7 (kB aT9 PySem.F.slot_list_insert PySem.F.type_list_insert at7 (iK hN hv hd hcd) (cL ha (cL hb dD hs2) hs) hbase hfew hline hs hplain) hsw) fun _ _ _=>az4
end
end PP
namespace Core
open PySem L2 PP
structure WL (n:Int) (ws:List Int) (ls:List (Int × Int)):Prop where
 many:(ws.length:Int)=n
 inn:∀ l ∈ ls,0<=l.1/\l.1 < l.2/\l.2 < n
 most:ls.length<=1700
 ord:ls.Pairwise iE
 pos:∀ w ∈ ws,0<=w
theorem WL.perm {n:Int}{ws:List Int}{ls ls':List (Int × Int)} (h1:(ws.length:Int)=n) (h2:∀ l ∈ ls,0<=l.1/\l.1 < l.2/\l.2 < n) (h3:ls.length<=1700) (nd:ls.Nodup) (h4:∀ w ∈ ws,0<=w) (p:ls'.Perm ls) (so:(ls'.map two).Pairwise fun u v=>HT.eS v u=false):WL n ws ls':=
 ⟨h1,fun l hl=>h2 l (p.mem_iff.mp hl),by rw [p.length_eq]; exact h3,aw3 so (p.nodup_iff.mpr nd),h4⟩
theorem WL.wb {n:Int}{ws:List Int}{ls:List (Int × Int)} (h:WL n ws ls) (hn:n<=40):Wb ws ls:=
 ⟨by have:=h.many; lia,h.most,fun l hl=>by have:=h.inn l hl; have:=h.many; lia⟩
noncomputable def az6 (f:List Int->List (Int × Int)->List Int->(PV->Prop)->Prop):gK:=fun Ep xs Q=>∃ ws ls x ns,xs = [bZ ws ls,x]/\Wb ws ls/\dQ x ns/\ns.length<=1000/\(b7 ws.length ns=true->f ws ls ns Q)/\(b7 ws.length ns=false->Ep "BadSet")
noncomputable def qP:bE:=fun xs Q=>∃ ws ls y ms,xs = [bZ ws ls,y]/\dQ y ms/\ms.length<=1000/\ws.length<=1000/\Q (.tup (intz (uZ ws.length ms)))
noncomputable def L4:aQ:=(bM (aC lW (a7 (uU (aC gX (a7 (a5 0) a9))) (a7 (a5 1) a9))))
theorem az7:cB L4 ["web","some"] qP:=by
 rintro xs Q ⟨ws,ls,y,ms,rfl,hy,hm,hw,q⟩
 refine⟨_,rfl,ws,ls,rfl,_,rfl,by lia,by lia,?_⟩
 rw [aw1]
 refine⟨_,rfl,_,rng ws.length,y,ms,rfl,.inr rfl,hy,by rw [dP]; lia,hm,trivial,q⟩
end Core
namespace PP
open PySem L2
section
variable {X : Cx} {a : Expr} {tk : aH} {σ : St} {H : Hp} {Q' : VK} {pos p2 : Pos}
noncomputable def v9 (tk:aH):aH:=fun ρ Q=>tk ρ fun x _=>∃ n:Int,x = .int n/\Q (.dK [(Sum.inl n,.bl true)]) .fr
theorem az8 (h:LE X (v9 tk) σ H Q'):yO [(LE X tk,tC (.bl true))] σ H Q':=by
 obtain ⟨W,ρ,Q,px,q,k⟩:=h
 intro p hp
 refine⟨W,ρ,_,px.mono (bK hp _),q,?_⟩
 rintro v H1 x g s r ⟨n,rfl,q1⟩
 cases r
 have hp1:H1 p=some (.dK []):=s p _ bJ
 refine⟨hp1,[((Sum.inl n:aG),V.bl true)],rfl,by show 1<=15; decide,?_⟩
 have sm:aB H (upd H1 p (.dK (l9 [] [((Sum.inl n:aG),V.bl true)]))):=fun b o e=>by
  have nb:b ≠ p:=fun z=>by rw [z,hp] at e; cases e
  rw [aZ nb]
  exact s b o (by rw [aZ nb]; exact e)
 exact k _ _ _ .fr sm (.dK hp bJ rfl (.cons (.bl true) .nil)) q1
theorem az9 {j:Nat} (ha:QE X a tk):QE X (.Dict [some a] [.Constant (.bool true) j p2] pos) (v9 tk):=
 cD (ag2 (ag1 ha w6 ag0) rfl rfl (by simp) (by show 1<=15; decide)) fun _ _ _=>az8
theorem aA0 (hN:X.N.Nodup) (i j:Nat) {x y:Str}{apos cpos xpos:Pos} (hi:X.N[i]? = some x:=by rfl) (hj:X.N[j]? = some y:=by rfl) (hv:gA X.env.scope x:=by first | exact Or.inl rfl | exact Or.inr (Or.inl rfl) | exact Or.inr (Or.inr rfl)) (hd:(x == ("__debug__" : Str))=false:=by decide) (hcd:(x == ("__classdict__" : Str))=false:=by decide)
  (hbase:attributeBase (.Name x xpos) "pop" X.env (eval (.Name x xpos) X.env)=eval (.Name x xpos) X.env:=by rfl) (hline:(apos.endLine == cpos.line)=true:=by rfl)
  (hx:i3 X.env.scope y:=by first | exact Or.inl rfl | exact Or.inr rfl) (hs:swapsWith (.Call (.Attribute (.Name x xpos) "pop" apos) [] [] cpos) (some (.Name y p2)) pos.line X.env=pure false:=by rfl) (hf:X.fn y=true ∨ X.env.scope.names.lookup y=some .local:=by first | exact .inl rfl | exact .inr rfl) :
  QS X (.Assign [.Name y p2] (.Call (.Attribute (.Name x xpos) "pop" apos) [] [] cpos) pos) (tX i j):=
 dG (rQ hN hj hx (ae5 aT9 PySem.F.slot_list_pop PySem.F.type_list_pop ae8 (iK hi hv hd hcd) hbase hline) hs hf) fun _ _ _=>an4
end
end PP
namespace Core
open PySem L2 PP
noncomputable def g6 (R:List Int):List (aG × PV):=R.map fun x=>((Sum.inl x:aG),PV.bl true)
theorem L5 (R:List Int):(g6 R).map (·.1)=R.map (Sum.inl:Int->aG):=by unfold g6; rw [aT6]; rfl
theorem aA1 (R:List Int):(g6 R).length=R.length:=by unfold g6; rw [aN6]
theorem aA2 (R:List Int) (n:Int):(cF (g6 R) (Sum.inl n:aG)).isSome=decide (n ∈ R):=by
 rw [<- qA,aV2,List.any_eq_true,aX4]
 unfold g6
 refine⟨fun ⟨p,hp,e⟩=>?_,fun h=>⟨_,aP4.mpr ⟨n,h,rfl⟩,aO2 rfl⟩⟩
 obtain ⟨x,hx,rfl⟩:=aP4.mp hp
 have e:(Sum.inl x:aG)=Sum.inl n:=aT3 e
 rw [<- Sum.inl.inj e]; exact hx
theorem aA3 {R:List Int}{y:Int} (h:y ∉ R):eY (g6 R) (Sum.inl y:aG) (.bl true)=g6 (R ++ [y]):=by
 rw [ay0 (L5 R) h]
 unfold g6
 rw [aQ0]; rfl
structure vA (n:Nat) (ls:List (Int × Int)) (S P:List Int):Prop where
 set:b7 n P=true
 ne:P ≠ []
 sub:∀ x ∈ P,x ∈ S
 shut:∀ x ∈ P,∀ y ∈ aN ls x,y ∈ S->y ∈ P
 got:∀ h ∈ S.head?,h ∈ P
 least:∀ U:List Int,(∀ x ∈ U,∀ y ∈ aN ls x,y ∈ S->y ∈ U)->(∀ h ∈ S.head?,h ∈ U)->∀ x ∈ P,x ∈ U
noncomputable def qQ:bE:=fun xs Q=>∃ ws ls S,xs = [.lst (cO ws.length ls),.tup (intz S)]/\Wb ws ls/\b7 ws.length S=true/\S ≠ []/\∀ P,vA ws.length ls S P->Q (.tup (intz P))
noncomputable def L6:aQ:=(aE (b4 2 (aC lU (a7 (a5 1) a9)))
 (aE (dN 3 (v9 (b8 (a5 1) (qC (.int 0)))))
 (aE (dN 4 (eI (a7 (b8 (a5 1) (qC (.int 0))) a9)))
 (aE (lH (lI (a5 4))
  (aE (tX 4 5)
  (eM (dO (b8 (a5 0) (a5 5))) (bT 6)
   (cJ (tR (bA (kM false (a5 6) (a5 2))) (bA (kM true (a5 6) (a5 3)))) (aE (pL 3 (a5 6) (qC (.bl true)))
    (gI 4 (a5 6))) cI))))
 (bM (aC iA (a7 (aC v0 (a7 (a5 3) a9)) a9)))))))
structure L7 (ls:List (Int × Int)) (S R W:List Int) (E:Int->Prop):Prop where
 nd:R.Nodup
 ne:R ≠ []
 sub:∀ x ∈ R,x ∈ S
 wait:∀ x ∈ W,x ∈ R
 shut:∀ x ∈ R,x ∉ W->¬ E x->∀ y ∈ aN ls x,y ∈ S->y ∈ R
 got:∀ h ∈ S.head?,h ∈ R
 least:∀ U:List Int,(∀ x ∈ U,∀ y ∈ aN ls x,y ∈ S->y ∈ U)->(∀ h ∈ S.head?,h ∈ U)->∀ x ∈ R,x ∈ U
theorem aA4:cB L6 ["around","hearths","inside","reached","waiting","hearth","other"] qQ:=by
 rintro xs Q ⟨ws,ls,S,rfl,wb,hS,hne,q⟩
 have few:=wb.few
 have most:=wb.most
 have sl:=qD hS
 have snd:S.Nodup:=(fP (fB hS).1).imp fun h=>aX5 h
 obtain ⟨s0,sr,rfl⟩:∃ s0 sr,S=s0 :: sr:=by
  cases S with
  | nil=>exact absurd rfl hne
  | cons a r=>exact⟨a,r,rfl⟩
 have i0:L2.atI (intz (s0 :: sr)) (0:Int)=some (.int s0):=iN (xs:=intz (s0 :: sr)) (j:=0) rfl
 generalize hSS:s0 :: sr=S at *
 have m0:s0 ∈ S:=by rw [<- hSS]; exact aO1
 have hd:∀ h,h ∈ S.head? ↔ h=s0:=fun h=>by rw [<- hSS]; exact⟨fun z=>by cases z; rfl,fun z=>by rw [z]; rfl⟩
 refine⟨_,rfl,_,S,rfl,.inl rfl,by lia,fun pm dm=>⟨trivial,?_⟩⟩
 refine⟨_,rfl,_,_,_,rfl,rfl,i0,s0,rfl,rfl,rfl,?_⟩
 refine⟨_,rfl,_,_,_,rfl,rfl,i0,by show 1<=1000; decide,rfl,rfl,rfl,?_⟩
 refine⟨fun n ρ=>∃ (R W:List Int) (y5 y6:Option Slot),ρ = [some (.sh (flat (.lst (cO ws.length ls))) (.lst (cO ws.length ls))),some (.sh (flat (.tup (intz S))) (.tup (intz S))),some (.sh true (.dK pm)),some (.own (.dK (g6 R))),some (.own (.lst (intz W))),y5,y6]/\
   n=2 * (S.length - R.length)+W.length/\n<=2 * S.length/\L7 ls S R W fun _=>False,⟨_,[s0],[s0],none,none,rfl,rfl,by rw [<- hSS]; simp; lia,aQ1 _ _,(fun z=>nomatch z),(fun x hx=>by rw [aN7.mp hx]; exact m0),fun _ h=>h,fun x hx hw=>absurd hx hw,fun h hh=>aN7.mpr ((hd h).mp hh),fun U _ hU x hx=>by rw [aN7.mp hx]; exact hU s0 ((hd s0).mpr rfl)⟩,?_⟩
 rintro n ρ ⟨R,W,y5,y6,rfl,rfl,bd,wy⟩
 refine⟨_,rfl,_,rfl,?_⟩
 have rl:R.length<=S.length:=wy.nd.length_le_of_subset wy.sub
 rcases List.eq_nil_or_concat W with hW | ⟨W',h,hW⟩
 ·subst hW
  refine bC ⟨_,rfl,_,R,rfl,L5 R,by lia,fun ms pm so=>⟨⟨_,_,rfl,rfl,dW _,trivial,q ms ⟨?_,?_,?_,?_,fun h hh=>pm.mem_iff.mpr (wy.got h hh),fun U hU hh x hx=>wy.least U hU hh x (pm.mem_iff.mp hx)⟩⟩,fun ns z=>by cases z⟩⟩
  ·have nd:ms.Nodup:=pm.nodup_iff.mpr wy.nd
   have up:ms.Pairwise (· < ·):=(List.Pairwise.and so nd).imp fun z=>Int.lt_iff_le_and_ne.mpr ⟨z.1,z.2⟩
   have u:nS (ws.length:Int) ms:=⟨up,fun x hx=>(fB hS).2 x (wy.sub x (pm.mem_iff.mp hx)),by rw [pm.length_eq]; lia⟩
   exact u.set
  ·intro z; rw [z] at pm; exact wy.ne (List.nil_perm.mp pm)
  ·exact fun x hx=>wy.sub x (pm.mem_iff.mp hx)
  ·exact fun x hx y hy hyS=>pm.mem_iff.mpr (wy.shut x (pm.mem_iff.mp hx) (fun z=>nomatch z) (fun z=>z) y hy hyS)
 ·have hW:W=W' ++ [h]:=by rw [hW]; simp
  subst hW
  have hR:h ∈ R:=wy.wait h (by simp)
  have hb:=(fB hS).2 h (wy.sub h hR)
  have nz:(!(intz (W' ++ [h])).isEmpty)=true:=by rw [fQ]; cases W' <;> rfl
  show if (!(intz (W' ++ [h])).isEmpty)=true then _ else _
  rw [nz]
  refine bW ⟨intz W',.int h,by rw [fQ]; rfl,?_⟩
  refine⟨_,rfl,_,rfl,_,_,_,rfl,rfl,uT hb.1 hb.2,_,rfl,(fun z=>by cases z),fun j ρ=>∃ (R2 W2:List Int) (y6:Option Slot),ρ = [some (.sh (flat (.lst (cO ws.length ls))) (.lst (cO ws.length ls))),some (.sh (flat (.tup (intz S))) (.tup (intz S))),some (.sh true (.dK pm)),some (.own (.dK (g6 R2))),some (.own (.lst (intz W2))),si h,y6]/\
    2 * (S.length - R2.length)+W2.length < 2 * (S.length - R.length)+(W' ++ [h]).length/\L7 ls S R2 W2 (fun x=>x=h)/\h ∈ R2/\∀ y ∈ (aN ls h).take j,y ∈ S->y ∈ R2,
    ⟨R,W',y6,rfl,by rw [aP7,aS2]; lia,⟨wy.nd,wy.ne,wy.sub,fun x hx=>wy.wait x (aQ9 _ hx),fun x hx hw he=>wy.shut x hx (fun z=>(aO4.mp z).elim hw fun z=>he (aN7.mp z)) fun z=>z,wy.got,wy.least⟩,hR,fun y hy=>by rw [List.take_zero] at hy; cases hy⟩,?_,?_⟩
  ·rintro j y ρ hy ⟨R2,W2,y6,rfl,lt,wy2,hR2,seen⟩
   obtain ⟨o,rfl,ho⟩:=j8 hy
   have rl2:R2.length<=S.length:=wy2.nd.length_le_of_subset wy2.sub
   have tk:∀ y,y ∈ (aN ls h).take (j+1)->y ∈ (aN ls h).take j ∨ y=o:=fun y z=>by
    rw [aR5,ho] at z
    rcases aO4.mp z with z | z
    ·exact .inl z
    ·exact .inr (by simpa using z)
   refine iF ?_
   refine⟨_,rfl,_,rfl,_,.inl ⟨pm,Sum.inl o,rfl,rfl,rfl⟩,_,rfl,?_⟩
   show if (cF pm (Sum.inl o:aG)).isSome=true then _ else _
   rw [dm.has o]
   by_cases h1:o ∈ S
   ·rw [aO2 h1]
    refine bW ⟨_,rfl,_,rfl,_,.inl ⟨g6 R2,Sum.inl o,rfl,rfl,rfl⟩,_,rfl,?_⟩
    show if (!(cF (g6 R2) (Sum.inl o:aG)).isSome)=true then _ else _
    rw [aA2]
    by_cases h2:o ∈ R2
    ·rw [aO2 h2]
     exact bC ⟨R2,W2,si o,rfl,lt,wy2,hR2,fun y z zS=>(tk y z).elim (fun z=>seen y z zS) fun e=>by rw [e]; exact h2⟩
    ·rw [aP0 h2]
     have nd3:(R2 ++ [o]).Nodup:=aX6.mpr ⟨wy2.nd,aQ1 _ _,fun a ha b hb e=>h2 (by rw [aN7.mp hb] at e; rw [<- e]; exact ha)⟩
     have sub3:∀ x ∈ R2 ++ [o],x ∈ S:=fun x hx=>(aO4.mp hx).elim (wy2.sub x) fun z=>by rw [aN7.mp z]; exact h1
     have l3:(R2 ++ [o]).length<=S.length:=nd3.length_le_of_subset sub3
     rw [aP7,aS2] at l3
     refine bW ⟨_,rfl,_,rfl,Sum.inl o,rfl,trivial,by rw [aA1]; lia,?_⟩
     rw [aA3 h2]
     refine⟨_,rfl,_,rfl,trivial,by rw [bH]; lia,R2 ++ [o],W2 ++ [o],si o,?_,?_,⟨nd3,(fun z=>by simp at z),sub3,fun x hx=>?_,fun x hx hw he y hy yS=>?_,fun h hh=>aQ9 _ (wy2.got h hh),fun U hU hh x hx=>(aO4.mp hx).elim (wy2.least U hU hh x) fun z=>by rw [aN7.mp z]; exact hU h (wy2.least U hU hh h hR2) o (aN8 ho) h1⟩,aQ9 _ hR2,fun y z zS=>?_⟩
     ·rw [fQ]; rfl
     ·simp only [aP7,aS2] at lt ⊢; lia
     ·rcases aO4.mp hx with z | z
      ·exact aQ9 _ (wy2.wait x z)
      ·exact aQ4 _ z
     ·rcases aO4.mp hx with z | z
      ·exact aQ9 _ (wy2.shut x z (fun z=>hw (aQ9 _ z)) he y hy yS)
      ·exact absurd (aQ4 _ z) hw
     ·rcases tk y z with z | e
      ·exact aQ9 _ (seen y z zS)
      ·rw [e]; exact aQ4 _ (aN7.mpr rfl)
   ·rw [aP0 h1]
    exact bC (bC ⟨R2,W2,si o,rfl,lt,wy2,hR2,fun y z zS=>(tk y z).elim (fun z=>seen y z zS) fun e=>absurd (e ▸ zS) h1⟩)
  ·rintro ρ ⟨R2,W2,y6,rfl,lt,wy2,hR2,seen⟩
   rw [bH,aU5] at seen
   refine⟨_,lt,R2,W2,si h,y6,rfl,rfl,by lia,wy2.nd,wy2.ne,wy2.sub,wy2.wait,fun x hx hw _ y hy yS=>?_,wy2.got,wy2.least⟩
   by_cases e:x=h
   ·subst e; exact seen y hy yS
   ·exact wy2.shut x hx hw e y hy yS
noncomputable def L8 (Ep:Str->Prop):aQ:=(aE (b4 2 (aC jB (a7 (a5 0) a9)))
 (aE (b4 3 (v5 Ep qN (a7 (a5 0) (a7 (a5 1) a9))))
 (aE (dN 4 (eI a9))
 (aE (lH (lI (a5 3))
  (aE (b4 5 (aC qQ (a7 (a5 2) (a7 (a5 3) a9))))
  (aE (gI 4 (a5 5))
  (b4 3 (aC lW (a7 (a5 3) (a7 (a5 5) a9)))))))
 (jO 4)))))
theorem L9 (n:Nat):∀ (a b:List (List Int)),((((tups a).zip (tups b)).all fun p=>bN (n+1) p.1 p.2) && (tups a).length == (tups b).length)=decide (a=b)
 | [],[]=>rfl
 | [],_ :: _=>by simp [tups]
 | _ :: _,[]=>by simp [tups]
 | x :: a,y :: b=>by
  have ih:=L9 n a b
  have e:∀ (z:List Int) (c:List (List Int)),tups (z :: c)=PV.tup (intz z) :: tups c:=fun _ _=>rfl
  rw [e,e]
  simp only [ba2,aW9,aP8,C0] at ih ⊢
  by_cases h:x=y
  ·subst h
   have:((tups a).length+1 == (tups b).length+1)=((tups a).length == (tups b).length):=by simp
   rw [this,aO2 rfl,Bool.true_and,ih]
   simp
  ·rw [aP0 h,aZ8,aZ8]
   simp [h]
theorem aA5 (n:Nat) (a b:List (List Int)):bN (n+2) (.lst (tups a)) (.lst (tups b))=decide (a=b):=L9 n a b
theorem M0 (n:Nat):∀ (a b:List (List Int)),cN (n+2) (.lst (tups a)) (.lst (tups b))=true
 | [],_=>by unfold cN tups; simp
 | _ :: _,[]=>by unfold cN tups; simp
 | x :: a,y :: b=>by
  have ih:=M0 n a b
  show (((PV.tup (intz x) :: tups a).zip (PV.tup (intz y) :: tups b)).all fun p=>cN (n+1) p.1 p.2)=true
  rw [ba2,aW9,C1,Bool.true_and]
  exact ih
theorem aA6 (n:Nat):rng (n+1)=rng n ++ [(n:Int)]:=by
 unfold rng; rw [List.range_succ,aQ0]; rfl
theorem qR (n:Nat) (a:Int):(List.replicate n [PV.int a]).flatten=intz (List.replicate n a):=by
 induction n with
 | zero=>rfl
 | succ n ih=>rw [aR8,aR8,aW0,ih]; rfl
section
variable {ws : List Int} {ls : List (Int × Int)}
noncomputable def cne (ws:List Int) (ls:List (Int × Int)) (S:List Int):Bool:=!decide (S = []) && decide (stay ws ls S=S)
end
theorem qS {b:Bool}{A B:Prop} (a:A) (c:B):if b=true then A else B:=by
 cases b with
 | true=>exact bW a
 | false=>exact bC c
noncomputable def far (ns S:List Int):Bool:=decide (((S.filter fun x=>decide (x ∈ ns)).length:Int)=0)
noncomputable def dH (ls:List (Int × Int)) (S U:List Int):Prop:=∀ x ∈ U,∀ y ∈ aN ls x,y ∈ S->y ∈ U
noncomputable def comp (ls:List (Int × Int)) (S:List Int) (h:Int):List Int:=S.filter fun x=>@decide (∀ U:List Int,dH ls S U->h ∈ U->x ∈ U) (Classical.propDecidable _)
section
variable {ws : List Int} {ls : List (Int × Int)} {S : List Int} {n : Nat} {h x : Int}
theorem fR:x ∈ comp ls S h ↔ x ∈ S/\∀ U,dH ls S U->h ∈ U->x ∈ U:=by
 unfold comp
 rw [aP6]
 exact⟨fun z=>⟨z.1,@aT3 _ (Classical.propDecidable _) z.2⟩,fun z=>⟨z.1,@aO2 _ (Classical.propDecidable _) z.2⟩⟩
theorem nU:∀ x ∈ comp ls S h,x ∈ S:=fun x hx=>(fR.mp hx).1
theorem eQ (hh:h ∈ S):h ∈ comp ls S h:=fR.mpr ⟨hh,fun _ _ z=>z⟩
theorem gL:dH ls S (comp ls S h):=fun x hx y hy yS=>fR.mpr ⟨yS,fun U hU z=>hU x ((fR.mp hx).2 U hU z) y hy yS⟩
theorem fS (hS:b7 n S=true):b7 n (comp ls S h)=true:=qJ hS _
theorem aA7 {P:List Int} (hS:b7 n S=true) (hP:b7 n P=true) (hs:∀ x ∈ P,x ∈ S) (hh:h ∈ P) (sh:dH ls S P) (le:∀ U,dH ls S U->h ∈ U->∀ x ∈ P,x ∈ U):P=comp ls S h:=
 K3 hP (fS hS) fun x=>⟨fun hx=>fR.mpr ⟨hs x hx,fun U hU z=>le U hU z x hx⟩,fun hx=>(fR.mp hx).2 P sh hh⟩
theorem jD (hS:b7 n S=true) (hx:x ∈ comp ls S h) (hh:h ∈ S):comp ls S x=comp ls S h:=by
 have back:h ∈ comp ls S x:=by
  refine fR.mpr ⟨hh,fun U hU xU=>?_⟩
  refine aU1 fun hn=>?_
  have sv:dH ls S (S.filter fun z=>!decide (z ∈ U)):=fun a ha b hb bS=>by
   rw [aP6] at ha ⊢
   refine⟨bS,?_⟩
   by_cases bU:b ∈ U
   ·have:=hU b bU a (iV hb) ha.1
    rw [aO2 this] at ha; exact absurd ha.2 (by decide)
   ·rw [aP0 bU]; rfl
  have:=(fR.mp hx).2 _ sv (aP6.mpr ⟨hh,by rw [aP0 hn]; rfl⟩)
  rw [aP6,aO2 xU] at this
  exact absurd this.2 (by decide)
 exact K3 (fS hS) (fS hS) fun y=>⟨fun hy=>(fR.mp hy).2 _ gL hx,fun hy=>(fR.mp hy).2 _ gL back⟩
theorem iG {L:List Int}{a:Int} (hL:b7 n L=true) (ha:L.head? = some a):a ∈ L/\∀ x ∈ L,a=x ∨ a < x:=by
 cases L with
 | nil=>cases ha
 | cons b r=>
  cases ha
  refine⟨aO1,fun x hx=>?_⟩
  rcases aO7.mp hx with e | hx
  ·exact .inl e.symm
  ·exact .inr ((aV1.mp (fP (fB hL).1)).1 x hx)
theorem vB {L:List Int}{a:Int} (hL:b7 n L=true) (ha:a ∈ L) (hl:∀ x ∈ L,a<=x):L.head? = some a:=by
 cases L with
 | nil=>cases ha
 | cons b r=>
  rcases aO7.mp ha with e | e
  ·rw [e]; rfl
  ·have h1:=(aV1.mp (fP (fB hL).1)).1 a e
   have h2:=hl b aO1
   lia
noncomputable def nV (ls:List (Int × Int)) (S:List Int) (h:Int):Bool:=decide ((comp ls S h).head? = some h)
noncomputable def aR (ls:List (Int × Int)) (S:List Int):List Int:=S.filter (nV ls S)
theorem M1 {A B:List Int} (ua:A.Pairwise (· < ·)) (ub:B.Pairwise (· < ·)) (h:∀ x,x ∈ A ↔ x ∈ B):A=B:=
 uX ((List.perm_ext_iff_of_nodup (ua.imp fun z=>aX5 z) (ub.imp fun z=>aX5 z)).mpr h) (ua.imp fun z=>Int.le_of_lt z) (ub.imp fun z=>Int.le_of_lt z)
theorem aA8 {L:List Int}{a:Int} (hS:b7 n S=true) (hL:b7 n L=true) (sub:∀ x ∈ L,x ∈ S) (ha:L.head? = some a) (pl:∀ x ∈ comp ls S a,x ∈ L)
  (lt:∀ h ∈ (aR ls S).filter (fun z=>!decide (z ∈ L)),∀ x ∈ L,h < x) :
  (aR ls S).filter (fun z=>!decide (z ∈ L.filter fun z=>!decide (z ∈ comp ls S a)))=(aR ls S).filter (fun z=>!decide (z ∈ L)) ++ [a]:=by
 obtain ⟨aL,al⟩:=iG hL ha
 have aS:=sub a aL
 have hu:(aR ls S).Pairwise (· < ·):=fP (fB (qJ hS (nV ls S))).1
 have hd:(comp ls S a).head? = some a:=vB (fS hS) (eQ aS) fun x hx=>by rcases al x (pl x hx) with e | e <;> lia
 refine M1 (hu.sublist List.filter_sublist) (List.pairwise_append.mpr ⟨hu.sublist List.filter_sublist,aQ1 _ _,fun x hx y hy=>by rw [aN7.mp hy]; exact lt x hx a aL⟩) fun x=>?_
 simp only [aO4,aN7,aP6,Bool.not_eq_true',decide_eq_false_iff_not,not_and,Decidable.not_not]
 constructor
 ·rintro ⟨hx,hn⟩
  by_cases xL:x ∈ L
  ·refine .inr ?_
   have xc:=hn xL
   have h1:(comp ls S x).head? = some x:=aT3 (aP6.mp hx).2
   rw [jD hS xc aS,hd] at h1
   cases h1; rfl
  ·exact .inl ⟨hx,xL⟩
 ·rintro (⟨hx,xL⟩ | rfl)
  ·exact⟨hx,fun z=>absurd z xL⟩
  ·exact⟨aP6.mpr ⟨aS,aO2 hd⟩,fun _=>eQ aS⟩
theorem vA.comp {L P:List Int}{a:Int} (hS:b7 n S=true) (sub:∀ x ∈ L,x ∈ S) (sh:dH ls S L) (ha:L.head? = some a) (pc:vA n ls L P):P=comp ls S a:=by
 have ea:∀ z,z ∈ L.head?->z=a:=fun z hz=>by rw [ha] at hz; cases hz; rfl
 exact aA7 hS pc.set (fun x hx=>sub x (pc.sub x hx)) (pc.got a ha) (fun x hx y hy yS=>pc.shut x hx y hy (sh x (pc.sub x hx) y hy yS))
  fun U hU aU=>pc.least U (fun x hx y hy yL=>hU x hx y hy (sub y yL)) fun z hz=>by rw [ea z hz]; exact aU
end
noncomputable abbrev aA9:=L8
noncomputable def gY (ls:List (Int × Int)) (S:List Int):List (List Int):=(aR ls S).map (comp ls S)
noncomputable def qT:gK:=az6 fun ws ls S Q=>Q (.lst (tups (gY ls S)))
theorem aB0:L0 L8 ["web","block","around","left","pieces","piece"] qT:=by
 rintro Ep xs Q ⟨ws,ls,x,S,rfl,wb,hx,hl,q,qe⟩
 have few:=wb.few
 refine⟨_,rfl,ws,ls,rfl,wb,trivial,?_⟩
 refine⟨_,rfl,_,rfl,ws,ls,x,S,rfl,hx,hl,fun hs=>⟨trivial,?_⟩,qe⟩
 have q:Q (.lst (tups (gY ls S))):=q hs
 have sl:=qD hs
 refine⟨by decide,rfl,rfl,rfl,?_⟩
 refine⟨fun n ρ=>∃ (L:List Int) (Ps:List (List Int)) (y5:Option Slot),ρ = [some (.sh (flat (bZ ws ls)) (bZ ws ls)),some (.sh (flat x) x),some (.sh true (.lst (cO ws.length ls))),some (.sh true (.tup (intz L))),some (.own (.lst (tups Ps))),y5]/\
   n=L.length/\b7 ws.length L=true/\Ps.length+L.length<=S.length/\(∀ x ∈ L,x ∈ S)/\dH ls S L/\Ps=((aR ls S).filter fun z=>!decide (z ∈ L)).map (comp ls S)/\∀ h ∈ (aR ls S).filter (fun z=>!decide (z ∈ L)),∀ x ∈ L,h < x,⟨_,S,[],none,rfl,rfl,hs,by simp,fun _ h=>h,fun _ _ _ _ h=>h,?_,?_⟩,?_⟩
 ·rw [List.filter_eq_nil_iff.mpr fun z hz=>?_]; rfl
  rw [aO2 (aP6.mp hz).1]; decide
 ·intro h hh
  have:=aP6.mp hh
  rw [aO2 (aP6.mp this.1).1] at this
  exact absurd this.2 (by decide)
 rintro n ρ ⟨L,Ps,y5,rfl,rfl,lset,bd,sub,sh,eP,lt⟩
 refine⟨_,rfl,_,rfl,?_⟩
 cases hL:L with
 | nil=>
  refine bC ⟨_,rfl,trivial,?_⟩
  have e:(aR ls S).filter (fun z=>!decide (z ∈ L))=aR ls S:=List.filter_eq_self.mpr fun z _=>by rw [hL]; rfl
  rw [e] at eP
  rw [eP]; exact q
 | cons a r=>
  rw [<- hL]
  have ne:(!(intz L).isEmpty)=true:=by rw [hL]; rfl
  have nl:L ≠ []:=by rw [hL]; exact fun z=>nomatch z
  have hd:L.head? = some a:=by rw [hL]; rfl
  show if (!(intz L).isEmpty)=true then _ else _
  rw [ne]
  refine bW ?_
  have ll:=qD lset
  refine⟨_,rfl,_,rfl,ws,ls,L,rfl,wb,lset,nl,fun P pc=>⟨trivial,?_⟩⟩
  have pn:P.Nodup:=(fP (fB pc.set).1).imp fun h=>aX5 h
  have pl:P.length<=L.length:=pn.length_le_of_subset pc.sub
  refine⟨_,rfl,_,rfl,trivial,by rw [qB]; lia,?_⟩
  refine⟨_,rfl,_,rfl,_,L,_,P,rfl,.inl rfl,.inl rfl,by lia,by lia,trivial,?_⟩
  have aP:=pc.got a hd
  obtain ⟨aL,al⟩:=iG lset hd
  have lt2:(L.filter fun z=>!decide (z ∈ P)).length < L.length:=by
   rcases Nat.lt_or_ge (L.filter fun z=>!decide (z ∈ P)).length L.length with z | z
   ·exact z
   ·have:=List.filter_eq_self.mp (List.filter_sublist.eq_of_length_le z) a aL
    rw [aO2 aP] at this; cases this
  have ec:=pc.comp hs sub sh hd
  have hn:=aA8 hs lset sub hd (fun x hx=>pc.sub x (by rw [ec]; exact hx)) lt
  rw [<- ec] at hn
  refine⟨_,lt2,L.filter (fun z=>!decide (z ∈ P)),Ps ++ [P],some (.sh true (.tup (intz P))),?_,rfl,qJ lset _,by rw [aP7,aS2]; lia,fun x hx=>sub x (aP6.mp hx).1,?_,?_,?_⟩
  ·unfold tups
   rw [aQ0]; rfl
  ·intro x hx y hy yS
   rw [aP6] at hx ⊢
   refine⟨sh x hx.1 y hy yS,?_⟩
   by_cases yP:y ∈ P
   ·have:=pc.shut y yP x (iV hy) hx.1
    rw [aO2 this] at hx; exact absurd hx.2 (by decide)
   ·rw [aP0 yP]; rfl
  ·rw [hn,aQ0,<- eP,ec]; rfl
  ·rw [hn]
   intro h hh x hx
   rw [aP6] at hx
   rcases aO4.mp hh with hh | hh
   ·exact lt h hh x hx.1
   ·rw [aN7.mp hh]
    rcases al x hx.1 with e | e
    ·rw [<- e,aO2 aP] at hx; exact absurd hx.2 (by decide)
    ·exact e
end Core
namespace PP
open PySem L2
section
variable {X : Cx} {a b : Expr} {ta tb : aH} {pos : Pos}
noncomputable def vC:PV->Tg->PV->Tg->PK->Prop:=fun x _ y _ Q=>∃ (i:Int) (o:Option Int),x = .int i/\y=Core.jC o/\Q (.bl (!decide (o=some i))) .fr
theorem aB1:eV X vC rW:=by
 rintro W Hs H u v x y g g' Q Q' s n r1 r2 ⟨i,o,rfl,rfl,q⟩ k
 cases r1
 cases o with
 | none=>
  cases r2
  exact⟨rfl,k _ _ _ .fr (aB.refl _) (.bl true) q⟩
 | some j=>
  cases r2
  have e:decide (V.int i=V.int j)=decide (some j=some i):=decide_eq_decide.mpr ⟨fun z=>by cases z; rfl,fun z=>by cases z; rfl⟩
  refine⟨rfl,?_⟩
  rw [e]
  exact k _ _ _ .fr (aB.refl _) (.bl _) q
theorem aB2 (ha:QE X a ta) (hb:QE X b tb):QT X (.Compare a [.NotEq] [b] pos) (bA (q2 vC ta tb)):=iC wY aB1 ha hb (fH _)
end
end PP
namespace Core
open PySem L2 PP
noncomputable def M3 (ws:List Int) (ls:List (Int × Int)):List Int->List Int->Bool
 | _,[]=>true
 | B,h :: R=>inB ws.length h && (kin ws ls B h && M3 ws ls (B ++ [h]) R)
noncomputable def jE:bE:=fun xs Q=>∃ a k:Int,xs = [.int a,.int k]/\0<=k/\k<=1000/\∀ z,0<=z->Q (.int z)
noncomputable def M4:aQ:=(aE (b4 2 (cA (bX (bX (bX (cA (a5 0) (qC (.int 2147483647))) (nC (nC (qC (.int 69621)) (a5 1)) (a5 1))) (nC (qC (.int 40692)) (a5 1))) (qC (.int 1))) (qC (.int 2147483647))))
 (aE (b4 2 (cA (nC (a5 2) (qC (.int 48271))) (qC (.int 2147483647))))
 (bM (cA (nC (a5 2) (a5 2)) (qC (.int 2147483647))))))
theorem aB3:cB M4 ["number","k","turn"] jE:=by
 rintro xs Q ⟨a,k,rfl,k0,k1,q⟩
 have big:(0:Int) < 2147483647:=by decide
 refine⟨_,rfl,_,_,rfl,rfl,big,_,rfl,_,_,rfl,rfl,.inl ⟨by decide,by decide⟩,_,rfl,_,_,rfl,rfl,.inr ⟨by show -(2 ^ 64) < k; lia,by show k < 2 ^ 64; lia⟩,_,_,rfl,rfl,_,rfl,_,_,rfl,rfl,.inl ⟨by decide,by decide⟩,_,_,rfl,rfl,_,_,rfl,rfl,_,_,rfl,rfl,big,trivial,?_⟩
 refine⟨_,rfl,_,_,rfl,rfl,.inr ⟨by decide,by decide⟩,_,_,rfl,rfl,big,trivial,?_⟩
 dsimp only
 have t0:0<=(a % 2147483647+69621 * k * k+40692 * k+1) % 2147483647 * 48271 % 2147483647:=aT7 _ (by decide)
 have t1:(a % 2147483647+69621 * k * k+40692 * k+1) % 2147483647 * 48271 % 2147483647 < 2147483647:=ba3 _ (by decide)
 generalize (a % 2147483647+69621 * k * k+40692 * k+1) % 2147483647 * 48271 % 2147483647=t at t0 t1
 exact⟨_,rfl,_,rfl,_,_,rfl,rfl,.inl ⟨by show -(2 ^ 64) < t; lia,by show t < 2 ^ 64; lia⟩,_,_,rfl,rfl,big,trivial,q _ (aT7 _ (by decide))⟩
noncomputable def qU:bE:=fun xs Q=>∃ (ns:List Int) (most:Int),xs = [.scr ns,.int most]/\0<=most/\∀ z,0<=z->z<=most->Q (.int z)
noncomputable def M5:aQ:=(aE (b4 2 (aC fC (a7 (a5 0) (a7 (qC (.int 0)) a9))))
 (aE (cJ (bA (lO (cA (a5 2) (qC (.int 3))) (qC (.int 0)))) (bM (aC kI (a7 (a5 1) (a7 (aC kJ (a7 (qC (.int 0)) (a7 (j3 (aC dF (a7 (a5 0) a9)) (qC (.int 4))) a9))) a9)))) cI)
 (aE (cJ (bA (lO (cA (a5 2) (qC (.int 8))) (qC (.int 1)))) (bM (cA (bX (gU (a5 2) (qC (.int 24))) (qC (.int 5))) (bX (a5 1) (qC (.int 1))))) cI)
 (bM (cA (bX (gU (a5 2) (qC (.int 3))) (qC (.int 2))) (bX (aC kI (a7 (qC (.int 6)) (a7 (a5 1) a9))) (qC (.int 1))))))))
theorem aB4:cB M5 ["script","most","number"] qU:=by
 rintro xs Q ⟨ns,most,rfl,hm,q⟩
 refine⟨_,rfl,_,ns,0,rfl,.inl rfl,by decide,trivial,?_⟩
 generalize ns.getD (0:Int).toNat 0=c
 refine⟨_,rfl,_,_,rfl,rfl,(by show (0:Int) < 3; decide),.inl ⟨_,_,rfl,rfl,_,rfl,qS ?_ ?_⟩⟩
 ·refine⟨_,rfl,_,rfl,_,_,rfl,rfl,_,_,rfl,rfl,_,_,rfl,_,_,rfl,trivial,q _ ?_ ?_⟩ <;> split <;> split <;> lia
 refine⟨_,rfl,_,_,rfl,rfl,(by show (0:Int) < 8; decide),.inl ⟨_,_,rfl,rfl,_,rfl,qS ?_ ?_⟩⟩
 ·have hp:0 < most+1:=by lia
  refine⟨_,rfl,_,_,rfl,rfl,⟨by decide,by decide⟩,_,_,rfl,rfl,_,rfl,_,_,rfl,rfl,_,_,rfl,rfl,hp,trivial,q _ (aT7 _ (by lia)) ?_⟩
  have:=ba3 (c / 24+5) hp
  lia
 ·have hp:0 < (if most < 6 then most else 6)+1:=by split <;> lia
  refine⟨_,rfl,_,_,rfl,rfl,⟨by decide,by decide⟩,_,_,rfl,rfl,_,rfl,_,_,rfl,_,_,rfl,rfl,_,_,rfl,rfl,hp,trivial,q _ (aT7 _ (by lia)) ?_⟩
  have:=ba3 (c / 3+2) hp
  have hm:(if most < 6 then most else 6)<=most:=by split <;> lia
  lia
theorem gZ {ws:List Int}{j:Nat} (h:j < ws.length):L2.atI (intz ws) (j:Int)=some (.int (ws.getD j 0)):=by
 have gw:ws[j]? = some (ws.getD j 0):=by rw [aO3,aN5 h]; rfl
 exact iN (by rw [aO5,gw]; rfl)
theorem nW {ws:List Int} (h:NN ws) (j:Nat):0<=ws.getD j 0:=by
 rw [aO3]
 cases hj:ws[j]? with
 | none=>exact Int.le_refl 0
 | some w=>exact h w (aN8 hj)
theorem aB5 (ns:List Int) (lo hi:Option Int):∃ zs:List Int,gT (intz ns) lo hi=intz zs/\zs.length<=ns.length:=by
 refine⟨(ns.drop (HT.aV (intz ns).length 0 lo)).take (HT.aV (intz ns).length (intz ns).length hi - HT.aV (intz ns).length 0 lo),?_,?_⟩
 ·unfold gT intz; rw [List.map_take,List.map_drop]
 ·rw [aV4,aW7]; lia
end Core
namespace PP
open PySem L2
section
variable {P : Program} {w : World} {K : PySem.W.Frag} {mg : Str → Option Value} {base : Heap} {k : Nat} {f : Addr} {fd : FuncData}
theorem aB6 (F:cH P w K mg base dE k f fd ["web"] qG) (b:i7 K fd ["web"] []) (kp:PySem.W.keepIn K (.ref f)=true) (m:mg "_law_beside" = some (.ref f)):Df P w K mg base k "_law_beside" ["web"] Core.jB:=by
 refine⟨f,fd,F.imp fun vs H Q E h=>?_,b,kp,m⟩
 obtain ⟨xs,Qp,r,⟨ws,ls,rfl,wb,q⟩,k⟩:=h
 obtain ⟨v,rfl,r1⟩:=r.one
 have:=wb.few
 have:=wb.most
 refine⟨v,ws,ls,rfl,J7 r1,by lia,by lia,wb.links,fun t bs H' hb R=>k _ H' _ R.same (.lst R.new R.row ?_) q⟩
 have:=uW (K:=K) (M:=fun a=>H a=none) (H:=H') (bs:=bs) (ls:=ls) 0 (fun b hb=>(R.news b hb).1) fun k b hk=>by rw [Nat.zero_add]; exact R.rows k b hk
 rw [hb,<- List.range_eq_range'] at this
 exact this
end
end PP
namespace Core
open PySem L2 PP
noncomputable abbrev M6:bE:=jB
section
variable {ws : List Int} {ls : List (Int × Int)} {ns S : List Int}
noncomputable def dI (S:List Int) (h:Int):List Int:=S.filter fun z=>!decide (z ∈ [h])
theorem kT {h x:Int}:x ∈ dI S h ↔ x ∈ S/\x ≠ h:=by unfold dI; rw [aP6]; simp
theorem qV {n:Nat}{h:Int} (hs:b7 n S=true):b7 n (dI S h)=true:=qJ hs _
end
theorem aB7 (n:Nat):b7 n (rng n)=true:=v8.set ⟨v4 n,fun x hx=>cX.mp hx⟩
end Core
namespace L2
open PySem PySem.Spec PyProof.Rows
noncomputable def M7 (K:PySem.W.Frag) (a:Addr) (n:Nat):It:=
 ⟨fun i H=>(∃ xs,aJ K H a xs/\xs.length=n)/\i < n,fun i H x H'=>H'=H/\∀ xs,aJ K H a xs->xs[n - 1 - i]? = some x,fun i H=>i=n⟩
theorem aB8 {P:Program}{w:World}{K:PySem.W.Frag}{tg:Expr} (a it:Addr) (n:Nat):iM P w K tg (M7 K a n) [it] it (fun i h=>h.IsRevIter it a ((n:Int) - 1 - (i:Int))):=by
 refine⟨by simp,fun i h st b hb=>?_,fun i h h' st k=>st.at fun o e=>k it (by simp) o e,?_,?_,fun _ _ _ _ _ st q=>wpAny_pyIter_revIter st q⟩
 ·obtain rfl:b=it:=by simpa using hb
  obtain ⟨o,e,c,d⟩:=st
  exact⟨o,e,fun v z=>by rw [d] at z; cases z⟩
 ·intro X hP hw hK hc i pins s σ H E I hf st hg
  subst hP hw hK
  obtain ⟨⟨xs,hq,hl⟩,hi⟩:=hg
  obtain ⟨its,rv,p,hz⟩:=I.list hq
  have lv:=rv.length
  have hx:xs[n - 1 - i]? = some (xs[n - 1 - i]'(by lia)):=aN5 (by lia)
  obtain ⟨u,hu,ru⟩:=rv.get hx
  obtain ⟨f0,f1,f2,f3,f4,f5⟩:=hf it (by simp)
  have e0:(n:Int) - 1 - (i:Int)=((n - 1 - i:Nat):Int):=by lia
  rw [e0] at st
  refine wpAny_pyNext_rev_item st p.isList (x:=u) (by simpa using hu) fun h' st' sb=>?_
  have I1:a6 X pins σ H { s with heap:=h' }:=I.turned (t':=s.toks) (fun b o hb e=>(sb.2 b hb).trans e) f0 f1 f3 f4 f5
  have e1:((n - 1 - i:Nat):Int) - 1=(n:Int) - 1 - ((i+1:Nat):Int):=by lia
  rw [e1] at st'
  obtain ⟨o,e,c,d⟩:=id st'
  exact⟨u,rfl,o9 (s:={ s with heap:=h' }) e c d (by decide) ⟨_,H,I1,ru,⟨rfl,fun ys hy=>by rw [I.list_inj hy hq]; exact hx⟩,st',fun b hb=>(hf b hb).1⟩⟩
 ·intro X hP hw hK hc i pins s σ H E I hf st hg
  subst hP hw hK
  have hg:i=n:=hg
  subst hg
  obtain ⟨f0,f1,f2,f3,f4,f5⟩:=hf it (by simp)
  rw [show (i:Int) - 1 - (i:Int) = -1 by lia] at st
  exact wpAny_pyNext_rev_end (I.ok.hd hc) st fun h' eb=>⟨rfl,I.turned (t':=s.toks) (fun b o hb e=>eb b o hb e) f0 f1 f3 f4 f5⟩
section
variable {X : Cx}
noncomputable def M8 (K:PySem.W.Frag) (ta:TA):TI:=fun σ H R=>ta σ H fun vs H1=>∃ a xs,vs = [.ref a]/\aJ K H1 a xs/\R (M7 K a xs.length) H1
theorem aB9 {tg:Expr}{a:Expr}{ta:TA}{p pos:Pos} (hg:Gl X "reversed") (hm:X.mg "reversed" = none) (ha:PA X [a] ta) (hs:starEach [a] X.env = [(false,eval a X.env)]:=by rfl) :
  PI X tg (.Call (.Name "reversed" p) [a] [] pos) (M8 X.K ta):=by
 intro pins s σ H R I h
 refine Call_ (iL I hg hm PyProof.Rows.boot_reversed (aT4 (aO (ha pos pins s σ H _ I h) fun us s1 ⟨vs,H1,I1,r1,q1⟩=>?_) (by rw [hs]; rfl) (by rfl)))
 obtain ⟨a',xs,e,h1,q⟩:=q1
 subst e
 cases r1 with
 | cons r rr=>
  cases rr
  cases r
  obtain ⟨us,rv,p1,_⟩:=I1.list h1
  have lv:=rv.length
  refine call_reversed_list p1.isList ?_
  have st:∀ t:Nat,(s1.heap.push (revObj a' ((us.toArray.size:Int) - 1))).IsRevIter s1.heap.objs.size a' ((xs.length:Int) - 1 - (0:Nat)):=fun _=>by
   rw [aN3,<- lv]
   exact⟨_,aP5 _ rfl,rfl,by rw [show (xs.length:Int) - 1 - (0:Nat)=(xs.length:Int) - 1 by lia]; rfl⟩
  refine wpAny_pyIter_revIter (st 0) ?_
  refine⟨s1.heap.objs.size,[s1.heap.objs.size],_,_,H1,rfl,I1.kept (t':=s1.toks) fun b o e=>aN4 _ e,aB8 a' _ xs.length,st 0,fun c hc=>?_,q⟩
  obtain rfl:c=s1.heap.objs.size:=by simpa using hc
  exact I1.fpOk (aO0 _) (I1.hok.fresh (aO0 _))
end
end L2
namespace PP
open PySem L2
section
variable {X : Cx} {σ : St} {H : Hp} {te : aH} {R : It → Hp → Prop} {a : Expr} {p2 pos : Pos}
noncomputable def vD (te:aH):eW:=fun ρ Q=>te ρ fun x g=>∃ xs,x = .lst xs/\g ≠ .rd/\Q xs.reverse (u5 g xs)
theorem aC0 (h:LI X (vD te) σ H R):M8 X.K (i6 (LE X te) jI) σ H R:=by
 obtain ⟨W,ρ,Q,px,q,k⟩:=h
 refine⟨W,ρ,_,px,q,?_⟩
 rintro v H1 x g s r ⟨xs,rfl,hg,q⟩
 have px1:=px.mono s
 have tw:∀ a,W a->∃ o,H1 a=some o/\iX o=true:=fun a z=>(px1.wm a z).2
 obtain ⟨a,us,rfl,m,ea,r⟩:=r.sqL
 have wa : ¬ W a:=by
  cases g with
  | fr=>exact (px.new m).1
  | nw=>exact m.1
  | sh=>exact m
  | rd=>exact absurd rfl hg
 have lr:=r.length
 have ha:∀ W' H',Ev W H1 W' H'->aJ X.K H' a us:=fun W' H' e=>aJ.of (e _ _ ea wa).1
 have rr:=mY px (fun z=>absurd z hg) r
 refine⟨a,us,rfl,aJ.of ea,k _ _ _ _ s ⟨fun W' H' i e hi=>⟨⟨us,ha W' H' e,rfl⟩,?_⟩,fun W' H' i v H2 e y hi=>?_,fun W' H' e=>?_⟩ q⟩
 ·rw [List.length_reverse] at hi; lia
 ·rw [List.length_reverse] at hi
  obtain ⟨rfl,y⟩:=y
  obtain ⟨x,hx,rx⟩:=rr.get (y us (ha W' _ e))
  refine⟨aB.refl _,x,?_,rx.keep (e.keep tw)⟩
  rw [List.getElem?_reverse hi,<- lr]
  exact hx
 ·show xs.reverse.length=us.length
  rw [List.length_reverse]; lia
theorem aC1 {tg:Expr} (hm:X.mg "reversed" = none) (ha:QE X a te) (hg:Gl X "reversed":=by rfl) (hs:starEach [a] X.env = [(false,eval a X.env)]:=by rfl):QI X tg (.Call (.Name "reversed" p2) [a] [] pos) (vD te):=pQ (aB9 hg hm (cL ha dD hs) hs) fun _ _ _=>aC0
end
end PP
namespace Core
open PySem L2 PP
noncomputable def nX (n:Nat) (ps:List Int):Prop:=ps.length=n/\∀ w ∈ ps,0<=w
noncomputable def qW:bE:=fun xs Q=>∃ (ns:List Int) (m:Nat),xs = [.scr ns,.int m]/\ns.length<=63/\m<=40/\∀ ps,nX m ps->Q (.lst (intz ps))
noncomputable def M9:aQ:=(aE (dN 2 (eI a9))
 (aE (eM (jP (a5 1)) (bT 3)
  (aE (b4 4 (aC jE (a7 (aC fC (a7 (a5 0) (a7 (qC (.int 2)) a9))) (a7 (bX (a5 3) (qC (.int 30))) a9))))
  (aE (cJ (bA (lN (bX (qC (.int 4)) (a5 3)) (aC dF (a7 (a5 0) a9)))) (b4 4 (bX (gU (b8 (a5 0) (bX (qC (.int 4)) (a5 3))) (qC (.int 11))) (aC fC (a7 (a5 0) (a7 (qC (.int 2)) a9))))) cI)
  (gI 2 (b8 (eI (a7 (cA (a5 4) (qC (.int 3))) (a7 (bX (qC (.int 1)) (cA (a5 4) (qC (.int 9)))) (a7 (cA (a5 4) (pO (qC (.int 10)) (qC (.int 9)))) (a7 (bX (pO (qC (.int 10)) (qC (.int 20))) (cA (a5 4) (qC (.int 7)))) a9))))) (cA (gU (a5 4) (qC (.int 10))) (qC (.int 4))))))))
 (jO 2)))
theorem aC2:cB M9 ["script","many","prices","k","number"] qW:=by
 rintro xs Q ⟨ns,m,rfl,hl,hm,q⟩
 refine⟨by decide,rfl,rfl,rfl,?_⟩
 refine⟨_,rfl,(m:Int),rfl,by lia,by lia,fun i ρ=>∃ (ps:List Int) (y3 y4:Option Slot),ρ = [some (.sh (flat (.scr ns)) (.scr ns)),some (.sh (flat (.int (m:Int))) (.int (m:Int))),some (.own (.lst (intz ps))),y3,y4]/\nX i ps,⟨[],none,none,rfl,rfl,by simp⟩,?_,?_⟩
 ·rintro i y ρ hy ⟨ps,y3,y4,rfl,gp⟩
  obtain ⟨rfl,hi⟩:=jU hy
  rw [aQ3] at hi
  refine iF ?_
  rw [Int.zero_add]
  refine⟨_,rfl,_,ns,2,rfl,.inl rfl,by decide,_,rfl,_,_,rfl,rfl,_,_,rfl,by lia,by lia,fun z z0=>⟨trivial,?_⟩⟩
  have tail:∀ c:Int,(gI 2 (b8 (eI (a7 (cA (a5 4) (qC (.int 3))) (a7 (bX (qC (.int 1)) (cA (a5 4) (qC (.int 9)))) (a7 (cA (a5 4) (pO (qC (.int 10)) (qC (.int 9)))) (a7 (bX (pO (qC (.int 10)) (qC (.int 20))) (cA (a5 4) (qC (.int 7)))) a9))))) (cA (gU (a5 4) (qC (.int 10))) (qC (.int 4)))))
    { nx:=fun ρ=>∃ (ps:List Int) (y3 y4:Option Slot),ρ = [some (.sh (flat (.scr ns)) (.scr ns)),some (.sh (flat (.int (m:Int))) (.int (m:Int))),some (.own (.lst (intz ps))),y3,y4]/\nX (i+1) ps,rt:=Q,ct:=fun ρ=>∃ (ps:List Int) (y3 y4:Option Slot),ρ = [some (.sh (flat (.scr ns)) (.scr ns)),some (.sh (flat (.int (m:Int))) (.int (m:Int))),some (.own (.lst (intz ps))),y3,y4]/\nX (i+1) ps,bk:=(jO 2) { nx:=fun _=>Q .non,rt:=Q } }
    [some (.sh (flat (.scr ns)) (.scr ns)),some (.sh (flat (.int (m:Int))) (.int (m:Int))),some (.own (.lst (intz ps))),si i,si c]:=fun c=>by
   have j0:0<=c / 10 % 4:=aT7 _ (by decide)
   have j1:c / 10 % 4 < 4:=ba3 _ (by decide)
   have odd:∃ p:Int,0<=p/\L2.atI [PV.int (c % 3),.int (1+c % 9),.int (c % 10 ^ (9:Int).toNat),.int (10 ^ (20:Int).toNat+c % 7)] (c / 10 % 4)=some (.int p):=by
    generalize c / 10 % 4=j at j0 j1
    have e1:0<=c % 3:=aT7 _ (by decide)
    have e2:0<=c % 9:=aT7 _ (by decide)
    have e3:0<=c % 10 ^ (9:Int).toNat:=aT7 _ (by decide)
    have e4:0<=c % 7:=aT7 _ (by decide)
    have e5:(0:Int)<=10 ^ (20:Int).toNat:=by decide
    rcases (show j=0 ∨ j=1 ∨ j=2 ∨ j=3 by lia) with rfl | rfl | rfl | rfl
    ·exact⟨_,e1,rfl⟩
    ·exact⟨_,by lia,rfl⟩
    ·exact⟨_,e3,rfl⟩
    ·exact⟨_,Int.add_nonneg e5 e4,rfl⟩
   obtain ⟨p,p0,at4⟩:=odd
   refine⟨_,rfl,_,rfl,_,_,rfl,rfl,(by show (0:Int) < 3; decide),_,rfl,_,_,rfl,rfl,(by show (0:Int) < 9; decide),_,_,rfl,rfl,_,rfl,_,_,rfl,rfl,⟨by decide,by decide,by decide⟩,_,_,rfl,rfl,(by show (0:Int) < 10 ^ (9:Int).toNat; decide),
    _,_,rfl,rfl,⟨by decide,by decide,by decide⟩,_,rfl,_,_,rfl,rfl,(by show (0:Int) < 7; decide),_,_,rfl,rfl,by show 4<=1000; decide,rfl,_,rfl,_,_,rfl,rfl,⟨by decide,by decide⟩,_,_,rfl,rfl,(by show (0:Int) < 4; decide),?_⟩
   refine⟨_,_,_,rfl,rfl,at4,trivial,by rw [bH,gp.1]; lia,ps ++ [p],si i,si c,?_,?_⟩
   ·rw [fQ]; rfl
   ·refine⟨by rw [aP7,gp.1]; rfl,fun w hw=>?_⟩
    rcases aO4.mp hw with hw | hw
    ·exact gp.2 w hw
    ·rw [aN7] at hw; lia
  refine⟨_,rfl,_,_,rfl,rfl,_,rfl,_,_,rfl,rfl,_,_,rfl,rfl,_,rfl,?_⟩
  show if decide (4+(i:Int) < (ns.length:Int))=true then _ else _
  by_cases h4:4+(i:Int) < (ns.length:Int)
  ·rw [aO2 h4]
   have hl4:4+i < ns.length:=by lia
   have ix:L2.atI (intz ns) (4+(i:Int))=some (.int ns[4+i]):=by
    have:=iN (xs:=intz ns) (j:=4+i) (v:=.int ns[4+i]) (by show (List.map PV.int ns)[_]? = _; rw [aO5,aN5 hl4]; rfl)
    exact this
   exact bW ⟨_,rfl,_,rfl,_,_,rfl,rfl,_,_,_,rfl,rfl,ix,_,_,rfl,rfl,⟨by decide,by decide⟩,_,rfl,_,ns,2,rfl,.inl rfl,by decide,_,_,rfl,rfl,trivial,tail _⟩
  ·rw [aP0 h4]
   exact bC (tail z)
 ·rintro ρ ⟨ps,y3,y4,rfl,gp⟩
  rw [gJ,aQ3] at gp
  exact⟨_,rfl,trivial,q ps gp⟩
noncomputable def kU (h:Int):List Int->List Int
 | []=>[h]
 | a :: r=>if h<=a then h :: a :: r else a :: kU h r
theorem vE (h:Int):∀ A:List Int,(kU h A).Perm (A ++ [h])
 | []=>List.Perm.refl _
 | a :: r=>by
  show (if h<=a then h :: a :: r else a :: kU h r).Perm _
  split
  ·exact List.perm_append_comm (l₁:=[h]) (l₂:=a :: r)
  ·exact (vE h r).cons a
theorem N0 (h:Int):∀ {A:List Int},A.Pairwise (· <= ·)->(kU h A).Pairwise (· <= ·)
 | [],_=>aQ1 _ _
 | a :: r,p=>by
  have p':=aV1.mp p
  show (if h<=a then h :: a :: r else a :: kU h r).Pairwise _
  split
  ·rename_i z
   exact aV1.mpr ⟨fun x hx=>by
    rcases aO7.mp hx with rfl | hx
    ·exact z
    ·exact Int.le_trans z (p'.1 x hx),p⟩
  ·rename_i z
   exact aV1.mpr ⟨fun x hx=>by
    rcases aO4.mp ((vE h r).mem_iff.mp hx) with hx | hx
    ·exact p'.1 x hx
    ·rw [aN7] at hx; lia,N0 h p'.2⟩
theorem aC3 {motive:List Int->Prop} (z:motive []) (sn:∀ L x,motive L->motive (L ++ [x])):∀ L,motive L:=fun L=>by
 have:∀ R:List Int,motive R.reverse:=by
  intro R
  induction R with
  | nil=>exact z
  | cons x r ih=>rw [List.reverse_cons]; exact sn _ _ ih
 have:=this L.reverse
 rwa [List.reverse_reverse] at this
noncomputable def cY (O:List Int):List Int:=O.foldl (fun A h=>kU h A) []
theorem aC4 (O:List Int) (h:Int):cY (O ++ [h])=kU h (cY O):=by unfold cY; rw [List.foldl_append]; rfl
theorem vF:∀ O:List Int,(cY O).Perm O/\(cY O).Pairwise (· <= ·):=by
 refine aC3 ⟨List.Perm.refl _,.nil⟩ ?_
 rintro O h ⟨i1,i2⟩
 rw [aC4]
 exact⟨(vE h _).trans (i1.append_right [h]),N0 h i2⟩
theorem N1 {O ms:List Int} (p:ms.Perm O) (s:ms.Pairwise (· <= ·)):ms=cY O:=uX (p.trans (vF O).1.symm) s (vF O).2
theorem aC5 (O:List Int):(cY O).length=O.length:=(vF O).1.length_eq
noncomputable def tE (ws:List Int) (ls:List (Int × Int)) (ns R:List Int):Prop:=M3 ws ls ns R=true/\ax0 ws ls (ns ++ R)
end Core
namespace L2
open PySem PySem.Spec PyProof.Rows PP
section
variable {prog : Program} {w : World} {A : Around} {R : Result → Shared → Prop} {I S : Addr} {n : Nat} {l : Addr} {its : Array Value} {s0 : Shared} {bt : Nat → Nat → Bool}
noncomputable abbrev at_ (s:Shared) (h:Heap) (k:Nat):Shared:={ s with heap:=h,toks:=k }
end
end L2
namespace Core
open PySem L2 PP
noncomputable def FB (L:List (List Int)) (f:List Int->Int) (r:List Int):Prop:=∃ i,L[i]? = some r/\(∀ (j:Nat) (s:List Int),j < i->L[j]? = some s->f s < f r)/\∀ s ∈ L,f s<=f r
noncomputable def dR (n:Nat) (ls:List (Int × Int)):Prop:=(∀ l ∈ ls,0<=l.1/\l.1 < l.2/\l.2 < (n:Int))/\ls.length<=1700/\ls.Pairwise iE
noncomputable def fD (S:List Int) (l:Int × Int):Bool:=decide (l.1 ∈ S) && decide (l.2 ∈ S)
structure Moved (ws os ws':List Int):Prop where
 len:ws'.length=ws.length
 at_:∀ h:Nat,h < ws.length->ws'[(os.getD h 0).toNat]? = ws[h]?
theorem aC6 {ls:List (Int × Int)} (h:ls.Pairwise iE):ls.Nodup:=h.imp fun {a b} z e=>by subst e; unfold iE at z; lia
noncomputable def vG (r c:Int) (l:Int × Int):Bool:=decide (0<=l.1) && (decide (l.1 < r) && (decide (0<=l.2) && decide (l.2 < c)))
noncomputable def aC7 (l:Int × Int):List (Int × Int):=[(l.1 - 1,l.2),(l.1,l.2 - 1),(l.1,l.2+1),(l.1+1,l.2)]
noncomputable def vH (r c:Int) (l:Int × Int):List (Int × Int):=(aC7 l).filter (vG r c)
theorem fE:∀ {l m:List Int},l.Nodup->(∀ x ∈ l,x ∈ m)->l.length<=m.length
 | [],_,_,_=>aS3 _
 | a :: r,m,nd,h=>by
  have hm:=h a aO1
  have:=fE (l:=r) (m:=m.erase a) (aV3.mp nd).2 fun x hx=>(List.mem_erase_of_ne (show x ≠ a from fun e=>(aV3.mp nd).1 (by rw [<- e]; exact hx))).mpr (h x (aO8 _ hx))
  rw [List.length_erase_of_mem hm] at this
  have:=List.length_pos_of_mem hm
  rw [aP8]; lia
section
variable {ls : List (Int × Int)} {n : Nat} {B : List Int}
noncomputable def ins (ls:List (Int × Int)) (S:List Int) (h:Int):Nat:=((aN ls h).filter fun x=>decide (x ∈ S)).length
noncomputable def Two (ls:List (Int × Int)) (S:List Int):Prop:=∀ h ∈ S,2<=ins ls S h
theorem aC8 {S:List Int}{h:Int} (nd:(aN ls h).Nodup) (t:2<=ins ls S h):∃ a b,a ∈ aN ls h/\b ∈ aN ls h/\a ∈ S/\b ∈ S/\a ≠ b:=by
 unfold ins at t
 have n2:=nd.filter (fun x=>decide (x ∈ S))
 have mem:∀ x ∈ (aN ls h).filter fun x=>decide (x ∈ S),x ∈ aN ls h/\x ∈ S:=fun x hx=>⟨(aP6.mp hx).1,aT3 (aP6.mp hx).2⟩
 cases e:(aN ls h).filter fun x=>decide (x ∈ S) with
 | nil=>rw [e] at t; simp at t
 | cons x r=>
  cases r with
  | nil=>rw [e] at t; simp at t
  | cons y z=>
   rw [e] at n2 mem
   have h1:=mem x aO1
   have h2:=mem y (aO8 _ aO1)
   exact⟨x,y,h1.1,h2.1,h1.2,h2.2,fun z=>(aV3.mp n2).1 (by rw [z]; exact aO1)⟩
end
section
variable {ls : List (Int × Int)} {B : List Int}
structure dY (ls:List (Int × Int)):Prop where
 lt:∀ l ∈ ls,l.1 < l.2
 ord:ls.Pairwise iE
theorem dY.nnd (f:dY ls) (h:Int):(aN ls h).Nodup:=K5 f.lt f.ord
theorem dY.irr (f:dY ls) (h:Int):h ∉ aN ls h:=fun z=>by
 rcases L2.cS.mp z with z | z <;> exact absurd (f.lt _ z) (Int.lt_irrefl _)
end
noncomputable def qX (d:Int):Int:=if d - 1 > 0 then d - 1 else 0
noncomputable def vI (ls:List (Int × Int)) (S:List Int):Prop:=∀ U,Two ls U->(∀ x ∈ U,x ∈ S)->U = []
theorem dR.fit {n:Nat}{ls:List (Int × Int)} (lk:dR n ls):dY ls:=⟨fun l hl=>(lk.1 l hl).2.1,lk.2.2⟩
theorem aC9 {ls:List (Int × Int)} (f:dY ls) (k:Int):(aN ls k).Pairwise (· < ·):=by
 unfold aN
 rw [List.pairwise_flatMap]
 refine⟨fun l hl=>?_,f.ord.imp_of_mem fun {l m} hl hm lt x hx y hy=>?_⟩
 ·have:=f.lt l hl
  by_cases a:l.1=k
  ·have b : ¬ l.2=k:=by lia
   rw [if_pos a,if_neg b]; exact aQ1 _ _
  ·rw [if_neg a]
   split
   ·exact aQ1 _ _
   ·exact .nil
 ·have h1:=f.lt l hl
  have h2:=f.lt m hm
  rcases L2.mT.mp hx with ⟨a,rfl⟩ | ⟨a,rfl⟩ <;> rcases L2.mT.mp hy with ⟨b,rfl⟩ | ⟨b,rfl⟩ <;> (unfold iE at lt; lia)
noncomputable def lY (L:List Int) (h:Int) (l:Int × Int):Bool:=decide (h ∈ [l.1,l.2]) && (decide (l.1 ∈ L) && decide (l.2 ∈ L))
theorem N3 {L:List Int}{h:Int} (hh:h ∈ L):∀ {ls:List (Int × Int)},(∀ l ∈ ls,l.1 ≠ l.2)->(ls.filter (lY L h)).length=ins ls L h
 | [],_=>rfl
 | l :: r,ne=>by
  have ih:=N3 hh (ls:=r) fun m hm=>ne m (aO8 _ hm)
  have e:aN (l :: r) h=((if l.1=h then [l.2] else []) ++ (if l.2=h then [l.1] else [])) ++ aN r h:=rfl
  have n0:=ne l aO1
  unfold ins at ih ⊢
  rw [e,List.filter_append,aP7,<- ih]
  by_cases a:l.1=h
  ·have b : ¬ l.2=h:=fun z=>n0 (a.trans z.symm)
   have a1:l.1 ∈ L:=by rw [a]; exact hh
   have a2:h ∈ [l.1,l.2]:=by rw [a]; exact aO1
   rw [if_pos a,if_neg b,aY9]
   by_cases c:l.2 ∈ L
   ·rw [aY7 (by unfold lY; rw [aO2 a2,aO2 a1,aO2 c]; rfl),aY7 (by simpa using c),aP8]
    show _=1+_
    lia
   ·rw [aW8 (by unfold lY; rw [aP0 c,aY3,aY3]; decide),aW8 (by simpa using c)]
    show _=0+_
    lia
  ·by_cases b:l.2=h
   ·have a1:l.2 ∈ L:=by rw [b]; exact hh
    have a2:h ∈ [l.1,l.2]:=by rw [b]; exact aO8 _ aO1
    rw [if_neg a,if_pos b,List.nil_append]
    by_cases c:l.1 ∈ L
    ·rw [aY7 (by unfold lY; rw [aO2 a2,aO2 a1,aO2 c]; rfl),aY7 (by simpa using c),aP8]
     show _=1+_
     lia
    ·rw [aW8 (by unfold lY; rw [aP0 c,aZ8,aY3]; decide),aW8 (by simpa using c)]
     show _=0+_
     lia
   ·have a2:h ∉ [l.1,l.2]:=fun z=>by
     simp only [aO7,aR1,aX3] at z
     rcases z with z | z
     ·exact a z.symm
     ·exact b z.symm
    rw [if_neg a,if_neg b,aW8 (by unfold lY; rw [aP0 a2,aZ8]; decide)]
    show _=0+_
    lia
noncomputable def keep2 (ls:List (Int × Int)) (L:List Int):List Int:=L.filter fun h=>decide (2<=ins ls L h)
end Core
namespace L2
open PySem PySem.Spec PyProof.Rows SO
noncomputable abbrev kk (l:Int × Int):List aG:=[Sum.inl l.1,Sum.inl l.2]
end L2
namespace Core
open PySem L2 PP
inductive nY (r c:Int) (S:List (Int × Int)):Int × Int->Prop
 | seed {x:Int × Int}:x ∈ S->nY r c S x
 | kin {x a b:Int × Int}:vG r c x=true->a ∈ vH r c x->b ∈ vH r c x->a ≠ b->nY r c S a->nY r c S b->nY r c S x
noncomputable def nbC (r c:Int) (P:List (Int × Int)) (x:Int × Int):Nat:=(P.filter fun p=>decide (x ∈ vH r c p)).length
structure Wk (r c:Int) (S K P:List (Int × Int)):Prop where
 nd:K.Nodup
 ndP:P.Nodup
 sub:∀ x ∈ P,x ∈ K
 brn:∀ x ∈ K,nY r c S x
 sd:∀ x ∈ S,x ∈ K
 bd:∀ x ∈ K,vG r c x=true
 low:∀ x,x ∉ K->nbC r c P x < 2
structure Bx where
 t:Int
 l:Int
 b:Int
 r:Int
deriving DecidableEq
noncomputable def Bx.k (x:Bx):List Int:=[x.t,x.l,x.b,x.r]
noncomputable def okX (x:Bx):Prop:=x.t<=x.b/\x.l<=x.r
noncomputable def N4 (x:Bx) (p:Int × Int):Prop:=x.t<=p.1/\p.1<=x.b/\x.l<=p.2/\p.2<=x.r
noncomputable def N5 (x a:Int × Int):Prop:=(a.1=x.1/\(a.2=x.2 - 1 ∨ a.2=x.2+1)) ∨ (a.2=x.2/\(a.1=x.1 - 1 ∨ a.1=x.1+1))
noncomputable def Clo (B:Bx) (U:Int × Int->Prop):Prop:=∀ x a b,N4 B x->N5 x a->N5 x b->a ≠ b->U a->U b->U x
section
variable {B : Bx} {U : Int × Int → Prop}
variable {t l b r : Int}
section
variable (cl : Clo B U) {p1 p2 : Int} (u : U (p1, p2)) (ip : N4 B (p1, p2))
include cl u ip
end
end
noncomputable abbrev bxP (x:Bx):PV:=.tup (intz x.k)
theorem N6 {i j:Nat}{a b:Int}{g:Bool}{ρ:bG}{Q:bG->Prop} (q:Q ((ρ.set i (si a)).set j (si b))):i9 i j (.tup [.int a,.int b]) g ρ Q:=by
 refine⟨_,_,rfl,?_⟩
 rw [show flat (.int a)=true from rfl,show flat (.int b)=true from rfl,Bool.or_true]
 exact q
section
variable {ns : List Int} {a r c z t l : Int} {Q : PV → Prop} (q : ∀ x : Bx, Q (bxP x))
include q
end
theorem N7 {α:Type} (p q:α->Bool):∀ l:List α,(l.filter p).length=(l.filter fun x=>p x && !q x).length+(l.filter fun x=>q x && p x).length
 | []=>rfl
 | a :: r=>by
  have ih:=N7 p q r
  rw [aX8,aX8,aX8]
  cases p a <;> cases q a <;> simp <;> lia
section
variable {ls : List (Int × Int)} {n : Nat} {U : List Int} {v : Int}
theorem aD0 (hv:v ∈ U) (ne:∀ l ∈ ls,l.1 ≠ l.2):(ls.filter (fD U)).length=(ls.filter (fD (dI U v))).length+ins ls U v:=by
 rw [<- N3 hv ne,N7 (fD U) (fun l=>decide (v ∈ [l.1,l.2])) ls]
 congr 2
 refine List.filter_congr fun l _=>?_
 unfold fD
 rw [aV2]
 simp only [aR4,Bool.not_eq_true',aX4,decide_eq_false_iff_not,kT,aO7,aR1,aX3,not_or]
 constructor
 ·rintro ⟨⟨a,b⟩,c,d⟩; exact⟨⟨a,fun z=>c z.symm⟩,b,fun z=>d z.symm⟩
 ·rintro ⟨⟨a,c⟩,b,d⟩; exact⟨⟨a,b⟩,fun z=>c z.symm,fun z=>d z.symm⟩
theorem N8 {h:Int} (x:Int) (hx:x ∈ comp ls (dI U v) h):x ∈ comp ls U h:=by
 obtain ⟨h1,h2⟩:=fR.mp hx
 exact fR.mpr ⟨(kT.mp h1).1,fun W hW hh=>h2 W (fun a ha b hb bS=>hW a ha b hb (kT.mp bS).1) hh⟩
theorem dJ {S:List Int}{h:Int}:h ∈ aR ls S ↔ h ∈ S/\(comp ls S h).head? = some h:=by
 unfold aR nV
 rw [aP6]
 exact⟨fun z=>⟨z.1,@aT3 _ _ z.2⟩,fun z=>⟨z.1,@aO2 _ _ z.2⟩⟩
theorem vJ (hU:b7 n U=true) {h:Int} (hh:h ∈ aR ls U) (ne:h ≠ v):h ∈ aR ls (dI U v):=by
 obtain ⟨h1,h2⟩:=dJ.mp hh
 have hb:h ∈ dI U v:=kT.mpr ⟨h1,ne⟩
 refine dJ.mpr ⟨hb,vB (fS (qV hU)) (eQ hb) fun x hx=>?_⟩
 have:=(iG (fS hU) h2).2 x (N8 x hx)
 lia
theorem qY (hU:b7 n U=true):(aR ls U).Nodup:=by
 have:U.Nodup:=(fP (fB hU).1).imp fun h=>aX5 h
 exact this.filter _
theorem aD1 (f:dY ls) (hU:b7 n U=true) (hv:v ∈ U):(aR ls U).length<=(aR ls (dI U v)).length+(if ins ls U v=0 then 1 else 0):=by
 have nd:=qY (ls:=ls) hU
 by_cases hh:v ∈ aR ls U
 ·by_cases i0:ins ls U v=0
  ·rw [if_pos i0]
   have:=fE nd (m:=v :: aR ls (dI U v)) fun x hx=>by
    by_cases e:x=v
    ·rw [e]; exact aO1
    ·exact aO8 _ (vJ hU hx e)
   rw [aP8] at this
   exact this
  ·rw [if_neg i0]
   obtain ⟨w,hw⟩:∃ w,w ∈ (aN ls v).filter fun x=>decide (x ∈ U):=by
    cases e:(aN ls v).filter fun x=>decide (x ∈ U) with
    | nil=>exact absurd (show ins ls U v=0 by unfold ins; rw [e]; rfl) i0
    | cons a r=>exact⟨a,aO1⟩
   obtain ⟨w1,w2⟩:=aP6.mp hw
   have w2:w ∈ U:=aT3 w2
   have wv:w ≠ v:=fun e=>f.irr v (e ▸ w1)
   have wb:w ∈ dI U v:=kT.mpr ⟨w2,wv⟩
   have cs:=fS (ls:=ls) (h:=w) (qV (h:=v) hU)
   obtain ⟨a,ha⟩:∃ a,(comp ls (dI U v) w).head? = some a:=by
    cases e:comp ls (dI U v) w with
    | nil=>have:=eQ (ls:=ls) wb; rw [e] at this; cases this
    | cons a r=>exact⟨a,rfl⟩
   have am:=(iG cs ha).1
   have ab:=nU a am
   have ahd:a ∈ aR ls (dI U v):=dJ.mpr ⟨ab,by rw [jD (qV hU) am wb]; exact ha⟩
   have wc:w ∈ comp ls U v:=gL v (eQ hv) w w1 w2
   have ac:a ∈ comp ls U v:=by rw [<- jD hU wc hv]; exact N8 a am
   have an:a ∉ aR ls U:=fun z=>by
    have h1:=(dJ.mp z).2
    rw [jD hU ac hv,(dJ.mp hh).2] at h1
    exact (kT.mp ab).2 (aQ5 h1).symm
   have nd2:(a :: (aR ls U).erase v).Nodup:=aV3.mpr ⟨fun z=>an (List.mem_of_mem_erase z),nd.erase v⟩
   have:=fE nd2 (m:=aR ls (dI U v)) fun x hx=>by
    rcases aO7.mp hx with rfl | hx
    ·exact ahd
    ·have h2:=(nd.mem_erase_iff).mp hx
     exact vJ hU h2.2 h2.1
   rw [aP8,List.length_erase_of_mem hh] at this
   have:=List.length_pos_of_mem hh
   lia
 ·have:=fE nd (m:=aR ls (dI U v)) fun x hx=>vJ hU hx fun e=>hh (e ▸ hx)
  lia
noncomputable def mu (ls:List (Int × Int)) (U:List Int):Int:=((ls.filter (fD U)).length:Int) - (U.length:Int)+((aR ls U).length:Int)
theorem N9 (nd:U.Nodup) (hv:v ∈ U):(dI U v).length+1=U.length:=by
 have e:dI U v=U.erase v:=by
  unfold dI
  rw [nd.erase_eq_filter]
  refine List.filter_congr fun x _=>?_
  by_cases h:x=v <;> simp [h]
 rw [e,List.length_erase_of_mem hv]
 have:=List.length_pos_of_mem hv
 lia
theorem aD2 (f:dY ls) (hU:b7 n U=true) (hv:v ∈ U):mu ls U<=mu ls (dI U v)+qX (ins ls U v:Int):=by
 have a:=aD0 hv (fun l hl=>aX5 (f.lt l hl))
 have b:=aD1 f hU hv
 have c:=N9 ((fP (fB hU).1).imp fun h=>aX5 h) hv
 unfold mu qX
 by_cases i0:ins ls U v=0
 ·rw [if_pos i0] at b
  rw [if_neg (by lia)]; lia
 ·rw [if_neg i0] at b
  by_cases i1:(ins ls U v:Int) - 1 > 0
  ·rw [if_pos i1]; lia
  ·rw [if_neg i1]; lia
theorem vK (f:dY ls):∀ (k:Nat) (T:List Int),T.length<=k->b7 n T=true->vI ls T->mu ls T<=0
 | 0,T,hl,_,_=>by
  have:T = []:=List.length_eq_zero_iff.mp (by lia)
  subst this
  have:ls.filter (fD []) = []:=List.filter_eq_nil_iff.mpr fun l _=>by simp [fD]
  unfold mu
  rw [this]
  show (0:Int) - 0+((([]:List Int).filter _).length:Int)<=0
  simp
 | k+1,T,hl,hT,no=>by
  by_cases e:T = []
  ·exact vK f k T (by rw [e]; simp) hT no
  ·obtain ⟨v,hv,hi⟩:∃ v,v ∈ T/\ins ls T v < 2:=aU1 fun z=>e (no T (fun h hh=>aZ4 fun q=>z ⟨h,hh,q⟩) fun _ h=>h)
   have nd:T.Nodup:=(fP (fB hT).1).imp fun h=>aX5 h
   have bl:=N9 nd hv
   have ih:=vK f k (dI T v) (by lia) (qV hT) fun U hU sub=>no U hU fun x hx=>(kT.mp (sub x hx)).1
   have st:=aD2 f hT hv
   have:qX (ins ls T v:Int)=0:=by unfold qX; rw [if_neg (by lia)]
   lia
end
noncomputable def lZ:bE:=fun xs Q=>∃ ws ls,xs = [bZ ws ls]/\Wb ws ls/\Q (.lst (tups (gY ls (rng ws.length))))
noncomputable def O0:aQ:=(bM (aC (qT fun _=>False) (a7 (a5 0) (a7 (aC qP (a7 (a5 0) (a7 (i8 a9) a9))) a9))))
theorem aD3:cB O0 ["web"] lZ:=by
 rintro xs Q ⟨ws,ls,rfl,wb,q⟩
 have few:=wb.few
 have e:uZ ws.length []=rng ws.length:=List.filter_eq_self.mpr fun x _=>by simp
 have rs:=aB7 ws.length
 refine⟨_,rfl,_,rfl,by show 0<=1000; decide,rfl,ws,ls,_,[],rfl,.inl rfl,by decide,by lia,ws,ls,_,uZ ws.length [],rfl,wb,.inl rfl,?_,fun _=>⟨trivial,?_⟩,fun z=>?_⟩
 ·rw [e,dP]; lia
 ·rw [e]; exact q
 ·rw [e,rs] at z; cases z
noncomputable abbrev Wys:=List (Int × List Int)
section
variable {ls : List (Int × Int)} {l : Int × Int} {n : Nat} {S U : List Int} {h x y : Int}
theorem vL:y ∈ aN (l :: ls) x ↔ y ∈ aN ls x ∨ l=(x,y) ∨ l=(y,x):=by
 rw [L2.cS,L2.cS,aO7,aO7]
 constructor
 ·rintro ((e | e) | (e | e))
  ·exact .inr (.inl e.symm)
  ·exact .inl (.inl e)
  ·exact .inr (.inr e.symm)
  ·exact .inl (.inr e)
 ·rintro ((e | e) | (e | e))
  ·exact .inl (.inr e)
  ·exact .inr (.inr e)
  ·exact .inl (.inl e.symm)
  ·exact .inr (.inl e.symm)
theorem nZ (hS:b7 n S=true) (hh:h ∈ S) (hU:dH ls S U) (hu:h ∈ U) (le:∀ x ∈ U,x ∈ S->h<=x):h ∈ aR ls S:=
 dJ.mpr ⟨hh,vB (fS hS) (eQ hh) fun x hx=>le x ((fR.mp hx).2 U hU hu) (nU x hx)⟩
theorem vM (hS:b7 n S=true) (hh:h ∈ aR ls S) (no:h ∉ aR (l :: ls) S):fD S l=true/\(l.1 ∈ comp ls S h ∨ l.2 ∈ comp ls S h):=by
 obtain ⟨h1,h2⟩:=dJ.mp hh
 have le:=(iG (fS hS) h2).2
 refine aU1 fun hn=>no (nZ hS h1 (U:=comp ls S h) (fun x hx y hy yS=>?_) (eQ h1) fun x hx _=>by have:=le x hx; lia)
 rcases vL.mp hy with e | e | e
 ·exact gL x hx y e yS
 ·refine absurd ⟨?_,.inl (by rw [e]; exact hx)⟩ hn
  unfold fD; rw [e,aR4]; exact⟨aO2 (nU x hx),aO2 yS⟩
 ·refine absurd ⟨?_,.inr (by rw [e]; exact hx)⟩ hn
  unfold fD; rw [e,aR4]; exact⟨aO2 yS,aO2 (nU x hx)⟩
theorem qZ (hS:b7 n S=true) {a b z:Int} (ha:a ∈ aR ls S) (hb:b ∈ aR ls S) (za:z ∈ comp ls S a) (zb:z ∈ comp ls S b):a=b:=by
 obtain ⟨a1,a2⟩:=dJ.mp ha
 obtain ⟨b1,b2⟩:=dJ.mp hb
 rw [<- jD hS za a1] at a2
 rw [<- jD hS zb b1,a2] at b2
 exact aQ5 b2
theorem O1 (hS:b7 n S=true) {a b:Int} (ha:a ∈ aR ls S) (hb:b ∈ aR ls S) (la:l.1 ∈ comp ls S a) (lb:l.2 ∈ comp ls S b) (lt:a<=b):a ∈ aR (l :: ls) S:=by
 obtain ⟨a1,a2⟩:=dJ.mp ha
 obtain ⟨b1,b2⟩:=dJ.mp hb
 have lea:=(iG (fS hS) a2).2
 have leb:=(iG (fS hS) b2).2
 refine nZ hS a1 (U:=comp ls S a ++ comp ls S b) (fun x hx y hy yS=>?_) (aO4.mpr (.inl (eQ a1))) fun x hx _=>?_
 ·rcases vL.mp hy with e | e | e
  ·rcases aO4.mp hx with z | z
   ·exact aO4.mpr (.inl (gL x z y e yS))
   ·exact aO4.mpr (.inr (gL x z y e yS))
  ·rw [e] at lb; exact aO4.mpr (.inr lb)
  ·rw [e] at la; exact aO4.mpr (.inl la)
 ·rcases aO4.mp hx with z | z
  ·have:=lea x z; lia
  ·have:=leb x z; lia
theorem O3 (hS:b7 n S=true) {a b:Int} (ha:a ∈ aR ls S) (hb:b ∈ aR ls S) (la:l.1 ∈ comp ls S a) (lb:l.2 ∈ comp ls S b) (lt:b<=a):b ∈ aR (l :: ls) S:=by
 obtain ⟨a1,a2⟩:=dJ.mp ha
 obtain ⟨b1,b2⟩:=dJ.mp hb
 have lea:=(iG (fS hS) a2).2
 have leb:=(iG (fS hS) b2).2
 refine nZ hS b1 (U:=comp ls S a ++ comp ls S b) (fun x hx y hy yS=>?_) (aO4.mpr (.inr (eQ b1))) fun x hx _=>?_
 ·rcases vL.mp hy with e | e | e
  ·rcases aO4.mp hx with z | z
   ·exact aO4.mpr (.inl (gL x z y e yS))
   ·exact aO4.mpr (.inr (gL x z y e yS))
  ·rw [e] at lb; exact aO4.mpr (.inr lb)
  ·rw [e] at la; exact aO4.mpr (.inl la)
 ·rcases aO4.mp hx with z | z
  ·have:=lea x z; lia
  ·have:=leb x z; lia
theorem aD4 (hS:b7 n S=true) {a b:Int} (ha:a ∈ aR ls S) (na:a ∉ aR (l :: ls) S) (hb:b ∈ aR ls S) (nb:b ∉ aR (l :: ls) S):a=b:=by
 rcases (vM hS ha na).2 with la | la <;> rcases (vM hS hb nb).2 with lb | lb
 ·exact qZ hS ha hb la lb
 ·rcases Int.le_total a b with z | z
  ·exact absurd (O1 hS ha hb la lb z) na
  ·exact absurd (O3 hS ha hb la lb z) nb
 ·rcases Int.le_total a b with z | z
  ·exact absurd (O3 hS hb ha lb la z) na
  ·exact absurd (O1 hS hb ha lb la z) nb
 ·exact qZ hS ha hb la lb
theorem aD5 (hS:b7 n S=true):(aR ls S).length<=(aR (l :: ls) S).length+(if fD S l=true then 1 else 0):=by
 have nd:=qY (ls:=ls) hS
 by_cases ex:∃ a,a ∈ aR ls S/\a ∉ aR (l :: ls) S
 ·obtain ⟨a,ha,na⟩:=ex
  rw [if_pos (vM hS ha na).1]
  have:=fE nd (m:=a :: aR (l :: ls) S) fun x hx=>by
   by_cases nx:x ∈ aR (l :: ls) S
   ·exact aO8 _ nx
   ·rw [aD4 hS hx nx ha na]; exact aO1
  rwa [aP8] at this
 ·have:=fE nd (m:=aR (l :: ls) S) fun x hx=>aU1 fun z=>ex ⟨x,hx,z⟩
  lia
theorem vN (hS:b7 n S=true):S.Nodup:=(fP (fB hS).1).imp fun h=>aX5 h
theorem vO (hS:b7 n S=true):∀ ls:List (Int × Int),S.length<=(aR ls S).length+(ls.filter (fD S)).length
 | []=>by
  refine aS0 (fE (vN hS) (m:=aR [] S) fun x hx=>nZ hS hx (U:=[x]) (fun a _ b hb _=>?_) aO1 fun y hy _=>?_) (aU4 _ _)
  ·rcases L2.cS.mp hb with e | e <;> cases e
  ·rw [aN7.mp hy]; exact Int.le_refl _
 | l :: ls=>by
  have ih:=vO hS ls
  have:=aD5 (ls:=ls) (l:=l) hS
  rw [aX8]
  split <;> rename_i e
  ·rw [if_pos e] at this; rw [aP8]; lia
  ·rw [if_neg e] at this; lia
noncomputable def fF (ls:List (Int × Int)) (l:Int × Int):List (Int × Int):=ls.filter fun m=>!decide (m=l)
theorem m3 {m:Int × Int}:m ∈ fF ls l ↔ m ∈ ls/\m ≠ l:=by
 unfold fF; rw [aP6,Bool.not_eq_true',decide_eq_false_iff_not]
theorem O4:∀ {ls:List (Int × Int)},l ∈ ls->ls.Nodup->(fF ls l).length+1<=ls.length
 | m :: r,hl,nd=>by
  unfold fF
  rw [aX8]
  rcases aO7.mp hl with e | e
  ·subst e
   rw [aO2 rfl]
   have:=aS8 (fun m=>!decide (m=l)) r
   simp only [aP8,Bool.not_true,aQ2,aT8]
   lia
  ·have ih:=O4 e (aV3.mp nd).2
   unfold fF at ih
   split
   ·rw [aP8,aP8]; lia
   ·rw [aP8]; lia
theorem aD6 (t:l.1 ∈ U ↔ l.2 ∈ U) (c:dH (fF ls l) S U):dH ls S U:=fun x hx y hy yS=>by
 by_cases e:l=(x,y)
 ·rw [e] at t; exact t.mp hx
 ·by_cases e2:l=(y,x)
  ·rw [e2] at t; exact t.mpr hx
  ·refine c x hx y ?_ yS
   rcases L2.cS.mp hy with z | z
   ·exact L2.cS.mpr (.inl (m3.mpr ⟨z,fun q=>e q.symm⟩))
   ·exact L2.cS.mpr (.inr (m3.mpr ⟨z,fun q=>e2 q.symm⟩))
theorem vP (c:dH ls S U):dH (fF ls l) S U:=fun x hx y hy yS=>by
 refine c x hx y ?_ yS
 rcases L2.cS.mp hy with z | z
 ·exact L2.cS.mpr (.inl (m3.mp z).1)
 ·exact L2.cS.mpr (.inr (m3.mp z).1)
theorem aD7 (t:∀ U,dH (fF ls l) S U->(l.1 ∈ U ↔ l.2 ∈ U)):aR (fF ls l) S=aR ls S:=by
 have e:∀ h,comp (fF ls l) S h=comp ls S h:=fun h=>by
  refine List.filter_congr fun x _=>?_
  rw [aV2]
  constructor
  ·intro z; exact @aO2 _ (Classical.propDecidable _) fun U hU hh=>(@aT3 _ (Classical.propDecidable _) z) U (vP hU) hh
  ·intro z; exact @aO2 _ (Classical.propDecidable _) fun U hU hh=>(@aT3 _ (Classical.propDecidable _) z) U (aD6 (t U hU) hU) hh
 unfold aR nV
 refine List.filter_congr fun x _=>?_
 rw [e]
noncomputable def dB (n:Nat) (ls:List (Int × Int)):Prop:=ls.length+(aR ls (rng n)).length=n
theorem iH (n:Nat):b7 n (rng n)=true:=by
 have:=ay7 n fun _=>true
 rwa [List.filter_eq_self.mpr fun _ _=>rfl] at this
theorem aD8 (w:dB n ls) (nd:ls.Nodup) (hl:l ∈ ls) : ¬ ∀ U,dH (fF ls l) (rng n) U->(l.1 ∈ U ↔ l.2 ∈ U):=fun t=>by
 have h1:=vO (iH n) (fF ls l)
 rw [aD7 t,dP] at h1
 have h2:=aS8 (fD (rng n)) (fF ls l)
 have h3:=O4 hl nd
 unfold dB at w
 lia
end
noncomputable abbrev c8:=List (Int × Option Int)
noncomputable def bI (ls:List (Int × Int)) (h:Int) (e:Option Int):List Int:=(aN ls h).filter fun x=>!decide (some x=e)
theorem jV {ls:List (Int × Int)}{h x:Int}{e:Option Int}:x ∈ bI ls h e ↔ x ∈ aN ls h/\some x ≠ e:=by
 unfold bI; rw [aP6,Bool.not_eq_true',decide_eq_false_iff_not]
structure fG (n:Nat) (ls:List (Int × Int)) (P:c8) (t:Nat):Prop where
 nd:(P.map (·.1)).Nodup
 inn:∀ p ∈ P,p.1 ∈ rng n
 par:∀ (i:Nat) (h e:Int),P[i]? = some (h,some e)->∃ (j:Nat) (q:Option Int),j < i/\j < t/\P[j]? = some (e,q)/\e ∈ aN ls h
 done:∀ (i:Nat) (h:Int) (e:Option Int),i < t->P[i]? = some (h,e)->∀ x ∈ aN ls h,e=some x ∨ (x,some h) ∈ P
 root:∀ h,(h,none) ∈ P ↔ h ∈ aR ls (rng n)
structure Rt (n:Nat) (ls:List (Int × Int)) (P:c8):Prop where
 nd:(P.map (·.1)).Nodup
 mem:∀ h,h ∈ P.map (·.1) ↔ h ∈ rng n
 par:∀ (i:Nat) (h e:Int),P[i]? = some (h,some e)->∃ (j:Nat) (q:Option Int),j < i/\P[j]? = some (e,q)/\e ∈ aN ls h
 done:∀ h e,(h,e) ∈ P->∀ x ∈ aN ls h,e=some x ∨ (x,some h) ∈ P
 root:∀ h,(h,none) ∈ P ↔ h ∈ aR ls (rng n)
theorem hG {P:c8} (nd:(P.map (·.1)).Nodup) {i j:Nat}{h:Int}{e e':Option Int} (hi:P[i]? = some (h,e)) (hj:P[j]? = some (h,e')):i=j/\e=e':=by
 have h1:(P.map (·.1))[i]? = some h:=by rw [aO5,hi]; rfl
 have h2:(P.map (·.1))[j]? = some h:=by rw [aO5,hj]; rfl
 have hl:i < (P.map (·.1)).length:=(aN9.mp h1).1
 have e0:i=j:=(List.getElem?_inj hl nd).mp (h1.trans h2.symm)
 subst e0
 rw [hi] at hj
 exact⟨rfl,by cases hj; rfl⟩
theorem e9 {P:c8}{p:Int × Option Int} (h:p ∈ P):∃ i:Nat,P[i]? = some p:=aU6.mp h
theorem r6 {P:c8} (nd:(P.map (·.1)).Nodup) {h:Int}{e e':Option Int} (hi:(h,e) ∈ P) (hj:(h,e') ∈ P):e=e':=by
 obtain ⟨i,hi⟩:=e9 hi
 obtain ⟨j,hj⟩:=e9 hj
 exact (hG nd hi hj).2
section
variable {n : Nat} {ls : List (Int × Int)} {P : c8} {t : Nat}
theorem fG.root_of (B:fG n ls P t) {l:Int × Int} (lm:∀ (i:Nat) (h e:Int),P[i]? = some (h,some e)->l ≠ (h,e)/\l ≠ (e,h)):∀ (i:Nat) (x:Int) (q:Option Int),P[i]? = some (x,q)->∃ r,r ∈ aR ls (rng n)/\∀ U,dH (fF ls l) (rng n) U->(x ∈ U ↔ r ∈ U):=by
 intro i
 induction i using Nat.strongRecOn with
 | ind i ih=>
  intro x q hi
  cases q with
  | none=>exact⟨x,(B.root x).mp (aN8 hi),fun _ _=>Iff.rfl⟩
  | some e=>
   obtain ⟨j,q,ji,_,hj,ee⟩:=B.par i x e hi
   obtain ⟨r,hr,hu⟩:=ih j ji e q hj
   obtain ⟨l1,l2⟩:=lm i x e hi
   have en:e ∈ aN (fF ls l) x:=by
    rcases L2.cS.mp ee with z | z
    ·exact L2.cS.mpr (.inl (m3.mpr ⟨z,fun q=>l1 q.symm⟩))
    ·exact L2.cS.mpr (.inr (m3.mpr ⟨z,fun q=>l2 q.symm⟩))
   refine⟨r,hr,fun U hU=>(Iff.intro (fun z=>hU x z e en (B.inn _ (aN8 hj))) fun z=>hU e z x (iV en) (B.inn _ (aN8 hi))).trans (hu U hU)⟩
theorem fG.fresh (B:fG n ls P t) (w:dB n ls) (f:dY ls) {h:Int}{e:Option Int} (ht:P[t]? = some (h,e)) {c:Int} (hc:c ∈ bI ls h e):c ∉ P.map (·.1):=by
 intro hin
 obtain ⟨cn,ce⟩:=jV.mp hc
 obtain ⟨⟨c',q⟩,hm,rfl⟩:=aP4.mp hin
 obtain ⟨i,hi⟩:=e9 hm
 have hc':h ∈ aN ls c':=iV cn
 have no1:∀ (i:Nat) (g:Int),P[i]? = some (g,some c')->g ≠ h:=fun i g hg z=>by
  subst z
  exact ce (hG B.nd hg ht).2
 have no2:∀ (i:Nat) (g:Int),P[i]? = some (g,some h)->g ≠ c':=fun i g hg z=>by
  obtain ⟨j,q,_,jt,hj,_⟩:=B.par i g h hg
  have:=(hG B.nd hj ht).1
  lia
 obtain ⟨l,hl,hlc⟩:∃ l,l ∈ ls/\(l=(h,c') ∨ l=(c',h)):=by
  rcases L2.cS.mp cn with z | z
  ·exact⟨_,z,.inl rfl⟩
  ·exact⟨_,z,.inr rfl⟩
 have lm:∀ (i:Nat) (g e:Int),P[i]? = some (g,some e)->l ≠ (g,e)/\l ≠ (e,g):=fun i g e hg=>by
  constructor <;> intro z <;> rcases hlc with y | y <;> rw [z] at y <;> cases y
  ·exact no1 i _ hg rfl
  ·exact no2 i _ hg rfl
  ·exact no2 i _ hg rfl
  ·exact no1 i _ hg rfl
 obtain ⟨r1,hr1,u1⟩:=B.root_of lm i c' q hi
 obtain ⟨r2,hr2,u2⟩:=B.root_of lm t h e ht
 have hS:=iH n
 have hh:h ∈ rng n:=B.inn _ (aN8 ht)
 have cc:c' ∈ comp ls (rng n) h:=gL h (eQ hh) c' cn (B.inn _ hm)
 have k1:=(u1 _ (vP gL)).mp cc
 have k2:=(u2 _ (vP (gL (ls:=ls) (S:=rng n) (h:=h)))).mp (eQ hh)
 have e1:r1=r2:=by
  have c1:=jD hS k1 hh
  have c2:=jD hS k2 hh
  refine qZ hS hr1 hr2 (z:=r1) (eQ (dJ.mp hr1).1) ?_
  rw [c2]; exact k1
 refine aD8 w (aC6 f.ord) hl fun U hU=>?_
 have:=(u1 U hU).trans ((by rw [e1]:r1 ∈ U ↔ r2 ∈ U).trans (u2 U hU).symm)
 rcases hlc with y | y <;> rw [y]
 ·exact this.symm
 ·exact this
theorem fG.step (B:fG n ls P t) (w:dB n ls) (f:dY ls) (ir:∀ h x,x ∈ aN ls h->x ∈ rng n) {h:Int}{e:Option Int} (ht:P[t]? = some (h,e)):fG n ls (P ++ (bI ls h e).map fun c=>(c,some h)) (t+1):=by
 have tl:t < P.length:=(aN9.mp ht).1
 have km:∀ p ∈ (bI ls h e).map (fun c=>(c,some h)),∃ c ∈ bI ls h e,p=(c,some h):=fun p hp=>let ⟨c,h1,h2⟩:=aP4.mp hp; ⟨c,h1,h2.symm⟩
 refine⟨?_,fun p hp=>?_,fun i g e' hi=>?_,fun i g e' it hi x hx=>?_,fun g=>?_⟩
 ·rw [aQ0,aT6,aX6]
  have e0:(bI ls h e).map ((fun p:Int × Option Int=>p.1) ∘ fun c=>(c,some h))=bI ls h e:=List.map_id'' (fun _=>rfl) _
  rw [e0]
  exact⟨B.nd,(f.nnd h).filter _,fun a ha b hb z=>B.fresh w f ht hb (by rw [<- z]; exact ha)⟩
 ·rcases aO4.mp hp with z | z
  ·exact B.inn p z
  ·obtain ⟨c,hc,rfl⟩:=km p z
   exact ir h c (jV.mp hc).1
 ·by_cases il:i < P.length
  ·rw [aQ6 il] at hi
   obtain ⟨j,q,ji,jt,hj,en⟩:=B.par i g e' hi
   exact⟨j,q,ji,by lia,by rw [aQ6 (by lia)]; exact hj,en⟩
  ·rw [aX1 (by lia)] at hi
   obtain ⟨c,hc,z⟩:=km _ (aN8 hi)
   cases z
   exact⟨t,e,by lia,by lia,by rw [aQ6 tl]; exact ht,iV (jV.mp hc).1⟩
 ·rw [aQ6 (by lia)] at hi
  by_cases e1:i=t
  ·subst e1
   rw [ht] at hi
   cases hi
   by_cases z:some x=e
   ·exact .inl z.symm
   ·exact .inr (aO4.mpr (.inr (aP4.mpr ⟨x,jV.mpr ⟨hx,z⟩,rfl⟩)))
  ·exact (B.done i g e' (by lia) hi x hx).imp id fun z=>aO4.mpr (.inl z)
 ·rw [<- B.root g]
  refine⟨fun z=>?_,fun z=>aO4.mpr (.inl z)⟩
  rcases aO4.mp z with z | z
  ·exact z
  ·obtain ⟨c,_,z⟩:=km _ z
   cases z
theorem fG.start:fG n ls ((aR ls (rng n)).map fun h=>(h,none)) 0:=by
 have hS:=iH n
 refine⟨?_,fun p hp=>?_,fun i g e hi=>?_,fun i g e it=>absurd it (by lia),fun g=>?_⟩
 ·rw [aT6,show (aR ls (rng n)).map ((fun p:Int × Option Int=>p.1) ∘ fun h=>(h,none))=aR ls (rng n) from List.map_id'' (fun _=>rfl) _]
  exact qY hS
 ·obtain ⟨h,hh,rfl⟩:=aP4.mp hp
  exact (dJ.mp hh).1
 ·obtain ⟨h,_,z⟩:=aP4.mp (aN8 hi)
  cases z
 ·refine⟨fun z=>?_,fun z=>aP4.mpr ⟨g,z,rfl⟩⟩
  obtain ⟨h,hh,z⟩:=aP4.mp z
  cases z
  exact hh
theorem fG.len (B:fG n ls P t):P.length<=n:=by
 have:=fE B.nd (m:=rng n) fun x hx=>by
  obtain ⟨p,hp,rfl⟩:=aP4.mp hx
  exact B.inn p hp
 rwa [aN6,dP] at this
theorem fG.all (B:fG n ls P P.length):Rt n ls P:=by
 have hS:=iH n
 have par:∀ (i:Nat) (h e:Int),P[i]? = some (h,some e)->∃ (j:Nat) (q:Option Int),j < i/\P[j]? = some (e,q)/\e ∈ aN ls h:=fun i h e hi=>let ⟨j,q,a,_,b,c⟩:=B.par i h e hi; ⟨j,q,a,b,c⟩
 have done:∀ (h:Int) (e:Option Int),(h,e) ∈ P->∀ x ∈ aN ls h,e=some x ∨ (x,some h) ∈ P:=fun h e hm=>by
  obtain ⟨i,hi⟩:=e9 hm
  exact B.done i h e (aN9.mp hi).1 hi
 refine⟨B.nd,fun h=>⟨fun z=>?_,fun z=>?_⟩,par,done,B.root⟩
 ·obtain ⟨p,hp,rfl⟩:=aP4.mp z
  exact B.inn p hp
 ·have sh:dH ls (rng n) (P.map (·.1)):=fun x hx y hy _=>by
   obtain ⟨⟨x',e⟩,hp,rfl⟩:=aP4.mp hx
   rcases done x' e hp y hy with z | z
   ·subst z
    obtain ⟨i,hi⟩:=e9 hp
    obtain ⟨j,q,_,hj,_⟩:=par i x' y hi
    exact aP4.mpr ⟨_,aN8 hj,rfl⟩
   ·exact aP4.mpr ⟨_,z,rfl⟩
  obtain ⟨r,hr⟩:∃ r,(comp ls (rng n) h).head? = some r:=by
   cases e:comp ls (rng n) h with
   | nil=>have:=eQ (ls:=ls) z; rw [e] at this; cases this
   | cons a r=>exact⟨a,rfl⟩
  have rm:=(iG (fS hS) hr).1
  have rs:=jD hS rm z
  have hd:r ∈ aR ls (rng n):=dJ.mpr ⟨nU _ rm,by rw [rs]; exact hr⟩
  have hc:h ∈ comp ls (rng n) r:=by rw [rs]; exact eQ z
  exact (fR.mp hc).2 _ sh (aP4.mpr ⟨_,(B.root r).mpr hd,rfl⟩)
end
theorem dR.inr {n:Nat}{ls:List (Int × Int)} (lk:dR n ls) (x y:Int) (hy:y ∈ aN ls x):y ∈ rng n:=by
 rcases L2.cS.mp hy with z | z
 ·have:=lk.1 _ z; exact cX.mpr ⟨by dsimp only at this; lia,by dsimp only at this; lia⟩
 ·have:=lk.1 _ z; exact cX.mpr ⟨by dsimp only at this; lia,by dsimp only at this; lia⟩
theorem dR.nlen {n:Nat}{ls:List (Int × Int)} (lk:dR n ls) (x:Int):(aN ls x).length<=n:=by
 have:=fE (lk.fit.nnd x) (m:=rng n) fun y hy=>lk.inr x y hy
 rwa [dP] at this
noncomputable def r9:bE:=fun xs Q=>∃ ws ls,xs = [bZ ws ls]/\Wb ws ls/\(dB ws.length ls->Q (.bl true))/\(¬ dB ws.length ls->Q (.bl false))
noncomputable def O5:aQ:=(bM (lO (aC dF (a7 (b8 (a5 0) (qC (.int 1))) a9)) (j3 (aC gX (a7 (a5 0) a9)) (aC dF (a7 (aC lZ (a7 (a5 0) a9)) a9)))))
theorem aD9:cB O5 ["web"] r9:=by
 rintro xs Q ⟨ws,ls,rfl,wb,q1,q2⟩
 refine⟨_,rfl,_,_,_,rfl,rfl,rfl,_,_,rfl,rfl,_,rfl,ws,ls,rfl,_,rfl,ws,ls,rfl,wb,_,_,rfl,rfl,_,_,rfl,rfl,.inl ⟨_,_,rfl,rfl,trivial,?_⟩⟩
 have a:(aX ls).length=ls.length:=aN6 _
 have b:(tups (gY ls (rng ws.length))).length=(aR ls (rng ws.length)).length:=by rw [qB]; unfold gY; rw [aN6]
 show Q (.bl (decide (((aX ls).length:Int)=(ws.length:Int) - ((tups (gY ls (rng ws.length))).length:Int))))
 rw [a,b]
 by_cases w:dB ws.length ls
 ·have:=q1 w
  unfold dB at w
  rw [aO2 (by lia)]; exact this
 ·have:=q2 w
  unfold dB at w
  rw [aP0 (by lia)]; exact this
noncomputable def m5:bE:=fun xs Q=>∃ (n:Nat) (ls:List (Int × Int)) (h:Int) (e:Option Int),xs = [.lst (cO n ls),.int h,jC e]/\0<=h/\h < (n:Int)/\(aN ls h).length<=1000/\Q (.lst (intz (bI ls h e)))
noncomputable def O6:aQ:=(bM (cU (dO (b8 (a5 0) (a5 1))) [none,some 2] (bT 0) (bA (q2 vC (a5 0) (a5 1))) (a5 0)))
theorem aE0:cB O6 ["around","hearth","elder"] m5:=by
 rintro xs Q ⟨n,ls,h,e,rfl,h0,h1,hl,q⟩
 refine⟨_,rfl,_,rfl,_,_,_,rfl,rfl,uT h0 h1,intz (aN ls h),rfl,(fun z=>by cases z),by rw [bH]; lia,fun i acc=>acc=intz (((aN ls h).take i).filter fun x=>!decide (some x=e)),rfl,?_,?_⟩
 ·rintro i y acc hy rfl
  obtain ⟨x,rfl,hx⟩:=j8 hy
  have tk:=uR (p:=fun x=>!decide (some x=e)) hx
  refine⟨_,rfl,_,rfl,x,e,rfl,rfl,_,rfl,?_⟩
  by_cases z:some x=e
  ·rw [aO2 z.symm]
   refine bC ?_
   dsimp only
   rw [tk,aO2 z]; exact (aY9 _).symm ▸ rfl
  ·rw [aP0 fun y=>z y.symm]
   refine bW ⟨_,rfl,trivial,?_⟩
   dsimp only
   rw [tk,aP0 z,fQ]; rfl
 ·rintro acc rfl
  rw [bH,aR3 (aO0 _)]
  exact⟨trivial,q⟩
noncomputable def rA (p:Int × Option Int):PV:=.tup [.int p.1,jC p.2]
noncomputable def dS (P:c8):List PV:=P.map rA
theorem kW (P:c8):(dS P).length=P.length:=aN6 _
theorem O7 {P:c8}{i:Nat}{p:Int × Option Int} (h:P[i]? = some p):L2.atI (dS P) (i:Int)=some (rA p):=iN (by unfold dS; rw [aO5,h]; rfl)
noncomputable def rB:bE:=fun xs Q=>∃ ws ls,xs = [bZ ws ls]/\Wb ws ls/\dR ws.length ls/\dB ws.length ls/\∀ P,Rt ws.length ls P->Q (.lst (dS P))
noncomputable def O8:aQ:=(lH (bA (lN (a5 3) (aC dF (a7 (a5 2) a9))))
  (aE (b4 4 (b8 (b8 (a5 2) (a5 3)) (qC (.int 0))))
  (aE (tW 2 (cU (dO (aC m5 (a7 (a5 1) (a7 (a5 4) (a7 (b8 (b8 (a5 2) (a5 3)) (qC (.int 1))) a9))))) [none,some 4] (bT 0) cM (i8 (a7 (a5 0) (a7 (a5 1) a9)))))
  (b4 3 (bX (a5 3) (qC (.int 1)))))))
noncomputable def O9:aQ:=(aE (cJ (jN (bA (aC r9 (a7 (a5 0) a9)))) pP cI)
 (aE (b4 1 (aC jB (a7 (a5 0) a9)))
 (aE (dN 2 (cU (dO (aC lZ (a7 (a5 0) a9))) [none] (bT 0) cM (i8 (a7 (b8 (a5 0) (qC (.int 0))) (a7 (qC .non) a9)))))
 (aE (b4 3 (qC (.int 0)))
 (aE O8
 (jO 2))))))
section
variable {ws : List Int} {ls : List (Int × Int)} {E : gS} {s0 : Option Slot} {n : Nat}
theorem P0 (P:c8):flats (dS P)=true:=by
 induction P with
 | nil=>rfl
 | cons p P ih=>
  show (flat (rA p) && flats (dS P))=true
  rw [ih,Bool.and_true]
  obtain ⟨h,e⟩:=p
  cases e <;> rfl
theorem aE1 (n40:n<=40) (lk:dR n ls) (w:dB n ls) (k:∀ P y3 y4,Rt n ls P->E.nx [s0,some (.sh true (.lst (cO n ls))),some (.own (.lst (dS P))),y3,y4]) {y4:Option Slot} :
  O8 E [s0,some (.sh true (.lst (cO n ls))),some (.own (.lst (dS ((aR ls (rng n)).map fun h=>(h,none))))),si 0,y4]:=by
 refine⟨fun m ρ=>∃ (P:c8) (t:Nat) (y4:Option Slot),ρ = [s0,some (.sh true (.lst (cO n ls))),some (.own (.lst (dS P))),si t,y4]/\fG n ls P t/\t<=P.length/\m=n - t,⟨_,_,0,y4,rfl,fG.start,aS3 _,rfl⟩,?_⟩
 rintro m ρ ⟨P,t,y4,rfl,B,tl,rfl⟩
 have pl:=B.len
 refine⟨_,rfl,_,rfl,_,_,rfl,rfl,_,_,rfl,rfl,_,rfl,?_⟩
 rw [kW]
 by_cases lt:t < P.length
 ·rw [aO2 (by lia)]
  obtain ⟨⟨h,e⟩,ht⟩:∃ p,P[t]? = some p:=⟨_,aN5 lt⟩
  have hr:=cX.mp (B.inn _ (aN8 ht))
  dsimp only at hr
  have nl:=lk.nlen h
  refine bW ⟨_,rfl,_,rfl,_,_,_,rfl,rfl,O7 ht,_,_,_,rfl,rfl,rfl,rfl,?_⟩
  refine⟨dS P,rfl,_,rfl,_,rfl,_,rfl,_,rfl,_,_,_,rfl,rfl,O7 ht,_,_,_,rfl,rfl,rfl,n,ls,h,e,rfl,hr.1,hr.2,by lia,intz (bI ls h e),rfl,(fun z=>by cases z),?_,fun i acc=>acc=dS (((bI ls h e).take i).map fun c=>(c,some h)),rfl,?_,?_⟩
  ·rw [bH]; have:=aS8 (fun x=>!decide (some x=e)) (aN ls h); unfold bI; lia
  ·rintro i y acc hy rfl
   obtain ⟨c,rfl,hc⟩:=j8 hy
   refine⟨_,rfl,_,rfl,by show 2<=1000; decide,rfl,trivial,?_⟩
   dsimp only
   rw [aR5,hc,aQ0]
   unfold dS
   rw [aQ0]
   rfl
  ·rintro acc rfl
   rw [bH,aR3 (aO0 _)]
   have kl:(bI ls h e).length<=n:=by have:=aS8 (fun x=>!decide (some x=e)) (aN ls h); unfold bI; lia
   refine⟨_,.inr rfl,.inr (P0 _),by rw [kW,kW,aN6]; lia,_,rfl,_,_,rfl,rfl,trivial,n - (t+1),by lia,P ++ (bI ls h e).map (fun c=>(c,some h)),t+1,si h,?_,B.step w lk.fit (fun h x=>lk.inr h x) ht,by rw [aP7]; lia,rfl⟩
   unfold dS
   rw [<- aQ0]
   rfl
 ·rw [aP0 (by lia)]
  have:t=P.length:=by lia
  subst this
  exact bC (k P _ _ B.all)
end
theorem aE2:cB O9 ["web","around","pairs","turn","hearth"] rB:=by
 rintro xs Q ⟨ws,ls,rfl,wb,lk,w,q⟩
 have few:=wb.few
 have hS:=iH ws.length
 refine⟨_,rfl,ws,ls,rfl,wb,fun _=>?_,fun z=>absurd w z⟩
 refine⟨_,rfl,bC ?_⟩
 refine⟨_,rfl,ws,ls,rfl,wb,trivial,?_⟩
 refine⟨_,rfl,ws,ls,rfl,wb,tups (gY ls (rng ws.length)),rfl,(fun z=>by cases z),?_,fun i acc=>acc=dS (((aR ls (rng ws.length)).take i).map fun h=>(h,none)),rfl,?_,?_⟩
 ·rw [qB]; unfold gY; rw [aN6]
  have:=aS8 (nV ls (rng ws.length)) (rng ws.length)
  rw [dP] at this
  unfold aR; lia
 ·rintro i y acc hy rfl
  unfold tups gY at hy
  rw [aT6,aO5] at hy
  cases hz:(aR ls (rng ws.length))[i]? with
  | none=>rw [hz] at hy; cases hy
  | some h=>
   rw [hz] at hy
   cases hy
   obtain ⟨h1,h2⟩:=dJ.mp (aN8 hz)
   have h3:L2.atI (intz (comp ls (rng ws.length) h)) 0=some (.int h):=by
    cases e:comp ls (rng ws.length) h with
    | nil=>rw [e] at h2; cases h2
    | cons a r=>rw [e] at h2; cases h2; exact iN (j:=0) rfl
   refine⟨_,rfl,_,_,_,rfl,rfl,h3,by show 2<=1000; decide,rfl,trivial,?_⟩
   dsimp only
   rw [aR5,hz,aQ0]
   unfold dS
   rw [aQ0]
   rfl
 ·rintro acc rfl
  rw [show (tups (gY ls (rng ws.length))).length=(aR ls (rng ws.length)).length by rw [qB]; unfold gY; rw [aN6],aR3 (aO0 _)]
  refine⟨rfl,P0 _,trivial,?_⟩
  refine aE1 few lk w fun P y3 y4 R=>?_
  exact⟨_,rfl,trivial,q P R⟩
structure TL (k:Nat) (lks:List (Int × Int)):Prop where
 inn:∀ l ∈ lks,0<=l.1/\l.1 < l.2/\l.2 < (k:Int)
 nd:(lks.map (·.2)).Nodup
 few:lks.length<=k
theorem TL.same {k:Nat}{lks:List (Int × Int)} (h:TL k lks):TL (k+1) lks:=⟨fun l hl=>by have:=h.inn l hl; lia,h.nd,by have:=h.few; lia⟩
theorem TL.app {k:Nat}{lks:List (Int × Int)} (h:TL k lks) {e:Int} (e0:0<=e) (e1:e < (k:Int)):TL (k+1) (lks ++ [(e,(k:Int))]):=by
 refine⟨fun l hl=>?_,?_,by rw [aP7,aS2]; have:=h.few; lia⟩
 ·rcases aO4.mp hl with z | z
  ·have:=h.inn l z; lia
  ·rw [aN7.mp z]; dsimp only; lia
 ·rw [aQ0,aX6]
  refine⟨h.nd,aQ1 _ _,fun a ha b hb e=>?_⟩
  obtain ⟨l,hl,rfl⟩:=aP4.mp ha
  rw [List.map_singleton,aN7] at hb
  have:=h.inn l hl
  lia
theorem TL.snd {k:Nat}{lks:List (Int × Int)} (h:TL k lks) {a b c:Int} (ha:(a,c) ∈ lks) (hb:(b,c) ∈ lks):a=b:=by
 obtain ⟨i,hi⟩:=aU6.mp ha
 obtain ⟨j,hj⟩:=aU6.mp hb
 have h1:(lks.map (·.2))[i]? = some c:=by rw [aO5,hi]; rfl
 have h2:(lks.map (·.2))[j]? = some c:=by rw [aO5,hj]; rfl
 have:=(List.getElem?_inj (aN9.mp h1).1 h.nd).mp (h1.trans h2.symm)
 subst this
 rw [hi] at hj
 exact (bb5 (aQ5 hj)).1
theorem TL.ndl {k:Nat}{lks:List (Int × Int)} (h:TL k lks):lks.Nodup:=(aX2.mp h.nd).imp fun z e=>z (by rw [e])
structure Pl (m:Nat) (p:Int->Int):Prop where
 inn:∀ i,0<=i->i < (m:Int)->0<=p i/\p i < (m:Int)
 inj:∀ i j,0<=i->i < (m:Int)->0<=j->j < (m:Int)->p i=p j->i=j
 onto:∀ x,x ∈ rng m->∃ i,0<=i/\i < (m:Int)/\p i=x
noncomputable def eR (p:Int->Int) (l:Int × Int):Int × Int:=(min (p l.1) (p l.2),max (p l.1) (p l.2))
theorem aE3 {m:Nat}{p:Int->Int}{lks:List (Int × Int)} (P:Pl m p) (T:TL m lks):∀ l ∈ lks.map (eR p),0<=l.1/\l.1 < l.2/\l.2 < (m:Int):=by
 intro l0 hl0
 obtain ⟨l,hl,rfl⟩:=aP4.mp hl0
 have h:=T.inn l hl
 have a:=P.inn l.1 (by lia) (by lia)
 have b:=P.inn l.2 (by lia) (by lia)
 have c:p l.1 ≠ p l.2:=fun e=>by have:=P.inj _ _ (by lia) (by lia) (by lia) (by lia) e; lia
 unfold eR
 dsimp only
 lia
theorem vQ {p:Int->Int}{l:Int × Int}{x y:Int} (e:eR p l=(x,y) ∨ eR p l=(y,x)):(p l.1=x/\p l.2=y) ∨ (p l.1=y/\p l.2=x):=by
 unfold eR at e
 rcases e with e | e <;> (have e1:=(bb5 e).1; have e2:=(bb5 e).2; lia)
theorem aE4 {m:Nat}{p:Int->Int}{lks:List (Int × Int)} (P:Pl m p) (T:TL m lks):(lks.map (eR p)).Nodup:=by
 refine aX2.mpr (T.ndl.imp_of_mem fun {a b} ha hb hab e=>hab ?_)
 have h1:=T.inn a ha
 have h2:=T.inn b hb
 rcases vQ (x:=(eR p b).1) (y:=(eR p b).2) (.inl e) with ⟨c,d⟩ | ⟨c,d⟩ <;> rcases vQ (p:=p) (l:=b) (x:=(eR p b).1) (y:=(eR p b).2) (.inl rfl) with ⟨c',d'⟩ | ⟨c',d'⟩
 ·exact Prod.ext (P.inj _ _ (by lia) (by lia) (by lia) (by lia) (c.trans c'.symm)) (P.inj _ _ (by lia) (by lia) (by lia) (by lia) (d.trans d'.symm))
 ·have e1:=P.inj a.1 b.2 (by lia) (by lia) (by lia) (by lia) (c.trans d'.symm)
  have e2:=P.inj a.2 b.1 (by lia) (by lia) (by lia) (by lia) (d.trans c'.symm)
  lia
 ·have e1:=P.inj a.1 b.2 (by lia) (by lia) (by lia) (by lia) (c.trans d'.symm)
  have e2:=P.inj a.2 b.1 (by lia) (by lia) (by lia) (by lia) (d.trans c'.symm)
  lia
 ·exact Prod.ext (P.inj _ _ (by lia) (by lia) (by lia) (by lia) (c.trans c'.symm)) (P.inj _ _ (by lia) (by lia) (by lia) (by lia) (d.trans d'.symm))
theorem P3 {f:Int->Int->Prop}:∀ {U:List Int},U ≠ []->(∀ x ∈ U,∃ i,f x i)->∃ x ∈ U,∃ i,f x i/\∀ y ∈ U,∃ j,f y j/\j<=i
 | [x],_,h=>by
  obtain ⟨i,hi⟩:=h x aO1
  exact⟨x,aO1,i,hi,fun y hy=>by rw [aN7.mp hy]; exact⟨i,hi,Int.le_refl _⟩⟩
 | x :: z :: r,_,h=>by
  obtain ⟨i,hi⟩:=h x aO1
  obtain ⟨y,hy,j,hj,m⟩:=P3 (U:=z :: r) (by simp) fun y hy=>h y (aO8 _ hy)
  by_cases le:i<=j
  ·refine⟨y,aO8 _ hy,j,hj,fun w hw=>?_⟩
   rcases aO7.mp hw with e | e
   ·rw [e]; exact⟨i,hi,le⟩
   ·exact m w e
  ·refine⟨x,aO1,i,hi,fun w hw=>?_⟩
   rcases aO7.mp hw with e | e
   ·rw [e]; exact⟨i,hi,Int.le_refl _⟩
   ·obtain ⟨k,hk,kl⟩:=m w e; exact⟨k,hk,by lia⟩
theorem aE5 {m:Nat}{p:Int->Int}{lks ls:List (Int × Int)} (P:Pl m p) (T:TL m lks) (pm:ls.Perm (lks.map (eR p))) (f:dY ls):vI ls (rng m):=by
 intro U two sub
 refine aU1 fun ne=>?_
 obtain ⟨x,hx,i,⟨i0,i1,hi⟩,mx⟩:=P3 (f:=fun x i=>0<=i/\i < (m:Int)/\p i=x) ne fun x hx=>P.onto x (sub x hx)
 obtain ⟨a,b,na,nb,ua,ub,ab⟩:=aC8 (f.nnd x) (two x hx)
 have up:∀ y,y ∈ aN ls x->y ∈ U->∃ j,(j,i) ∈ lks/\p j=y:=fun y hy hu=>by
  obtain ⟨j,⟨j0,j1,hj⟩,ji⟩:=mx y hu
  obtain ⟨l,hl,e⟩:∃ l ∈ lks,eR p l=(x,y) ∨ eR p l=(y,x):=by
   rcases L2.cS.mp hy with z | z
   ·obtain ⟨l,hl,e⟩:=aP4.mp (pm.mem_iff.mp z); exact⟨l,hl,.inl e⟩
   ·obtain ⟨l,hl,e⟩:=aP4.mp (pm.mem_iff.mp z); exact⟨l,hl,.inr e⟩
  have h:=T.inn l hl
  rcases vQ e with ⟨c,d⟩ | ⟨c,d⟩
  ·have e1:=P.inj l.1 i (by lia) (by lia) i0 i1 (c.trans hi.symm)
   have e2:=P.inj l.2 j (by lia) (by lia) j0 j1 (d.trans hj.symm)
   lia
  ·have e1:=P.inj l.2 i (by lia) (by lia) i0 i1 (d.trans hi.symm)
   exact⟨l.1,by rw [<- e1]; exact hl,c⟩
 obtain ⟨j,hj,ej⟩:=up a na ua
 obtain ⟨k,hk,ek⟩:=up b nb ub
 exact ab (by rw [<- ej,<- ek,T.snd hj hk])
theorem aE6 {n:Nat}{ls:List (Int × Int)} (lk:dR n ls) (no:vI ls (rng n)):dB n ls:=by
 have h1:=vK lk.fit n (rng n) (by rw [dP]; exact aO0 _) (iH n) no
 have h2:=vO (iH n) ls
 have e:ls.filter (fD (rng n))=ls:=List.filter_eq_self.mpr fun l hl=>by
  have:=lk.1 l hl
  unfold fD
  rw [aO2 (cX.mpr ⟨by lia,by lia⟩),aO2 (cX.mpr ⟨by lia,by lia⟩)]; rfl
 unfold mu at h1
 rw [e,dP] at h1
 rw [e,dP] at h2
 unfold dB
 lia
noncomputable def rC:bE:=fun xs Q=>∃ (ns:List Int) (m:Nat) (dg:Bool),xs = [.scr ns,.int m,.bl dg]/\ns.length<=63/\m<=40/\∀ ps:List Int,ps.Perm (rng m)->Q (.lst (intz ps))
noncomputable def P4:aQ:=(aE (b4 6 (aC jE (a7 (aC fC (a7 (a5 0) (a7 (qC (.int 3)) a9))) (a7 (bX (a5 5) (qC (.int 5))) a9))))
   (aE (cJ (lI (a5 2)) (aE (b4 6 (a5 4))
    (b4 4 (gU (a5 4) (bX (a5 5) (qC (.int 1)))))) cI)
   (qO 3 (cA (a5 6) (bX (a5 5) (qC (.int 1)))) (a5 5))))
noncomputable def P5:aQ:=(aE (dN 3 (uU (a5 1)))
 (aE (b4 4 (aC fC (a7 (a5 0) (a7 (qC (.int 3)) a9))))
 (aE (cJ (bA (lO (cA (gU (aC fC (a7 (a5 0) (a7 (qC (.int 1)) a9))) (qC (.int 3))) (qC (.int 2))) (qC (.int 1)))) (aE (dN 3 (eI a9))
  (eM (jP (a5 1)) (bT 5)
   P4)) cI)
 (jO 3))))
theorem aE7 {ns:List Int}{s1 y6:Option Slot}{dg:Bool}{ps:List Int}{nb:Int}{k:Nat}{E:gS} (k40:k < 40) (hp:ps.Perm (rng k))
  (nx:∀ (ps:List Int) (nb:Int) (y6:Option Slot),ps.Perm (rng (k+1))->E.nx [some (.sh true (.scr ns)),s1,some (.sh true (.bl dg)),some (.own (.lst (intz ps))),si nb,si k,y6]) :
  P4 E [some (.sh true (.scr ns)),s1,some (.sh true (.bl dg)),some (.own (.lst (intz ps))),si nb,si k,y6]:=by
 have pl:=hp.length_eq
 rw [dP] at pl
 have fin:∀ (sp nb:Int),(qO 3 (cA (a5 6) (bX (a5 5) (qC (.int 1)))) (a5 5)) E [some (.sh true (.scr ns)),s1,some (.sh true (.bl dg)),some (.own (.lst (intz ps))),si nb,si k,si sp]:=fun sp nb=>by
  have h0:=aT7 sp (show (k:Int)+1 ≠ 0 by lia)
  have h1:=ba3 sp (show (0:Int) < (k:Int)+1 by lia)
  refine⟨intz ps,rfl,_,rfl,_,rfl,_,_,rfl,rfl,_,_,rfl,rfl,by show (0:Int) < (k:Int)+1; lia,(sp % ((k:Int)+1)).toNat,by show PV.int (sp % ((k:Int)+1))=_; rw [Int.toNat_of_nonneg h0],by rw [bH]; lia,by rw [bH]; lia,_,rfl,trivial,?_⟩
  have e:(intz ps).take (sp % ((k:Int)+1)).toNat ++ PV.int k :: (intz ps).drop (sp % ((k:Int)+1)).toNat=intz (ps.take (sp % ((k:Int)+1)).toNat ++ (k:Int) :: ps.drop (sp % ((k:Int)+1)).toNat):=by
   unfold intz; rw [aQ0,List.map_take,aS6,List.map_drop]
  have:=nx (ps.take (sp % ((k:Int)+1)).toNat ++ (k:Int) :: ps.drop (sp % ((k:Int)+1)).toNat) nb (si sp) (by
   rw [aA6]
   refine (List.perm_middle).trans ?_
   rw [List.take_append_drop]
   exact (List.Perm.cons _ hp).trans (List.perm_append_singleton _ _).symm)
  rw [<- e] at this
  exact this
 refine⟨_,rfl,_,ns,3,rfl,.inl rfl,by decide,_,rfl,_,_,rfl,rfl,_,_,rfl,by lia,by lia,fun z _=>⟨trivial,?_⟩⟩
 refine⟨_,rfl,_,rfl,?_⟩
 cases dg with
 | false=>exact bC (fin z nb)
 | true=>exact bW ⟨_,rfl,trivial,_,rfl,_,rfl,_,_,rfl,rfl,_,_,rfl,rfl,⟨by show (0:Int) < (k:Int)+1; lia,by lia⟩,trivial,fin nb _⟩
theorem P6 (n:Nat):eJ 0 n=intz (rng n):=by
 refine List.ext_getElem? fun i=>?_
 by_cases h:i < n
 ·rw [u6 h]
  unfold intz
  rw [aO5,G1 h,Int.zero_add]; rfl
 ·rw [ba4 (by rw [gJ]; lia),ba4 (by rw [bH,dP]; lia)]
theorem aE8:cB P5 ["script","many","digits","places","number","k","spot"] rC:=by
 rintro xs Q ⟨ns,m,dg,rfl,hl,m40,q⟩
 refine⟨_,rfl,m,rfl,by lia,by lia,rfl,?_,?_⟩
 ·show flats (eJ 0 (m:Int).toNat)=true
  rw [P6]; exact dW _
 rw [P6,aQ3]
 refine⟨_,rfl,_,ns,3,rfl,.inl rfl,by decide,trivial,?_⟩
 dsimp only
 generalize ns.getD (3:Int).toNat 0=nb
 refine⟨_,rfl,_,ns,1,rfl,.inl rfl,by decide,_,_,rfl,rfl,⟨by decide,by decide⟩,_,_,rfl,rfl,(by show (0:Int) < 2; decide),.inl ⟨_,_,rfl,rfl,_,rfl,?_⟩⟩
 generalize (if false=true then _ else _:Bool)=b
 cases b with
 | false=>exact bC ⟨_,rfl,trivial,q _ (List.Perm.refl _)⟩
 | true=>
  refine bW ⟨by decide,rfl,rfl,rfl,?_⟩
  refine⟨_,rfl,m,rfl,by lia,by lia,fun k ρ=>∃ (ps:List Int) (nb:Int) (y5 y6:Option Slot),ρ = [some (.sh true (.scr ns)),si m,some (.sh true (.bl dg)),some (.own (.lst (intz ps))),si nb,y5,y6]/\ps.Perm (rng k),⟨[],nb,none,none,rfl,List.Perm.refl _⟩,?_,?_⟩
  ·rintro k y ρ hy ⟨ps,nb,y5,y6,rfl,hp⟩
   obtain ⟨rfl,hk⟩:=jU hy
   have hk:k < m:=by lia
   refine iF ?_
   rw [Int.zero_add]
   exact aE7 (by lia) hp fun ps nb y6 h=>⟨ps,nb,si k,y6,rfl,h⟩
  ·rintro ρ ⟨ps,nb,y5,y6,rfl,hp⟩
   rw [gJ,aQ3] at hp
   exact⟨_,rfl,trivial,q ps hp⟩
noncomputable def P7 (mx:Int):bE:=fun xs Q=>∃ (ns:List Int) (most:Int),xs = [.scr ns,.int most]/\ns.length<=63/\0<=most/\most<=mx/\∀ (n:Nat) ws ls,(n:Int)<=most->WL n ws ls->dR n ls->dB n ls->Q (bZ ws ls)
noncomputable def P8 (R:List PV->(PV->Prop)->Prop):Prop:=∀ (ls:List (Int × Int)) (Q:PV->Prop),ls.length < 64->(∀ ls':List (Int × Int),ls'.Perm ls->(ls'.map two).Pairwise (fun u v=>HT.eS v u=false)->Q (.lst (aX ls')))->R [.lst (aX ls)] Q
theorem aE9:P8 qE:=fun ls Q few q=>by
 refine⟨ls.map two,by rw [nR],by rw [aN6]; exact few,fun y hy=>by obtain ⟨l,_,rfl⟩:=aP4.mp hy; exact List.cons_ne_nil _ _,fun Z pz so=>?_⟩
 obtain ⟨ls',rfl,pl⟩:=aw2 pz
 have:=q ls' pl so
 rw [nR] at this
 exact this
noncomputable def P9:aQ:=(aE (gI 4 (i8 (a7 (a5 9) (a7 (a5 7) a9))))
   (aE (kH 5 (a5 9) (bX (b8 (a5 5) (a5 9)) (qC (.int 1))))
   (kH 5 (a5 7) (bX (b8 (a5 5) (a5 7)) (qC (.int 1))))))
noncomputable def Q0:aQ:=(cJ (bA (qGt (cA (a5 8) (qC (.int 8))) (qC (.int 0)))) (aE (b4 9 (cA (gU (a5 8) (qC (.int 8))) (a5 7)))
   (aE (cJ (bA (lO (cA (aC fC (a7 (a5 0) (a7 (qC (.int 1)) a9))) (qC (.int 3))) (qC (.int 1)))) (b4 9 (aC kJ (a7 (qC (.int 0)) (a7 (j3 (j3 (a5 7) (qC (.int 1))) (cA (gU (a5 8) (qC (.int 8))) (qC (.int 3)))) a9)))) cI)
   P9)) cI)
noncomputable def Q2:aQ:=(aE (b4 8 (aC jE (a7 (b8 (a5 6) (a5 7)) (a7 (a5 7) a9))))
  (aE (cJ (lI (a5 3)) (b4 8 (gU (b8 (a5 6) (a5 7)) (qC (.int 64)))) cI)
  Q0))
noncomputable def Q3 (R:List PV->(PV->Prop)->Prop):aQ:=(aE (mW 4 (b4 12 (cU (dO (a5 4)) [none,none,some 10] (i9 0 1) cM (i8 (a7 (aC kI (a7 (b8 (a5 2) (a5 0)) (a7 (b8 (a5 2) (a5 1)) a9))) (a7 (aC kJ (a7 (b8 (a5 2) (a5 0)) (a7 (b8 (a5 2) (a5 1)) a9))) a9))))))
 (bM (i8 (a7 (aC iA (a7 (a5 11) a9)) (a7 (aC iA (a7 (aC R (a7 (a5 12) a9)) a9)) a9)))))
noncomputable def Q4:aQ:=(aE (b4 10 (aC rC (a7 (a5 0) (a7 (a5 2) (a7 (a5 3) a9)))))
 (aE (dN 11 (nT (eI (a7 (qC (.int 0)) a9)) (a5 2)))
 (aE (eM (jP (a5 2)) (bT 7)
  (kH 11 (b8 (a5 10) (a5 7)) (cA (b8 (a5 6) (a5 7)) (bX (b8 (a5 5) (a5 7)) (qC (.int 2))))))
 (Q3 qE))))
noncomputable def Q5:aQ:=(aE (b4 2 (aC qU (a7 (a5 0) (a7 (a5 1) a9))))
 (aE (b4 3 (lO (cA (gU (aC fC (a7 (a5 0) (a7 (qC (.int 1)) a9))) (qC (.int 8))) (qC (.int 2))) (qC (.int 1))))
 (aE (dN 4 (eI a9))
 (aE (dN 5 (nT (eI (a7 (qC (.int 0)) a9)) (a5 2)))
 (aE (dN 6 (pN (a5 0) (nB (qC (.int 4))) (nB (bX (qC (.int 4)) (a5 2)))))
 (aE (eM (pJ (aC dF (a7 (a5 6) a9)) (a5 2)) (bT 7)
  (gI 6 (aC jE (a7 (aC fC (a7 (a5 0) (a7 (qC (.int 1)) a9))) (a7 (a5 7) a9)))))
 (aE (eM (pJ (qC (.int 1)) (a5 2)) (bT 7)
  Q2)
 Q4)))))))
section
variable {ns : List Int} {m k : Nat} {dg : Bool} {cs cts : List Int} {lks : List (Int × Int)} {s1 y8 y9 y10 y11 y12 : Option Slot} {E : gS}
theorem Q6 {e nb:Int} (hc:m<=cs.length) (hk:k < m) (m40:m<=40) (T:TL k lks) (cl:cts.length=m) (nn:NN cts) (e0:0<=e) (e1:e < (k:Int)) {s0 s3 s6:Option Slot}
  (nx:∀ (lks':List (Int × Int)) (cts':List Int),TL (k+1) lks'->cts'.length=m->NN cts'->E.nx [s0,s1,si m,s3,some (.own (.lst (aX lks'))),some (.own (.lst (intz cts'))),s6,si k,si nb,si e,y10,y11,y12]) :
  P9 E [s0,s1,si m,s3,some (.own (.lst (aX lks))),some (.own (.lst (intz cts))),s6,si k,si nb,si e,y10,y11,y12]:=by
 have pl:(aX lks).length=lks.length:=aN6 _
 have fw:=T.few
 obtain ⟨j,rfl⟩:∃ j:Nat,e=j:=⟨e.toNat,by lia⟩
 refine⟨_,rfl,_,rfl,_,rfl,by show 2<=1000; decide,rfl,trivial,by rw [pl]; lia,?_⟩
 have a1:=gZ (ws:=cts) (j:=j) (by lia)
 refine⟨_,rfl,_,rfl,_,_,_,rfl,rfl,a1,_,_,rfl,rfl,_,rfl,_,rfl,j,j,rfl,?_,trivial,?_⟩
 ·rw [bH]; unfold fJ; rw [if_pos (by lia),if_pos (by lia)]; rfl
 have q1:(intz cts).set j (.int (cts.getD j 0+1))=intz (cts.set j (cts.getD j 0+1)):=(List.map_set ..).symm
 have n1:NN (cts.set j (cts.getD j 0+1)):=nn.set (by have:=nW nn j; lia) _
 dsimp only
 rw [q1]
 have l1:(cts.set j (cts.getD j 0+1)).length=m:=by rw [aR7]; exact cl
 generalize cts.set j (cts.getD j 0+1)=ct2 at n1 l1
 have a2:=gZ (ws:=ct2) (j:=k) (by lia)
 refine⟨_,rfl,_,rfl,_,_,_,rfl,rfl,a2,_,_,rfl,rfl,_,rfl,_,rfl,k,k,rfl,?_,trivial,?_⟩
 ·rw [bH]; unfold fJ; rw [if_pos (by lia),if_pos (by lia)]; rfl
 have q2:(intz ct2).set k (.int (ct2.getD k 0+1))=intz (ct2.set k (ct2.getD k 0+1)):=(List.map_set ..).symm
 have n2:NN (ct2.set k (ct2.getD k 0+1)):=n1.set (by have:=nW n1 k; lia) _
 dsimp only
 rw [q2]
 have:=nx (lks ++ [((j:Int),(k:Int))]) (ct2.set k (ct2.getD k 0+1)) (T.app e0 e1) (by rw [aR7]; exact l1) n2
 unfold aX at this ⊢
 rw [aQ0] at this
 exact this
theorem Q7 {nb:Int} (hc:m<=cs.length) (k1:1<=k) (hk:k < m) (m40:m<=40) (T:TL k lks) (cl:cts.length=m) (nn:NN cts) {s3 s6:Option Slot}
  (nx:∀ (y9:Option Slot) (lks':List (Int × Int)) (cts':List Int),TL (k+1) lks'->cts'.length=m->NN cts'->E.nx [some (.sh true (.scr ns)),s1,si m,s3,some (.own (.lst (aX lks'))),some (.own (.lst (intz cts'))),s6,si k,si nb,y9,y10,y11,y12]) :
  Q0 E [some (.sh true (.scr ns)),s1,si m,s3,some (.own (.lst (aX lks))),some (.own (.lst (intz cts))),s6,si k,si nb,y9,y10,y11,y12]:=by
 refine⟨_,rfl,_,_,rfl,rfl,(by show (0:Int) < 8; decide),_,_,rfl,rfl,_,rfl,qS ?_ (nx y9 lks cts T.same cl nn)⟩
 have e0:=aT7 (nb / 8) (show (k:Int) ≠ 0 by lia)
 have e1:=ba3 (nb / 8) (show (0:Int) < (k:Int) by lia)
 refine⟨_,rfl,_,_,rfl,rfl,⟨by decide,by decide⟩,_,rfl,_,_,rfl,rfl,(by show (0:Int) < (k:Int); lia),trivial,?_⟩
 refine⟨_,rfl,_,ns,1,rfl,.inl rfl,by decide,_,_,rfl,rfl,(by show (0:Int) < 3; decide),.inl ⟨_,_,rfl,rfl,_,rfl,qS ?_ (Q6 hc hk m40 T cl nn e0 e1 fun l c a b d=>nx _ l c a b d)⟩⟩
 refine⟨_,rfl,_,_,rfl,rfl,_,rfl,_,_,rfl,rfl,⟨by decide,by decide⟩,_,_,rfl,rfl,(by show (0:Int) < 3; decide),_,_,rfl,rfl,_,_,rfl,trivial,?_⟩
 have h0:=aT7 (nb / 8) (show (3:Int) ≠ 0 by decide)
 dsimp only
 generalize hz:(if (k:Int) - 1 - nb / 8 % 3 > 0 then (k:Int) - 1 - nb / 8 % 3 else 0)=z
 have z0:0<=z:=by rw [<- hz]; split <;> lia
 have z1:z < (k:Int):=by rw [<- hz]; split <;> lia
 exact Q6 hc hk m40 T cl nn z0 z1 fun l c a b d=>nx _ l c a b d
theorem aF0 (hc:m<=cs.length) (k1:1<=k) (hk:k < m) (m40:m<=40) (T:TL k lks) (cl:cts.length=m) (nn:NN cts)
  (nx:∀ (y8 y9:Option Slot) (lks':List (Int × Int)) (cts':List Int),TL (k+1) lks'->cts'.length=m->NN cts'->E.nx [some (.sh true (.scr ns)),s1,si m,some (.sh true (.bl dg)),some (.own (.lst (aX lks'))),some (.own (.lst (intz cts'))),some (.own (.lst (intz cs))),si k,y8,y9,y10,y11,y12]) :
  Q2 E [some (.sh true (.scr ns)),s1,si m,some (.sh true (.bl dg)),some (.own (.lst (aX lks))),some (.own (.lst (intz cts))),some (.own (.lst (intz cs))),si k,y8,y9,y10,y11,y12]:=by
 have a0:=gZ (ws:=cs) (j:=k) (by lia)
 refine⟨_,rfl,_,rfl,_,_,_,rfl,rfl,a0,_,rfl,_,_,rfl,by lia,by lia,fun z _=>⟨trivial,?_⟩⟩
 refine⟨_,rfl,_,rfl,?_⟩
 cases dg with
 | false=>exact bC (Q7 hc k1 hk m40 T cl nn fun y9 l c a b d=>nx _ y9 l c a b d)
 | true=>exact bW ⟨_,rfl,_,rfl,_,_,_,rfl,rfl,a0,_,_,rfl,rfl,⟨by decide,by decide⟩,trivial,Q7 hc k1 hk m40 T cl nn fun y9 l c a b d=>nx _ y9 l c a b d⟩
theorem Q8 {m:Nat}{ps:List Int} (hp:ps.Perm (rng m)):Pl m fun i=>ps.getD i.toNat 0:=by
 have pl:=hp.length_eq
 rw [dP] at pl
 have nd:ps.Nodup:=hp.nodup_iff.mpr (vN (iH m))
 have gt:∀ i:Int,0<=i->i < (m:Int)->ps[i.toNat]? = some (ps.getD i.toNat 0):=fun i h0 h1=>by
  rw [aO3,aN5 (by lia)]; rfl
 refine⟨fun i h0 h1=>cX.mp (hp.mem_iff.mp (aN8 (gt i h0 h1))),fun i j h0 h1 g0 g1 e=>?_,fun x hx=>?_⟩
 ·have:=(List.getElem?_inj (aN9.mp (gt i h0 h1)).1 nd).mp ((gt i h0 h1).trans (by rw [gt j g0 g1]; exact congrArg some e))
  lia
 ·obtain ⟨i,hi⟩:=aU6.mp (hp.mem_iff.mpr hx)
  have il:=(aN9.mp hi).1
  refine⟨i,by lia,by lia,?_⟩
  show ps.getD (i:Int).toNat 0=x
  rw [aQ3,aO3,hi]; rfl
theorem aF1 {R:List PV->(PV->Prop)->Prop} (hR:P8 R) {ps ws:List Int}{s0 s3 s5 s6 y7:Option Slot}{Q:PV->Prop} (m40:m<=40) (T:TL m lks) (hp:ps.Perm (rng m)) (wl:ws.length=m) (wn:NN ws) (q:∀ ls,WL m ws ls->dR m ls->dB m ls->Q (bZ ws ls)) :
  Q3 R { nx:=fun _=>Q .non,rt:=Q } [s0,s1,si m,s3,some (.own (.lst (aX lks))),s5,s6,y7,y8,y9,some (.sh true (.lst (intz ps))),some (.own (.lst (intz ws))),y12]:=by
 have P:=Q8 hp
 have pl:=hp.length_eq
 rw [dP] at pl
 have fw:=T.few
 have pgl:(aX lks).length=lks.length:=aN6 _
 refine⟨_,rfl,_,rfl,aX lks,rfl,(fun z=>by cases z),by rw [pgl]; lia,fun i acc=>acc=aX ((lks.take i).map (eR fun i=>ps.getD i.toNat 0)),rfl,?_,?_⟩
 ·rintro i y acc hy rfl
  unfold aX at hy
  rw [aO5] at hy
  cases hz:lks[i]? with
  | none=>rw [hz] at hy; cases hy
  | some l=>
   rw [hz] at hy
   cases hy
   have h:=T.inn l (aN8 hz)
   obtain ⟨a,ea⟩:∃ a:Nat,l.1=a:=⟨l.1.toNat,by lia⟩
   obtain ⟨b,eb⟩:∃ b:Nat,l.2=b:=⟨l.2.toNat,by lia⟩
   have a1:L2.atI (intz ps) l.1=some (.int (ps.getD l.1.toNat 0)):=by rw [ea,aQ3]; exact gZ (by lia)
   have a2:L2.atI (intz ps) l.2=some (.int (ps.getD l.2.toNat 0)):=by rw [eb,aQ3]; exact gZ (by lia)
   refine⟨_,_,rfl,?_⟩
   refine⟨_,rfl,_,rfl,_,_,_,rfl,rfl,a1,_,rfl,_,rfl,_,_,_,rfl,rfl,a2,_,_,rfl,_,rfl,_,rfl,_,_,_,rfl,rfl,a1,_,rfl,_,rfl,_,_,_,rfl,rfl,a2,_,_,rfl,by show 2<=1000; decide,rfl,trivial,?_⟩
   dsimp only
   rw [aR5,hz,aQ0]
   unfold aX
   rw [aQ0]
   have e1:(if ps.getD l.2.toNat 0 < ps.getD l.1.toNat 0 then ps.getD l.2.toNat 0 else ps.getD l.1.toNat 0)=min (ps.getD l.1.toNat 0) (ps.getD l.2.toNat 0):=by split <;> lia
   have e2:(if ps.getD l.2.toNat 0 > ps.getD l.1.toNat 0 then ps.getD l.2.toNat 0 else ps.getD l.1.toNat 0)=max (ps.getD l.1.toNat 0) (ps.getD l.2.toNat 0):=by split <;> lia
   show _ ++ [PV.tup [.int (if ps.getD l.2.toNat 0 < ps.getD l.1.toNat 0 then ps.getD l.2.toNat 0 else ps.getD l.1.toNat 0),.int (if ps.getD l.2.toNat 0 > ps.getD l.1.toNat 0 then ps.getD l.2.toNat 0 else ps.getD l.1.toNat 0)]]=_
   rw [e1,e2]; rfl
 ·rintro acc rfl
  rw [pgl,aR3 (aO0 _)]
  have inn:=aE3 P T
  have nd:=aE4 P T
  have ml:(lks.map (eR fun i=>ps.getD i.toNat 0)).length=lks.length:=aN6 _
  have fp:∀ ls:List (Int × Int),flats (aX ls)=true:=nN
  refine⟨trivial,?_⟩
  refine⟨_,rfl,⟨_,_,rfl,rfl,dW _,?_⟩,(fun ns e=>by cases e)⟩
  refine⟨_,rfl,?_⟩
  refine hR (lks.map (eR fun i=>ps.getD i.toNat 0)) _ (by rw [ml]; lia) (fun ls' pm so=>?_)
  have W:=WL.perm (n:=m) (ws:=ws) (by lia) inn (by rw [ml]; lia) nd wn pm so
  have lk:dR m ls':=⟨fun l hl=>W.inn l hl,W.most,W.ord⟩
  refine⟨⟨_,_,rfl,rfl,fp _,by show 2<=1000; decide,?_,trivial,?_⟩,(fun ns e=>by cases e)⟩
  ·show (flats (intz ws) && (flats (aX ls') && true))=true
   rw [dW,fp]; rfl
  ·exact q ls' W lk (aE6 lk (aE5 P T pm lk.fit))
theorem aF2 {s7:Option Slot}{Q:PV->Prop} (hn:ns.length<=63) (hc:m<=cs.length) (m40:m<=40) (T:TL m lks) (cl:cts.length=m) (nn:NN cts) (q:∀ ws ls,WL m ws ls->dR m ls->dB m ls->Q (bZ ws ls)) :
  Q4 { nx:=fun _=>Q .non,rt:=Q } [some (.sh true (.scr ns)),s1,si m,some (.sh true (.bl dg)),some (.own (.lst (aX lks))),some (.own (.lst (intz cts))),some (.own (.lst (intz cs))),s7,y8,y9,none,none,none]:=by
 refine⟨_,rfl,_,rfl,_,rfl,ns,m,dg,rfl,hn,m40,fun ps hp=>⟨trivial,?_⟩⟩
 have pl:=hp.length_eq
 rw [dP] at pl
 refine⟨by show 1<=1000; decide,rfl,_,rfl,_,_,rfl,rfl,rfl,by lia,by lia,by show 1<=10; decide,rfl,?_,?_⟩
 ·show flats (List.replicate (m:Int).toNat [PV.int 0]).flatten=true
  rw [qR]; exact dW _
 show (aE _ _) _ [_,_,_,_,_,_,_,_,_,_,_,some (Slot.own (.lst (List.replicate (m:Int).toNat [PV.int 0]).flatten)),_]
 rw [qR,aQ3]
 refine⟨_,rfl,m,rfl,by lia,by lia,fun i ρ=>∃ (ws:List Int) (y7:Option Slot),ρ = [some (.sh true (.scr ns)),s1,si m,some (.sh true (.bl dg)),some (.own (.lst (aX lks))),some (.own (.lst (intz cts))),some (.own (.lst (intz cs))),y7,y8,y9,some (.sh true (.lst (intz ps))),some (.own (.lst (intz ws))),none]/\ws.length=m/\NN ws,⟨_,s7,rfl,aW1,fun z hz=>by rw [List.eq_of_mem_replicate hz]; exact Int.le_refl 0⟩,?_,?_⟩
 ·rintro i y ρ hy ⟨ws,y7,rfl,wl,wn⟩
  obtain ⟨rfl,hi⟩:=jU hy
  have hi:i < m:=by lia
  refine iF ?_
  rw [Int.zero_add]
  have a1:=gZ (ws:=cs) (j:=i) (by lia)
  have a2:=gZ (ws:=cts) (j:=i) (by lia)
  have a3:=gZ (ws:=ps) (j:=i) (by lia)
  have p1:=nW nn i
  have pr:=(Q8 hp).inn i (by lia) (by lia)
  rw [aQ3] at pr
  obtain ⟨z,ez⟩:∃ z:Nat,ps.getD i 0=z:=⟨(ps.getD i 0).toNat,by lia⟩
  refine⟨_,rfl,_,rfl,_,_,_,rfl,rfl,a1,_,rfl,_,rfl,_,_,_,rfl,rfl,a2,_,_,rfl,rfl,_,_,rfl,rfl,by show 0 < cts.getD i 0+2; lia,_,rfl,_,rfl,_,rfl,_,_,_,rfl,rfl,a3,_,z,rfl,?_,trivial,ws.set z (cs.getD i 0 % (cts.getD i 0+2)),si i,?_,by rw [aR7]; exact wl,wn.set (aT7 _ (by lia)) _⟩
  ·rw [bH,ez]; unfold fJ; rw [if_pos (by lia),if_pos (by lia)]; rfl
  ·show _ = [_,_,_,_,_,_,_,_,_,_,_,some (Slot.own (.lst (intz (ws.set z (cs.getD i 0 % (cts.getD i 0+2)))))),_]
   have:(intz ws).set z (.int (cs.getD i 0 % (cts.getD i 0+2)))=intz (ws.set z (cs.getD i 0 % (cts.getD i 0+2))):=(List.map_set ..).symm
   rw [<- this]; rfl
 ·rintro ρ ⟨ws,y7,rfl,wl,wn⟩
  exact aF1 aE9 m40 T hp wl wn fun ls a b c=>q ws ls a b c
end
theorem aF3 {mx:Int} (mx40:mx<=40):cB Q5 ["script","most","many","digits","links","counts","cells","k","number","elder","places","wants","pairs"] (P7 mx):=by
 rintro xs Q ⟨ns,most,rfl,hl,h0,h1,q⟩
 refine⟨_,rfl,_,rfl,ns,most,rfl,h0,fun z z0 z1=>⟨trivial,?_⟩⟩
 obtain ⟨m,rfl⟩:∃ m:Nat,z=m:=⟨z.toNat,by lia⟩
 refine⟨_,rfl,_,ns,1,rfl,.inl rfl,by decide,_,_,rfl,rfl,⟨by decide,by decide⟩,_,_,rfl,rfl,(by show (0:Int) < 2; decide),.inl ⟨_,_,rfl,rfl,trivial,?_⟩⟩
 generalize (if false=true then !decide (ns.getD (1:Int).toNat 0 / 8 % 2=1) else decide (ns.getD (1:Int).toNat 0 / 8 % 2=1))=dg
 refine⟨by decide,rfl,rfl,rfl,?_⟩
 refine⟨by show 1<=1000; decide,rfl,_,rfl,_,_,rfl,rfl,rfl,by lia,by lia,by show 1<=10; decide,rfl,?_,?_⟩
 ·show flats (List.replicate (m:Int).toNat [PV.int 0]).flatten=true
  rw [qR]; exact dW _
 show (aE _ _) _ [_,_,_,_,_,some (Slot.own (.lst (List.replicate (m:Int).toNat [PV.int 0]).flatten)),_,_,_,_,_,_,_]
 rw [qR,aQ3]
 obtain ⟨zs,ez,zl⟩:=aB5 ns (some 4) (some (4+(m:Int)))
 refine⟨_,rfl,_,rfl,_,rfl,_,_,rfl,rfl,_,rfl,_,rfl,dW _,rfl,?_,?_⟩
 ·show flats (gT (intz ns) (some 4) (some (4+(m:Int))))=true
  rw [ez]; exact dW _
 show (aE _ _) _ [_,_,_,_,_,_,some (Slot.own (.lst (gT (intz ns) (some 4) (some (4+(m:Int)))))),_,_,_,_,_,_]
 rw [ez]
 refine⟨_,rfl,_,_,rfl,rfl,_,rfl,(zs.length:Int),(m:Int),by rw [bH],rfl,⟨by lia,by lia,by lia,by lia⟩,fun i ρ=>∃ (cs:List Int) (y7:Option Slot),ρ = [some (.sh true (.scr ns)),si most,si m,some (.sh true (.bl dg)),some (.own (.lst (aX []))),some (.own (.lst (intz (List.replicate m 0)))),some (.own (.lst (intz cs))),y7,none,none,none,none,none]/\cs.length=zs.length+i,⟨zs,none,rfl,rfl⟩,?_,?_⟩
 ·rintro i y ρ hy ⟨cs,y7,rfl,cl⟩
  obtain ⟨rfl,hi⟩:=jU hy
  refine iF ?_
  refine⟨_,rfl,_,rfl,_,ns,1,rfl,.inl rfl,by decide,_,rfl,_,_,rfl,by lia,by lia,fun z _=>⟨trivial,by rw [bH]; lia,cs ++ [z],_,by rw [fQ]; rfl,by rw [aP7,cl]; rfl⟩⟩
 rintro ρ ⟨cs,y7,rfl,cl⟩
 rw [gJ] at cl
 have hc:m<=cs.length:=by lia
 refine⟨_,rfl,(1:Int),(m:Int),rfl,rfl,⟨by lia,by lia,by lia,by lia⟩,fun i ρ=>∃ (lks:List (Int × Int)) (cts:List Int) (y7 y8 y9:Option Slot),ρ = [some (.sh true (.scr ns)),si most,si m,some (.sh true (.bl dg)),some (.own (.lst (aX lks))),some (.own (.lst (intz cts))),some (.own (.lst (intz cs))),y7,y8,y9,none,none,none]/\TL (i+1) lks/\cts.length=m/\NN cts,⟨[],_,y7,none,none,rfl,⟨(fun l hl=>by cases hl),aY4,aS3 _⟩,aW1,fun z hz=>by rw [List.eq_of_mem_replicate hz]; exact Int.le_refl 0⟩,?_,?_⟩
 ·rintro i y ρ hy ⟨lks,cts,y7,y8,y9,rfl,T,cl,nn⟩
  obtain ⟨rfl,hi⟩:=jU hy
  refine iF ?_
  rw [show (1:Int)+(i:Int)=((i+1:Nat):Int) by lia]
  exact aF0 hc (by lia) (by lia) (by lia) T cl nn fun y8 y9 l c a b d=>⟨l,c,si ((i+1:Nat):Int),y8,y9,rfl,a,b,d⟩
 ·rintro ρ ⟨lks,cts,y7,y8,y9,rfl,T,cl,nn⟩
  rw [gJ] at T
  have T':TL m lks:=by
   by_cases m0:m=0
   ·subst m0
    have e:lks = []:=by
     cases lks with
     | nil=>rfl
     | cons l r=>have:=T.inn l aO1; lia
    subst e
    exact⟨(fun l hl=>by cases hl),aY4,aS3 _⟩
   ·rwa [show ((m:Int) - 1).toNat+1=m by lia] at T
  exact aF2 hl hc (by lia) T' cl nn fun ws ls a b c=>q m ws ls z1 a b c
noncomputable abbrev vR:=List (Int × List Int)
noncomputable def Q9 (W:vR):List Int:=W.map (·.1)
section
variable {ws : List Int} {n : Nat} {ls : List (Int × Int)} {P : c8} {W T : vR} {D B : List Int} {h x y c : Int} {e : Option Int}
theorem Rt.kid (R:Rt n ls P) (f:dY ls) (hp:(h,e) ∈ P):c ∈ bI ls h e ↔ (c,some h) ∈ P:=by
 constructor
 ·intro z
  obtain ⟨z1,z2⟩:=jV.mp z
  exact (R.done h e hp c z1).resolve_left fun q=>z2 q.symm
 ·intro z
  obtain ⟨i,hi⟩:=e9 z
  obtain ⟨j,q,ji,hj,hn⟩:=R.par i c h hi
  refine jV.mpr ⟨iV hn,fun ec=>?_⟩
  rw [<- ec] at hp
  obtain ⟨i2,hi2⟩:=e9 hp
  obtain ⟨j2,q2,ji2,hj2,_⟩:=R.par i2 h c hi2
  have e1:=(hG R.nd hj2 hi).1
  have e2:=(hG R.nd hj hi2).1
  lia
structure mP (P:c8) (W:vR) (D:List Int) (x:Int) (B:List Int):Prop where
 self:x ∈ B
 nd:B.Nodup
 up:∀ y ∈ B,y=x ∨ (y ∈ Q9 W/\∃ e,(y,some e) ∈ P/\e ∈ B)
 dn:∀ y ∈ B,∀ c,(c,some y) ∈ P->c ∈ Q9 W->c ∈ B
 inn:∀ y ∈ B,y ∈ D
end
noncomputable abbrev rD:bE:=P7 40
noncomputable abbrev R3:aQ:=Q5
theorem aF4:cB R3 ["script","most","many","digits","links","counts","cells","k","number","elder","places","wants","pairs"] rD:=aF3 (by decide)
noncomputable abbrev dL:=List (Int × Int)
noncomputable def cP (bl:dL):List Int:=bl.map fun p=>p.2 - p.1
noncomputable def hJ (w p:Int) (bl:dL):Int:=(bl.map (·.1)).sum+(if w<=(bl.length:Int) then min p ((cY (cP bl)).take w.toNat).sum else p)
noncomputable def g9 (w p:Int) (bl:dL):Int × Int:=(hJ (max 0 (w - 1)) p bl,hJ w p bl)
noncomputable def rE:bE:=fun xs Q=>∃ w:Int,xs = [.int w]/\Q (.int (max 0 (w - 1)))
noncomputable def R4:aQ:=(bM (aC kJ (a7 (qC (.int 0)) (a7 (j3 (a5 0) (qC (.int 1))) a9))))
theorem aF5:cB R4 ["want"] rE:=by
 rintro xs Q ⟨w,rfl,q⟩
 refine⟨_,rfl,_,_,rfl,rfl,_,_,rfl,trivial,?_⟩
 have e:(if w - 1 > 0 then w - 1 else 0)=max 0 (w - 1):=by split <;> lia
 show Q (.int (if w - 1 > 0 then w - 1 else 0))
 rw [e]; exact q
noncomputable def o0:bE:=fun xs Q=>∃ (w p:Int) (bl:dL),xs = [.int w,.int p,.lst (aX bl)]/\0<=w/\bl.length < 64/\Q (.int (hJ w p bl))
noncomputable def R5:aQ:=(aE (b4 3 (aC pH (a7 (cU (dO (a5 2)) [none,none] (i9 0 1) cM (j3 (a5 1) (a5 0))) a9)))
 (aE (b4 4 (a5 1))
 (aE (cJ (bA (C3 (aC dF (a7 (a5 3) a9)) (a5 0))) (b4 4 (aC kI (a7 (a5 1) (a7 (aC kS (a7 (pN (a5 3) uB (nB (a5 0))) a9)) a9)))) cI)
 (bM (bX (aC kS (a7 (cU (dO (a5 2)) [none,none] (i9 0 1) cM (a5 0)) a9)) (a5 4))))))
section
variable {w p d : Int} {bl : dL} {Q : PV → Prop} {s0 s1 s3 : Option Slot}
theorem R6 {g:Bool} (hl:bl.length < 64) (q:Q (.int ((bl.map (·.1)).sum+d))) :
  (bM (bX (aC kS (a7 (cU (dO (a5 2)) [none,none] (i9 0 1) cM (a5 0)) a9)) (a5 4))) { nx:=fun _=>Q .non,rt:=Q } [s0,s1,some (.sh g (.lst (aX bl))),s3,si d]:=by
 refine⟨_,rfl,aX bl,rfl,(fun z=>by cases g <;> cases z),by rw [iD]; lia,fun i acc=>acc=intz ((bl.take i).map (·.1)),rfl,?_,?_⟩
 ·rintro i y acc hy rfl
  obtain ⟨r,rfl,hr⟩:=qF hy
  refine N6 ?_
  refine⟨_,rfl,trivial,?_⟩
  dsimp only
  rw [aR5,hr,aQ0,fQ]; rfl
 ·rintro acc rfl
  rw [iD,aR3 (aO0 _)]
  exact⟨_,_,rfl,rfl,_,rfl,_,_,rfl,rfl,trivial,q⟩
end
theorem aF6:cB R5 ["want","price","below","gaps","dearer"] o0:=by
 rintro xs Q ⟨w,p,bl,rfl,w0,hl,q⟩
 refine⟨_,rfl,aX bl,rfl,(fun z=>by cases z),by rw [iD]; lia,fun i acc=>acc=intz (cP (bl.take i)),rfl,?_,?_⟩
 ·rintro i y acc hy rfl
  obtain ⟨r,rfl,hr⟩:=qF hy
  refine N6 ?_
  refine⟨_,rfl,_,rfl,_,_,rfl,rfl,trivial,?_⟩
  dsimp only
  unfold cP
  rw [aR5,hr,aQ0,fQ]; rfl
 rintro acc rfl
 rw [iD,aR3 (aO0 _)]
 have gl:(cP bl).length=bl.length:=aN6 _
 refine⟨cP bl,rfl,by lia,fun ms pm so=>⟨trivial,?_⟩⟩
 cases N1 pm so
 have sl:=pm.length_eq
 refine⟨_,rfl,trivial,?_⟩
 refine⟨_,rfl,_,_,rfl,rfl,_,rfl,_,_,rfl,rfl,_,rfl,?_⟩
 rw [bH]
 unfold hJ at q
 by_cases c:w<=(bl.length:Int)
 ·rw [if_pos c] at q
  rw [aO2 (by lia)]
  refine bW ⟨_,rfl,_,rfl,_,rfl,_,rfl,intz (cY (cP bl)),rfl,dW _,_,(cY (cP bl)).take w.toNat,rfl,?_,_,_,rfl,trivial,?_⟩
  ·show some (gT (intz (cY (cP bl))) none (some w))=_
   rw [K4 w0]; unfold intz; rw [List.map_take]
  ·have e:(if ((cY (cP bl)).take w.toNat).sum < p then ((cY (cP bl)).take w.toNat).sum else p)=min p ((cY (cP bl)).take w.toNat).sum:=by split <;> lia
   dsimp only
   rw [e]
   exact R6 hl q
 ·rw [if_neg c] at q
  rw [aP0 (by lia)]
  exact bC (R6 hl q)
noncomputable def rF:bE:=fun xs Q=>∃ (w p:Int) (bl:dL),xs = [.int w,.int p,.lst (aX bl)]/\0<=w/\bl.length < 64/\Q (.tup [.int (g9 w p bl).1,.int (g9 w p bl).2])
noncomputable def R7:aQ:=(bM (i8 (a7 (aC o0 (a7 (aC rE (a7 (a5 0) a9)) (a7 (a5 1) (a7 (a5 2) a9)))) (a7 (aC o0 (a7 (a5 0) (a7 (a5 1) (a7 (a5 2) a9)))) a9))))
theorem aF7:cB R7 ["want","price","below"] rF:=by
 rintro xs Q ⟨w,p,bl,rfl,w0,hl,q⟩
 exact⟨_,rfl,w,rfl,_,rfl,_,rfl,_,p,bl,rfl,by lia,hl,_,rfl,_,rfl,_,rfl,w,p,bl,rfl,w0,hl,by show 2<=1000; decide,rfl,trivial,q⟩
noncomputable def bD (L:dL) (h:Int):Int × Int:=L.getD h.toNat (0,0)
noncomputable def o4 (ws ps:List Int) (ls:List (Int × Int)) (L:dL) (h:Int) (e:Option Int):Prop:=bD L h=g9 (ws.getD h.toNat 0) (ps.getD h.toNat 0) ((bI ls h e).map (bD L))
noncomputable def rG (ws ps:List Int) (ls:List (Int × Int)) (P:c8) (L:dL):Prop:=L.length=ws.length/\∀ h e,(h,e) ∈ P->o4 ws ps ls L h e
noncomputable def o5:bE:=fun xs Q=>∃ ws ls x ps,xs = [bZ ws ls,x]/\Wb ws ls/\dR ws.length ls/\dB ws.length ls/\NN ws/\dQ x ps/\nX ws.length ps/\∀ P L,Rt ws.length ls P->rG ws ps ls P L->Q (.tup (aX L))
noncomputable def R8:aQ:=(aE (b4 8 (cU (dO (aC m5 (a7 (a5 4) (a7 (a5 6) (a7 (a5 7) a9))))) [none,some 5] (bT 0) cM (b8 (a5 1) (a5 0))))
  (kH 5 (a5 6) (aC rF (a7 (b8 (b8 (a5 0) (qC (.int 0))) (a5 6)) (a7 (b8 (a5 3) (a5 6)) (a7 (a5 8) a9))))))
noncomputable def R9:aQ:=(aE (b4 2 (aC rB (a7 (a5 0) a9)))
 (aE (b4 3 (aC qL (a7 (a5 1) (a7 (aC gX (a7 (a5 0) a9)) a9))))
 (aE (b4 4 (aC jB (a7 (a5 0) a9)))
 (aE (dN 5 (nT (eI (a7 (i8 (a7 (qC (.int 0)) (a7 (qC (.int 0)) a9))) a9)) (aC gX (a7 (a5 0) a9))))
 (aE (eM (vD (a5 2)) (i9 6 7)
  R8)
 (bM (aC iA (a7 (a5 5) a9))))))))
theorem vS {L:dL}{h:Int} (h0:0<=h) (h1:h < (L.length:Int)):L2.atI (aX L) h=some (.tup [.int (bD L h).1,.int (bD L h).2]):=by
 obtain ⟨j,rfl⟩:∃ j:Nat,h=j:=⟨h.toNat,by lia⟩
 refine iN ?_
 unfold aX bD
 rw [aQ3,aO5,aO3,aN5 (by lia)]; rfl
theorem S0 {ns:List Int}{h:Int} (h0:0<=h) (h1:h < (ns.length:Int)):L2.atI (intz ns) h=some (.int (ns.getD h.toNat 0)):=by
 obtain ⟨j,rfl⟩:∃ j:Nat,h=j:=⟨h.toNat,by lia⟩
 rw [aQ3]; exact gZ (by lia)
theorem S2 {L:dL}{h x:Int}{v:Int × Int} (h0:0<=h) (x0:0<=x) (ne:x ≠ h):bD (L.set h.toNat v) x=bD L x:=by
 unfold bD
 rw [aO3,aO3,aR0 (by lia)]
theorem aF8 {L:dL}{h:Int}{v:Int × Int} (h0:0<=h) (h1:h < (L.length:Int)):bD (L.set h.toNat v) h=v:=by
 unfold bD
 rw [aO3,aT2 (by lia)]; rfl
section
variable {ws ps : List Int} {ls : List (Int × Int)} {P : c8} {L : dL} {h : Int} {e : Option Int} {E : gS} {s1 s2 y8 : Option Slot}
theorem aF9 (lk:dR ws.length ls) (n40:ws.length<=40) (nn:NN ws) (pl:ps.length=ws.length) (ll:L.length=ws.length) (hr:h ∈ rng ws.length)
  (nx:∀ y8,E.nx [some (.sh true (bZ ws ls)),s1,s2,some (.sh true (.tup (intz ps))),some (.sh true (.lst (cO ws.length ls))),some (.own (.lst (aX (L.set h.toNat (g9 (ws.getD h.toNat 0) (ps.getD h.toNat 0) ((bI ls h e).map (bD L))))))),si h,some (.sh true (jC e)),y8]) :
  R8 E [some (.sh true (bZ ws ls)),s1,s2,some (.sh true (.tup (intz ps))),some (.sh true (.lst (cO ws.length ls))),some (.own (.lst (aX L))),si h,some (.sh true (jC e)),y8]:=by
 have hm:=cX.mp hr
 have nl:=lk.nlen h
 have kl:(bI ls h e).length<=ws.length:=by have:=aS8 (fun x=>!decide (some x=e)) (aN ls h); unfold bI; lia
 refine⟨_,rfl,_,rfl,_,rfl,ws.length,ls,h,e,rfl,hm.1,hm.2,by lia,intz (bI ls h e),rfl,(fun z=>by cases z),by rw [bH]; lia,fun i acc=>acc=aX (((bI ls h e).take i).map (bD L)),rfl,?_,?_⟩
 ·rintro i y acc hy rfl
  obtain ⟨c,rfl,hc⟩:=j8 hy
  have cr:=cX.mp (lk.inr h c (jV.mp (aN8 hc)).1)
  refine⟨_,rfl,_,rfl,_,_,_,rfl,rfl,vS cr.1 (by lia),rfl,?_⟩
  dsimp only
  unfold aX
  rw [aR5,hc,aQ0,aQ0]; rfl
 ·rintro acc rfl
  rw [bH,aR3 (aO0 _)]
  have wp:0<=ws.getD h.toNat 0:=nW nn _
  refine⟨trivial,?_⟩
  refine⟨_,rfl,_,_,_,rfl,rfl,rfl,_,rfl,_,_,_,rfl,rfl,S0 hm.1 hm.2,_,rfl,_,rfl,_,_,_,rfl,rfl,S0 hm.1 (by lia),_,rfl,_,_,(bI ls h e).map (bD L),rfl,wp,by rw [aN6]; lia,aX L,rfl,_,rfl,h,h.toNat,rfl,?_,trivial,?_⟩
  ·rw [iD]; unfold fJ; rw [if_pos (by lia),if_pos (by lia)]
  ·have:=nx (some (.sh true (.lst (aX ((bI ls h e).map (bD L))))))
   have q:aX (L.set h.toNat (g9 (ws.getD h.toNat 0) (ps.getD h.toNat 0) ((bI ls h e).map (bD L))))=(aX L).set h.toNat (.tup [.int (g9 (ws.getD h.toNat 0) (ps.getD h.toNat 0) ((bI ls h e).map (bD L))).1,.int (g9 (ws.getD h.toNat 0) (ps.getD h.toNat 0) ((bI ls h e).map (bD L))).2]):=by unfold aX; rw [List.map_set]
   rw [q] at this
   exact this
end
structure hV (P:c8) (i:Nat) (D:List Int):Prop where
 mem:∀ y,y ∈ D ↔ ∃ (j:Nat) (q:Option Int),P[j]? = some (y,q)/\P.length<=j+i
theorem hV.nil {P:c8}:hV P 0 []:=⟨fun y=>⟨(fun z=>by cases z),fun ⟨j,q,hj,hl⟩=>by have:=(aN9.mp hj).1; lia⟩⟩
theorem hV.next {P:c8}{i:Nat}{D:List Int}{h:Int}{e:Option Int} (S:hV P i D) (il:i < P.length) (hk:P[P.length - 1 - i]? = some (h,e)):hV P (i+1) (h :: D):=⟨fun y=>by
 constructor
 ·intro z
  rcases aO7.mp z with z | z
  ·rw [z]; exact⟨_,e,hk,by lia⟩
  ·obtain ⟨j,q,hj,hl⟩:=(S.mem y).mp z
   exact⟨j,q,hj,by lia⟩
 ·rintro ⟨j,q,hj,hl⟩
  by_cases ej:j=P.length - 1 - i
  ·subst ej
   rw [hk] at hj
   cases hj
   exact aO1
  ·exact aO8 _ ((S.mem y).mpr ⟨j,q,hj,by lia⟩)⟩
theorem hV.notin {n:Nat}{ls:List (Int × Int)}{P:c8}{i:Nat}{D:List Int}{h:Int}{e:Option Int} (S:hV P i D) (R:Rt n ls P) (il:i < P.length) (hk:P[P.length - 1 - i]? = some (h,e)):h ∉ D:=fun z=>by
 obtain ⟨j,q,hj,hl⟩:=(S.mem h).mp z
 have:=(hG R.nd hj hk).1
 lia
theorem hV.elder {n:Nat}{ls:List (Int × Int)}{P:c8}{i:Nat}{D:List Int}{h:Int}{e:Option Int} (S:hV P i D) (R:Rt n ls P) (il:i < P.length) (hk:P[P.length - 1 - i]? = some (h,e)):∀ y ∈ D,(h,some y) ∉ P:=fun y hy z=>by
 obtain ⟨j,q,hj,hl⟩:=(S.mem y).mp hy
 cases r6 R.nd z (aN8 hk)
 obtain ⟨j',q',jk,hj',_⟩:=R.par _ h y hk
 have:=(hG R.nd hj hj').1
 lia
theorem aG0 {n:Nat}{ls:List (Int × Int)}{P:c8} (R:Rt n ls P):P.length<=n:=by
 have:=fE R.nd (m:=rng n) fun x hx=>(R.mem x).mp hx
 rwa [aN6,dP] at this
theorem aG1 {P:c8}{i:Nat}{y:PV} (hy:(dS P).reverse[i]? = some y):i < P.length/\∃ h e,P[P.length - 1 - i]? = some (h,e)/\y=rA (h,e):=by
 have il:i < P.length:=by have:=(aN9.mp hy).1; rwa [List.length_reverse,kW] at this
 rw [List.getElem?_reverse (by rw [kW]; exact il),kW] at hy
 unfold dS at hy
 rw [aO5] at hy
 obtain ⟨⟨h,e⟩,hk⟩:∃ p,P[P.length - 1 - i]? = some p:=⟨_,aN5 (by lia)⟩
 rw [hk] at hy
 cases hy
 exact⟨il,h,e,hk,rfl⟩
theorem S3 (n:Nat) (a b:Int):(List.replicate n [PV.tup [.int a,.int b]]).flatten=aX (List.replicate n (a,b)):=by
 induction n with
 | zero=>rfl
 | succ n ih=>rw [aR8,aW0,ih,aR8]; rfl
theorem aG2:cB R9 ["web","prices","pairs","known","around","ledger","hearth","elder","below"] o5:=by
 rintro xs Q ⟨ws,ls,x,ps,rfl,wb,lk,w,nn,hx,⟨gl,gn⟩,q⟩
 have few:=wb.few
 refine⟨_,rfl,ws,ls,rfl,wb,lk,w,fun P R=>⟨trivial,?_⟩⟩
 have pl:=aG0 R
 refine⟨_,rfl,_,rfl,ws,ls,rfl,x,ps,ws.length,rfl,hx,gl,by lia,gn,trivial,?_⟩
 refine⟨_,rfl,ws,ls,rfl,wb,trivial,?_⟩
 refine⟨by show 2<=1000; decide,rfl,by show 1<=1000; decide,rfl,_,rfl,ws,ls,rfl,_,_,rfl,rfl,rfl,by lia,by lia,by show 1<=10; decide,rfl,?_,?_⟩
 ·show flats (List.replicate (ws.length:Int).toNat [PV.tup [.int 0,.int 0]]).flatten=true
  rw [S3]; exact nN _
 show (aE _ _) _ [some (Slot.sh (flat (bZ ws ls)) (bZ ws ls)),some (Slot.sh (flat x) x),_,_,_,some (Slot.own (.lst (List.replicate (ws.length:Int).toNat [PV.tup [.int 0,.int 0]]).flatten)),_,_,_]
 rw [S3,aQ3,at9]
 refine⟨_,rfl,dS P,rfl,(fun z=>by cases z),fun i ρ=>∃ (L:dL) (D:List Int) (y6 y7 y8:Option Slot),ρ = [some (.sh true (bZ ws ls)),some (Slot.sh (flat x) x),some (.sh true (.lst (dS P))),some (.sh true (.tup (intz ps))),some (.sh true (.lst (cO ws.length ls))),some (.own (.lst (aX L))),y6,y7,y8]/\L.length=ws.length/\hV P i D/\∀ h e,(h,e) ∈ P->h ∈ D->o4 ws ps ls L h e,⟨_,[],none,none,none,rfl,aW1,hV.nil,fun _ _ _ z=>by cases z⟩,?_,?_⟩
 ·rintro i y ρ hy ⟨L,D,y6,y7,y8,rfl,ll,S,ok⟩
  obtain ⟨il,h,e,hk,rfl⟩:=aG1 hy
  have hp:=aN8 hk
  have hr:=(R.mem h).mp (aP4.mpr ⟨_,hp,rfl⟩)
  have hm:=cX.mp hr
  refine⟨_,_,rfl,?_⟩
  refine aF9 lk few nn gl ll hr fun y8=>⟨_,h :: D,_,_,y8,rfl,by rw [aR7]; exact ll,S.next il hk,fun g e' hg gd=>?_⟩
  have hD:=S.notin R il hk
  have kid:∀ c ∈ bI ls g e',c ≠ h/\0<=c:=fun c hc=>by
   have cp:=(R.kid lk.fit hg).mp hc
   have cr:=cX.mp ((R.mem c).mp (aP4.mpr ⟨_,cp,rfl⟩))
   refine⟨fun z=>?_,cr.1⟩
   subst z
   rcases aO7.mp gd with z | z
   ·subst z
    exact lk.fit.irr g (jV.mp hc).1
   ·exact S.elder R il hk g z cp
  unfold o4
  rw [List.map_congr_left (g:=bD L) fun c hc=>S2 hm.1 (kid c hc).2 (kid c hc).1]
  rcases aO7.mp gd with z | z
  ·subst z
   cases r6 R.nd hg hp
   rw [aF8 hm.1 (by lia)]
  ·have gr:=cX.mp ((R.mem g).mp (aP4.mpr ⟨_,hg,rfl⟩))
   rw [S2 hm.1 gr.1 fun z'=>hD (by rw [<- z']; exact z)]
   exact ok g e' hg z
 ·rintro ρ ⟨L,D,y6,y7,y8,rfl,ll,S,ok⟩
  refine⟨_,rfl,⟨_,_,rfl,rfl,nN _,trivial,q P L R ⟨ll,fun h e he=>ok h e he ?_⟩⟩,fun ns z=>by cases z⟩
  rw [List.length_reverse,kW] at S
  obtain ⟨j,hj⟩:=e9 he
  exact (S.mem h).mpr ⟨j,e,hj,by lia⟩
section
variable {n : Nat} {ls : List (Int × Int)} {P P' : c8}
theorem Rt.pair (R:Rt n ls P) {h:Int} (hh:h ∈ rng n):∃ e,(h,e) ∈ P:=by
 obtain ⟨⟨h',e⟩,hp,rfl⟩:=aP4.mp ((R.mem h).mpr hh)
 exact⟨e,hp⟩
theorem Rt.inr (R:Rt n ls P) {h:Int}{e:Option Int} (hp:(h,e) ∈ P):h ∈ rng n:=(R.mem h).mp (aP4.mpr ⟨_,hp,rfl⟩)
theorem S4 (R:Rt n ls P) (R':Rt n ls P'):∀ (i:Nat) (h:Int) (e':Option Int),P'[i]? = some (h,e')->(h,e') ∈ P:=by
 intro i
 induction i using Nat.strongRecOn with
 | ind i ih=>
  intro h e' hi
  cases e' with
  | none=>exact (R.root h).mpr ((R'.root h).mp (aN8 hi))
  | some g=>
   obtain ⟨j,q,ji,hj,gn⟩:=R'.par i h g hi
   obtain ⟨e,he⟩:=R.pair (R'.inr (aN8 hi))
   rcases R.done h e he g gn with z | z
   ·rw [<- z]; exact he
   ·have:=r6 R.nd (ih j ji g q hj) z
    subst this
    obtain ⟨k,q2,kj,hk,_⟩:=R'.par j g h hj
    have:=(hG R'.nd hk hi).1
    lia
theorem S5 (R:Rt n ls P) (R':Rt n ls P') {h:Int}{e:Option Int}:(h,e) ∈ P ↔ (h,e) ∈ P':=by
 constructor
 ·intro z; obtain ⟨i,hi⟩:=e9 z; exact S4 R' R i h e hi
 ·intro z; obtain ⟨i,hi⟩:=e9 z; exact S4 R R' i h e hi
theorem Rt.leaf (R:Rt n ls P) (f:dY ls) {C:Int->Option Int->Prop} (step:∀ h e,(h,e) ∈ P->(∀ c ∈ bI ls h e,C c (some h))->C h e):∀ h e,(h,e) ∈ P->C h e:=by
 have key:∀ (k i:Nat) (h:Int) (e:Option Int),i+k=P.length->P[i]? = some (h,e)->C h e:=by
  intro k
  induction k using Nat.strongRecOn with
  | ind k ih=>
   intro i h e ik hi
   refine step h e (aN8 hi) fun c hc=>?_
   obtain ⟨j,hj⟩:=e9 ((R.kid f (aN8 hi)).mp hc)
   obtain ⟨i',q,ij,hi',_⟩:=R.par j c h hj
   have:=(hG R.nd hi' hi).1
   have jl:=(aN9.mp hj).1
   exact ih (P.length - j) (by lia) j c (some h) (by lia) hj
 intro h e hp
 obtain ⟨i,hi⟩:=e9 hp
 have il:=(aN9.mp hi).1
 exact key (P.length - i) i h e (by lia) hi
theorem aG3 {ws ps:List Int}{L L':dL} (R:Rt ws.length ls P) (R':Rt ws.length ls P') (f:dY ls) (k:rG ws ps ls P L) (k':rG ws ps ls P' L'):L=L':=by
 have same:∀ h e,(h,e) ∈ P->bD L h=bD L' h:=R.leaf f (C:=fun h _=>bD L h=bD L' h) fun h e hp ih=>by
  have a:=k.2 h e hp
  have b:=k'.2 h e ((S5 R R').mp hp)
  unfold o4 at a b
  rw [a,b,List.map_congr_left fun c hc=>ih c hc]
 refine List.ext_getElem? fun i=>?_
 by_cases hi:i < ws.length
 ·obtain ⟨e,he⟩:=R.pair (h:=(i:Int)) (cX.mpr ⟨by lia,by lia⟩)
  have:=same _ e he
  unfold bD at this
  rw [aQ3,aO3,aO3,aN5 (by rw [k.1]; exact hi),aN5 (by rw [k'.1]; exact hi)] at this
  rw [aN5 (by rw [k.1]; exact hi),aN5 (by rw [k'.1]; exact hi)]
  exact congrArg some this
 ·rw [ba4 (by rw [k.1]; lia),ba4 (by rw [k'.1]; lia)]
noncomputable def jW:Int × Option Int->Option (Int × Int)
 | (_,none)=>none
 | (h,some g)=>some (min h g,max h g)
theorem vT:∀ P:c8,P.length=(P.filterMap jW).length+(P.filter fun p=>p.2.isNone).length
 | []=>rfl
 | (h,none) :: P=>by
  have ih:=vT P
  rw [List.filterMap_cons_none (f:=jW) (a:=(h,none)) rfl,aY7 rfl,aP8,aP8]; lia
 | (h,some g) :: P=>by
  have ih:=vT P
  rw [List.filterMap_cons_some (f:=jW) (a:=(h,some g)) (b:=(min h g,max h g)) rfl,aW8 (by simp),aP8,aP8]; lia
theorem S6 {P:c8}{l:Int × Int}:l ∈ P.filterMap jW ↔ ∃ h g,(h,some g) ∈ P/\l=(min h g,max h g):=by
 rw [aZ6]
 constructor
 ·rintro ⟨⟨h,e⟩,hp,z⟩
  cases e with
  | none=>cases z
  | some g=>exact⟨h,g,hp,(aQ5 z).symm⟩
 ·rintro ⟨h,g,hp,rfl⟩
  exact⟨_,hp,rfl⟩
theorem Rt.of_tree (w:dB n ls) (f:dY ls) (nd:(P.map (·.1)).Nodup) (mem:∀ h,h ∈ P.map (·.1) ↔ h ∈ rng n) (par:∀ (i:Nat) (h e:Int),P[i]? = some (h,some e)->∃ (j:Nat) (q:Option Int),j < i/\P[j]? = some (e,q)/\e ∈ aN ls h)
  (root:∀ h,(h,none) ∈ P->h ∈ aR ls (rng n)):Rt n ls P:=by
 have hS:=iH n
 have inr:∀ {h e},(h,e) ∈ P->h ∈ rng n:=fun {h e} hp=>(mem h).mp (aP4.mpr ⟨_,hp,rfl⟩)
 have conn:∀ (i:Nat) (h:Int) (e:Option Int),P[i]? = some (h,e)->∃ r,(r,none) ∈ P/\h ∈ comp ls (rng n) r:=by
  intro i
  induction i using Nat.strongRecOn with
  | ind i ih=>
   intro h e hi
   cases e with
   | none=>exact⟨h,aN8 hi,eQ (inr (aN8 hi))⟩
   | some g=>
    obtain ⟨j,q,ji,hj,gn⟩:=par i h g hi
    obtain ⟨r,hr,hc⟩:=ih j ji g q hj
    exact⟨r,hr,gL g hc h (iV gn) (inr (aN8 hi))⟩
 have rt:∀ h,(h,none) ∈ P ↔ h ∈ aR ls (rng n):=fun h=>⟨root h,fun hh=>by
  obtain ⟨⟨h',e⟩,hp,rfl⟩:=aP4.mp ((mem h).mpr (dJ.mp hh).1)
  obtain ⟨i,hi⟩:=e9 hp
  obtain ⟨r,hr,hc⟩:=conn i _ _ hi
  have:=qZ hS hh (root r hr) (z:=h') (eQ (dJ.mp hh).1) hc
  dsimp only at this ⊢
  rw [this]; exact hr⟩
 have order:∀ h g,(h,some g) ∈ P->(g,some h) ∈ P->False:=fun h g a b=>by
  obtain ⟨i,hi⟩:=e9 a
  obtain ⟨j,hj⟩:=e9 b
  obtain ⟨i',q,l1,hi',_⟩:=par i h g hi
  obtain ⟨j',q',l2,hj',_⟩:=par j g h hj
  have e1:=(hG nd hi' hj).1
  have e2:=(hG nd hj' hi).1
  lia
 have tsub:∀ l ∈ P.filterMap jW,l ∈ ls:=fun l hl=>by
  obtain ⟨h,g,hp,rfl⟩:=S6.mp hl
  obtain ⟨i,hi⟩:=e9 hp
  obtain ⟨_,_,_,_,gn⟩:=par i h g hi
  rcases L2.cS.mp gn with z | z
  ·have:=f.lt _ z
   dsimp only at this
   rw [show min h g=h by lia,show max h g=g by lia]; exact z
  ·have:=f.lt _ z
   dsimp only at this
   rw [show min h g=g by lia,show max h g=h by lia]; exact z
 have pnd:P.Nodup:=(aX2.mp nd).imp fun z e=>z (by rw [e])
 have tnd:(P.filterMap jW).Nodup:=by
  refine List.Pairwise.filterMap jW (R:=fun p q:Int × Option Int=>p ∈ P/\q ∈ P/\p.1 ≠ q.1) (fun p q hpq l hl l' hl' e=>?_) ?_
  ·obtain ⟨hp,hq,ne⟩:=hpq
   obtain ⟨h,a⟩:=p
   obtain ⟨g,b⟩:=q
   cases a with
   | none=>cases hl
   | some a=>
    cases b with
    | none=>cases hl'
    | some b=>
     cases hl
     cases hl'
     have e1:=(bb5 e).1
     have e2:=(bb5 e).2
     dsimp only at ne
     have x1:a=g:=by lia
     have x2:b=h:=by lia
     subst x1 x2
     exact order _ _ hp hq
  ·exact (aX2.mp nd).imp_of_mem fun {a b} ha hb z=>⟨ha,hb,z⟩
 have hl:(P.filter fun p=>p.2.isNone).length=(aR ls (rng n)).length:=by
  have a:((P.filter fun p=>p.2.isNone).map (·.1)).Nodup:=(List.Pairwise.sublist (List.filter_sublist.map _) nd)
  have m:∀ h,h ∈ (P.filter fun p=>p.2.isNone).map (·.1) ↔ h ∈ aR ls (rng n):=fun h=>by
   rw [<- rt h,aP4]
   constructor
   ·rintro ⟨⟨h',e⟩,hp,rfl⟩
    obtain ⟨h1,h2⟩:=aP6.mp hp
    cases e with
    | none=>exact h1
    | some _=>cases h2
   ·intro z; exact⟨_,aP6.mpr ⟨z,rfl⟩,rfl⟩
  have l1:=fE a fun x hx=>(m x).mp hx
  have l2:=fE (qY (ls:=ls) hS) fun x hx=>(m x).mpr hx
  rw [aN6] at l1 l2
  lia
 have pl:P.length=n:=by
  have l1:=fE nd (m:=rng n) fun x hx=>(mem x).mp hx
  have l2:=fE (vN hS) fun x hx=>(mem x).mpr hx
  rw [aN6,dP] at l1 l2
  lia
 have all:∀ l ∈ ls,l ∈ P.filterMap jW:=fun l hl'=>aU1 fun no=>by
  have l1:=(aV3.mpr ⟨no,tnd⟩).length_le_of_subset (l₂:=ls) fun x hx=>(aO7.mp hx).elim (fun z=>z ▸ hl') (tsub x)
  have:=vT P
  unfold dB at w
  rw [aP8] at l1
  lia
 refine⟨nd,mem,par,fun h e hp x hx=>?_,rt⟩
 have key:∀ l,l ∈ ls->(l=(h,x) ∨ l=(x,h))->e=some x ∨ (x,some h) ∈ P:=fun l hl' hlx=>by
  obtain ⟨a,b,hab,e1⟩:=S6.mp (all l hl')
  have lt:=f.lt l hl'
  have c:(a=h/\b=x) ∨ (a=x/\b=h):=by
   rcases hlx with z | z <;> rw [z] at e1 lt <;> (have e2:=(bb5 e1).1; have e3:=(bb5 e1).2; dsimp only at lt; lia)
  rcases c with ⟨rfl,rfl⟩ | ⟨rfl,rfl⟩
  ·exact .inl (r6 nd hp hab)
  ·exact .inr hab
 rcases L2.cS.mp hx with z | z
 ·exact key _ z (.inl rfl)
 ·exact key _ z (.inr rfl)
end
noncomputable def cQ (els:List (Option Int)):List PV:=els.map jC
noncomputable def cR (els:List (Option Int)) (h:Int):Option Int:=els.getD h.toNat none
structure EI (n:Nat) (ls:List (Int × Int)) (O:List Int) (els:List (Option Int)):Prop where
 nd:O.Nodup
 inn:∀ x ∈ O,x ∈ rng n
 len:els.length=n
 par:∀ (i:Nat) (h g:Int),O[i]? = some h->cR els h=some g->∃ j:Nat,j < i/\O[j]? = some g/\g ∈ aN ls h
 root:∀ h ∈ O,cR els h=none->h ∈ aR ls (rng n)
 out:∀ h ∈ rng n,h ∉ O->cR els h=none
section
variable {n : Nat} {ls : List (Int × Int)} {O : List Int} {els : List (Option Int)} {x g : Int}
theorem aG4 (h0:0<=x) {y:Int} (y0:0<=y) (ne:y ≠ x) {v:Option Int}:cR (els.set x.toNat v) y=cR els y:=by
 unfold cR
 rw [aO3,aO3,aR0 (by lia)]
theorem aG5 (h0:0<=x) (h1:x < (els.length:Int)) {v:Option Int}:cR (els.set x.toNat v) x=v:=by
 unfold cR
 rw [aO3,aT2 (by lia)]; rfl
theorem EI.put (e:EI n ls O els) (hx:x ∉ O) (xr:x ∈ rng n) (hg:g ∈ O) (gn:g ∈ aN ls x):EI n ls (O ++ [x]) (els.set x.toNat (some g)):=by
 have xm:=cX.mp xr
 have ps:∀ y ∈ rng n,y ≠ x->cR (els.set x.toNat (some g)) y=cR els y:=fun y hy ne=>aG4 xm.1 (cX.mp hy).1 ne
 have self:cR (els.set x.toNat (some g)) x=some g:=aG5 xm.1 (by rw [e.len]; exact xm.2)
 refine⟨aX6.mpr ⟨e.nd,aQ1 _ _,fun a ha b hb z=>hx (by rw [<- aN7.mp hb,<- z]; exact ha)⟩,fun y hy=>?_,by rw [aR7]; exact e.len,fun i h g' hi hel=>?_,fun h hh hel=>?_,fun h hr hh=>?_⟩
 ·rcases aO4.mp hy with z | z
  ·exact e.inn y z
  ·rw [aN7.mp z]; exact xr
 ·by_cases il:i < O.length
  ·rw [aQ6 il] at hi
   have hm:=aN8 hi
   rw [ps h (e.inn h hm) fun z=>hx (z ▸ hm)] at hel
   obtain ⟨j,ji,hj,gn⟩:=e.par i h g' hi hel
   exact⟨j,ji,by rw [aQ6 (by lia)]; exact hj,gn⟩
  ·rw [aX1 (by lia)] at hi
   have:h=x:=aN7.mp (aN8 hi)
   subst this
   rw [self] at hel
   cases hel
   obtain ⟨j,hj⟩:=aU6.mp hg
   have jl:=(aN9.mp hj).1
   exact⟨j,by lia,by rw [aQ6 jl]; exact hj,gn⟩
 ·rcases aO4.mp hh with z | z
  ·rw [ps h (e.inn h z) fun q=>hx (q ▸ z)] at hel
   exact e.root h z hel
  ·rw [aN7.mp z,self] at hel; cases hel
 ·rw [ps h hr fun z=>hh (by rw [z]; exact aQ4 _ (aY6 _))]
  exact e.out h hr fun z=>hh (aQ9 _ z)
theorem EI.rt (e:EI n ls O els) (hx:x ∉ O) (xh:x ∈ aR ls (rng n)):EI n ls (O ++ [x]) els:=by
 have xr:=(dJ.mp xh).1
 refine⟨aX6.mpr ⟨e.nd,aQ1 _ _,fun a ha b hb z=>hx (by rw [<- aN7.mp hb,<- z]; exact ha)⟩,fun y hy=>?_,e.len,fun i h g' hi hel=>?_,fun h hh hel=>?_,fun h hr hh=>e.out h hr fun z=>hh (aQ9 _ z)⟩
 ·rcases aO4.mp hy with z | z
  ·exact e.inn y z
  ·rw [aN7.mp z]; exact xr
 ·by_cases il:i < O.length
  ·rw [aQ6 il] at hi
   obtain ⟨j,ji,hj,gn⟩:=e.par i h g' hi hel
   exact⟨j,ji,by rw [aQ6 (by lia)]; exact hj,gn⟩
  ·rw [aX1 (by lia)] at hi
   have:h=x:=aN7.mp (aN8 hi)
   subst this
   rw [e.out h xr hx] at hel; cases hel
 ·rcases aO4.mp hh with z | z
  ·exact e.root h z hel
  ·rw [aN7.mp z]; exact xh
theorem EI.le (e:EI n ls O els):O.length<=n:=by
 have:=fE e.nd (m:=rng n) e.inn
 rwa [dP] at this
theorem EI.head (e:EI n ls O els) (sh:dH ls (rng n) O) (hx:x ∉ O) (xr:x ∈ rng n) (low:∀ y ∈ rng n,y < x->y ∈ O):x ∈ aR ls (rng n):=by
 refine nZ (iH n) xr (U:=(rng n).filter fun y=>!decide (y ∈ O)) (fun a ha b hb br=>?_) (aP6.mpr ⟨xr,by rw [aP0 hx]; rfl⟩) fun y hy yr=>?_
 ·obtain ⟨a1,a2⟩:=aP6.mp ha
  refine aP6.mpr ⟨br,?_⟩
  have:b ∉ O:=fun z=>by
   have:=sh b z a (iV hb) a1
   rw [aO2 this] at a2; cases a2
  rw [aP0 this]; rfl
 ·have y2:=(aP6.mp hy).2
  refine aU1 fun no=>?_
  rw [aO2 (low y yr (by lia))] at y2; cases y2
noncomputable def jF (O:List Int) (els:List (Option Int)):c8:=O.map fun h=>(h,cR els h)
theorem EI.all (e:EI n ls O els) (w:dB n ls) (f:dY ls) (all:∀ y ∈ rng n,y ∈ O):Rt n ls (jF O els):=by
 have m1:(jF O els).map (·.1)=O:=by unfold jF; rw [aT6]; exact List.map_id'' (fun _=>rfl) _
 have at_:∀ (i:Nat) (h:Int) (q:Option Int),(jF O els)[i]? = some (h,q) ↔ O[i]? = some h/\q=cR els h:=fun i h q=>by
  unfold jF
  rw [aO5]
  cases z:O[i]? with
  | none=>simp
  | some y=>
   constructor
   ·intro q'; cases q'; exact⟨rfl,rfl⟩
   ·rintro ⟨q1,q2⟩; cases q1; rw [q2]; rfl
 refine Rt.of_tree w f (by rw [m1]; exact e.nd) (fun h=>by rw [m1]; exact⟨e.inn h,all h⟩) (fun i h g hi=>?_) fun h hh=>?_
 ·obtain ⟨h1,h2⟩:=(at_ i h _).mp hi
  obtain ⟨j,ji,hj,gn⟩:=e.par i h g h1 h2.symm
  exact⟨j,cR els g,ji,(at_ j g _).mpr ⟨hj,rfl⟩,gn⟩
 ·obtain ⟨i,hi⟩:=e9 hh
  obtain ⟨h1,h2⟩:=(at_ i h _).mp hi
  exact e.root h (aN8 h1) h2.symm
end
structure vU (n:Nat) (ls:List (Int × Int)) (els:List (Option Int)) (O:List Int):Prop where
 len:els.length=n
 rt:Rt n ls (jF O els)
noncomputable def rH:bE:=fun xs Q=>∃ ws ls,xs = [bZ ws ls]/\Wb ws ls/\dR ws.length ls/\dB ws.length ls/\∀ els O,vU ws.length ls els O->Q (.tup [.lst (cQ els),.lst (intz O)])
noncomputable def S7:aQ:=(eM (dO (b8 (a5 1) (b8 (a5 3) (a5 5)))) (bT 6)
     (cJ (bA (q2 (pM true) (a5 6) (a5 3))) (aE (kH 2 (a5 6) (b8 (a5 3) (a5 5)))
      (gI 3 (a5 6))) cI))
noncomputable def vV:aQ:=(lH (bA (lN (a5 5) (aC dF (a7 (a5 3) a9))))
    (aE S7
    (b4 5 (bX (a5 5) (qC (.int 1))))))
noncomputable def S8:aQ:=(aE (b4 1 (aC M6 (a7 (a5 0) a9)))
 (aE (dN 2 (nT (eI (a7 (qC .non) a9)) (aC dF (a7 (b8 (a5 0) (qC (.int 0))) a9))))
 (aE (dN 3 (eI a9))
 (aE (eM (jP (aC dF (a7 (b8 (a5 0) (qC (.int 0))) a9))) (bT 4)
  (cJ (bA (q2 (pM true) (a5 4) (a5 3))) (aE (gI 3 (a5 4))
   (aE (b4 5 (j3 (aC dF (a7 (a5 3) a9)) (qC (.int 1))))
   vV)) cI))
 (mW 2 (mW 3 (bM (tT (a7 (a5 2) (a7 (a5 3) a9))))))))))
section
variable {n : Nat} {ls : List (Int × Int)} {O : List Int} {els : List (Option Int)} {E : gS} {s0 s4 y6 : Option Slot} {t : Nat} {cur : Int}
theorem aG6 (n40:n<=40) (lk:dR n ls) (e:EI n ls O els) (hc:O[t]? = some cur) (sh:∀ (i:Nat) (h:Int),i < t->O[i]? = some h->∀ y ∈ aN ls h,y ∈ O)
  (nx:∀ O' els' y6,EI n ls O' els'->(∀ (i:Nat) (h:Int),O[i]? = some h->O'[i]? = some h)->(∀ y ∈ aN ls cur,y ∈ O')->E.nx [s0,some (.sh true (.lst (cO n ls))),some (.own (.lst (cQ els'))),some (.own (.lst (intz O'))),s4,si t,y6]) :
  S7 E [s0,some (.sh true (.lst (cO n ls))),some (.own (.lst (cQ els))),some (.own (.lst (intz O))),s4,si t,y6]:=by
 have cm:=aN8 hc
 have cr:=cX.mp (e.inn cur cm)
 have atc:∀ O':List Int,O'[t]? = some cur->L2.atI (intz O') (t:Int)=some (.int cur):=fun O' h=>iN (by unfold intz; rw [aO5,h]; rfl)
 refine⟨_,rfl,_,rfl,_,rfl,_,_,_,rfl,rfl,atc O hc,_,_,_,rfl,rfl,uT cr.1 cr.2,intz (aN ls cur),rfl,(fun z=>by cases z),fun j ρ=>∃ (O':List Int) (els':List (Option Int)) (y6:Option Slot),ρ = [s0,some (.sh true (.lst (cO n ls))),some (.own (.lst (cQ els'))),some (.own (.lst (intz O'))),s4,si t,y6]/\EI n ls O' els'/\(∀ (i:Nat) (h:Int),O[i]? = some h->O'[i]? = some h)/\∀ y ∈ (aN ls cur).take j,y ∈ O',⟨O,els,y6,rfl,e,fun _ _ z=>z,fun y hy=>by rw [List.take_zero] at hy; cases hy⟩,?_,?_⟩
 ·rintro j y ρ hy ⟨O',els',y6,rfl,e',kp,dn⟩
  obtain ⟨x,rfl,hx⟩:=j8 hy
  have xn:=aN8 hx
  have xr:=lk.inr cur x xn
  have xm:=cX.mp xr
  have tk:(aN ls cur).take (j+1)=(aN ls cur).take j ++ [x]:=by rw [aR5,hx]; rfl
  have ol:=e'.le
  refine iF ?_
  refine⟨_,rfl,_,rfl,x,O',rfl,rfl,_,rfl,?_⟩
  show if (!decide (x ∈ O'))=true then _ else _
  by_cases z:x ∈ O'
  ·rw [aO2 z]
   refine bC ⟨O',els',_,rfl,e',kp,fun y hy=>?_⟩
   rw [tk] at hy
   rcases aO4.mp hy with q | q
   ·exact dn y q
   ·rw [aN7.mp q]; exact z
  ·rw [aP0 z]
   have lo:(cQ els').length=n:=by unfold cQ; rw [aN6]; exact e'.len
   refine bW ⟨_,rfl,_,rfl,_,_,_,rfl,rfl,atc O' (kp t cur hc),cQ els',rfl,_,rfl,x,x.toNat,rfl,?_,rfl,?_⟩
   ·rw [lo]; unfold fJ; rw [if_pos (by lia),if_pos (by lia)]
   refine⟨_,rfl,_,rfl,trivial,by rw [bH]; lia,O' ++ [x],els'.set x.toNat (some cur),si x,?_,e'.put z xr (aN8 (kp t cur hc)) (iV xn),fun i h hi=>by rw [aQ6 (aN9.mp (kp i h hi)).1]; exact kp i h hi,fun y hy=>?_⟩
   ·have q1:cQ (els'.set x.toNat (some cur))=(cQ els').set x.toNat (.int cur):=by unfold cQ; rw [List.map_set]; rfl
    show _ = [_,_,some (Slot.own (.lst (cQ (els'.set x.toNat (some cur))))),some (Slot.own (.lst (intz (O' ++ [x])))),_,_,_]
    rw [q1,fQ]; rfl
   ·rw [tk] at hy
    rcases aO4.mp hy with q | q
    ·exact aQ9 _ (dn y q)
    ·rw [aN7.mp q]; exact aQ4 _ (aY6 _)
 ·rintro ρ ⟨O',els',y6,rfl,e',kp,dn⟩
  rw [bH,aR3 (aO0 _)] at dn
  exact nx O' els' y6 e' kp dn
theorem aG7 (n40:n<=40) (lk:dR n ls) (e:EI n ls O els) (tl:t<=O.length) (sh:∀ (i:Nat) (h:Int),i < t->O[i]? = some h->∀ y ∈ aN ls h,y ∈ O)
  (nx:∀ O' els' y5 y6,EI n ls O' els'->dH ls (rng n) O'->(∀ x ∈ O,x ∈ O')->E.nx [s0,some (.sh true (.lst (cO n ls))),some (.own (.lst (cQ els'))),some (.own (.lst (intz O'))),s4,y5,y6]) :
  vV E [s0,some (.sh true (.lst (cO n ls))),some (.own (.lst (cQ els))),some (.own (.lst (intz O))),s4,si t,y6]:=by
 refine⟨fun m ρ=>∃ (O':List Int) (els':List (Option Int)) (t:Nat) (y6:Option Slot),ρ = [s0,some (.sh true (.lst (cO n ls))),some (.own (.lst (cQ els'))),some (.own (.lst (intz O'))),s4,si t,y6]/\EI n ls O' els'/\t<=O'.length/\(∀ (i:Nat) (h:Int),i < t->O'[i]? = some h->∀ y ∈ aN ls h,y ∈ O')/\(∀ x ∈ O,x ∈ O')/\m=n - t,⟨_,O,els,t,y6,rfl,e,tl,sh,fun _ z=>z,rfl⟩,?_⟩
 rintro m ρ ⟨O',els',t,y6,rfl,e',tl,sh,sub,rfl⟩
 have ol:=e'.le
 refine⟨_,rfl,_,rfl,_,_,rfl,rfl,_,_,rfl,rfl,_,rfl,?_⟩
 rw [bH]
 by_cases lt:t < O'.length
 ·rw [aO2 (by lia)]
  obtain ⟨cur,hc⟩:∃ c,O'[t]? = some c:=⟨_,aN5 lt⟩
  refine bW (aG6 n40 lk e' hc sh fun O2 els2 y6 e2 kp dn=>?_)
  refine⟨_,rfl,_,_,rfl,rfl,trivial,n - (t+1),by lia,O2,els2,t+1,y6,rfl,e2,?_,fun i h it hi y hy=>?_,fun x hx=>?_,rfl⟩
  ·have:=(aN9.mp (kp t cur hc)).1; lia
  ·have i2:=(aN9.mp (kp t cur hc)).1
   by_cases e1:i=t
   ·subst e1
    rw [kp i cur hc] at hi
    cases hi
    exact dn y hy
   ·obtain ⟨h',hh'⟩:∃ c,O'[i]? = some c:=⟨_,aN5 (by lia)⟩
    rw [kp i h' hh'] at hi
    cases hi
    obtain ⟨k,hk⟩:=aU6.mp (sh i h (by lia) hh' y hy)
    exact aN8 (kp k y hk)
  ·obtain ⟨k,hk⟩:=aU6.mp (sub x hx)
   exact aN8 (kp k x hk)
 ·rw [aP0 (by lia)]
  refine bC (nx O' els' _ _ e' (fun x hx y hy _=>?_) sub)
  obtain ⟨i,hi⟩:=aU6.mp hx
  have il:=(aN9.mp hi).1
  exact sh i x (by lia) hi y hy
end
theorem aG8 {a b:PV × Tg} (ha:Nw a.2 a.1) (hb:Nw b.2 b.1):lE [a,b]:=by
 intro p hp
 simp only [aO7,aR1,aX3] at hp
 rcases hp with rfl | rfl
 ·exact ha
 ·exact hb
theorem S9 (n:Nat):(List.replicate n [PV.non]).flatten=cQ (List.replicate n none):=by
 induction n with
 | zero=>rfl
 | succ n ih=>rw [aR8,aW0,ih,aR8]; rfl
theorem aG9 (els:List (Option Int)):flats (cQ els)=true:=by
 induction els with
 | nil=>rfl
 | cons e r ih=>
  show (flat (jC e) && flats (cQ r))=true
  rw [ih]; cases e <;> rfl
theorem aH0:cB S8 ["web","beside","elders","order","root","at","other"] rH:=by
 rintro xs Q ⟨ws,ls,rfl,wb,lk,w,q⟩
 have few:=wb.few
 refine⟨_,rfl,ws,ls,rfl,wb,trivial,?_⟩
 refine⟨by show 1<=1000; decide,rfl,_,rfl,_,_,_,rfl,rfl,rfl,_,_,rfl,rfl,_,_,rfl,by rw [bH],rfl,by lia,by lia,by show 1<=10; decide,rfl,?_,?_⟩
 ·show flats (List.replicate (ws.length:Int).toNat [PV.non]).flatten=true
  rw [S9]; exact aG9 _
 show (aE _ _) _ [_,_,some (Slot.own (.lst (List.replicate (ws.length:Int).toNat [PV.non]).flatten)),_,_,_,_]
 rw [S9,aQ3]
 refine⟨by decide,rfl,rfl,rfl,?_⟩
 refine⟨_,rfl,_,_,_,rfl,rfl,rfl,_,_,rfl,rfl,ws.length,by rw [bH],by lia,by lia,fun r ρ=>∃ (O:List Int) (els:List (Option Int)) (y4 y5 y6:Option Slot),ρ = [some (.sh (flat (bZ ws ls)) (bZ ws ls)),some (.sh true (.lst (cO ws.length ls))),some (.own (.lst (cQ els))),some (.own (.lst (intz O))),y4,y5,y6]/\EI ws.length ls O els/\dH ls (rng ws.length) O/\∀ y ∈ rng ws.length,y < (r:Int)->y ∈ O,⟨[],_,none,none,none,rfl,⟨aY4,(fun _ z=>by cases z),aW1,(fun i h g hi=>by cases hi),(fun _ z=>by cases z),fun h hr _=>?_⟩,(fun _ z=>by cases z),fun y hy lt=>?_⟩,?_,?_⟩
 ·unfold cR
  rw [aO3,List.getElem?_replicate]
  split <;> rfl
 ·have:=(cX.mp hy).1; lia
 ·rintro r y ρ hy ⟨O,els,y4,y5,y6,rfl,e,sh,low⟩
  obtain ⟨rfl,hr⟩:=jU hy
  have hr:r < ws.length:=by lia
  have rr:(r:Int) ∈ rng ws.length:=cX.mpr ⟨by lia,by lia⟩
  have ol:=e.le
  refine iF ?_
  rw [Int.zero_add]
  refine⟨_,rfl,_,rfl,(r:Int),O,rfl,rfl,_,rfl,?_⟩
  show if (!decide ((r:Int) ∈ O))=true then _ else _
  by_cases z:(r:Int) ∈ O
  ·rw [aO2 z]
   refine bC ⟨O,els,_,_,_,rfl,e,sh,fun y hy lt=>?_⟩
   by_cases q:y=r
   ·rw [q]; exact z
   ·exact low y hy (by lia)
  ·rw [aP0 z]
   have e2:=e.rt z (e.head sh z rr low)
   refine bW ⟨_,rfl,_,rfl,trivial,by rw [bH]; lia,?_⟩
   refine⟨_,rfl,_,_,rfl,rfl,_,_,rfl,rfl,trivial,?_⟩
   have q1:intz O ++ [PV.int (r:Int)]=intz (O ++ [(r:Int)]):=by rw [fQ]; rfl
   show vV _ [_,_,_,some (Slot.own (.lst (intz O ++ [PV.int (r:Int)]))),_,si (((intz O ++ [PV.int (r:Int)]).length:Int) - 1),_]
   rw [q1,bH,aP7,show ((O.length + [(r:Int)].length:Nat):Int) - 1=(O.length:Int) by show ((O.length+1:Nat):Int) - 1=_; lia]
   refine aG7 few lk e2 (by rw [aP7]; lia) (fun i h it hi y hy=>?_) fun O' els' y5 y6 e' sh' sub=>⟨O',els',_,y5,y6,rfl,e',sh',fun y hy lt=>?_⟩
   ·rw [aQ6 it] at hi
    exact aQ9 _ (sh h (aN8 hi) y hy (lk.inr h y hy))
   ·by_cases q:y=r
    ·rw [q]; exact sub _ (aQ4 _ (aY6 _))
    ·exact sub y (aQ9 _ (low y hy (by lia)))
 ·rintro ρ ⟨O,els,y4,y5,y6,rfl,e,sh,low⟩
  rw [gJ,aQ3] at low
  exact⟨_,rfl,_,rfl,_,rfl,_,rfl,by show 2<=1000; decide,aG8 trivial trivial,trivial,q els O ⟨e.len,e.all w lk.fit fun y hy=>low y hy (cX.mp hy).2⟩⟩
end Core
namespace PP
open PySem L2
section
variable {X : Cx} {a b : Expr} {ta tb : aH} {pos : Pos}
noncomputable def vW:PV->Tg->PV->Tg->PK->Prop:=fun x _ y _ Q=>∃ (i:Int) (o:Option Int),x=Core.jC o/\y = .int i/\Q (.bl (decide (o=some i))) .fr
theorem aH1:eV X vW rV:=by
 rintro W Hs H u v x y g g' Q Q' s n r1 r2 ⟨i,o,rfl,rfl,q⟩ k
 cases r2
 cases o with
 | none=>
  cases r1
  exact⟨rfl,k _ _ _ .fr (aB.refl _) (.bl false) q⟩
 | some j=>
  cases r1
  have e:decide (V.int j=V.int i)=decide (some j=some i):=decide_eq_decide.mpr ⟨fun z=>by cases z; rfl,fun z=>by cases z; rfl⟩
  refine⟨rfl,?_⟩
  rw [e]
  exact k _ _ _ .fr (aB.refl _) (.bl _) q
theorem aH2 (ha:QE X a ta) (hb:QE X b tb):QT X (.Compare a [.Eq] [b] pos) (bA (q2 vW ta tb)):=iC rX aH1 ha hb (fH _)
end
end PP
namespace Core
open PySem L2 PP
noncomputable def rJ:bE:=fun xs Q=>∃ (p w:Int) (bl:dL),xs = [.int p,.int w,.lst (aX bl)]/\0<=w/\bl.length < 64/\Q (.tup [.int (g9 w p bl).1,.int (g9 w p bl).2])
noncomputable def T0:aQ:=(aE (b4 7 (bX (a5 0) (a5 3)))
  (aE (cJ (bA (qLe (a5 6) (aC dF (a7 (a5 4) a9)))) (b4 7 (aC kI (a7 (a5 7) (a7 (bX (a5 3) (aC kS (a7 (pN (a5 4) uB (nB (a5 6))) a9))) a9)))) cI)
  (gI 5 (a5 7))))
noncomputable def T1:aQ:=(aE (b4 3 (aC kS (a7 (cU (dO (a5 2)) [none] (bT 0) cM (b8 (a5 0) (qC (.int 0)))) a9)))
 (aE (b4 4 (aC pH (a7 (cU (dO (a5 2)) [none] (bT 0) cM (j3 (b8 (a5 0) (qC (.int 1))) (b8 (a5 0) (qC (.int 0))))) a9)))
 (aE (dN 5 (eI a9))
 (aE (eM (dO (eI (a7 (aC kJ (a7 (qC (.int 0)) (a7 (j3 (a5 1) (qC (.int 1))) a9))) (a7 (a5 1) a9)))) (bT 6)
  T0)
 (bM (aC iA (a7 (a5 5) a9)))))))
section
variable {p w k : Int} {bl : dL} {E : gS} {s1 s2 y7 : Option Slot} {ds : List Int}
theorem T2 (hl:bl.length < 64) (k0:0<=k) (dl:ds.length<=10) (nx:∀ y7,E.nx [si p,s1,s2,si (bl.map (·.1)).sum,some (.sh true (.lst (intz (cY (cP bl))))),some (.own (.lst (intz (ds ++ [hJ k p bl])))),si k,y7]) :
  T0 E [si p,s1,s2,si (bl.map (·.1)).sum,some (.sh true (.lst (intz (cY (cP bl))))),some (.own (.lst (intz ds))),si k,y7]:=by
 have gl:(cY (cP bl)).length=bl.length:=by rw [aC5]; exact aN6 _
 have fin:∀ z,z=hJ k p bl->(gI 5 (a5 7)) E [si p,s1,s2,si (bl.map (·.1)).sum,some (.sh true (.lst (intz (cY (cP bl))))),some (.own (.lst (intz ds))),si k,si z]:=fun z ez=>by
  subst ez
  refine⟨_,rfl,_,rfl,trivial,by rw [bH]; lia,?_⟩
  have:=nx (si (hJ k p bl))
  rw [fQ] at this
  exact this
 refine⟨_,rfl,_,rfl,_,_,rfl,rfl,trivial,?_⟩
 refine⟨_,rfl,_,rfl,_,_,rfl,rfl,_,_,rfl,rfl,_,rfl,?_⟩
 rw [bH,gl]
 by_cases c:k<=(bl.length:Int)
 ·rw [aO2 c]
  refine bW ⟨_,rfl,_,rfl,_,rfl,_,rfl,_,rfl,intz (cY (cP bl)),rfl,dW _,_,(cY (cP bl)).take k.toNat,rfl,?_,_,_,rfl,rfl,_,_,rfl,trivial,fin _ ?_⟩
  ·show some (gT (intz (cY (cP bl))) none (some k))=_
   rw [K4 k0]; unfold intz; rw [List.map_take]
  ·unfold hJ
   rw [if_pos c]
   split <;> lia
 ·rw [aP0 c]
  refine bC (fin _ ?_)
  unfold hJ
  rw [if_neg c]
  lia
end
theorem T3 {i:Nat}{a b:Int}{g:Bool}{ρ:bG}{Q:bG->Prop} (q:Q (ρ.set i (some (.sh true (.tup [.int a,.int b]))))):bT i (.tup [.int a,.int b]) g ρ Q:=by
 show Q (ρ.set i (some (.sh (g || true) (.tup [.int a,.int b]))))
 rw [Bool.or_true]; exact q
theorem aH3:cB T1 ["price","want","pairs","alone","gaps","due","needed","least"] rJ:=by
 rintro xs Q ⟨p,w,bl,rfl,w0,hl,q⟩
 refine⟨_,rfl,aX bl,rfl,(fun z=>by cases z),by rw [iD]; lia,fun i acc=>acc=intz ((bl.take i).map (·.1)),rfl,?_,?_⟩
 ·rintro i y acc hy rfl
  obtain ⟨r,rfl,hr⟩:=qF hy
  refine T3 ?_
  refine⟨_,rfl,_,_,_,rfl,rfl,rfl,trivial,?_⟩
  dsimp only
  rw [aR5,hr,aQ0,fQ]; rfl
 rintro acc rfl
 rw [iD,aR3 (aO0 _)]
 refine⟨_,_,rfl,rfl,trivial,?_⟩
 refine⟨_,rfl,aX bl,rfl,(fun z=>by cases z),by rw [iD]; lia,fun i acc=>acc=intz (cP (bl.take i)),rfl,?_,?_⟩
 ·rintro i y acc hy rfl
  obtain ⟨r,rfl,hr⟩:=qF hy
  refine T3 ?_
  refine⟨_,rfl,_,_,_,rfl,rfl,rfl,_,rfl,_,_,_,rfl,rfl,rfl,_,_,rfl,rfl,trivial,?_⟩
  dsimp only
  unfold cP
  rw [aR5,hr,aQ0,fQ]; rfl
 rintro acc rfl
 rw [iD,aR3 (aO0 _)]
 have gl:(cP bl).length=bl.length:=aN6 _
 refine⟨cP bl,rfl,by lia,fun ms pm so=>⟨trivial,?_⟩⟩
 cases N1 pm so
 refine⟨by decide,rfl,rfl,rfl,?_⟩
 refine⟨_,rfl,_,_,rfl,rfl,_,_,rfl,_,rfl,by show 2<=1000; decide,rfl,[.int (max 0 (w - 1)),.int w],?_,(fun z=>by cases z),fun i ρ=>∃ (y6 y7:Option Slot),ρ = [si p,si w,some (.sh (flat (.lst (aX bl))) (.lst (aX bl))),si (bl.map (·.1)).sum,some (.sh true (.lst (intz (cY (cP bl))))),some (.own (.lst (intz ([hJ (max 0 (w - 1)) p bl,hJ w p bl].take i)))),y6,y7],⟨none,none,rfl⟩,?_,?_⟩
 ·show some [PV.int (if w - 1 > 0 then w - 1 else 0),.int w]=_
  rw [show (if w - 1 > 0 then w - 1 else 0)=max 0 (w - 1) by split <;> lia]
 ·rintro i y ρ hy ⟨y6,y7,rfl⟩
  match i,hy with
  | 0,hy=>
   cases hy
   exact T2 hl (by lia) (by show 0<=10; decide) fun y7=>⟨_,y7,rfl⟩
  | 1,hy=>
   cases hy
   exact T2 hl w0 (by show 1<=10; decide) fun y7=>⟨_,y7,rfl⟩
  | i+2,hy=>simp at hy
 ·rintro ρ ⟨y6,y7,rfl⟩
  exact⟨_,rfl,⟨_,_,rfl,rfl,rfl,trivial,q⟩,fun ns z=>by cases z⟩
noncomputable def vX:bE:=J8
noncomputable def T4 (K:PySem.W.Frag):aQ:=(aE (b4 8 (b8 (a5 5) (a5 7)))
  (aE (cJ (kF (jN (bA (jR K "tuple" (a5 8)))) (kF (bA (uC (aC dF (a7 (a5 8) a9)) (qC (.int 2)))) (kF (jN (bA (aC nP (a7 (b8 (a5 8) (qC (.int 0))) a9)))) (jN (bA (aC nP (a7 (b8 (a5 8) (qC (.int 1))) a9))))))) (bM (qC (.bl false))) cI)
  (aE (b4 9 (cU (jP (a5 2)) [none,some 7,some 6,some 5] (bT 0) (bA (q2 vW (b8 (a5 2) (a5 0)) (a5 1))) (b8 (a5 3) (a5 0))))
  (cJ (bA (q2 (nA 2 true) (a5 8) (aC rJ (a7 (b8 (a5 3) (a5 7)) (a7 (b8 (b8 (a5 1) (qC (.int 0))) (a5 7)) (a7 (a5 9) a9)))))) (bM (qC (.bl false))) cI))))
noncomputable def T5 (K:PySem.W.Frag):aQ:=(aE (b4 1 (aC rD (a7 (a5 0) (a7 (qC (.int 40)) a9))))
 (aE (b4 2 (aC dF (a7 (b8 (a5 1) (qC (.int 0))) a9)))
 (aE (b4 3 (aC qW (a7 (a5 0) (a7 (a5 2) a9))))
 (aE (b4 4 (aC u0 (a7 (a5 3) a9)))
 (aE (b4 5 (aC o5 (a7 (a5 1) (a7 (a5 4) a9))))
 (aE (cJ (kF (jN (bA (jR K "tuple" (a5 5)))) (kF (bA (uC (aC dF (a7 (a5 5) a9)) (a5 2))) (bA (q2 (nA 2 true) (a5 4) (a5 3))))) (bM (qC (.bl false))) cI)
 (aE (cJ (bA (q2 (nA 2 true) (aC o5 (a7 (a5 1) (a7 (aC iA (a7 (a5 3) a9)) a9))) (a5 5))) (bM (qC (.bl false))) cI)
 (aE (b4 6 (b8 (aC rH (a7 (a5 1) a9)) (qC (.int 0))))
 (aE (eM (jP (a5 2)) (bT 7)
  (T4 K))
 (bM (qC (.bl true))))))))))))
theorem aH4 (L:dL):bN 3 (.tup (aX L)) (.tup (aX L))=true:=by
 have:bN 3 (.lst (tups (L.map two))) (.lst (tups (L.map two)))=decide (L.map two=L.map two):=aA5 1 _ _
 rw [aO2 rfl] at this
 rw [nR]
 exact this
theorem aH5 (L L':dL):cN 3 (.tup (aX L)) (.tup (aX L'))=true:=by
 have:cN 3 (.lst (tups (L.map two))) (.lst (tups (L'.map two)))=true:=M0 1 _ _
 rw [nR,nR]
 exact this
theorem aH6 {n:Nat}{ls:List (Int × Int)}{P:c8}{els:List (Option Int)}{O:List Int}{h:Int}{e:Option Int} (R:Rt n ls P) (f:dY ls) (B:vU n ls els O) (hp:(h,e) ∈ P):bI ls h e=(rng n).filter fun c=>decide (cR els c=some h):=by
 refine M1 ((aC9 f h).filter _) ((v4 n).filter _) fun c=>?_
 rw [R.kid f hp,S5 R B.rt,aP6,aX4]
 unfold jF
 rw [aP4]
 constructor
 ·rintro ⟨x,hx,z⟩
  have z1:x=c:=(bb5 z).1
  have z2:cR els x=some h:=(bb5 z).2
  subst z1
  have:=B.rt.mem x
  unfold jF at this
  rw [aT6] at this
  exact⟨this.mp (aP4.mpr ⟨x,hx,rfl⟩),z2⟩
 ·rintro ⟨cr,z⟩
  have:=(B.rt.mem c).mpr cr
  unfold jF at this
  rw [aT6] at this
  obtain ⟨x,hx,ex⟩:=aP4.mp this
  have ex:x=c:=ex
  subst ex
  exact⟨x,hx,by rw [z]⟩
theorem aH7 {els:List (Option Int)}{h:Int} (h0:0<=h) (h1:h < (els.length:Int)):L2.atI (cQ els) h=some (jC (cR els h)):=by
 obtain ⟨j,rfl⟩:∃ j:Nat,h=j:=⟨h.toNat,by lia⟩
 refine iN ?_
 unfold cQ cR
 rw [aQ3,aO5,aO3,aN5 (by lia)]; rfl
section
variable {ws ps : List Int} {ls : List (Int × Int)} {P : c8} {L : dL} {els : List (Option Int)} {O : List Int} {E : gS} {s0 s4 y8 y9 : Option Slot} {i : Nat}
theorem aH8 {K:PySem.W.Frag} (kt:PySem.W.kitOne K (.type "tuple") (.type "tuple")=some true) (lk:dR ws.length ls) (n40:ws.length<=40) (nn:NN ws) (pl:ps.length=ws.length) (R:Rt ws.length ls P) (k:rG ws ps ls P L) (B:vU ws.length ls els O) (hi:i < ws.length)
  (nx:∀ y8 y9,E.nx [s0,some (.sh true (bZ ws ls)),si ws.length,some (.sh true (.lst (intz ps))),s4,some (.sh true (.tup (aX L))),some (.sh true (.lst (cQ els))),si i,y8,y9]) :
  T4 K E [s0,some (.sh true (bZ ws ls)),si ws.length,some (.sh true (.lst (intz ps))),s4,some (.sh true (.tup (aX L))),some (.sh true (.lst (cQ els))),si i,y8,y9]:=by
 obtain ⟨e,he⟩:=R.pair (h:=(i:Int)) (cX.mpr ⟨by lia,by lia⟩)
 have ll:=k.1
 have at1:=vS (L:=L) (h:=(i:Int)) (by lia) (by lia)
 refine⟨_,rfl,_,rfl,_,_,_,rfl,rfl,at1,trivial,?_⟩
 refine⟨_,rfl,_,_,rfl,kt,_,rfl,bC ?_⟩
 refine⟨_,rfl,_,_,rfl,rfl,.inl ⟨_,_,rfl,rfl,_,rfl,bC ?_⟩⟩
 refine⟨_,rfl,_,_,_,rfl,rfl,rfl,_,rfl,_,rfl,bC ?_⟩
 refine⟨_,rfl,_,_,_,rfl,rfl,rfl,_,rfl,_,rfl,bC ?_⟩
 refine⟨_,rfl,ws.length,rfl,by lia,by lia,by rw [gJ]; lia,fun j acc=>acc=aX ((((rng ws.length).take j).filter fun c=>decide (cR els c=some (i:Int))).map (bD L)),rfl,?_,?_⟩
 ·rintro j y acc hy rfl
  obtain ⟨rfl,hj⟩:=jU hy
  have hj:j < ws.length:=by lia
  have tk:=uR (p:=fun c=>decide (cR els c=some (i:Int))) (G1 hj)
  refine iF ?_
  rw [Int.zero_add]
  refine⟨_,rfl,_,rfl,_,_,_,rfl,rfl,aH7 (by lia) (by rw [B.len]; lia),_,rfl,(i:Int),cR els (j:Int),rfl,rfl,_,rfl,?_⟩
  cases hm:decide (cR els (j:Int)=some (i:Int)) with
  | true=>
   rw [hm] at tk
   refine bW ⟨_,rfl,_,rfl,_,_,_,rfl,rfl,vS (by lia) (by lia),rfl,?_⟩
   dsimp only
   rw [tk]
   unfold aX
   rw [aQ0,aQ0]; rfl
  | false=>
   rw [hm] at tk
   refine bC ?_
   dsimp only
   rw [tk]; exact (aY9 _).symm ▸ rfl
 ·rintro acc rfl
  rw [gJ,aQ3,aR3 (by rw [dP]; exact aO0 _),<- aH6 R lk.fit B he]
  have kl:(bI ls (i:Int) e).length<=ws.length:=by have:=aS8 (fun x=>!decide (some x=e)) (aN ls (i:Int)); have:=lk.nlen (i:Int); unfold bI; lia
  refine⟨trivial,?_⟩
  have wp:0<=ws.getD i 0:=nW nn _
  have ok:=k.2 _ e he
  unfold o4 at ok
  rw [aQ3] at ok
  refine⟨_,rfl,_,rfl,_,rfl,_,_,_,rfl,rfl,gZ (by lia),_,rfl,_,_,_,rfl,rfl,rfl,_,rfl,_,_,_,rfl,rfl,gZ hi,_,rfl,_,_,(bI ls (i:Int) e).map (bD L),rfl,wp,by rw [aN6]; lia,.inl ⟨_,_,rfl,rfl⟩,?_,_,rfl,?_⟩
  ·rw [<- ok]; exact C1 2 [(bD L (i:Int)).1,(bD L (i:Int)).2] [(bD L (i:Int)).1,(bD L (i:Int)).2]
  ·have e1:bN 3 (.tup [.int (bD L (i:Int)).1,.int (bD L (i:Int)).2]) (.tup [.int (g9 (ws.getD i 0) (ps.getD i 0) ((bI ls (i:Int) e).map (bD L))).1,.int (g9 (ws.getD i 0) (ps.getD i 0) ((bI ls (i:Int) e).map (bD L))).2])=true:=by
    rw [<- ok]
    have:=C0 2 [(bD L (i:Int)).1,(bD L (i:Int)).2] [(bD L (i:Int)).1,(bD L (i:Int)).2]
    rw [aO2 rfl] at this
    exact this
   show if (!bN 3 (.tup [.int (bD L (i:Int)).1,.int (bD L (i:Int)).2]) (.tup [.int (g9 (ws.getD i 0) (ps.getD i 0) ((bI ls (i:Int) e).map (bD L))).1,.int (g9 (ws.getD i 0) (ps.getD i 0) ((bI ls (i:Int) e).map (bD L))).2]))=true then _ else _
   rw [e1]
   exact bC (nx _ _)
end
theorem aH9 {K:PySem.W.Frag} (kt:PySem.W.kitOne K (.type "tuple") (.type "tuple")=some true):cB (T5 K) ["script","web","many","prices","handed","found","elders","hearth","pair","pairs"] vX:=by
 rintro xs Q ⟨ns,rfl,hl,q⟩
 refine⟨_,rfl,ns,40,rfl,hl,by decide,by decide,fun n ws ls n1 w lk wd=>⟨trivial,?_⟩⟩
 have wl:=w.many
 have wb:Wb ws ls:=w.wb (by lia)
 have en:ws.length=n:=by lia
 subst en
 have few:=wb.few
 refine⟨_,rfl,_,_,_,rfl,rfl,rfl,_,_,rfl,rfl,trivial,?_⟩
 rw [bH]
 refine⟨_,rfl,_,rfl,ns,ws.length,rfl,hl,few,fun ps gp=>⟨trivial,?_⟩⟩
 refine⟨_,rfl,_,_,rfl,rfl,dW _,trivial,?_⟩
 refine⟨_,rfl,_,rfl,ws,ls,_,ps,rfl,wb,lk,wd,w.pos,.inr rfl,gp,fun P L R k=>⟨trivial,?_⟩⟩
 refine⟨_,rfl,_,_,rfl,kt,_,rfl,bC ?_⟩
 refine⟨_,rfl,_,_,rfl,rfl,_,rfl,.inl ⟨_,_,rfl,rfl,_,rfl,?_⟩⟩
 show if (!decide (((aX L).length:Int)=(ws.length:Int)))=true then _ else _
 rw [iD,k.1,aO2 rfl]
 refine bC ⟨_,rfl,_,rfl,.inr ⟨_,_,rfl,rfl⟩,aq1 2 ps ps,_,rfl,?_⟩
 show if (!bN 3 (.lst (intz ps)) (.lst (intz ps)))=true then _ else _
 rw [aq0,aO2 rfl]
 refine bC ?_
 refine⟨_,rfl,_,rfl,⟨_,_,rfl,rfl,dW _,ws,ls,_,ps,rfl,wb,lk,wd,w.pos,.inl rfl,gp,fun P' L' R' k'=>?_⟩,fun ns z=>by cases z⟩
 have eL:=aG3 R R' lk.fit k k'
 subst eL
 refine⟨_,rfl,.inl ⟨_,_,rfl,rfl⟩,aH5 L L,_,rfl,?_⟩
 show if (!bN 3 (.tup (aX L)) (.tup (aX L)))=true then _ else _
 rw [aH4]
 refine bC ?_
 refine⟨_,rfl,ws,ls,rfl,wb,lk,wd,fun els O B=>⟨_,_,_,rfl,rfl,rfl,trivial,?_⟩⟩
 refine⟨_,rfl,ws.length,rfl,by lia,by lia,fun i ρ=>∃ (y7 y8 y9:Option Slot),ρ = [some (.sh true (.scr ns)),some (.sh true (bZ ws ls)),si ws.length,some (.sh true (.lst (intz ps))),some (.sh true (.lst (intz ps))),some (.sh true (.tup (aX L))),some (.sh true (.lst (cQ els))),y7,y8,y9],⟨none,none,none,rfl⟩,?_,?_⟩
 ·rintro i y ρ hy ⟨y7,y8,y9,rfl⟩
  obtain ⟨rfl,hi⟩:=jU hy
  refine iF ?_
  rw [Int.zero_add]
  exact aH8 kt lk few w.pos gp.1 R k B (by lia) fun y8 y9=>⟨_,y8,y9,rfl⟩
 ·rintro ρ ⟨y7,y8,y9,rfl⟩
  exact⟨trivial,q⟩
end Core
namespace K_k53
open PySem PySem.W L2 PP Core
theorem _root_.L2.FnScope.au {N P:List Str}{s:Scope} (a:s.kind=.function:=by rfl) (b:s.isCoroutine=false:=by rfl) (c:s.isGenerator=false:=by rfl) (d:N.Nodup:=by decide +kernel) (e:N.take P.length=P:=by rfl) (f:∀ x∈P,s.names.lookup x=some .local∨s.names.lookup x=some .cell:=by decide +kernel) (g:∀ y∈s.names,y.2≠.free:=by decide +kernel):FnScope N P s:=⟨a,b,c,d,e,f,g⟩
noncomputable def b5 (i:Nat):Stmt:=PySem.Challenge.pw_kindleweb_k53_best_ledgers.main.body.getD i (.Pass ⟨0,0,0,0⟩)
structure FK (K:Frag) (n:Str) (i:Nat) (f:Addr) (d:FuncData):Prop where
 a:nsIn K mainGlobals n=some (some (.ref f))
 F:eF K n n (b5 i) f d
structure FM (K:Frag) (mg:Str->Option Value) (n:Str) (i:Nat) (f:Addr) (d:FuncData):Prop where
 F:eF K n n (b5 i) f d
 m:mg n=some (.ref f)
theorem FK.M {K:Frag}{mg:Str->Option Value}{n:Str}{i:Nat}{f:Addr}{d:FuncData}{h:Heap} (z:FK K n i f d) (X:K.In h) (G:h.Ns mainGlobals mg):FM K mg n i f d:=⟨z.F,mg_of X G z.a⟩
noncomputable abbrev Hb (x:Str) (ps:List Str) (i:Nat):Prop:=∀ (kV doc pm:Value) (an:Option Addr) (cdv ct:Value) (us:List Value),us.length=ps.length->bindArgs (fnOf x x (iS (b5 i)) (eD (b5 i)) (aY (b5 i)) .none kV doc pm an cdv ct) ⟨us,[]⟩=pure (ps.zip us)
theorem aI0 {A:Around}{k:Nat} (hr:c6 k A):A.units+3 < cLine:=by have:=hr.units; lia
section
variable {P : Program} {w : World} {K : Frag} {mg : Str → Option Value} {base : Heap} {f : Addr} {fd : FuncData} {k i : Nat} {x : Str} {ps N : List Str}
theorem Df.au {p:bE} (F:FM K mg x i f fd) (S:FnScope N ps (aY (b5 i))) (body:∀ (cdv:Value) (A:Around) (outer:List Env) (s:Shared) (H:Hp) (E:XK),c6 k (A.deeper (PyProof.Rows.envOfC x (aY (b5 i)) s.heap.objs.size f cdv))->∃ t,eZ (cZ dE P w K mg base N x (aY (b5 i)) f cdv A outer s H E).nox (eD (b5 i)) t/\∀ xs Q,p xs Q->t { nx:=fun _=>Q .non,rt:=Q } (fO N xs)) (hb:Hb x ps i:=by intro _ _ _ _ _ _ us hl; first | (obtain ⟨_,rfl⟩:=lX hl; rfl) | (obtain ⟨_,_,rfl⟩:=v7 hl; rfl) | (obtain ⟨_,_,_,rfl⟩:=L3 hl; rfl) | (obtain ⟨_,_,_,_,rfl⟩:=us4 hl; rfl) | (obtain ⟨_,_,_,_,_,rfl⟩:=us5 hl; rfl)) (len:∀ xs Q,p xs Q->xs.length=ps.length:=by intro xs Q h; repeat (first | (obtain ⟨rfl,_⟩:=h; rfl) | (obtain ⟨_,h⟩:=h))):Df P w K mg base (k+1) x ps p:=
 Df.of F.F F.m S hb len body
theorem fZ.au {p:gK} (F:FM K mg x i f fd) (S:FnScope N ps (aY (b5 i))) (t:(Str->Prop)->aQ) (rd:∀ Ep xs Q,p Ep xs Q->t Ep { nx:=fun _=>Q .non,rt:=Q } (fO N xs)) (body:∀ (cdv:Value) (A:Around) (outer:List Env) (s:Shared) (H:Hp) (E:XK) (Ep:Str->Prop),c6 k (A.deeper (PyProof.Rows.envOfC x (aY (b5 i)) s.heap.objs.size f cdv))->lT (cZ (eO P w) P w K mg base N x (aY (b5 i)) f cdv A outer s H E) (EX K H Ep)->eZ (cZ (eO P w) P w K mg base N x (aY (b5 i)) f cdv A outer s H E) (eD (b5 i)) (t Ep)) (hb:Hb x ps i:=by intro _ _ _ _ _ _ us hl; first | (obtain ⟨_,rfl⟩:=lX hl; rfl) | (obtain ⟨_,_,rfl⟩:=v7 hl; rfl) | (obtain ⟨_,_,_,rfl⟩:=L3 hl; rfl) | (obtain ⟨_,_,_,_,rfl⟩:=us4 hl; rfl) | (obtain ⟨_,_,_,_,_,rfl⟩:=us5 hl; rfl)) (len:∀ Ep xs Q,p Ep xs Q->xs.length=ps.length:=by intro Ep xs Q h; repeat (first | (obtain ⟨rfl,_⟩:=h; rfl) | (obtain ⟨_,h⟩:=h))):fZ P w K mg base (k+1) x ps p:=
 fZ.of F.F F.m S hb t len rd body
end
section
variable {P : Program} {w : World} {K : Frag} {mg : Str → Option Value} {base : Heap} {f : Addr} {fd : FuncData}
theorem nd2:(["ahead","behind"]:List Str).Nodup:=by decide +kernel
noncomputable abbrev T6:Stmt:=b5 8
theorem scR:FnScope ["things"] ["things"] (aY T6):=.au
theorem vY {ns:List Int}{i:Nat}{x y:V} (h1:(ns.map V.int)[i]? = some x) (h2:((ns.map V.int).drop 1)[i]? = some y):∃ p q:Int,x = .int p/\y = .int q/\(ns.zip (ns.drop 1))[i]? = some (p,q):=by
 rw [aO5] at h1
 rw [<- List.map_drop,aO5] at h2
 cases e1:ns[i]? with
 | none=>rw [e1] at h1; cases h1
 | some p=>
  cases e2:(ns.drop 1)[i]? with
  | none=>rw [e2] at h2; cases h2
  | some q=>
   rw [e1] at h1; rw [e2] at h2
   exact⟨p,q,(aQ5 h1).symm,(aQ5 h2).symm,List.getElem?_zip_eq_some.mpr ⟨e1,e2⟩⟩
theorem aI1 (B:Bt mg) (F:eF K "rises" "rises" T6 f fd):cH P w K mg base dE 1 f fd ["things"] (J5 K):=by
 refine F.ok scR (fun vs H Q E h=>?_) (fun cdv A outer s H vs Q E hr h=>?_)
 ·obtain ⟨a,ns,rfl,_⟩:=h
  rfl
 obtain ⟨a,ns,rfl,hS,hn,q⟩:=h
 have lz:((ns.map V.int).drop 1).length<=sizeLine:=aT1 (gG (by rw [aW7,aN6]; lia))
 have lz2:((ns.map V.int).drop 1).length<=(ns.map V.int).length:=by rw [aW7]; lia
 have lz3:(ns.zip (ns.drop 1)).length=((ns.map V.int).drop 1).length:=by rw [List.length_zip,aW7,aW7,aN6]; lia
 rcases hS with hS | hS
 ·refine⟨_,k6 (kY (oH (tM rfl) rfl B.all PyProof.Rows.boot_all (cL (yW (N:=["ahead","behind"]) (fr:=[none,none]) rfl (c7.of rfl rfl) (ak0 rfl B.zip (cL (pv 0) (cL (sJ zV (pv 0) (sI jY) sH) dD)))
   ⟨fun _ _ _ _=>show PG _ _ (kA K 2 (fU (cC 0) (fU (cC 1) k9))) from l4 rfl (gB (eC (i:=0) nd2 rfl (Or.inl rfl) (.inr rfl)) (gB (eC (i:=1) nd2 rfl (Or.inl rfl) (.inr rfl)) kZ)),fun _ _ _ _=>mM,fun _ _ _ _=>rY oE (pv 0) (pv 1) (fH _)⟩) dD))),?_⟩
  refine⟨_,rfl,_,rfl,1,rfl,a,_,rfl,hS,fun p hp=>?_,fun e=>?_⟩
  ·have s1:=bK hp (.tup (e7 (ns.map V.int) (some 1) none))
   have hb:aM K (upd H p (.tup (e7 (ns.map V.int) (some 1) none))) p ((ns.map V.int).drop 1):=aM.of (by rw [bJ,tP])
   refine⟨a,p,_,_,rfl,s1.tup hS,hb,tO (zU (s1.tup hS) hb lz2) (fun i acc _=>acc=((ns.zip (ns.drop 1)).take i).map fun (p:Int × Int)=>V.bl (decide (p.1 < p.2))) lz (fun _ _=>rfl) (fun _ _ _ _ _ h=>h) (fun i x acc D H' hi hR c hP=>?_) (fun D acc H' hD sm hDa hlen hP=>?_)⟩
   ·obtain ⟨T,x1,y1,rfl,hT,h1,h2⟩:=hR
    obtain ⟨m,k,rfl,rfl,hz⟩:=vY h1 h2
    refine⟨T,_,rfl,aM.of hT,rfl,_,_,rfl,_,_,rfl,rfl,((Wk.refl _).set (i:=0) rfl).set (i:=1) rfl,mS ⟨_,rfl,_,rfl,_,_,rfl,rfl,c.yes (aB.refl _) ?_⟩⟩
    rw [pX hz,hP]
   ·refine⟨D,(ns.zip (ns.drop 1)).map fun (p:Int × Int)=>decide (p.1 < p.2),rfl,aJ.of ?_,q _ (s1.trans sm)⟩
    rw [hDa,hP,<- lz3,aU5,aT6]; rfl
  ·have hb:aM K H a ((ns.map V.int).drop 1):=by
    have:(ns.map V.int).drop 1=ns.map V.int:=by rw [<- tP]; exact e
    rw [this]; exact hS
   refine⟨a,a,_,_,rfl,hS,hb,tO (zU hS hb lz2) (fun i acc _=>acc=((ns.zip (ns.drop 1)).take i).map fun (p:Int × Int)=>V.bl (decide (p.1 < p.2))) lz (fun _ _=>rfl) (fun _ _ _ _ _ h=>h) (fun i x acc D H' hi hR c hP=>?_) (fun D acc H' hD sm hDa hlen hP=>?_)⟩
   ·obtain ⟨T,x1,y1,rfl,hT,h1,h2⟩:=hR
    obtain ⟨m,k,rfl,rfl,hz⟩:=vY h1 h2
    refine⟨T,_,rfl,aM.of hT,rfl,_,_,rfl,_,_,rfl,rfl,((Wk.refl _).set (i:=0) rfl).set (i:=1) rfl,mS ⟨_,rfl,_,rfl,_,_,rfl,rfl,c.yes (aB.refl _) ?_⟩⟩
    rw [pX hz,hP]
   ·refine⟨D,(ns.zip (ns.drop 1)).map fun (p:Int × Int)=>decide (p.1 < p.2),rfl,aJ.of ?_,q _ sm⟩
    rw [hDa,hP,<- lz3,aU5,aT6]; rfl
 ·refine⟨_,k6 (kY (oH (tM rfl) rfl B.all PyProof.Rows.boot_all (cL (yW (N:=["ahead","behind"]) (fr:=[none,none]) rfl (c7.of rfl rfl) (ak6 rfl B.zip (cL (pv 0) (cL (sJ xQ (pv 0) (sI jY) sH) dD)))
   ⟨fun _ _ _ _=>show PG _ _ (kA K 2 (fU (cC 0) (fU (cC 1) k9))) from l4 rfl (gB (eC (i:=0) nd2 rfl (Or.inl rfl) (.inr rfl)) (gB (eC (i:=1) nd2 rfl (Or.inl rfl) (.inr rfl)) kZ)),fun _ _ _ _=>mM,fun _ _ _ _=>rY oE (pv 0) (pv 1) (fH _)⟩) dD))),?_⟩
  refine⟨_,rfl,_,rfl,1,rfl,a,_,rfl,hS,fun p hp=>?_⟩
  have s1:=bK hp (.lst (e7 (ns.map V.int) (some 1) none))
  have hb:aJ K (upd H p (.lst (e7 (ns.map V.int) (some 1) none))) p ((ns.map V.int).drop 1):=aJ.of (by rw [bJ,tP])
  refine⟨a,p,_,_,rfl,s1.seq hS,hb,tO (ak7 (s1.seq hS) hb lz2) (fun i acc _=>acc=((ns.zip (ns.drop 1)).take i).map fun (p:Int × Int)=>V.bl (decide (p.1 < p.2))) lz (fun _ _=>rfl) (fun _ _ _ _ _ h=>h) (fun i x acc D H' hi hR c hP=>?_) (fun D acc H' hD sm hDa hlen hP=>?_)⟩
  ·obtain ⟨T,x1,y1,rfl,hT,h1,h2⟩:=hR
   obtain ⟨m,k,rfl,rfl,hz⟩:=vY h1 h2
   refine⟨T,_,rfl,aM.of hT,rfl,_,_,rfl,_,_,rfl,rfl,((Wk.refl _).set (i:=0) rfl).set (i:=1) rfl,mS ⟨_,rfl,_,rfl,_,_,rfl,rfl,c.yes (aB.refl _) ?_⟩⟩
   rw [pX hz,hP]
  ·refine⟨D,(ns.zip (ns.drop 1)).map fun (p:Int × Int)=>decide (p.1 < p.2),rfl,aJ.of ?_,q _ (s1.trans sm)⟩
   rw [hDa,hP,<- lz3,aU5,aT6]; rfl
noncomputable abbrev T7:Stmt:=b5 10
theorem rK:FnScope ["web","around","one","other"] ["web"] (aY T7):=.au
theorem aI2 (F:eF K "near_lists" "near_lists" T7 f fd):cH P w K mg base dE 1 f fd ["web"] qG:=by
 refine F.ok rK (fun vs H Q E h=>?_) (fun cdv A outer s H vs Q E hr h=>?_)
 ·obtain ⟨v,ws,ls,rfl,_⟩:=h
  rfl
 obtain ⟨v,ws,ls,rfl,W,hn,hm,hin,q⟩:=h
 refine⟨_,jZ (yX (i:=1) (N:=["want"]) (fr:=[none]) rfl (c7.of rfl rfl) (oA (iP mG (pv 0) jY (fun _ _=>rfl)))
   ⟨fun _ _ _ _=>eC (i:=0) (aQ1 _ _) rfl (Or.inl rfl) (.inr rfl),fun _ _ _ _=>mM,fun _ _ _ _=>sD dD⟩ rK.nd rfl rfl rfl)
  (jZ (rR ba7 rfl (oA (iP mG (pv 0) jY (fun _ _=>rfl))) (l4 (n:=2) rfl (gB (eC (i:=2) rK.nd rfl (Or.inl rfl) (.inr rfl)) (gB (eC (i:=3) rK.nd rfl (Or.inl rfl) (.inr rfl)) kZ)) )
   (jZ (k7 (kB aT9 aY0 aY1 l8 (iP mF (pv 1) (pv 2) (fun _ _=>rfl)) (cL (pv 3) dD)))
   (k6 (k7 (kB aT9 aY0 aY1 l8 (iP mF (pv 1) (pv 3) (fun _ _=>rfl)) (cL (pv 2) dD))))))
  (k6 (kY (pv 1)))),?_⟩
 obtain ⟨a,p,q',ys,rfl,ha,hp,hq,hL⟩:=W.at_
 have lw:(ws.map V.int).length=ws.length:=aN6 _
 refine⟨_,rfl,a,_,_,_,rfl,rfl,aM.of ha,rfl,p,rfl,⟨_,aM.of hp⟩,zA (yZ (aM.of hp)) (fun i acc H'=>∃ bs:List Addr,acc=bs.map V.ref/\bs.length=i/\bs.Nodup/\∀ b ∈ bs,H b=none/\H' b=some (.lst [])) (by rw [lw]; exact aT1 (mL hn))
  (fun D hD=>⟨[],rfl,rfl,List.nodup_nil,fun _ z=>nomatch z⟩) (fun i x acc D H' hx c hPv=>?_) (fun D acc H' hD sm hDa hlen hPv=>?_)⟩
 ·obtain ⟨bs,rfl,hbl,nd,hb⟩:=hPv
  refine⟨zO (n:=none),mS ⟨aS3 _,fun r hr'=>?_⟩⟩
  have hrD:r ≠ D:=fun z=>by rw [z,c.acc] at hr'; cases hr'
  have hrH:H r=none:=c.same.free hr'
  refine c.yes (bK hr' _) ⟨bs ++ [r],by simp,by simp [hbl],?_,fun b hm=>?_⟩
  ·refine aX6.mpr ⟨nd,aQ1 _ _,fun b hb1 b' hb2 e=>?_⟩
   rw [aN7.mp hb2] at e
   rw [e] at hb1
   rw [(hb r hb1).2] at hr'; cases hr'
  ·rcases aO4.mp hm with hm | hm
   ·have hbD:b ≠ D:=fun z=>by
     rw [z] at hm
     have:=(hb D hm).2
     rw [c.acc] at this
     have:bs.map V.ref = []:=by injection this with e1; injection e1
     have:bs = []:=List.map_eq_nil_iff.mp this
     rw [this] at hm; simp at hm
    refine⟨(hb b hm).1,?_⟩
    rw [aZ hbD,aZ (dC (hb b hm).2 hr')]
    exact (hb b hm).2
   ·rw [aN7.mp hm]
    exact⟨hrH,by rw [aZ hrD,bJ]⟩
 ·obtain ⟨bs,rfl,hbl,nd,hb⟩:=hPv
  rw [lw] at hbl
  have R0:gP H H' D bs (fun k=>aN (ls.take 0) k):=by
   refine⟨hD,fun b hm=>⟨(hb b hm).1,fun z=>?_⟩,nd,hDa,fun k b hk=>(hb b (aN8 hk)).2,sm⟩
   rw [z] at hm
   have:=(hb D hm).2
   rw [hDa] at this
   have:bs.map V.ref = []:=by injection this with e1; injection e1
   have:bs = []:=List.map_eq_nil_iff.mp this
   rw [this] at hm; simp at hm
  have lL:=hL.length
  refine⟨_,rfl,a,_,_,_,rfl,rfl,aM.of (sm _ _ ha),rfl,q',rfl,⟨_,aM.of (sm _ _ hq)⟩,wR (K:=K) (a:=q') (xs:=ys) (fun i σ H2=>∃ x y:Option V,σ = [some (.ref a),some (.ref D),x,y]/\gP H H2 D bs (fun k=>aN (ls.take i) k))
   ⟨none,none,rfl,R0⟩ (fun i σ H2 _ ⟨_,_,_,R⟩=>aM.of (R.same _ _ hq)) ?_ ?_⟩
  ·rintro i y σ H2 hi ⟨x1,x2,rfl,R⟩
   obtain ⟨l,b,hl,rfl,hbt⟩:=hL.get hi
   have hlm:l ∈ ls:=aN8 hl
   obtain ⟨⟨h1,h2⟩,h3,h4⟩:=hin l hlm
   have k1:l.1.toNat < bs.length:=by lia
   have k2:l.2.toNat < bs.length:=by lia
   have e1:bs[l.1.toNat]? = some (bs[l.1.toNat]):=aN5 k1
   have e2:bs[l.2.toNat]? = some (bs[l.2.toNat]):=aN5 k2
   refine⟨b,_,rfl,aM.of (R.same _ _ hbt),rfl,_,_,rfl,_,_,rfl,rfl,?_⟩
   refine⟨_,rfl,_,rfl,D,_,_,.ref bs[l.1.toNat],rfl,rfl,aJ.of R.row,lB h1 (by rw [aO5,e1]; rfl),jM (aJ.of (R.rows _ _ e1)),_,rfl,_,_,_,rfl,rfl,R.rows _ _ e1,?_,?_⟩
   ·rw [aN6]
    have:=p6 (ls.take i) (l.1.toNat:Nat)
    rw [aV4] at this
    exact gG (by lia)
   ·have R1:=R.app e1 l.2
    refine⟨_,rfl,_,rfl,D,_,_,.ref bs[l.2.toNat],rfl,rfl,aJ.of R1.row,lB h3 (by rw [aO5,e2]; rfl),jM (aJ.of (R1.rows _ _ e2)),_,rfl,_,_,_,rfl,rfl,R1.rows _ _ e2,?_,?_⟩
    ·rw [aN6]
     have:=p6 (ls.take i) (l.2.toNat:Nat)
     rw [aV4] at this
     split
     ·rw [aP7,aS2]; exact gG (by lia)
     ·exact gG (by lia)
    ·have R2:=R1.app e2 l.1
     refine⟨_,_,rfl,R2.congr fun k hk=>?_⟩
     rw [zQ hl]
     have c1:(k=l.1.toNat) ↔ l.1=(k:Int):=by lia
     have c2:(k=l.2.toNat) ↔ l.2=(k:Int):=by lia
     by_cases d1:k=l.1.toNat
     ·by_cases d2:k=l.2.toNat
      ·rw [if_pos d2,if_pos d1,if_pos (c1.mp d1),if_pos (c2.mp d2)]; simp
      ·rw [if_neg d2,if_pos d1,if_pos (c1.mp d1),if_neg (fun z=>d2 (c2.mpr z))]; simp
     ·by_cases d2:k=l.2.toNat
      ·rw [if_pos d2,if_neg d1,if_neg (fun z=>d1 (c1.mpr z)),if_pos (c2.mp d2)]; simp
      ·rw [if_neg d2,if_neg d1,if_neg (fun z=>d1 (c1.mpr z)),if_neg (fun z=>d2 (c2.mpr z))]; simp
  ·
   rintro σ H2 ⟨x1,x2,rfl,R⟩
   refine⟨_,rfl,q D bs H2 hbl ?_⟩
   rw [lL,aU5] at R
   exact R
noncomputable abbrev T8:Stmt:=b5 37
theorem rL:FnScope ["web","beside","one","other"] ["web"] (aY T8):=.au
theorem aI3 (F:eF K "_law_beside" "_law_beside" T8 f fd):cH P w K mg base dE 1 f fd ["web"] qG:=by
 refine F.ok rL (fun vs H Q E h=>?_) (fun cdv A outer s H vs Q E hr h=>?_)
 ·obtain ⟨v,ws,ls,rfl,_⟩:=h
  rfl
 obtain ⟨v,ws,ls,rfl,W,hn,hm,hin,q⟩:=h
 refine⟨_,jZ (yX (i:=1) (N:=["hearth"]) (fr:=[none]) rfl (c7.of rfl rfl) (oA (iP mG (pv 0) jY (fun _ _=>rfl)))
   ⟨fun _ _ _ _=>eC (i:=0) (aQ1 _ _) rfl (Or.inl rfl) (.inr rfl),fun _ _ _ _=>mM,fun _ _ _ _=>sD dD⟩ rL.nd rfl rfl rfl)
  (jZ (rR ba7 rfl (oA (iP mG (pv 0) jY (fun _ _=>rfl))) (l4 (n:=2) rfl (gB (eC (i:=2) rL.nd rfl (Or.inl rfl) (.inr rfl)) (gB (eC (i:=3) rL.nd rfl (Or.inl rfl) (.inr rfl)) kZ)) )
   (jZ (k7 (kB aT9 aY0 aY1 l8 (iP mF (pv 1) (pv 2) (fun _ _=>rfl)) (cL (pv 3) dD)))
   (k6 (k7 (kB aT9 aY0 aY1 l8 (iP mF (pv 1) (pv 3) (fun _ _=>rfl)) (cL (pv 2) dD))))))
  (k6 (kY (pv 1)))),?_⟩
 obtain ⟨a,p,q',ys,rfl,ha,hp,hq,hL⟩:=W.at_
 have lw:(ws.map V.int).length=ws.length:=aN6 _
 refine⟨_,rfl,a,_,_,_,rfl,rfl,aM.of ha,rfl,p,rfl,⟨_,aM.of hp⟩,zA (yZ (aM.of hp)) (fun i acc H'=>∃ bs:List Addr,acc=bs.map V.ref/\bs.length=i/\bs.Nodup/\∀ b ∈ bs,H b=none/\H' b=some (.lst [])) (by rw [lw]; exact aT1 (mL hn))
  (fun D hD=>⟨[],rfl,rfl,List.nodup_nil,fun _ z=>nomatch z⟩) (fun i x acc D H' hx c hPv=>?_) (fun D acc H' hD sm hDa hlen hPv=>?_)⟩
 ·obtain ⟨bs,rfl,hbl,nd,hb⟩:=hPv
  refine⟨zO (n:=none),mS ⟨aS3 _,fun r hr'=>?_⟩⟩
  have hrD:r ≠ D:=fun z=>by rw [z,c.acc] at hr'; cases hr'
  have hrH:H r=none:=c.same.free hr'
  refine c.yes (bK hr' _) ⟨bs ++ [r],by simp,by simp [hbl],?_,fun b hm=>?_⟩
  ·refine aX6.mpr ⟨nd,aQ1 _ _,fun b hb1 b' hb2 e=>?_⟩
   rw [aN7.mp hb2] at e
   rw [e] at hb1
   rw [(hb r hb1).2] at hr'; cases hr'
  ·rcases aO4.mp hm with hm | hm
   ·have hbD:b ≠ D:=fun z=>by
     rw [z] at hm
     have:=(hb D hm).2
     rw [c.acc] at this
     have:bs.map V.ref = []:=by injection this with e1; injection e1
     have:bs = []:=List.map_eq_nil_iff.mp this
     rw [this] at hm; simp at hm
    refine⟨(hb b hm).1,?_⟩
    rw [aZ hbD,aZ (dC (hb b hm).2 hr')]
    exact (hb b hm).2
   ·rw [aN7.mp hm]
    exact⟨hrH,by rw [aZ hrD,bJ]⟩
 ·obtain ⟨bs,rfl,hbl,nd,hb⟩:=hPv
  rw [lw] at hbl
  have R0:gP H H' D bs (fun k=>aN (ls.take 0) k):=by
   refine⟨hD,fun b hm=>⟨(hb b hm).1,fun z=>?_⟩,nd,hDa,fun k b hk=>(hb b (aN8 hk)).2,sm⟩
   rw [z] at hm
   have:=(hb D hm).2
   rw [hDa] at this
   have:bs.map V.ref = []:=by injection this with e1; injection e1
   have:bs = []:=List.map_eq_nil_iff.mp this
   rw [this] at hm; simp at hm
  have lL:=hL.length
  refine⟨_,rfl,a,_,_,_,rfl,rfl,aM.of (sm _ _ ha),rfl,q',rfl,⟨_,aM.of (sm _ _ hq)⟩,wR (K:=K) (a:=q') (xs:=ys) (fun i σ H2=>∃ x y:Option V,σ = [some (.ref a),some (.ref D),x,y]/\gP H H2 D bs (fun k=>aN (ls.take i) k))
   ⟨none,none,rfl,R0⟩ (fun i σ H2 _ ⟨_,_,_,R⟩=>aM.of (R.same _ _ hq)) ?_ ?_⟩
  ·rintro i y σ H2 hi ⟨x1,x2,rfl,R⟩
   obtain ⟨l,b,hl,rfl,hbt⟩:=hL.get hi
   have hlm:l ∈ ls:=aN8 hl
   obtain ⟨⟨h1,h2⟩,h3,h4⟩:=hin l hlm
   have k1:l.1.toNat < bs.length:=by lia
   have k2:l.2.toNat < bs.length:=by lia
   have e1:bs[l.1.toNat]? = some (bs[l.1.toNat]):=aN5 k1
   have e2:bs[l.2.toNat]? = some (bs[l.2.toNat]):=aN5 k2
   refine⟨b,_,rfl,aM.of (R.same _ _ hbt),rfl,_,_,rfl,_,_,rfl,rfl,?_⟩
   refine⟨_,rfl,_,rfl,D,_,_,.ref bs[l.1.toNat],rfl,rfl,aJ.of R.row,lB h1 (by rw [aO5,e1]; rfl),jM (aJ.of (R.rows _ _ e1)),_,rfl,_,_,_,rfl,rfl,R.rows _ _ e1,?_,?_⟩
   ·rw [aN6]
    have:=p6 (ls.take i) (l.1.toNat:Nat)
    rw [aV4] at this
    exact gG (by lia)
   ·have R1:=R.app e1 l.2
    refine⟨_,rfl,_,rfl,D,_,_,.ref bs[l.2.toNat],rfl,rfl,aJ.of R1.row,lB h3 (by rw [aO5,e2]; rfl),jM (aJ.of (R1.rows _ _ e2)),_,rfl,_,_,_,rfl,rfl,R1.rows _ _ e2,?_,?_⟩
    ·rw [aN6]
     have:=p6 (ls.take i) (l.2.toNat:Nat)
     rw [aV4] at this
     split
     ·rw [aP7,aS2]; exact gG (by lia)
     ·exact gG (by lia)
    ·have R2:=R1.app e2 l.1
     refine⟨_,_,rfl,R2.congr fun k hk=>?_⟩
     rw [zQ hl]
     have c1:(k=l.1.toNat) ↔ l.1=(k:Int):=by lia
     have c2:(k=l.2.toNat) ↔ l.2=(k:Int):=by lia
     by_cases d1:k=l.1.toNat
     ·by_cases d2:k=l.2.toNat
      ·rw [if_pos d2,if_pos d1,if_pos (c1.mp d1),if_pos (c2.mp d2)]; simp
      ·rw [if_neg d2,if_pos d1,if_pos (c1.mp d1),if_neg (fun z=>d2 (c2.mpr z))]; simp
     ·by_cases d2:k=l.2.toNat
      ·rw [if_pos d2,if_neg d1,if_neg (fun z=>d1 (c1.mpr z)),if_pos (c2.mp d2)]; simp
      ·rw [if_neg d2,if_neg d1,if_neg (fun z=>d1 (c1.mpr z)),if_neg (fun z=>d2 (c2.mpr z))]; simp
  ·
   rintro σ H2 ⟨x1,x2,rfl,R⟩
   refine⟨_,rfl,q D bs H2 hbl ?_⟩
   rw [lL,aU5] at R
   exact R
theorem aI4:FnScope ["prices","many"] ["prices","many"] (aY (b5 6)):=.au
theorem aI5 (B:Bt mg) (F:FM K mg "made_prices" 6 f fd)  : Df P w K mg base 1 "made_prices" ["prices","many"] qL:=
 Df.au F aI4 (fun cdv A outer s H E hr=>by
  exact⟨(K7),(aI (cW (uE (dX B (a8 (qv 0) aA)) (qv 1)) (aW uI) cV)
   (aI (cW (kQ (ay5 B rfl (a8 (nK (N:=["price"]) (fr:=[none]) (eN (qv 0)) (fun _ _ _ _=>(C9 (qv 0) aD))) aA))) (aW uI) cV)
   (aW (bV (j7 B (a8 (qv 0) aA)))))),ay6⟩)
theorem aI6:FnScope ["web"] ["web"] (aY (b5 9)):=.au
theorem aI7 (B:Bt mg) (F:FM K mg "hearths_in" 9 f fd)  : Df P w K mg base 1 "hearths_in" ["web"] gX:=
 Df.au F aI6 (fun cdv A outer s H E hr=>by
  exact⟨(G2),(aW (bV (dX B (a8 (b9 (qv 0) aD) aA)))),au0⟩)
theorem T9:FnScope ["hearths","inside","hearth"] ["hearths"] (aY (b5 14)):=.au
theorem aI8 (B:Bt mg) (F:FM K mg "marked" 14 f fd)  : Df P w K mg base 1 "marked" ["hearths"] lU:=
 Df.au F T9 (fun cdv A outer s H E hr=>by
  have nd:=T9.nd
  have hu:=sV hr
  exact⟨(G8),(aI (fA (i:=1) nd ar3)
   (aI (gV 2 nd (eN (qv 0))
    (aW (E5 hu (i:=1) (qv 2) kN)))
   (aW (nF 1)))),au7⟩)
theorem aI9:FnScope ["around","hearth","elder"] ["around","hearth","elder"] (aY (b5 24)):=.au
theorem aJ0 (B:Bt mg) (F:FM K mg "children_of" 24 f fd)  : Df P w K mg base 1 "children_of" ["around","hearth","elder"] m5:=
 Df.au F aI9 (fun cdv A outer s H E hr=>by
  exact⟨(O6),(aW (bV (F6 (N:=["other","elder"]) (fr:=[none,some 2]) (eN (b9 (qv 0) (qv 1))) (fun _ _ _ _=>(aB2 (qv 0) (qv 1))) (fun _ _ _ _=>(qv 0))))),aE0⟩)
theorem aJ1:FnScope ["want"] ["want"] (aY (b5 28)):=.au
theorem aJ2 (B:Bt mg) (F:FM K mg "one_less" 28 f fd)  : Df P w K mg base 1 "one_less" ["want"] rE:=
 Df.au F aJ1 (fun cdv A outer s H E hr=>by
  exact⟨(R4),(aW (bV (nH B rfl (a8 aD (a8 (j4 (qv 0) aD) aA))))),aF5⟩)
theorem U0:FnScope ["want","price","below","gaps","dearer"] ["want","price","below"] (aY (b5 29)):=.au
theorem aJ3 (B:Bt mg) (F:FM K mg "most_for" 29 f fd)  : Df P w K mg base 1 "most_for" ["want","price","below"] o0:=
 Df.au F U0 (fun cdv A outer s H E hr=>by
  have nd:=U0.nd
  exact⟨(R5),(aI (bB (i:=3) nd (E8 B (a8 (K0 (N:=["a","b"]) (fr:=[none,none]) (eN (qv 2)) (fun _ _ _ _=>(j4 (qv 1) (qv 0)))) aA)))
   (aI (bB (i:=4) nd (qv 1))
   (aI (cW (aq7 (dX B (a8 (qv 3) aA)) (qv 0)) (aW (bB (i:=4) nd (nG B rfl (a8 (qv 1) (a8 (qK B rfl (a8 (uN (qv 3) F5 (pV (qv 0))) aA)) aA))))) cV)
   (aW (bV (cG (qK B rfl (a8 (K0 (N:=["a","b"]) (fr:=[none,none]) (eN (qv 2)) (fun _ _ _ _=>(qv 0))) aA)) (qv 4))))))),aF6⟩)
theorem aJ4:FnScope ["script","k"] ["script","k"] (aY (b5 31)):=.au
theorem aJ5 (B:Bt mg) (F:FM K mg "_law_cell_at" 31 f fd)  : Df P w K mg base 1 "_law_cell_at" ["script","k"] fC:=
 Df.au F aJ4 (fun cdv A outer s H E hr=>by
  exact⟨(G9),(aI (cW (pR (qv 1) (dX B (a8 (qv 0) aA))) (aW (bV (b9 (qv 0) (qv 1)))) cV)
   (aW (bV aD))),av0⟩)
theorem U1:FnScope ["number","k","turn"] ["number","k"] (aY (b5 32)):=.au
theorem aJ6 (B:Bt mg) (F:FM K mg "_law_mixed" 32 f fd)  : Df P w K mg base 1 "_law_mixed" ["number","k"] jE:=
 Df.au F U1 (fun cdv A outer s H E hr=>by
  have nd:=U1.nd
  exact⟨(M4),(aI (bB (i:=2) nd (dA (cG (cG (cG (dA (qv 0) aD) (nD (nD aD (qv 1)) (qv 1))) (nD aD (qv 1))) aD) aD))
   (aI (bB (i:=2) nd (dA (nD (qv 2) aD) aD))
   (aW (bV (dA (nD (qv 2) (qv 2)) aD))))),aB3⟩)
theorem aJ7:FnScope ["found"] ["found"] (aY (b5 33)):=.au
theorem aJ8 (B:Bt mg) (F:FM K mg "_law_whole" 33 f fd)  : Df P w K mg base 1 "_law_whole" ["found"] nP:=
 Df.au F aJ7 (fun cdv A outer s H E hr=>by
  exact⟨(J0 K),(aW (bV (uH (as1 B (qv 0)) (uG (ar1 (as2 B (qv 0))))))),av1 (uY K).ii (uY K).ib⟩)
theorem U2:FnScope ["price","want","pairs","alone","gaps","due","needed","least"] ["price","want","pairs"] (aY (b5 40)):=.au
theorem aJ9 (B:Bt mg) (F:FM K mg "_law_due" 40 f fd)  : Df P w K mg base 1 "_law_due" ["price","want","pairs"] rJ:=
 Df.au F U2 (fun cdv A outer s H E hr=>by
  have nd:=U2.nd
  exact⟨(T1),(aI (bB (i:=3) nd (qK B rfl (a8 (nK (N:=["pair"]) (fr:=[none]) (eN (qv 2)) (fun _ _ _ _=>(b9 (qv 0) aD))) aA)))
   (aI (bB (i:=4) nd (E8 B (a8 (nK (N:=["pair"]) (fr:=[none]) (eN (qv 2)) (fun _ _ _ _=>(j4 (b9 (qv 0) aD) (b9 (qv 0) aD)))) aA)))
   (aI (fA (i:=5) nd (fY aA))
   (aI (gV 6 nd (eN (fY (a8 (nH B rfl (a8 aD (a8 (j4 (qv 1) aD) aA))) (a8 (qv 1) aA))))
    (aI (bB (i:=7) nd (cG (qv 0) (qv 3)))
    (aI (cW (aq5 (qv 6) (dX B (a8 (qv 4) aA))) (aW (bB (i:=7) nd (nG B rfl (a8 (qv 7) (a8 (cG (qv 3) (qK B rfl (a8 (uN (qv 4) F5 (pV (qv 6))) aA))) aA))))) cV)
    (aW (jT 5 (qv 7))))))
   (aW (bV (j7 B (a8 (qv 5) aA)))))))),aH3⟩)
theorem aK0:FnScope ["web","number"] ["web","number"] (aY (b5 11)):=.au
theorem aK1 (B:Bt mg) (F:FM K mg "is_hearth" 11 f fd) (d_hearths_in:Df P w K mg base 1 "hearths_in" ["web"] gX):Df P w K mg base 2 "is_hearth" ["web","number"] pY:=
 Df.au F aK0 (fun cdv A outer s H E hr=>by
  exact⟨(G3),(aW (bV (uH (aq4 (qv 1) aD) (uG (C9 (qv 1) (b6 d_hearths_in hr (a8 (qv 0) aA))))))),au1⟩)
theorem U3:FnScope ["hearths","some","gone"] ["hearths","some"] (aY (b5 15)):=.au
theorem aK2 (B:Bt mg) (F:FM K mg "without" 15 f fd) (d_marked:Df P w K mg base 1 "marked" ["hearths"] lU):Df P w K mg base 2 "without" ["hearths","some"] lW:=
 Df.au F U3 (fun cdv A outer s H E hr=>by
  have nd:=U3.nd
  have hu:=sV hr
  exact⟨(K2),(aI (bB (i:=2) nd (b6 d_marked hr (a8 (qv 1) aA)))
   (aW (bV (j7 B (a8 (F6 (N:=["hearth","gone"]) (fr:=[none,some 2]) (eN (qv 0)) (fun _ _ _ _=>(E2 hu (qv 0) (qv 1))) (fun _ _ _ _=>(qv 0))) aA))))),ax2⟩)
theorem U4:FnScope ["around","hearths","inside","reached","waiting","hearth","other"] ["around","hearths"] (aY (b5 19)):=.au
theorem aK3 (B:Bt mg) (F:FM K mg "first_piece" 19 f fd) (d_marked:Df P w K mg base 1 "marked" ["hearths"] lU):Df P w K mg base 2 "first_piece" ["around","hearths"] qQ:=
 Df.au F U4 (fun cdv A outer s H E hr=>by
  have nd:=U4.nd
  have hu:=sV hr
  exact⟨(L6),(aI (bB (i:=2) nd (b6 d_marked hr (a8 (qv 1) aA)))
   (aI (fA (i:=3) nd (az9 (b9 (qv 1) aD)))
   (aI (fA (i:=4) nd (fY (a8 (b9 (qv 1) aD) aA)))
   (aI (pU ba7 (pT (qv 4))
    (aI (aA0 nd 4 5)
    (aW (gV 6 nd (eN (b9 (qv 0) (qv 5)))
     (aW (cW (uF (ar0 (aq8 hu (qv 6) (qv 2)) (aq9 (E2 hu (qv 6) (qv 3))))) (aI (E5 hu (i:=3) (qv 6) kN)
      (aW (jT 4 (qv 6)))) cV))))))
   (aW (bV (j7 B (a8 (ax9 B rfl (a8 (qv 3) aA)) aA)))))))),aA4⟩)
theorem aK4:FnScope ["want","price","below"] ["want","price","below"] (aY (b5 27)):=.au
theorem aK5 (B:Bt mg) (F:FM K mg "most_pair" 27 f fd) (d_most_for:Df P w K mg base 1 "most_for" ["want","price","below"] o0) (d_one_less:Df P w K mg base 1 "one_less" ["want"] rE):Df P w K mg base 2 "most_pair" ["want","price","below"] rF:=
 Df.au F aK4 (fun cdv A outer s H E hr=>by
  exact⟨(R7),(aW (bV (jS (a8 (b6 d_most_for hr (a8 (b6 d_one_less hr (a8 (qv 0) aA)) (a8 (qv 1) (a8 (qv 2) aA)))) (a8 (b6 d_most_for hr (a8 (qv 0) (a8 (qv 1) (a8 (qv 2) aA)))) aA))))),aF7⟩)
theorem U5:FnScope ["script","most","number"] ["script","most"] (aY (b5 34)):=.au
theorem aK6 (B:Bt mg) (F:FM K mg "_law_hearths" 34 f fd) (d__law_cell_at:Df P w K mg base 1 "_law_cell_at" ["script","k"] fC):Df P w K mg base 2 "_law_hearths" ["script","most"] qU:=
 Df.au F U5 (fun cdv A outer s H E hr=>by
  have nd:=U5.nd
  exact⟨(M5),(aI (bB (i:=2) nd (b6 d__law_cell_at hr (a8 (qv 0) (a8 aD aA))))
   (aI (cW (pS (dA (qv 2) aD) aD) (aW (bV (nG B rfl (a8 (qv 1) (a8 (nH B rfl (a8 aD (a8 (j4 (dX B (a8 (qv 0) aA)) aD) aA))) aA))))) cV)
   (aI (cW (pS (dA (qv 2) aD) aD) (aW (bV (dA (cG (iB (qv 2) aD) aD) (cG (qv 1) aD)))) cV)
   (aW (bV (dA (cG (iB (qv 2) aD) aD) (cG (nG B rfl (a8 aD (a8 (qv 1) aA))) aD))))))),aB4⟩)
theorem U6:FnScope ["script","many","digits","places","number","k","spot"] ["script","many","digits"] (aY (b5 35)):=.au
theorem aK7 (B:Bt mg) (F:FM K mg "_law_places" 35 f fd) (d__law_cell_at:Df P w K mg base 1 "_law_cell_at" ["script","k"] fC) (d__law_mixed:Df P w K mg base 1 "_law_mixed" ["number","k"] jE):Df P w K mg base 2 "_law_places" ["script","many","digits"] rC:=
 Df.au F U6 (fun cdv A outer s H E hr=>by
  have nd:=U6.nd
  exact⟨(P5),(aI (fA (i:=3) nd (J2 B (qv 1)))
   (aI (bB (i:=4) nd (b6 d__law_cell_at hr (a8 (qv 0) (a8 aD aA))))
   (aI (cW (pS (dA (iB (b6 d__law_cell_at hr (a8 (qv 0) (a8 aD aA))) aD) aD) aD) (aI (fA (i:=3) nd (fY aA))
    (aW (gV 5 nd (lR rfl B.range (qv 1))
     (aI (bB (i:=6) nd (b6 d__law_mixed hr (a8 (b6 d__law_cell_at hr (a8 (qv 0) (a8 aD aA))) (a8 (cG (qv 5) aD) aA))))
     (aI (cW (pT (qv 2)) (aI (bB (i:=6) nd (qv 4))
      (aW (bB (i:=4) nd (iB (qv 4) (cG (qv 5) aD))))) cV)
     (aW (az5 3 (dA (qv 6) (cG (qv 5) aD)) (qv 5)))))))) cV)
   (aW (nF 3))))),aE8⟩)
theorem U7:FnScope ["web","beside","elders","order","root","at","other"] ["web"] (aY (b5 38)):=.au
theorem aK8 (B:Bt mg) (F:FM K mg "_law_elders" 38 f fd) (d__law_beside:Df P w K mg base 1 "_law_beside" ["web"] M6):Df P w K mg base 2 "_law_elders" ["web"] rH:=
 Df.au F U7 (fun cdv A outer s H E hr=>by
  have nd:=U7.nd
  exact⟨(S8),(aI (bB (i:=1) nd (b6 d__law_beside hr (a8 (qv 0) aA)))
   (aI (fA (i:=2) nd (qI (fY (a8 C7 aA)) (dX B (a8 (b9 (qv 0) aD) aA))))
   (aI (fA (i:=3) nd (fY aA))
   (aI (gV 4 nd (lR rfl B.range (dX B (a8 (b9 (qv 0) aD) aA)))
    (aW (cW (F1 (qv 4) (qv 3)) (aI (jT 3 (qv 4))
     (aI (bB (i:=5) nd (j4 (dX B (a8 (qv 3) aA)) aD))
     (aW (pU ba7 (pR (qv 5) (dX B (a8 (qv 3) aA)))
      (aI (gV 6 nd (eN (b9 (qv 1) (b9 (qv 3) (qv 5))))
       (aW (cW (F1 (qv 6) (qv 3)) (aI (nL (i:=2) (qv 6) (b9 (qv 3) (qv 5)))
        (aW (jT 3 (qv 6)))) cV)))
      (aW (bB (i:=5) nd (cG (qv 5) aD)))))))) cV)))
   (aW (uJ 2 (uJ 3 (bV (ar2 (a8 (qv 2) (a8 (qv 3) aA))))))))))),aH0⟩)
theorem U8:FnScope ["script","many","prices","k","number"] ["script","many"] (aY (b5 39)):=.au
theorem aK9 (B:Bt mg) (F:FM K mg "_law_prices" 39 f fd) (d__law_mixed:Df P w K mg base 1 "_law_mixed" ["number","k"] jE) (d__law_cell_at:Df P w K mg base 1 "_law_cell_at" ["script","k"] fC):Df P w K mg base 2 "_law_prices" ["script","many"] qW:=
 Df.au F U8 (fun cdv A outer s H E hr=>by
  have nd:=U8.nd
  exact⟨(M9),(aI (fA (i:=2) nd (fY aA))
   (aI (gV 3 nd (lR rfl B.range (qv 1))
    (aI (bB (i:=4) nd (b6 d__law_mixed hr (a8 (b6 d__law_cell_at hr (a8 (qv 0) (a8 aD aA))) (a8 (cG (qv 3) aD) aA))))
    (aI (cW (pR (cG aD (qv 3)) (dX B (a8 (qv 0) aA))) (aW (bB (i:=4) nd (cG (iB (b9 (qv 0) (cG aD (qv 3))) aD) (b6 d__law_cell_at hr (a8 (qv 0) (a8 aD aA)))))) cV)
    (aW (jT 2 (b9 (fY (a8 (dA (qv 4) aD) (a8 (cG aD (dA (qv 4) aD)) (a8 (dA (qv 4) (C8 aD aD)) (a8 (cG (C8 aD aD) (dA (qv 4) aD)) aA))))) (dA (iB (qv 4) aD) aD)))))))
   (aW (nF 2)))),aC2⟩)
theorem aL0:FnScope ["web","numbers"] ["web","numbers"] (aY (b5 12)):=.au
theorem aL1 (B:Bt mg) (F:FM K mg "is_set" 12 f fd) (d_rises:Df P w K mg base 1 "rises" ["things"] uS) (d_is_hearth:Df P w K mg base 2 "is_hearth" ["web","number"] pY):Df P w K mg base 3 "is_set" ["web","numbers"] pZ:=
 Df.au F aL0 (fun cdv A outer s H E hr=>by
  exact⟨(G4),(aW (bV (uH (b6 d_rises hr (a8 (qv 1) aA)) (uG (ar7 B rfl (a8 (nK (N:=["number","web"]) (fr:=[none,some 0]) (eN (qv 1)) (fun _ _ _ _=>(b6 d_is_hearth hr (a8 (qv 1) (a8 (qv 0) aA))))) aA)))))),au2⟩)
theorem aL2:FnScope ["web","some"] ["web","some"] (aY (b5 16)):=.au
theorem aL3 (B:Bt mg) (F:FM K mg "all_but" 16 f fd) (d_without:Df P w K mg base 2 "without" ["hearths","some"] lW) (d_hearths_in:Df P w K mg base 1 "hearths_in" ["web"] gX):Df P w K mg base 3 "all_but" ["web","some"] qP:=
 Df.au F aL2 (fun cdv A outer s H E hr=>by
  exact⟨(L4),(aW (bV (b6 d_without hr (a8 (J2 B (b6 d_hearths_in hr (a8 (qv 0) aA))) (a8 (qv 1) aA))))),az7⟩)
theorem U9:FnScope ["script","most","many","digits","links","counts","cells","k","number","elder","places","wants","pairs"] ["script","most"] (aY (b5 36)):=.au
theorem aL4 (B:Bt mg) (F:FM K mg "_law_wood" 36 f fd) (d__law_hearths:Df P w K mg base 2 "_law_hearths" ["script","most"] qU) (d__law_cell_at:Df P w K mg base 1 "_law_cell_at" ["script","k"] fC) (d__law_mixed:Df P w K mg base 1 "_law_mixed" ["number","k"] jE) (d__law_places:Df P w K mg base 2 "_law_places" ["script","many","digits"] rC):Df P w K mg base 3 "_law_wood" ["script","most"] rD:=
 Df.au F U9 (fun cdv A outer s H E hr=>by
  have nd:=U9.nd
  exact⟨(R3),(aI (bB (i:=2) nd (b6 d__law_hearths hr (a8 (qv 0) (a8 (qv 1) aA))))
   (aI (bB (i:=3) nd (E1 (dA (iB (b6 d__law_cell_at hr (a8 (qv 0) (a8 aD aA))) aD) aD) aD))
   (aI (fA (i:=4) nd (fY aA))
   (aI (fA (i:=5) nd (qI (fY (a8 aD aA)) (qv 2)))
   (aI (fA (i:=6) nd (uN (qv 0) (pV aD) (pV (cG aD (qv 2)))))
   (aI (gV 7 nd (E6 rfl B.range (dX B (a8 (qv 6) aA)) (qv 2))
    (aW (jT 6 (b6 d__law_mixed hr (a8 (b6 d__law_cell_at hr (a8 (qv 0) (a8 aD aA))) (a8 (qv 7) aA))))))
   (aI (gV 7 nd (E6 rfl B.range aD (qv 2))
    (aI (bB (i:=8) nd (b6 d__law_mixed hr (a8 (b9 (qv 6) (qv 7)) (a8 (qv 7) aA))))
    (aI (cW (pT (qv 3)) (aW (bB (i:=8) nd (iB (b9 (qv 6) (qv 7)) aD))) cV)
    (aW (cW (aq6 (dA (qv 8) aD) aD) (aI (bB (i:=9) nd (dA (iB (qv 8) aD) (qv 7)))
     (aI (cW (pS (dA (b6 d__law_cell_at hr (a8 (qv 0) (a8 aD aA))) aD) aD) (aW (bB (i:=9) nd (nH B rfl (a8 aD (a8 (j4 (j4 (qv 7) aD) (dA (iB (qv 8) aD) aD)) aA))))) cV)
     (aI (jT 4 (jS (a8 (qv 9) (a8 (qv 7) aA))))
     (aI (nL (i:=5) (qv 9) (cG (b9 (qv 5) (qv 9)) aD))
     (aW (nL (i:=5) (qv 7) (cG (b9 (qv 5) (qv 7)) aD))))))) cV)))))
   (aI (bB (i:=10) nd (b6 d__law_places hr (a8 (qv 0) (a8 (qv 2) (a8 (qv 3) aA)))))
   (aI (fA (i:=11) nd (qI (fY (a8 aD aA)) (qv 2)))
   (aI (gV 7 nd (lR rfl B.range (qv 2))
    (aW (nL (i:=11) (b9 (qv 10) (qv 7)) (dA (b9 (qv 6) (qv 7)) (cG (b9 (qv 5) (qv 7)) aD)))))
   (aI (uJ 4 (aw8 (i:=12) nd (N:=["one","other","places"]) (fr:=[none,none,some 10]) (eN (qv 4)) (fun _ _ _ _=>(jS (a8 (nG B rfl (a8 (b9 (qv 2) (qv 0)) (a8 (b9 (qv 2) (qv 1)) aA))) (a8 (nH B rfl (a8 (b9 (qv 2) (qv 0)) (a8 (b9 (qv 2) (qv 1)) aA))) aA))))))
   (aW (bV (jS (a8 (j7 B (a8 (qv 11) aA)) (a8 (j7 B (a8 (av8 B (a8 (qv 12) aA)) aA)) aA)))))))))))))))),aF4⟩)
theorem aL5:FnScope ["web","hearths"] ["web","hearths"] (aY (b5 13)):=.au
theorem aL6 (B:Bt mg) (F:FM K mg "made_set" 13 f fd) (d_is_set:Df P w K mg base 3 "is_set" ["web","numbers"] pZ) (x_BadSet:Xc K mg base "BadSet"):fZ P w K mg base 4 "made_set" ["web","hearths"] qN:=
 fZ.au F aL5 L1 az3 (fun cdv A outer s H E Ep hr hX=>by
  exact (aI (cW (lQ (kQ (b6 d_is_set hr (a8 (qv 0) (a8 (qv 1) aA))))) (aW (az1 hX x_BadSet (a8 aq3 aA))) cV)
   (aW (bV (j7 B (a8 (qv 1) aA))))))
theorem V0:FnScope ["web","block","around","left","pieces","piece"] ["web","block"] (aY (b5 18)):=.au
theorem aL7 (B:Bt mg) (F:FM K mg "cold_pieces" 18 f fd) (d_near_lists:Df P w K mg base 1 "near_lists" ["web"] jB) (d_made_set:fZ P w K mg base 4 "made_set" ["web","hearths"] qN) (d_first_piece:Df P w K mg base 2 "first_piece" ["around","hearths"] qQ) (d_without:Df P w K mg base 2 "without" ["hearths","some"] lW):fZ P w K mg base 5 "cold_pieces" ["web","block"] qT:=
 fZ.au F V0 aA9 aB0 (fun cdv A outer s H E Ep hr hX=>by
  have nd:=V0.nd
  exact (aI (bB (i:=2) nd (b6 d_near_lists hr (a8 (qv 0) aA)))
   (aI (bB (i:=3) nd (ay8 hX d_made_set hr (a8 (qv 0) (a8 (qv 1) aA))))
   (aI (fA (i:=4) nd (fY aA))
   (aI (pU hX.own (pT (qv 3))
    (aI (bB (i:=5) nd (b6 d_first_piece hr (a8 (qv 2) (a8 (qv 3) aA))))
    (aI (jT 4 (qv 5))
    (aW (bB (i:=3) nd (b6 d_without hr (a8 (qv 3) (a8 (qv 5) aA))))))))
   (aW (nF 4)))))))
theorem aL8:FnScope ["web"] ["web"] (aY (b5 22)):=.au
theorem aL9 (B:Bt mg) (F:FM K mg "all_pieces" 22 f fd) (d_cold_pieces:fZ P w K mg base 5 "cold_pieces" ["web","block"] qT) (d_all_but:Df P w K mg base 3 "all_but" ["web","some"] qP):Df P w K mg base 6 "all_pieces" ["web"] lZ:=
 Df.au F aL8 (fun cdv A outer s H E hr=>by
  exact⟨(O0),(aW (bV (ay9 d_cold_pieces hr (a8 (qv 0) (a8 (b6 d_all_but hr (a8 (qv 0) (a8 (jS aA) aA))) aA))))),aD3⟩)
theorem aM0:FnScope ["web"] ["web"] (aY (b5 21)):=.au
theorem aM1 (B:Bt mg) (F:FM K mg "is_wood" 21 f fd) (d_hearths_in:Df P w K mg base 1 "hearths_in" ["web"] gX) (d_all_pieces:Df P w K mg base 6 "all_pieces" ["web"] lZ):Df P w K mg base 7 "is_wood" ["web"] r9:=
 Df.au F aM0 (fun cdv A outer s H E hr=>by
  exact⟨(O5),(aW (bV (E1 (dX B (a8 (b9 (qv 0) aD) aA)) (j4 (b6 d_hearths_in hr (a8 (qv 0) aA)) (dX B (a8 (b6 d_all_pieces hr (a8 (qv 0) aA)) aA)))))),aD9⟩)
theorem V1:FnScope ["web","around","pairs","turn","hearth"] ["web"] (aY (b5 23)):=.au
theorem aM2 (B:Bt mg) (F:FM K mg "from_roots" 23 f fd) (d_is_wood:Df P w K mg base 7 "is_wood" ["web"] r9) (d_near_lists:Df P w K mg base 1 "near_lists" ["web"] jB) (d_all_pieces:Df P w K mg base 6 "all_pieces" ["web"] lZ) (d_children_of:Df P w K mg base 1 "children_of" ["around","hearth","elder"] m5):Df P w K mg base 8 "from_roots" ["web"] rB:=
 Df.au F V1 (fun cdv A outer s H E hr=>by
  have nd:=V1.nd
  exact⟨(O9),(aI (cW (lQ (kQ (b6 d_is_wood hr (a8 (qv 0) aA)))) (aW uI) cV)
   (aI (bB (i:=1) nd (b6 d_near_lists hr (a8 (qv 0) aA)))
   (aI (as8 (i:=2) nd (N:=["piece"]) (fr:=[none]) (eN (b6 d_all_pieces hr (a8 (qv 0) aA))) (fun _ _ _ _=>(jS (a8 (b9 (qv 0) aD) (a8 C7 aA)))))
   (aI (bB (i:=3) nd aD)
   (aI (pU ba7 (pR (qv 3) (dX B (a8 (qv 2) aA)))
    (aI (bB (i:=4) nd (b9 (b9 (qv 2) (qv 3)) aD))
    (aI (at0 2 (nK (N:=["child","hearth"]) (fr:=[none,some 4]) (eN (b6 d_children_of hr (a8 (qv 1) (a8 (qv 4) (a8 (b9 (b9 (qv 2) (qv 3)) aD) aA))))) (fun _ _ _ _=>(jS (a8 (qv 0) (a8 (qv 1) aA))))))
    (aW (bB (i:=3) nd (cG (qv 3) aD))))))
   (aW (nF 2))))))),aE2⟩)
theorem V2:FnScope ["web","prices","pairs","known","around","ledger","hearth","elder","below"] ["web","prices"] (aY (b5 26)):=.au
theorem aM3 (B:Bt mg) (F:FM K mg "best_ledger" 26 f fd) (d_from_roots:Df P w K mg base 8 "from_roots" ["web"] rB) (d_made_prices:Df P w K mg base 1 "made_prices" ["prices","many"] qL) (d_hearths_in:Df P w K mg base 1 "hearths_in" ["web"] gX) (d_near_lists:Df P w K mg base 1 "near_lists" ["web"] jB) (d_children_of:Df P w K mg base 1 "children_of" ["around","hearth","elder"] m5) (d_most_pair:Df P w K mg base 2 "most_pair" ["want","price","below"] rF) (rv:mg "reversed" = none):Df P w K mg base 9 "best_ledger" ["web","prices"] o5:=
 Df.au F V2 (fun cdv A outer s H E hr=>by
  have nd:=V2.nd
  exact⟨(R9),(aI (bB (i:=2) nd (b6 d_from_roots hr (a8 (qv 0) aA)))
   (aI (bB (i:=3) nd (b6 d_made_prices hr (a8 (qv 1) (a8 (b6 d_hearths_in hr (a8 (qv 0) aA)) aA))))
   (aI (bB (i:=4) nd (b6 d_near_lists hr (a8 (qv 0) aA)))
   (aI (fA (i:=5) nd (qI (fY (a8 (jS (a8 aD (a8 aD aA))) aA)) (b6 d_hearths_in hr (a8 (qv 0) aA))))
   (aI (as5 6 7 nd (aC1 rv (qv 2))
    (aI (as6 (i:=8) nd (N:=["child","ledger"]) (fr:=[none,some 5]) (eN (b6 d_children_of hr (a8 (qv 4) (a8 (qv 6) (a8 (qv 7) aA))))) (fun _ _ _ _=>(b9 (qv 1) (qv 0))))
    (aW (nL (i:=5) (qv 6) (b6 d_most_pair hr (a8 (b9 (b9 (qv 0) aD) (qv 6)) (a8 (b9 (qv 3) (qv 6)) (a8 (qv 8) aA))))))))
   (aW (bV (j7 B (a8 (qv 5) aA))))))))),aG2⟩)
theorem V3:FnScope ["script","web","many","prices","handed","found","elders","hearth","pair","pairs"] ["script"] (aY (b5 41)):=.au
theorem aM4 (B:Bt mg) (F:eF K "law" "law" (b5 41) f fd) (d__law_wood:Df P w K mg base 3 "_law_wood" ["script","most"] rD) (d__law_prices:Df P w K mg base 2 "_law_prices" ["script","many"] qW) (d_best_ledger:Df P w K mg base 9 "best_ledger" ["web","prices"] o5) (d__law_elders:Df P w K mg base 2 "_law_elders" ["web"] rH) (d__law_whole:Df P w K mg base 1 "_law_whole" ["found"] nP) (d__law_due:Df P w K mg base 1 "_law_due" ["price","want","pairs"] rJ):cH P w K mg base dE 10 f fd ["script"] (mX K vX):=
 aw5 F V3 (fun xs Q h=>by unfold vX at h; repeat (first | (obtain ⟨rfl,_⟩:=h; rfl) | (obtain ⟨_,h⟩:=h))) (fun cdv A outer s H E hr=>by
  have nd:=V3.nd
  have hu3:=aI0 hr
  exact⟨(T5 K),(aI (bB (i:=1) nd (b6 d__law_wood hr (a8 (qv 0) (a8 aD aA))))
   (aI (bB (i:=2) nd (dX B (a8 (b9 (qv 1) aD) aA)))
   (aI (bB (i:=3) nd (b6 d__law_prices hr (a8 (qv 0) (a8 (qv 2) aA))))
   (aI (bB (i:=4) nd (ar6 B (a8 (qv 3) aA)))
   (aI (bB (i:=5) nd (b6 d_best_ledger hr (a8 (qv 1) (a8 (qv 4) aA))))
   (aI (cW (uF (nE (lQ (kQ (F4 B (qv 5)))) (nE (uE (dX B (a8 (qv 5) aA)) (qv 2)) (E3 (uM hu3 (qv 4) (qv 3)))))) (aW (bV kN)) cV)
   (aI (cW (uM hu3 (b6 d_best_ledger hr (a8 (qv 1) (a8 (j7 B (a8 (qv 3) aA)) aA))) (qv 5)) (aW (bV kN)) cV)
   (aI (bB (i:=6) nd (b9 (b6 d__law_elders hr (a8 (qv 1) aA)) aD))
   (aI (gV 7 nd (lR rfl B.range (qv 2))
    (aI (bB (i:=8) nd (b9 (qv 5) (qv 7)))
    (aI (cW (uF (nE (lQ (kQ (F4 B (qv 8)))) (nE (uE (dX B (a8 (qv 8) aA)) aD) (nE (lQ (kQ (b6 d__law_whole hr (a8 (b9 (qv 8) aD) aA)))) (E3 (lQ (kQ (b6 d__law_whole hr (a8 (b9 (qv 8) aD) aA))))))))) (aW (bV kN)) cV)
    (aI (as7 (i:=9) nd (N:=["other","hearth","elders","found"]) (fr:=[none,some 7,some 6,some 5]) (lR rfl B.range (qv 2)) (fun _ _ _ _=>(aH2 (b9 (qv 2) (qv 0)) (qv 1))) (fun _ _ _ _=>(b9 (qv 3) (qv 0))))
    (aW (cW (uM hu3 (qv 8) (b6 d__law_due hr (a8 (b9 (qv 3) (qv 7)) (a8 (b9 (b9 (qv 1) aD) (qv 7)) (a8 (qv 9) aA))))) (aW (bV kN)) cV))))))
   (aW (bV kN))))))))))),aH9 (uY K).tt⟩)
end
set_option autoImplicit true in
theorem aM5 {l:OpenLaw}{w:World}{K:Frag}{h:Heap}{mg:Str->Option Value} (X:K.In h) (G:h.Ns mainGlobals mg) (hfa:mg "law" = some (.ref fa))
  (h0:FK K "made_prices" 6 f0 d0)
  (h1:FK K "rises" 8 f1 d1)
  (h2:FK K "hearths_in" 9 f2 d2)
  (h3:FK K "near_lists" 10 f3 d3)
  (h4:FK K "marked" 14 f4 d4)
  (h5:FK K "children_of" 24 f5 d5)
  (h6:FK K "one_less" 28 f6 d6)
  (h7:FK K "most_for" 29 f7 d7)
  (h8:FK K "_law_cell_at" 31 f8 d8)
  (h9:FK K "_law_mixed" 32 f9 d9)
  (h10:FK K "_law_whole" 33 f10 d10)
  (h11:FK K "_law_beside" 37 f11 d11)
  (h12:FK K "_law_due" 40 f12 d12)
  (h13:FK K "is_hearth" 11 f13 d13)
  (h14:FK K "without" 15 f14 d14)
  (h15:FK K "first_piece" 19 f15 d15)
  (h16:FK K "most_pair" 27 f16 d16)
  (h17:FK K "_law_hearths" 34 f17 d17)
  (h18:FK K "_law_places" 35 f18 d18)
  (h19:FK K "_law_elders" 38 f19 d19)
  (h20:FK K "_law_prices" 39 f20 d20)
  (h21:FK K "is_set" 12 f21 d21)
  (h22:FK K "all_but" 16 f22 d22)
  (h23:FK K "_law_wood" 36 f23 d23)
  (h24:FK K "made_set" 13 f24 d24)
  (h25:FK K "cold_pieces" 18 f25 d25)
  (h26:FK K "all_pieces" 22 f26 d26)
  (h27:FK K "is_wood" 21 f27 d27)
  (h28:FK K "from_roots" 23 f28 d28)
  (h29:FK K "best_ledger" 26 f29 d29)
  (a30:nsIn K mainGlobals "law" = some (some (.ref f30))) (l30:K.lookup f30=some ⟨oc30,od30,.func (fnOf "law" "law" (iS (b5 41)) (eD (b5 41)) (aY (b5 41)) .none kV30 dc30 pm30 an30 cd30 ct30),sl30⟩) (c30:codeIn K cd30 "law" = true) (k30:keepIn K (.ref f30)=true)
  (z_len:nsIn K mainGlobals "len" = some none)
  (z_range:nsIn K mainGlobals "range" = some none)
  (z_tuple:nsIn K mainGlobals "tuple" = some none)
  (z_list:nsIn K mainGlobals "list" = some none)
  (z_sorted:nsIn K mainGlobals "sorted" = some none)
  (z_all:nsIn K mainGlobals "all" = some none)
  (z_any:nsIn K mainGlobals "any" = some none)
  (z_zip:nsIn K mainGlobals "zip" = some none)
  (z_min:nsIn K mainGlobals "min" = some none)
  (z_max:nsIn K mainGlobals "max" = some none)
  (z_sum:nsIn K mainGlobals "sum" = some none)
  (z_isinstance:nsIn K mainGlobals "isinstance" = some none)
  (z_int:nsIn K mainGlobals "int" = some none)
  (z_bool:nsIn K mainGlobals "bool" = some none)
  (z_enumerate:nsIn K mainGlobals "enumerate" = some none)
  (z_reversed:nsIn K mainGlobals "reversed" = some none)
  {C_HearthError C_BadSet C_BadPrices C_NotWood:Addr}
  (aX_HE:nsIn K mainGlobals "HearthError" = some (some (.ref C_HearthError)))
  (aX_BS:nsIn K mainGlobals "BadSet" = some (some (.ref C_BadSet)))
  (aX_BP:nsIn K mainGlobals "BadPrices" = some (some (.ref C_BadPrices)))
  (aX_NW:nsIn K mainGlobals "NotWood" = some (some (.ref C_NotWood)))
  (zX_BW:nsIn K mainGlobals "BadWeb" = some none)
  (zX_BO:nsIn K mainGlobals "BadOrder" = some none)
  (zX_BB:nsIn K mainGlobals "BadBoard" = some none)
  (zX_BD:nsIn K mainGlobals "BadDeed" = some none)
  (zX_NP:nsIn K mainGlobals "NoPaper" = some none)
  (zX_NS:nsIn K mainGlobals "NoSuch" = some none)
  (zX_TM:nsIn K mainGlobals "TooMany" = some none)
  (zX_NT:nsIn K mainGlobals "NoText" = some none)
  (zX_OR:nsIn K mainGlobals "OddRound" = some none)
  (y_fg:specialIn K (.builtin "object.__class__") "__get__" = some (some (.builtin "getset_descriptor.__get__")))
  (y_ft:takesIn K (.builtin "object.__class__")=some true)
  (z_VE:nsIn K mainGlobals "ValueError" = some none)
  (y1_HE:isClsIn K C_HearthError=true)
  (y2_HE:typeIn K (.ref C_HearthError)=some (.type "type"))
  (y3_HE:findIn K (.ref C_HearthError) "__getattribute__" = some (some (.builtin "BaseException.__getattribute__")))
  (y4_HE:findIn K (.ref C_HearthError) "__getattr__" = some none)
  (y5_HE:findIn K (.ref C_HearthError) "__class__" = some (some (.builtin "object.__class__")))
  (y6_HE:mroIn K C_HearthError (.type "object")=some true)
  (y7_HE:mroIn K C_HearthError (.type "BaseException")=some true)
  (y1_BS:isClsIn K C_BadSet=true)
  (y2_BS:typeIn K (.ref C_BadSet)=some (.type "type"))
  (y3_BS:findIn K (.ref C_BadSet) "__getattribute__" = some (some (.builtin "BaseException.__getattribute__")))
  (y4_BS:findIn K (.ref C_BadSet) "__getattr__" = some none)
  (y5_BS:findIn K (.ref C_BadSet) "__class__" = some (some (.builtin "object.__class__")))
  (y6_BS:mroIn K C_BadSet (.type "object")=some true)
  (y7_BS:mroIn K C_BadSet (.type "BaseException")=some true)
  (y1_BP:isClsIn K C_BadPrices=true)
  (y2_BP:typeIn K (.ref C_BadPrices)=some (.type "type"))
  (y3_BP:findIn K (.ref C_BadPrices) "__getattribute__" = some (some (.builtin "BaseException.__getattribute__")))
  (y4_BP:findIn K (.ref C_BadPrices) "__getattr__" = some none)
  (y5_BP:findIn K (.ref C_BadPrices) "__class__" = some (some (.builtin "object.__class__")))
  (y6_BP:mroIn K C_BadPrices (.type "object")=some true)
  (y7_BP:mroIn K C_BadPrices (.type "BaseException")=some true)
  (y1_NW:isClsIn K C_NotWood=true)
  (y2_NW:typeIn K (.ref C_NotWood)=some (.type "type"))
  (y3_NW:findIn K (.ref C_NotWood) "__getattribute__" = some (some (.builtin "BaseException.__getattribute__")))
  (y4_NW:findIn K (.ref C_NotWood) "__getattr__" = some none)
  (y5_NW:findIn K (.ref C_NotWood) "__class__" = some (some (.builtin "object.__class__")))
  (y6_NW:mroIn K C_NotWood (.type "object")=some true)
  (y7_NW:mroIn K C_NotWood (.type "BaseException")=some true)
  (q_BS:excIn K C_BadSet [.type "ValueError",.type "Exception",.type "BaseException",.type "object"] "ValueError.__new__" = true)
  : ∃ fd:FuncData,(∀ (s:Shared) (v:Value),BindsTo s fd ⟨[v],[]⟩ [("script",v)])/\∀ base:Heap,K.In base->base.Ns mainGlobals mg->cH l.prog w K mg base dE 10 fa fd ["script"] (qH K):=by
 have e:=hfa.symm.trans (mg_of X G a30)
 cases e
 have F30:=ag8 (st:=b5 41) l30 c30 k30
 have m30:=mg_of X G a30
 have B:Bt mg:=⟨mg_none_of X G z_len,mg_none_of X G z_range,mg_none_of X G z_tuple,mg_none_of X G z_list,mg_none_of X G z_sorted,mg_none_of X G z_all,mg_none_of X G z_any,mg_none_of X G z_zip,mg_none_of X G z_min,mg_none_of X G z_max,mg_none_of X G z_sum,mg_none_of X G z_isinstance,mg_none_of X G z_int,mg_none_of X G z_bool,mg_none_of X G z_enumerate⟩
 have rv:=mg_none_of X G z_reversed
 refine⟨fnOf "law" "law" (iS (b5 41)) (eD (b5 41)) (aY (b5 41)) .none kV30 dc30 pm30 an30 cd30 ct30,fun s v=>.of_eq rfl,fun base KB _=>?_⟩
 have XK_HearthError:qM K C_HearthError:=⟨y1_HE,y2_HE,y3_HE,y4_HE,y5_HE,y_fg,y_ft,y6_HE,y7_HE⟩
 have XK_BadSet:qM K C_BadSet:=⟨y1_BS,y2_BS,y3_BS,y4_BS,y5_BS,y_fg,y_ft,y6_BS,y7_BS⟩
 have XK_BadPrices:qM K C_BadPrices:=⟨y1_BP,y2_BP,y3_BP,y4_BP,y5_BP,y_fg,y_ft,y6_BP,y7_BP⟩
 have XK_NotWood:qM K C_NotWood:=⟨y1_NW,y2_NW,y3_NW,y4_NW,y5_NW,y_fg,y_ft,y6_NW,y7_NW⟩
 have x_BadSet:Xc K mg base "BadSet":=⟨C_BadSet,_,_,_,_,az2 KB (mg_of X G aX_BS) q_BS,PySem.F.excBase_ValueError,aX_BS⟩
 have D0:=aI5 (P:=l.prog) (w:=w) (base:=base) B (h0.M X G)
 have D1:=av9 (aI1 (P:=l.prog) (w:=w) (base:=base) B h1.F) (h1.F.binds (ps:=["things"]) fun _ _ _ _ _ _ us hl=>by obtain ⟨_,rfl⟩:=lX hl; rfl) h1.F.kp (mg_of X G h1.a)
 have D2:=aI7 (P:=l.prog) (w:=w) (base:=base) B (h2.M X G)
 have D3:=aw0 (aI2 (P:=l.prog) (w:=w) (mg:=mg) (base:=base) h3.F) (h3.F.binds (ps:=["web"]) fun _ _ _ _ _ _ us hl=>by obtain ⟨_,rfl⟩:=lX hl; rfl) h3.F.kp (mg_of X G h3.a)
 have D4:=aI8 (P:=l.prog) (w:=w) (base:=base) B (h4.M X G)
 have D5:=aJ0 (P:=l.prog) (w:=w) (base:=base) B (h5.M X G)
 have D6:=aJ2 (P:=l.prog) (w:=w) (base:=base) B (h6.M X G)
 have D7:=aJ3 (P:=l.prog) (w:=w) (base:=base) B (h7.M X G)
 have D8:=aJ5 (P:=l.prog) (w:=w) (base:=base) B (h8.M X G)
 have D9:=aJ6 (P:=l.prog) (w:=w) (base:=base) B (h9.M X G)
 have D10:=aJ8 (P:=l.prog) (w:=w) (base:=base) B (h10.M X G)
 have D11:=aB6 (aI3 (P:=l.prog) (w:=w) (mg:=mg) (base:=base) h11.F) (h11.F.binds (ps:=["web"]) fun _ _ _ _ _ _ us hl=>by obtain ⟨_,rfl⟩:=lX hl; rfl) h11.F.kp (mg_of X G h11.a)
 have D12:=aJ9 (P:=l.prog) (w:=w) (base:=base) B (h12.M X G)
 have D13:=aK1 (P:=l.prog) (w:=w) (base:=base) B (h13.M X G) D2
 have D14:=aK2 (P:=l.prog) (w:=w) (base:=base) B (h14.M X G) D4
 have D15:=aK3 (P:=l.prog) (w:=w) (base:=base) B (h15.M X G) D4
 have D16:=aK5 (P:=l.prog) (w:=w) (base:=base) B (h16.M X G) D7 D6
 have D17:=aK6 (P:=l.prog) (w:=w) (base:=base) B (h17.M X G) D8
 have D18:=aK7 (P:=l.prog) (w:=w) (base:=base) B (h18.M X G) D8 D9
 have D19:=aK8 (P:=l.prog) (w:=w) (base:=base) B (h19.M X G) D11
 have D20:=aK9 (P:=l.prog) (w:=w) (base:=base) B (h20.M X G) D9 D8
 have D21:=aL1 (P:=l.prog) (w:=w) (base:=base) B (h21.M X G) D1 D13
 have D22:=aL3 (P:=l.prog) (w:=w) (base:=base) B (h22.M X G) D14 D2
 have D23:=aL4 (P:=l.prog) (w:=w) (base:=base) B (h23.M X G) D17 D8 D9 D18
 have D24:=aL6 (P:=l.prog) (w:=w) (base:=base) B (h24.M X G) D21 x_BadSet
 have D25:=aL7 (P:=l.prog) (w:=w) (base:=base) B (h25.M X G) D3 D24 D15 D14
 have D26:=aL9 (P:=l.prog) (w:=w) (base:=base) B (h26.M X G) D25 D22
 have D27:=aM1 (P:=l.prog) (w:=w) (base:=base) B (h27.M X G) D2 D26
 have D28:=aM2 (P:=l.prog) (w:=w) (base:=base) B (h28.M X G) D27 D3 D26 D5
 have D29:=aM3 (P:=l.prog) (w:=w) (base:=base) B (h29.M X G) D28 D0 D2 D3 D5 D16 rv
 exact aw6 (aM4 B F30 D23 D20 D29 D19 D10 D12)
theorem aM6 {l:OpenLaw}{q:Program}{loose:List Str}{XP:(Str->Option Value)->Heap->Prop}{YP:World->Heap->Prop}{d:DefRec}{K:Params->Frag} (hn:l.most=some 63) (hdf:d.params.defaults = [])
  (hY:∀ (w:World) (h:Heap),YP w h->(K w.params).In h)
  (F:∀ (w:World) (mg:Str->Option Value) (fa:Addr) (h:Heap),(K w.params).In h->h.Ns mainGlobals mg->mg d.name=some (.ref fa)->
   ∃ fd:FuncData,(∀ (s:Shared) (u:Value),BindsTo s fd ⟨[u],[]⟩ [("script",u)])/\∀ base:Heap,(K w.params).In base->base.Ns mainGlobals mg->cH l.prog w (K w.params) mg base dE 10 fa fd ["script"] (qH (K w.params))) :
  WalkO q loose XP YP l.row.toRowW d [] (fun f vs=>PySem.call f vs):=
 L2.ag6 (n:=63) (k:=10) (x:="script") (CX:=fun _=>dE) (sp:=fun w=>qH (K w.params)) hn (by decide) hdf ⟨rfl,by decide,by decide⟩ hY F (fun _ _ a ns hl hO hS=>⟨a,ns,rfl,aw7 hO hS,hl,fun _=>rfl⟩) fun _ _ _ _ _ z=>z
end K_k53
open PySem PySem.W PyProof.Rows
set_option maxRecDepth 100000 in
set_option maxHeartbeats 0 in
theorem PySem.Challenge.cw_kindleweb_k53_best_ledgers_holds : PySem.Challenge.rw_kindleweb_k53_best_ledgers.Holds := by
 w_on; o_law; k_head; (case hw => w_witness2)
 k_fill
 refine K_k53.aM6 (l := PySem.Challenge.rw_kindleweb_k53_best_ledgers) rfl rfl (fun w h Y => PySem.W.kIn_of Y) ?F
 case F =>
  intro w mg fa h KX G hmg
  refine' K_k53.aM5 KX G hmg ?h0 ?h1 ?h2 ?h3 ?h4 ?h5 ?h6 ?h7 ?h8 ?h9 ?h10 ?h11 ?h12 ?h13 ?h14 ?h15 ?h16 ?h17 ?h18 ?h19 ?h20 ?h21 ?h22 ?h23 ?h24 ?h25 ?h26 ?h27 ?h28 ?h29 ?a30 ?l30 ?c30 ?k30 ?z_len ?z_range ?z_tuple ?z_list ?z_sorted ?z_all ?z_any ?z_zip ?z_min ?z_max ?z_sum ?z_isinstance ?z_int ?z_bool ?z_enumerate ?z_reversed ?aX_HE ?aX_BS ?aX_BP ?aX_NW ?zX_BW ?zX_BO ?zX_BB ?zX_BD ?zX_NP ?zX_NS ?zX_TM ?zX_NT ?zX_OR ?y_fg ?y_ft ?z_VE ?y1_HE ?y2_HE ?y3_HE ?y4_HE ?y5_HE ?y6_HE ?y7_HE ?y1_BS ?y2_BS ?y3_BS ?y4_BS ?y5_BS ?y6_BS ?y7_BS ?y1_BP ?y2_BP ?y3_BP ?y4_BP ?y5_BP ?y6_BP ?y7_BP ?y1_NW ?y2_NW ?y3_NW ?y4_NW ?y5_NW ?y6_NW ?y7_NW ?q_BS
  (case h0 | h1 | h2 | h3 | h4 | h5 | h6 | h7 | h8 | h9 | h10 | h11 | h12 | h13 | h14 | h15 | h16 | h17 | h18 | h19 | h20 | h21 | h22 | h23 | h24 | h25 | h26 | h27 | h28 | h29 => exact ⟨by k_is, ⟨⟨_, _, _, _, _, _, _, _, _, rfl, by k_is, by k_is⟩, by k_is⟩⟩)
  (case a30|l30|c30|k30|z_len|z_range|z_tuple|z_list|z_sorted|z_all|z_any|z_zip|z_min|z_max|z_sum|z_isinstance|z_int|z_bool|z_enumerate|z_reversed|aX_HE|aX_BS|aX_BP|aX_NW|zX_BW|zX_BO|zX_BB|zX_BD|zX_NP|zX_NS|zX_TM|zX_NT|zX_OR|y_fg|y_ft|z_VE|y1_HE|y2_HE|y3_HE|y4_HE|y5_HE|y6_HE|y7_HE|y1_BS|y2_BS|y3_BS|y4_BS|y5_BS|y6_BS|y7_BS|y1_BP|y2_BP|y3_BP|y4_BP|y5_BP|y6_BP|y7_BP|y1_NW|y2_NW|y3_NW|y4_NW|y5_NW|y6_NW|y7_NW => k_is)
  (case q_BS => k_exc)


