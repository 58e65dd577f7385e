import PyProof.Rows.All
import Wide.All
import OpenK.AllK
import Wide.FinOn
import Lean
import PyProof.EqAt
import PyProof.EqKinds
import PyProof.TupleCall
import PyProof.NeKinds
import PyProof.Draws
import PyProof.ZipIter
import PyProof.DictUpdate
import PyProof.AutoSeq1
import PyProof.ListRange
import PyProof.ListMulRoad
import PyProof.FactsAll.tuple_2
import PyProof.Rows.SortShell
import PyProof.EnumFor
import PyProof.EnumMake
import PyProof.EnumStmt
import PyProof.Rows.SortWalk
import KE.KDictList
import PyProof.SumAny
import PyProof.ConsumeWalk
import PyProof.WalksMore
import PyProof.Rows.TupAssign
import PyProof.ExcArgsOwn
import PySem.Challenge.RW_kindleweb_k57_whole_no_cheaper_seeds_in
set_option Elab.async false
set_option linter.all false
set_option maxRecDepth 100000
set_option maxHeartbeats 4000000
section
open PySem PySem.Spec PyProof.Rows
noncomputable def aS6:=@wpAny_bind
noncomputable def aS7:=@Heap.get?_push_of_some
noncomputable def aS8:=@List.mem_cons_self
noncomputable def aS9:=@List.length_map
noncomputable def aT0:=@List.mem_singleton
noncomputable def aT1:=@decide_eq_true
noncomputable def aT2:=@Nat.le_refl
noncomputable def aT3:=@List.getElem?_eq_some_iff
noncomputable def aT4:=@List.mem_of_getElem?
noncomputable def aT5:=@List.mem_cons_of_mem
noncomputable def aT6:=@wpAny_pure
noncomputable def aT7:=@List.getElem?_map
noncomputable def aT8:=@decide_eq_false
noncomputable def aT9:=@List.mem_append
noncomputable def aU0:=@List.mem_cons
noncomputable def aU1:=@List.getElem?_eq_getElem
noncomputable def aU2:=@List.size_toArray
noncomputable def aU3:=@List.getD_eq_getElem?_getD
noncomputable def aU4:=@List.mem_filter
noncomputable def aU5:=@Nat.lt_of_lt_of_le
noncomputable def aU6:=@List.length_append
noncomputable def aU7:=@Heap.lt_size
noncomputable def aU8:=@List.mem_map
noncomputable def aU9:=@Heap.get?_push_size
noncomputable def aV0:=@List.map_append
noncomputable def aV1:=@Bool.false_ne_true
noncomputable def aV2:=@Option.some.inj
noncomputable def aV4:=@Int.toNat_natCast
noncomputable def aV5:=@List.map_cons
noncomputable def aV7:=@Bool.false_eq_true
noncomputable def aV8:=@List.length_cons
noncomputable def aW0:=@List.take_of_length_le
noncomputable def aW1:=@List.pairwise_singleton
noncomputable def aW2:=@List.mem_append_right
noncomputable def aW4:=@List.getElem?_set_ne
noncomputable def aW5:=@List.length_singleton
noncomputable def aW6:=@List.not_mem_nil
noncomputable def aW7:=@List.sum_cons
noncomputable def aW8:=@of_decide_eq_true
noncomputable def aW9:=@Nat.ne_of_lt
noncomputable def aX0:=@List.take_add_one
noncomputable def aX1:=@Bool.and_eq_true
noncomputable def aX2:=@List.mem_append_left
noncomputable def aX3:=@Array.length_toList
noncomputable def aX4:=@List.length_set
noncomputable def aX5:=@Nat.le_trans
noncomputable def aX6:=@Nat.zero_le
noncomputable def aX8:=@Nat.lt_irrefl
noncomputable def aX9:=@List.length_filter_le
noncomputable def aY0:=@Classical.byContradiction
noncomputable def aY1:=@PySem.mem_of_lookup
noncomputable def aY2:=@wpAny_newObj_type
noncomputable def aY5:=@List.pairwise_cons
noncomputable def aY6:=@Nat.le_of_lt
noncomputable def aY7:=@List.map_map
noncomputable def aY8:=@List.replicate_succ
noncomputable def aY9:=@List.getElem?_append_left
noncomputable def aZ1:=@List.lookup_cons
noncomputable def aZ2:=@Int.emod_nonneg
noncomputable def aZ3:=@List.getElem?_set_self
noncomputable def aZ5:=@PyProof.Rows.callWith_type1
noncomputable def aZ6:=@List.length_take
noncomputable def aZ7:=@if_false
noncomputable def aZ8:=@List.length_drop
noncomputable def aZ9:=@PySem.F.plainAttrs_list
noncomputable def ba0:=@List.take_length
noncomputable def ba2:=@Bool.eq_iff_iff
noncomputable def ba3:=@List.append_nil
noncomputable def ba4:=@List.nodup_cons
noncomputable def ba5:=@Nat.le_add_right
noncomputable def ba6:=@wpAny_mono
noncomputable def ba7:=@wpAny_callSpecial?_slot
noncomputable def ba8:=@List.getElem?_cons_succ
noncomputable def ba9:=@List.filter_cons_of_neg
noncomputable def bb1:=@wpAny_call_entry
noncomputable def bb2:=@List.filter_cons
noncomputable def bb4:=@List.map_congr_left
noncomputable def bb5:=@wpAny_field
noncomputable def bb6:=@List.pairwise_map
noncomputable def bb7:=@decide_eq_true_eq
noncomputable def bc1:=@Nat.ne_of_gt
noncomputable def bc2:=@List.find?_cons
noncomputable def bc6:=@Int.le_refl
noncomputable def bc7:=@List.filter_cons_of_pos
noncomputable def bc8:=@Array.getD_eq_getD_getElem?
noncomputable def bc9:=@List.flatten_cons
noncomputable def bd0:=@or_false
noncomputable def bd2:=@Int.ne_of_lt
noncomputable def bd4:=@PyProof.Rows.slot_tuple_getitem
noncomputable def bd5:=@List.length_replicate
noncomputable def bd6:=@Nat.le_of_not_lt
noncomputable def bd8:=@Int.emod_lt_of_pos
noncomputable def be0:=@wpAny_holding
noncomputable def be2:=@PySem.F.slot_list_append
noncomputable def be3:=@PySem.F.type_list_append
noncomputable def be6:=@wpAny_truthy_bool
noncomputable def be8:=@List.Pairwise.nil
noncomputable def be9:=@Bool.eq_false_iff
noncomputable def bf0:=@List.nodup_append
noncomputable def bf2:=@Heap.SameBut.update
noncomputable def bf4:=@List.any_cons
noncomputable def bf5:=@List.all_eq_true
noncomputable def bf6:=@List.getElem?_append_right
noncomputable def bf8:=@wpAny_seqItems
noncomputable def bf9:=@wpAny_setField_rec
noncomputable def bg0:=@List.perm_ext_iff_of_nodup
noncomputable def bg1:=@List.getElem?_eq_none
noncomputable def bg2:=@List.mem_iff_getElem?
noncomputable def bg3:=@wpAny_passesOwn
noncomputable def bg5:=@PassesOwn.never
noncomputable def bh1:=@List.mem_range
noncomputable def bh2:=@Heap.size_push
noncomputable def bh3:=@List.Perm.refl
end
namespace L2
open PySem PySem.Spec PyProof.Rows
noncomputable abbrev aG:=Sum Int Str
noncomputable def lC:aG->Value->Bool
 | .inl k,v=>Value.isInt k v
 | .inr x,v=>Value.isStrOf x v
noncomputable def aa2 (w:World):aG->Int
 | .inl k=>hashInt k
 | .inr x=>hashStr w x
theorem iB:∀ {k:aG}{v:Value},lC k v=true->(∃ i t,k=Sum.inl i/\v=Value.int i t) ∨ (∃ x t,k=Sum.inr x/\v=Value.str x t)
 | .inl i,v,h=>by
  obtain ⟨t,e⟩:=Value.isInt_shape (k:=i) (v:=v) h
  exact .inl ⟨i,t,rfl,e⟩
 | .inr x,v,h=>by
  obtain ⟨t,e⟩:=Value.isStrOf_shape (x:=x) (v:=v) h
  exact .inr ⟨x,t,rfl,e⟩
theorem aa3 (i:Int) (t:Tok):lC (.inl i) (.int i t)=true:=by simp [lC,Value.isInt]
theorem aa4 (x:Str) (t:Tok):lC (.inr x) (.str x t)=true:=by simp [lC,Value.isStrOf]
theorem aa5 (a b:Int):decide ((Sum.inl a:aG)=Sum.inl b)=(a == b):=by
 by_cases e:a=b
 ·subst e; simp
 ·have h : ¬ (Sum.inl a:aG)=Sum.inl b:=fun q=>e (Sum.inl.inj q)
  rw [aT8 h]
  exact (beq_eq_false_iff_ne.mpr e).symm
theorem aa6 (a b:Str):decide ((Sum.inr a:aG)=Sum.inr b)=decide (a=b):=by
 by_cases e:a=b
 ·subst e; simp
 ·have h : ¬ (Sum.inr a:aG)=Sum.inr b:=fun q=>e (Sum.inr.inj q)
  rw [aT8 h,aT8 e]
theorem aa7 (a:Int) (b:Str):decide ((Sum.inl a:aG)=Sum.inr b)=false:=aT8 (fun q=>nomatch q)
theorem aa8 (a:Str) (b:Int):decide ((Sum.inr a:aG)=Sum.inl b)=false:=aT8 (fun q=>nomatch q)
noncomputable def eL (prog:Program) (w:World):PySem.KeyKind prog w aG where
 is:=lC
 hash:=aa2 w
 inj:=fun v a b ha hb=>by
  rcases iB ha with ⟨i,t,rfl,rfl⟩ | ⟨x,t,rfl,rfl⟩
  ·rcases iB hb with ⟨j,u,rfl,e⟩ | ⟨y,u,rfl,e⟩
   ·injection e with e1 _; rw [e1]
   ·exact nomatch e
  ·rcases iB hb with ⟨j,u,rfl,e⟩ | ⟨y,u,rfl,e⟩
   ·exact nomatch e
   ·injection e with e1 _; rw [e1]
 byValue:=fun k v h=>by
  rcases iB h with ⟨i,t,rfl,rfl⟩ | ⟨x,t,rfl,rfl⟩ <;> rfl
 pyHash:=fun hv h=>by
  rcases iB hv with ⟨i,t,rfl,rfl⟩ | ⟨x,t,rfl,rfl⟩
  ·exact wpAny_pyHash_int h
  ·exact wpAny_pyHash_str h
 eqBool:=fun hu hv h=>by
  rcases iB hu with ⟨i,t,rfl,rfl⟩ | ⟨x,t,rfl,rfl⟩
  ·rcases iB hv with ⟨j,u,rfl,rfl⟩ | ⟨y,u,rfl,rfl⟩
   ·rw [aa5] at h; exact wpAny_eqBool_int h
   ·rw [aa7] at h; exact SeqAt.EqAt.int_str i t y u _ _ _ _ h
  ·rcases iB hv with ⟨j,u,rfl,rfl⟩ | ⟨y,u,rfl,rfl⟩
   ·rw [aa8] at h; exact SeqAt.EqAt.str_int x t j u _ _ _ _ h
   ·rw [aa6] at h; exact wpAny_eqBool_str h
 «strs»:=fun k x t v h=>by
  rcases iB h with ⟨i,u,rfl,e⟩ | ⟨y,u,rfl,e⟩
  ·exact nomatch e
  ·injection e with e1 _
   subst e1
   cases v <;> rfl
theorem aa9 (prog:Program) (w:World) (i:Int) (t:Tok):(eL prog w).is (.inl i) (.int i t)=true:=aa3 i t
theorem ab0 (prog:Program) (w:World) (x:Str) (t:Tok):(eL prog w).is (.inr x) (.str x t)=true:=aa4 x t
inductive V where
 | non | bl (b:Bool) | int (i:Int) | str (x:Str) | byt (b:Array UInt8) | flt (b:UInt64) | ref (a:Addr) | ty (n:String)
 deriving DecidableEq
noncomputable def b4:V->Value->Prop
 | .non,u=>u=Value.none
 | .bl b,u=>u=Value.bool b
 | .int i,u=>∃ t,u=Value.int i t
 | .str x,u=>∃ t,u=Value.str x t
 | .byt b,u=>∃ t,u=Value.bytes b t
 | .flt b,u=>∃ t,u=Value.float b t
 | .ref a,u=>u=Value.ref a
 | .ty n,u=>u=Value.type n
noncomputable abbrev aI:List V->List Value->Prop:=Paired b4
theorem aI.length {xs:List V}{us:List Value} (r:aI xs us):xs.length=us.length:=Paired.length r
theorem aI.get:∀ {xs:List V}{us:List Value}{i:Nat}{x:V},aI xs us->xs[i]? = some x->∃ u,us[i]? = some u/\b4 x u
 | _,_,_,_,.nil,e=>by simp at e
 | _,_,0,_,.cons r _,e=>by simp at e; subst e; exact⟨_,rfl,r⟩
 | _,_,i+1,x,.cons _ t,e=>by
  obtain ⟨u,h1,h2⟩:=aI.get (i:=i) (x:=x) t (by simpa using e)
  exact⟨u,by simpa using h1,h2⟩
theorem aI.set {x:V}{u:Value} (r:b4 x u):∀ {xs:List V}{us:List Value} (i:Nat),aI xs us->aI (xs.set i x) (us.set i u)
 | _,_,_,.nil=>.nil
 | _,_,0,.cons _ t=>.cons r t
 | _,_,i+1,.cons q t=>.cons q (aI.set r i t)
theorem aI.append:∀ {xs ys:List V}{us ws:List Value},aI xs us->aI ys ws->aI (xs ++ ys) (us ++ ws)
 | _,_,_,_,.nil,s=>s
 | _,_,_,_,.cons r t,s=>.cons r (aI.append t s)
theorem aI.take:∀ {xs:List V}{us:List Value} (n:Nat),aI xs us->aI (xs.take n) (us.take n)
 | _,_,0,_=>.nil
 | _,_,_+1,.nil=>.nil
 | _,_,n+1,.cons r t=>.cons r (aI.take n t)
theorem aI.drop:∀ {xs:List V}{us:List Value} (n:Nat),aI xs us->aI (xs.drop n) (us.drop n)
 | _,_,0,r=>r
 | _,_,_+1,.nil=>.nil
 | _,_,n+1,.cons _ t=>aI.drop n t
noncomputable def lD:Option V->Option Value->Prop
 | some v,some u=>b4 v u
 | none,none=>True
 | _,_=>False
noncomputable def KV {κ:Type}:List (κ × V)->List (κ × Value)->Prop:=Paired fun (p:κ × V) (q:κ × Value)=>p.1=q.1/\b4 p.2 q.2
noncomputable def kV:aG->V
 | .inl i=>.int i
 | .inr x=>.str x
inductive HO where
 | lst (xs:List V)
 | tup (xs:List V)
 | dK (kvs:List (aG × V)) | dT (kvs:List (List aG × V))
 | set (S:Int->Bool) (n:Nat)
 | ins (C dx:Addr) (fs:List (Str × V))
 | own (x:Addr)
 | xd (fs:List (Str × V))
 | met (f x:Addr)
 | rng (lo hi:Int)
 | frz (o:Obj) (u:HO)
 | tbl (ps:Array Value)
 | ext (φ:Heap->Prop)
noncomputable abbrev Hp:=Addr->Option HO
noncomputable def upd (H:Hp) (a:Addr) (o:HO):Hp:=fun b=>if b=a then some o else H b
theorem bK {H:Hp}{a:Addr}{o:HO}:upd H a o a=some o:=by unfold upd; rw [if_pos rfl]
theorem aZ {H:Hp}{a b:Addr}{o:HO} (h:b ≠ a):upd H a o b=H b:=by unfold upd; rw [if_neg h]
theorem ab1 {H:Hp}{a b:Addr}{o u:HO} (h:H a=some o) (h':H b=some u) (d:o ≠ u):a ≠ b:=by
 intro e; subst e; rw [h] at h'; exact d (aV2 h')
theorem dD {H:Hp}{a b:Addr}{o:HO} (h:H a=some o) (h':H b=none):a ≠ b:=by
 intro e; subst e; rw [h] at h'; cases h'
noncomputable def iC (h:Heap) (a:Addr):Prop:=∀ o,h.get? a=some o->o.dict=none
theorem iC.new (h:Heap) (o:Obj) (d:o.dict=none) (s:o.isFreed=false:=by rfl):iC (h.push o) h.objs.size:=fun u e=>by
 rw [aU9 h (o:=o) s] at e
 cases e; exact d
theorem iC.stay {h h':Heap}{a:Addr}{o:Obj} (n:iC h a) (e:h.get? a=some o) (e':h'.get? a=some o):iC h' a:=fun u hu=>by
 rw [e'] at hu; cases hu; exact n _ e
section
variable (P : Program) (w : World)
noncomputable def bY (H:Hp) (h:Heap) (a:Addr):HO->Prop
 | .lst xs=>xs.length<=sizeLine/\∃ (its:List Value) (n:Nat),aI xs its/\h.get? a=some { cls:=.type "list",data:=.seq its.toArray n }
 | .tup xs=>xs.length<=sizeLine/\∃ its:List Value,aI xs its/\IsTup h a its.toArray/\iC h a
 | .dK kvs=>kvs.length<=sizeLine/\(a == sysModules)=false/\∃ vs,KV kvs vs/\h.DictOf (eL P w) a vs
 | .dT kvs=>kvs.length<=sizeLine/\(a == sysModules)=false/\∃ xs:List (List aG × Addr × Value),
   Paired (fun (p:List aG × V) (q:List aG × Addr × Value)=>p.1=q.1/\H q.2.1=some (.tup (p.1.map kV))/\b4 p.2 q.2.2) kvs xs/\
   ∃ o es ep,h.get? a=some o/\o.ExactDict/\o.data = .dict es ep/\es.toList=xs.map (entryOfKey (tupleKind (eL P w)))/\(xs.map (·.1)).Nodup
 | .set S n=>h.SetOf (intKind P w) a S n
 | .ins C dx fs=>H dx=some (.own a)/\fs.length<=1000/\dx ≠ a/\h.get? a=some (PySem.W.instObj C dx)/\
   ∃ mA,h.Ns1 dx mA/\(∀ f,lD (fs.lookup f) (mA f))/\PySem.Within mA (fs.map (·.1))
 | .own _=>∃ o,h.get? a=some o
 | .xd fs=>∃ mA,h.Ns1 a mA/\∀ f,lD (fs.lookup f) (mA f)
 | .rng lo hi=>∃ t u v,h.get? a=some { cls:=.type "range",data:=.fields #[.int lo t,.int hi u,.int 1 v] }
 | .frz o u=>h.get? a=some o/\bY H h a u
 | .tbl ps=>h.get? a=some { cls:=.none,data:=.fields ps }
 | .met f x=>h.get? a=some (PySem.W.methodObj (.ref f) (.ref x))
 | .ext φ=>φ h/\(∃ o,h.get? a=some o)/\∀ h1 h2:Heap,φ h1->(∀ o,h1.get? a=some o->h2.get? a=some o)->φ h2
noncomputable def bO (H:Hp) (h:Heap):Prop:=∀ a o,H a=some o->bY P w H h a o
end
section
variable {P : Program} {w : World} {H H' : Hp} {h h' : Heap} {a : Addr} {o : HO}
theorem bY.lt (x:bY P w H h a o):a < h.objs.size:=by
 cases o with
 | lst xs=>obtain ⟨_,_,_,_,e⟩:=x; exact aU7 e
 | tup xs=>obtain ⟨_,_,_,p,_⟩:=x; exact p.lt
 | dK kvs=>obtain ⟨_,_,_,_,o,_,_,e,_⟩:=x; exact aU7 e
 | dT kvs=>obtain ⟨_,_,_,_,o,_,_,e,_⟩:=x; exact aU7 e
 | set S n=>obtain ⟨o,_,_,_,e,_⟩:=x; exact aU7 e
 | ins C dx fs=>obtain ⟨_,_,_,e,_⟩:=x; exact aU7 e
 | own y=>obtain ⟨_,e⟩:=x; exact aU7 e
 | xd fs=>obtain ⟨_,⟨_,_,_,e,_⟩,_⟩:=x; exact aU7 e
 | rng lo hi=>obtain ⟨_,_,_,e⟩:=x; exact aU7 e
 | frz ob u=>obtain ⟨e,_⟩:=x; exact aU7 e
 | tbl ps=>exact aU7 (show h.get? a=some _ from x)
 | met f y=>exact aU7 (show h.get? a=some _ from x)
 | ext φ=>obtain ⟨_,⟨_,e⟩,_⟩:=x; exact aU7 e
theorem Paired.mapP {α β:Type}{F G:α->β->Prop}:∀ {l₁:List α}{l₂:List β},Paired F l₁ l₂->(∀ a b,F a b->G a b)->Paired G l₁ l₂
 | _,_,.nil,_=>.nil
 | _,_,.cons r t,f=>.cons (f _ _ r) (Paired.mapP t f)
theorem bY.stay (x:bY P w H h a o) (k:∀ b u,(b=a ∨ H b=some (.own a))->h.get? b=some u->h'.get? b=some u)
  (ho:∀ b,H b=some (.own a)->H' b=some (.own a)) (ht:∀ b xs,H b=some (.tup xs)->H' b=some (.tup xs)):bY P w H' h' a o:=by
 induction o with
 | lst xs=>obtain ⟨z,its,n,r,e⟩:=x; exact⟨z,its,n,r,k _ _ (.inl rfl) e⟩
 | tup xs=>obtain ⟨z,its,r,⟨ob,e,c⟩,nd⟩:=x; exact⟨z,its,r,⟨ob,k _ _ (.inl rfl) e,c⟩,nd.stay e (k _ _ (.inl rfl) e)⟩
 | dK kvs=>obtain ⟨z,y,vs,r,ob,es,ep,e,c⟩:=x; exact⟨z,y,vs,r,ob,es,ep,k _ _ (.inl rfl) e,c⟩
 | dT kvs=>
  obtain ⟨z,y,xs,r,ob,es,ep,e,c⟩:=x
  exact⟨z,y,xs,Paired.mapP r fun p q z=>⟨z.1,ht _ _ z.2.1,z.2.2⟩,ob,es,ep,k _ _ (.inl rfl) e,c⟩
 | set S n=>obtain ⟨ob,es,ep,t,e,c⟩:=x; exact⟨ob,es,ep,t,k _ _ (.inl rfl) e,c⟩
 | ins C dx fs=>
  obtain ⟨d,z,ne,e,mA,⟨od,es,ep,e2,c⟩,r⟩:=x
  exact⟨ho _ d,z,ne,k _ _ (.inl rfl) e,mA,⟨od,es,ep,k _ _ (.inr d) e2,c⟩,r⟩
 | own y=>obtain ⟨ob,e⟩:=x; exact⟨ob,k _ _ (.inl rfl) e⟩
 | xd fs=>obtain ⟨mA,⟨od,es,ep,e,c⟩,r⟩:=x; exact⟨mA,⟨od,es,ep,k _ _ (.inl rfl) e,c⟩,r⟩
 | rng lo hi=>obtain ⟨t,u,v,e⟩:=x; exact⟨t,u,v,k _ _ (.inl rfl) e⟩
 | frz ob u ih=>obtain ⟨e,q⟩:=x; exact⟨k _ _ (.inl rfl) e,ih q⟩
 | tbl ps=>
  have e:h.get? a=some { cls:=.none,data:=.fields ps }:=x
  show h'.get? a=some { cls:=.none,data:=.fields ps }
  exact k a _ (.inl rfl) e
 | met f y=>
  have e:h.get? a=some (PySem.W.methodObj (.ref f) (.ref y)):=x
  show h'.get? a=some (PySem.W.methodObj (.ref f) (.ref y))
  exact k a _ (.inl rfl) e
 | ext φ=>obtain ⟨p,⟨o,e⟩,st⟩:=x; exact⟨st _ _ p fun o q=>k _ _ (.inl rfl) q,⟨o,k _ _ (.inl rfl) e⟩,st⟩
theorem bO.lt (x:bO P w H h) (e:H a=some o):a < h.objs.size:=(x a o e).lt
theorem bO.fresh (x:bO P w H h) (e:h.objs.size<=a):H a=none:=by
 cases q:H a with
 | none=>rfl
 | some u=>exact absurd (aU5 (x.lt q) e) (aX8 _)
theorem bO.kept (x:bO P w H h) (k:∀ b u,h.get? b=some u->h'.get? b=some u):bO P w H h':=fun a o e=>
 (x a o e).stay (fun b u _ q=>k b u q) (fun _ q=>q) fun _ _ q=>q
theorem bO.laid (x:bO P w H h) (k:∀ b u,h.get? b=some u->h'.get? b=some u) (hp:h.objs.size<=a) (new:bY P w (upd H a o) h' a o):bO P w (upd H a o) h':=fun b u e=>by
 have hn:=x.fresh hp
 by_cases hb:b=a
 ·subst hb; rw [bK] at e; cases e; exact new
 ·rw [aZ hb] at e
  exact (x b u e).stay (fun c v _ q=>k c v q) (fun c q=>by rw [aZ (dD q hn)]; exact q) fun c xs q=>by rw [aZ (dD q hn)]; exact q
end
noncomputable def Rd (H:Hp) (a:Addr) (u:HO):Prop:=H a=some u ∨ ∃ o,H a=some (.frz o u)
theorem Rd.ok {P:Program}{w:World}{H:Hp}{h:Heap}{a:Addr}{u:HO} (r:Rd H a u) (x:bO P w H h):bY P w H h a u:=by
 rcases r with r | ⟨o,r⟩
 ·exact x a u r
 ·obtain ⟨_,q⟩:=x a _ r
  exact q
noncomputable def mQ:Option HO->Prop
 | some (.lst _)=>True
 | some (.dK _)=>True
 | some (.dT _)=>True
 | some (.set _ _)=>True
 | some (.ins _ _ _)=>True
 | some (.ext _)=>True
 | _=>False
section
variable {P : Program} {w : World} {H : Hp} {h h' : Heap} {x e : Addr} {o' : HO}
theorem bO.write (ok:bO P w H h) (mu:mQ (H x)) (he:e=x ∨ H e=some (.own x)) (k:∀ b u,b ≠ e->h.get? b=some u->h'.get? b=some u) (heo:∃ u,h'.get? e=some u)
  (new:bY P w (upd H x o') h' x o'):bO P w (upd H x o') h':=fun b u q=>by
 have nown:∀ c y,H c=some (.own y)->c ≠ x:=fun c y r z=>by subst z; rw [r] at mu; exact mu
 have ntup:∀ c xs,H c=some (.tup xs)->c ≠ x:=fun c xs r z=>by subst z; rw [r] at mu; exact mu
 by_cases hb:b=x
 ·subst hb; rw [bK] at q; cases q; exact new
 ·rw [aZ hb] at q
  by_cases hbe:b=e
  ·have q':H b=some (.own x):=by
    rcases he with z | z
    ·exact absurd (hbe.trans z) hb
    ·rw [hbe]; exact z
   rw [q] at q'; cases q'
   obtain ⟨v,hv⟩:=heo
   exact⟨v,by rw [hbe]; exact hv⟩
  ·refine (ok b u q).stay (fun c v hc r=>k c v ?_ r) (fun c r=>by rw [aZ (nown c b r)]; exact r) fun c xs r=>by rw [aZ (ntup c xs r)]; exact r
   rcases hc with rfl | hc
   ·exact hbe
   ·rintro rfl
    rcases he with z | z
    ·exact nown c b hc z
    ·rw [hc] at z; cases z; exact hb rfl
end
structure Un (fs ex:List Addr) (H H':Hp) (h h':Heap):Prop where
 keep:∀ b o,h.get? b=some o->H b=none->b ∉ fs->b ∉ ex->h'.get? b=some o
 slot:∀ b o,h.get? b=some o->H b=none->b ∈ fs->b ∉ ex->∃ sl,h'.get? b=some { o with slots:=sl }
 free:∀ b o,h.get? b=some o->H b=none->b ∉ ex->H' b=none
 there:∀ b o,h.get? b=some o->b ∉ ex->∃ o',h'.get? b=some o'
 tups:∀ b xs,H b=some (.tup xs)->H' b=some (.tup xs)
 frzs:∀ b o u,H b=some (.frz o u)->H' b=some (.frz o u)
 tbls:∀ b ps,H b=some (.tbl ps)->∃ more,H' b=some (.tbl (ps ++ more))
section
variable {fs fs' ex ex' : List Addr} {H H1 H2 : Hp} {h h1 h2 h' : Heap} {a x e : Addr} {o : HO}
theorem Un.any (u:Un fs ex H H1 h h1) {b:Addr}{ob:Obj} (q:h.get? b=some ob) (n:H b=none) (hx:b ∉ ex):∃ sl,h1.get? b=some { ob with slots:=sl }:=by
 by_cases hb:b ∈ fs
 ·exact u.slot b ob q n hb hx
 ·exact⟨ob.slots,u.keep b ob q n hb hx⟩
theorem Un.kept (k:∀ b u,h.get? b=some u->h'.get? b=some u):Un fs ex H H h h':=
 ⟨fun b ob q _ _ _=>k b ob q,fun b ob q _ _ _=>⟨ob.slots,k b ob q⟩,fun _ _ _ n _=>n,fun b ob q _=>⟨ob,k b ob q⟩,fun _ _ q=>q,fun _ _ _ q=>q,fun _ ps q=>⟨#[],by rw [q]; simp⟩⟩
theorem Un.refl:Un fs ex H H h h:=Un.kept fun _ _ q=>q
theorem Un.laid (k:∀ b u,h.get? b=some u->h'.get? b=some u) (hp:h.objs.size<=a) (hn:H a=none):Un fs ex H (upd H a o) h h' where
 keep:=fun b u q _ _ _=>k b u q
 slot:=fun b u q _ _ _=>⟨u.slots,k b u q⟩
 free:=fun b u q n _=>by rw [aZ (aW9 (aU5 (aU7 q) hp))]; exact n
 there:=fun b u q _=>⟨u,k b u q⟩
 tups:=fun b xs q=>by rw [aZ (dD q hn)]; exact q
 frzs:=fun b u xs q=>by rw [aZ (dD q hn)]; exact q
 tbls:=fun b ps q=>⟨#[],by rw [aZ (dD q hn),q]; simp⟩
theorem Un.write (mu:mQ (H x)) (he:e=x ∨ H e=some (.own x)) (k:∀ b u,b ≠ e->h.get? b=some u->h'.get? b=some u) (heo:∃ u,h'.get? e=some u):Un fs ex H (upd H x o) h h':=by
 have hx:∀ b,H b=none->b ≠ x:=fun b n z=>by subst z; rw [n] at mu; exact mu
 have hb:∀ b,H b=none->b ≠ e:=fun b n z=>by
  subst z
  rcases he with r | r
  ·exact hx b n r
  ·rw [n] at r; cases r
 have hm:∀ b u,H b=some u->¬ mQ (some u)->b ≠ x:=fun b u q nm z=>by subst z; rw [q] at mu; exact nm mu
 refine⟨fun b u q n _ _=>k b u (hb b n) q,fun b u q n _ _=>⟨u.slots,k b u (hb b n) q⟩,fun b u q n _=>by rw [aZ (hx b n)]; exact n,fun b u q _=>?_,
  fun b xs q=>by rw [aZ (hm b _ q fun z=>z)]; exact q,fun b u xs q=>by rw [aZ (hm b _ q fun z=>z)]; exact q,fun b ps q=>⟨#[],by rw [aZ (hm b _ q fun z=>z),q]; simp⟩⟩
 by_cases hbe:b=e
 ·subst hbe; exact heo
 ·exact⟨u,k b u hbe q⟩
end
noncomputable def oW (h:Heap) (H:Hp):List Addr:=(List.range h.objs.size).filter fun a=>(H a).isSome
noncomputable def iN (h:Heap) (H:Hp):Heap:=PySem.W.hideAll h (oW h H)
theorem ab2 (h:Heap) (H:Hp):(iN h H).objs.size=h.objs.size:=PySem.W.hideAll_size _ _
theorem ab3 {h:Heap}{H:Hp}{b:Addr}{o:Obj} (e:h.get? b=some o) (n:H b=none):(iN h H).get? b=some o:=
 PySem.W.hideAll_get _ e fun hm=>by
  have q:(H b).isSome=true:=(aU4.mp hm).2
  rw [n] at q; simp at q
theorem ab4 {h:Heap}{H:Hp}{b:Addr}{o:Obj} (e:(iN h H).get? b=some o):h.get? b=some o/\H b=none:=by
 have e':h.get? b=some o:=PySem.W.of_hideAll (oW h H) e
 refine⟨e',?_⟩
 cases q:H b with
 | none=>rfl
 | some x=>
  have hm:b ∈ oW h H:=aU4.mpr ⟨bh1.mpr (aU7 e'),by simp [q]⟩
  have z:(iN h H).get? b=none:=PySem.W.hideAll_none (oW h H) hm
  rw [z] at e; cases e
noncomputable def mR (g h:Heap) (L:Addr):List (Addr × Obj):=(List.range h.objs.size).filterMap fun a=>if a=L ∨ (g.get? a).isSome=true then none else (h.get? a).map fun o=>(a,o)
theorem x6 {g h:Heap}{L a:Addr}{o:Obj} (h1:a ≠ L) (h2:g.get? a=none) (h3:h.get? a=some o):(a,o) ∈ mR g h L:=
 List.mem_filterMap.mpr ⟨a,bh1.mpr (aU7 h3),by simp [h1,h2,h3]⟩
theorem ab5 {g h:Heap}{L:Addr}{p:Addr × Obj} (hp:p ∈ mR g h L):p.1 ≠ L/\g.get? p.1=none/\h.get? p.1=some p.2:=by
 obtain ⟨b,_,e⟩:=List.mem_filterMap.mp hp
 split at e
 ·cases e
 ·rename_i hn
  cases q:h.get? b with
  | none=>rw [q] at e; simp at e
  | some u=>
   rw [q] at e
   simp only [Option.map_some,Option.some.injEq] at e
   subst e
   refine⟨fun z=>hn (.inl z),?_,q⟩
   show g.get? b=none
   cases r:g.get? b with
   | none=>rfl
   | some v=>exact (hn (.inr (by simp [r]))).elim
noncomputable def cS (g h:Heap) (L d:Addr):List (Addr × Obj):=(mR g h L).filter fun p=>decide (p.1 ≠ d)
theorem ab6 {g h:Heap}{L:Addr}:News g L h (mR g h L):=fun p hp=>let ⟨a,b,c⟩:=ab5 hp; ⟨c,a,b⟩
structure Mod (K:PySem.W.Frag) (mg:Str->Option Value) (base:Heap):Prop where
 kin:K.In base
 glob:base.Ns mainGlobals mg
 blt:∃ mb,base.Ns builtinsNs mb/\∀ x:Str,x ≠ "__name__"->mb x=bootBuiltins x
 nolimit:base.NoLimit
structure Cx where
 prog:Program
 w:World
 K:PySem.W.Frag
 mg:Str->Option Value
 base:Heap
 A:Around
 N:List Str
 s₀:Shared
 H₀:Hp
 env:Env
 outer:List Env
 stack:List Env
 ex:List Addr
 fn:Str->Bool
 calm:Bool
 pn:List (Addr × Obj)
 xe:Value->Shared->Prop
noncomputable def bM (l:List Env):List Addr:=l.filterMap (·.frame)
noncomputable abbrev Cx.fs (X:Cx):List Addr:=bM X.outer
noncomputable def gF (sc:Scope) (x:Str):Prop:=sc.names.lookup x=some .local ∨ sc.names.lookup x=some .cell ∨ sc.names.lookup x=some .free
noncomputable def iD (sc:Scope) (x:Str):Prop:=sc.names.lookup x=some .local ∨ sc.names.lookup x=some .cell
noncomputable def ab7 (env:Env) (h:Heap) (m:Str->Option Value) (x:Str) (u:Value):Prop:=
 (env.kindOf x=some .local/\m x=some u) ∨ ((env.kindOf x=some .cell ∨ env.kindOf x=some .free)/\∃ c,env.cells.lookup x=some c/\h.IsCell c (some u))
structure Cx.Ok (X:Cx):Prop where
 mod:Mod X.K X.mg X.base
 kind:X.env.scope.kind = .function
 glob:X.env.globals=mainGlobals
 blt:X.env.builtins=builtinsNs
 above:X.s₀.heap.objs.size<=X.env.locals
 inj:∀ x y c,X.env.cells.lookup x=some c->X.env.cells.lookup y=some c->x=y
 has:∀ x,(X.env.kindOf x=some .cell ∨ X.env.kindOf x=some .free)->∃ c,X.env.cells.lookup x=some c
 cab:∀ x c,X.fn x=true->X.env.cells.lookup x=some c->X.s₀.heap.objs.size<=c
 hd:X.calm=true->X.A.handled=none
 frames:X.A.frames=some X.stack
 stk:X.stack=X.outer ∨ (X.stack=X.env :: X.outer/\X.env.frame=some X.env.locals)
 exf:∀ b ∈ X.ex,b ≠ X.env.locals/\∀ x c,X.env.cells.lookup x=some c->c ≠ b
 bs:∀ b o,X.base.get? b=some o->X.s₀.heap.get? b=some o/\X.H₀ b=none
 bsz:X.base.objs.size<=X.s₀.heap.objs.size
 noex:∀ b o,X.base.get? b=some o->b ∉ X.ex
 exfs:∀ b ∈ X.ex,b ∉ X.fs
 funs:X.s₀.heap.FunFrames X.base X.outer
 frf:∀ b ∈ X.fs,X.H₀ b=none
structure a6 (X:Cx) (pins:List (Addr × Obj)) (σ:List (Option V)) (H:Hp) (s:Shared):Prop where
 ok:X.Ok
 os:s.os=X.s₀.os
 bare:AllBare s.gens
 base:Un X.fs X.ex X.H₀ H X.s₀.heap s.heap
 loc:∃ m,s.heap.Ns X.env.locals m/\∀ (i:Nat) (x:Str) (v:V),X.N[i]? = some x->σ[i]? = some (some v)->gF X.env.scope x->∃ u,b4 v u/\ab7 X.env s.heap m x u
 cell:∀ x c,X.env.cells.lookup x=some c->∃ v,s.heap.IsCell c v
 free:H X.env.locals=none
 freeC:∀ x c,X.env.cells.lookup x=some c->H c=none
 pin:∀ p ∈ X.pn ++ pins,s.heap.get? p.1=some p.2/\H p.1=none/\p.1 ≠ X.env.locals/\p.1 ∉ X.fs/\∀ v,p.2.data ≠ .cell v
 hok:bO X.prog X.w H s.heap
 len:σ.length=X.N.length
section
variable {X : Cx} {pins : List (Addr × Obj)} {σ : List (Option V)} {H H' : Hp} {s : Shared} {h' : Heap}
theorem Cx.Ok.nofr (ok:X.Ok) {b:Addr}{o:Obj} (e:X.base.get? b=some o):b ∉ X.fs:=fun hb=>by
 have:=(ok.funs.mem hb).1
 rw [e] at this; cases this
theorem a6.bs (I:a6 X pins σ H s):∀ b o,X.base.get? b=some o->s.heap.get? b=some o/\H b=none:=fun b o e=>
 ⟨I.base.keep b o (I.ok.bs b o e).1 (I.ok.bs b o e).2 (I.ok.nofr e) (I.ok.noex b o e),I.base.free b o (I.ok.bs b o e).1 (I.ok.bs b o e).2 (I.ok.noex b o e)⟩
theorem a6.bk (I:a6 X pins σ H s):∀ b o,X.base.get? b=some o->s.heap.get? b=some o:=fun b o e=>(I.bs b o e).1
theorem a6.mod (I:a6 X pins σ H s):Mod X.K X.mg X.base:=I.ok.mod
theorem a6.kIn (I:a6 X pins σ H s):X.K.In s.heap:=I.ok.mod.kin.keeps I.bk
theorem a6.fr (I:a6 X pins σ H s):∃ m,Fr X.base X.env.locals s.heap m:=
 let ⟨m,hn,_⟩:=I.loc
 ⟨m,hn,I.bk,aX5 I.ok.bsz I.ok.above⟩
theorem a6.lt (I:a6 X pins σ H s):X.env.locals < s.heap.objs.size:=let ⟨_,hn,_⟩:=I.loc; hn.lt
theorem a6.sz (I:a6 X pins σ H s):X.s₀.heap.objs.size<=s.heap.objs.size:=aX5 I.ok.above (aY6 I.lt)
theorem a6.nofs (I:a6 X pins σ H s) {a:Addr} (h:s.heap.objs.size<=a):a ∉ X.fs:=fun hb=>by
 obtain ⟨_,o,ho,_⟩:=I.ok.funs.mem hb
 exact absurd (aU5 (aU7 ho) (aX5 I.sz h)) (aX8 _)
theorem a6.cne (I:a6 X pins σ H s):∀ x c,X.env.cells.lookup x=some c->c ≠ X.env.locals:=fun x c e z=>by
 obtain ⟨v,o,ho,hd⟩:=I.cell x c e
 obtain ⟨m,⟨o',es,ep,ho',hd',_⟩,_⟩:=I.loc
 rw [z,ho'] at ho; cases ho; rw [hd'] at hd; cases hd
theorem a6.funs (I:a6 X pins σ H s):s.heap.FunFrames X.base X.outer:=by
 have all:∀ (l:List Env),(∀ b ∈ bM l,b ∈ X.fs)->X.s₀.heap.FunFrames X.base l->s.heap.FunFrames X.base l:=by
  intro l
  induction l with
  | nil=>intro _ _; trivial
  | cons env r ih=>
   intro hs hl
   obtain ⟨hk,⟨L,o,hf,hn,ho,hd⟩,hr⟩:=hl
   have hL:L ∈ X.fs:=hs L (by unfold bM; rw [List.filterMap_cons,hf]; exact aS8)
   obtain ⟨sl,e⟩:=I.base.slot L o ho (I.ok.frf L hL) hL fun z=>I.ok.exfs L z hL
   exact⟨hk,⟨L,_,hf,hn,e,hd⟩,ih (fun b hb=>hs b (by unfold bM; rw [List.filterMap_cons,hf]; exact aT5 _ hb)) hr⟩
 exact all X.outer (fun _ hb=>hb) I.ok.funs
theorem a6.stack (I:a6 X pins σ H s):s.heap.FunFrames X.base X.stack:=by
 rcases I.ok.stk with e | ⟨e,hf⟩
 ·rw [e]; exact I.funs
 ·rw [e]
  obtain ⟨m,hn,_⟩:=I.loc
  refine .cons (by rw [I.ok.kind]; decide) hf hn ?_ I.funs
  exact Heap.get?_none_of_le (aX5 I.ok.bsz I.ok.above)
theorem a6.stkSub (I:a6 X pins σ H s):∀ b ∈ bM X.stack,b ∈ X.env.locals :: X.fs:=fun b hb=>by
 rcases I.ok.stk with e | ⟨e,hf⟩
 ·rw [e] at hb; exact aT5 _ hb
 ·rw [e] at hb
  unfold bM at hb
  rw [List.filterMap_cons,hf] at hb
  exact hb
theorem a6.stkFree (I:a6 X pins σ H s):∀ b ∈ bM X.stack,H b=none:=fun b hb=>by
 rcases aU0.mp (I.stkSub b hb) with e | hb
 ·rw [e]; exact I.free
 ·obtain ⟨_,o,ho,_⟩:=I.ok.funs.mem hb
  exact I.base.free b o ho (I.ok.frf b hb) fun z=>I.ok.exfs b z hb
theorem a6.step {g':Array GenState}{t':Nat}{d':Drawn}{ch:List Addr} (I:a6 X pins σ H s)
  (hch:∀ b ∈ ch,(b ∈ X.ex ∨ X.s₀.heap.objs.size<=b)/\b ≠ X.env.locals/\(∀ x c,X.env.cells.lookup x=some c->c ≠ b)/\∀ p ∈ X.pn ++ pins,p.1 ≠ b)
  (keep:∀ b o,b ≠ X.env.locals->b ∉ X.fs->b ∉ ch->s.heap.get? b=some o->H b=none->h'.get? b=some o)
  (slot:∀ b o,b ≠ X.env.locals->b ∈ X.fs->b ∉ ch->s.heap.get? b=some o->H b=none->∃ sl,h'.get? b=some { o with slots:=sl }) (free:∀ b o,b ∉ ch->s.heap.get? b=some o->H b=none->H' b=none)
  (there:∀ b o,b ∉ ch->s.heap.get? b=some o->∃ o',h'.get? b=some o')
  (tups:∀ b xs,H b=some (.tup xs)->H' b=some (.tup xs)) (frzs:∀ b o u,H b=some (.frz o u)->H' b=some (.frz o u)) (tbls:∀ b ps,H b=some (.tbl ps)->∃ more,H' b=some (.tbl (ps ++ more)))
  (ns:∀ m,s.heap.Ns X.env.locals m->h'.Ns X.env.locals m) (hok:bO X.prog X.w H' h') (hg:AllBare g') :
  a6 X pins σ H' { s with heap:=h',gens:=g',drawn:=d',toks:=t' }:=by
 have neL:∀ b o,X.s₀.heap.get? b=some o->b ≠ X.env.locals:=fun b o e=>aW9 (aU5 (aU7 e) I.ok.above)
 have neC:∀ b o,X.s₀.heap.get? b=some o->b ∉ X.ex->b ∉ ch:=fun b o e hx hb=>by
  rcases (hch b hb).1 with z | z
  ·exact hx z
  ·exact absurd (aU5 (aU7 e) z) (aX8 _)
 have cellK:∀ x c,X.env.cells.lookup x=some c->∀ v,s.heap.IsCell c v->h'.IsCell c v:=fun x c e v ⟨o,ho,hd⟩=>by
  have nch:c ∉ ch:=fun z=>(hch c z).2.2.1 x c e rfl
  by_cases hc:c ∈ X.fs
  ·obtain ⟨sl,q⟩:=slot c o (I.cne x c e) hc nch ho (I.freeC x c e)
   exact⟨_,q,hd⟩
  ·exact⟨o,keep c o (I.cne x c e) hc nch ho (I.freeC x c e),hd⟩
 refine⟨I.ok,I.os,hg,⟨fun b o e n hb hx=>?_,fun b o e n hb hx=>?_,fun b o e n hx=>?_,fun b o e hx=>?_,fun b xs e=>tups b xs (I.base.tups b xs e),fun b o xs e=>frzs b o xs (I.base.frzs b o xs e),fun b ps e=>?_⟩,?_,fun x c e=>?_,?_,fun x c e=>?_,fun p hp=>?_,hok,I.len⟩
 ·exact keep b o (neL b o e) hb (neC b o e hx) (I.base.keep b o e n hb hx) (I.base.free b o e n hx)
 ·obtain ⟨sl,e1⟩:=I.base.slot b o e n hb hx
  obtain ⟨sl',e2⟩:=slot b _ (neL b o e) hb (neC b o e hx) e1 (I.base.free b o e n hx)
  exact⟨sl',e2⟩
 ·obtain ⟨o',e1⟩:=I.base.there b o e hx
  exact free b o' (neC b o e hx) e1 (I.base.free b o e n hx)
 ·obtain ⟨o',e1⟩:=I.base.there b o e hx
  exact there b o' (neC b o e hx) e1
 ·obtain ⟨m1,e1⟩:=I.base.tbls b ps e
  obtain ⟨m2,e2⟩:=tbls b _ e1
  exact⟨m1 ++ m2,by rw [e2,Array.append_assoc]⟩
 ·obtain ⟨m,hn,hl⟩:=I.loc
  refine⟨m,ns m hn,fun i x v e1 e2 e3=>?_⟩
  obtain ⟨u,r,l⟩:=hl i x v e1 e2 e3
  refine⟨u,r,?_⟩
  rcases l with l | ⟨k,c,e,z⟩
  ·exact .inl l
  ·exact .inr ⟨k,c,e,cellK x c e _ z⟩
 ·obtain ⟨v,z⟩:=I.cell x c e
  exact⟨v,cellK x c e v z⟩
 ·obtain ⟨m,⟨o,_,_,ho,_⟩,_⟩:=I.loc
  exact free _ o (fun z=>(hch _ z).2.1 rfl) ho I.free
 ·obtain ⟨v,o,ho,hd⟩:=I.cell x c e
  exact free c o (fun z=>(hch c z).2.2.1 x c e rfl) ho (I.freeC x c e)
 ·obtain ⟨e,n,ne,nf,d⟩:=I.pin p hp
  have nch:p.1 ∉ ch:=fun z=>(hch p.1 z).2.2.2 p hp rfl
  exact⟨keep p.1 p.2 ne nf nch e n,free p.1 p.2 nch e n,ne,nf,d⟩
theorem a6.un {t':Nat} (I:a6 X pins σ H s) (u:Un X.fs [] H H' s.heap h') (hok:bO X.prog X.w H' h'):a6 X pins σ H' { s with heap:=h',toks:=t' }:=by
 obtain ⟨m,⟨o,es,ep,ho,r⟩,_⟩:=id I.loc
 obtain ⟨sl,hL⟩:=u.any ho I.free (by simp)
 exact I.step (g':=s.gens) (d':=s.drawn) (ch:=[]) (fun _ z=>nomatch z) (fun b o _ hb _ e n=>u.keep b o e n hb (by simp)) (fun b o _ hb _ e n=>u.slot b o e n hb (by simp)) (fun b o _ e n=>u.free b o e n (by simp)) (fun b o _ e=>u.there b o e (by simp)) u.tups u.frzs u.tbls (fun m' hm=>by
  obtain ⟨o',es',ep',ho',r'⟩:=hm
  rw [ho] at ho'; cases ho'
  exact⟨_,es',ep',hL,r'⟩) hok I.bare
theorem a6.call {g':Array GenState}{t':Nat}{d':Drawn}{ch:List Addr} (I:a6 X pins σ H s) (u:Un (bM X.stack) ch H H' s.heap h') (hok:bO X.prog X.w H' h') (hg:AllBare g')
  (hch:∀ b ∈ ch,(b ∈ X.ex ∨ X.s₀.heap.objs.size<=b)/\b ≠ X.env.locals/\(∀ x c,X.env.cells.lookup x=some c->c ≠ b)/\∀ p ∈ X.pn ++ pins,p.1 ≠ b) :
  a6 X pins σ H' { s with heap:=h',gens:=g',drawn:=d',toks:=t' }:=by
 obtain ⟨m,⟨o,es,ep,ho,r⟩,_⟩:=id I.loc
 obtain ⟨sl,hL⟩:=u.any ho I.free fun z=>(hch _ z).2.1 rfl
 exact I.step (ch:=ch) hch (fun b o hL hb hc e n=>u.keep b o e n (fun z=>(aU0.mp (I.stkSub b z)).elim hL hb) hc) (fun b o _ _ hc e n=>u.any e n hc) (fun b o hc e n=>u.free b o e n hc) (fun b o hc e=>u.there b o e hc) u.tups u.frzs u.tbls (fun m' hm=>by
  obtain ⟨o',es',ep',ho',r'⟩:=hm
  rw [ho] at ho'; cases ho'
  exact⟨_,es',ep',hL,r'⟩) hok hg
theorem a6.turned {t':Nat}{it:Addr} (I:a6 X pins σ H s) (k:∀ b o,b ≠ it->s.heap.get? b=some o->h'.get? b=some o) (hn:H it=none) (hL:it ≠ X.env.locals)
  (h1:it ∈ X.ex ∨ X.s₀.heap.objs.size<=it) (h2:∀ x c,X.env.cells.lookup x=some c->c ≠ it) (h3:∀ p ∈ X.pn ++ pins,p.1 ≠ it):a6 X pins σ H { s with heap:=h',toks:=t' }:=by
 have nit:∀ b u,H b=some u->b ≠ it:=fun b u e z=>by rw [z,hn] at e; cases e
 refine I.step (g':=s.gens) (d':=s.drawn) (ch:=[it]) (fun b hb=>?_) (fun b o _ _ hc e _=>k b o (fun z=>hc (by simp [z])) e) (fun b o _ _ hc e _=>⟨o.slots,k b o (fun z=>hc (by simp [z])) e⟩) (fun _ _ _ _ n=>n)
  (fun b o hc e=>⟨o,k b o (fun z=>hc (by simp [z])) e⟩) (fun _ _ e=>e) (fun _ _ _ e=>e) (fun b ps e=>⟨#[],by rw [e]; simp⟩) (fun m hm=>?_) (fun b u e=>?_) I.bare
 ·have e:b=it:=by simpa using hb
  subst e
  exact⟨h1,hL,h2,h3⟩
 ·obtain ⟨o,es,ep,ho,r⟩:=hm
  exact⟨o,es,ep,k _ o (Ne.symm hL) ho,r⟩
 ·refine (I.hok b u e).stay (fun c v hc q=>k c v ?_ q) (fun _ q=>q) fun _ _ q=>q
  rcases hc with z | z
  ·rw [z]; exact nit b u e
  ·exact nit c _ z
theorem a6.tok (I:a6 X pins σ H s) (t:Nat):a6 X pins σ H { s with toks:=t }:=I.un (h':=s.heap) (t':=t) Un.refl I.hok
theorem a6.kept {t':Nat} (I:a6 X pins σ H s) (k:∀ b u,s.heap.get? b=some u->h'.get? b=some u):a6 X pins σ H { s with heap:=h',toks:=t' }:=I.un (Un.kept k) (I.hok.kept k)
theorem a6.laid {a:Addr}{o:HO}{t':Nat} (I:a6 X pins σ H s) (k:∀ b u,s.heap.get? b=some u->h'.get? b=some u) (hp:s.heap.objs.size<=a) (new:bY X.prog X.w (upd H a o) h' a o) :
  a6 X pins σ (upd H a o) { s with heap:=h',toks:=t' }:=I.un (Un.laid k hp (I.hok.fresh hp)) (I.hok.laid k hp new)
theorem a6.write {x e:Addr}{o:HO}{t':Nat} (I:a6 X pins σ H s) (mu:mQ (H x)) (he:e=x ∨ H e=some (.own x)) (k:∀ b u,b ≠ e->s.heap.get? b=some u->h'.get? b=some u) (heo:∃ u,h'.get? e=some u)
  (new:bY X.prog X.w (upd H x o) h' x o):a6 X pins σ (upd H x o) { s with heap:=h',toks:=t' }:=I.un (Un.write mu he k heo) (I.hok.write mu he k heo new)
theorem a6.weak {σ':List (Option V)} (I:a6 X pins σ H s) (hl:σ'.length=σ.length) (w:∀ (i:Nat) v,σ'[i]? = some (some v)->σ[i]? = some (some v)):a6 X pins σ' H s:=
 ⟨I.ok,I.os,I.bare,I.base,let ⟨m,hn,hl'⟩:=I.loc; ⟨m,hn,fun i x v e1 e2 e3=>hl' i x v e1 (w i v e2) e3⟩,I.cell,I.free,I.freeC,I.pin,I.hok,hl.trans I.len⟩
theorem a6.pins_of {pins':List (Addr × Obj)} (I:a6 X pins σ H s) (h:∀ p ∈ pins',s.heap.get? p.1=some p.2/\H p.1=none/\p.1 ≠ X.env.locals/\p.1 ∉ X.fs/\∀ v,p.2.data ≠ .cell v):a6 X pins' σ H s:=
 ⟨I.ok,I.os,I.bare,I.base,I.loc,I.cell,I.free,I.freeC,fun p hp=>(aT9.mp hp).elim (fun z=>I.pin p (aX2 _ z)) (h p),I.hok,I.len⟩
theorem x8 {N:List Str} (hN:N.Nodup) {i j:Nat}{x:Str} (a:N[i]? = some x) (b:N[j]? = some x):i=j:=by
 obtain ⟨h1,e1⟩:=aT3.mp a
 obtain ⟨h2,e2⟩:=aT3.mp b
 exact (List.getElem_inj hN).mp (e1.trans e2.symm)
theorem sF {M:Model}{A:Around}{E:Value->Shared->Prop}{i:Nat}{x:Str}{v:V}{u:Value}{Q:Unit->Shared->Prop} (I:a6 X pins σ H s) (hN:X.N.Nodup) (hi:X.N[i]? = some x) (hx:iD X.env.scope x) (r:b4 v u)
  (h:∀ s',a6 X pins (σ.set i (some v)) H s'->(∃ a,Heap.SameBut a s.heap s'.heap/\(a=X.env.locals ∨ X.env.cells.lookup x=some a))->Q () s') (hf:X.fn x=true ∨ X.env.scope.names.lookup x=some .local:=by first | exact .inl rfl | exact .inr rfl | assumption):wpAny M A (storeName X.env x u) Q E s:=by
 obtain ⟨m,hn,hl⟩:=id I.loc
 have hcls:(X.env.scope.kind == .class || (X.env.scope.kind == .module && X.env.locals != X.env.globals))=false:=by rw [I.ok.kind]; rfl
 have hiσ:i < σ.length:=by rw [I.len]; exact (aT3.mp hi).1
 have cne:=I.cne
 have tracked:∀ {a:Addr}{h':Heap},(∃ o,s.heap.get? a=some o/\H a=none)->Heap.SameBut a s.heap h'->bO X.prog X.w H h':=fun {a h'} ha hs b ob e=>by
  obtain ⟨_,_,hfree⟩:=ha
  refine (I.hok b ob e).stay (fun c w' hc q=>(hs.2 c ?_).trans q) (fun _ q=>q) fun _ _ q=>q
  rintro rfl
  rcases hc with rfl | hc
  ·rw [hfree] at e; cases e
  ·rw [hfree] at hc; cases hc
 rcases hx with hk | hk
 ·refine wpAny_storeName_local hk hn (fun h' hn' hs=>?_) hcls
  obtain ⟨oL,_,_,hoL,_⟩:=id hn
  refine h _ ⟨I.ok,I.os,I.bare,⟨fun b o e n hb hx=>?_,fun b o e n hb hx=>?_,I.base.free,fun b o e hx=>?_,I.base.tups,I.base.frzs,I.base.tbls⟩,⟨_,hn',fun j y v' e1 e2 e3=>?_⟩,fun y c e=>?_,I.free,I.freeC,fun p hp=>?_,tracked ⟨oL,hoL,I.free⟩ hs,by simpa using I.len⟩ ⟨_,hs,.inl rfl⟩
  ·exact (hs.2 b (aW9 (aU5 (aU7 e) I.ok.above))).trans (I.base.keep b o e n hb hx)
  ·obtain ⟨sl,e1⟩:=I.base.slot b o e n hb hx
   exact⟨sl,(hs.2 b (aW9 (aU5 (aU7 e) I.ok.above))).trans e1⟩
  ·obtain ⟨o',e1⟩:=I.base.there b o e hx
   exact⟨o',(hs.2 b (aW9 (aU5 (aU7 e) I.ok.above))).trans e1⟩
  ·by_cases hj:j=i
   ·subst hj
    rw [hi] at e1; cases e1
    rw [aZ3 hiσ] at e2
    cases e2
    exact⟨u,r,.inl ⟨hk,by simp⟩⟩
   ·rw [aW4 (Ne.symm hj)] at e2
    obtain ⟨u',r',q⟩:=hl j y v' e1 e2 e3
    refine⟨u',r',?_⟩
    rcases q with ⟨k,e⟩ | ⟨k,c,e,z⟩
    ·refine .inl ⟨k,?_⟩
     have:y ≠ x:=fun e=>hj (x8 hN e1 (e ▸ hi))
     simp [this,e]
    ·exact .inr ⟨k,c,e,z.sameBut hs (cne y c e)⟩
  ·obtain ⟨w',z⟩:=I.cell y c e
   exact⟨w',z.sameBut hs (cne y c e)⟩
  ·obtain ⟨e,n,ne,nf,d⟩:=I.pin p hp
   exact⟨(hs.2 p.1 ne).trans e,n,ne,nf,d⟩
 ·have hfn:X.fn x=true:=by
   rcases hf with z | z
   ·exact z
   ·rw [z] at hk; cases hk
  obtain ⟨c,hc⟩:=I.ok.has x (.inl hk)
  obtain ⟨w',z⟩:=I.cell x c hc
  refine wpAny_storeName_cell I.ok.kind hk hc z (fun h' hc' hs=>?_)
  obtain ⟨oc,hoc,hocd⟩:=id z
  refine h { s with heap:=h' } ⟨I.ok,I.os,I.bare,⟨fun b o e n hb hx=>?_,fun b o e n hb hx=>?_,I.base.free,fun b o e hx=>?_,I.base.tups,I.base.frzs,I.base.tbls⟩,⟨m,hn.sameBut hs (Ne.symm (cne x c hc)),fun j y v' e1 e2 e3=>?_⟩,fun y c' e=>?_,I.free,I.freeC,fun p hp=>?_,tracked ⟨oc,hoc,I.freeC x c hc⟩ hs,by simpa using I.len⟩ ⟨c,hs,.inr hc⟩
  ·exact (hs.2 b (aW9 (aU5 (aU7 e) (I.ok.cab x c hfn hc)))).trans (I.base.keep b o e n hb hx)
  ·obtain ⟨sl,e1⟩:=I.base.slot b o e n hb hx
   exact⟨sl,(hs.2 b (aW9 (aU5 (aU7 e) (I.ok.cab x c hfn hc)))).trans e1⟩
  ·obtain ⟨o',e1⟩:=I.base.there b o e hx
   exact⟨o',(hs.2 b (aW9 (aU5 (aU7 e) (I.ok.cab x c hfn hc)))).trans e1⟩
  ·by_cases hj:j=i
   ·subst hj
    rw [hi] at e1; cases e1
    rw [aZ3 hiσ] at e2
    cases e2
    exact⟨u,r,.inr ⟨.inl hk,c,hc,hc'⟩⟩
   ·rw [aW4 (Ne.symm hj)] at e2
    obtain ⟨u',r',q⟩:=hl j y v' e1 e2 e3
    refine⟨u',r',?_⟩
    rcases q with q | ⟨k,c',e,z'⟩
    ·exact .inl q
    ·refine .inr ⟨k,c',e,z'.sameBut hs ?_⟩
     rintro rfl
     exact hj (x8 hN e1 (I.ok.inj _ _ _ e hc ▸ hi))
  ·by_cases hcc:c'=c
   ·subst hcc; exact⟨_,hc'⟩
   ·obtain ⟨w2,z2⟩:=I.cell y c' e
    exact⟨w2,z2.sameBut hs hcc⟩
  ·obtain ⟨e,n,ne,nf,d⟩:=I.pin p hp
   refine⟨(hs.2 p.1 ?_).trans e,n,ne,nf,d⟩
   intro q
   rw [q,hoc] at e
   have q':oc=p.2:=aV2 e
   exact d w' (by rw [<- q']; exact hocd)
theorem sG {M:Model}{A:Around}{E:Value->Shared->Prop}{i:Nat}{x:Str}{v:V}{u:Value}{Q:Unit->Shared->Prop} (I:a6 X pins σ H s) (hN:X.N.Nodup) (hi:X.N[i]? = some x) (hx:iD X.env.scope x) (r:b4 v u)
  (h:∀ s',a6 X pins (σ.set i (some v)) H s'->Q () s') (hf:X.fn x=true ∨ X.env.scope.names.lookup x=some .local:=by first | exact .inl rfl | exact .inr rfl | assumption):wpAny M A (storeName X.env x u) Q E s:=
 sF I hN hi hx r (fun s' I' _=>h s' I') hf
theorem a6.call' {s':Shared}{ch:List Addr} (I:a6 X pins σ H s) (ho:s'.os=s.os) (u:Un (bM X.stack) ch H H' s.heap s'.heap) (hok:bO X.prog X.w H' s'.heap) (hg:AllBare s'.gens)
  (hch:∀ b ∈ ch,(b ∈ X.ex ∨ X.s₀.heap.objs.size<=b)/\b ≠ X.env.locals/\(∀ x c,X.env.cells.lookup x=some c->c ≠ b)/\∀ p ∈ X.pn ++ pins,p.1 ≠ b):a6 X pins σ H' s':=by
 obtain ⟨h',g',d',t',o'⟩:=s'
 have e:o'=s.os:=ho
 subst e
 exact I.call (g':=g') (t':=t') (d':=d') u hok hg hch
end
noncomputable abbrev XK:=Value->Option Addr->Hp->Prop
noncomputable abbrev St:=List (Option V)
noncomputable abbrev VK:=V->Hp->Prop
noncomputable abbrev TE:=St->Hp->VK->Prop
noncomputable abbrev TT:=St->Hp->(Bool->Hp->Prop)->Prop
noncomputable abbrev TA:=St->Hp->(List V->Hp->Prop)->Prop
structure cX where
 nx:St->Hp->Prop
 rt:VK
 bk:St->Hp->Prop:=fun _ _=>False
 ct:St->Hp->Prop:=fun _ _=>False
noncomputable abbrev TS:=cX->St->Hp->Prop
noncomputable def EP (X:Cx) (pins:List (Addr × Obj)) (σ:St) (Q:VK) (u:Value) (s':Shared):Prop:=∃ v H',a6 X pins σ H' s'/\b4 v u/\Q v H'
noncomputable def TP (X:Cx) (pins:List (Addr × Obj)) (σ:St) (Q:Bool->Hp->Prop) (b:Bool) (s':Shared):Prop:=∃ H',a6 X pins σ H' s'/\Q b H'
noncomputable def AP (X:Cx) (pins:List (Addr × Obj)) (σ:St) (Q:List V->Hp->Prop) (us:List Value) (s':Shared):Prop:=∃ vs H',a6 X pins σ H' s'/\aI vs us/\Q vs H'
noncomputable def SP (X:Cx) (pins:List (Addr × Obj)) (D:cX) (f:Flow) (s':Shared):Prop:=
 match f with
 | .next=>∃ σ' H',a6 X pins σ' H' s'/\D.nx σ' H'
 | .brk=>∃ σ' H',a6 X pins σ' H' s'/\D.bk σ' H'
 | .cont=>∃ σ' H',a6 X pins σ' H' s'/\D.ct σ' H'
 | .ret u=>∃ v σ' H',a6 X pins σ' H' s'/\b4 v u/\D.rt v H'
noncomputable def PE (X:Cx) (e:Expr) (t:TE):Prop:=
 ∀ (pins:List (Addr × Obj)) (s:Shared) (σ:St) (H:Hp) (Q:VK),a6 X pins σ H s->t σ H Q->wpAny (model X.prog X.w) X.A (eval e X.env) (EP X pins σ Q) X.xe s
noncomputable def PT (X:Cx) (e:Expr) (t:TT):Prop:=
 ∀ (pins:List (Addr × Obj)) (s:Shared) (σ:St) (H:Hp) (Q:Bool->Hp->Prop),a6 X pins σ H s->t σ H Q->wpAny (model X.prog X.w) X.A (isTrue e X.env (eval e X.env)) (TP X pins σ Q) X.xe s
noncomputable def PW (X:Cx) (e:Expr) (t:TT):Prop:=
 ∀ (whole:Sem Value) (pins:List (Addr × Obj)) (s:Shared) (σ:St) (H:Hp) (Q:Bool->Hp->Prop),a6 X pins σ H s->t σ H Q->wpAny (model X.prog X.w) X.A (isTrue e X.env whole) (TP X pins σ Q) X.xe s
theorem PW.pt {X:Cx}{e:Expr}{t:TT} (h:PW X e t):PT X e t:=h _
noncomputable def PA (X:Cx) (es:List Expr) (t:TA):Prop:=
 ∀ (pos:Pos) (pins:List (Addr × Obj)) (s:Shared) (σ:St) (H:Hp) (Q:List V->Hp->Prop),a6 X pins σ H s->t σ H Q->wpAny (model X.prog X.w) X.A (spliced (backTo pos (starEach es X.env))) (AP X pins σ Q) X.xe s
noncomputable def PS (X:Cx) (st:Stmt) (t:TS):Prop:=
 ∀ (pins:List (Addr × Obj)) (s:Shared) (σ:St) (H:Hp) (D:cX),a6 X pins σ H s->t D σ H->wpAny (model X.prog X.w) X.A (exec st X.env) (SP X pins D) X.xe s
noncomputable def dO (X:Cx) (st:List Stmt) (t:TS):Prop:=
 ∀ (pins:List (Addr × Obj)) (s:Shared) (σ:St) (H:Hp) (D:cX),a6 X pins σ H s->t D σ H->wpAny (model X.prog X.w) X.A (execs st X.env) (SP X pins D) X.xe s
theorem aO {α:Type}{t:Sem α}{Q Q':α->Shared->Prop}{M:Model}{A:Around}{E:Value->Shared->Prop}{s:Shared} (h:wpAny M A t Q E s) (hQ:∀ a s,Q a s->Q' a s):wpAny M A t Q' E s:=ba6 h hQ fun _ _ x=>x
section
variable {X : Cx}
theorem bin {a b:Expr}{ta tb:TE} (ha:PE X a ta) (hb:PE X b tb) {pins:List (Addr × Obj)}{s:Shared}{σ:St}{H:Hp}{R:V->V->Hp->Prop} (I:a6 X pins σ H s) (h:ta σ H fun x H1=>tb σ H1 fun y H2=>R x y H2)
  {α:Type}{Q:α->Shared->Prop}{f:Value->Value->Sem α}
  (hf:∀ v u s2 x y H2,a6 X pins σ H2 s2->b4 x v->b4 y u->R x y H2->wpAny (model X.prog X.w) X.A (f v u) Q X.xe s2) :
  wpAny (model X.prog X.w) X.A (eval a X.env) (fun v s₁=>wpAny (model X.prog X.w) X.A (eval b X.env) (fun u s₂=>wpAny (model X.prog X.w) X.A (f v u) Q X.xe s₂) X.xe s₁) X.xe s:=by
 refine aO (ha pins s σ H _ I h) fun v s1 ⟨x,H1,I1,r1,q1⟩=>?_
 refine aO (hb pins s1 σ H1 _ I1 q1) fun u s2 ⟨y,H2,I2,r2,q2⟩=>?_
 exact hf v u s2 x y H2 I2 r1 r2 q2
noncomputable def iE (i:Nat):TE:=fun σ H Q=>∃ v,σ[i]? = some (some v)/\Q v H
noncomputable def tC (v:V):TE:=fun _ H Q=>Q v H
theorem iO {i:Nat}{x:Str}{pos:Pos} (hN:X.N[i]? = some x) (hv:gF X.env.scope x) (hd:(x == ("__debug__" : Str))=false:=by decide) (hcd:(x == ("__classdict__" : Str))=false:=by decide):PE X (.Name x pos) (iE i):=by
 intro pins s σ H Q I h
 obtain ⟨v,e,h⟩:=h
 obtain ⟨m,hn,hl⟩:=I.loc
 obtain ⟨u,r,l⟩:=hl i x v hN e hv
 have fin:EP X pins σ Q u s:=⟨v,H,I,r,h⟩
 rcases l with ⟨hk,hm⟩ | ⟨hk,c,hc,hcell⟩
 ·exact wpAny_Name (wpAny_loadName_local I.ok.kind hk hn hm fin) hd
 ·rcases hk with hk | hk
  ·exact wpAny_Name (wpAny_loadName_cell I.ok.kind hk hc hcell fin) hd
  ·exact wpAny_Name (wpAny_loadName_free I.ok.kind hk hc hcell fin hcd) hd
theorem k8 {i j pos}:PE X (.Constant (.int i) j pos) (tC (.int i)):=fun _ _ _ H _ I h=>wpAny_Constant_int ⟨.int i,H,I.tok _,⟨_,rfl⟩,h⟩
theorem x9 {b j pos}:PE X (.Constant (.bool b) j pos) (tC (.bl b)):=fun _ _ _ H _ I h=>Constant_bool ⟨.bl b,H,I,rfl,h⟩
theorem ab8 {j pos}:PE X (.Constant .none j pos) (tC .non):=fun _ _ _ H _ I h=>Constant_none ⟨.non,H,I,rfl,h⟩
theorem ab9 {x j pos}:PE X (.Constant (.str x) j pos) (tC (.str x)):=fun _ _ _ H _ I h=>Calls.Constant_str ⟨.str x,H,I.tok _,⟨_,rfl⟩,h⟩
noncomputable def Gl (X:Cx) (x:Str):Prop:=X.env.kindOf x=some .globalImplicit
theorem oX {E:Value->Shared->Prop}{pins:List (Addr × Obj)}{s:Shared}{σ:St}{H:Hp}{x:Str}{u:Value}{pos:Pos}{Q:Value->Shared->Prop} (I:a6 X pins σ H s) (hg:Gl X x) (hm:X.mg x=some u) (h:Q u s)
  (hd:(x == ("__debug__" : Str))=false:=by decide):wpAny (model X.prog X.w) X.A (eval (.Name x pos) X.env) Q E s:=
 Calls.Name_function_global I.ok.kind hg (Calls.loadGlobal_global (by rw [I.ok.glob]; exact I.mod.glob.keeps I.bk) hm h) hd
theorem jL {E:Value->Shared->Prop}{pins:List (Addr × Obj)}{s:Shared}{σ:St}{H:Hp}{x:Str}{u:Value}{pos:Pos}{Q:Value->Shared->Prop} (I:a6 X pins σ H s) (hg:Gl X x) (hm:X.mg x=none) (hv:bootBuiltins x=some u) (h:Q u s)
  (hn:x ≠ "__name__":=by decide) (hd:(x == ("__debug__" : Str))=false:=by decide):wpAny (model X.prog X.w) X.A (eval (.Name x pos) X.env) Q E s:=by
 obtain ⟨mb,h1,h2⟩:=I.mod.blt
 exact Calls.Name_function_global I.ok.kind hg (Calls.loadGlobal_builtin (by rw [I.ok.glob]; exact I.mod.glob.keeps I.bk) hm (by rw [I.ok.blt]; exact h1.keeps I.bk) ((h2 x hn).trans hv) h) hd
variable {a b : Expr} {ta tb : TE} {pos : Pos}
noncomputable def PC (X:Cx) (op:CmpOp) (a b:Expr) (t:TE):Prop:=
 ∀ (pins:List (Addr × Obj)) (s:Shared) (σ:St) (H:Hp) (Q:VK),a6 X pins σ H s->t σ H Q->
  wpAny (model X.prog X.w) X.A (eval a X.env) (fun v s₁=>wpAny (model X.prog X.w) X.A (eval b X.env) (fun u s₂=>wpAny (model X.prog X.w) X.A (compareOp op v u) (EP X pins σ Q) X.xe s₂) X.xe s₁) X.xe s
noncomputable def tB (t:TE):TT:=fun σ H Q=>t σ H fun x H1=>∃ c,x = .bl c/\Q c H1
theorem xA {op:CmpOp}{t:TE} (h:PC X op a b t) (h1:behindInMarks op b=false:=by first | exact nobehind _ (by decide) (by decide) | rfl):PT X (.Compare a [op] [b] pos) (tB t):=by
 intro pins s σ H Q I hw
 refine wpAny_isTrue_Compare1 (aO (h pins s σ H _ I hw) fun v s1 h1=>aO h1 fun u s2 h2=>aO h2 fun c s3 ⟨x,H1,I1,r1,q1⟩=>?_) h1
 obtain ⟨d,rfl,q⟩:=q1
 cases r1
 exact be6 ⟨H1,I1,q⟩
theorem ac0 {e:Expr}{t:TE} (h:PE X e t) (he:∀ whole,isTrue e X.env whole=(do let v <- whole; standAt e.pos; holding [v] (truthy v)):=by intro _; rfl):PT X e (tB t):=by
 intro pins s σ H Q I hw
 refine isTrue_plain (aO (h pins s σ H _ I hw) fun v s1 ⟨x,H1,I1,r1,q1⟩=>?_) (he _)
 obtain ⟨d,rfl,q⟩:=q1
 cases r1
 exact be6 ⟨H1,I1,q⟩
variable {tA tB' : TT} {cS : List Expr}
noncomputable def xB (t u:TT):TT:=fun σ H Q=>t σ H fun c H1=>if c=true then u σ H1 Q else Q false H1
noncomputable def xC (t u:TT):TT:=fun σ H Q=>t σ H fun c H1=>if c=true then Q true H1 else u σ H1 Q
noncomputable def xD (t:TT):TT:=fun σ H Q=>t σ H fun c H1=>Q (!c) H1
theorem ac1 (ha:PT X a tA):PW X (.BoolOp .And [a] pos) tA:=by
 intro wh pins s σ H Q I h
 refine isTrue_and (aO (ha pins s σ H Q I h) fun c s1 e=>?_)
 cases c with
 | true=>exact isTrue_and_nil e
 | false=>exact e
theorem ac2 (ha:PT X a tA):PW X (.BoolOp .Or [a] pos) tA:=by
 intro wh pins s σ H Q I h
 refine isTrue_or (aO (ha pins s σ H Q I h) fun c s1 e=>?_)
 cases c with
 | false=>exact isTrue_or_nil e
 | true=>exact e
theorem ac3 (ha:PT X a tA) (hb:PW X (.BoolOp .And (b :: cS) pos) tB'):PW X (.BoolOp .And (a :: b :: cS) pos) (xB tA tB'):=by
 intro wh pins s σ H Q I h
 refine isTrue_and (aO (ha pins s σ H _ I h) fun c s1 ⟨H1,I1,q1⟩=>?_)
 cases c with
 | true=>exact hb wh pins s1 σ H1 Q I1 q1
 | false=>exact⟨H1,I1,q1⟩
theorem ac4 (ha:PT X a tA) (hb:PW X (.BoolOp .Or (b :: cS) pos) tB'):PW X (.BoolOp .Or (a :: b :: cS) pos) (xC tA tB'):=by
 intro wh pins s σ H Q I h
 refine isTrue_or (aO (ha pins s σ H _ I h) fun c s1 ⟨H1,I1,q1⟩=>?_)
 cases c with
 | true=>exact⟨H1,I1,q1⟩
 | false=>exact hb wh pins s1 σ H1 Q I1 q1
theorem ac5 (ha:PT X a tA):PT X (.UnaryOp .Not a pos) (xD tA):=by
 intro pins s σ H Q I h
 exact isTrue_not (ha pins s σ H (fun c H1=>Q (!c) H1) I h)
noncomputable def xE (ta tb:TE):TE:=fun σ H Q=>ta σ H fun x H1=>∃ c,x = .bl c/\if c=true then tb σ H1 Q else Q (.bl false) H1
theorem ac6 {op}{t:TE} (h:PE X a t):PE X (.BoolOp op [a] pos) t:=fun pins s σ H Q I hw=>BoolOp_one (h pins s σ H Q I hw)
theorem ac7 (ha:PE X a ta) (hb:PE X (.BoolOp .And (b :: cS) pos) tb):PE X (.BoolOp .And (a :: b :: cS) pos) (xE ta tb):=by
 intro pins s σ H Q I h
 refine BoolOp_and (aO (ha pins s σ H _ I h) fun v s1 ⟨x,H1,I1,r1,q1⟩=>?_)
 obtain ⟨c,rfl,q1⟩:=q1
 cases r1
 refine be6 ?_
 cases c with
 | true=>exact hb pins s1 σ H1 Q I1 q1
 | false=>exact⟨.bl false,H1,I1,rfl,q1⟩
end
noncomputable def aJ (K:PySem.W.Frag) (H:Hp) (a:Addr) (xs:List V):Prop:=
 Rd H a (.lst xs) ∨
  ∃ (o:Obj) (its:Array Value) (n:Nat),K.lookup a=some o/\o.cls = .type "list"/\o.dict=none/\o.data = .seq its n/\its.size<=sizeLine/\aI xs its.toList
noncomputable def aQ (K:PySem.W.Frag) (H:Hp) (a:Addr) (xs:List V):Prop:=
 Rd H a (.tup xs) ∨
  ∃ (o:Obj) (its:Array Value) (n:Nat),K.lookup a=some o/\o.cls = .type "tuple"/\o.data = .seq its n/\its.size<=sizeLine/\aI xs its.toList
noncomputable def ac8:Value->Option V
 | .none=>some .non
 | .bool b=>some (.bl b)
 | .int i _=>some (.int i)
 | .str x _=>some (.str x)
 | .bytes b _=>some (.byt b)
 | .float b _=>some (.flt b)
 | .ref a=>some (.ref a)
 | .type n=>some (.ty n)
 | _=>none
theorem b4.abs {x:V}{u:Value} (r:b4 x u):ac8 u=some x:=by
 cases x with
 | non=>cases r; rfl
 | bl _=>cases r; rfl
 | int _=>obtain ⟨t,rfl⟩:=r; rfl
 | str _=>obtain ⟨t,rfl⟩:=r; rfl
 | byt _=>obtain ⟨t,rfl⟩:=r; rfl
 | flt _=>obtain ⟨t,rfl⟩:=r; rfl
 | ref _=>cases r; rfl
 | ty _=>cases r; rfl
theorem b4.inj {x y:V}{u:Value} (r:b4 x u) (q:b4 y u):x=y:=aV2 (r.abs.symm.trans q.abs)
theorem aI.inj:∀ {xs ys:List V}{us:List Value},aI xs us->aI ys us->xs=ys
 | _,_,_,.nil,.nil=>rfl
 | _,_,_,.cons r t,.cons r' t'=>by rw [r.inj r',aI.inj t t']
section
variable {X : Cx} {pins : List (Addr × Obj)} {σ : St} {H : Hp} {s : Shared} {a : Addr} {xs ys : List V}
theorem aJ.of {K:PySem.W.Frag} (h:H a=some (.lst xs)):aJ K H a xs:=.inl (.inl h)
theorem aQ.of {K:PySem.W.Frag} (h:H a=some (.tup xs)):aQ K H a xs:=.inl (.inl h)
theorem a6.list (I:a6 X pins σ H s) (h:aJ X.K H a xs):∃ its:List Value,aI xs its/\PlainL s.heap a its.toArray/\xs.length<=sizeLine:=by
 rcases h with h | ⟨o,its,n,hk,hc,hd,hs,hz,r⟩
 ·obtain ⟨z,its,n,r,e⟩:=h.ok I.hok
  exact⟨its,r,⟨_,n,e,rfl,rfl,rfl⟩,z⟩
 ·refine⟨its.toList,r,⟨o,n,I.kIn a o hk,hc,hd,by simpa using hs⟩,?_⟩
  have e:=r.length
  simp only [aX3] at e
  omega
theorem a6.tuple (I:a6 X pins σ H s) (h:aQ X.K H a xs):∃ its:List Value,aI xs its/\IsTup s.heap a its.toArray/\xs.length<=sizeLine:=by
 rcases h with h | ⟨o,its,n,hk,hc,hs,hz,r⟩
 ·obtain ⟨z,its,r,p,_⟩:=h.ok I.hok
  exact⟨its,r,p,z⟩
 ·refine⟨its.toList,r,⟨o,I.kIn a o hk,hc,n,by simpa using hs⟩,?_⟩
  have e:=r.length
  simp only [aX3] at e
  omega
theorem a6.list_inj (I:a6 X pins σ H s) (h:aJ X.K H a xs) (h':aJ X.K H a ys):xs=ys:=by
 obtain ⟨its,r,⟨o,n,e,_,_,d⟩,_⟩:=I.list h
 obtain ⟨its',r',⟨o',n',e',_,_,d'⟩,_⟩:=I.list h'
 rw [e] at e'; cases e'
 rw [d] at d'
 injection d' with d1 _
 have:its=its':=by simpa using congrArg Array.toList d1
 subst this
 exact r.inj r'
theorem a6.tuple_inj (I:a6 X pins σ H s) (h:aQ X.K H a xs) (h':aQ X.K H a ys):xs=ys:=by
 obtain ⟨its,r,⟨o,e,_,n,d⟩,_⟩:=I.tuple h
 obtain ⟨its',r',⟨o',e',_,n',d'⟩,_⟩:=I.tuple h'
 rw [e] at e'; cases e'
 rw [d] at d'
 injection d' with d1 _
 have:its=its':=by simpa using congrArg Array.toList d1
 subst this
 exact r.inj r'
end
noncomputable abbrev Cx.wish (X:Cx) (E:Value->Shared->Prop):Cx:={ X with xe:=E }
noncomputable abbrev Cx.nox (X:Cx):Cx:=X.wish fun _ _=>False
theorem Cx.Ok.wish {X:Cx} (ok:X.Ok) (E:Value->Shared->Prop):(X.wish E).Ok:=
 ⟨ok.mod,ok.kind,ok.glob,ok.blt,ok.above,ok.inj,ok.has,ok.cab,ok.hd,ok.frames,ok.stk,ok.exf,ok.bs,ok.bsz,ok.noex,ok.exfs,ok.funs,ok.frf⟩
theorem Cx.Ok.unwish {X:Cx}{E:Value->Shared->Prop} (ok:(X.wish E).Ok):X.Ok:=
 ⟨ok.mod,ok.kind,ok.glob,ok.blt,ok.above,ok.inj,ok.has,ok.cab,ok.hd,ok.frames,ok.stk,ok.exf,ok.bs,ok.bsz,ok.noex,ok.exfs,ok.funs,ok.frf⟩
section
variable {X : Cx} {pins : List (Addr × Obj)} {σ : St} {H : Hp} {s : Shared} {E : Value → Shared → Prop}
theorem a6.wish (I:a6 X pins σ H s) (E:Value->Shared->Prop):a6 (X.wish E) pins σ H s:=⟨I.ok.wish E,I.os,I.bare,I.base,I.loc,I.cell,I.free,I.freeC,I.pin,I.hok,I.len⟩
theorem a6.unwish (I:a6 (X.wish E) pins σ H s):a6 X pins σ H s:=⟨I.ok.unwish,I.os,I.bare,I.base,I.loc,I.cell,I.free,I.freeC,I.pin,I.hok,I.len⟩
theorem SP.unwish {D:cX}{f:Flow}{s':Shared} (h:SP (X.wish E) pins D f s'):SP X pins D f s':=by
 cases f with
 | next=>obtain ⟨σ',H',I,q⟩:=h; exact⟨σ',H',I.unwish,q⟩
 | brk=>obtain ⟨σ',H',I,q⟩:=h; exact⟨σ',H',I.unwish,q⟩
 | cont=>obtain ⟨σ',H',I,q⟩:=h; exact⟨σ',H',I.unwish,q⟩
 | ret u=>obtain ⟨v,σ',H',I,r,q⟩:=h; exact⟨v,σ',H',I.unwish,r,q⟩
theorem dO.nox {st:List Stmt}{t:TS} (h:dO X.nox st t):dO X st t:=fun pins s σ H D I hw=>
 ba6 (h pins s σ H D (I.wish _) hw) (fun _ _ q=>q.unwish) fun _ _ z=>False.elim z
end
section
variable {X : Cx} {st : Stmt} {cS : List Stmt} {t u : TS} {e : Expr} {te : TE} {pos : Pos}
noncomputable def xF:TS:=fun D σ H=>D.nx σ H
noncomputable def xG (t u:TS):TS:=fun D σ H=>t { D with nx:=u D } σ H
theorem ac9:dO X [] xF:=fun _ _ σ H _ I h=>wpAny_execs_nil ⟨σ,H,I,h⟩
theorem k9 (h1:PS X st t) (h2:dO X cS u):dO X (st :: cS) (xG t u):=by
 intro pins s σ H D I h
 refine wpAny_execs_cons (aO (h1 pins s σ H { D with nx:=u D } I h) fun f s1 q=>?_)
 cases f with
 | next=>
  obtain ⟨σ',H',I',q⟩:=q
  exact h2 pins s1 σ' H' D I' q
 | ret v=>exact q
 | brk=>exact q
 | cont=>exact q
theorem kA (h1:PS X st t):dO X [st] t:=by
 intro pins s σ H D I h
 refine wpAny_execs_cons (aO (h1 pins s σ H D I h) fun f s1 q=>?_)
 cases f with
 | next=>exact wpAny_execs_nil q
 | ret v=>exact q
 | brk=>exact q
 | cont=>exact q
theorem a6.quiet {pins:List (Addr × Obj)}{σ:St}{H:Hp}{s:Shared} (I:a6 X pins σ H s):interactive X.env=false:=by simp [interactive,I.ok.kind]
noncomputable def oY (te:TE):TS:=fun D σ H=>te σ H fun _ H1=>D.nx σ H1
theorem kB (he:PE X e te) (hs:swapsWith e none pos.line X.env=pure false:=by rfl):PS X (.Expr e pos) (oY te):=by
 intro pins s σ H D I h
 exact wpAny_Expr_any (aO (he pins s σ H _ I h) fun v s1 ⟨x,H1,I1,r1,q1⟩=>⟨σ,H1,I1,q1⟩) I.quiet hs
noncomputable def sH (te:TE):TS:=fun D σ H=>te σ H D.rt
theorem lE (he:PE X e te):PS X (.Return (some e) pos) (sH te):=by
 intro pins s σ H D I h
 exact wpAny_Return_some (aO (he pins s σ H _ I h) fun v s1 ⟨x,H1,I1,r1,q1⟩=>⟨x,σ,H1,I1,r1,q1⟩)
noncomputable def xH (c:TT) (t u:TS):TS:=fun D σ H=>c σ H fun b H1=>if b=true then t D σ H1 else u D σ H1
theorem ad0 {c:Expr}{a b:List Stmt}{tc:TT} (hc:PT X c tc) (ha:dO X a t) (hb:dO X b u):PS X (.If c a b pos) (xH tc t u):=by
 intro pins s σ H D I h
 refine wpAny_If (aO (hc pins s σ H _ I h) fun d s1 ⟨H1,I1,q1⟩=>?_)
 cases d with
 | true=>exact ha pins s1 σ H1 D I1 q1
 | false=>exact hb pins s1 σ H1 D I1 q1
noncomputable def ad1:TS:=fun _ _ _=>False
theorem ad2:PS X st ad1:=fun _ _ _ _ _ _ h=>h.elim
end
noncomputable abbrev TG:=V->St->Hp->(St->Hp->Prop)->Prop
noncomputable abbrev kC:=List V->St->Hp->(St->Hp->Prop)->Prop
noncomputable def PG (X:Cx) (target:Expr) (t:TG):Prop:=
 ∀ (pins:List (Addr × Obj)) (s:Shared) (σ:St) (H:Hp) (v:V) (u:Value) (Q:St->Hp->Prop),a6 X pins σ H s->b4 v u->t v σ H Q->
  wpAny (model X.prog X.w) X.A (assign target X.env u) (fun _ s'=>∃ σ' H',a6 X pins σ' H' s'/\Q σ' H') X.xe s
noncomputable def oZ (X:Cx) (ts:List Expr) (t:kC):Prop:=
 ∀ (pins:List (Addr × Obj)) (s:Shared) (σ:St) (H:Hp) (vs:List V) (us:List Value) (Q:St->Hp->Prop),a6 X pins σ H s->aI vs us->t vs σ H Q->
  wpAny (model X.prog X.w) X.A (assignInOrder ((assignEach ts X.env).map (·.2)) us) (fun _ s'=>∃ σ' H',a6 X pins σ' H' s'/\Q σ' H') X.xe s
noncomputable abbrev sI:=V->V->V->Hp->(Hp->Prop)->Prop
noncomputable def xI (X:Cx) (t:sI):Prop:=
 ∀ (pins:List (Addr × Obj)) (s:Shared) (σ:St) (H:Hp) (o i v:V) (ov iv u:Value) (Q:Hp->Prop),a6 X pins σ H s->b4 o ov->b4 i iv->b4 v u->t o i v H Q->
  wpAny (model X.prog X.w) X.A (setItem ov iv u) (fun _ s'=>∃ H',a6 X pins σ H' s'/\Q H') X.xe s
section
variable {X : Cx} {pos : Pos}
noncomputable def cB (i:Nat):TG:=fun v σ H Q=>Q (σ.set i (some v)) H
theorem eM {i:Nat}{x:Str} (hN:X.N.Nodup) (hi:X.N[i]? = some x) (hx:iD X.env.scope x) (hf:X.fn x=true ∨ X.env.scope.names.lookup x=some .local:=by first | exact .inl rfl | exact .inr rfl | assumption):PG X (.Name x pos) (cB i):=by
 intro pins s σ H v u Q I r h
 exact wpAny_assign_Name (sG I hN hi hx r (fun s' I'=>⟨_,H,I',h⟩) hf)
noncomputable def jM:kC:=fun vs σ H Q=>vs = []/\Q σ H
noncomputable def eW (t:TG) (u:kC):kC:=fun vs σ H Q=>∃ v r,vs=v :: r/\t v σ H fun σ' H'=>u r σ' H' Q
theorem lF:oZ X [] jM:=by
 intro pins s σ H vs us Q I r h
 obtain ⟨e,h⟩:=h
 subst e
 cases r
 exact assignInOrder_nil ⟨σ,H,I,h⟩
theorem gG {e:Expr}{es:List Expr}{t:TG}{u:kC} (h1:PG X e t) (h2:oZ X es u)
  (hs:(assignEach (e :: es) X.env).map (·.2)=assign e X.env :: (assignEach es X.env).map (·.2):=by rfl):oZ X (e :: es) (eW t u):=by
 intro pins s σ H vs us Q I r h
 obtain ⟨v,vr,e1,h⟩:=h
 subst e1
 cases r with
 | cons r rr=>
  rw [hs]
  refine assignInOrder_cons (aO (h1 pins s σ H _ _ _ I r h) fun _ s1 ⟨σ1,H1,I1,q1⟩=>?_)
  exact h2 pins s1 σ1 H1 _ _ Q I1 rr q1
noncomputable def jN (K:PySem.W.Frag) (n:Nat) (t:kC):TG:=fun v σ H Q=>∃ a xs,v = .ref a/\aQ K H a xs/\xs.length=n/\t xs σ H Q
theorem lG {es:List Expr}{k:Nat}{t:kC}{n:Nat} (hc:X.calm=true) (h:oZ X es t)
  (hn:(assignEach es X.env).length=n:=by rfl) (hst:(assignEach es X.env).findIdx? (·.1)=none:=by rfl):PG X (.Tuple es k pos) (jN X.K n t):=by
 intro pins s σ H v u Q I r hw
 obtain ⟨a,xs,e1,hq,hl,hw⟩:=hw
 subst e1
 cases r
 obtain ⟨its,rv,ht,hz⟩:=I.tuple hq
 refine assign_Tuple_tuple (I.ok.hd hc) ht (by simp [hn,<- hl,rv.length]) hst fun h' hx=>?_
 have I1:a6 X pins σ H { s with heap:=h' }:=I.kept (t':=s.toks) fun b o e=>hx b o (aW9 (aU7 e)) e
 exact h pins _ σ H xs _ Q I1 (by simpa using rv) hw
noncomputable def sJ (to ti:TE) (t:sI):TG:=fun v σ H Q=>to σ H fun o H1=>ti σ H1 fun i H2=>t o i v H2 fun H3=>Q σ H3
theorem ad3 {o i:Expr}{to ti:TE}{t:sI} (ho:PE X o to) (hi:PE X i ti) (hs:xI X t)
  (ha:∀ v,assign (.Subscript o i pos) X.env v=(do
   let ov <- holding [v] (eval o X.env)
   let iv <- holding [v,ov] (eval i X.env)
   standAt pos
   holding [v,ov,iv] (setItem ov iv v)
   release [v,ov,iv] []):=by intro _; rfl):PG X (.Subscript o i pos) (sJ to ti t):=by
 intro pins s σ H v u Q I r h
 rw [ha]
 refine aS6 (be0 (aO (ho pins s σ H _ I h) fun ov s1 ⟨x,H1,I1,r1,q1⟩=>?_))
 refine aS6 (be0 (aO (hi pins s1 σ H1 _ I1 q1) fun iv s2 ⟨y,H2,I2,r2,q2⟩=>?_))
 refine aS6 (wpAny_standAt (aS6 (be0 (aO (hs pins s2 σ H2 x y v ov iv u _ I2 r1 r2 r q2) fun _ s3 ⟨H3,I3,q3⟩=>?_))))
 exact wpAny_release ⟨σ,H3,I3,q3⟩
noncomputable def jO (te:TE) (g:TG):TS:=fun D σ H=>te σ H fun x H1=>g x σ H1 D.nx
theorem ad4 {tg e:Expr}{te:TE}{g:TG} (he:PE X e te) (hg:PG X tg g) (hs:swapsWithSole [tg] e pos.line X.env=pure false:=by rfl) (hw:swappedStores [tg] e X.env=pure none:=by rfl)
  (h1:(assignEach [tg] X.env).map (·.2) = [assign tg X.env]:=by rfl):PS X (.Assign [tg] e pos) (jO te g):=by
 intro pins s σ H D I h
 refine wpAny_Assign_stores (aO (he pins s σ H _ I h) fun v s1 ⟨x,H1,I1,r1,q1⟩=>?_) hs hw
 rw [h1]
 exact aO (hg pins s1 σ H1 x v _ I1 r1 q1) fun _ s2 q=>q
theorem sK {i:Nat}{x:Str}{e:Expr}{te:TE}{pos':Pos} (hN:X.N.Nodup) (hi:X.N[i]? = some x) (hx:iD X.env.scope x) (he:PE X e te) (hs:swapsWith e (some (.Name x pos')) pos.line X.env=pure false:=by rfl) (hf:X.fn x=true ∨ X.env.scope.names.lookup x=some .local:=by first | exact .inl rfl | exact .inr rfl | assumption) :
  PS X (.Assign [.Name x pos'] e pos) (jO te (cB i)):=by
 intro pins s σ H D I h
 refine wpAny_Assign_Name (aO (he pins s σ H _ I h) fun v s1 ⟨y,H1,I1,r1,q1⟩=>?_) hs
 exact sG I1 hN hi hx r1 (fun s2 I2=>⟨_,H1,I2,q1⟩) hf
end
section
variable {X : Cx} {pos : Pos}
noncomputable def xJ (c:TT) (tb:TS):TS:=fun D σ H=>∃ W:Nat->St->Hp->Prop,(∃ m,W m σ H)/\∀ m σ H,W m σ H->
 c σ H fun b H1=>if b=true then ∃ N:St->Hp->Prop,(∀ σ' H',N σ' H'->∃ m',m' < m/\W m' σ' H')/\tb { D with nx:=N,ct:=N,bk:=D.nx } σ H1 else D.nx σ H1
theorem ad5 {c:Expr}{body:List Stmt}{tc:TT}{tb:TS} (hp:PassesOwn (model X.prog X.w) X.A X.env X.xe) (hc:PT X c tc) (hb:dO X body tb):PS X (.While c body [] pos) (xJ tc tb):=by
 intro pins s σ H D I h
 obtain ⟨W,⟨m0,w0⟩,turn⟩:=h
 refine wpAny_While (codeAny_whileLoop (fun n s'=>∃ σ' H',a6 X pins σ' H' s'/\W n σ' H') ?_ m0 ⟨σ,H,I,w0⟩)
 rintro n s1 ⟨σ1,H1,I1,w1⟩
 refine bg3 hp (aO (hc pins s1 σ1 H1 _ I1 (turn n σ1 H1 w1)) fun b s2 ⟨H2,I2,q2⟩=>?_)
 cases b with
 | true=>
  obtain ⟨N,hN,q2⟩:=q2
  rw [if_pos rfl]
  refine bg3 hp (aO (hb pins s2 σ1 H2 _ I2 q2) fun f s3 q3=>?_)
  cases f with
  | next=>
   obtain ⟨σ3,H3,I3,n3⟩:=q3
   obtain ⟨m',hm,w3⟩:=hN σ3 H3 n3
   exact⟨m',hm,σ3,H3,I3,w3⟩
  | cont=>
   obtain ⟨σ3,H3,I3,n3⟩:=q3
   obtain ⟨m',hm,w3⟩:=hN σ3 H3 n3
   exact⟨m',hm,σ3,H3,I3,w3⟩
  | brk=>exact q3
  | ret v=>exact q3
 | false=>
  rw [if_neg aV1]
  exact wpAny_execs_nil ⟨σ1,H2,I2,q2⟩
end
structure It where
 go:Nat->Hp->Prop
 yld:Nat->Hp->V->Hp->Prop
 stop:Nat->Hp->Prop
noncomputable def gH (X:Cx) (pins:List (Addr × Obj)) (H:Hp) (b:Addr):Prop:=
 H b=none/\b ≠ X.env.locals/\b ∉ X.fs/\(b ∈ X.ex ∨ X.s₀.heap.objs.size<=b)/\(∀ x c,X.env.cells.lookup x=some c->c ≠ b)/\∀ p ∈ X.pn ++ pins,p.1 ≠ b
theorem a6.fpOk {X:Cx}{pins:List (Addr × Obj)}{σ:St}{H H':Hp}{s:Shared}{b:Addr} (I:a6 X pins σ H s) (hb:s.heap.objs.size<=b) (hn:H' b=none):gH X pins H' b:=by
 refine⟨hn,bc1 (aU5 I.lt hb),I.nofs hb,.inr (aX5 I.sz hb),fun x c e z=>?_,fun p hp z=>?_⟩
 ·obtain ⟨v,q⟩:=I.cell x c e
  exact absurd (aU5 q.lt (by rw [z]; exact hb)) (aX8 _)
 ·exact absurd (aU5 (aU7 (I.pin p hp).1) (by rw [z]; exact hb)) (aX8 _)
structure iP (P:Program) (w:World) (K:PySem.W.Frag) (tg:Expr) (J:It) (fp:List Addr) (it:Addr) (tn:Nat->Heap->Prop):Prop where
 mem:it ∈ fp
 obj:∀ i h,tn i h->∀ b ∈ fp,∃ o,h.get? b=some o/\∀ v,o.data ≠ .cell v
 keep:∀ i h h',tn i h->(∀ b ∈ fp,∀ o,h.get? b=some o->h'.get? b=some o)->tn i h'
 item:∀ (X:Cx),X.prog=P->X.w=w->X.K=K->X.calm=true->∀ (i:Nat) (pins:List (Addr × Obj)) (s:Shared) (σ:St) (H:Hp) (E:Value->Shared->Prop),a6 X pins σ H s->(∀ b ∈ fp,gH X pins H b)->tn i s.heap->J.go i H->
  wpAny (model P w) X.A (pyNext (.ref it)) (fun r s1=>∃ u,r=some u/\
   wpAny (model P w) X.A (letOwnedTupleGo tg (.ref it) u) (fun _ s2=>∃ x H',a6 X pins σ H' s2/\b4 x u/\J.yld i H x H'/\tn (i+1) s2.heap/\∀ b ∈ fp,H' b=none) E s1) E s
 done:∀ (X:Cx),X.prog=P->X.w=w->X.K=K->X.calm=true->∀ (i:Nat) (pins:List (Addr × Obj)) (s:Shared) (σ:St) (H:Hp) (E:Value->Shared->Prop),a6 X pins σ H s->(∀ b ∈ fp,gH X pins H b)->tn i s.heap->J.stop i H->
  wpAny (model P w) X.A (pyNext (.ref it)) (fun r s1=>r=none/\a6 X pins σ H s1) E s
 self:∀ (A:Around) (i:Nat) (s:Shared) (Q:Value->Shared->Prop) (E:Value->Shared->Prop),tn i s.heap->Q (.ref it) s->wpAny (model P w) A (pyIter (.ref it)) Q E s
noncomputable abbrev TI:=St->Hp->(It->Hp->Prop)->Prop
noncomputable def xK (X:Cx) (pins:List (Addr × Obj)) (σ:St) (tg:Expr) (R:It->Hp->Prop) (itv:Value) (s2:Shared):Prop:=
 ∃ (it:Addr) (fp:List Addr) (tn:Nat->Heap->Prop) (J:It) (H':Hp),itv = .ref it/\a6 X pins σ H' s2/\iP X.prog X.w X.K tg J fp it tn/\tn 0 s2.heap/\(∀ b ∈ fp,gH X pins H' b)/\R J H'
noncomputable def PI (X:Cx) (tg iter:Expr) (wi:TI):Prop:=
 ∀ (pins:List (Addr × Obj)) (s:Shared) (σ:St) (H:Hp) (R:It->Hp->Prop),a6 X pins σ H s->wi σ H R->
  wpAny (model X.prog X.w) X.A (eval iter X.env) (fun v s1=>wpAny (model X.prog X.w) X.A (pyIter v) (xK X pins σ tg R) X.xe s1) X.xe s
theorem p5 {M:Model}{A:Around}{E:Value->Shared->Prop}{s:Shared}{tg:Expr}{it:Addr}{u:Value}{o:Obj}{n:String}{vs:Array Value}{Q:Unit->Shared->Prop} (ho:s.heap.get? it=some o) (hc:o.cls = .type n) (hd:o.data = .fields vs)
    (hn : ["enumerate","zip","dict_itemiterator","dict_reverseitemiterator","odict_iterator","itertools.zip_longest","itertools.pairwise"].contains n=false) (hQ:Q () s):wpAny M A (letOwnedTupleGo tg (.ref it) u) Q E s:=by
  unfold letOwnedTupleGo
  cases tg <;> first
    | exact aT6 hQ
    | (cases u <;> first
        | exact aT6 hQ
        | (refine aS6 (wpAny_load ho ?_)
           rw [hc,hd]
           show wpAny M A (if (["enumerate","zip","dict_itemiterator","dict_reverseitemiterator","odict_iterator","itertools.zip_longest","itertools.pairwise"].contains n && vs[0]? == some (rawInt _))=true then _ else _) Q E s
           rw [if_neg (by intro h; rw [hn,Bool.false_and] at h; cases h)]
           exact aT6 hQ))
noncomputable def lH (K:PySem.W.Frag) (a:Addr):It:=
 ⟨fun i H=>∃ xs x,aJ K H a xs/\xs[i]? = some x,fun i H x H'=>H'=H/\∀ xs,aJ K H a xs->xs[i]? = some x,fun i H=>∃ xs,aJ K H a xs/\xs.length<=i⟩
noncomputable def jP (K:PySem.W.Frag) (a:Addr):It:=
 ⟨fun i H=>∃ xs x,aQ K H a xs/\xs[i]? = some x,fun i H x H'=>H'=H/\∀ xs,aQ K H a xs->xs[i]? = some x,fun i H=>∃ xs,aQ K H a xs/\xs.length<=i⟩
noncomputable def mS (lo:Int) (n:Nat):It:=⟨fun i _=>i < n,fun i H x H'=>H'=H/\x = .int (lo+i),fun i _=>n<=i⟩
theorem ad6 {P:Program}{w:World}{K:PySem.W.Frag}{tg:Expr} (a it:Addr):iP P w K tg (lH K a) [it] it (fun i h=>h.IsListIter it a i) where
 mem:=by simp
 obj:=fun i h st b hb=>by
  have e:b=it:=by simpa using hb
  subst e
  obtain ⟨o,e,c,d⟩:=st
  exact⟨o,e,fun v z=>by rw [d] at z; cases z⟩
 keep:=fun i h h' st k=>st.at fun o e=>k it (by simp) o e
 item:=by
  intro X hP hw hK hc i pins s σ H E I hf st hg
  subst hP hw hK
  obtain ⟨xs,x,hq,hx⟩:=hg
  obtain ⟨its,rv,p,hz⟩:=I.list hq
  obtain ⟨u,hu,ru⟩:=rv.get hx
  obtain ⟨f0,f1,f2,f3,f4,f5⟩:=hf it (by simp)
  refine wpAny_pyNext_list_item st p.isList (x:=u) (by simpa using hu) fun h' st' sb=>?_
  have I1:a6 X pins σ H { s with heap:=h' }:=I.turned (t':=s.toks) (fun b o hb e=>(sb.2 b hb).trans e) f0 f1 f3 f4 f5
  obtain ⟨o,e,c,d⟩:=id st'
  exact⟨u,rfl,p5 (s:={ s with heap:=h' }) e c d (by decide) ⟨x,H,I1,ru,⟨rfl,fun ys hy=>by rw [I.list_inj hy hq]; exact hx⟩,st',fun b hb=>(hf b hb).1⟩⟩
 done:=by
  intro X hP hw hK hc i pins s σ H E I hf st hg
  subst hP hw hK
  obtain ⟨xs,hq,hx⟩:=hg
  obtain ⟨its,rv,p,hz⟩:=I.list hq
  obtain ⟨f0,f1,f2,f3,f4,f5⟩:=hf it (by simp)
  have hl:=rv.length
  exact wpAny_pyNext_list_end (I.ok.hd hc) st p.isList (by simp; omega) fun h' eb=>⟨rfl,I.turned (t':=s.toks) (fun b o hb e=>eb b o hb e) f0 f1 f3 f4 f5⟩
 self:=fun _ _ _ _ _ st h=>wpAny_pyIter_listiter st h
theorem xM {P:Program}{w:World}{K:PySem.W.Frag}{tg:Expr} (a it:Addr):iP P w K tg (jP K a) [it] it (fun i h=>h.IsTupleIter it a i) where
 mem:=by simp
 obj:=fun i h st b hb=>by
  have e:b=it:=by simpa using hb
  subst e
  obtain ⟨o,e,c,d⟩:=st
  exact⟨o,e,fun v z=>by rw [d] at z; cases z⟩
 keep:=fun i h h' st k=>st.at fun o e=>k it (by simp) o e
 item:=by
  intro X hP hw hK hc i pins s σ H E I hf st hg
  subst hP hw hK
  obtain ⟨xs,x,hq,hx⟩:=hg
  obtain ⟨its,rv,p,hz⟩:=I.tuple hq
  obtain ⟨u,hu,ru⟩:=rv.get hx
  obtain ⟨f0,f1,f2,f3,f4,f5⟩:=hf it (by simp)
  refine wpAny_pyNext_tuple_item st (show s.heap.IsTuple a its.toArray from p) (x:=u) (by simpa using hu) fun h' st' sb=>?_
  have I1:a6 X pins σ H { s with heap:=h' }:=I.turned (t':=s.toks) (fun b o hb e=>(sb.2 b hb).trans e) f0 f1 f3 f4 f5
  obtain ⟨o,e,c,d⟩:=id st'
  exact⟨u,rfl,p5 (s:={ s with heap:=h' }) e c d (by decide) ⟨x,H,I1,ru,⟨rfl,fun ys hy=>by rw [I.tuple_inj hy hq]; exact hx⟩,st',fun b hb=>(hf b hb).1⟩⟩
 done:=by
  intro X hP hw hK hc i pins s σ H E I hf st hg
  subst hP hw hK
  obtain ⟨xs,hq,hx⟩:=hg
  obtain ⟨its,rv,p,hz⟩:=I.tuple hq
  obtain ⟨f0,f1,f2,f3,f4,f5⟩:=hf it (by simp)
  have hl:=rv.length
  exact wpAny_pyNext_tuple_end (I.ok.hd hc) st (show s.heap.IsTuple a its.toArray from p) (by simp; omega) fun h' eb=>⟨rfl,I.turned (t':=s.toks) (fun b o hb e=>eb b o hb e) f0 f1 f3 f4 f5⟩
 self:=fun _ _ _ _ _ st h=>wpAny_pyIter_tupleiter st h
theorem ad7 {P:Program}{w:World}{K:PySem.W.Frag}{tg:Expr} (it:Addr) (lo:Int) (n:Nat):iP P w K tg (mS lo n) [it] it (fun i h=>IsRangeIter h it (lo+(i:Nat) * 1) ((n:Int) - (i:Nat)) 1) where
 mem:=by simp
 obj:=fun i h st b hb=>by
  have e:b=it:=by simpa using hb
  subst e
  exact⟨_,st,fun v z=>by
   have z':Data.fields _=Data.cell v:=z
   cases z'⟩
 keep:=fun i h h' st k=>k it (by simp) _ st
 item:=by
  intro X hP hw hK hc i pins s σ H E I hf st hg
  subst hP hw hK
  obtain ⟨f0,f1,f2,f3,f4,f5⟩:=hf it (by simp)
  have W:=Walks.range (prog:=X.prog) (w:=X.w) (I.ok.hd hc) it lo 1 n
  refine W.item i s _ _ hg st fun v h' tk hv st' kk=>?_
  obtain ⟨t,rfl⟩:=hv
  have I1:a6 X pins σ H { s with heap:=h',toks:=tk }:=I.turned (fun b o hb e=>kk b o (by simpa using hb) e) f0 f1 f3 f4 f5
  refine⟨_,rfl,p5 (s:={ s with heap:=h',toks:=tk }) (n:="range_iterator") st' rfl rfl (by decide) ⟨.int (lo+i),H,I1,⟨t,?_⟩,⟨rfl,rfl⟩,st',fun b hb=>(hf b hb).1⟩⟩
  rw [Int.mul_one]
 done:=by
  intro X hP hw hK hc i pins s σ H E I hf st hg
  subst hP hw hK
  obtain ⟨f0,f1,f2,f3,f4,f5⟩:=hf it (by simp)
  exact wpAny_pyNext_range_end (I.ok.hd hc) st (by have:n<=i:=hg; omega) fun h' eb=>⟨rfl,I.turned (t':=s.toks) (fun b o hb e=>eb b o hb e) f0 f1 f3 f4 f5⟩
 self:=fun _ _ _ _ _ st h=>wpAny_pyIter_rangeiter st h
section
variable {X : Cx} {tg : Expr}
noncomputable def ad8 (K:PySem.W.Frag) (tl:TE):TI:=fun σ H R=>tl σ H fun x H1=>∃ a,x = .ref a/\(∃ xs,aQ K H1 a xs)/\R (jP K a) H1
theorem p6 {l:Expr}{tl:TE} (hl:PE X l tl):PI X tg l (ad8 X.K tl):=by
 intro pins s σ H R I h
 refine aO (hl pins s σ H _ I h) fun v s1 ⟨x,H1,I1,r1,q1⟩=>?_
 obtain ⟨a,e,⟨xs,hq⟩,q⟩:=q1
 subst e
 cases r1
 obtain ⟨its,rv,p,hz⟩:=I1.tuple hq
 refine wpAny_pyIter_tuple (show s1.heap.IsTuple a its.toArray from p) ?_
 refine⟨s1.heap.objs.size,[s1.heap.objs.size],_,_,H1,rfl,I1.kept (t':=s1.toks) fun b o e=>aS7 _ e,xM a _,⟨_,aU9 _ rfl,rfl,rfl⟩,fun b hb=>?_,q⟩
 have e:b=s1.heap.objs.size:=by simpa using hb
 subst e
 exact I1.fpOk (aT2 _) (I1.hok.fresh (aT2 _))
theorem xN {pins:List (Addr × Obj)}{σ:St}{H:Hp}{s:Shared}{R:It->Hp->Prop}{E:Value->Shared->Prop}{lo hi:Int}{t u v:Tok}{tk:Nat} (I:a6 X pins σ H s) (h1 : -(2 ^ 62)<=lo) (h2:lo < 2 ^ 62) (h3 : -(2 ^ 62)<=hi) (h4:hi < 2 ^ 62)
  (q:R (mS lo (hi - lo).toNat) H):wpAny (model X.prog X.w) X.A (pyIter (.ref s.heap.objs.size)) (xK X pins σ tg R) E { s with heap:=s.heap.push { cls:=.type "range",data:=.fields #[.int lo t,.int hi u,.int 1 v] },toks:=tk }:=by
 refine wpAny_pyIter_range (IsRange.new ..) (small_one h1 h2 h3 h4) ?_
 have I1:a6 X pins σ H { s with heap:=s.heap.push { cls:=.type "range",data:=.fields #[.int lo t,.int hi u,.int 1 v] },toks:=tk }:=I.kept fun b o e=>aS7 _ e
 refine⟨(s.heap.push { cls:=.type "range",data:=.fields #[.int lo t,.int hi u,.int 1 v] }).objs.size,[(s.heap.push { cls:=.type "range",data:=.fields #[.int lo t,.int hi u,.int 1 v] }).objs.size],_,_,H,rfl,
  I1.kept (t':=tk) fun b o e=>aS7 _ e,ad7 _ lo (hi - lo).toNat,?_,fun b hb=>?_,q⟩
 ·have e1:lo+((0:Nat):Int) * 1=lo:=by simp
  have e2:(((hi - lo).toNat:Nat):Int) - ((0:Nat):Int)=Builtin.Range.rangeSize lo hi 1:=by rw [rangeSize_one]; split <;> omega
  show IsRangeIter _ _ (lo+((0:Nat):Int) * 1) ((((hi - lo).toNat:Nat):Int) - ((0:Nat):Int)) 1
  rw [e1,e2]
  exact aU9 _ rfl
 ·have e:b=(s.heap.push { cls:=.type "range",data:=.fields #[.int lo t,.int hi u,.int 1 v] }).objs.size:=by simpa using hb
  subst e
  exact I1.fpOk (aT2 _) (I1.hok.fresh (aT2 _))
noncomputable def xO (ta:TA):TI:=fun σ H R=>ta σ H fun vs H1=>∃ j:Int,vs = [.int j]/\-(2 ^ 62)<=j/\j < 2 ^ 62/\R (mS 0 j.toNat) H1
noncomputable def xP (ta:TA):TI:=fun σ H R=>ta σ H fun vs H1=>∃ i j:Int,vs = [.int i,.int j]/\(-(2 ^ 62)<=i/\i < 2 ^ 62/\-(2 ^ 62)<=j/\j < 2 ^ 62)/\R (mS i (j - i).toNat) H1
theorem ad9 {a:Expr}{ta:TA}{p pos:Pos} (hg:Gl X "range") (hm:X.mg "range" = none) (ha:PA X [a] ta) (hs:starEach [a] X.env = [(false,eval a X.env)]:=by rfl):PI X tg (.Call (.Name "range" p) [a] [] pos) (xO ta):=by
 intro pins s σ H R I h
 refine Call_ (jL I hg hm boot_range (aZ5 (aO (ha pos pins s σ H _ I h) fun us s1 ⟨vs,H1,I1,r1,q1⟩=>?_) hs rfl))
 obtain ⟨j,e,q1,q2,q⟩:=q1
 subst e
 cases r1 with
 | cons r rr=>
  cases rr
  obtain ⟨t,rfl⟩:=r
  exact call_range_1 (xN I1 (by omega) (by omega) q1 q2 (by simpa using q))
theorem ae0 {a b:Expr}{ta:TA}{p pos:Pos} (hg:Gl X "range") (hm:X.mg "range" = none) (ha:PA X [a,b] ta) (hs:starEach [a,b] X.env = [(false,eval a X.env),(false,eval b X.env)]:=by rfl) (hs2:starEach [b] X.env = [(false,eval b X.env)]:=by rfl) :
  PI X tg (.Call (.Name "range" p) [a,b] [] pos) (xP ta):=by
 intro pins s σ H R I h
 refine Call_ (jL I hg hm boot_range (aZ5 (aO (ha pos pins s σ H _ I h) fun us s1 ⟨vs,H1,I1,r1,q1⟩=>?_) (by rw [hs,hs2]) (by rw [hs2]; rfl)))
 obtain ⟨i,j,e,⟨q1,q2,q3,q4⟩,q⟩:=q1
 subst e
 cases r1 with
 | cons r rr=>
  cases rr with
  | cons r' rr=>
   cases rr
   obtain ⟨t,rfl⟩:=r
   obtain ⟨t',rfl⟩:=r'
   exact call_range_2 (xN I1 q1 q2 q3 q4 q)
noncomputable def xQ (wi:TI) (g:TG) (tb:TS):TS:=fun D σ H=>wi σ H fun J H1=>∃ W:Nat->Nat->St->Hp->Prop,(∃ m,W 0 m σ H1)/\∀ i m σ H,W i m σ H->
 (J.stop i H/\D.nx σ H) ∨ (J.go i H/\∃ N:St->Hp->Prop,(∀ σ' H',N σ' H'->∃ m',m' < m/\W (i+1) m' σ' H')/\∀ x H',J.yld i H x H'->g x σ H' fun σ2 H2=>tb { D with nx:=N,ct:=N,bk:=D.nx } σ2 H2)
noncomputable def mT (fp:List Addr) (h:Heap):List (Addr × Obj):=fp.filterMap fun b=>(h.get? b).map fun o=>(b,o)
theorem p7 {fp:List Addr}{h:Heap}{b:Addr}{o:Obj} (hb:b ∈ fp) (e:h.get? b=some o):(b,o) ∈ mT fp h:=List.mem_filterMap.mpr ⟨b,hb,by rw [e]; rfl⟩
theorem ae1 {fp:List Addr}{h:Heap}{p:Addr × Obj} (hp:p ∈ mT fp h):p.1 ∈ fp/\h.get? p.1=some p.2:=by
 obtain ⟨b,hb,e⟩:=List.mem_filterMap.mp hp
 cases q:h.get? b with
 | none=>rw [q] at e; cases e
 | some o=>
  rw [q] at e
  have e':(b,o)=p:=aV2 e
  subst e'
  exact⟨hb,q⟩
theorem a6.pinned {pins:List (Addr × Obj)}{σ:St}{H:Hp}{s:Shared}{fp:List Addr} (I:a6 X pins σ H s) (hf:∀ b ∈ fp,gH X pins H b) (ho:∀ b ∈ fp,∃ o,s.heap.get? b=some o/\∀ v,o.data ≠ .cell v):a6 X (pins ++ mT fp s.heap) σ H s:=
 I.pins_of fun p hp=>(aT9.mp hp).elim (fun z=>I.pin p (aW2 _ z)) fun z=>by
  obtain ⟨hb,e⟩:=ae1 z
  obtain ⟨f0,f1,f2,_⟩:=hf p.1 hb
  obtain ⟨o,e',d⟩:=ho p.1 hb
  rw [e] at e'; cases e'
  exact⟨e,f0,f1,f2,d⟩
theorem a6.unpinned {pins pl:List (Addr × Obj)}{σ:St}{H:Hp}{s:Shared} (I:a6 X (pins ++ pl) σ H s):a6 X pins σ H s:=I.pins_of fun p hp=>I.pin p (aW2 _ (aX2 _ hp))
theorem sL {iter:Expr}{body:List Stmt}{wi:TI}{g:TG}{tb:TS}{pos:Pos} (hp:PassesOwn (model X.prog X.w) X.A X.env X.xe) (hc:X.calm=true) (hi:PI X tg iter wi) (hg:PG X tg g) (hb:dO X body tb)
  (hs:∀ x,foldedSetIterable iter X.env x=pure x:=by intro _; rfl):PS X (.For tg iter body [] pos) (xQ wi g tb):=by
 intro pins s σ H D I h
 refine wpAny_For (aO (hi pins s σ H _ I h) fun v s1 h1=>aO h1 fun itv s2 h2=>?_) hs
 obtain ⟨it,fp,tn,J,H2,e,I2,T,st2,f2,W,⟨m0,w0⟩,turn⟩:=h2
 subst e
 have stat:∀ {H':Hp},(∀ b ∈ fp,H' b=none)->∀ b ∈ fp,gH X pins H' b:=fun hn b hb=>⟨hn b hb,(f2 b hb).2⟩
 refine codeAny_forLoop_any (fun n s'=>∃ i σ' H',a6 X pins σ' H' s'/\tn i s'.heap/\(∀ b ∈ fp,H' b=none)/\W i n σ' H') ?_ m0 ⟨0,σ,H2,I2,st2,fun b hb=>(f2 b hb).1,w0⟩
 rintro n s3 ⟨i,σ3,H3,I3,st3,fr3,w3⟩
 rcases turn i n σ3 H3 w3 with ⟨stop,qn⟩ | ⟨go,N,hN,step⟩
 ·refine bg3 hp (aO (T.done X rfl rfl rfl hc i pins s3 σ3 H3 X.xe I3 (stat fr3) st3 stop) fun r s4 ⟨hr,I4⟩=>?_)
  subst hr
  exact wpAny_execs_nil ⟨σ3,H3,I4,qn⟩
 ·refine bg3 hp (aO (T.item X rfl rfl rfl hc i pins s3 σ3 H3 X.xe I3 (stat fr3) st3 go) fun r s4 ⟨u,hr,h4⟩=>?_)
  subst hr
  refine bg3 hp (aO h4 fun _ s5 ⟨x,H5,I5,r5,y5,st5,fr5⟩=>?_)
  have I5':=I5.pinned (stat fr5) (T.obj _ _ st5)
  refine bg3 hp (aO (hg _ s5 σ3 H5 x u _ I5' r5 (step x H5 y5)) fun _ s6 ⟨σ6,H6,I6,q6⟩=>?_)
  refine bg3 hp (aO (hb _ s6 σ6 H6 _ I6 q6) fun f s7 q7=>?_)
  have again:∀ {σ7:St}{H7:Hp},a6 X (pins ++ mT fp s5.heap) σ7 H7 s7->N σ7 H7->∃ m,m < n/\∃ i σ' H',a6 X pins σ' H' s7/\tn i s7.heap/\(∀ b ∈ fp,H' b=none)/\W i m σ' H':=fun {σ7 H7} I7 n7=>by
   obtain ⟨m',hm,w7⟩:=hN σ7 H7 n7
   refine⟨m',hm,i+1,σ7,H7,I7.unpinned,T.keep _ _ _ st5 fun b hb o e=>(I7.pin (b,o) (aW2 _ (aW2 _ (p7 hb e)))).1,fun b hb=>?_,w7⟩
   obtain ⟨o,e,d⟩:=T.obj _ _ st5 b hb
   exact (I7.pin (b,o) (aW2 _ (aW2 _ (p7 hb e)))).2.1
  cases f with
  | next=>obtain ⟨σ7,H7,I7,n7⟩:=q7; exact again I7 n7
  | cont=>obtain ⟨σ7,H7,I7,n7⟩:=q7; exact again I7 n7
  | brk=>obtain ⟨σ7,H7,I7,q7⟩:=q7; exact⟨σ7,H7,I7.unpinned,q7⟩
  | ret v=>obtain ⟨x7,σ7,H7,I7,r7,q7⟩:=q7; exact⟨x7,σ7,H7,I7.unpinned,r7,q7⟩
end
theorem aS2 {K:PySem.W.Frag}{a:Addr}{xs:List V}{g:TG}{tb:TS}{D:cX}{σ:St}{H:Hp} (Pv:Nat->St->Hp->Prop) (h0:Pv 0 σ H) (hl:∀ i σ H,i<=xs.length->Pv i σ H->aJ K H a xs)
  (hs:∀ i x σ H,xs[i]? = some x->Pv i σ H->g x σ H fun σ2 H2=>tb { D with nx:=Pv (i+1),ct:=Pv (i+1),bk:=D.nx } σ2 H2) (hd:∀ σ H,Pv xs.length σ H->D.nx σ H) :
  ∃ W:Nat->Nat->St->Hp->Prop,(∃ m,W 0 m σ H)/\∀ i m σ H,W i m σ H->
   ((lH K a).stop i H/\D.nx σ H) ∨ ((lH K a).go i H/\∃ N:St->Hp->Prop,(∀ σ' H',N σ' H'->∃ m',m' < m/\W (i+1) m' σ' H')/\∀ x H',(lH K a).yld i H x H'->g x σ H' fun σ2 H2=>tb { D with nx:=N,ct:=N,bk:=D.nx } σ2 H2):=by
 refine⟨fun i m σ H=>m=xs.length - i/\i<=xs.length/\Pv i σ H,⟨xs.length,by simp,aX6 _,h0⟩,?_⟩
 rintro i m σ H ⟨rfl,hi,p⟩
 have q:=hl i σ H hi p
 by_cases hlt:i < xs.length
 ·refine .inr ⟨⟨xs,xs[i],q,by simp [hlt]⟩,Pv (i+1),fun σ' H' p'=>⟨xs.length - (i+1),by omega,rfl,hlt,p'⟩,fun x H' y=>?_⟩
  obtain ⟨e,y⟩:=y
  subst e
  exact hs i x σ _ (y xs q) p
 ·have e:i=xs.length:=by omega
  subst e
  exact .inl ⟨⟨xs,q,aT2 _⟩,hd σ H p⟩
theorem xR {K:PySem.W.Frag}{a:Addr}{xs:List V}{g:TG}{tb:TS}{D:cX}{σ:St}{H:Hp} (Pv:Nat->St->Hp->Prop) (h0:Pv 0 σ H) (hl:∀ i σ H,i<=xs.length->Pv i σ H->aQ K H a xs)
  (hs:∀ i x σ H,xs[i]? = some x->Pv i σ H->g x σ H fun σ2 H2=>tb { D with nx:=Pv (i+1),ct:=Pv (i+1),bk:=D.nx } σ2 H2) (hd:∀ σ H,Pv xs.length σ H->D.nx σ H) :
  ∃ W:Nat->Nat->St->Hp->Prop,(∃ m,W 0 m σ H)/\∀ i m σ H,W i m σ H->
   ((jP K a).stop i H/\D.nx σ H) ∨ ((jP K a).go i H/\∃ N:St->Hp->Prop,(∀ σ' H',N σ' H'->∃ m',m' < m/\W (i+1) m' σ' H')/\∀ x H',(jP K a).yld i H x H'->g x σ H' fun σ2 H2=>tb { D with nx:=N,ct:=N,bk:=D.nx } σ2 H2):=by
 refine⟨fun i m σ H=>m=xs.length - i/\i<=xs.length/\Pv i σ H,⟨xs.length,by simp,aX6 _,h0⟩,?_⟩
 rintro i m σ H ⟨rfl,hi,p⟩
 have q:=hl i σ H hi p
 by_cases hlt:i < xs.length
 ·refine .inr ⟨⟨xs,xs[i],q,by simp [hlt]⟩,Pv (i+1),fun σ' H' p'=>⟨xs.length - (i+1),by omega,rfl,hlt,p'⟩,fun x H' y=>?_⟩
  obtain ⟨e,y⟩:=y
  subst e
  exact hs i x σ _ (y xs q) p
 ·have e:i=xs.length:=by omega
  subst e
  exact .inl ⟨⟨xs,q,aT2 _⟩,hd σ H p⟩
noncomputable abbrev R2:=V->V->Hp->VK->Prop
noncomputable def cE (X:Cx) (f:Value->Value->Sem Value) (r:R2):Prop:=
 ∀ (pins:List (Addr × Obj)) (s:Shared) (σ:St) (H:Hp) (x y:V) (v u:Value) (Q:VK),a6 X pins σ H s->b4 x v->b4 y u->r x y H Q->
  wpAny (model X.prog X.w) X.A (f v u) (EP X pins σ Q) X.xe s
noncomputable def cY (X:Cx) (f:Value) (r:List V->Hp->VK->Prop):Prop:=
 ∀ (pins:List (Addr × Obj)) (s:Shared) (σ:St) (H:Hp) (xs:List V) (us:List Value) (Q:VK),a6 X pins σ H s->aI xs us->r xs H Q->
  wpAny (model X.prog X.w) X.A (call f us) (EP X pins σ Q) X.xe s
noncomputable def ae2 (X:Cx) (r:V->Hp->(Bool->Hp->Prop)->Prop):Prop:=
 ∀ (pins:List (Addr × Obj)) (s:Shared) (σ:St) (H:Hp) (x:V) (v:Value) (Q:Bool->Hp->Prop),a6 X pins σ H s->b4 x v->r x H Q->
  wpAny (model X.prog X.w) X.A (truthy v) (TP X pins σ Q) X.xe s
noncomputable def mU (r:R2) (ta tb:TE):TE:=fun σ H Q=>ta σ H fun x H1=>tb σ H1 fun y H2=>r x y H2 Q
noncomputable def rI (C:Int->Int->Prop) (g:Int->Int->V):R2:=fun x y H Q=>∃ i j,x = .int i/\y = .int j/\C i j/\Q (g i j) H
noncomputable def gS (g:Int->Int->V):R2:=fun x y H Q=>∃ i j,x = .int i/\y = .int j/\Q (g i j) H
section
variable {X : Cx} {a b c : Expr} {ta tb tc : TE} {pos : Pos}
theorem sM (ha:PE X a ta) (hb:PE X b tb) {pins:List (Addr × Obj)}{s:Shared}{σ:St}{H:Hp}{R:V->V->Hp->Prop} (I:a6 X pins σ H s)
  (h:ta σ H fun x H1=>tb σ H1 fun y H2=>R x y H2) {Q:Value->Shared->Prop}{f:Value->Value->Sem Value}
  (hf:∀ v u s2 x y H2,a6 X pins σ H2 s2->b4 x v->b4 y u->R x y H2->wpAny (model X.prog X.w) X.A (f v u) Q X.xe s2) :
  wpAny (model X.prog X.w) X.A (eval a X.env) (fun v s₁=>wpAny (model X.prog X.w) X.A (eval b X.env) (fun u s₂=>wpAny (model X.prog X.w) X.A (f v u) Q X.xe s₂) X.xe s₁) X.xe s:=by
 refine aO (ha pins s σ H _ I h) fun v s1 ⟨x,H1,I1,r1,q1⟩=>?_
 refine aO (hb pins s1 σ H1 _ I1 q1) fun u s2 ⟨y,H2,I2,r2,q2⟩=>?_
 exact hf v u s2 x y H2 I2 r1 r2 q2
theorem ae3 {op:Operator}{r:R2} (ho:cE X (binaryOp op) r) (ha:PE X a ta) (hb:PE X b tb):PE X (.BinOp a op b pos) (mU r ta tb):=by
 intro pins s σ H Q I h
 exact wpAny_BinOp (sM ha hb I h fun v u s2 x y H2 I2 rx ry q=>ho pins s2 σ H2 x y v u Q I2 rx ry q)
theorem mV {f:Value->Value->Sem Value}{C:Int->Int->Prop}{g:Int->Int->Int}
  (rule:∀ (i j:Int) (t u:Tok) (s:Shared) (Q:Value->Shared->Prop) (E:Value->Shared->Prop),C i j->Q (.int (g i j) s.toks) { s with toks:=s.toks+1 }->wpAny (model X.prog X.w) X.A (f (.int i t) (.int j u)) Q E s) :
  cE X f (rI C fun i j=>.int (g i j)):=by
 intro pins s σ H x y v u Q I rx ry h
 obtain ⟨i,j,rfl,rfl,hc,q⟩:=h
 obtain ⟨t,rfl⟩:=rx
 obtain ⟨t',rfl⟩:=ry
 exact rule i j t t' s _ _ hc ⟨.int (g i j),H,I.tok _,⟨_,rfl⟩,q⟩
theorem sN {f:Value->Value->Sem Value}{g:Int->Int->Int}
  (rule:∀ (i j:Int) (t u:Tok) (s:Shared) (Q:Value->Shared->Prop) (E:Value->Shared->Prop),Q (.int (g i j) s.toks) { s with toks:=s.toks+1 }->wpAny (model X.prog X.w) X.A (f (.int i t) (.int j u)) Q E s) :
  cE X f (gS fun i j=>.int (g i j)):=by
 intro pins s σ H x y v u Q I rx ry h
 obtain ⟨i,j,rfl,rfl,q⟩:=h
 obtain ⟨t,rfl⟩:=rx
 obtain ⟨t',rfl⟩:=ry
 exact rule i j t t' s _ _ ⟨.int (g i j),H,I.tok _,⟨_,rfl⟩,q⟩
theorem p9 {f:Value->Value->Sem Value}{g:Int->Int->Bool}
  (rule:∀ (i j:Int) (t u:Tok) (s:Shared) (Q:Value->Shared->Prop) (E:Value->Shared->Prop),Q (.bool (g i j)) s->wpAny (model X.prog X.w) X.A (f (.int i t) (.int j u)) Q E s) :
  cE X f (gS fun i j=>.bl (g i j)):=by
 intro pins s σ H x y v u Q I rx ry h
 obtain ⟨i,j,rfl,rfl,q⟩:=h
 obtain ⟨t,rfl⟩:=rx
 obtain ⟨t',rfl⟩:=ry
 exact rule i j t t' s _ _ ⟨.bl (g i j),H,I,rfl,q⟩
noncomputable def sO (i j:Int):Prop:=0 < j/\j < 1073741824
noncomputable def sP (i j:Int):Prop:=0<=j/\j<=1000000/\i.natAbs < 2 ^ 64
noncomputable def mW (i j:Int):Prop:=(-(2 ^ 64) < i/\i < 2 ^ 64) ∨ (-(2 ^ 64) < j/\j < 2 ^ 64)
theorem mW.ok {i j:Int} (h:mW i j):IntMulOk i j:=by
 rcases h with ⟨h1,h2⟩ | ⟨h1,h2⟩
 ·exact .of_left (intBits_le_64 h1 h2)
 ·exact .of_right (intBits_le_64 h1 h2)
theorem ae4 (k:Nat):(0:Int)<=2 ^ k:=by
 rw [two_pow_cast]
 exact Int.natCast_nonneg _
theorem ae5:cE X (binaryOp .Add) (gS fun i j=>.int (i+j)):=sN fun _ _ _ _ _ _ _ q=>add_int q
theorem ae6:cE X (binaryOp .Sub) (gS fun i j=>.int (i - j)):=sN fun _ _ _ _ _ _ _ q=>sub_int q
theorem ae7:cE X (binaryOp .Mult) (rI mW fun i j=>.int (i * j)):=mV fun _ _ _ _ _ _ _ hc q=>mul_int q hc.ok
theorem ae8:cE X (binaryOp .FloorDiv) (rI sO fun i j=>.int (i / j)):=mV fun i j _ _ _ _ _ hc q=>by
 have h1:(0:Int) < j:=hc.1
 have h2:j < 1073741824:=hc.2
 exact floordiv_int (by omega) (by rw [Int.fdiv_eq_ediv_of_nonneg i (by omega)]; exact q) (.inl (PyProof.noPylong_small (by omega)))
theorem ae9:cE X (binaryOp .Mod) (rI (fun _ j=>0 < j) fun i j=>.int (i % j)):=mV fun i j _ _ _ _ _ hc q=>by
 have h1:(0:Int) < j:=hc
 exact mod_int' (by omega) (by rw [Int.fmod_eq_emod_of_nonneg i (by omega)]; exact q)
theorem af0:cE X (binaryOp .Pow) (rI sP fun i j=>.int (i ^ j.toNat)):=mV fun _ _ _ _ _ _ _ hc q=>pow_int_small hc.1 hc.2.1 hc.2.2 q
theorem af1:cE X (binaryOp .RShift) (rI (fun _ j=>0<=j) fun i j=>.int (i / 2 ^ j.toNat)):=mV fun i j _ _ _ _ _ hc q=>
 rshift_int hc (by rw [Int.fdiv_eq_ediv_of_nonneg i (ae4 _)]; exact q)
theorem af2:cE X (binaryOp .BitAnd) (gS fun i j=>.int (Builtin.bitAnd i j)):=sN fun _ _ _ _ _ _ _ q=>and_int q
end
noncomputable def xS:V->V->Bool
 | .non,.non=>true | .non,.int _=>true | .int _,.non=>true | .non,.bl _=>true | .bl _,.non=>true | .non,.str _=>true | .str _,.non=>true
 | .int _,.int _=>true | .bl _,.bl _=>true | .str _,.str _=>true | .byt _,.byt _=>true
 | .int _,.str _=>true | .str _,.int _=>true | .bl _,.str _=>true | .str _,.bl _=>true
 | _,_=>false
noncomputable def xT:R2:=fun x y H Q=>xS x y=true/\Q (.bl (decide (x=y))) H
noncomputable def sQ:R2:=fun x y H Q=>xS x y=true/\Q (.bl (!decide (x=y))) H
theorem xV {i j:Int}:decide (V.int i=V.int j)=(i == j):=by
 rw [ba2]
 simp
theorem xW {i j:Bool}:decide (V.bl i=V.bl j)=(i == j):=by
 rw [ba2]
 simp
theorem xX {i j:Str}:decide (V.str i=V.str j)=(i == j):=by
 rw [ba2]
 simp
theorem xY {i j:Array UInt8}:decide (V.byt i=V.byt j)=(i.toList == j.toList):=by
 rw [ba2]
 cases i
 cases j
 simp
section
variable {X : Cx} {a b c : Expr} {ta tb tc : TE} {pos : Pos}
theorem bR {pins:List (Addr × Obj)}{σ:St}{H:Hp}{s:Shared}{Q:VK}{k k':Bool} (I:a6 X pins σ H s) (q:Q (.bl k) H) (e:k=k'):EP X pins σ Q (.bool k') s:=by
 subst e
 exact⟨.bl k,H,I,rfl,q⟩
theorem xZ:cE X (compareOp .Eq) xT:=by
 intro pins s σ H x y v u Q I rx ry h
 obtain ⟨hs,q⟩:=h
 cases x with
 | non=>
  cases rx
  cases y with
  | non=>cases ry; exact PySem.EqNone.eq_none_none (bR I q (by simp))
  | bl j=>cases ry; exact PySem.EqNone.eq_none_bool (bR I q (by simp))
  | int j=>obtain ⟨t',rfl⟩:=ry; exact PySem.EqNone.eq_none_int (bR I q (by simp))
  | str j=>obtain ⟨t',rfl⟩:=ry; exact PySem.EqNone.eq_none_str (bR I q (by simp))
  | _=>exact absurd (show false=true from hs) aV1
 | bl i=>
  cases rx
  cases y with
  | non=>cases ry; exact PySem.EqNone.eq_bool_none (bR I q (by simp))
  | bl j=>cases ry; exact eq_bool (bR I q xW)
  | str j=>obtain ⟨t',rfl⟩:=ry; exact PySem.EqMixed.eq_bool_str (bR I q (by simp))
  | _=>exact absurd (show false=true from hs) aV1
 | int i=>
  obtain ⟨t,rfl⟩:=rx
  cases y with
  | non=>cases ry; exact PySem.EqNone.eq_int_none (bR I q (by simp))
  | int j=>obtain ⟨t',rfl⟩:=ry; exact eq_int (bR I q xV)
  | str j=>obtain ⟨t',rfl⟩:=ry; exact PySem.EqMixed.eq_int_str (bR I q (by simp))
  | _=>exact absurd (show false=true from hs) aV1
 | str i=>
  obtain ⟨t,rfl⟩:=rx
  cases y with
  | non=>cases ry; exact PySem.EqNone.eq_str_none (bR I q (by simp))
  | bl j=>cases ry; exact PySem.EqMixed.eq_str_bool (bR I q (by simp))
  | int j=>obtain ⟨t',rfl⟩:=ry; exact PySem.EqMixed.eq_str_int (bR I q (by simp))
  | str j=>obtain ⟨t',rfl⟩:=ry; exact eq_str (bR I q xX)
  | _=>exact absurd (show false=true from hs) aV1
 | byt i=>
  obtain ⟨t,rfl⟩:=rx
  cases y with
  | byt j=>obtain ⟨t',rfl⟩:=ry; exact PySem.W.eq_bytes (bR I q xY)
  | _=>exact absurd (show false=true from hs) aV1
 | _=>cases y <;> exact absurd (show false=true from hs) aV1
theorem yA:cE X (compareOp .NotEq) sQ:=by
 intro pins s σ H x y v u Q I rx ry h
 obtain ⟨hs,q⟩:=h
 cases x with
 | non=>
  cases rx
  cases y with
  | non=>cases ry; exact PySem.EqNone.ne_none_none (bR I q (by simp))
  | bl j=>cases ry; exact PySem.EqNone.ne_none_bool (bR I q (by simp))
  | int j=>obtain ⟨t',rfl⟩:=ry; exact PySem.EqNone.ne_none_int (bR I q (by simp))
  | str j=>obtain ⟨t',rfl⟩:=ry; exact PySem.EqNone.ne_none_str (bR I q (by simp))
  | _=>exact absurd (show false=true from hs) aV1
 | bl i=>
  cases rx
  cases y with
  | non=>cases ry; exact PySem.EqNone.ne_bool_none (bR I q (by simp))
  | bl j=>cases ry; exact ne_bool (bR I q (congrArg not xW))
  | str j=>obtain ⟨t',rfl⟩:=ry; exact PySem.EqMixed.ne_bool_str (bR I q (by simp))
  | _=>exact absurd (show false=true from hs) aV1
 | int i=>
  obtain ⟨t,rfl⟩:=rx
  cases y with
  | non=>cases ry; exact PySem.EqNone.ne_int_none (bR I q (by simp))
  | int j=>obtain ⟨t',rfl⟩:=ry; exact ne_int (bR I q (congrArg not xV))
  | str j=>obtain ⟨t',rfl⟩:=ry; exact PySem.EqMixed.ne_int_str (bR I q (by simp))
  | _=>exact absurd (show false=true from hs) aV1
 | str i=>
  obtain ⟨t,rfl⟩:=rx
  cases y with
  | non=>cases ry; exact PySem.EqNone.ne_str_none (bR I q (by simp))
  | bl j=>cases ry; exact PySem.EqMixed.ne_str_bool (bR I q (by simp))
  | int j=>obtain ⟨t',rfl⟩:=ry; exact PySem.EqMixed.ne_str_int (bR I q (by simp))
  | str j=>obtain ⟨t',rfl⟩:=ry; exact ne_str (bR I q (congrArg not xX))
  | _=>exact absurd (show false=true from hs) aV1
 | byt i=>
  obtain ⟨t,rfl⟩:=rx
  cases y with
  | byt j=>obtain ⟨t',rfl⟩:=ry; exact PySem.W.ne_bytes (bR I q (congrArg not xY))
  | _=>exact absurd (show false=true from hs) aV1
 | _=>cases y <;> exact absurd (show false=true from hs) aV1
theorem pA:cE X (compareOp .Lt) (gS fun i j=>.bl (decide (i < j))):=p9 fun _ _ _ _ _ _ _ q=>lt_int q
theorem af3:cE X (compareOp .LtE) (gS fun i j=>.bl (decide (i<=j))):=p9 fun _ _ _ _ _ _ _ q=>le_int q
theorem af4:cE X (compareOp .Gt) (gS fun i j=>.bl (decide (j < i))):=p9 fun _ _ _ _ _ _ _ q=>gt_int q
theorem yB:cE X (compareOp .GtE) (gS fun i j=>.bl (decide (j<=i))):=p9 fun _ _ _ _ _ _ _ q=>ge_int q
theorem af5:cE X (compareOp .Is) (fun x y H Q=>y = .non/\Q (.bl (decide (x = .non))) H):=by
 intro pins s σ H x y v u Q I rx ry h
 obtain ⟨rfl,q⟩:=h
 cases ry
 refine is_none_gen (bR I q ?_)
 cases x <;> first
  | (cases rx; rfl)
  | (obtain ⟨t,rfl⟩:=rx; rfl)
theorem fY (b:Expr) {op:CmpOp} (h:op ≠ .In:=by decide) (h2:op ≠ .NotIn:=by decide):behindInMarks op b=false:=by
 have e1:(op == CmpOp.In)=false:=by cases op <;> first | rfl | exact absurd rfl h
 have e2:(op == CmpOp.NotIn)=false:=by cases op <;> first | rfl | exact absurd rfl h2
 cases b <;> simp [behindInMarks,e1,e2]
theorem sR {op:CmpOp}{r:R2} (ho:cE X (compareOp op) r) (ha:PE X a ta) (hb:PE X b tb) (hm:behindInMarks op b=false):PE X (.Compare a [op] [b] pos) (mU r ta tb):=by
 intro pins s σ H Q I h
 exact wpAny_Compare1 (sM ha hb I h fun v u s2 x y H2 I2 rx ry q=>ho pins s2 σ H2 x y v u Q I2 rx ry q) hm
noncomputable def af6 (t:TE):TT:=fun σ H Q=>t σ H fun x H'=>∃ k,x = .bl k/\Q k H'
theorem af7 {op:CmpOp}{r:R2} (ho:cE X (compareOp op) r) (ha:PE X a ta) (hb:PE X b tb) (hm:behindInMarks op b=false):PT X (.Compare a [op] [b] pos) (af6 (mU r ta tb)):=by
 intro pins s σ H Q I h
 refine wpAny_isTrue_Compare1 (aO (ha pins s σ H _ I h) fun v s1 ⟨x,H1,I1,r1,q1⟩=>aO (hb pins s1 σ H1 _ I1 q1) fun u s2 ⟨y,H2,I2,r2,q2⟩=>
  aO (ho pins s2 σ H2 x y v u _ I2 r1 r2 q2) fun c s3 ⟨z,H3,I3,r3,k,e,q3⟩=>?_) hm
 subst e
 cases r3
 exact be6 ⟨H3,I3,q3⟩
noncomputable def sS (K:PySem.W.Frag) (x:V) (H:Hp) (k:Bool):Prop:=
 match x with
 | .non=>k=false
 | .bl b=>k=b
 | .int i=>k=(i != 0)
 | .str y=>y.length<=sizeLine/\k=((y.length:Int) != 0)
 | .byt y=>y.size<=sizeLine/\k=((y.size:Int) != 0)
 | .ref p=>(∃ xs,aJ K H p xs/\k = !xs.isEmpty) ∨ (∃ xs,aQ K H p xs/\k = !xs.isEmpty) ∨ ∃ kvs,H p=some (.dK kvs)/\k = !kvs.isEmpty
 | _=>False
theorem af8 {κ:Type}{kvs:List (κ × V)}{vs:List (κ × Value)} (r:KV kvs vs):(!vs.isEmpty) = !kvs.isEmpty:=by
 cases r <;> rfl
theorem yC {xs:List V}{its:List Value} (r:aI xs its):(!its.toArray.isEmpty) = !xs.isEmpty:=by
 cases r <;> simp
theorem lI:(sizeLine:Nat) < 2 ^ 63:=by rw [sizeLine_eq]; decide
theorem af9:ae2 X (fun x H Q=>∃ k,sS X.K x H k/\Q k H):=by
 intro pins s σ H x v Q I rx h
 obtain ⟨k,e,q⟩:=h
 have hl:=lI
 have hs:sizeLine=16777216:=sizeLine_eq
 cases x with
 | non=>
  cases rx
  have e':k=false:=e
  subst e'
  exact truthy_none ⟨H,I,q⟩
 | bl b=>
  cases rx
  have e':k=b:=e
  subst e'
  exact be6 ⟨H,I,q⟩
 | int i=>
  obtain ⟨t,rfl⟩:=rx
  have e':k=(i != 0):=e
  subst e'
  exact PySem.P.truthy_int ⟨H,I,q⟩
 | str y=>
  obtain ⟨t,rfl⟩:=rx
  obtain ⟨hy,e'⟩:y.length<=sizeLine/\k=((y.length:Int) != 0):=e
  subst e'
  exact PySem.P.truthy_str (by omega) ⟨H,I.tok _,q⟩
 | byt y=>
  obtain ⟨t,rfl⟩:=rx
  obtain ⟨hy,e'⟩:y.size<=sizeLine/\k=((y.size:Int) != 0):=e
  subst e'
  exact PySem.W.truthy_bytes (by omega) ⟨H,I.tok _,q⟩
 | ref p=>
  cases rx
  have e':(∃ xs,aJ X.K H p xs/\k = !xs.isEmpty) ∨ (∃ xs,aQ X.K H p xs/\k = !xs.isEmpty) ∨ ∃ kvs,H p=some (.dK kvs)/\k = !kvs.isEmpty:=e
  rcases e' with ⟨xs,hx,e'⟩ | ⟨xs,hx,e'⟩ | ⟨kvs,hx,e'⟩
  ·subst e'
   obtain ⟨its,r,pl,hz⟩:=I.list hx
   have hlen:=r.length
   exact wpAny_truthy_list pl.isList (by simp only [aU2]; omega) ⟨H,I.tok _,by rw [yC r]; exact q⟩
  ·subst e'
   obtain ⟨its,r,pl,hz⟩:=I.tuple hx
   have hlen:=r.length
   exact truthy_tuple pl (by simp only [aU2]; omega) ⟨H,I.tok _,by rw [yC r]; exact q⟩
  ·subst e'
   obtain ⟨hz,hS,vs,r,m⟩:kvs.length<=sizeLine/\(p == sysModules)=false/\∃ vs,KV kvs vs/\s.heap.DictOf (eL X.prog X.w) p vs:=I.hok p _ hx
   have hlen:kvs.length=vs.length:=Paired.length r
   exact wpAny_truthy_dict hS m (by omega) ⟨H,I.tok _,by rw [af8 r]; exact q⟩
 | _=>exact (show False from e).elim
theorem ag0 (ha:PE X a ta) (he:∀ whole,isTrue a X.env whole=(do let v <- whole; standAt a.pos; holding [v] (truthy v))) :
  PT X a (fun σ H Q=>ta σ H fun x H'=>∃ k,sS X.K x H' k/\Q k H'):=by
 intro pins s σ H Q I h
 exact isTrue_plain (aO (ha pins s σ H _ I h) fun v s1 ⟨x,H1,I1,r1,q1⟩=>af9 pins s1 σ H1 x v Q I1 r1 q1) (he _)
theorem gT {x:V}{us:List Value} (r:aI [x] us):∃ u,us = [u]/\b4 x u:=by
 cases r with
 | cons r1 r2=>cases r2; exact⟨_,rfl,r1⟩
theorem yD {x y:V}{us:List Value} (r:aI [x,y] us):∃ u w',us = [u,w']/\b4 x u/\b4 y w':=by
 cases r with
 | cons r1 r2=>
  cases r2 with
  | cons r3 r4=>cases r4; exact⟨_,_,rfl,r1,r3⟩
theorem ag1 (hc:X.calm=true):cY X (.builtin "max") (fun xs H Q=>∃ i j,xs = [.int i,.int j]/\Q (.int (if j > i then j else i)) H):=by
 intro pins s σ H xs us Q I r h
 obtain ⟨i,j,rfl,q⟩:=h
 obtain ⟨u,w',rfl,⟨t,rfl⟩,⟨t',rfl⟩⟩:=yD r
 refine max_two_ints (I.ok.hd hc) fun h' tk k=>⟨_,H,I.kept k,?_,q⟩
 by_cases hj:j > i
 ·rw [if_pos hj,if_pos hj]; exact⟨_,rfl⟩
 ·rw [if_neg hj,if_neg hj]; exact⟨_,rfl⟩
theorem ag2 (hc:X.calm=true):cY X (.builtin "min") (fun xs H Q=>∃ i j,xs = [.int i,.int j]/\Q (.int (if j < i then j else i)) H):=by
 intro pins s σ H xs us Q I r h
 obtain ⟨i,j,rfl,q⟩:=h
 obtain ⟨u,w',rfl,⟨t,rfl⟩,⟨t',rfl⟩⟩:=yD r
 refine min_two_ints (I.ok.hd hc) fun h' tk k=>⟨_,H,I.kept k,?_,q⟩
 by_cases hj:j < i
 ·rw [if_pos hj,if_pos hj]; exact⟨_,rfl⟩
 ·rw [if_neg hj,if_neg hj]; exact⟨_,rfl⟩
end
structure bZ (k:Nat) (A:Around):Prop where
 hd:A.handled=none
 dp:A.depth+3 * k+5 < recursionLimit
 un:A.units+16 * k+200 < cLine
theorem bZ.mono {j k:Nat}{A:Around} (r:bZ k A) (h:j<=k):bZ j A:=⟨r.hd,by have:=r.dp; omega,by have:=r.un; omega⟩
theorem bZ.deeper {k:Nat}{A:Around} (r:bZ (k+1) A) (env:Env):bZ k (A.deeper env):=
 ⟨r.hd,by have:=r.dp; show A.depth+1+3 * k+5 < _; omega,by have:=r.un; show A.units+3+16 * k+200 < _; omega⟩
theorem bZ.depth {k:Nat}{A:Around} (r:bZ k A):A.depth < recursionLimit:=by have:=r.dp; omega
theorem bZ.units {k:Nat}{A:Around} (r:bZ k A):A.units+64 < cLine:=by have:=r.un; omega
noncomputable def jQ:TA:=fun _ H Q=>Q [] H
noncomputable def iF (ta:TE) (tr:TA):TA:=fun σ H Q=>ta σ H fun x H1=>tr σ H1 fun xs H2=>Q (x :: xs) H2
section
variable {X : Cx} {e : Expr} {es : List Expr} {te : TE} {t : TA} {pos : Pos}
theorem cZ:PA X [] jQ:=fun _ _ _ _ H Q I h=>Calls.spliced_nil ⟨[],H,I,.nil,h⟩
theorem cP (ha:PE X e te) (hr:PA X es t) (hs:starEach (e :: es) X.env=(false,eval e X.env) :: starEach es X.env:=by rfl):PA X (e :: es) (iF te t):=by
 intro pos pins s σ H Q I h
 rw [hs]
 show wpAny _ _ (spliced ((false,eval e X.env) :: backTo pos (starEach es X.env))) _ _ s
 refine Calls.spliced_cons (aO (ha pins s σ H _ I h) fun u s1 ⟨x,H1,I1,r1,q1⟩=>?_)
 exact aO (hr pos pins s1 σ H1 _ I1 q1) fun us s2 ⟨xs,H2,I2,r2,q2⟩=>⟨x :: xs,H2,I2,.cons r1 r2,q2⟩
noncomputable def yE (t:TA):TE:=fun σ H Q=>t σ H fun xs H1=>xs.length<=sizeLine/\∀ p,H1 p=none->Q (.ref p) (upd H1 p (.tup xs))
noncomputable def yF (t:TA):TE:=fun σ H Q=>t σ H fun xs H1=>xs.length<=sizeLine/\∀ p,H1 p=none->Q (.ref p) (upd H1 p (.lst xs))
theorem ag3 {x1} (h:PA X es t):PE X (.Tuple es x1 pos) (yE t):=by
 intro pins s σ H Q I hq
 refine wpAny_Tuple_spliced (aO (h pos pins s σ H _ I hq) fun us s1 ⟨xs,H1,I1,r,z,q⟩=>⟨by rw [<- r.length]; exact z,?_⟩)
 have hf:H1 s1.heap.objs.size=none:=I1.hok.fresh (aT2 _)
 refine⟨.ref s1.heap.objs.size,upd H1 s1.heap.objs.size (.tup xs),I1.laid (t':=s1.toks) (fun b u e=>aS7 _ e) (aT2 _) ?_,rfl,q _ hf⟩
 exact⟨z,us,r,⟨_,aU9 _ rfl,rfl,_,rfl⟩,iC.new _ _ rfl⟩
theorem sT (h:PA X es t):PE X (.List es pos) (yF t):=by
 intro pins s σ H Q I hq
 refine wpAny_List_spliced (aO (h pos pins s σ H _ I hq) fun us s1 ⟨xs,H1,I1,r,z,q⟩=>⟨by rw [<- r.length]; exact z,?_⟩)
 have hf:H1 s1.heap.objs.size=none:=I1.hok.fresh (aT2 _)
 refine⟨.ref s1.heap.objs.size,upd H1 s1.heap.objs.size (.lst xs),I1.laid (t':=s1.toks) (fun b u e=>aS7 _ e) (aT2 _) ?_,rfl,q _ hf⟩
 exact⟨z,us,0,r,aU9 _ rfl⟩
end
noncomputable abbrev Sp:=List V->Hp->VK->XK->Prop
noncomputable abbrev gI:=List Env->Hp->Shared->XK->Value->Shared->Prop
structure pB (P:Program) (w:World) (K:PySem.W.Frag) (mg:Str->Option Value) (base:Heap) (A:Around) (outer:List Env) (s:Shared) (H:Hp):Prop where
 frames:A.frames=some outer
 mod:Mod K mg base
 bs:∀ b o,base.get? b=some o->s.heap.get? b=some o/\H b=none
 bsz:base.objs.size<=s.heap.objs.size
 funs:s.heap.FunFrames base outer
 frf:∀ b ∈ bM outer,H b=none
 hok:bO P w H s.heap
 bare:AllBare s.gens
noncomputable def CE (outer:List Env) (P:Program) (w:World) (H:Hp) (s:Shared) (Q:VK) (u:Value) (s':Shared):Prop:=
 ∃ v H',s'.os=s.os/\AllBare s'.gens/\Un (bM outer) [] H H' s.heap s'.heap/\bO P w H' s'.heap/\b4 v u/\Q v H'
noncomputable def CR (CX:gI) (outer:List Env) (P:Program) (w:World) (H:Hp) (s:Shared) (Q:VK) (E:XK) (r:Result) (s':Shared):Prop:=
 match r with
 | .ok (.ret u)=>CE outer P w H s Q u s'
 | .ok _=>False
 | .error e=>CX outer H s E e s'
structure cF (P:Program) (w:World) (K:PySem.W.Frag) (mg:Str->Option Value) (base:Heap) (CX:gI) (k:Nat) (f:Addr) (fd:FuncData) (ps:List Str) (sp:Sp):Prop where
 len:∀ vs H Q E,sp vs H Q E->vs.length=ps.length
 run:∀ (A:Around) (outer:List Env) (s:Shared) (H:Hp) (args:Args) (us:List Value) (vs:List V) (Q:VK) (E:XK),bZ k A->pB P w K mg base A outer s H->BindsTo s fd args (ps.zip us)->aI vs us->sp vs H Q E->
  codeAny (model P w) A (.call (.ref f) args) (CR CX outer P w H s Q E) s
theorem cF.imp {P:Program}{w:World}{K:PySem.W.Frag}{mg:Str->Option Value}{base:Heap}{CX:gI}{k:Nat}{f:Addr}{fd:FuncData}{ps:List Str}{sp sp':Sp} (F:cF P w K mg base CX k f fd ps sp)
  (h:∀ vs H Q E,sp' vs H Q E->sp vs H Q E):cF P w K mg base CX k f fd ps sp':=
 ⟨fun vs H Q E q=>F.len vs H Q E (h _ _ _ _ q),fun A outer s H args us vs Q E hr he hb hv hs=>F.run A outer s H args us vs Q E hr he hb hv (h _ _ _ _ hs)⟩
section
variable {X : Cx} {pins : List (Addr × Obj)} {σ : St} {H : Hp} {s s' : Shared}
theorem a6.env0 (I:a6 X pins σ H s):pB X.prog X.w X.K X.mg X.base X.A X.stack s H:=
 ⟨I.ok.frames,I.ok.mod,I.bs,aX5 I.ok.bsz I.sz,I.stack,I.stkFree,I.hok,I.bare⟩
theorem a6.after {Q:VK}{u:Value} (I:a6 X pins σ H s) (h:CE X.stack X.prog X.w H s Q u s'):EP X pins σ Q u s':=by
 obtain ⟨v,H',os,bare,un,hok,r,q⟩:=h
 obtain ⟨hh,g,d,t,os'⟩:=s'
 obtain rfl:os'=s.os:=os
 exact⟨v,H',I.call (h':=hh) (g':=g) (d':=d) (t':=t) (ch:=[]) un hok bare (fun b z=>absurd z (by simp)),r,q⟩
end
noncomputable def sV (sp:Sp) (dvs:List V) (E:XK) (t:TA):TE:=fun σ H Q=>t σ H fun vs H1=>sp (vs ++ dvs) H1 Q E
noncomputable def gU (K:PySem.W.Frag) (fd:FuncData) (ps:List Str) (ds:List Value):Prop:=
 ∀ (s:Shared) (us:List Value),K.In s.heap->(us ++ ds).length=ps.length->BindsTo s fd ⟨us,[]⟩ (ps.zip (us ++ ds))
theorem gU.all {K:PySem.W.Frag}{fd:FuncData}{ps:List Str} (h:∀ us:List Value,us.length=ps.length->bindArgs fd ⟨us,[]⟩=pure (ps.zip us)):gU K fd ps []:=fun s us _ hl=>by
 rw [ba3] at hl ⊢
 exact .of_eq (h us hl)
noncomputable def mX (CX:gI) (X:Cx) (E:XK):Prop:=∀ (pins:List (Addr × Obj)) (σ:St) (H:Hp) (s:Shared) (e:Value) (s':Shared),a6 X pins σ H s->CX X.stack H s E e s'->X.xe e s'
section
variable {X : Cx} {CX : gI} {k : Nat} {f C : Addr} {fd : FuncData} {ps : List Str} {sp : Sp} {dvs : List V} {ds : List Value} {E : XK} {x m : Str} {p pos apos : Pos} {e o : Expr} {es : List Expr} {ta : TE} {t : TA}
theorem ag4 {pins:List (Addr × Obj)}{σ:St}{H:Hp}{s:Shared}{Q:VK}{us:List Value}{vs:List V} (F:cF X.prog X.w X.K X.mg X.base CX k f fd ps sp) (hr:bZ k X.A) (hb:gU X.K fd ps ds) (hd:aI dvs ds) (hx:mX CX X E)
  (I:a6 X pins σ H s) (r:aI vs us) (h:sp (vs ++ dvs) H Q E):wpAny (model X.prog X.w) X.A (call (.ref f) us) (EP X pins σ Q) X.xe s:=by
 have r2:aI (vs ++ dvs) (us ++ ds):=r.append hd
 have hl:(us ++ ds).length=ps.length:=by rw [<- r2.length]; exact F.len _ _ _ _ h
 refine wpAny_call (codeAny_mono (F.run X.A X.stack s H ⟨us,[]⟩ (us ++ ds) (vs ++ dvs) Q E hr I.env0 (hb s us I.kIn hl) r2 h) fun r s' hq=>?_)
 cases r with
 | error e=>exact hx pins σ H s e s' I hq
 | ok fl=>
  cases fl with
  | ret u=>exact I.after hq
  | next=>exact False.elim hq
  | brk=>exact False.elim hq
  | cont=>exact False.elim hq
theorem sW (F:cF X.prog X.w X.K X.mg X.base CX k f fd ps sp) (hr:bZ k X.A) (hg:Gl X x) (hm:X.mg x=some (.ref f)) (hk:PySem.W.keepIn X.K (.ref f)=true) (hb:gU X.K fd ps ds) (hd:aI dvs ds) (hx:mX CX X E)
  (ha:PA X (e :: es) t) (hdb:(x == ("__debug__" : Str))=false:=by decide) (he:starEach (e :: es) X.env=(false,eval e X.env) :: starEach es X.env:=by rfl) (hpl:(backTo pos (starEach es X.env)).any (·.1)=false:=by rfl) :
  PE X (.Call (.Name x p) (e :: es) [] pos) (sV sp dvs E t):=by
 intro pins s σ H Q I h
 refine wpAny_Call_Name_kw (oX I hg hm ?_ hdb)
 refine PySem.W.callWith_K (h₀:=X.base) I.ok.mod.kin hk (aO (ha pos pins s σ H _ I h) fun us s1 ⟨vs,H1,I1,r,q⟩=>⟨I1.kIn,?_⟩) he hpl
 exact ag4 F hr hb hd hx I1 r q
end
noncomputable def PK (X:Cx) (kws:List Keyword) (t:TA):Prop:=
 ∀ (pos:Pos) (pins:List (Addr × Obj)) (s:Shared) (σ:St) (H:Hp) (Q:List V->Hp->Prop),a6 X pins σ H s->t σ H Q->wpAny (model X.prog X.w) X.A (evalAll ((backToKw pos (keywordEach kws X.env)).map (·.2))) (AP X pins σ Q) X.xe s
structure FnScope (N P:List Str) (sc:Scope):Prop where
 kind:sc.kind = .function
 co:sc.isCoroutine=false
 gen:sc.isGenerator=false
 nd:N.Nodup
 pre:N.take P.length=P
 par:∀ x ∈ P,sc.names.lookup x=some .local ∨ sc.names.lookup x=some .cell
 nofree:∀ y ∈ sc.names,y.2 ≠ .free
theorem yG {kindOf:Str->Option NameKind}{x:Str}:∀ {binds:List (Str × Value)}{m:Str->Option Value},(∀ v,(x,v) ∉ binds)->bindL kindOf binds m x=m x
 | [],_,_=>rfl
 | (n,v) :: r,m,h=>by
  unfold bindL
  rw [yG fun w hw=>h w (aT5 _ hw)]
  split
  ·have:x ≠ n:=by rintro rfl; exact h v aS8
   simp [this]
  ·rfl
theorem yH {kindOf:Str->Option NameKind}{x:Str}:∀ {binds:List (Str × Value)}{m:Str->Option Value},(∀ v,(x,v) ∉ binds)->bindC kindOf binds m x=m x
 | [],_,_=>rfl
 | (n,v) :: r,m,h=>by
  unfold bindC
  rw [yH fun w hw=>h w (aT5 _ hw)]
  split
  ·rfl
  ·have:x ≠ n:=by rintro rfl; exact h v aS8
   simp [this]
theorem yI {kindOf:Str->Option NameKind}{x:Str}{v:Value}:∀ {P:List Str}{vs:List Value}{i:Nat}{m:Str->Option Value},P.Nodup->P[i]? = some x->vs[i]? = some v->kindOf x=some .local->
  bindL kindOf (P.zip vs) m x=some v
 | [],_,_,_,_,h,_,_=>by simp at h
 | _ :: _,[],_,_,_,_,h,_=>by simp at h
 | p :: P,w :: vs,0,m,nd,h1,h2,hk=>by
  simp at h1 h2; subst h1; subst h2
  show bindL kindOf ((p,w) :: P.zip vs) m p=_
  unfold bindL
  rw [yG fun v hv=>(ba4.mp nd).1 (List.of_mem_zip hv).1,if_pos hk]
  simp
 | p :: P,w :: vs,i+1,m,nd,h1,h2,hk=>by
  show bindL kindOf ((p,w) :: P.zip vs) m x=_
  unfold bindL
  exact yI (i:=i) (ba4.mp nd).2 (by simpa using h1) (by simpa using h2) hk
theorem yJ {kindOf:Str->Option NameKind}{x:Str}{v:Value}:∀ {P:List Str}{vs:List Value}{i:Nat}{m:Str->Option Value},P.Nodup->P[i]? = some x->vs[i]? = some v->kindOf x ≠ some .local->
  bindC kindOf (P.zip vs) m x=some v
 | [],_,_,_,_,h,_,_=>by simp at h
 | _ :: _,[],_,_,_,_,h,_=>by simp at h
 | p :: P,w :: vs,0,m,nd,h1,h2,hk=>by
  simp at h1 h2; subst h1; subst h2
  show bindC kindOf ((p,w) :: P.zip vs) m p=_
  unfold bindC
  rw [yH fun v hv=>(ba4.mp nd).1 (List.of_mem_zip hv).1,if_neg hk]
  simp
 | p :: P,w :: vs,i+1,m,nd,h1,h2,hk=>by
  show bindC kindOf ((p,w) :: P.zip vs) m x=_
  unfold bindC
  exact yJ (i:=i) (ba4.mp nd).2 (by simpa using h1) (by simpa using h2) hk
noncomputable def start (N:List Str) (vs:List V):St:=vs.map some ++ List.replicate (N.length - vs.length) none
noncomputable def dA (CX:gI) (P:Program) (w:World) (K:PySem.W.Frag) (mg:Str->Option Value) (base:Heap) (N:List Str) (qual:Str) (scope:Scope) (f:Addr) (cd:Value) (A:Around) (outer:List Env) (s:Shared) (H:Hp) (E:XK):Cx where
 prog:=P
 w:=w
 K:=K
 mg:=mg
 base:=base
 A:=A.deeper (envOfC qual scope s.heap.objs.size f cd)
 N:=N
 s₀:=s
 H₀:=H
 env:=envOfC qual scope s.heap.objs.size f cd
 outer:=outer
 stack:=envOfC qual scope s.heap.objs.size f cd :: outer
 ex:=[]
 calm:=true
 fn:=fun _=>true
 pn:=[]
 xe:=fun e s'=>wpAny (model P w) (A.deeper (envOfC qual scope s.heap.objs.size f cd)) (leaving (envOfC qual scope s.heap.objs.size f cd) e) (fun _ s''=>CX outer H s E e s'') (fun e' s''=>CX outer H s E e' s'') s'
theorem yK {sc:Scope}{n:Nat}{x:Str} (h:sc.names.lookup x=some .cell):∃ c,(cellsFrom n sc.names []).lookup x=some c:=by
 have q:=PySem.W.cellsFrom_some sc.names n [] (.inl h)
 exact Option.isSome_iff_exists.mp q
theorem ag5 {CX:gI}{P:Program}{w:World}{K:PySem.W.Frag}{mg:Str->Option Value}{base:Heap}{N ps:List Str}{qual:Str}{scope:Scope}{f:Addr}{cd:Value}{A:Around}{outer:List Env}{s s1:Shared}{H:Hp}{E:XK}{us:List Value}{vs:List V}
  (S:FnScope N ps scope) (hd:A.handled=none) (e0:pB P w K mg base A outer s H) (hl:vs.length=ps.length) (r:aI vs us)
  (x:InCallC s s.heap.objs.size (bindL (envOfC qual scope s.heap.objs.size f cd).kindOf (ps.zip us) fun _=>none) (cellsFrom (s.heap.objs.size+1) scope.names []) (bindC (envOfC qual scope s.heap.objs.size f cd).kindOf (ps.zip us) fun _=>none) s1) :
  a6 (dA CX P w K mg base N qual scope f cd A outer s H E) [] (start N vs) H s1:=by
 have hpl:ps.length<=N.length:=by have:=congrArg List.length S.pre; rw [aZ6] at this; omega
 obtain ⟨h1,tk,rfl,hk⟩:=x.done
 have noA:∀ b:Addr,b ∉ (dA CX P w K mg base N qual scope f cd A outer s H E).ex:=fun b z=>absurd (show b ∈ ([]:List Addr) from z) (by simp)
 refine⟨⟨e0.mod,S.kind,rfl,rfl,aT2 _,fun y z c h1 h2=>?_,fun y hy=>?_,fun y c _ h=>?_,fun _=>hd,Around.frames_deeper e0.frames,.inr ⟨rfl,rfl⟩,fun b z=>absurd z (noA b),e0.bs,e0.bsz,fun b _ _=>noA b,fun b z=>absurd z (noA b),e0.funs,e0.frf⟩,
  rfl,e0.bare,Un.kept hk,⟨_,x.toInCall.ns,fun i y v h1 h2 h3=>?_⟩,fun y c h=>⟨_,x.cell y c h⟩,e0.hok.fresh (aT2 _),fun y c h=>?_,fun p hp=>absurd (show p ∈ ([]:List (Addr × Obj)) from hp) (by simp),e0.hok.kept hk,?_⟩
 ·exact name_of_addr x.apart (aY1 h1) (aY1 h2)
 ·have hy:scope.names.lookup y=some .cell ∨ scope.names.lookup y=some .free:=hy
  rcases hy with hy | hy
  ·exact yK hy
  ·exact absurd rfl (S.nofree _ (aY1 hy))
 ·exact aY6 (x.above y c (aY1 h))
 ·have hi:i < vs.length:=by
   unfold start at h2
   by_cases hi:i < vs.length
   ·exact hi
   ·rw [bf6 (by simpa using hi)] at h2
    rw [List.getElem?_replicate] at h2
    split at h2 <;> cases h2
  have ha:vs[i]? = some v:=by
   unfold start at h2
   rw [aY9 (by simpa using hi),aT7] at h2
   cases e:vs[i]? with
   | none=>rw [e] at h2; cases h2
   | some a=>rw [e] at h2; cases h2; rfl
  obtain ⟨u,hu,rv⟩:=r.get ha
  have hp:ps[i]? = some y:=by
   rw [<- S.pre,List.getElem?_take_of_lt (by omega)]; exact h1
  have ndP:ps.Nodup:=by rw [<- S.pre]; exact S.nd.sublist (List.take_sublist _ _)
  refine⟨u,rv,?_⟩
  rcases S.par y (aT4 hp) with k | k
  ·exact .inl ⟨k,yI ndP hp hu k⟩
  ·obtain ⟨c,e⟩:=yK (n:=s.heap.objs.size+1) k
   refine .inr ⟨.inl k,c,e,?_⟩
   have q:=x.cell y c e
   rw [yJ ndP hp hu (by show scope.names.lookup y ≠ _; rw [k]; decide)] at q
   exact q
 ·exact e0.hok.fresh (aY6 (x.above y c (aY1 h)))
 ·unfold start
  show _=N.length
  rw [aU6,aS9,bd5]
  omega
theorem yM {CX:gI}{P:Program}{w:World}{K:PySem.W.Frag}{mg:Str->Option Value}{base:Heap}{k:Nat}{f:Addr}{name qual:Str}{params:Arguments}{body:List Stmt}{scope:Scope}{dV kV doc pm cdv ct oc:Value}{an od:Option Addr}
  {osl:Array (Option Value)}{N ps:List Str}{sp:Sp} (lk:K.lookup f=some ⟨oc,od,.func (PySem.W.fnOf name qual params body scope dV kV doc pm an cdv ct),osl⟩) (hcd:PySem.W.codeIn K cdv qual=true) (S:FnScope N ps scope)
  (len:∀ vs H Q E,sp vs H Q E->vs.length=ps.length)
  (hbody:∀ (A:Around) (outer:List Env) (s:Shared) (H:Hp) (vs:List V) (Q:VK) (E:XK),bZ k (A.deeper (envOfC qual scope s.heap.objs.size f cdv))->sp vs H Q E->
   ∃ t,dO (dA CX P w K mg base N qual scope f cdv A outer s H E) body t/\t { nx:=fun _ H'=>Q .non H',rt:=Q } (start N vs) H) :
  cF P w K mg base CX (k+1) f (PySem.W.fnOf name qual params body scope dV kV doc pm an cdv ct) ps sp:=by
 refine⟨len,fun A outer s H args us vs Q E hr e0 hb r hsp=>?_⟩
 have hl:=len _ _ _ _ hsp
 have KX:K.In s.heap:=e0.mod.kin.keeps fun b o e=>(e0.bs b o e).1
 have lim:s.heap.NoLimit:=e0.mod.nolimit.keeps fun b o e=>(e0.bs b o e).1
 have hkind:∀ y ∈ ps.zip us,scope.names.lookup y.1=some .local ∨ (scope.names.lookup y.1=some .cell/\((cellsFrom (s.heap.objs.size+1) scope.names []).lookup y.1).isSome=true):=fun ⟨n,v⟩ hy=>by
  rcases S.par n (List.of_mem_zip hy).1 with q | q
  ·exact .inl q
  ·exact .inr ⟨q,PySem.W.cellsFrom_some _ _ _ (.inl q)⟩
 refine codeAny_call_function hr.depth (KX _ _ lk) rfl S.co S.gen rfl (PySem.W.codeRec_of KX hcd) (hb _ _ _ _ ?_)
 refine wpAny_newFunctionEnv_cells S.kind hkind fun env he s1 x=>?_
 subst he
 refine⟨lim.keeps x.toInCall.keep,codeAny_func ?_⟩
 obtain ⟨t,ht,hq⟩:=hbody A outer s H vs Q E (hr.deeper _) hsp
 have I:a6 (dA CX P w K mg base N qual scope f cdv A outer s H E) [] (start N vs) H s1:=ag5 S hr.hd e0 hl r x
 refine ba6 (ht [] s1 (start N vs) H _ I hq) (fun fl s' hs=>?_) fun e s' hs=>hs
 have fin:∀ {σ':St}{H':Hp}{v:V}{u:Value},a6 (dA CX P w K mg base N qual scope f cdv A outer s H E) [] σ' H' s'->b4 v u->Q v H'->CE outer P w H s Q u s':=
  fun {σ' H' v u} J rv q=>⟨v,H',J.os,J.bare,J.base,J.hok,rv,q⟩
 cases fl with
 | ret u=>
  obtain ⟨v,σ',H',J,rv,q⟩:=hs
  exact fin J rv q
 | next=>
  obtain ⟨σ',H',J,q⟩:=hs
  exact fin (v:=V.non) (u:=Value.none) J rfl q
 | brk=>
  obtain ⟨_,_,_,q⟩:=hs
  exact False.elim q
 | cont=>
  obtain ⟨_,_,_,q⟩:=hs
  exact False.elim q
section
variable {X : Cx} {x : Str} {p pos : Pos} {e : Expr} {es : List Expr} {t : TA} {id T : String} {r : List V → Hp → VK → Prop}
noncomputable def sX (r:List V->Hp->VK->Prop) (t:TA):TE:=fun σ H Q=>t σ H fun vs H1=>r vs H1 Q
theorem sY (hc:cY X (.builtin id) r) (hg:Gl X x) (hm:X.mg x=none) (hv:bootBuiltins x=some (.builtin id)) (ha:PA X (e :: es) t) (hn:x ≠ "__name__":=by decide) (hdb:(x == ("__debug__" : Str))=false:=by decide)
  (he:starEach (e :: es) X.env=(false,eval e X.env) :: starEach es X.env:=by rfl) (hpl:(backTo pos (starEach es X.env)).any (·.1)=false:=by rfl):PE X (.Call (.Name x p) (e :: es) [] pos) (sX r t):=by
 intro pins s σ H Q I h
 refine wpAny_Call_Name_kw (jL I hg hm hv ?_ hn hdb)
 exact PyProof.Rows.callWith_builtin1 (aO (ha pos pins s σ H _ I h) fun us s1 ⟨vs,H1,I1,r1,q1⟩=>hc pins s1 σ H1 vs us Q I1 r1 q1) he hpl
theorem sZ (hc:cY X (.type T) r) (hg:Gl X x) (hm:X.mg x=none) (hv:bootBuiltins x=some (.type T)) (ha:PA X (e :: es) t) (hn:x ≠ "__name__":=by decide) (hdb:(x == ("__debug__" : Str))=false:=by decide)
  (he:starEach (e :: es) X.env=(false,eval e X.env) :: starEach es X.env:=by rfl) (hpl:(backTo pos (starEach es X.env)).any (·.1)=false:=by rfl):PE X (.Call (.Name x p) (e :: es) [] pos) (sX r t):=by
 intro pins s σ H Q I h
 refine wpAny_Call_Name_kw (jL I hg hm hv ?_ hn hdb)
 exact aZ5 (aO (ha pos pins s σ H _ I h) fun us s1 ⟨vs,H1,I1,r1,q1⟩=>hc pins s1 σ H1 vs us Q I1 r1 q1) he hpl
end
end L2
namespace HT
open PySem PyProof.Rows
noncomputable def eY:List Int->List Int->Bool
 | [],[]=>false
 | [],_ :: _=>true
 | _ :: _,[]=>false
 | x :: xs,y :: ys=>if x=y then eY xs ys else decide (x < y)
theorem mY (x y:Int) (xs ys:List Int):eY (x :: xs) (y :: ys)=if x=y then eY xs ys else decide (x < y):=rfl
section
variable {prog : Program} {w : World} {A : Around} {E : Value → Shared → Prop} {s : Shared}
noncomputable def aW (n d:Nat):Option Int->Nat
 | none=>d
 | some v=>if v < 0 then (v+(n:Int)).toNat else min v.toNat n
theorem ag6 (n d:Nat):aW n d none=d:=rfl
theorem ag7 (n d k:Nat):aW n d (some (k:Int))=min k n:=by
 show (if (k:Int) < 0 then ((k:Int)+(n:Int)).toNat else min (k:Int).toNat n)=min k n
 rw [if_neg (by omega),aV4]
theorem ag8 (n d:Nat) (hd:d<=n) (o:Option Int):aW n d o<=n:=by
 cases o with
 | none=>exact hd
 | some v=>
  show (if v < 0 then (v+(n:Int)).toNat else min v.toNat n)<=n
  by_cases hv:v < 0
  ·rw [if_pos hv]; omega
  ·rw [if_neg hv]; exact Nat.min_le_right _ _
theorem yN (v:Int) (n d:Nat):(if v < 0 then max (v+(n:Int)) 0 else min v (n:Int))=((aW n d (some v):Nat):Int):=by
 show (if v < 0 then max (v+(n:Int)) 0 else min v (n:Int))=(((if v < 0 then (v+(n:Int)).toNat else min v.toNat n):Nat):Int)
 by_cases hv:v < 0
 ·simp only [if_pos hv]; omega
 ·simp only [if_neg hv]; omega
theorem ag9 (lo hi:Option Int) (n:Nat):Builtin.Slice.sliceAdjust lo hi 1 (n:Int)=(((aW n 0 lo:Nat):Int),((aW n n hi:Nat):Int)):=by
 have h1 : ¬ ((1:Int) < 0):=by omega
 unfold Builtin.Slice.sliceAdjust
 simp only [h1,aZ7]
 refine Prod.ext ?_ ?_
 ·cases lo with
  | none=>rfl
  | some v=>exact yN v n 0
 ·cases hi with
  | none=>rfl
  | some v=>exact yN v n n
theorem ah0 (i j:Nat):Builtin.Slice.slicePlaces (i:Int) (j:Int) 1=j - i:=by
 unfold Builtin.Slice.slicePlaces
 have h1:(1:Int) > 0:=by omega
 simp only [h1,if_true,Int.ediv_one]
 split <;> omega
theorem yO {v:Value}{o:Option Int}{Q:Option Int->Shared->Prop} (p:IsPart v o) (h:Q o s):wpAny (model prog w) A (Builtin.Slice.slicePartIndex v) Q E s:=by
 cases p with
 | none=>exact slicePart_none h
 | int i t=>exact slicePart_int h
theorem yQ {sl:Addr}{vl vu:Value}{lo hi:Option Int}{n:Nat}{Q:Int × Int × Nat->Shared->Prop} (hs:s.heap.IsSliceOf sl vl vu .none) (pl:IsPart vl lo) (pu:IsPart vu hi)
  (h:Q (((aW n 0 lo:Nat):Int),1,aW n n hi - aW n 0 lo) s):wpAny (model prog w) A (Builtin.Slice.sliceApplied (.ref sl) (pure (n:Int))) Q E s:=by
 obtain ⟨os,hos,hcs,hds⟩:=id hs
 unfold Builtin.Slice.sliceApplied Builtin.Slice.sliceFields
 refine aS6 (aS6 (bb5 hos hds (x:=vl) rfl (aS6 (bb5 hos hds (x:=vu) rfl (aS6 (bb5 hos hds (x:=.none) rfl (aT6 ?_)))))))
 refine aS6 (slicePart_none ?_)
 show wpAny _ _ (if ((1:Int) == 0)=true then _ else _) _ _ s
 rw [if_neg (by decide)]
 refine aS6 (yO pl (aS6 (yO pu (aS6 (aT6 ?_)))))
 show wpAny _ _ (match Builtin.Slice.sliceAdjust lo hi 1 (n:Int) with | (lo,hi)=>pure (lo,(1:Int),Builtin.Slice.slicePlaces lo hi 1)) _ _ s
 rw [ag9 lo hi n]
 show wpAny _ _ (pure (((aW n 0 lo:Nat):Int),(1:Int),Builtin.Slice.slicePlaces ((aW n 0 lo:Nat):Int) ((aW n n hi:Nat):Int) 1)) _ _ s
 rw [ah0]
 exact aT6 h
theorem ah1 (xs:Array Value) (i k:Nat):((List.range k).filterMap fun (m:Nat)=>xs[((i:Int)+(m:Int) * 1).toNat]?).toArray=((xs.toList.drop i).take k).toArray:=by
 have e:(fun (m:Nat)=>xs[((i:Int)+(m:Int) * 1).toNat]?)=fun m=>xs[i+m]?:=by
  funext m
  have:((i:Int)+(m:Int) * 1).toNat=i+m:=by omega
  rw [this]
 rw [e]
 have:=pick_run xs i k
 rw [List.filterMap_map] at this
 have e2:((fun x=>xs[x]?) ∘ fun x=>i+x)=fun m=>xs[i+m]?:=rfl
 rw [e2] at this
 rw [this]
theorem ah2 {t sl:Addr}{items:Array Value}{vl vu:Value}{lo hi:Option Int}{Q:Value->Shared->Prop} (ht:IsTup s.heap t items) (hs:s.heap.IsSliceOf sl vl vu .none) (pl:IsPart vl lo) (pu:IsPart vu hi)
  (hw : ¬ (aW items.size 0 lo=0/\aW items.size items.size hi=items.size))
  (h:Q (.ref s.heap.objs.size) { s with heap:=s.heap.push { cls:=.type "tuple",data:=.seq ((items.toList.drop (aW items.size 0 lo)).take (aW items.size items.size hi - aW items.size 0 lo)).toArray } })
  (hsz:items.size<=sizeLine):wpAny (model prog w) A (getItem (.ref t) (.ref sl)) Q E s:=by
 have htake:sizeOk (.seq ((items.toList.drop (aW items.size 0 lo)).take (aW items.size items.size hi - aW items.size 0 lo)).toArray):=by
  show ((items.toList.drop (aW items.size 0 lo)).take (aW items.size items.size hi - aW items.size 0 lo)).toArray.size<=sizeLine
  rw [aU2,aZ6,aZ8,aX3]
  omega
 have hj:aW items.size items.size hi<=items.size:=ag8 _ _ (aT2 _) hi
 obtain ⟨os,hos,hcs,hds⟩:=id hs
 have hTs:s.TypeIs (.ref sl) "slice":=⟨os,hos,hcs⟩
 unfold getItem
 try with_reducible refine be0 ?_
 first | refine aS6 (aT6 ?_) | skip
 refine aS6 (wpAny_sequenceKey ht.typeIs (by decide) ?_)
 refine aS6 (ba7 (name:=Str.ofString "__getitem__") ht.typeIs bd4
  (bb1 bd4 ht.typeIs entry_tuple_getitem ?_ (args_tuple_getitem _ _)))
 show wpAny _ _ (Builtin.Tuple.tupleItemsOf (.ref t) >>= _) _ _ s
 refine aS6 (tupleItemsOf_ ht ?_)
 refine aS6 (wpAny_typeOf hTs ?_)
 rw [if_pos (by decide)]
 refine aS6 (yQ hs pl pu ?_)
 have hno : ¬ ((((aW items.size 0 lo:Nat):Int) == 0 && (1:Int) == 1 && (aW items.size items.size hi - aW items.size 0 lo) == items.size)=true):=by
  intro q
  rw [aX1,aX1] at q
  have q1:((aW items.size 0 lo:Nat):Int)=0:=eq_of_beq q.1.1
  have q2:aW items.size items.size hi - aW items.size 0 lo=items.size:=eq_of_beq q.2
  exact hw ⟨by omega,by omega⟩
 show wpAny _ _ (if (((aW items.size 0 lo:Nat):Int) == 0 && (1:Int) == 1 && (aW items.size items.size hi - aW items.size 0 lo) == items.size)=true then _ else _) _ _ s
 rw [if_neg hno,ah1]
 first
  | exact aS6 (m:=Builtin.Tuple.tupleExact _) (aY2 (aT6 ⟨_,rfl,aT6 h⟩) htake)
  | exact aS6 (m:=Builtin.Tuple.tupleExact _) (aY2 (aS6 (aT6 (aT6 ⟨_,rfl,aT6 h⟩))) htake)
  | exact aS6 (aS6 (m:=Builtin.Tuple.tupleExact _) (aY2 (aT6 (aT6 ⟨_,rfl,aT6 h⟩)) htake))
  | exact aS6 (aS6 (m:=Builtin.Tuple.tupleExact _) (aY2 (aT6 ⟨_,rfl,aT6 h⟩) htake))
end
end HT
namespace L2
open PySem PySem.Spec PyProof.Rows
noncomputable abbrev TO:=St->Hp->(Option Int->Hp->Prop)->Prop
noncomputable def PO (X:Cx) (e:Option Expr) (t:TO):Prop:=
 ∀ (pins:List (Addr × Obj)) (s:Shared) (σ:St) (H:Hp) (Q:Option Int->Hp->Prop),a6 X pins σ H s->t σ H Q->
  wpAny (model X.prog X.w) X.A (evalPart e X.env) (fun u s'=>∃ o H',a6 X pins σ H' s'/\IsPart u o/\Q o H') X.xe s
noncomputable def ah3:TO:=fun _ H Q=>Q none H
noncomputable def ah4 (t:TE):TO:=fun σ H Q=>t σ H fun x H1=>∃ i,x = .int i/\Q (some i) H1
theorem pC {ns:List Int}:∀ {us:List Value},aI (ns.map V.int) us->IntsAre us ns:=by
 induction ns with
 | nil=>intro us r; rw [List.map_nil] at r; cases r; exact .nil
 | cons n ns ih=>
  intro us r
  rw [aV5] at r
  cases r with
  | cons r1 r2=>
   obtain ⟨t,e⟩:=r1
   subst e
   exact .cons n t (ih r2)
section
variable {X : Cx} {e : Expr} {te : TE} {lo hi : Option Expr} {tl th : TO} {pos p2 : Pos}
theorem t4:PO X none ah3:=by
 intro pins s σ H Q I h
 rw [evalPart_none]
 exact aT6 ⟨none,H,I,.none,h⟩
theorem t5 (h:PE X e te):PO X (some e) (ah4 te):=by
 intro pins s σ H Q I hw
 rw [evalPart_some]
 refine aO (h pins s σ H _ I hw) fun u s1 ⟨x,H1,I1,r1,q1⟩=>?_
 obtain ⟨i,rfl,q⟩:=q1
 obtain ⟨t,rfl⟩:=r1
 exact⟨some i,H1,I1,.int i t,q⟩
noncomputable def jR (X:Cx) (r:V->Option Int->Option Int->Hp->VK->Prop):Prop:=
 ∀ (pins:List (Addr × Obj)) (s:Shared) (σ:St) (H:Hp) (x:V) (v vl vu:Value) (lo hi:Option Int) (sl:Addr) (Q:VK),a6 X pins σ H s->b4 x v->s.heap.IsSliceOf sl vl vu .none->IsPart vl lo->IsPart vu hi->r x lo hi H Q->
  ∃ T id,typeLookup (.type T) "__getitem__" = pure (some (.builtin id))/\s.TypeIs v T/\wpAny (model X.prog X.w) X.A (getItem v (.ref sl)) (EP X pins σ Q) X.xe s
theorem jR.or {r r':V->Option Int->Option Int->Hp->VK->Prop} (h:jR X r) (h':jR X r'):jR X (fun x lo hi H Q=>r x lo hi H Q ∨ r' x lo hi H Q):=by
 intro pins s σ H x v vl vu lo hi sl Q I rx hs pl pu q
 rcases q with q | q
 ·exact h pins s σ H x v vl vu lo hi sl Q I rx hs pl pu q
 ·exact h' pins s σ H x v vl vu lo hi sl Q I rx hs pl pu q
noncomputable def tSl (r:V->Option Int->Option Int->Hp->VK->Prop) (te:TE) (tl th:TO):TE:=fun σ H Q=>te σ H fun x H1=>tl σ H1 fun l H2=>th σ H2 fun u H3=>r x l u H3 Q
theorem t6 {r:V->Option Int->Option Int->Hp->VK->Prop} (hr:jR X r) (he:PE X e te) (hl:PO X lo tl) (hu:PO X hi th):PE X (.Subscript e (.Slice lo hi none p2) pos) (tSl r te tl th):=by
 intro pins s σ H Q I h
 refine Subscript_ (aO (he pins s σ H _ I h) fun v s1 ⟨x,H1,I1,r1,q1⟩=>?_)
 refine wpAny_Slice (aO (hl pins s1 σ H1 _ I1 q1) fun vl s2 ⟨l,H2,I2,pl,q2⟩=>aO (hu pins s2 σ H2 _ I2 q2) fun vu s3 ⟨u,H3,I3,pu,q3⟩=>?_)
 rw [evalPart_none]
 refine aT6 ?_
 have I4:a6 X pins σ H3 { s3 with heap:=s3.heap.push { cls:=.type "slice",data:=.fields #[vl,vu,.none] } }:=I3.kept (t':=s3.toks) fun b ob q=>aS7 _ q
 obtain ⟨T,id,hT,ht,hg⟩:=hr pins { s3 with heap:=s3.heap.push { cls:=.type "slice",data:=.fields #[vl,vu,.none] } } σ H3 x v vl vu l u s3.heap.objs.size Q I4 r1 (Heap.IsSliceOf.new ..) pl pu q3
 show wpAny (model X.prog X.w) X.A (subscriptTail e (.Slice lo hi none p2) v (.ref s3.heap.objs.size)) (EP X pins σ Q) X.xe { s3 with heap:=s3.heap.push { cls:=.type "slice",data:=.fields #[vl,vu,.none] } }
 exact tail_any (ops:=[.ref s3.heap.objs.size,v]) ht hT hg (by with_unfolding_all rfl)
noncomputable def dP (xs:List V) (lo hi:Option Int):List V:=(xs.drop (HT.aW xs.length 0 lo)).take (HT.aW xs.length xs.length hi - HT.aW xs.length 0 lo)
theorem yR (xs:List V) (lo hi:Option Int):(dP xs lo hi).length<=xs.length:=by
 unfold dP
 rw [aZ6,aZ8]
 omega
noncomputable def ah5 (K:PySem.W.Frag):V->Option Int->Option Int->Hp->VK->Prop:=fun x lo hi H Q=>∃ a xs,x = .ref a/\aQ K H a xs/\
 ¬ (HT.aW xs.length 0 lo=0/\HT.aW xs.length xs.length hi=xs.length)/\∀ p,H p=none->Q (.ref p) (upd H p (.tup (dP xs lo hi)))
theorem ah6:jR X (ah5 X.K):=by
 intro pins s σ H x v vl vu lo hi sl Q I rx hs pl pu h
 obtain ⟨a,xs,rfl,hx,hw,q⟩:=h
 cases rx
 obtain ⟨its,r,ht,hz⟩:=I.tuple hx
 have hlen:its.toArray.size=xs.length:=by rw [aU2]; exact r.length.symm
 refine⟨"tuple",_,PyProof.Rows.slot_tuple_getitem.lookup,ht.typeIs,?_⟩
 refine HT.ah2 ht hs pl pu (by rw [hlen]; exact hw) ?_ (by rw [hlen]; exact hz)
 rw [hlen]
 refine⟨.ref s.heap.objs.size,_,I.laid (t':=s.toks) (o:=.tup (dP xs lo hi)) (fun b ob q=>aS7 _ q) (aT2 _) ?_,rfl,q _ (I.hok.fresh (aT2 _))⟩
 exact⟨aX5 (yR xs lo hi) hz,_,(r.drop (HT.aW xs.length 0 lo)).take (HT.aW xs.length xs.length hi - HT.aW xs.length 0 lo),IsTup.new _ _,iC.new _ _ rfl⟩
end
noncomputable def fL (n:Nat) (i:Int):Option Nat:=if 0<=i then (if i < n then some i.toNat else none) else if -(n:Int)<=i then some (i+n).toNat else none
noncomputable def atI {α:Type} (xs:List α) (i:Int):Option α:=(fL xs.length i).bind fun j=>xs[j]?
theorem yT {n:Nat}{i:Int}{j:Nat} (h:fL n i=some j):seqIndex? i n=some j/\j < n/\-(n:Int)<=i/\i < n:=by
 unfold fL at h
 by_cases h0:0<=i
 ·rw [if_pos h0] at h
  by_cases h1:i < n
  ·rw [if_pos h1] at h
   have e:i.toNat=j:=aV2 h
   exact⟨by rw [seqIndex_of h0 h1,e],by omega,by omega,h1⟩
  ·rw [if_neg h1] at h; cases h
 ·rw [if_neg h0] at h
  by_cases h1 : -(n:Int)<=i
  ·rw [if_pos h1] at h
   have e:(i+n).toNat=j:=aV2 h
   exact⟨by rw [seqIndex_neg (by omega) h1,e],by omega,h1,by omega⟩
  ·rw [if_neg h1] at h; cases h
theorem t7 {α:Type}{xs:List α}{i:Int}{v:α} (h:atI xs i=some v):∃ j,seqIndex? i xs.length=some j/\xs[j]? = some v/\j < xs.length/\-(xs.length:Int)<=i/\i < xs.length:=by
 unfold atI at h
 cases e:fL xs.length i with
 | none=>rw [e] at h; cases h
 | some j=>
  rw [e] at h
  obtain ⟨h1,h2,h3,h4⟩:=yT e
  exact⟨j,h1,h,h2,h3,h4⟩
theorem kD {α:Type}{xs:List α}{j:Nat}{v:α} (h:xs[j]? = some v):atI xs (j:Int)=some v:=by
 have hj:j < xs.length:=(aT3.mp h).1
 have e:fL xs.length (j:Int)=some j:=by
  unfold fL
  rw [if_pos (by omega),if_pos (by omega)]; simp
 unfold atI; rw [e]; exact h
noncomputable def yU (b:Expr):Prop:=∀ o i,subscripted b false o i=operate [o,i] (getItem o i)
noncomputable def iQ (X:Cx) (r:R2):Prop:=
 ∀ (value slice:Expr) (pins:List (Addr × Obj)) (s:Shared) (σ:St) (H:Hp) (x y:V) (v u:Value) (Q:VK),a6 X pins σ H s->b4 x v->b4 y u->r x y H Q->
  subscripted slice false v u=operate [v,u] (getItem v u)->wpAny (model X.prog X.w) X.A (subscriptTail value slice v u) (EP X pins σ Q) X.xe s
noncomputable def yV (X:Cx) (id:String) (r:V->List V->Hp->VK->Prop):Prop:=
 ∀ (pins:List (Addr × Obj)) (s:Shared) (σ:St) (H:Hp) (x:V) (xs:List V) (v:Value) (us:List Value) (Q:VK),a6 X pins σ H s->b4 x v->aI xs us->r x xs H Q->
  wpAny (model X.prog X.w) X.A (call (.builtin id) (v :: us)) (EP X pins σ Q) X.xe s
section
variable {X : Cx} {a b : Expr} {ta tb : TE} {pos : Pos}
theorem iQ.or {r r':R2} (h:iQ X r) (h':iQ X r'):iQ X (fun x y H Q=>r x y H Q ∨ r' x y H Q):=by
 intro value slice pins s σ H x y v u Q I rx ry q hs
 rcases q with q | q
 ·exact h value slice pins s σ H x y v u Q I rx ry q hs
 ·exact h' value slice pins s σ H x y v u Q I rx ry q hs
theorem iR {r:R2} (hr:iQ X r) (ha:PE X a ta) (hb:PE X b tb) (hs:yU b):PE X (.Subscript a b pos) (mU r ta tb):=by
 intro pins s σ H Q I h
 exact Subscript_ (sM ha hb I h fun v u s2 x y H2 I2 rx ry q=>hr a b pins s2 σ H2 x y v u Q I2 rx ry q (hs _ _))
noncomputable def yW (K:PySem.W.Frag):R2:=fun x y H Q=>∃ p xs i v,x = .ref p/\y = .int i/\aJ K H p xs/\atI xs i=some v/\Q v H
noncomputable def yX (K:PySem.W.Frag):R2:=fun x y H Q=>∃ p xs i v,x = .ref p/\y = .int i/\aQ K H p xs/\atI xs i=some v/\Q v H
noncomputable def yY:R2:=fun x y H Q=>∃ z i c,x = .str z/\y = .int i/\z.length<=sizeLine/\atI z.cps.toList i=some c/\Q (.str ⟨#[c]⟩) H
theorem mZ:iQ X (yW X.K):=by
 intro value slice pins s σ H x y v u Q I rx ry h hs
 obtain ⟨p,xs,i,z,rfl,rfl,hq,he,q⟩:=h
 cases rx
 obtain ⟨t,rfl⟩:=ry
 obtain ⟨its,r,pl,hz⟩:=I.list hq
 obtain ⟨j,h1,h2,h3,h4,h5⟩:=t7 he
 obtain ⟨w,ew,rw'⟩:=r.get h2
 have hl:=r.length
 have hn:=lI
 have fin:EP X pins σ Q w s:=⟨z,H,I,rw',q⟩
 by_cases h0:0<=i
 ·have hj:i.toNat=j:=by
   rw [seqIndex_of h0 h5] at h1
   exact aV2 h1
  exact item_listR pl.isList h0 (by omega) (by rw [hj]; simpa using ew) fin hs
 ·have hj:(i+(its.toArray.size:Int)).toNat=j:=by
   rw [seqIndex_neg (by omega) h4] at h1
   rw [aU2,<- hl]
   exact aV2 h1
  exact subscriptTail_builtinR (x:=w) pl.isList.typeIs slot_list_getitem.lookup
   (wpAny_getItem_list_neg (Q:=fun r s'=>r=w/\EP X pins σ Q r s') pl.isList (by omega) (by rw [aU2] <;> omega) (by omega) (by rw [hj]; simpa using ew) ⟨rfl,fin⟩) hs
theorem nA:iQ X (yX X.K):=by
 intro value slice pins s σ H x y v u Q I rx ry h hs
 obtain ⟨p,xs,i,z,rfl,rfl,hq,he,q⟩:=h
 cases rx
 obtain ⟨t,rfl⟩:=ry
 obtain ⟨its,r,pl,hz⟩:=I.tuple hq
 obtain ⟨j,h1,h2,h3,h4,h5⟩:=t7 he
 obtain ⟨w,ew,rw'⟩:=r.get h2
 have hl:=r.length
 have hn:=lI
 have fin:EP X pins σ Q w s:=⟨z,H,I,rw',q⟩
 exact subscriptTail_builtinR (x:=w) pl.typeIs slot_tuple_getitem.lookup
  (getItem_tuple (j:=j) (Q:=fun r s'=>r=w/\EP X pins σ Q r s') pl (by omega) (by omega) (by rw [aU2,<- hl]; exact h1) (by simpa using ew) ⟨rfl,fin⟩) hs
theorem ah7:iQ X yY:=by
 intro value slice pins s σ H x y v u Q I rx ry h hs
 obtain ⟨z,i,c,rfl,rfl,hz,he,q⟩:=h
 obtain ⟨t,rfl⟩:=rx
 obtain ⟨t',rfl⟩:=ry
 obtain ⟨j,h1,h2,h3,h4,h5⟩:=t7 he
 have hl:z.cps.toList.length=z.length:=by simp [Str.length]
 rw [hl] at h1 h4 h5
 have hn:=lI
 exact tail_any (typeIs_str s z t) slot_str_getitem.lookup (getItem_str (c:=c) (by
  have e1:decide (i < -(2 ^ 63:Int))=false:=aT8 (by omega)
  have e2:decide (i >= 2 ^ 63)=false:=aT8 (by omega)
  rw [e1,e2,Bool.or_false]) (by rw [h1]; simpa using h2) ⟨.str ⟨#[c]⟩,H,I.tok _,⟨_,rfl⟩,q⟩) hs
noncomputable def yZ (K:PySem.W.Frag):R2:=fun x y H Q=>yW K x y H Q ∨ yX K x y H Q ∨ yY x y H Q
theorem ah8:iQ X (yZ X.K):=mZ.or (nA.or ah7)
theorem ah9 (its:List Value) (n j:Nat) (u:Value):Obj.mapSeq (·.setIfInBounds j u) { cls:=.type "list",data:=.seq its.toArray n }={ cls:=.type "list",data:=.seq (its.set j u).toArray n }:=by
 simp [Obj.mapSeq]
theorem a6.lst {pins:List (Addr × Obj)}{σ:St}{H:Hp}{s:Shared}{p:Addr}{xs:List V} (I:a6 X pins σ H s) (h:H p=some (.lst xs)) :
  ∃ (its:List Value) (n:Nat),aI xs its/\s.heap.get? p=some { cls:=.type "list",data:=.seq its.toArray n }/\xs.length<=sizeLine:=by
 obtain ⟨z,its,n,r,e⟩:=I.hok p _ h
 exact⟨its,n,r,e,z⟩
theorem a6.lstUpd {pins:List (Addr × Obj)}{σ:St}{H:Hp}{s:Shared}{p:Addr}{xs ys:List V}{its its':List Value}{n n':Nat}{f:Obj->Obj} (I:a6 X pins σ H s) (h:H p=some (.lst xs))
  (ho:s.heap.get? p=some { cls:=.type "list",data:=.seq its.toArray n }) (hf:f { cls:=.type "list",data:=.seq its.toArray n }={ cls:=.type "list",data:=.seq its'.toArray n' }) (r:aI ys its') (hz:ys.length<=sizeLine) (t:Nat) :
  a6 X pins σ (upd H p (.lst ys)) { s with heap:=s.heap.update p f,toks:=t }:=by
 have e:(s.heap.update p f).get? p=some { cls:=.type "list",data:=.seq its'.toArray n' }:=by
  rw [Heap.get?_update_self f ho (by rw [hf] <;> rfl),hf]
 refine I.write (x:=p) (e:=p) (by rw [h]; trivial) (.inl rfl) (fun b u hb q=>(Heap.get?_update_other _ _ (Ne.symm hb)).trans q) ⟨_,e⟩ ?_
 exact⟨hz,its',n',r,e⟩
noncomputable def t8:V->V->V->Hp->(Hp->Prop)->Prop:=fun o i v H Q=>∃ p xs k j,o = .ref p/\i = .int k/\H p=some (.lst xs)/\fL xs.length k=some j/\Q (upd H p (.lst (xs.set j v)))
theorem ai0:xI X t8:=by
 intro pins s σ H o i v ov iv u Q I ro ri rv h
 obtain ⟨p,xs,k,j,rfl,rfl,hp,hj,q⟩:=h
 cases ro
 obtain ⟨t,rfl⟩:=ri
 obtain ⟨its,n,r,ho,hz⟩:=I.lst hp
 obtain ⟨h1,h2,h3,h4⟩:=yT hj
 have hl:=r.length
 have hn:=lI
 have I':a6 X pins σ (upd H p (.lst (xs.set j v))) { s with heap:=s.heap.update p (Obj.mapSeq (·.setIfInBounds j u)) }:=
  I.lstUpd hp ho (ah9 its n j u) (r.set rv j) (by rw [aX4]; exact hz) s.toks
 by_cases h0:0<=k
 ·have hk:k.toNat=j:=by
   rw [seqIndex_of h0 h4] at h1
   exact aV2 h1
  exact PySem.W.ki_setAt ho h0 (by omega) (by rw [aU2,<- hl]; exact h4) (by rw [hk]; exact⟨_,I',q⟩)
 ·have hk:(k+(its.toArray.size:Int)).toNat=j:=by
   rw [seqIndex_neg (by omega) h3] at h1
   rw [aU2,<- hl]
   exact aV2 h1
  exact PySem.W.ki_setBack ho (by omega) (by rw [aU2,<- hl]; exact h3) (by omega) (by rw [hk]; exact⟨_,I',q⟩)
theorem ai1 (lo hi:Option Int) (n:Nat):(sliceBounds lo hi none n).1=((HT.aW n 0 lo:Nat):Int)/\(sliceBounds lo hi none n).2.1=((HT.aW n n hi:Nat):Int)/\(sliceBounds lo hi none n).2.2=1:=by
 refine⟨?_,?_,rfl⟩
 ·cases lo with
  | none=>simp [sliceBounds,HT.aW]
  | some i=>
   simp only [sliceBounds,HT.aW,Option.getD_none,show (1:Int) > 0 by decide,if_true]
   by_cases h:i < 0
   ·simp only [h,if_true] <;> omega
   ·simp only [h,aZ7] <;> omega
 ·cases hi with
  | none=>simp [sliceBounds,HT.aW]
  | some i=>
   simp only [sliceBounds,HT.aW,Option.getD_none,show (1:Int) > 0 by decide,if_true]
   by_cases h:i < 0
   ·simp only [h,if_true] <;> omega
   ·simp only [h,aZ7] <;> omega
theorem ai2 (its:List Value) (lo hi:Option Int):slicePick its.toArray lo hi none=((its.drop (HT.aW its.length 0 lo)).take (HT.aW its.length its.length hi - HT.aW its.length 0 lo)).toArray:=by
 obtain ⟨h1,h2,h3⟩:=ai1 lo hi its.toArray.size
 unfold slicePick
 rw [h1,h2,h3]
 simp only [sliceRange_one,pick_run,aU2] <;> rfl
noncomputable def ai3 (K:PySem.W.Frag):V->Option Int->Option Int->Hp->VK->Prop:=fun x lo hi H Q=>∃ a xs,x = .ref a/\aJ K H a xs/\∀ p,H p=none->Q (.ref p) (upd H p (.lst (dP xs lo hi)))
theorem z9:jR X (ai3 X.K):=by
 intro pins s σ H x v vl vu lo hi sl Q I rx hs pl pu h
 obtain ⟨a,xs,rfl,hx,q⟩:=h
 cases rx
 obtain ⟨its,r,ht,hz⟩:=I.list hx
 have hlen:=r.length
 refine⟨"list",_,slot_list_getitem.lookup,ht.isList.typeIs,?_⟩
 refine wpAny_getItem_list_slice ht.isList hs pl pu .none (by simp) ?_ (by rw [aU2] <;> omega)
 rw [ai2,<- hlen]
 refine⟨.ref s.heap.objs.size,_,I.laid (t':=s.toks) (o:=.lst (dP xs lo hi)) (fun b ob q=>aS7 _ q) (aT2 _) ?_,rfl,q _ (I.hok.fresh (aT2 _))⟩
 exact⟨aX5 (yR xs lo hi) hz,_,0,(r.drop (HT.aW xs.length 0 lo)).take (HT.aW xs.length xs.length hi - HT.aW xs.length 0 lo),aU9 _ rfl⟩
noncomputable def iS:V->Bool
 | .non=>true
 | .bl _=>true
 | .int _=>true
 | .str _=>true
 | _=>false
noncomputable def gV:V->V->Bool
 | .non,.non=>true
 | .bl a,.bl b=>a == b
 | .bl a,.int b=>(if a then 1 else 0) == b
 | .int a,.bl b=>a == (if b then 1 else 0)
 | .int a,.int b=>a == b
 | .str a,.str b=>a == b
 | _,_=>false
theorem ai4 {A:Around}{s:Shared}{y x:V}{u v:Value} (ry:b4 y u) (rx:b4 x v) (fy:iS y=true) (fx:iS x=true):SeqAt.EqAt A s u v (gV y x):=by
 cases y with
 | non=>
  cases ry
  cases x with
  | non=>cases rx; exact SeqAt.EqAt.same _
  | bl b=>cases rx; exact SeqAt.EqAt.none_bool b
  | int b=>obtain ⟨t,rfl⟩:=rx; exact SeqAt.EqAt.none_int b t
  | str b=>obtain ⟨t,rfl⟩:=rx; exact SeqAt.EqAt.none_str b t
  | _=>exact absurd (show false=true from fx) aV1
 | bl a=>
  cases ry
  cases x with
  | non=>cases rx; exact SeqAt.EqAt.bool_none a
  | bl b=>cases rx; exact SeqAt.EqAt.bool_bool a b
  | int b=>obtain ⟨t,rfl⟩:=rx; exact SeqAt.EqAt.bool_int a b t
  | str b=>obtain ⟨t,rfl⟩:=rx; exact SeqAt.EqAt.bool_str a b t
  | _=>exact absurd (show false=true from fx) aV1
 | int a=>
  obtain ⟨t',rfl⟩:=ry
  cases x with
  | non=>cases rx; exact SeqAt.EqAt.int_none a t'
  | bl b=>cases rx; exact SeqAt.EqAt.int_bool a t' b
  | int b=>obtain ⟨t,rfl⟩:=rx; exact SeqAt.EqAt.int_int a t' b t
  | str b=>obtain ⟨t,rfl⟩:=rx; exact SeqAt.EqAt.int_str a t' b t
  | _=>exact absurd (show false=true from fx) aV1
 | str a=>
  obtain ⟨t',rfl⟩:=ry
  cases x with
  | non=>cases rx; exact SeqAt.EqAt.str_none a t'
  | bl b=>cases rx; exact SeqAt.EqAt.str_bool a t' b
  | int b=>obtain ⟨t,rfl⟩:=rx; exact SeqAt.EqAt.str_int a t' b t
  | str b=>obtain ⟨t,rfl⟩:=rx; exact SeqAt.EqAt.str_str a t' b t
  | _=>exact absurd (show false=true from fx) aV1
 | _=>exact absurd (show false=true from fy) aV1
noncomputable def iT (x:V) (u:Value):Bool:=match u with
 | .none=>gV .non x
 | .bool b=>gV (.bl b) x
 | .int i _=>gV (.int i) x
 | .str z _=>gV (.str z) x
 | _=>false
theorem zA {x y:V}{u:Value} (r:b4 y u) (f:iS y=true):iT x u=gV y x:=by
 cases y with
 | non=>cases r; rfl
 | bl b=>cases r; rfl
 | int i=>obtain ⟨t,rfl⟩:=r; rfl
 | str z=>obtain ⟨t,rfl⟩:=r; rfl
 | _=>exact absurd (show false=true from f) aV1
theorem t9 {x:V}:∀ {xs:List V}{us:List Value},aI xs us->xs.all iS=true->us.any (iT x)=xs.any fun y=>gV y x
 | _,_,.nil,_=>rfl
 | y :: xs,u :: us,.cons r t,f=>by
  rw [List.all_cons,aX1] at f
  rw [bf4,bf4,zA r f.1,t9 t f.2]
theorem tD {A:Around}{s:Shared}{x:V}{v:Value} (rx:b4 x v) (fx:iS x=true):∀ {xs:List V}{us:List Value},aI xs us->xs.all iS=true->∀ u ∈ us,SeqAt.EqAt A s u v (iT x u)
 | _,_,.nil,_=>fun u hu=>by cases hu
 | y :: xs,u :: us,.cons r t,f=>fun u' hu=>by
  rw [List.all_cons,aX1] at f
  rcases aU0.mp hu with rfl | hu
  ·rw [zA r f.1]; exact ai4 r rx f.1 fx
  ·exact tD rx fx t f.2 u' hu
noncomputable def nB (x:V) (xs:List V):Bool:=xs.any fun y=>gV y x
noncomputable def zB (K:PySem.W.Frag) (neg:Bool):R2:=fun x y H Q=>∃ p xs,y = .ref p/\(aJ K H p xs ∨ aQ K H p xs)/\iS x=true/\xs.all iS=true/\Q (.bl (if neg then !nB x xs else nB x xs)) H
theorem ai5:cE X (compareOp .In) (zB X.K false):=by
 intro pins s σ H x y v u Q I rx ry h
 obtain ⟨p,xs,rfl,hq,fx,fs,q⟩:=h
 cases ry
 rcases hq with hq | hq
 ·obtain ⟨its,r,pl,hz⟩:=I.list hq
  refine SeqAt.in_listAt (iT x) pl.isList (fun w hw=>tD rx fx r fs w (by simpa using hw)) ⟨.bl _,H,I,rfl,?_⟩
  rw [show its.toArray.any (iT x)=its.any (iT x) by simp,t9 r fs]
  exact q
 ·obtain ⟨its,r,pl,hz⟩:=I.tuple hq
  refine SeqAt.in_tupleAt (iT x) pl (fun w hw=>tD rx fx r fs w (by simpa using hw)) ⟨.bl _,H,I,rfl,?_⟩
  rw [show its.toArray.any (iT x)=its.any (iT x) by simp,t9 r fs]
  exact q
theorem ai6:cY X (.builtin "len") (fun xs H Q=>∃ p ys,xs = [.ref p]/\(aJ X.K H p ys ∨ aQ X.K H p ys)/\Q (.int ys.length) H):=by
 intro pins s σ H xs us Q I r h
 obtain ⟨p,ys,rfl,hq,q⟩:=h
 obtain ⟨u,rfl,rx⟩:=gT r
 cases rx
 have hn:=lI
 rcases hq with hq | hq
 ·obtain ⟨its,r',pl,hz⟩:=I.list hq
  have hlen:=r'.length
  exact Calls.call_len_list pl.isList (by simp only [aU2] <;> omega) ⟨.int ys.length,H,I.tok _,⟨s.toks+1,by rw [aU2,hlen]⟩,q⟩
 ·obtain ⟨its,r',pl,hz⟩:=I.tuple hq
  have hlen:=r'.length
  exact len_tuple pl (by simp only [aU2] <;> omega) ⟨.int ys.length,H,I.tok _,⟨s.toks+1,by rw [aU2,hlen]⟩,q⟩
theorem cY.or {f:Value}{r r':List V->Hp->VK->Prop} (h:cY X f r) (h':cY X f r'):cY X f (fun xs H Q=>r xs H Q ∨ r' xs H Q):=by
 intro pins s σ H xs us Q I rs q
 rcases q with q | q
 ·exact h pins s σ H xs us Q I rs q
 ·exact h' pins s σ H xs us Q I rs q
theorem ai7:cY X (.type "tuple") (fun xs H Q=>∃ p ys,xs = [.ref p]/\((aJ X.K H p ys/\∀ l,H l=none->Q (.ref l) (upd H l (.tup ys))) ∨ (aQ X.K H p ys/\Q (.ref p) H))):=by
 intro pins s σ H xs us Q I r h
 obtain ⟨p,ys,rfl,h⟩:=h
 obtain ⟨u,rfl,rx⟩:=gT r
 cases rx
 rcases h with ⟨hq,q⟩ | ⟨hq,q⟩
 ·obtain ⟨its,r',pl,hz⟩:=I.list hq
  have hlen:=r'.length
  refine call_tuple_list pl.isList (fun h' kp=>?_) (by simp only [aU2] <;> omega)
  have I1:a6 X pins σ H { s with heap:=h' }:=I.kept (t':=s.toks) kp
  have I2:a6 X pins σ (upd H h'.objs.size (.tup ys)) { s with heap:=h'.push { cls:=.type "tuple",data:=.seq its.toArray } }:=
   I1.laid (t':=s.toks) (fun b o e=>aS7 _ e) (aT2 _) (show bY X.prog X.w _ _ _ (.tup ys) from ⟨hz,its,r',IsTup.new _ _,iC.new _ _ rfl⟩)
  exact⟨.ref h'.objs.size,_,I2,rfl,q _ (I1.hok.fresh (aT2 _))⟩
 ·obtain ⟨its,r',pl,hz⟩:=I.tuple hq
  exact call_tuple_same pl ⟨.ref p,H,I,rfl,q⟩
noncomputable def nC (K:PySem.W.Frag) (T:String) (x:V) (H:Hp):Prop:=match x with
 | .str _=>T="str"
 | .int _=>T="int"
 | .ref p=>(T="list"/\∃ xs,aJ K H p xs) ∨ (T="tuple"/\∃ o,K.lookup p=some o/\o.cls = .type "tuple"/\o.dict=none) ∨
   (T="dict"/\((∃ kvs,H p=some (.dK kvs)) ∨ ∃ kvs,H p=some (.dT kvs))) ∨ (T="set"/\∃ S n,H p=some (.set S n))
 | _=>False
theorem zC {pins:List (Addr × Obj)}{σ:St}{H:Hp}{s:Shared}{T:String}{x:V}{v:Value} (I:a6 X pins σ H s) (r:b4 x v) (ty:nC X.K T x H) :
  s.TypeIs v T/\∀ a,v = .ref a->∃ ob,s.heap.get? a=some ob/\ob.dict=none:=by
 cases x with
 | str z=>
  obtain ⟨t,rfl⟩:=r
  cases (show T="str" from ty)
  exact⟨typeIs_str s z t,fun _ e=>nomatch e⟩
 | int i=>
  obtain ⟨t,rfl⟩:=r
  cases (show T="int" from ty)
  exact⟨typeIs_int s i t,fun _ e=>nomatch e⟩
 | ref p=>
  cases r
  rcases ty with ⟨rfl,xs,hq⟩ | ⟨rfl,o,hk,hc,hd⟩ | ⟨rfl,hk⟩ | ⟨rfl,S,n,hk⟩
  ·obtain ⟨its,_,pl,_⟩:=I.list hq
   refine⟨pl.isList.typeIs,fun a e=>?_⟩
   cases e
   obtain ⟨o,n,e,c,hd,_⟩:=pl
   exact⟨o,e,hd⟩
  ·refine⟨⟨o,I.kIn p o hk,hc⟩,fun a e=>?_⟩
   cases e
   exact⟨o,I.kIn _ o hk,hd⟩
  ·have z:∃ o,s.heap.get? p=some o/\o.ExactDict:=by
    rcases hk with ⟨kvs,hk⟩ | ⟨kvs,hk⟩
    ·obtain ⟨_,_,_,_,o,_,_,e,ex,_⟩:=I.hok p _ hk
     exact⟨o,e,ex⟩
    ·obtain ⟨_,_,_,_,o,_,_,e,ex,_⟩:=I.hok p _ hk
     exact⟨o,e,ex⟩
   obtain ⟨o,e,ex⟩:=z
   refine⟨⟨o,e,ex.1⟩,fun a e2=>?_⟩
   cases e2
   exact⟨o,e,ex.2.1⟩
  ·obtain ⟨o,_,_,_,e,ex,_⟩:=I.hok p _ hk
   refine⟨⟨o,e,ex.1⟩,fun a e2=>?_⟩
   cases e2
   exact⟨o,e,ex.2.1⟩
 | _=>exact False.elim ty
noncomputable def zD (K:PySem.W.Frag) (T:String) (r:V->List V->Hp->VK->Prop) (to:TE):TE:=fun σ H Q=>to σ H fun x H1=>nC K T x H1/\r x [] H1 Q
noncomputable def pD (K:PySem.W.Frag) (T:String) (r:V->List V->Hp->VK->Prop) (to:TE) (t:TA):TE:=fun σ H Q=>to σ H fun x H1=>nC K T x H1/\t σ H1 fun xs H2=>r x xs H2 Q
variable {o e : Expr} {es : List Expr} {to : TE} {t : TA} {name : Str} {apos cpos : Pos} {T id : String} {r : V → List V → Hp → VK → Prop}
theorem ai8 (pa:PlainAttrs T) (slot:Slot T name id) (hty:typeOf (.builtin id)=pure (.type "method_descriptor")) (hm:yV X id r) (ho:PE X o to)
  (hbase:attributeBase o name X.env (eval o X.env)=eval o X.env:=by rfl) (hline:(apos.endLine == cpos.line)=true:=by rfl):PE X (.Call (.Attribute o name apos) [] [] cpos) (zD X.K T r to):=by
 intro pins s σ H Q I h
 refine wpAny_Call_method0_late hbase hline (aO (ho pins s σ H _ I h) fun v s1 ⟨x,H1,I1,r1,ty,q1⟩=>?_)
 obtain ⟨h1,h2⟩:=zC I1 r1 ty
 exact⟨T,id,pa,slot,hty,h1,h2,Calls.callWith_builtin rfl (PySem.evalArgs_none (hm pins s1 σ H1 x [] v [] Q I1 r1 .nil q1))⟩
theorem kE (pa:PlainAttrs T) (slot:Slot T name id) (hty:typeOf (.builtin id)=pure (.type "method_descriptor")) (hm:yV X id r) (ho:PE X o to) (ha:PA X (e :: es) t)
  (hbase:attributeBase o name X.env (eval o X.env)=eval o X.env:=by rfl)
  (hfew:((backTo cpos (starEach (e :: es) X.env)).all (fun x=>!x.1) && (backToKw cpos (keywordEach [] X.env)).all (fun x=>x.1.isSome)
   && decide ((e :: es).length+([]:List Keyword).length+(if ([]:List Keyword).isEmpty then 0 else 1) < 30))=true:=by rfl)
  (hline:(apos.endLine == cpos.line)=true:=by rfl) (hs:starEach (e :: es) X.env=(false,eval e X.env) :: starEach es X.env:=by rfl) (hplain:(backTo cpos (starEach es X.env)).any (·.1)=false:=by rfl) :
  PE X (.Call (.Attribute o name apos) (e :: es) [] cpos) (pD X.K T r to t):=by
 intro pins s σ H Q I h
 refine wpAny_Call_method_late hbase hfew hline rfl (aO (ho pins s σ H _ I h) fun v s1 ⟨x,H1,I1,r1,ty,q1⟩=>?_)
 obtain ⟨h1,h2⟩:=zC I1 r1 ty
 refine⟨T,id,pa,slot,hty,h1,h2,?_⟩
 have hA:=ha cpos pins s1 σ H1 _ I1 q1
 rw [hs] at hA ⊢
 refine Calls.callWith_builtin (by show (false || (backTo cpos (starEach es X.env)).any (·.1))=false; rw [hplain] <;> rfl) (Calls.evalArgs_plain ?_)
 exact aO hA fun us s2 ⟨vs,H2,I2,r2,q2⟩=>hm pins s2 σ H2 x vs v us Q I2 r1 r2 q2
end
noncomputable def lJ (X:Cx) (id:String) (r:V->List V->Hp->VK->Prop):Prop:=
 ∀ (pins:List (Addr × Obj)) (s:Shared) (σ:St) (H:Hp) (x:V) (xs:List V) (v:Value) (us:List Value) (Q:VK),a6 X pins σ H s->b4 x v->aI xs us->r x xs H Q->
  wpAny (model X.prog X.w) X.A (call (.builtin id) (v :: us)) (EP X pins σ Q) X.xe s
theorem aI.one {x:V}{us:List Value} (h:aI [x] us):∃ u,us = [u]/\b4 x u:=by
 cases h with
 | cons r t=>
  cases t
  exact⟨_,rfl,r⟩
theorem aI.two {x y:V}{us:List Value} (h:aI [x,y] us):∃ u v,us = [u,v]/\b4 x u/\b4 y v:=by
 cases h with
 | cons r t=>
  cases t with
  | cons q t=>
   cases t
   exact⟨_,_,rfl,r,q⟩
theorem aI.zero:∀ {us:List Value},aI [] us->us = []
 | _,.nil=>rfl
theorem aI.dropLast {xs:List V}{us:List Value} (h:aI xs us):aI xs.dropLast us.dropLast:=by
 induction h with
 | nil=>exact .nil
 | cons r t ih=>
  cases t with
  | nil=>exact .nil
  | cons q t'=>exact .cons r ih
theorem aI.eraseIdx:∀ {xs:List V}{us:List Value} (i:Nat),aI xs us->aI (xs.eraseIdx i) (us.eraseIdx i)
 | _,_,_,.nil=>.nil
 | _,_,0,.cons _ t=>t
 | _,_,i+1,.cons r t=>.cons r (aI.eraseIdx i t)
theorem aI.rep {xs:List V}{us:List Value} (h:aI xs us):∀ k:Nat,aI (List.replicate k xs).flatten (List.replicate k us).flatten
 | 0=>.nil
 | k+1=>by
  rw [aY8,aY8,bc9,bc9]
  exact aI.append h (aI.rep h k)
theorem ai9 {α:Type} (l:List α):l.eraseIdx (l.length - 1)=l.dropLast:=by
 induction l with
 | nil=>rfl
 | cons a r ih=>
  cases r with
  | nil=>rfl
  | cons b r=>
   have e:(a :: b :: r).length - 1=((b :: r).length - 1)+1:=by
    have h1:(a :: b :: r).length=r.length+2:=rfl
    have h2:(b :: r).length=r.length+1:=rfl
    omega
   rw [e,List.eraseIdx_cons_succ,ih]
   all_goals rfl
theorem zE (its:List Value):∀ (k:Nat) (acc:List Value),
  List.foldl (fun x1 x2=>x1 ++ x2) acc.toArray (List.replicate k its.toArray)=(acc ++ (List.replicate k its).flatten).toArray
 | 0,acc=>by simp
 | k+1,acc=>by
  have e:acc.toArray ++ its.toArray=(acc ++ its).toArray:=by simp
  have e2:(acc ++ its) ++ (List.replicate k its).flatten=acc ++ (List.replicate (k+1) its).flatten:=by
   rw [aY8,bc9,List.append_assoc]
  rw [<- e2,<- zE its k (acc ++ its),<- e,aY8,List.foldl_cons]
section
variable {X : Cx} {pins : List (Addr × Obj)} {σ : St} {H : Hp} {s : Shared} {l b : Addr} {xs ys zs : List V}
theorem a6.lset {its its':List Value}{n:Nat}{f:Array Value->Array Value}{t':Nat} (I:a6 X pins σ H s) (hH:H l=some (.lst xs))
  (e:s.heap.get? l=some { cls:=.type "list",data:=.seq its.toArray n }) (hf:f its.toArray=its'.toArray) (hv:aI ys its') (hz:ys.length<=sizeLine) :
  a6 X pins σ (upd H l (.lst ys)) { s with heap:=s.heap.update l (Obj.mapSeq f),toks:=t' }:=by
 have q:=PySem.IsL.update e f
 rw [hf] at q
 refine I.write (x:=l) (e:=l) (by rw [hH]; exact trivial) (.inl rfl) (fun b' u hb hu=>(Heap.get?_update_other s.heap (Obj.mapSeq f) (Ne.symm hb)).trans hu) ⟨_,q⟩ ?_
 exact⟨hz,its',_,hv,q⟩
theorem a6.lnew {its:List Value}{t':Nat} (I:a6 X pins σ H s) (hv:aI ys its) (hz:ys.length<=sizeLine) :
  a6 X pins σ (upd H s.heap.objs.size (.lst ys)) { s with heap:=s.heap.push { cls:=.type "list",data:=.seq its.toArray },toks:=t' }:=
 I.laid (fun _ _ q=>aS7 _ q) (aT2 _) ⟨hz,its,0,hv,aU9 _ rfl⟩
theorem a6.fresh (I:a6 X pins σ H s):H s.heap.objs.size=none:=I.hok.fresh (aT2 _)
theorem a6.lstM (I:a6 X pins σ H s) (hH:H l=some (.lst xs)):xs.length<=sizeLine/\∃ (its:List Value) (n:Nat),aI xs its/\xs.length=its.length/\s.heap.get? l=some { cls:=.type "list",data:=.seq its.toArray n }:=by
 obtain ⟨z,its,n,r,e⟩:=I.hok l _ hH
 exact⟨z,its,n,r,r.length,e⟩
theorem tE {n:Nat} (h:n<=sizeLine):Builtin.List.listTooLong n=false:=by
 unfold Builtin.List.listTooLong
 exact aT8 (by omega)
end
section
variable {X : Cx}
noncomputable def zF:V->List V->Hp->VK->Prop:=fun x vs H Q=>∃ l xs y,x = .ref l/\vs = [y]/\H l=some (.lst xs)/\xs.length < sizeLine/\Q .non (upd H l (.lst (xs ++ [y])))
theorem lK:lJ X "list.append" zF:=by
 intro pins s σ H x vs v us Q I rx rv h
 obtain ⟨l,xs,y,rfl,rfl,hH,hz,q⟩:=h
 cases rx
 obtain ⟨u,rfl,ru⟩:=rv.one
 obtain ⟨z,its,n,r,hl,e⟩:=I.lstM hH
 refine call_meets F.slot_list_append ⟨_,e,rfl⟩ F.entry_list_append (F.args_list_append_2 _ _) (PySem.list_append l its.toArray n u (by rw [aU2]; omega)) ⟨e,?_⟩
 refine⟨.non,_,I.lset (its':=its ++ [u]) hH e (by simp) (r.append (.cons ru .nil)) ?_,rfl,q⟩
 rw [aU6,aW5]
 omega
noncomputable def zG:V->List V->Hp->VK->Prop:=fun x vs H Q=>∃ l b xs zs,x = .ref l/\vs = [.ref b]/\H l=some (.lst xs)/\H b=some (.lst zs)/\xs.length+zs.length<=sizeLine/\Q .non (upd H l (.lst (xs ++ zs)))
theorem aj0:lJ X "list.extend" zG:=by
 intro pins s σ H x vs v us Q I rx rv h
 obtain ⟨l,b,xs,zs,rfl,rfl,hH,hB,hz,q⟩:=h
 cases rx
 obtain ⟨u,rfl,ru⟩:=rv.one
 cases ru
 obtain ⟨z,its,n,r,hl,e⟩:=I.lstM hH
 obtain ⟨z2,its2,n2,r2,hl2,e2⟩:=I.lstM hB
 have hsz:its.toArray.size+its2.toArray.size<=sizeLine:=by rw [aU2,aU2]; omega
 have hlong : ¬ (!its.toArray.isEmpty && Builtin.List.listTooLong (its.toArray.size+its2.toArray.size))=true:=by
  rw [tE hsz,Bool.and_false]
  exact aV1
 refine call_meets F.slot_list_extend ⟨_,e,rfl⟩ F.entry_list_extend (F.args_list_extend_2 _ _)
  (AutoSeq1.list_extend_list_list_0 l its.toArray n b its2.toArray n2 hlong (by rw [aU2]; omega) (by omega)) ⟨e,e2,?_⟩
 refine⟨.non,_,I.lset (its':=its ++ its2) hH e (by simp) (r.append r2) ?_,rfl,q⟩
 rw [aU6]
 omega
noncomputable def zH:V->List V->Hp->VK->Prop:=fun x vs H Q=>∃ l xs y,x = .ref l/\vs = []/\H l=some (.lst xs)/\xs[xs.length - 1]? = some y/\Q y (upd H l (.lst xs.dropLast))
theorem aj1:lJ X "list.pop" zH:=by
 intro pins s σ H x vs v us Q I rx rv h
 obtain ⟨l,xs,y,rfl,rfl,hH,hy,q⟩:=h
 cases rx
 have hus:=rv.zero
 subst hus
 obtain ⟨z,its,n,r,hl,e⟩:=I.lstM hH
 obtain ⟨u,hu,ru⟩:=r.get hy
 have hy':its.toArray[its.toArray.size - 1]? = some u:=by
  show its.toArray[its.length - 1]? = some u
  rw [<- Array.getElem?_toList,<- hl]
  exact hu
 refine call_meets F.slot_list_pop ⟨_,e,rfl⟩ F.entry_list_pop (F.args_list_pop_1 _) (MeetsSeq.list_pop_last l its.toArray n u hy' (by rw [aU2]; omega)) ⟨e,?_⟩
 refine⟨y,_,I.lset (its':=its.dropLast) hH e ?_ r.dropLast ?_,ru,q⟩
 ·show its.toArray.eraseIdxIfInBounds (its.toArray.size - 1)=its.dropLast.toArray
  rw [aU2,List.eraseIdxIfInBounds_toArray,ai9]
 ·rw [List.length_dropLast]
  omega
noncomputable def zI:R2:=fun x y H Q=>∃ l k xs,x = .ref l/\y = .int k/\H l=some (.lst xs)/\-(2 ^ 63)<=k/\k < 2 ^ 63/\xs.length * k.toNat<=sizeLine/\
 ∀ p,H p=none->Q (.ref p) (upd H p (.lst (List.replicate k.toNat xs).flatten))
theorem aj2 {α:Type} (xs:List α) (k:Nat):(List.replicate k xs).flatten.length=k * xs.length:=by
 induction k with
 | zero=>simp
 | succ k ih=>rw [aY8,bc9,aU6,ih,Nat.succ_mul,Nat.add_comm]
theorem aj3:cE X (binaryOp .Mult) zI:=by
 intro pins s σ H x y v u Q I rx ry h
 obtain ⟨l,k,xs,rfl,rfl,hH,h1,h2,hz,q⟩:=h
 cases rx
 obtain ⟨t,rfl⟩:=ry
 obtain ⟨z,its,n,r,hl,e⟩:=I.lstM hH
 have hlen:its.toArray.size * k.toNat<=sizeLine:=by rw [aU2,<- hl]; exact hz
 have hcap : ¬ its.toArray.size * k.toNat > (2 ^ 63 - 1) / 8:=by
  have:(sizeLine:Nat)<=(2 ^ 63 - 1) / 8:=by decide
  omega
 have hfit : ¬ (!Builtin.List.listFitsIndex k)=true:=by
  rw [fitsIndex_both h1 h2]
  exact aV1
 have hlong : ¬ Builtin.List.listTooLong (its.toArray.size * k.toNat)=true:=by
  rw [tE hlen]
  exact aV1
 have hnew:List.foldl (fun x1 x2=>x1 ++ x2) #[] (List.replicate (if its.toArray.isEmpty=true then 0 else k.toNat) its.toArray)=(List.replicate k.toNat its).flatten.toArray:=by
  have f0:∀ m:Nat,List.foldl (fun x1 x2=>x1 ++ x2) #[] (List.replicate m its.toArray)=(List.replicate m its).flatten.toArray:=fun m=>by
   have:=zE its m []
   rw [List.nil_append] at this
   exact this
  rw [f0]
  cases its with
  | nil=>simp
  | cons a r'=>rw [if_neg (by simp)]
 refine wpAny_binaryOp_repeat_ref (T:="list") (U:="int") (by decide) ⟨_,e,rfl⟩ (fun s'=>typeIs_int s' k t) noFill_list_mul F.fills_int_mul F.slot_int_rmul repeat_list F.slot_int_index.lookup
  (call_meets F.slot_int_rmul (typeIs_int s k t) F.entry_int_rmul (F.args_int_rmul_2 _ _) (int___rmul___int_list k t l its.toArray n)
   ⟨e,rfl,⟨_,e,rfl⟩,call_meets F.slot_list_mul ⟨_,e,rfl⟩ F.entry_list_mul (F.args_list_mul_2 _ _) (AutoListH.list___mul___list_int_3 l its.toArray n k t hfit hcap hlong) ⟨e,?_⟩⟩)
 rw [hnew]
 exact⟨.ref _,_,I.lnew (t':=s.toks) (r.rep k.toNat) (by rw [aj2,Nat.mul_comm]; exact hz),rfl,q _ I.fresh⟩
end
section
variable {κ : Type} [DecidableEq κ]
noncomputable def eZ (kvs:List (κ × V)) (k:κ):Option V:=(kvs.find? fun kv=>decide (kv.1=k)).map (·.2)
noncomputable def dR (kvs:List (κ × V)) (k:κ) (v:V):List (κ × V):=
 if (kvs.any fun kv=>decide (kv.1=k))=true then kvs.map (fun kv=>if kv.1=k then (kv.1,v) else kv) else kvs ++ [(k,v)]
theorem tF {p:κ × V}{r:List (κ × V)}{k:κ} (e:p.1=k):eZ (p :: r) k=some p.2:=by simp [eZ,bc2,e]
theorem tG {p:κ × V}{r:List (κ × V)}{k:κ} (e : ¬ p.1=k):eZ (p :: r) k=eZ r k:=by simp [eZ,bc2,e]
theorem zJ (k:κ):∀ kvs:List (κ × V),(kvs.any fun kv=>decide (kv.1=k))=(eZ kvs k).isSome
 | []=>rfl
 | p :: r=>by
  rw [bf4]
  by_cases e:p.1=k
  ·simp only [tF e,aT1 e,Bool.true_or,Option.isSome_some]
  ·rw [tG e,aT8 e,Bool.false_or]; exact zJ k r
theorem tH (kvs:List (κ × V)) (k:κ) (v:V):(dR kvs k v).length<=kvs.length+1:=by
 unfold dR
 split
 ·rw [aS9]; omega
 ·rw [aU6,aV8,List.length_nil]; omega
theorem lD.isSome_eq {o:Option V}{u:Option Value} (r:lD o u):o.isSome=u.isSome:=by
 cases o with
 | none=>cases u with
  | none=>rfl
  | some _=>exact (show False from r).elim
 | some _=>cases u with
  | none=>exact (show False from r).elim
  | some _=>rfl
theorem KV.val {kvs:List (κ × V)}{vs:List (κ × Value)} (r:KV kvs vs) (k:κ):lD (eZ kvs k) (valueAt vs k):=by
 unfold KV at r
 induction r with
 | nil=>exact True.intro
 | @cons p q ps qs h t ih=>
  obtain ⟨h1,h2⟩:=h
  by_cases e:p.1=k
  ·have e':q.1=k:=h1.symm.trans e
   have b:valueAt (q :: qs) k=some q.2:=by simp [valueAt,bc2,e']
   rw [tF e,b]; exact h2
  ·have e' : ¬ q.1=k:=fun z=>e (h1.trans z)
   have b:valueAt (q :: qs) k=valueAt qs k:=by simp [valueAt,bc2,e']
   rw [tG e,b]; exact ih
theorem KV.any {kvs:List (κ × V)}{vs:List (κ × Value)} (r:KV kvs vs) (k:κ):(kvs.any fun kv=>decide (kv.1=k))=vs.any fun kv=>decide (kv.1=k):=by
 unfold KV at r
 induction r with
 | nil=>rfl
 | cons h t ih=>rw [bf4,bf4,ih,h.1]
theorem KV.repl {kvs:List (κ × V)}{vs:List (κ × Value)} (r:KV kvs vs) (k:κ) {y:V}{u:Value} (ry:b4 y u) :
  KV (kvs.map fun kv=>if kv.1=k then (kv.1,y) else kv) (vs.map fun kv=>if kv.1=k then (kv.1,u) else kv):=by
 unfold KV at r ⊢
 induction r with
 | nil=>exact .nil
 | @cons p q ps qs h t ih=>
  rw [aV5,aV5]
  refine .cons ?_ ih
  obtain ⟨h1,h2⟩:=h
  by_cases e:p.1=k
  ·rw [if_pos e,if_pos (h1.symm.trans e)]; exact⟨h1,ry⟩
  ·rw [if_neg e,if_neg (fun z=>e (h1.trans z))]; exact⟨h1,h2⟩
theorem KV.put {kvs:List (κ × V)}{vs:List (κ × Value)} (r:KV kvs vs) (k:κ) {y:V}{u:Value} (ry:b4 y u):KV (dR kvs k y) (stored vs k u):=by
 unfold dR stored
 rw [r.any k]
 by_cases e:(vs.any fun kv=>decide (kv.1=k))=true
 ·rw [if_pos e,if_pos e]; exact r.repl k ry
 ·rw [if_neg e,if_neg e]; exact Paired.snoc r ⟨rfl,ry⟩
theorem KV.length {kvs:List (κ × V)}{vs:List (κ × Value)} (r:KV kvs vs):kvs.length=vs.length:=Paired.length r
end
theorem nD {P:Program}{w:World}{k:aG}{u:Value} (r:b4 (kV k) u):(eL P w).is k u=true:=by
 cases k with
 | inl i=>obtain ⟨t,e⟩:=(show ∃ t,u=Value.int i t from r); subst e; exact aa9 P w i t
 | inr x=>obtain ⟨t,e⟩:=(show ∃ t,u=Value.str x t from r); subst e; exact ab0 P w x t
theorem zK {P:Program}{w:World}:∀ {ks:List aG}{us:List Value},aI (ks.map kV) us->ItemsAre (eL P w) ks us
 | [],_,r=>by rw [List.map_nil] at r; cases r; exact .nil
 | k :: ks,_,r=>by
  rw [aV5] at r
  cases r with
  | cons h t=>exact .cons (nD h) (zK t)
noncomputable abbrev KT (H:Hp):List (List aG × V)->List (List aG × Addr × Value)->Prop:=Paired fun p q=>p.1=q.1/\H q.2.1=some (.tup (p.1.map kV))/\b4 p.2 q.2.2
theorem KT.val {H:Hp}{kvs:List (List aG × V)}{xs:List (List aG × Addr × Value)} (r:KT H kvs xs) (k:List aG):lD (eZ kvs k) ((atKey xs k).map (·.2)):=by
 induction r with
 | nil=>exact True.intro
 | @cons p q ps qs h t ih=>
  obtain ⟨h1,_,h2⟩:=h
  by_cases e:p.1=k
  ·have e':q.1=k:=h1.symm.trans e
   have b:atKey (q :: qs) k=some q.2:=by simp [atKey,bc2,e']
   rw [tF e,b]; exact h2
  ·have e' : ¬ q.1=k:=fun z=>e (h1.trans z)
   have b:atKey (q :: qs) k=atKey qs k:=by simp [atKey,bc2,e']
   rw [tG e,b]; exact ih
theorem KT.repl {H:Hp}{kvs:List (List aG × V)}{xs:List (List aG × Addr × Value)} (r:KT H kvs xs) (k:List aG) {y:V}{u:Value} (ry:b4 y u) :
  KT H (kvs.map fun kv=>if kv.1=k then (kv.1,y) else kv) (xs.map (putAt k u)):=by
 induction r with
 | nil=>exact .nil
 | @cons p q ps qs h t ih=>
  rw [aV5,aV5]
  refine .cons ?_ ih
  obtain ⟨h1,h2,h3⟩:=h
  unfold putAt
  by_cases e:p.1=k
  ·rw [if_pos e,if_pos (h1.symm.trans e)]; exact⟨h1,h2,ry⟩
  ·rw [if_neg e,if_neg (fun z=>e (h1.trans z))]; exact⟨h1,h2,h3⟩
theorem KT.put {H:Hp}{kvs:List (List aG × V)}{xs:List (List aG × Addr × Value)} (r:KT H kvs xs) (k:List aG) {b:Addr}{y:V}{u:Value} (hb:H b=some (.tup (k.map kV))) (ry:b4 y u) :
  KT H (dR kvs k y) (storedH xs k b u):=by
 have e:(kvs.any fun kv=>decide (kv.1=k))=(atKey xs k).isSome:=by
  rw [zJ,(r.val k).isSome_eq,Option.isSome_map]
 unfold dR storedH
 rw [e]
 by_cases q:(atKey xs k).isSome=true
 ·rw [if_pos q,if_pos q]; exact r.repl k ry
 ·rw [if_neg q,if_neg q]; exact Paired.snoc r ⟨rfl,hb,ry⟩
theorem KT.keeps {H H':Hp}{kvs:List (List aG × V)}{xs:List (List aG × Addr × Value)} (r:KT H kvs xs) (ht:∀ b ys,H b=some (.tup ys)->H' b=some (.tup ys)):KT H' kvs xs:=
 Paired.mapP r fun _ _ z=>⟨z.1,ht _ _ z.2.1,z.2.2⟩
section
variable {P : Program} {w : World} {H : Hp} {h : Heap} {a : Addr}
theorem zL {u:HO} (ok:bO P w H h) (e:Rd H a u):bY P w H h a u:=e.ok ok
theorem pE {kvs:List (aG × V)} (ok:bO P w H h) (e:Rd H a (.dK kvs)):kvs.length<=sizeLine/\(a == sysModules)=false/\∃ vs,KV kvs vs/\h.DictOf (eL P w) a vs:=
 show bY P w H h a (.dK kvs) from zL ok e
theorem zM {kvs:List (aG × V)} (ok:bO P w H h) (e:H a=some (.dK kvs)):kvs.length<=sizeLine/\(a == sysModules)=false/\∃ vs,KV kvs vs/\h.DictOf (eL P w) a vs:=pE ok (.inl e)
theorem pF {ks:List aG} (ok:bO P w H h) (e:H a=some (.tup (ks.map kV))):(tupleKind (eL P w)).is h ks a:=by
 obtain ⟨_,its,r,⟨o,h1,h2,n,h3⟩,_⟩:=(show bY P w H h a (.tup (ks.map kV)) from ok a _ e)
 exact⟨o,its.toArray,n,h1,h2,h3,by simpa using zK r⟩
theorem tI {kvs:List (List aG × V)} (ok:bO P w H h) (e:Rd H a (.dT kvs)):kvs.length<=sizeLine/\(a == sysModules)=false/\
  ∃ xs,KT H kvs xs/\h.DictOfH (tupleKind (eL P w)) a xs:=by
 obtain ⟨z,y,xs,r,o,es,ep,h1,h2,h3,h4,h5⟩:=(show bY P w H h a (.dT kvs) from zL ok e)
 refine⟨z,y,xs,r,o,es,ep,h1,h2,h3,h4,fun x hx=>?_,h5⟩
 have all:∀ {l:List (List aG × V)}{m:List (List aG × Addr × Value)},KT H l m->∀ x ∈ m,(tupleKind (eL P w)).is h x.1 x.2.1:=by
  intro l m q
  induction q with
  | nil=>intro x hx; exact nomatch hx
  | @cons p q ps qs hq t ih=>
   intro x hx
   rcases aU0.mp hx with e | hx
   ·subst e
    exact pF ok (by rw [<- hq.1]; exact hq.2.1)
   ·exact ih x hx
 exact all r x hx
theorem aj4 {kvs:List (List aG × V)} (ok:bO P w H h) (e:H a=some (.dT kvs)):kvs.length<=sizeLine/\(a == sysModules)=false/\
  ∃ xs,KT H kvs xs/\h.DictOfH (tupleKind (eL P w)) a xs:=tI ok (.inl e)
end
noncomputable def gW (H:Hp) (a:Addr) (y:V) (r:Option V):Prop:=
 (∃ kvs k,Rd H a (.dK kvs)/\y=kV k/\r=eZ kvs k) ∨ ∃ kvs k b,Rd H a (.dT kvs)/\y = .ref b/\H b=some (.tup (k.map kV))/\r=eZ kvs k
noncomputable def nE (H:Hp) (a:Addr) (y v:V) (H':Hp):Prop:=
 (∃ kvs k,H a=some (.dK kvs)/\y=kV k/\kvs.length < sizeLine/\H'=upd H a (.dK (dR kvs k v))) ∨
 ∃ kvs k b,H a=some (.dT kvs)/\y = .ref b/\H b=some (.tup (k.map kV))/\kvs.length < sizeLine/\H'=upd H a (.dT (dR kvs k v))
theorem gW.k {H:Hp}{a:Addr}{kvs:List (aG × V)}{k:aG} (e:H a=some (.dK kvs)):gW H a (kV k) (eZ kvs k):=.inl ⟨kvs,k,.inl e,rfl,rfl⟩
theorem gW.t {H:Hp}{a b:Addr}{kvs:List (List aG × V)}{k:List aG} (e:H a=some (.dT kvs)) (eb:H b=some (.tup (k.map kV))):gW H a (.ref b) (eZ kvs k):=.inr ⟨kvs,k,b,.inl e,rfl,eb,rfl⟩
theorem nE.k {H:Hp}{a:Addr}{kvs:List (aG × V)}{k:aG}{v:V} (e:H a=some (.dK kvs)) (hl:kvs.length < sizeLine):nE H a (kV k) v (upd H a (.dK (dR kvs k v))):=.inl ⟨kvs,k,e,rfl,hl,rfl⟩
section
variable {X : Cx} {pins : List (Addr × Obj)} {σ : St} {H : Hp} {s : Shared} {a : Addr} {y v : V} {u r : Value} {o : Option V} {A : Around} {E : Value → Shared → Prop}
theorem a6.big (I:a6 X pins σ H s):sysModules < s.heap.objs.size:=by
 have h:mainGlobals < s.heap.objs.size:=(I.mod.glob.keeps I.bk).lt
 exact Nat.lt_trans (by decide) h
theorem aj5 {Q:Value->Shared->Prop} (hu:A.units+1 < cLine) (I:a6 X pins σ H s) (g:gW H a y o) (ry:b4 y u) (h:∀ s',a6 X pins σ H s'->Q (.bool o.isSome) s') :
  wpAny (model X.prog X.w) A (compareOp .In u (.ref a)) Q E s:=by
 rcases g with ⟨kvs,k,e,ey,l⟩ | ⟨kvs,k,b,e,ey,eb,l⟩
 ·subst ey
  obtain ⟨z,hd,vs,rel,dd⟩:=pE I.hok e
  refine wpAny_in_of (nD ry) hd dd.mapOf ?_
  rw [<- (rel.val k).isSome_eq,<- l]
  exact h _ (I.tok _)
 ·subst ey
  cases (show u=Value.ref b from ry)
  obtain ⟨z,hd,xs,rel,dd⟩:=tI I.hok e
  refine wpAny_in_heap (tupleKind_room_in1 hu) (pF I.hok eb) hd dd ?_
  have q:=(rel.val k).isSome_eq
  rw [Option.isSome_map] at q
  rw [<- q,<- l]
  exact h _ (I.tok _)
theorem aj6 {Q:Value->Shared->Prop} (hu:A.units+1 < cLine) (I:a6 X pins σ H s) (g:gW H a y o) (ry:b4 y u) (h:∀ s',a6 X pins σ H s'->Q (.bool (!o.isSome)) s') :
  wpAny (model X.prog X.w) A (compareOp .NotIn u (.ref a)) Q E s:=by
 rcases g with ⟨kvs,k,e,ey,l⟩ | ⟨kvs,k,b,e,ey,eb,l⟩
 ·subst ey
  obtain ⟨z,hd,vs,rel,dd⟩:=pE I.hok e
  refine wpAny_notIn_of (nD ry) hd dd.mapOf ?_
  rw [<- (rel.val k).isSome_eq,<- l]
  exact h _ (I.tok _)
 ·subst ey
  cases (show u=Value.ref b from ry)
  obtain ⟨z,hd,xs,rel,dd⟩:=tI I.hok e
  refine wpAny_notIn_heap (tupleKind_room_in1 hu) (pF I.hok eb) hd dd ?_
  have q:=(rel.val k).isSome_eq
  rw [Option.isSome_map] at q
  rw [<- q,<- l]
  exact h _ (I.tok _)
theorem tJ {h':Heap}{t':Nat}{ob:HO} (I:a6 X pins σ H s) (mu:mQ (H a)) (hs:Heap.SameBut a s.heap h') (he:∃ q,h'.get? a=some q) (new:bY X.prog X.w (upd H a ob) h' a ob) :
  a6 X pins σ (upd H a ob) { s with heap:=h',toks:=t' }:=
 I.write (x:=a) (e:=a) mu (.inl rfl) (fun b q hb z=>(hs.2 b hb).trans z) he new
theorem zN {P:Program}{w:World}{H':Hp}{h':Heap}{kvs:List (aG × V)}{vs:List (aG × Value)} (z:kvs.length<=sizeLine) (hd:(a == sysModules)=false) (rel:KV kvs vs) (dd:h'.DictOf (eL P w) a vs) :
  bY P w H' h' a (.dK kvs):=⟨z,hd,vs,rel,dd⟩
theorem aj7 {H':Hp}{Q:Unit->Shared->Prop} (hu:A.units+1 < cLine) (I:a6 X pins σ H s) (g:nE H a y v H') (ry:b4 y u) (rv:b4 v r) (h:∀ s',a6 X pins σ H' s'->Q () s') :
  wpAny (model X.prog X.w) A (setItem (.ref a) u r) Q E s:=by
 rcases g with ⟨kvs,k,e,ey,l,eH⟩ | ⟨kvs,k,b,e,ey,eb,l,eH⟩
 ·subst ey eH
  obtain ⟨z,hd,vs,rel,dd⟩:=zM I.hok e
  have hz:vs.length<=sizeLine:=by rw [<- rel.length]; exact z
  have hl:(dR kvs k v).length<=sizeLine:=by have:=tH kvs k v; omega
  refine wpAny_setItem_pairs (hsz:=hz) (nD ry) dd fun h' dd' hs=>h _ ?_
  have he:∃ q,h'.get? a=some q:=let ⟨q,_,_,hq,_⟩:=dd'; ⟨q,hq⟩
  exact tJ I (by rw [e]; exact True.intro) hs he (zN hl hd (rel.put k rv) dd')
 ·subst ey eH
  cases (show u=Value.ref b from ry)
  obtain ⟨z,hd,xs,rel,dd⟩:=aj4 I.hok e
  have hz:xs.length<=sizeLine:=by rw [<- Paired.length rel]; exact z
  have hl:(dR kvs k v).length<=sizeLine:=by have:=tH kvs k v; omega
  refine wpAny_setItem_heap (hsz:=hz) (tupleKind_room_in1 hu) (pF I.hok eb) dd fun h' dd' hs=>h _ ?_
  obtain ⟨q,es,ep,hq,h2,h3,h4,_,h5⟩:=dd'
  refine tJ I (by rw [e]; exact True.intro) hs ⟨q,hq⟩ ⟨hl,hd,_,(rel.put k eb rv).keeps fun c ys ec=>?_,q,es,ep,hq,h2,h3,h4,h5⟩
  rw [aZ (ab1 ec e (fun z=>nomatch z))]
  exact ec
end
section
variable {X : Cx} {pins : List (Addr × Obj)} {σ : St} {H : Hp} {s : Shared} {a : Addr} {kvs : List (aG × V)} {k : aG} {u : Value} {A : Around} {E : Value → Shared → Prop}
theorem aj8 {Q:Value->Shared->Prop} (I:a6 X pins σ H s) (e:Rd H a (.dK kvs)) (h:∀ t s',a6 X pins σ H s'->Q (.int kvs.length t) s'):wpAny (model X.prog X.w) A (call (.builtin "len") [.ref a]) Q E s:=by
 obtain ⟨z,hd,vs,rel,dd⟩:=pE I.hok e
 refine call_len_dict hd dd (by rw [<- rel.length]; rw [sizeLine_eq] at z; omega) ?_
 rw [<- rel.length]
 exact h _ _ (I.tok _)
end
noncomputable def zO (ty td:TE):TE:=fun σ H Q=>ty σ H fun y H1=>td σ H1 fun x H2=>∃ a o,x = .ref a/\gW H2 a y o/\Q (.bl o.isSome) H2
noncomputable def zP (ty td:TE):TE:=fun σ H Q=>ty σ H fun y H1=>td σ H1 fun x H2=>∃ a o,x = .ref a/\gW H2 a y o/\Q (.bl (!o.isSome)) H2
noncomputable def zQ (td ty tv:TE):TS:=fun D σ H=>tv σ H fun v H1=>td σ H1 fun x H2=>ty σ H2 fun y H3=>∃ a H4,x = .ref a/\nE H3 a y v H4/\D.nx σ H4
section
variable {X : Cx} {o i e value : Expr} {pos pos' tpos : Pos} {td ty tv : TE}
theorem aj9 (hu:X.A.units+1 < cLine) (hi:PE X i ty) (ho:PE X o td):PC X .In i o (zO ty td):=by
 intro pins s σ H Q I h
 refine aO (hi pins s σ H _ I h) fun iv s1 ⟨y,H1,I1,ry,q1⟩=>aO (ho pins s1 σ H1 _ I1 q1) fun u s2 ⟨x,H2,I2,rx,a,ov,ex,g,q2⟩=>?_
 subst ex
 obtain rfl:u=Value.ref a:=rx
 exact aj5 hu I2 g ry fun s3 I3=>⟨.bl ov.isSome,H2,I3,rfl,q2⟩
theorem ak0 (hu:X.A.units+1 < cLine) (hi:PE X i ty) (ho:PE X o td):PC X .NotIn i o (zP ty td):=by
 intro pins s σ H Q I h
 refine aO (hi pins s σ H _ I h) fun iv s1 ⟨y,H1,I1,ry,q1⟩=>aO (ho pins s1 σ H1 _ I1 q1) fun u s2 ⟨x,H2,I2,rx,a,ov,ex,g,q2⟩=>?_
 subst ex
 obtain rfl:u=Value.ref a:=rx
 exact aj6 hu I2 g ry fun s3 I3=>⟨.bl (!ov.isSome),H2,I3,rfl,q2⟩
theorem ak1 (hu:X.A.units+1 < cLine) (ho:PE X o td) (hi:PE X i ty) (hv:PE X value tv) (hs:swapsWith value (some (.Subscript o i pos')) pos.line X.env=pure false) :
  PS X (.Assign [.Subscript o i pos'] value pos) (zQ td ty tv):=by
 intro pins s σ H D I h
 refine wpAny_Assign_Subscript (aO (hv pins s σ H _ I h) fun r s1 ⟨v,H1,I1,rv,q1⟩=>aO (ho pins s1 σ H1 _ I1 q1) fun u s2 ⟨x,H2,I2,rx,q2⟩=>aO (hi pins s2 σ H2 _ I2 q2) fun iv s3 ⟨y,H3,I3,ry,a,H4,ex,g,q3⟩=>?_) hs
 subst ex
 obtain rfl:u=Value.ref a:=rx
 exact aj7 hu I3 g ry rv fun s4 I4=>⟨σ,H4,I4,q3⟩
end
theorem zR {P:Program}{w:World}{H:Hp} (h:Heap) (hb:sysModules < h.objs.size):bY P w H (h.push { cls:=.type "dict",data:=.dict #[] }) h.objs.size (.dK []):=
 ⟨aX6 _,beq_eq_false_iff_ne.mpr (Ne.symm (aW9 hb)),[],.nil,Heap.DictOf.new h⟩
noncomputable def zT:TE:=fun _ H Q=>∀ p,H p=none->Q (.ref p) (upd H p (.dK []))
section
variable {X : Cx} {pos : Pos}
theorem ak2:PE X (.Dict [] [] pos) zT:=fun pins s σ H Q I h=>
 wpAny_Dict_empty ⟨.ref s.heap.objs.size,_,I.laid (a:=s.heap.objs.size) (o:=.dK []) (t':=s.toks) (fun _ _ q=>aS7 _ q) (aT2 _) (zR s.heap I.big),rfl,h _ (I.hok.fresh (aT2 _))⟩
end
noncomputable def tK:List (TE × TE)->St->Hp->(List (V × V)->Hp->Prop)->Prop
 | [],_,H,Q=>Q [] H
 | (tk,tv) :: r,σ,H,Q=>tk σ H fun x H1=>tv σ H1 fun y H2=>tK r σ H2 fun ps H3=>Q ((x,y) :: ps) H3
noncomputable abbrev VV:List (V × V)->List (Value × Value)->Prop:=Paired fun p q=>b4 p.1 q.1/\b4 p.2 q.2
noncomputable def pG (X:Cx) (pos:Pos) (keys:List (Option Expr)) (values:List Expr) (trs:List (TE × TE)):Prop:=
 ∀ (pins:List (Addr × Obj)) (s:Shared) (σ:St) (H:Hp) (Q:List (V × V)->Hp->Prop),a6 X pins σ H s->tK trs σ H Q->
  wpAny (model X.prog X.w) X.A (evalPairs (pairTrees keys values X.env pos)) (fun vs s'=>∃ ps H',a6 X pins σ H' s'/\VV ps vs/\Q ps H') X.xe s
theorem ak3 {X:Cx}{pos:Pos}:pG X pos [] [] []:=fun pins s σ H Q I h=>pairTrees_nil_walk ⟨[],H,I,.nil,h⟩
theorem ak4 {X:Cx}{pos:Pos}{k v:Expr}{ks:List (Option Expr)}{vs:List Expr}{tk tv:TE}{trs:List (TE × TE)} (hk:PE X k tk) (hv:PE X v tv) (hr:pG X pos ks vs trs) :
  pG X pos (some k :: ks) (v :: vs) ((tk,tv) :: trs):=fun pins s σ H Q I h=>
 pairTrees_cons_walk (aO (hk pins s σ H _ I h) fun u s1 ⟨x,H1,I1,rx,q1⟩=>aO (hv pins s1 σ H1 _ I1 q1) fun w2 s2 ⟨y,H2,I2,ry,q2⟩=>
  aO (hr pins s2 σ H2 _ I2 q2) fun ws s3 ⟨ps,H3,I3,rel,q3⟩=>⟨(x,y) :: ps,H3,I3,.cons ⟨rx,ry⟩ rel,q3⟩)
noncomputable def lM (kvs more:List (aG × V)):List (aG × V):=more.foldl (fun acc kv=>dR acc kv.1 kv.2) kvs
theorem KV.merge:∀ {more:List (aG × V)}{rs:List (aG × Value)}{kvs:List (aG × V)}{vs:List (aG × Value)},KV more rs->KV kvs vs->KV (lM kvs more) (merged vs rs):=by
 intro more rs kvs vs r
 unfold KV at r
 induction r generalizing kvs vs with
 | nil=>intro q; exact q
 | @cons p q ps qs h t ih=>
  intro r0
  have e:KV (dR kvs p.1 p.2) (stored vs q.1 q.2):=by
   have:=r0.put p.1 h.2
   rw [<- h.1]; exact this
  exact ih e
theorem zU:∀ (more kvs:List (aG × V)),(lM kvs more).length<=kvs.length+more.length
 | [],kvs=>by show kvs.length<=kvs.length+0; omega
 | p :: r,kvs=>by
  have h1:=zU r (dR kvs p.1 p.2)
  have h2:=tH kvs p.1 p.2
  show (lM (dR kvs p.1 p.2) r).length<=_
  rw [aV8]; omega
theorem zV {P:Program}{w:World}:∀ {kvs:List (aG × V)}{ws:List (Value × Value)},VV (kvs.map fun kv=>(kV kv.1,kv.2)) ws->∃ rs,Carries (eL P w) ws rs/\KV kvs rs
 | [],_,r=>by rw [List.map_nil] at r; cases r; exact⟨[],True.intro,.nil⟩
 | p :: kvs,_,r=>by
  rw [aV5] at r
  cases r with
  | @cons a b as bs h t=>
   obtain ⟨rs,c,q⟩:=zV (P:=P) (w:=w) t
   obtain ⟨b1,b2⟩:=b
   exact⟨(p.1,b2) :: rs,⟨nD h.1,rfl,c⟩,.cons ⟨rfl,h.2⟩ q⟩
noncomputable def zW (trs:List (TE × TE)):TE:=fun σ H Q=>∀ p,H p=none->tK trs σ (upd H p (.dK [])) fun ps H2=>H2 p=some (.dK [])/\∃ kvs:List (aG × V),ps=kvs.map (fun kv=>(kV kv.1,kv.2))/\kvs.length<=15/\Q (.ref p) (upd H2 p (.dK (lM [] kvs)))
theorem ak5 {X:Cx}{pos:Pos}{keys:List (Option Expr)}{values:List Expr}{trs:List (TE × TE)} (h:pG X pos keys values trs) (hall:keys.all (·.isSome)=true) (hl:keys.length=values.length) (h0:keys ≠ [])
  (h15:keys.length<=15):PE X (.Dict keys values pos) (zW trs):=by
 intro pins s σ H Q I q
 have hn:=I.hok.fresh (aT2 s.heap.objs.size)
 have I1:=I.laid (a:=s.heap.objs.size) (o:=.dK []) (h':=s.heap.push { cls:=.type "dict",data:=.dict #[] }) (t':=s.toks) (fun _ _ q=>aS7 _ q) (aT2 _) (zR s.heap I.big)
 refine wpAny_Dict_walk (knd:=eL X.prog X.w) hall hl h0 h15 (aO (h pins _ σ _ _ I1 (q _ hn)) fun ws s2 ⟨ps,H2,I2,rel,e,kvs,ep,lk,q2⟩=>?_)
 subst ep
 obtain ⟨rs,c,rk⟩:=zV (P:=X.prog) (w:=X.w) rel
 obtain ⟨z,hd,vs0,r0,dd⟩:=zM I2.hok e
 cases r0
 refine⟨rs,c,dd,fun h' dd' hs=>⟨.ref s.heap.objs.size,_,?_,rfl,q2⟩⟩
 have hz:(lM [] kvs).length<=sizeLine:=by
  have h1:=zU kvs []
  rw [List.length_nil] at h1
  rw [sizeLine_eq]; omega
 have he:∃ q,h'.get? s.heap.objs.size=some q:=let ⟨q,_,_,hq,_⟩:=dd'; ⟨q,hq⟩
 exact tJ I2 (by rw [e]; exact True.intro) hs he (zN hz hd (rk.merge .nil) dd')
structure M2 (X:Cx) (o:Expr) (m:Str) (apos:Pos) (e f:Expr) (cpos:Pos):Prop where
 base:attributeBase o m X.env (eval o X.env)=eval o X.env
 few:((backTo cpos (starEach [e,f] X.env)).all (fun x=>!x.1) && (backToKw cpos (keywordEach [] X.env)).all (fun x=>x.1.isSome)
  && decide (([e,f]:List Expr).length+([]:List Keyword).length+(if ([]:List Keyword).isEmpty then 0 else 1) < 30))=true
 line:(apos.endLine == cpos.line)=true
 trees:backTo cpos (starEach [e,f] X.env) = [(false,eval e X.env),(false,eval f X.env)]
end L2
namespace Att
open PySem PySem.W PySem.Calls PyProof.Rows
theorem ak6 {P:Params}{h:Heap}:∀ (ns:List Int) (vs:List Value),WellAll P h vs (ns.map WData.int)->IntsAre vs ns:=by
 intro ns
 induction ns with
 | nil=>
  intro vs w
  rw [List.map_nil] at w
  cases w
  exact .nil
 | cons n ns ih=>
  intro vs w
  rw [aV5] at w
  cases w with
  | cons a b=>
   cases a
   exact .cons _ _ (ih _ b)
theorem zX {l:OpenLaw}{n:Nat} (hn:l.most=some n) {P:Params}{h:Heap}{args:List WData}{vals:List Value}
  (hpre:l.row.toRowW.claim.pre args=true) (hwl:WellAll P h vals args) :
  ∃ a vs ns,vals = [Value.ref a]/\args = [WData.list (ns.map WData.int)]/\h.get? a=some { cls:=.type "list",data:=.seq vs.toArray }/\IntsAre vs ns/\ns.length<=n:=by
 have hsh:WShape.hasAll [] args [.list .int]=true:=(pre_splitW hpre).1
 have hc:l.pre.holds [] { args:=args }=true:=(pre_splitW hpre).2
 obtain ⟨d,r,rfl,h1,h2⟩:=hasAllW_cons hsh
 obtain rfl:=hasAllW_nil h2
 obtain ⟨xs,rfl,h3⟩:=hasW_list h1
 obtain ⟨ns,rfl⟩:=items_int h3
 have hlen:ns.length<=n:=by
  unfold OpenLaw.pre at hc
  have h4:(WTm.not (.lt (.lit (.int (n:Int))) (.len (.arg 0)))).holds [] { args:=[.list (ns.map .int)] }=true:=by
   have h4:=(holds_andW hc).1
   rw [hn] at h4
   exact h4
  have h5:=condW_of h4 (w_not (w_lt w_lit (w_len_list (w_arg rfl))))
  rw [aS9] at h5
  refine bd6 fun q=>?_
  have q':(n:Int) < ((ns.length:Nat):Int):=by omega
  first
   | (rw [aT1 q'] at h5; exact absurd h5 (by decide))
   | (simp at h5; omega)
 cases hwl with
 | cons w1 w2=>
  cases w2
  cases w1 with
  | list ho hall=>exact⟨_,_,ns,rfl,rfl,ho,ak6 ns _ hall,hlen⟩
theorem zY (l:OpenLaw) (args:List WData):l.row.toRowW.claim.post args (.bool true) args=true:=
 postW_of (r:=l.row.toRowW) (X:=(true == true))
  (show WShape.has [] (.bool true) .bool=true by first | rfl | decide | simp [WShape.has,WShape.arms,WShape.armsAll])
  (show (WTm.eq .res (.lit (.bool true))).value [] { args:=args,res:=some (.bool true),after:=args }=some (.bool (true == true)) from w_eq_bool (w_res rfl) w_lit) rfl
theorem aS3 {l:OpenLaw}{n:Nat}{q:Program}{loose:List Str}{XP:(Str->Option Value)->Heap->Prop}{YP:World->Heap->Prop}{d:DefRec}{x:Str}
  (hn:l.most=some n) (hdf:d.params.defaults = [])
  (hbind:∀ pm cd doc v:Value,bindArgs (docDef d.name d.params d.body d.scope pm cd doc) ⟨[v],[]⟩=pure [(x,v)])
  (hx:d.scope.names.lookup x=some .local ∨ d.scope.names.lookup x=some .cell)
  (hk:d.scope.kind = .function) (hco:d.scope.isCoroutine=false) (hgen:d.scope.isGenerator=false)
  (body:∀ (w:World) (s₀ s₁ s:Shared) (mg mb:Str->Option Value) (fa:Addr) (o:Obj) (pm cd doc:Value) (a:Addr) (vs:List Value) (ns:List Int),
   Ground q loose [] XP w s₀ mg mb s₁.heap->YP w s₁.heap->
   s₁.heap.get? fa=some o->o.data = .func (docDef d.name d.params d.body d.scope pm cd doc)->s₁.heap.CodeRec cd d.name->mg d.name=some (.ref fa)->
   s₁.heap.get? a=some { cls:=.type "list",data:=.seq vs.toArray }->IntsAre vs ns->ns.length<=n->
   s.gens = #[]->s.os=s₁.os->
   Fr s₁.heap s₁.heap.objs.size s.heap (bindL (envOfC d.name d.scope s₁.heap.objs.size fa cd).kindOf [(x,.ref a)] fun _=>none)->
   Cl s₁.heap.objs.size (cellsFrom (s₁.heap.objs.size+1) d.scope.names []) s.heap (bindC (envOfC d.name d.scope s₁.heap.objs.size fa cd).kindOf [(x,.ref a)] fun _=>none)->
   wpAny (model l.prog w) (callerA.deeper (envOfC d.name d.scope s₁.heap.objs.size fa cd)) (execs d.body (envOfC d.name d.scope s₁.heap.objs.size fa cd))
    (fun f s'=>f = .ret (.bool true)/\OldK s₁.heap s'.heap/\s'.os=s₁.os/\AllBare s'.gens) (fun _ _=>False) s) :
  WalkO q loose XP YP l.row.toRowW d [] (fun f vs=>PySem.call f vs):=by
 intro w s₀ s₁ mg mb G Y fa o pm cd doc dV kV ho hd hcd hD hmg hg args vals as hpre hlay hrd hwl hlo
 obtain rfl:dV = .none:=Dflts.none hD hdf
 obtain rfl:kV = .none:=Dflts.noKw hD
 obtain ⟨a,vs,ns,rfl,rfl,hobj,hints,hlen⟩:=zX hn hpre hwl
 refine enter_call ?_
 refine call_cells_ret (o:=o) (by rw [depth_caller]; decide) ho (fd_plain hd) G.T.nolimit hcd (hbind pm cd doc (.ref a)) (fun y hy=>?_) (fun h₁ tk F X=>?_) hco hgen hk
 ·obtain rfl:y=(x,Value.ref a):=aT0.mp hy
  rcases hx with e | e
  ·exact .inl e
  ·exact .inr ⟨e,cellsFrom_some _ _ _ (.inl e)⟩
 ·refine ba6 (body w s₀ s₁ { s₁ with heap:=h₁,toks:=tk } mg mb fa o pm cd doc a vs ns G Y ho (fd_plain hd) hcd hmg hobj hints hlen hg rfl F X) (fun f s' hq=>?_) (fun _ _ hq=>hq)
  obtain ⟨rfl,h2,h3,h4⟩:=hq
  exact⟨.inl ⟨.bool true,.bool true,[],rfl,fun _=>rfl,.bool true,zY l _,fun _=>⟨be8,fun _ hm=>(nomatch hm)⟩⟩,h2,h3,h4⟩
theorem ak7 {l:OpenLaw}{n:Nat}{q:Program}{loose:List Str}{XP:(Str->Option Value)->Heap->Prop}{YP:World->Heap->Prop}{d:DefRec}
  (hn:l.most=some n) (hdf:d.params.defaults = [])
  (call:∀ (w:World) (s₀ s₁:Shared) (mg mb:Str->Option Value) (fa:Addr) (o:Obj) (pm cd doc:Value) (a:Addr) (vs:List Value) (ns:List Int),
   Ground q loose [] XP w s₀ mg mb s₁.heap->YP w s₁.heap->
   s₁.heap.get? fa=some o->o.data = .func (docDef d.name d.params d.body d.scope pm cd doc)->s₁.heap.CodeRec cd d.name->mg d.name=some (.ref fa)->
   s₁.heap.get? a=some { cls:=.type "list",data:=.seq vs.toArray }->IntsAre vs ns->ns.length<=n->s₁.gens = #[]->
   codeAny (model l.prog w) callerA (.call (.ref fa) ⟨[.ref a],[]⟩) (fun r s'=>r = .ok (.ret (.bool true))/\OldK s₁.heap s'.heap/\s'.os=s₁.os/\AllBare s'.gens) s₁) :
  WalkO q loose XP YP l.row.toRowW d [] (fun f vs=>PySem.call f vs):=by
 intro w s₀ s₁ mg mb G Y fa o pm cd doc dV kV ho hd hcd hD hmg hg args vals as hpre hlay hrd hwl hlo
 obtain rfl:dV = .none:=Dflts.none hD hdf
 obtain rfl:kV = .none:=Dflts.noKw hD
 obtain ⟨a,vs,ns,rfl,rfl,hobj,hints,hlen⟩:=zX hn hpre hwl
 refine enter_call (codeAny_mono (call w s₀ s₁ mg mb fa o pm cd doc a vs ns G Y ho (fd_plain hd) hcd hmg hobj hints hlen hg) fun r s' hq=>?_)
 obtain ⟨rfl,h2,h3,h4⟩:=hq
 exact⟨.inl ⟨.bool true,.bool true,[],rfl,fun _=>rfl,.bool true,zY l _,fun _=>⟨be8,fun _ hm=>(nomatch hm)⟩⟩,h2,h3,h4⟩
section
variable {prog : Program} {w : World} {A : Around} {E : Value → Shared → Prop} {s : Shared} {K : Frag}
noncomputable def aS4 (h:Heap) (L d:Addr):List (Addr × Obj):=(List.range h.objs.size).filterMap fun a=>if a=L ∨ a=d then none else (h.get? a).map fun o=>(a,o)
end
end Att
namespace L2
open PySem PySem.Spec PyProof.Rows
theorem pH:∀ {vs:List Value}{ns:List Int},IntsAre vs ns->aI (ns.map V.int) vs
 | _,_,.nil=>.nil
 | _,_,.cons n t h=>.cons ⟨t,rfl⟩ (pH h)
noncomputable def pI (H:Hp):Prop:=∀ b,H b=none ∨ ∃ o xs,H b=some (.frz o (.lst xs))
theorem ak8 {P:Program}{w:World}{K:PySem.W.Frag}{mg mb:Str->Option Value}{CX:gI}{k:Nat}{fa a:Addr}{fd:FuncData}{x:Str}{sp:Sp}{s₁:Shared}{vs:List Value}{ns:List Int}
  (KX:K.In s₁.heap) (hns:s₁.heap.Ns mainGlobals mg) (hb:s₁.heap.Ns builtinsNs mb) (hbb:∀ x:Str,x ≠ "__name__"->mb x=bootBuiltins x) (hlim:s₁.heap.NoLimit) (hg:s₁.gens = #[])
  (ha:s₁.heap.get? a=some { cls:=.type "list",data:=.seq vs.toArray }) (hi:IntsAre vs ns) (hl:ns.length<=sizeLine) (hr:bZ k callerA)
  (F:∀ base:Heap,K.In base->base.Ns mainGlobals mg->cF P w K mg base CX k fa fd [x] sp) (hbind:∀ (s:Shared) (u:Value),BindsTo s fd ⟨[u],[]⟩ [(x,u)])
  (hsp:∀ H:Hp,pI H->aJ K H a (ns.map V.int)->sp [.ref a] H (fun v _=>v = .bl true) fun _ _ _=>False)
  (hCX:∀ H e s',CX [] H s₁ (fun _ _ _=>False) e s'->False) :
  codeAny (model P w) callerA (.call (.ref fa) ⟨[.ref a],[]⟩) (fun r s'=>r = .ok (.ret (.bool true))/\OldK s₁.heap s'.heap/\s'.os=s₁.os/\AllBare s'.gens) s₁:=by
 have rv:=pH hi
 have lenV:=hi.length
 have core:∀ H:Hp,pI H->aJ K H a (ns.map V.int)->bO P w H s₁.heap->(∀ b,H b ≠ none->b=a)->(H a ≠ none->K.lookup a=none)->
   codeAny (model P w) callerA (.call (.ref fa) ⟨[.ref a],[]⟩) (fun r s'=>r = .ok (.ret (.bool true))/\OldK s₁.heap s'.heap/\s'.os=s₁.os/\AllBare s'.gens) s₁:=by
  intro H hO hS hok hA hK
  have base_of:∀ {b:Addr}{o:Obj},s₁.heap.get? b=some o->H b=none->(iN s₁.heap H).get? b=some o:=fun e n=>ab3 e n
  have noA:∀ {b:Addr}{o:Obj}{es:Array DictEntry}{ep:Nat},s₁.heap.get? b=some o->o.data = .dict es ep->H b=none:=fun {b o es ep} e d=>by
   cases q:H b with
   | none=>rfl
   | some u=>
    have e':b=a:=hA b (by rw [q]; simp)
    subst e'
    rw [ha] at e; cases e
    have d':Data.seq vs.toArray _=Data.dict es ep:=d
    cases d'
  have nsK:∀ {b:Addr}{m:Str->Option Value},s₁.heap.Ns b m->(iN s₁.heap H).Ns b m:=fun {b m} ⟨o,es,ep,e,d,r⟩=>⟨o,es,ep,base_of e (noA e d),d,r⟩
  have hKb:K.In (iN s₁.heap H):=fun b o e=>base_of (KX b o e) (by
   cases q:H b with
   | none=>rfl
   | some u=>
    have e':b=a:=hA b (by rw [q]; simp)
    subst e'
    rw [hK (by rw [q]; simp)] at e; cases e)
  have hM:Mod K mg (iN s₁.heap H):=⟨hKb,nsK hns,⟨mb,nsK hb,hbb⟩,let ⟨mc,h1,h2⟩:=hlim; ⟨mc,nsK h1,h2⟩⟩
  have e0:pB P w K mg (iN s₁.heap H) callerA [] s₁ H:=⟨rfl,hM,fun b o e=>ab4 e,Nat.le_of_eq (ab2 _ _),trivial,fun b hb=>absurd (show b ∈ ([]:List Addr) from hb) (by simp),hok,.of_eq hg⟩
  refine codeAny_mono ((F _ hKb (nsK hns)).run callerA [] s₁ H ⟨[.ref a],[]⟩ [.ref a] [.ref a] _ _ hr e0 (hbind s₁ (.ref a)) (.cons rfl .nil) (hsp H hO hS)) fun r s' h=>?_
  cases r with
  | error e=>exact (hCX H e s' h).elim
  | ok fl=>
   cases fl with
   | next=>exact False.elim h
   | brk=>exact False.elim h
   | cont=>exact False.elim h
   | ret u=>
    obtain ⟨v,H',os,bare,un,hok',r',q⟩:=h
    have q':v = .bl true:=q
    subst q'
    obtain rfl:u=Value.bool true:=r'
    refine⟨rfl,OldK.of_keep fun b o e=>?_,os,bare⟩
    cases q:H b with
    | none=>exact un.keep b o e q (by intro z; exact absurd (show b ∈ ([]:List Addr) from z) (by simp)) (by simp)
    | some u=>
     rcases hO b with z | ⟨ob,xs,z⟩
     ·rw [q] at z; cases z
     ·have z2:=un.frzs b ob _ z
      obtain ⟨e1,_⟩:=hok b _ z
      obtain ⟨e2,_⟩:=hok' b _ z2
      rw [e] at e1; cases e1
      exact e2
 cases hk:K.lookup a with
 | some o=>
  have e:=KX a o hk
  rw [ha] at e
  cases e
  refine core (fun _=>none) (fun _=>.inl rfl) (.inr ⟨_,vs.toArray,_,hk,rfl,rfl,rfl,by rw [aU2,lenV]; exact hl,by simpa using rv⟩) (fun b u z=>by have z':(none:Option HO)=some u:=z; cases z') (fun b z=>absurd rfl z) fun z=>absurd rfl z
 | none=>
  refine core (fun b=>if b=a then some (.frz { cls:=.type "list",data:=.seq vs.toArray } (.lst (ns.map V.int))) else none) (fun b=>?_) (.inl (.inr ⟨{ cls:=.type "list",data:=.seq vs.toArray },if_pos rfl⟩)) (fun b u z=>?_) (fun b z=>?_) fun _=>hk
  ·by_cases hb:b=a
   ·exact .inr ⟨_,_,if_pos hb⟩
   ·exact .inl (if_neg hb)
  ·by_cases hb:b=a
   ·have z':=(if_pos hb).symm.trans z
    cases z'
    subst hb
    exact⟨ha,by rw [aS9]; exact hl,vs,_,rv,ha⟩
   ·have z':=(if_neg hb).symm.trans z
    cases z'
  ·by_cases hb:b=a
   ·exact hb
   ·exact absurd (if_neg hb) z
theorem ak9 {l:PySem.W.OpenLaw}{n k:Nat}{q:Program}{loose:List Str}{XP:(Str->Option Value)->Heap->Prop}{YP:World->Heap->Prop}{d:DefRec}{K:Params->PySem.W.Frag}{CX:World->gI}{sp:World->Sp}{x:Str}
  (hn:l.most=some n) (hn2:n<=sizeLine) (hdf:d.params.defaults = []) (hr:bZ k callerA)
  (hY:∀ (w:World) (h:Heap),YP w h->(K w.params).In h)
  (F:∀ (w:World) (mg:Str->Option Value) (fa:Addr) (h:Heap),(K w.params).In h->h.Ns mainGlobals mg->mg d.name=some (.ref fa)->
   ∃ fd:FuncData,(∀ (s:Shared) (u:Value),BindsTo s fd ⟨[u],[]⟩ [(x,u)])/\
    ∀ base:Heap,(K w.params).In base->base.Ns mainGlobals mg->cF l.prog w (K w.params) mg base (CX w) k fa fd [x] (sp w))
  (hsp:∀ (w:World) (H:Hp) (a:Addr) (ns:List Int),ns.length<=n->pI H->aJ (K w.params) H a (ns.map V.int)->sp w [.ref a] H (fun v _=>v = .bl true) fun _ _ _=>False)
  (hCX:∀ (w:World) (H:Hp) (s:Shared) (e:Value) (s':Shared),CX w [] H s (fun _ _ _=>False) e s'->False) :
  PySem.W.WalkO q loose XP YP l.row.toRowW d [] (fun f vs=>PySem.call f vs):=by
 refine Att.ak7 hn hdf fun w s₀ s₁ mg mb fa o pm cd doc a vs ns G Y ho hd hcd hmg hobj hints hlen hg=>?_
 have KX:=hY w _ Y
 obtain ⟨fd,hb,hF⟩:=F w mg fa _ KX G.T.g hmg
 exact ak8 KX G.T.g G.T.b G.T.builtins G.T.nolimit hg hobj hints (aX5 hlen hn2) hr hF hb (fun H hO hS=>hsp w H a ns hlen hO hS) fun H e s'=>hCX w H s₁ e s'
noncomputable def iU (s:Stmt):Arguments:=match s with
 | .FunctionDef _ a _ _ _ _ _ _ _ _=>a
 | _=>{ posonlyargs:=[],args:=[],vararg:=none,kwonlyargs:=[],kw_defaults:=[],kwarg:=none,defaults:=[] }
noncomputable def eN (s:Stmt):List Stmt:=match s with
 | .FunctionDef _ _ b _ _ _ _ _ _ _=>b
 | _=>[]
noncomputable def aX (s:Stmt):Scope:=match s with
 | .FunctionDef _ _ _ _ _ _ sc _ _ _=>sc
 | _=>{ kind:=.function,names:=[],isGenerator:=false,isCoroutine:=false }
noncomputable abbrev dE:gI:=fun _ _ _ _ _ _=>False
noncomputable abbrev E0:XK:=fun _ _ _=>False
theorem al0 {X:Cx}:mX dE X E0:=fun _ _ _ _ _ _ _ h=>h.elim
structure eO (K:PySem.W.Frag) (x qual:Str) (st:Stmt) (f:Addr) (fd:FuncData):Prop where
 ex:∃ (oc:Value) (od:Option Addr) (kV doc pm:Value) (an:Option Addr) (cdv ct:Value) (osl:Array (Option Value)),
  fd=PySem.W.fnOf x qual (iU st) (eN st) (aX st) .none kV doc pm an cdv ct/\K.lookup f=some ⟨oc,od,.func fd,osl⟩/\PySem.W.codeIn K cdv qual=true
 kp:PySem.W.keepIn K (.ref f)=true
section
variable {P : Program} {w : World} {K : PySem.W.Frag} {mg : Str → Option Value} {base : Heap}
theorem eO.ok {x qual:Str}{st:Stmt}{f:Addr}{fd:FuncData}{N ps:List Str}{k:Nat}{sp:Sp} (F:eO K x qual st f fd) (S:FnScope N ps (aX st)) (len:∀ vs H Q E,sp vs H Q E->vs.length=ps.length)
  (hbody:∀ (cdv:Value) (A:Around) (outer:List Env) (s:Shared) (H:Hp) (vs:List V) (Q:VK) (E:XK),bZ k (A.deeper (envOfC qual (aX st) s.heap.objs.size f cdv))->sp vs H Q E->
   ∃ t,dO (dA dE P w K mg base N qual (aX st) f cdv A outer s H E).nox (eN st) t/\t { nx:=fun _ H'=>Q .non H',rt:=Q } (start N vs) H):cF P w K mg base dE (k+1) f fd ps sp:=by
 obtain ⟨oc,od,kV,doc,pm,an,cdv,ct,osl,rfl,lk,hcd⟩:=F.ex
 refine yM lk hcd S len fun A outer s H vs Q E hr hsp=>?_
 obtain ⟨t,h,q⟩:=hbody cdv A outer s H vs Q E hr hsp
 exact⟨t,h.nox,q⟩
theorem eO.binds {x qual:Str}{st:Stmt}{f:Addr}{fd:FuncData}{ps:List Str} (F:eO K x qual st f fd)
  (h:∀ (kV doc pm:Value) (an:Option Addr) (cdv ct:Value) (us:List Value),us.length=ps.length->bindArgs (PySem.W.fnOf x qual (iU st) (eN st) (aX st) .none kV doc pm an cdv ct) ⟨us,[]⟩=pure (ps.zip us)):gU K fd ps []:=by
 obtain ⟨oc,od,kV,doc,pm,an,cdv,ct,osl,rfl,lk,hcd⟩:=F.ex
 exact .all (h kV doc pm an cdv ct)
theorem al1 {x qual:Str}{st:Stmt}{f:Addr}{oc:Value}{od an:Option Addr}{osl:Array (Option Value)}{kV doc pm cdv ct:Value} (l:K.lookup f=some ⟨oc,od,.func (PySem.W.fnOf x qual (iU st) (eN st) (aX st) .none kV doc pm an cdv ct),osl⟩)
  (c:PySem.W.codeIn K cdv qual=true) (k:PySem.W.keepIn K (.ref f)=true):eO K x qual st f (PySem.W.fnOf x qual (iU st) (eN st) (aX st) .none kV doc pm an cdv ct):=⟨⟨oc,od,kV,doc,pm,an,cdv,ct,osl,rfl,l,c⟩,k⟩
end
theorem tL {A:Around}{k:Nat} (hr:bZ k A):A.units+1 < cLine:=Nat.lt_of_le_of_lt (Nat.add_le_add_left (by decide:1<=64) _) hr.units
theorem nF {n:Nat} (h:n<=1000):n < sizeLine:=Nat.lt_of_le_of_lt h (by decide)
section
variable {X : Cx}
theorem pv (i:Nat) {x:Str}{pos:Pos} (hN:X.N[i]? = some x:=by rfl) (hv:gF X.env.scope x:=by first | exact Or.inl rfl | exact Or.inr (Or.inl rfl) | exact Or.inr (Or.inr rfl)) (hd:(x == ("__debug__" : Str))=false:=by decide)
  (hcd:(x == ("__classdict__" : Str))=false:=by decide):PE X (.Name x pos) (iE i):=iO hN hv hd hcd
theorem al2:cY X (.builtin "len") (fun xs H Q=>∃ a kvs,xs = [V.ref a]/\H a=some (.dK kvs)/\Q (.int kvs.length) H):=by
 intro pins s σ H xs us Q I r h
 obtain ⟨a,kvs,rfl,ha,q⟩:=h
 obtain ⟨u,rfl,ru⟩:=gT r
 cases ru
 exact aj8 I (.inl ha) fun t s' I'=>⟨.int kvs.length,H,I',⟨t,rfl⟩,q⟩
end
theorem bF {A B:Prop} (h:B):if false=true then A else B:=by
 rw [if_neg aV1]
 exact h
theorem bN {A B:Prop} (h:A):if true=true then A else B:=by
 rw [if_pos rfl]
 exact h
noncomputable def aC (H H':Hp):Prop:=∀ b o,H b=some o->H' b=some o
theorem aC.refl (H:Hp):aC H H:=fun _ _ h=>h
theorem aC.trans {H H1 H2:Hp} (a:aC H H1) (b:aC H1 H2):aC H H2:=fun c o h=>b c o (a c o h)
theorem aC.free {H H':Hp} (e:aC H H') {l:Addr} (h:H' l=Option.none):H l=Option.none:=by
 cases q:H l with
 | none=>rfl
 | some o=>
  rw [e l o q] at h
  cases h
theorem aC.seq {K:PySem.W.Frag}{H H':Hp}{a:Addr}{xs:List V} (e:aC H H') (h:aJ K H a xs):aJ K H' a xs:=by
 rcases h with (h | ⟨o,h⟩) | h
 ·exact .inl (.inl (e _ _ h))
 ·exact .inl (.inr ⟨o,e _ _ h⟩)
 ·exact .inr h
noncomputable def e9 (cells:List (Str × Addr)):List (Str × NameKind)->List (Str × Addr)->List (Str × Addr)
 | [],cs=>cs
 | (n,k) :: r,cs=>e9 cells r (if k == .free then (n,(cells.lookup n).getD 0) :: cs else cs)
theorem tM {env:Env}:∀ (ns:List (Str × NameKind)) (cs:List (Str × Addr)),(∀ x ∈ ns,x.2 = .free->∃ c,env.cells.lookup x.1=some c)->
  (forIn ns cs (fun (x:Str × NameKind) r=>(match x with
   | (name,kind)=>if (kind == .free)=true then (do let y <- cellOf env name; pure (ForInStep.yield ((name,y) :: r))) else pure (ForInStep.yield r)):_->_->Sem _))=(pure (e9 env.cells ns cs):Sem (List (Str × Addr)))
 | [],cs,_=>by rw [List.forIn_nil]; rfl
 | (n,k) :: r,cs,h=>by
  rw [List.forIn_cons]
  have hr:∀ x ∈ r,x.2 = .free->∃ c,env.cells.lookup x.1=some c:=fun x hx=>h x (aT5 _ hx)
  cases hk:(k == NameKind.free) with
  | true=>
   have e:k = .free:=by simpa using hk
   obtain ⟨c,hc⟩:=h (n,k) aS8 e
   simp only [hk,if_true]
   have e1:cellOf env n=pure c:=by unfold cellOf; rw [hc]
   rw [e1]
   show ((pure c >>= fun y=>pure (ForInStep.yield ((n,y) :: cs))) >>= _:Sem _)=_
   rw [pure_bind,pure_bind]
   have:=tM (env:=env) r ((n,c) :: cs) hr
   refine this.trans ?_
   unfold e9
   simp only [hk,if_true,hc,Option.getD_some]
   cases r <;> rfl
  | false=>
   simp only [hk,aV7,aZ7]
   rw [pure_bind]
   have:=tM (env:=env) r cs hr
   refine this.trans ?_
   conv=>rhs; unfold e9
   simp only [hk,aV7,aZ7]
theorem pJ {scope:Scope}{env:Env} (h:∀ x ∈ scope.names,x.2 = .free->∃ c,env.cells.lookup x.1=some c):closureFor scope env=pure (e9 env.cells scope.names []):=by
 have e:=tM (env:=env) scope.names [] h
 unfold closureFor
 rw [show (pure (e9 env.cells scope.names []):Sem (List (Str × Addr)))=(pure (e9 env.cells scope.names []) >>= pure) by rw [pure_bind]]
 rw [<- e]
theorem pK {cells:List (Str × Addr)}:∀ (ns:List (Str × NameKind)) (cs:List (Str × Addr)) {x:Str}{c:Addr},(∀ y ∈ ns,y.2 = .free->∃ c,cells.lookup y.1=some c)->
  (∀ x c,cs.lookup x=some c->cells.lookup x=some c)->(e9 cells ns cs).lookup x=some c->cells.lookup x=some c
 | [],cs,x,c,_,hc,h=>hc x c h
 | (n,k) :: r,cs,x,c,hn,hc,h=>by
  unfold e9 at h
  have hr:∀ y ∈ r,y.2 = .free->∃ c,cells.lookup y.1=some c:=fun y hy=>hn y (aT5 _ hy)
  cases hk:(k == NameKind.free) with
  | false=>
   simp only [hk,aV7,aZ7] at h
   exact pK r cs hr hc h
  | true=>
   simp only [hk,if_true] at h
   refine pK r _ hr (fun y d e=>?_) h
   obtain ⟨c0,h0⟩:=hn (n,k) aS8 (by simpa using hk)
   have h0:cells.lookup n=some c0:=h0
   rw [h0] at e
   rw [aZ1] at e
   by_cases hyn:y=n
   ·subst hyn
    simp only [beq_self_eq_true,Option.getD_some] at e
    rw [h0]; exact e
   ·have:(y == n)=false:=beq_eq_false_iff_ne.mpr hyn
    simp only [this] at e
    exact hc y d e
theorem tN {cells:List (Str × Addr)}:∀ (ns:List (Str × NameKind)) (cs:List (Str × Addr)) {x:Str},((x,NameKind.free) ∈ ns ∨ ∃ c,cs.lookup x=some c)->∃ c,(e9 cells ns cs).lookup x=some c
 | [],cs,x,h=>by
  rcases h with h | h
  ·simp at h
  ·exact h
 | (n,k) :: r,cs,x,h=>by
  unfold e9
  refine tN r _ ?_
  rcases h with h | ⟨c,h⟩
  ·rcases aU0.mp h with e | e
   ·cases e
    exact .inr ⟨_,by simp [aZ1]; rfl⟩
   ·exact .inl e
  ·right
   cases hk:(k == NameKind.free) with
   | false=>exact⟨c,by simpa [hk] using h⟩
   | true=>
    simp only [if_true]
    rw [aZ1]
    by_cases hxn:(x == n)=true
    ·simp only [hxn]; exact⟨_,rfl⟩
    ·simp only [be9.mpr hxn]; exact⟨c,h⟩
theorem pL {env:Env}:∀ {names:List (Str × NameKind)}{x:Str}{k:NameKind},(names.map fun (n,k)=>if (k == NameKind.free && env.scope.kind == .function && env.kindOf n == some .cell) then (n,NameKind.cell) else (n,k)).lookup x=some k->
  names.lookup x=some k ∨ (names.lookup x=some .free/\k = .cell)
 | [],_,_,h=>by simp at h
 | (n,q) :: r,x,k,h=>by
  have ih:=@pL env r x k
  rw [aV5] at h
  by_cases hx:(x == n)=true
  ·have e:x=n:=by simpa using hx
   subst e
   by_cases hc:(q == NameKind.free && env.scope.kind == .function && env.kindOf x == some .cell)=true
   ·simp only [hc,if_true,aZ1,beq_self_eq_true] at h
    have hq:q = .free:=by simp at hc; exact hc.1.1
    exact .inr ⟨by simp [aZ1,hq],(aV2 h).symm⟩
   ·simp only [hc,aV7,aZ7,aZ1,beq_self_eq_true] at h
    exact .inl (by simp [aZ1]; exact aV2 h)
  ·have hx':(x == n)=false:=be9.mpr hx
   have h':(r.map fun (n,k)=>if (k == NameKind.free && env.scope.kind == .function && env.kindOf n == some .cell) then (n,NameKind.cell) else (n,k)).lookup x=some k:=by
    by_cases hc:(q == NameKind.free && env.scope.kind == .function && env.kindOf n == some .cell)=true
    ·simp only [hc,if_true,aZ1,hx'] at h; exact h
    ·simp only [hc,aV7,aZ7,aZ1,hx'] at h; exact h
   simp only [aZ1,hx']
   exact ih h'
noncomputable def fM (fr:List (Option Nat)) (σ:St):St:=fr.map fun o=>o.bind fun j=>(σ[j]?).join
noncomputable def Wk (σ₁ σ₂:St):Prop:=σ₁.length=σ₂.length/\∀ (i:Nat) v,σ₁[i]? = some (some v)->σ₂[i]? = some (some v)
theorem Wk.refl (σ:St):Wk σ σ:=⟨rfl,fun _ _ h=>h⟩
theorem Wk.set {σ τ:St}{i:Nat}{v:V} (h:Wk σ τ) (hi:σ[i]? = some none):Wk σ (τ.set i (some v)):=by
 refine⟨by rw [aX4]; exact h.1,fun j w e=>?_⟩
 by_cases hj:j=i
 ·subst hj; rw [hi] at e; cases e
 ·rw [aW4 (Ne.symm hj)]; exact h.2 j w e
theorem iV:∀ (ns:List (Str × NameKind)) (n:Nat) (cs:List (Str × Addr)),cellsFrom n ns cs=cellsFrom n ns [] ++ cs
 | [],_,_=>rfl
 | (x,k) :: r,n,cs=>by
  unfold cellsFrom
  split
  ·rw [iV r (n+1) ((x,n) :: cs),iV r (n+1) [(x,n)]]; simp
  ·exact iV r n cs
theorem tO:∀ (ns:List (Str × NameKind)) (n:Nat) {x:Str}{c:Addr},(x,c) ∈ cellsFrom n ns []->(x,NameKind.cell) ∈ ns
 | [],_,_,_,h=>by simp [cellsFrom] at h
 | (y,k) :: r,n,x,c,h=>by
  unfold cellsFrom at h
  split at h
  ·rename_i hk
   rw [iV] at h
   rcases aT9.mp h with z | z
   ·exact aT5 _ (tO r _ z)
   ·rw [aT0] at z
    cases z
    have:k = .cell:=by simpa using hk
    rw [this]; exact aS8
  ·exact aT5 _ (tO r _ h)
theorem pM:∀ (ns:List (Str × NameKind)) (n:Nat) {x:Str},(x,NameKind.cell) ∈ ns->∃ c,(x,c) ∈ cellsFrom n ns []
 | (y,k) :: r,n,x,h=>by
  unfold cellsFrom
  rcases aU0.mp h with z | z
  ·cases z
   rw [if_pos (by rfl),iV]
   exact⟨n,aW2 _ (by simp)⟩
  ·split
   ·obtain ⟨c,hc⟩:=pM r (n+1) z
    rw [iV]
    exact⟨c,aX2 _ hc⟩
   ·exact pM r n z
theorem tP {α:Type}:∀ {l:List (Str × α)}{x:Str}{c:α},(x,c) ∈ l->∃ d,l.lookup x=some d
 | (y,v) :: r,x,c,h=>by
  rw [aZ1]
  cases hb:x == y with
  | true=>exact⟨v,rfl⟩
  | false=>
   rcases aU0.mp h with z | z
   ·cases z; simp at hb
   ·exact tP z
theorem pN {α:Type}{x:Str}:∀ (l r:List (Str × α)),(l ++ r).lookup x=(match l.lookup x with | some v=>some v | none=>r.lookup x)
 | [],_=>rfl
 | (y,v) :: l,r=>by
  rw [List.cons_append,aZ1,aZ1]
  cases hb:x == y with
  | true=>rfl
  | false=>exact pN l r
noncomputable def gJ (X:Cx) (scope:Scope) (C:Addr):List (Str × Addr):=cellsFrom (C+1) scope.names (e9 X.env.cells scope.names [])
theorem kF {X:Cx}{scope:Scope}{C:Addr}{x:Str}{c:Addr} (h:(gJ X scope C).lookup x=some c) :
  (x,c) ∈ cellsFrom (C+1) scope.names [] ∨ ((∀ d,(x,d) ∉ cellsFrom (C+1) scope.names [])/\(e9 X.env.cells scope.names []).lookup x=some c):=by
 unfold gJ at h
 rw [iV,pN] at h
 cases e:(cellsFrom (C+1) scope.names []).lookup x with
 | some v=>rw [e] at h; cases h; exact .inl (aY1 e)
 | none=>
  rw [e] at h
  refine .inr ⟨fun d hd=>?_,h⟩
  obtain ⟨d',z⟩:=tP hd
  rw [e] at z; cases z
theorem al3 {X:Cx}{scope:Scope}{C:Addr}{x:Str}{c:Addr} (hn:(x,NameKind.cell) ∉ scope.names) (h:(e9 X.env.cells scope.names []).lookup x=some c):(gJ X scope C).lookup x=some c:=by
 unfold gJ
 rw [iV,pN]
 cases e:(cellsFrom (C+1) scope.names []).lookup x with
 | some v=>exact absurd (tO _ _ (aY1 e)) hn
 | none=>exact h
theorem zZ {X:Cx}{scope:Scope}{C:Addr}{x:Str} (h:(x,NameKind.cell) ∈ scope.names ∨ ∃ c,(e9 X.env.cells scope.names []).lookup x=some c):∃ c,(gJ X scope C).lookup x=some c:=by
 unfold gJ
 rw [iV,pN]
 cases e:(cellsFrom (C+1) scope.names []).lookup x with
 | some v=>exact⟨v,rfl⟩
 | none=>
  rcases h with h | h
  ·obtain ⟨c,hc⟩:=pM scope.names (C+1) h
   obtain ⟨d,hd⟩:=tP hc
   rw [e] at hd; cases hd
  ·exact h
noncomputable def bI (X:Cx) (scope:Scope) (N:List Str) (s:Shared) (H:Hp) (C:Addr) (fp:List Addr) (E:Value->Shared->Prop):Cx:=
 { X with N:=N,s₀:=s,H₀:=H,env:=compEnvC scope (gJ X scope C) C X.env,outer:=X.stack,ex:=fp,fn:=fun x=>scope.names.lookup x == some .cell,pn:=[],xe:=E }
structure c9 (X:Cx) (scope:Scope) (N:List Str) (fr:List (Option Nat)):Prop where
 kind:scope.kind = .function
 own:∀ y ∈ scope.names,y.2 = .cell->scope.names.lookup y.1=some .cell
 names:∀ y ∈ scope.names,y.2 = .local->scope.names.lookup y.1=some .local
 free:∀ y ∈ scope.names,y.2 = .free->X.env.scope.names.lookup y.1=some .cell ∨ X.env.scope.names.lookup y.1=some .free
 len:fr.length=N.length
 from_:∀ (i j:Nat),fr[i]? = some (some j)->∃ x,N[i]? = some x/\X.N[j]? = some x/\scope.names.lookup x=some .free
section
variable {X : Cx} {pins : List (Addr × Obj)} {σ : St} {H : Hp} {s : Shared} {scope : Scope} {N : List Str} {fr : List (Option Nat)}
theorem c9.cells (S:c9 X scope N fr) (I:a6 X pins σ H s):∀ y ∈ scope.names,y.2 = .free->∃ c,X.env.cells.lookup y.1=some c:=fun y hy hk=>I.ok.has y.1 (S.free y hy hk)
theorem al4 {C D:Addr}{fp:List Addr}{E:Value->Shared->Prop}{h1:Heap}{tk:Nat}{m:Str->Option Value} (S:c9 X scope N fr) (I:a6 X pins σ H s)
  (hf:∀ b ∈ fp,gH X pins H b) (hfl:∀ b ∈ fp,b < s.heap.objs.size) (hD:s.heap.objs.size<=D) (hC:s.heap.objs.size<=C) (hDC:D < C)
  (old:∀ b o,s.heap.get? b=some o->h1.get? b=some o) (hns:h1.Ns C m) (hacc:h1.get? D=some { cls:=.type "list",data:=.seq #[] 0 }) (hco:CellsOk h1 (C+1) (cellsFrom (C+1) scope.names [])) :
  a6 (bI X scope N s H C fp E) [] (fM fr σ) (upd H D (.lst [])) { s with heap:=h1,toks:=tk }:=by
 have hHD:H D=none:=I.hok.fresh hD
 have cl:=S.cells I
 have cs:∀ {x:Str}{c:Addr},(e9 X.env.cells scope.names []).lookup x=some c->X.env.cells.lookup x=some c:=fun {x c} h=>pK scope.names [] cl (fun _ _ z=>by simp at z) h
 have clt:∀ {x:Str}{c:Addr},X.env.cells.lookup x=some c->c < s.heap.objs.size:=fun {x c} h=>by obtain ⟨v,z⟩:=I.cell x c h; exact z.lt
 have nge:∀ {x:Str}{c:Addr},(x,c) ∈ cellsFrom (C+1) scope.names []->C < c:=fun {x c} h=>(hco.empty x c h).2
 refine⟨⟨I.ok.mod,?_,I.ok.glob,I.ok.blt,hC,?_,?_,?_,I.ok.hd,I.ok.frames,.inl rfl,?_,I.bs,aX5 I.ok.bsz I.sz,?_,?_,I.stack,I.stkFree⟩,rfl,I.bare,Un.laid old hD hHD,⟨m,hns,?_⟩,?_,?_,?_,fun p hp=>absurd (show p ∈ ([]:List (Addr × Obj)) from hp) (by simp),?_,?_⟩
 ·exact S.kind
 ·intro x y c h1 h2
  rcases kF h1 with a | ⟨_,a⟩ <;> rcases kF h2 with b | ⟨_,b⟩
  ·exact name_of_addr hco.apart a b
  ·exact absurd (aU5 (Nat.lt_trans (nge a) (clt (cs b))) hC) (aX8 _)
  ·exact absurd (aU5 (Nat.lt_trans (nge b) (clt (cs a))) hC) (aX8 _)
  ·exact I.ok.inj x y c (cs a) (cs b)
 ·intro x hx
  have hx:(relabel scope X.env).names.lookup x=some .cell ∨ (relabel scope X.env).names.lookup x=some .free:=hx
  have fin:(x,NameKind.free) ∈ scope.names->∃ c,(gJ X scope C).lookup x=some c:=fun z=>zZ (.inr (tN scope.names [] (.inl z)))
  rcases hx with hx | hx
  ·rcases pL hx with z | z
   ·exact zZ (.inl (aY1 z))
   ·exact fin (aY1 z.1)
  ·rcases pL hx with z | z
   ·exact fin (aY1 z)
   ·exact absurd z.2 (by decide)
 ·intro x c hx h
  have hx:(scope.names.lookup x == some NameKind.cell)=true:=hx
  have hx:scope.names.lookup x=some .cell:=by simpa using hx
  rcases kF h with a | ⟨a,_⟩
  ·exact aX5 hC (aY6 (nge a))
  ·obtain ⟨d,hd⟩:=pM scope.names (C+1) (aY1 hx)
   exact absurd hd (a d)
 ·intro b hb
  refine⟨aW9 (aU5 (hfl b hb) hC),fun x c e=>?_⟩
  rcases kF e with a | ⟨_,a⟩
  ·exact bc1 (Nat.lt_trans (aU5 (hfl b hb) hC) (nge a))
  ·exact (hf b hb).2.2.2.2.1 x c (cs a)
 ·intro b o e hb
  rcases (hf b hb).2.2.2.1 with z | z
  ·exact I.ok.noex b o e z
  ·exact absurd (aU5 (aU7 e) (aX5 I.ok.bsz z)) (aX8 _)
 ·intro b hb z
  rcases aU0.mp (I.stkSub b z) with e | e
  ·exact (hf b hb).2.1 e
  ·exact (hf b hb).2.2.1 e
 ·intro i x v e1 e2 e3
  have e2:(fr.map fun o=>o.bind fun j=>(σ[j]?).join)[i]? = some (some v):=e2
  rw [aT7] at e2
  cases ef:fr[i]? with
  | none=>rw [ef] at e2; cases e2
  | some o=>
   rw [ef] at e2
   cases o with
   | none=>cases e2
   | some j=>
    have e2:some ((σ[j]?).join)=some (some v):=e2
    have ej:σ[j]? = some (some v):=by
     cases q:σ[j]? with
     | none=>rw [q] at e2; cases e2
     | some w=>rw [q] at e2; cases w with
      | none=>cases e2
      | some w=>cases e2; rfl
    obtain ⟨y,a1,a2,a4⟩:=S.from_ i j ef
    have e1:N[i]? = some x:=e1
    rw [e1] at a1
    cases a1
    have a3:(x,NameKind.free) ∈ scope.names:=aY1 a4
    have vis:gF X.env.scope x:=(S.free _ a3 rfl).elim (fun z=>.inr (.inl z)) fun z=>.inr (.inr z)
    obtain ⟨m0,hn0,hl0⟩:=I.loc
    obtain ⟨u,r,l⟩:=hl0 j x v a2 ej vis
    refine⟨u,r,.inr ⟨?_,?_⟩⟩
    ·have e3:(relabel scope X.env).names.lookup x=some .local ∨ (relabel scope X.env).names.lookup x=some .cell ∨ (relabel scope X.env).names.lookup x=some .free:=e3
     rcases e3 with z | z | z
     ·rcases pL z with y | y
      ·rw [a4] at y; cases y
      ·exact absurd y.2 (by decide)
     ·exact .inl z
     ·exact .inr z
    ·obtain ⟨c,hc⟩:=tN (cells:=X.env.cells) scope.names [] (x:=x) (.inl a3)
     refine⟨c,al3 (fun z=>by have:=S.own _ z rfl; rw [a4] at this; cases this) hc,?_⟩
     have hc':=cs hc
     have S1:=S.free (x,.free) a3 rfl
     rcases l with ⟨k,_⟩ | ⟨_,c2,hc2,z⟩
     ·have k:X.env.scope.names.lookup x=some .local:=k
      rcases S1 with q | q <;> (have q:X.env.scope.names.lookup x=_:=q; rw [k] at q; cases q)
     ·rw [hc'] at hc2; cases hc2
      obtain ⟨oc,ho,hd⟩:=z
      exact⟨oc,old c oc ho,hd⟩
 ·intro x c e
  rcases kF e with a | ⟨_,a⟩
  ·exact⟨_,(hco.empty x c a).1⟩
  ·obtain ⟨v,oc,ho,hd⟩:=I.cell x c (cs a)
   exact⟨v,oc,old c oc ho,hd⟩
 ·show upd H D (.lst []) C=none
  rw [aZ (bc1 hDC)]; exact I.hok.fresh hC
 ·intro x c e
  show upd H D (.lst []) c=none
  rcases kF e with a | ⟨_,a⟩
  ·rw [aZ (bc1 (Nat.lt_trans hDC (nge a)))]; exact I.hok.fresh (aX5 hC (aY6 (nge a)))
  ·have q:=cs a
   rw [aZ (aW9 (aU5 (clt q) hD))]
   exact I.freeC x c q
 ·exact I.hok.laid old hD ⟨aX6 _,[],0,.nil,hacc⟩
 ·show (fM fr σ).length=N.length
  unfold fM; rw [aS9]; exact S.len
end
noncomputable def jS (X:Cx) (ifs:List Expr) (t:TT):Prop:=
 ∀ (pins:List (Addr × Obj)) (s:Shared) (σ:St) (H:Hp) (Q:Bool->Hp->Prop),a6 X pins σ H s->t σ H Q->
  wpAny (model X.prog X.w) X.A (forIn ifs true fun c r=>if r=true then do let ok <- isTrue c X.env (eval c X.env); pure (ForInStep.yield ok) else pure (ForInStep.yield r)) (TP X pins σ Q) X.xe s
noncomputable def tQ:TT:=fun _ H Q=>Q true H
theorem nG {X:Cx}:jS X [] tQ:=fun _ _ _ H _ I h=>wpAny_tests_nil ⟨H,I,h⟩
theorem A0 {X:Cx}{c:Expr}{t:TT} (h:PT X c t):jS X [c] t:=fun pins s σ H Q I hq=>wpAny_tests_one (h pins s σ H Q I hq)
section
variable {prog : Program} {w : World} {A : Around}
noncomputable def tR (prog:Program) (w:World) (A:Around) (elt tg:Expr) (ifs:List Expr) (it acc:Value) (env:Env) (lost:Value->Shared->Prop) (stop next:Shared->Prop) (s:Shared):Prop:=
 let M:=model prog w
 let tests:Sem Bool:=forIn ifs true fun c r=>if r=true then do let ok <- isTrue c env (eval c env); pure (ForInStep.yield ok) else pure (ForInStep.yield r)
 let put:Shared->Prop:=wpAny M A (eval elt env) (fun x=>wpAny M A (call (.builtin "list.append") [acc,x]) (fun _=>next) lost) lost
 let taken:Value->Shared->Prop:=fun v=>wpAny M A (letOwnedTupleGo tg it v) (fun _=>wpAny M A (assign tg env v) (fun _=>wpAny M A tests (fun ok s'=>if ok=true then put s' else next s') lost) lost) lost
 wpAny M A (pyNext it) (fun r s'=>match r with
  | none=>stop s'
  | some v=>taken v s') lost s
theorem al5 {R:Result->Shared->Prop}{s:Shared}{elt tg iter:Expr}{ifs:List Expr}{scope:Scope}{pos:Pos}{it acc:Value}{env:Env} (I:Nat->Shared->Prop)
  (turn:∀ n s,I n s->tR prog w A elt tg ifs it acc env (notedBy (model prog w) A env fun e=>R (.error e)) (R (.ok .next)) (fun s'=>∃ m,m < n/\I m s') s) (n:Nat) (h:I n s) :
  codeAny (model prog w) A (.compLoop (.ListComp elt [⟨tg,iter,ifs,0⟩] scope pos) 0 it acc env) R s:=by
 apply codeAny_loop rfl I _ n h
 intro k s1 h1
 change wpAny _ A ((compTurn _ 0 it acc env).onRaise (fun x=>do noteFrame x env; theTreesLotGoes x)) _ _ s1
 apply wpAny_noted
 rw [compTurn_list]
 have t:=turn k s1 h1
 unfold tR at t
 apply aS6
 apply wpAny_standAt
 apply aS6
 refine ba6 t (fun r s2 h2=>?_) fun _ _ z=>z
 cases r with
 | none=>exact aT6 h2
 | some v=>
  apply aS6
  refine ba6 h2 (fun _ s3 h3=>?_) fun _ _ z=>z
  apply aS6
  refine ba6 h3 (fun _ s4 h4=>?_) fun _ _ z=>z
  apply aS6
  refine ba6 h4 (fun ok s5 h5=>?_) fun _ _ z=>z
  cases ok with
  | false=>exact aT6 ⟨rfl,h5⟩
  | true=>
   apply aS6
   apply aS6
   refine ba6 h5 (fun x s6 h6=>?_) fun _ _ z=>z
   apply aS6
   exact ba6 h6 (fun _ s7 h7=>aT6 (aT6 ⟨rfl,h7⟩)) fun _ _ z=>z
end
noncomputable def nH (g:TG) (tc:TT) (te:TE) (σ0:St) (J:It) (D:Addr) (Q:VK) (W:Nat->Nat->List V->Hp->Prop):Prop:=
 ∀ i m acc H',W i m acc H'->H' D=some (.lst acc)/\((J.stop i H'/\Q (.ref D) H') ∨ (J.go i H'/\∀ x H2,J.yld i H' x H2->g x σ0 H2 fun σ2 H3=>Wk σ0 σ2/\tc σ2 H3 fun b H4=>
  if b=true then te σ2 H4 fun v H5=>H5 D=some (.lst acc)/\acc.length < sizeLine/\∃ m',m' < m/\W (i+1) m' (acc ++ [v]) (upd H5 D (.lst (acc ++ [v]))) else ∃ m',m' < m/\W (i+1) m' acc H4))
noncomputable def A1 (wi:TI) (fr:List (Option Nat)) (g:TG) (tc:TT) (te:TE):TE:=fun σ H Q=>wi σ H fun J H1=>∀ D,H1 D=none->
 ∃ W:Nat->Nat->List V->Hp->Prop,(∃ m,W 0 m [] (upd H1 D (.lst [])))/\nH g tc te (fM fr σ) J D Q W
section
variable {M : Model} {A : Around} {E : Value → Shared → Prop} {s : Shared}
theorem al6 {scope:Scope}{globals:Addr}{cl:List (Str × Addr)}{qual:Str}{func:Option Addr}{code:Value}{builtins:Addr}{outer:Env}{Q:Env->Shared->Prop}
  (hQ:∀ h',h'.Ns s.heap.objs.size (fun _=>none)->(∀ b o,s.heap.get? b=some o->h'.get? b=some o)->CellsOk h' (s.heap.objs.size+1) (cellsFrom (s.heap.objs.size+1) scope.names [])->
   Q (newEnv scope s.heap.objs.size globals (cellsFrom (s.heap.objs.size+1) scope.names cl) qual func code (some outer) builtins) { s with heap:=h' }) :
  wpAny M A (newFunctionEnv scope globals cl [] qual func code (some outer) builtins) Q E s:=by
 simp only [newFunctionEnv,Option.isSome_some,if_true]
 refine aS6 (wpAny_alloc ?_)
 refine aS6 (wpAny_layCells _ (fun name kind cells=>by cases hkc:kind == NameKind.cell <;> simp [hkc]) _ _ _ _ ?_)
 have ok:=cellsFrom_ok scope.names (s.heap.push { cls:=.type "dict",data:=.dict #[] }) (s.heap.objs.size+1) [] ⟨fun _ _ hm=>(nomatch hm),be8⟩ (by rw [bh2]; exact aT2 _)
 rw [bh2] at ok
 rw [show ({ s with heap:=s.heap.push { cls:=.type "dict",data:=.dict #[] } }:Shared).heap.objs.size=s.heap.objs.size+1 from bh2 ..]
 rw [List.forIn_nil]
 refine aS6 (aT6 (aT6 (hQ _ ((Heap.Ns.new s.heap (.type "dict")).keeps (pushCells_keeps _ _)) (fun b o e=>pushCells_keeps _ _ b o (aS7 _ e)) ok)))
end
section
variable {X : Cx} {pins : List (Addr × Obj)} {σ : St} {H : Hp} {s : Shared} {scope : Scope} {N : List Str} {fr : List (Option Nat)} {tg iter elt : Expr} {ifs : List Expr} {pos : Pos} {wi : TI} {g : TG} {tc : TT} {te : TE}
structure lN (X:Cx) (scope:Scope) (N:List Str) (tg:Expr) (ifs:List Expr) (elt:Expr) (s:Shared) (H:Hp) (g:TG) (tc:TT) (te:TE):Prop where
 tg:∀ (C:Addr) (fp:List Addr),PG (bI X scope N s H C fp fun _ _=>False) tg g
 ifs:∀ (C:Addr) (fp:List Addr),jS (bI X scope N s H C fp fun _ _=>False) ifs tc
 elt:∀ (C:Addr) (fp:List Addr),PE (bI X scope N s H C fp fun _ _=>False) elt te
structure nI (X:Cx) (scope:Scope) (N:List Str) (tg:Expr) (ifs:List Expr) (elt:Expr) (g:TG) (tc:TT) (te:TE):Prop where
 tg:∀ (s:Shared) (H:Hp) (C:Addr) (fp:List Addr),PG (bI X scope N s H C fp fun _ _=>False) tg g
 ifs:∀ (s:Shared) (H:Hp) (C:Addr) (fp:List Addr),jS (bI X scope N s H C fp fun _ _=>False) ifs tc
 elt:∀ (s:Shared) (H:Hp) (C:Addr) (fp:List Addr),PE (bI X scope N s H C fp fun _ _=>False) elt te
theorem nI.at (B:nI X scope N tg ifs elt g tc te) (s:Shared) (H:Hp):lN X scope N tg ifs elt s H g tc te:=⟨B.tg s H,B.ifs s H,B.elt s H⟩
theorem al7 {C:Addr}{fp:List Addr}{E:Value->Shared->Prop}{pins':List (Addr × Obj)}{σ':St}{H':Hp}{s':Shared} (I:a6 X pins σ H s) (hf:∀ b ∈ fp,gH X pins H b) (I':a6 (bI X scope N s H C fp E) pins' σ' H' s'):a6 X pins σ H' s':=
 I.call' (ch:=fp) I'.os I'.base I'.hok I'.bare fun b hb=>⟨(hf b hb).2.2.2.1,(hf b hb).2.1,(hf b hb).2.2.2.2.1,(hf b hb).2.2.2.2.2⟩
theorem pO {Rr:Value->Addr->Result->Shared->Prop}{J:It}{fp:List Addr}{it:Addr}{tn:Nat->Heap->Prop}{Q:VK}
  (hc:X.calm=true) (S:c9 X scope N fr) (B:lN X scope N tg ifs elt s H g tc te) (I:a6 X pins σ H s) (T:iP X.prog X.w X.K tg J fp it tn) (hst:tn 0 s.heap) (hf:∀ b ∈ fp,gH X pins H b)
  (h:∀ D,H D=none->∃ W:Nat->Nat->List V->Hp->Prop,(∃ m,W 0 m [] (upd H D (.lst [])))/\nH g tc te (fM fr σ) J D Q W)
  (hend:∀ (D C:Addr) (s':Shared) (H':Hp) (m:Str->Option Value),s.heap.objs.size<=C->s.heap.objs.size<=D->a6 X pins σ H' s'->s'.heap.Ns C m->H' C=none->Q (.ref D) H'->Rr (.ref D) C (.ok .next) s') :
  wpAny (model X.prog X.w) X.A (newList []) (fun acc s₃=>wpAny (model X.prog X.w) X.A (newFunctionEnv scope X.env.globals (e9 X.env.cells scope.names []) [] X.env.qual none .none (some X.env)) (fun cenv s₄=>
   codeAny (model X.prog X.w) X.A (.compStart (.ListComp elt [⟨tg,iter,ifs,0⟩] scope pos) 0 (.ref it) acc { cenv with scope:=relabel scope X.env }) (Rr acc cenv.locals) s₄) X.xe s₃) X.xe s:=by
 refine aY2 (al6 (fun h₁ hns₁ keep₁ hco₁=>?_))
 dsimp only at hns₁ keep₁ hco₁ ⊢
 generalize hH2:s.heap.push { cls:=.type "list",dict:=none,data:=.seq ([]:List Value).toArray }=H2 at hns₁ keep₁ hco₁ ⊢
 have hC:H2.objs.size=s.heap.objs.size+1:=by rw [<- hH2,bh2]
 have hDC:s.heap.objs.size < H2.objs.size:=by rw [hC]; exact Nat.lt_succ_self _
 have hCle:s.heap.objs.size<=H2.objs.size:=by rw [hC]; exact Nat.le_succ _
 have old:∀ b o,s.heap.get? b=some o->h₁.get? b=some o:=fun b o e=>keep₁ b o (hH2 ▸ aS7 _ e)
 have hacc:h₁.get? s.heap.objs.size=some { cls:=.type "list",data:=.seq #[] 0 }:=keep₁ _ _ (hH2 ▸ aU9 _ rfl)
 have hfl:∀ b ∈ fp,b < s.heap.objs.size:=fun b hb=>by obtain ⟨o,e,_⟩:=T.obj _ _ hst b hb; exact aU7 e
 obtain ⟨W,⟨m0,w0⟩,turn⟩:=h s.heap.objs.size (I.hok.fresh (aT2 _))
 have st1:tn 0 h₁:=T.keep _ _ _ hst fun b _ o e=>old b o e
 have fr0:∀ b ∈ fp,upd H s.heap.objs.size (.lst []) b=none:=fun b hb=>by rw [aZ (aW9 (hfl b hb))]; exact (hf b hb).1
 have stat:∀ {H':Hp},(∀ b ∈ fp,H' b=none)->∀ b ∈ fp,gH (bI X scope N s H H2.objs.size fp fun _ _=>False) [] H' b:=fun {H'} hn b hb=>by
  have f:=hf b hb
  refine⟨hn b hb,aW9 (aU5 (hfl b hb) hCle),fun z=>?_,.inl hb,fun x c e=>(kF e).elim (fun z=>bc1 (Nat.lt_trans (aU5 (hfl b hb) hCle) (hco₁.empty x c z).2)) fun z=>f.2.2.2.2.1 x c (pK scope.names [] (S.cells I) (fun _ _ z=>by simp at z) z.2),fun p hp=>absurd (show p ∈ ([]:List (Addr × Obj)) from hp) (by simp)⟩
  rcases aU0.mp (I.stkSub b z) with e | e
  ·exact f.2.1 e
  ·exact f.2.2.1 e
 generalize hX:bI X scope N s H H2.objs.size fp (fun _ _=>False)=Y at stat
 have I0:a6 Y [] (fM fr σ) (upd H s.heap.objs.size (.lst [])) { s with heap:=h₁ }:=hX ▸ al4 S I hf hfl (aT2 _) hCle hDC old hns₁ hacc hco₁
 have bt:PG Y tg g:=hX ▸ B.tg H2.objs.size fp
 have bi:jS Y ifs tc:=hX ▸ B.ifs H2.objs.size fp
 have be:PE Y elt te:=hX ▸ B.elt H2.objs.size fp
 have eP:Y.prog=X.prog:=by rw [<- hX]; rfl
 have ew:Y.w=X.w:=by rw [<- hX]; rfl
 have eK:Y.K=X.K:=by rw [<- hX]; rfl
 have eA:Y.A=X.A:=by rw [<- hX]; rfl
 have eE:Y.env=compEnvC scope (gJ X scope H2.objs.size) H2.objs.size X.env:=by rw [<- hX]; rfl
 have eX:Y.xe=fun _ _=>False:=by rw [<- hX]; rfl
 have ec:Y.calm=true:=by rw [<- hX]; exact hc
 have never:∀ {E:Value->Shared->Prop} (e:Value) (s':Shared),Y.xe e s'->E e s':=fun {E} e s' z=>by rw [eX] at z; exact z.elim
 have out:∀ {pins' σ' H' s'},a6 Y pins' σ' H' s'->a6 X pins σ H' s':=fun {_ _ _ _} I'=>al7 (C:=H2.objs.size) (E:=fun _ _=>False) (scope:=scope) (N:=N) I hf (hX ▸ I')
 have loop:codeAny (model X.prog X.w) X.A (.compLoop (.ListComp elt [⟨tg,iter,ifs,0⟩] scope pos) 0 (.ref it) (.ref s.heap.objs.size) (compEnvC scope (gJ X scope H2.objs.size) H2.objs.size X.env))
   (Rr (.ref s.heap.objs.size) H2.objs.size) { s with heap:=h₁ }:=by
  refine al5 (fun n s'=>∃ i acc H',a6 Y [] (fM fr σ) H' s'/\tn i s'.heap/\(∀ b ∈ fp,H' b=none)/\W i n acc H') ?_ m0 ⟨0,[],_,I0,st1,fr0,w0⟩
  rintro n s3 ⟨i,acc,H3,I3,st3,fr3,w3⟩
  unfold tR
  dsimp only
  obtain ⟨hD3,step⟩:=turn i n acc H3 w3
  rcases step with ⟨stop,qn⟩ | ⟨go,step⟩
  ·have z:=T.done Y eP ew eK ec i [] s3 _ H3 (notedBy (model X.prog X.w) X.A (compEnvC scope (gJ X scope H2.objs.size) H2.objs.size X.env) fun e s'=>Rr (.ref s.heap.objs.size) H2.objs.size (.error e) s') I3 (stat fr3) st3 stop
   rw [eA] at z
   refine aO z fun r s4 ⟨hr,I4⟩=>?_
   subst hr
   obtain ⟨m4,hn4,_⟩:=I4.loc
   rw [eE] at hn4
   have f4:=I4.free
   rw [eE] at f4
   exact hend _ _ s4 H3 m4 hCle (aT2 _) (out I4) hn4 f4 qn
  ·have z:=T.item Y eP ew eK ec i [] s3 _ H3 (notedBy (model X.prog X.w) X.A (compEnvC scope (gJ X scope H2.objs.size) H2.objs.size X.env) fun e s'=>Rr (.ref s.heap.objs.size) H2.objs.size (.error e) s') I3 (stat fr3) st3 go
   rw [eA] at z
   refine aO z fun r s4 ⟨u,hr,h4⟩=>?_
   subst hr
   refine aO h4 fun _ s5 ⟨x,H5,I5,r5,y5,st5,fr5⟩=>?_
   have I5':=I5.pinned (stat fr5) (T.obj _ _ st5)
   have q1:=bt _ s5 _ H5 x u _ I5' r5 (step x H5 y5)
   rw [eP,ew,eA,eE] at q1
   refine ba6 q1 (fun _ s6 ⟨σ6,H6,I6,wk,q6⟩=>?_) never
   have q2:=bi _ s6 σ6 H6 _ I6 q6
   rw [eP,ew,eA,eE] at q2
   refine ba6 q2 (fun b s7 ⟨H7,I7,q7⟩=>?_) never
   have again:∀ {H8:Hp}{s8:Shared}{acc':List V},a6 Y ([] ++ mT fp s5.heap) σ6 H8 s8->(∃ m',m' < n/\W (i+1) m' acc' H8)->∃ m,m < n/\∃ i acc H',a6 Y [] (fM fr σ) H' s8/\tn i s8.heap/\(∀ b ∈ fp,H' b=none)/\W i m acc H':=fun {H8 s8 acc'} I8 n8=>by
    obtain ⟨m',hm,w8⟩:=n8
    refine⟨m',hm,i+1,acc',H8,(I8.unpinned).weak wk.1 wk.2,T.keep _ _ _ st5 fun b hb o e=>(I8.pin (b,o) (aW2 _ (aW2 _ (p7 hb e)))).1,fun b hb=>?_,w8⟩
    obtain ⟨o,e,d⟩:=T.obj _ _ st5 b hb
    exact (I8.pin (b,o) (aW2 _ (aW2 _ (p7 hb e)))).2.1
   cases b with
   | false=>
    rw [if_neg aV1] at q7 ⊢
    exact again I7 q7
   | true=>
    rw [if_pos rfl] at q7 ⊢
    have q3:=be _ s7 σ6 H7 _ I7 q7
    rw [eP,ew,eA,eE] at q3
    refine ba6 q3 (fun v s8 ⟨y,H8,I8,r8,hD8,hz8,q8⟩=>?_) never
    have q4:=lK _ s8 σ6 H8 (.ref s.heap.objs.size) [y] (.ref s.heap.objs.size) [v] (fun _ H9=>∃ m',m' < n/\W (i+1) m' (acc ++ [y]) H9) I8 rfl (.cons r8 .nil) ⟨_,_,_,rfl,rfl,hD8,hz8,q8⟩
    rw [eP,ew,eA] at q4
    exact ba6 q4 (fun _ s9 ⟨_,H9,I9,_,q9⟩=>again I9 q9) never
 exact codeAny_compStart_list loop (T.self _ 0 _ _ _ st1 loop)
end
section
variable {X : Cx} {scope : Scope} {N : List Str} {fr : List (Option Nat)} {tg iter elt : Expr} {ifs : List Expr} {pos : Pos} {wi : TI} {g : TG} {tc : TT} {te : TE}
theorem a6.drop {pins:List (Addr × Obj)}{σ:St}{H H':Hp}{s s':Shared}{C:Addr}{h':Heap} (I0:a6 X pins σ H s) (hC:s.heap.objs.size<=C) {σ':St} (I:a6 X pins σ' H' s') (hn:H' C=none) (sb:Heap.SameBut C s'.heap h'):a6 X pins σ' H' { s' with heap:=h' }:=by
 refine I.turned (t':=s'.toks) (it:=C) (fun b o hb e=>(sb.2 b hb).trans e) hn (bc1 (aU5 I0.lt hC)) (.inr (aX5 I0.sz hC)) (fun x c e z=>?_) fun p hp z=>?_
 ·obtain ⟨v,q⟩:=I0.cell x c e
  exact absurd (aU5 q.lt (by rw [z]; exact hC)) (aX8 _)
 ·exact absurd (aU5 (aU7 (I0.pin p hp).1) (by rw [z]; exact hC)) (aX8 _)
theorem A3 (hc:X.calm=true) (S:c9 X scope N fr) (hi:PI X tg iter wi) (B:nI X scope N tg ifs elt g tc te)
  (hs:∀ x,foldedSetIterable iter X.env x=pure x:=by intro _; rfl):PE X (.ListComp elt [⟨tg,iter,ifs,0⟩] scope pos) (A1 wi fr g tc te):=by
 intro pins s σ H Q I h
 rw [eval_ListComp]
 refine wpAny_comprehension_free (use:=none) rfl hs (pJ (S.cells I)) S.kind S.names (aO (hi pins s σ H _ I h) fun v s1 h1=>aO h1 fun itv s2 h2=>?_)
 obtain ⟨it,fp,tn,J,H2,e,I2,T,st2,f2,hW⟩:=h2
 subst e
 refine pO (Rr:=fun acc C=>compPost (model X.prog X.w) X.A X.xe none (EP X pins σ Q) acc C) hc S (B.at _ _) I2 T st2 f2 hW ?_
 intro D C s' H' m hC hD I' hns hHC q
 exact⟨m,hns,fun h' sb=>⟨.ref D,H',I2.drop hC I' hHC sb,rfl,q⟩⟩
theorem A4 {i:Nat}{x:Str}{px spos:Pos} (hc:X.calm=true) (S:c9 X scope N fr) (hi:PI X tg iter wi) (B:nI X scope N tg ifs elt g tc te) (hN:X.N.Nodup) (hix:X.N[i]? = some x) (hx:X.env.scope.names.lookup x=some .local)
  (hsw:swapsWith (.ListComp elt [⟨tg,iter,ifs,0⟩] scope pos) (some (.Name x px)) spos.line X.env=pure true) (hs:∀ x,foldedSetIterable iter X.env x=pure x:=by intro _; rfl) :
  PS X (.Assign [.Name x px] (.ListComp elt [⟨tg,iter,ifs,0⟩] scope pos) spos) (jO (A1 wi fr g tc te) (cB i)):=by
 intro pins s σ H D I h
 rw [exec_Assign_Name_used _ _ _ _ hsw]
 refine aS6 (wpAny_standAt (aS6 ?_))
 show wpAny _ _ (do let _ <- comprehension (.ListComp elt [⟨tg,iter,ifs,0⟩] scope pos) scope X.env _ (newList []) false (eval iter X.env) (some (assign (.Name x px) X.env))) _ _ s
 refine aS6 (ba6 (wpAny_comprehension_free (Q:=fun _ s'=>SP X pins D .next s') (use:=some (assign (.Name x px) X.env)) rfl hs (pJ (S.cells I)) S.kind S.names (aO (hi pins s σ H _ I h) fun v s1 h1=>aO h1 fun itv s2 h2=>?_))
  (fun _ s' hq=>aT6 (aT6 hq)) fun _ _ e=>e)
 obtain ⟨it,fp,tn,J,H2,e,I2,T,st2,f2,hW⟩:=h2
 subst e
 refine pO (Rr:=fun acc C=>compPost (model X.prog X.w) X.A X.xe (some (assign (.Name x px) X.env)) (fun _ s'=>SP X pins D .next s') acc C) hc S (B.at _ _) I2 T st2 f2 hW ?_
 intro D' C s' H' m hC hD I' hns hHC q
 refine wpAny_assign_Name (sF I' hN hix (.inl hx) (v:=.ref D') rfl (fun s'' I'' sb=>?_) (.inr hx))
 obtain ⟨a,sb,ha⟩:=sb
 have hCa:C ≠ a:=by
  rcases ha with z | z
  ·rw [z]; exact bc1 (aU5 I2.lt hC)
  ·intro e; subst e
   obtain ⟨v,q⟩:=I2.cell x _ z
   exact absurd (aU5 q.lt hC) (aX8 _)
 exact⟨m,hns.sameBut sb hCa,fun h' sb'=>⟨_,H',I2.drop hC I'' hHC sb',q⟩⟩
variable {gh : Hp → TG} {tch : Hp → TT} {teh : Hp → TE}
noncomputable def tS (wi:TI) (fr:List (Option Nat)) (gh:Hp->TG) (tch:Hp->TT) (teh:Hp->TE):TE:=fun σ H Q=>wi σ H fun J H1=>∀ D,H1 D=none->
 ∃ W:Nat->Nat->List V->Hp->Prop,(∃ m,W 0 m [] (upd H1 D (.lst [])))/\nH (gh H1) (tch H1) (teh H1) (fM fr σ) J D Q W
theorem pP (hc:X.calm=true) (S:c9 X scope N fr) (hi:PI X tg iter wi) (B:∀ (s:Shared) (H:Hp),lN X scope N tg ifs elt s H (gh H) (tch H) (teh H))
  (hs:∀ x,foldedSetIterable iter X.env x=pure x:=by intro _; rfl):PE X (.ListComp elt [⟨tg,iter,ifs,0⟩] scope pos) (tS wi fr gh tch teh):=by
 intro pins s σ H Q I h
 rw [eval_ListComp]
 refine wpAny_comprehension_free (use:=none) rfl hs (pJ (S.cells I)) S.kind S.names (aO (hi pins s σ H _ I h) fun v s1 h1=>aO h1 fun itv s2 h2=>?_)
 obtain ⟨it,fp,tn,J,H2,e,I2,T,st2,f2,hW⟩:=h2
 subst e
 refine pO (Rr:=fun acc C=>compPost (model X.prog X.w) X.A X.xe none (EP X pins σ Q) acc C) hc S (B _ _) I2 T st2 f2 hW ?_
 intro D C s' H' m hC hD I' hns hHC q
 exact⟨m,hns,fun h' sb=>⟨.ref D,H',I2.drop hC I' hHC sb,rfl,q⟩⟩
theorem tT {i:Nat}{x:Str}{px spos:Pos} (hc:X.calm=true) (S:c9 X scope N fr) (hi:PI X tg iter wi) (B:∀ (s:Shared) (H:Hp),lN X scope N tg ifs elt s H (gh H) (tch H) (teh H)) (hN:X.N.Nodup) (hix:X.N[i]? = some x) (hx:X.env.scope.names.lookup x=some .local)
  (hsw:swapsWith (.ListComp elt [⟨tg,iter,ifs,0⟩] scope pos) (some (.Name x px)) spos.line X.env=pure true) (hs:∀ x,foldedSetIterable iter X.env x=pure x:=by intro _; rfl) :
  PS X (.Assign [.Name x px] (.ListComp elt [⟨tg,iter,ifs,0⟩] scope pos) spos) (jO (tS wi fr gh tch teh) (cB i)):=by
 intro pins s σ H D I h
 rw [exec_Assign_Name_used _ _ _ _ hsw]
 refine aS6 (wpAny_standAt (aS6 ?_))
 show wpAny _ _ (do let _ <- comprehension (.ListComp elt [⟨tg,iter,ifs,0⟩] scope pos) scope X.env _ (newList []) false (eval iter X.env) (some (assign (.Name x px) X.env))) _ _ s
 refine aS6 (ba6 (wpAny_comprehension_free (Q:=fun _ s'=>SP X pins D .next s') (use:=some (assign (.Name x px) X.env)) rfl hs (pJ (S.cells I)) S.kind S.names (aO (hi pins s σ H _ I h) fun v s1 h1=>aO h1 fun itv s2 h2=>?_))
  (fun _ s' hq=>aT6 (aT6 hq)) fun _ _ e=>e)
 obtain ⟨it,fp,tn,J,H2,e,I2,T,st2,f2,hW⟩:=h2
 subst e
 refine pO (Rr:=fun acc C=>compPost (model X.prog X.w) X.A X.xe (some (assign (.Name x px) X.env)) (fun _ s'=>SP X pins D .next s') acc C) hc S (B _ _) I2 T st2 f2 hW ?_
 intro D' C s' H' m hC hD I' hns hHC q
 refine wpAny_assign_Name (sF I' hN hix (.inl hx) (v:=.ref D') rfl (fun s'' I'' sb=>?_) (.inr hx))
 obtain ⟨a,sb,ha⟩:=sb
 have hCa:C ≠ a:=by
  rcases ha with z | z
  ·rw [z]; exact bc1 (aU5 I2.lt hC)
  ·intro e; subst e
   obtain ⟨v,q⟩:=I2.cell x _ z
   exact absurd (aU5 q.lt hC) (aX8 _)
 exact⟨m,hns.sameBut sb hCa,fun h' sb'=>⟨_,H',I2.drop hC I'' hHC sb',q⟩⟩
end
theorem bL {H:Hp}{p:Addr} (h:H p=none) (o:HO):aC H (upd H p o):=fun b u q=>by rw [aZ (dD q h)]; exact q
theorem aC.tup {K:PySem.W.Frag}{H H':Hp}{a:Addr}{xs:List V} (e:aC H H') (h:aQ K H a xs):aQ K H' a xs:=by
 rcases h with (h | ⟨o,h⟩) | h
 ·exact .inl (.inl (e _ _ h))
 ·exact .inl (.inr ⟨o,e _ _ h⟩)
 ·exact .inr h
structure A5 (H:Hp) (J:It) (xs:List V):Prop where
 go:∀ i H',aC H H'->i < xs.length->J.go i H'
 yld:∀ i H' x H2,aC H H'->J.yld i H' x H2->i < xs.length->xs[i]? = some x/\H2=H'
 stop:∀ H',aC H H'->J.stop xs.length H'
theorem A6 {K:PySem.W.Frag}{H:Hp}{a:Addr}{xs:List V} (h:aQ K H a xs):A5 H (jP K a) xs:=
 ⟨fun i H' e hi=>⟨xs,xs[i],e.tup h,by simp [hi]⟩,fun i H' x H2 e y hi=>⟨y.2 xs (e.tup h),y.1⟩,fun H' e=>⟨xs,e.tup h,aT2 _⟩⟩
noncomputable def gK (lo:Int) (n:Nat):List V:=(List.range n).map fun (i:Nat)=>V.int (lo+(i:Int))
theorem pQ (lo:Int) (n:Nat):(gK lo n).length=n:=by unfold gK; rw [aS9,List.length_range]
noncomputable def CW (H1:Hp) (D:Addr) (n:Nat) (Pv:Nat->List V->Hp->Prop):Nat->Nat->List V->Hp->Prop:=fun i m acc H'=>m=n - i/\i<=n/\acc.length<=i/\aC H1 H'/\H' D=some (.lst acc)/\Pv i acc H'
noncomputable def tU (H1:Hp) (D:Addr) (n:Nat) (Pv:Nat->List V->Hp->Prop) (i:Nat) (acc:List V) (v:V) (H5:Hp):Prop:=H5 D=some (.lst acc)/\acc.length < sizeLine/\∃ m',m' < n - i/\CW H1 D n Pv (i+1) m' (acc ++ [v]) (upd H5 D (.lst (acc ++ [v])))
noncomputable def A7 (H1:Hp) (D:Addr) (n:Nat) (Pv:Nat->List V->Hp->Prop) (i:Nat) (acc:List V) (H4:Hp):Prop:=∃ m',m' < n - i/\CW H1 D n Pv (i+1) m' acc H4
structure pR (H1:Hp) (D:Addr) (n i:Nat) (acc:List V) (H':Hp):Prop where
 lt:i < n
 few:acc.length<=i
 sz:n<=sizeLine
 same:aC H1 H'
 new:H1 D=none
 acc:H' D=some (.lst acc)
theorem pR.yes {H1:Hp}{D:Addr}{n i:Nat}{acc:List V}{H' H5:Hp}{Pv:Nat->List V->Hp->Prop}{v:V} (c:pR H1 D n i acc H') (s:aC H' H5) (p:Pv (i+1) (acc ++ [v]) (upd H5 D (.lst (acc ++ [v])))):tU H1 D n Pv i acc v H5:=by
 refine⟨s _ _ c.acc,Nat.lt_of_le_of_lt c.few (aU5 c.lt c.sz),_,?_,rfl,c.lt,?_,fun b o e=>?_,bK,p⟩
 ·have:=c.lt; omega
 ·rw [aU6,aW5]; exact Nat.succ_le_succ c.few
 ·rw [aZ (dD e c.new)]; exact s _ _ (c.same _ _ e)
theorem A8 {H1:Hp}{J:It}{xs:List V}{g:TG}{tc:TT}{te:TE}{σ0:St}{Q:VK} (O:A5 H1 J xs) (Pv:Nat->List V->Hp->Prop) (hn:xs.length<=sizeLine)
  (h0:∀ D,H1 D=none->Pv 0 [] (upd H1 D (.lst [])))
  (hs:∀ i x acc D H',xs[i]? = some x->pR H1 D xs.length i acc H'->Pv i acc H'->g x σ0 H' fun σ2 H3=>Wk σ0 σ2/\tc σ2 H3 fun b H4=>
   if b=true then te σ2 H4 fun v H5=>tU H1 D xs.length Pv i acc v H5 else A7 H1 D xs.length Pv i acc H4)
  (hd:∀ D acc H',H1 D=none->aC H1 H'->H' D=some (.lst acc)->acc.length<=xs.length->Pv xs.length acc H'->Q (.ref D) H') :
  ∀ D,H1 D=none->∃ W:Nat->Nat->List V->Hp->Prop,(∃ m,W 0 m [] (upd H1 D (.lst [])))/\nH g tc te σ0 J D Q W:=by
 intro D hD
 refine⟨CW H1 D xs.length Pv,⟨xs.length,rfl,aX6 _,aT2 _,bL hD _,bK,h0 D hD⟩,?_⟩
 rintro i m acc H' ⟨rfl,hi,ha,sm,hDa,p⟩
 refine⟨hDa,?_⟩
 by_cases hlt:i < xs.length
 ·refine .inr ⟨O.go i H' sm hlt,fun x H2 y=>?_⟩
  obtain ⟨hx,e⟩:=O.yld i H' x H2 sm y hlt
  subst e
  exact hs i x acc D H2 hx ⟨hlt,ha,hn,sm,hD,hDa⟩ p
 ·have e:i=xs.length:=by omega
  subst e
  exact .inl ⟨O.stop H' sm,hd D acc H' hD sm hDa ha p⟩
end L2
namespace Srt
open PySem PySem.W PyProof.Rows
noncomputable abbrev G (p:Array Nat) (i:Nat):Nat:=p.getD i 0
theorem nJ {p q:Array Nat}{i j:Nat} (h:p[i]? = q[j]?):G p i=G q j:=by
 unfold G; rw [bc8,bc8,h]
theorem tV {p:Array Nat}{i j:Nat} (hj:j<=p.size) (k:Nat):G (kas_rev p i j) k=if i<=k/\k < j then G p (i+j - 1 - k) else G p k:=by
 have e:=getElem?_mirror_all (i:=i) hj k
 unfold kas_rev
 by_cases h1:i<=k/\k < j
 ·rw [if_pos h1] at e ⊢; exact nJ e
 ·rw [if_neg h1] at e ⊢; exact nJ e
theorem al8 {p:Array Nat}{src d:Nat} (hs:src < p.size) (hd:d<=src) (k:Nat):G (bubble p src d) k=if k=src - d then G p src else if src - d < k/\k<=src then G p (k - 1) else G p k:=by
 have e:=getElem?_bubble hs d hd k
 by_cases h1:k=src - d
 ·rw [if_pos h1] at e ⊢; exact nJ e
 ·rw [if_neg h1] at e ⊢
  by_cases h2:src - d < k/\k<=src
  ·rw [if_pos h2] at e ⊢; exact nJ e
  ·rw [if_neg h2] at e ⊢; exact nJ e
noncomputable def PP (n:Nat) (p:Array Nat):Prop:=p.toList.Perm (List.range n)
theorem PP.size {n:Nat}{p:Array Nat} (h:PP n p):p.size=n:=by
 have:=h.length_eq
 rw [List.length_range] at this
 simpa using this
theorem PP.lt {n:Nat}{p:Array Nat} (h:PP n p) {k:Nat} (hk:k < n):G p k < n:=by
 have hs:=h.size
 have hk':k < p.toList.length:=by simpa [hs] using hk
 have e:G p k=p.toList[k]:=by
  unfold G; rw [bc8]; simp [hs,hk]
 have m:p.toList[k] ∈ p.toList:=List.getElem_mem hk'
 rw [e]
 exact bh1.mp (h.mem_iff.mp m)
theorem PP.of {n:Nat}{p q:Array Nat} (h:PP n p) (e:q.Perm p):PP n q:=(Array.perm_iff_toList_perm.mp e).trans h
theorem PP.rev {n:Nat}{p:Array Nat} (h:PP n p) (i j:Nat):PP n (kas_rev p i j):=h.of (mirror_perm _ _ _ _)
theorem PP.bub {n:Nat}{p:Array Nat} (h:PP n p) (i j:Nat):PP n (bubble p i j):=h.of (bubble_perm _ _ _)
structure tW (c:Nat->Nat->Bool):Prop where
 asym:∀ {i j},c i j=true->c j i=false
 ntr:∀ {i j k},c i j=false->c j k=false->c i k=false
section
variable {c : Nat → Nat → Bool} (O : tW c)
noncomputable def Le (c:Nat->Nat->Bool) (i j:Nat):Prop:=c j i=false
include O
theorem le_refl (i:Nat):Le c i i:=by
 unfold Le
 cases h:c i i with
 | false=>rfl
 | true=>have:=O.asym h; rw [h] at this; exact this
theorem le_trans {i j k:Nat} (h1:Le c i j) (h2:Le c j k):Le c i k:=O.ntr h2 h1
theorem pS {i j:Nat} (h:c i j=true):Le c i j:=O.asym h
omit O
noncomputable def fN (c:Nat->Nat->Bool) (p:Array Nat) (n:Nat):Prop:=∀ a b,a<=b->b < n->Le c (G p a) (G p b)
noncomputable def jT (c:Nat->Nat->Bool) (p:Array Nat) (n:Nat):Prop:=∀ a b,a<=b->b < n->Le c (G p b) (G p a)
include O
theorem al9 {p:Array Nat}{n:Nat} (h:fN c p n) (h1:1<=n) (hl:Le c (G p (n - 1)) (G p n)):fN c p (n+1):=fun a b hab hb=>by
 by_cases hbn:b < n
 ·exact h a b hab hbn
 ·have e:b=n:=by omega
  subst e
  by_cases han:a=b
  ·subst han; exact le_refl O _
  ·exact le_trans O (h a (b - 1) (by omega) (by omega)) hl
theorem pT {p:Array Nat}{n:Nat} (h:jT c p n) (h1:1<=n) (hl:Le c (G p n) (G p (n - 1))):jT c p (n+1):=fun a b hab hb=>by
 by_cases hbn:b < n
 ·exact h a b hab hbn
 ·have e:b=n:=by omega
  subst e
  by_cases han:a=b
  ·subst han; exact le_refl O _
  ·exact le_trans O hl (h a (b - 1) (by omega) (by omega))
omit O
noncomputable def bT {α:Type} (n:Nat) (c:Nat->Nat->Bool) (R:α->Prop):KasT α->Prop
 | .ret a=>R a
 | .ask i j k=>i < n/\j < n/\bT n c R (k (c i j))
theorem bT.mono {α:Type}{n:Nat}{R R':α->Prop} (h:∀ a,R a->R' a):∀ (t:KasT α),bT n c R t->bT n c R' t
 | .ret a,q=>h a q
 | .ask i j k,q=>⟨q.1,q.2.1,bT.mono h (k (c i j)) q.2.2⟩
theorem bT.bind {α β:Type}{n:Nat}{R:α->Prop}{R':β->Prop}{f:α->KasT β} (h:∀ a,R a->bT n c R' (f a)):∀ (t:KasT α),bT n c R t->bT n c R' (t.bind f)
 | .ret a,q=>h a q
 | .ask i j k,q=>⟨q.1,q.2.1,bT.bind h (k (c i j)) q.2.2⟩
theorem bT.run {α:Type}{n:Nat}{R:α->Prop}{I:Shared->Prop}{cmp:Nat->Nat->(Bool->Shared->Prop)->Shared->Prop}{Q:α->Shared->Prop}
  (hc:∀ i j C s,i < n->j < n->I s->(∀ s',I s'->C (c i j) s')->cmp i j C s) (hQ:∀ a s,R a->I s->Q a s):∀ (t:KasT α) (s:Shared),I s->bT n c R t->t.kasWp cmp Q s
 | .ret a,s,hI,q=>hQ a s q hI
 | .ask i j k,s,hI,q=>hc i j _ s q.1 q.2.1 hI fun s' hI'=>bT.run hc hQ (k (c i j)) s' hI' q.2.2
include O
theorem tX {n:Nat}{p:Array Nat} (hp:PP n p):∀ (f m:Nat),1<=m->m+f<=n->fN c p m->bT n c (fun r=>m<=r/\r<=m+f/\fN c p r/\(r < m+f->c (G p r) (G p (r - 1))=true)) (kas_asc p f m)
 | 0,m,_,_,h=>⟨aT2 _,aT2 _,h,fun z=>absurd z (aX8 _)⟩
 | f+1,m,h1,h2,h=>by
  refine⟨hp.lt (by omega),hp.lt (by omega),?_⟩
  by_cases hc:c (p.getD m 0) (p.getD (m - 1) 0)=true
  ·simp only [hc,if_true]
   exact⟨aT2 _,by omega,h,fun _=>hc⟩
  ·have hc':c (p.getD m 0) (p.getD (m - 1) 0)=false:=be9.mpr hc
   simp only [hc',aV7,aZ7]
   refine bT.mono (fun r q=>⟨by omega,by omega,q.2.2.1,fun z=>q.2.2.2 (by omega)⟩) _ (tX hp f (m+1) (by omega) (by omega) (al9 O h h1 hc'))
omit O
noncomputable def kG (c:Nat->Nat->Bool) (i j:Nat):Prop:=Le c i j/\Le c j i
include O
theorem tY {p q:Array Nat}{n:Nat} (h:jT c p n) (e:∀ k,k < n->kG c (G q k) (G p k)):jT c q n:=fun a b hab hb=>
 le_trans O (e b hb).1 (le_trans O (h a b hab hb) (e a (by omega)).2)
theorem A9 {n m i:Nat}{p:Array Nat} (hp:PP n p) (hm:m<=n) (h:∀ a,i<=a->a < m->kG c (G p a) (G p (m - 1))):∀ k,kG c (G (kas_rev p i m) k) (G p k):=fun k=>by
 rw [tV (by rw [hp.size]; exact hm)]
 by_cases hk:i<=k/\k < m
 ·rw [if_pos hk]
  have h1:=h (i+m - 1 - k) (by omega) (by omega)
  have h2:=h k hk.1 hk.2
  exact⟨le_trans O h1.1 h2.2,le_trans O h2.1 h1.2⟩
 ·rw [if_neg hk]; exact⟨le_refl O _,le_refl O _⟩
omit O
noncomputable def DI (c:Nat->Nat->Bool) (n:Nat) (p:Array Nat) (m q:Nat):Prop:=PP n p/\1<=m/\m<=n/\jT c p m/\q+1<=m/\∀ a,m - (q+1)<=a->a < m->kG c (G p a) (G p (m - 1))
include O
theorem B0 {n m q:Nat}{p:Array Nat} (h:DI c n p m q):PP n (kas_rev p (m - (q+1)) m)/\∀ k,kG c (G (kas_rev p (m - (q+1)) m) k) (G p k):=
 ⟨h.1.rev _ _,A9 O h.1 h.2.2.1 h.2.2.2.2.2⟩
theorem pU {n:Nat}:∀ (f:Nat) (p:Array Nat) (m q:Nat),m+f<=n->DI c n p m q->bT n c (fun r=>DI c n r.1 r.2.1 r.2.2) (kas_desc f p m q)
 | 0,p,m,q,_,h=>h
 | f+1,p,m,q,hf,h=>by
  have hp:=h.1
  have h1:=h.2.1
  refine⟨hp.lt (by omega),hp.lt (by omega),?_⟩
  by_cases hc:c (p.getD m 0) (p.getD (m - 1) 0)=true
  ·simp only [hc,if_true]
   have dn:jT c p (m+1):=pT O h.2.2.2.1 h1 (pS O hc)
   by_cases hq:q > 0
   ·simp only [hq,if_true]
    obtain ⟨pr,er⟩:=B0 O h
    refine pU f _ (m+1) 0 (by omega) ⟨pr,by omega,by omega,tY O dn fun k _=>er k,by omega,fun a h1 h2=>?_⟩
    have e:a=m+1 - 1:=by omega
    rw [e]; exact⟨le_refl O _,le_refl O _⟩
   ·simp only [hq,aZ7]
    refine pU f p (m+1) 0 (by omega) ⟨hp,by omega,by omega,dn,by omega,fun a h1 h2=>?_⟩
    have e:a=m+1 - 1:=by omega
    rw [e]; exact⟨le_refl O _,le_refl O _⟩
  ·have hc':c (p.getD m 0) (p.getD (m - 1) 0)=false:=be9.mpr hc
   simp only [hc',aV7,aZ7]
   refine⟨hp.lt (by omega),hp.lt (by omega),?_⟩
   by_cases hd:c (p.getD (m - 1) 0) (p.getD m 0)=true
   ·simp only [hd,if_true]
    exact h
   ·have hd':c (p.getD (m - 1) 0) (p.getD m 0)=false:=be9.mpr hd
    simp only [hd',aV7,aZ7]
    have ee:kG c (G p (m - 1)) (G p m):=⟨hc',hd'⟩
    refine pU f p (m+1) (q+1) (by omega) ⟨hp,by omega,by omega,pT O h.2.2.2.1 h1 ee.2,by have:=h.2.2.2.2.1; omega,fun a h1 h2=>?_⟩
    rw [Nat.add_sub_cancel]
    by_cases ha:a=m
    ·rw [ha]; exact⟨le_refl O _,le_refl O _⟩
    ·have z:=h.2.2.2.2.2 a (by omega) (by omega)
     exact⟨le_trans O z.1 ee.1,le_trans O ee.2 z.2⟩
omit O
noncomputable def CI (c:Nat->Nat->Bool) (n:Nat) (r:Nat × Array Nat):Prop:=PP n r.2/\1<=r.1/\r.1<=n/\fN c r.2 r.1
include O
theorem B1 {n m:Nat}{p:Array Nat} (hp:PP n p) (h1:1<=m) (hm:m<=n) (h:jT c p m):bT n c (CI c n) (kas_tail3 m n p):=by
 have ha:fN c (kas_rev p 0 m) m:=fun a b hab hb=>by
  rw [tV (by rw [hp.size]; exact hm),tV (by rw [hp.size]; exact hm),if_pos ⟨aX6 _,by omega⟩,if_pos ⟨aX6 _,hb⟩]
  exact h _ _ (by omega) (by omega)
 refine bT.bind (R:=fun r=>m<=r/\r<=m+(n - m)/\fN c (kas_rev p 0 m) r/\_) (fun r q=>?_) _ (tX O (hp.rev 0 m) (n - m) m h1 (by omega) ha)
 exact⟨hp.rev _ _,by have:=q.1; omega,by have:=q.2.1; omega,q.2.2.1⟩
theorem B2 {n m:Nat}{p:Array Nat} (hp:PP n p) (h1:1<=m) (hm:m+1<=n) (h:jT c p (m+1)):bT n c (CI c n) (kas_descPart m n p):=by
 refine bT.bind (R:=fun r=>DI c n r.1 r.2.1 r.2.2) (fun r q=>?_) _ (pU O (n - (m+1)) p (m+1) 0 (by omega) ⟨hp,by omega,hm,h,by omega,fun a h1 h2=>?_⟩)
 ·by_cases hq:r.2.2 > 0
  ·rw [if_pos hq]
   obtain ⟨pr,er⟩:=B0 O q
   exact B1 O pr q.2.1 q.2.2.1 (tY O q.2.2.2.1 fun k _=>er k)
  ·rw [if_neg hq]
   exact B1 O q.1 q.2.1 q.2.2.1 q.2.2.2.1
 ·have e:a=m+1 - 1:=by omega
  rw [e]; exact⟨le_refl O _,le_refl O _⟩
theorem am0 {n:Nat}{p:Array Nat} (hp:PP n p) (hn:1<=n):bT n c (CI c n) (kas_count n p):=by
 have a1:fN c p 1:=fun a b hab hb=>by
  have e1:a=0:=by omega
  have e2:b=0:=by omega
  rw [e1,e2]; exact le_refl O _
 refine bT.bind (R:=fun r=>1<=r/\r<=1+(n - 1)/\fN c p r/\(r < 1+(n - 1)->c (G p r) (G p (r - 1))=true)) (fun m q=>?_) _ (tX O hp (n - 1) 1 (aT2 _) (by omega) a1)
 obtain ⟨q1,q2,q3,q4⟩:=q
 by_cases hm:(m == n)=true
 ·rw [if_pos hm]
  exact⟨hp,q1,by omega,q3⟩
 ·rw [if_neg hm]
  have hne:m ≠ n:=by simpa using hm
  have hc:=q4 (by omega)
  by_cases h1:m > 1
  ·rw [if_pos h1]
   refine⟨hp.lt (by omega),hp.lt (by omega),?_⟩
   by_cases hd:c (p.getD 0 0) (p.getD (m - 1) 0)=true
   ·simp only [hd,if_true]
    exact⟨hp,q1,by omega,q3⟩
   ·have hd':c (p.getD 0 0) (p.getD (m - 1) 0)=false:=be9.mpr hd
    simp only [hd',aV7,aZ7]
    have eq:∀ a,0<=a->a < m->kG c (G p a) (G p (m - 1)):=fun a _ ha=>⟨q3 a (m - 1) (by omega) (by omega),le_trans O hd' (q3 0 a (aX6 _) ha)⟩
    have er:=A9 O hp (by omega:m<=n) eq
    refine B2 O (hp.rev 0 m) q1 (by omega) (tY O (p:=p) ?_ fun k _=>er k)
    refine pT O (fun a b hab hb=>?_) q1 (pS O hc)
    exact le_trans O (eq b (aX6 _) hb).1 (eq a (aX6 _) (by omega)).2
  ·rw [if_neg h1]
   have e:m=1:=by omega
   subst e
   refine B2 O hp (aT2 _) (by omega) (pT O (fun a b hab hb=>?_) (aT2 _) (pS O hc))
   have e1:a=0:=by omega
   have e2:b=0:=by omega
   rw [e1,e2]; exact le_refl O _
theorem tZ {n k:Nat}{p:Array Nat} (hp:PP n p) (hk:k < n) (ha:fN c p k):∀ (f l r:Nat),l<=r->r<=k->r - l<=f->(∀ a,a < l->Le c (G p a) (G p k))->(∀ a,r<=a->a < k->Le c (G p k) (G p a))->
  bT n c (fun l=>l<=k/\(∀ a,a < l->Le c (G p a) (G p k))/\∀ a,l<=a->a < k->Le c (G p k) (G p a)) (kas_place p k f l r)
 | 0,l,r,h1,h2,h3,hl,hr=>⟨by omega,hl,fun a h4 h5=>hr a (by omega) h5⟩
 | f+1,l,r,h1,h2,h3,hl,hr=>by
  unfold kas_place
  by_cases hlr:l >= r
  ·rw [if_pos hlr]
   exact⟨by omega,hl,fun a h4 h5=>hr a (by omega) h5⟩
  ·rw [if_neg hlr]
   refine⟨hp.lt hk,hp.lt (by omega),?_⟩
   by_cases hc:c (p.getD k 0) (p.getD ((l+r) / 2) 0)=true
   ·simp only [hc,if_true]
    exact tZ hp hk ha f l ((l+r) / 2) (by omega) (by omega) (by omega) hl fun a h4 h5=>le_trans O (pS O hc) (ha _ _ h4 h5)
   ·have hc':c (p.getD k 0) (p.getD ((l+r) / 2) 0)=false:=be9.mpr hc
    simp only [hc',aV7,aZ7]
    exact tZ hp hk ha f ((l+r) / 2+1) r (by omega) h2 (by omega) (fun a h4=>le_trans O (ha a ((l+r) / 2) (by omega) (by omega)) hc') hr
theorem B3 {n:Nat}:∀ (f:Nat) (p:Array Nat) (k:Nat),PP n p->k+f<=n->fN c p k->bT n c (fun q=>PP n q/\fN c q (k+f)) (kas_bin f p k)
 | 0,p,k,hp,_,h=>⟨hp,h⟩
 | f+1,p,k,hp,hk,h=>by
  refine bT.bind (R:=fun l=>l<=k/\(∀ a,a < l->Le c (G p a) (G p k))/\∀ a,l<=a->a < k->Le c (G p k) (G p a)) (fun l q=>?_) _ (tZ O hp (by omega) h k 0 k (aX6 _) (aT2 _) (by omega) (fun a z=>absurd z (Nat.not_lt_zero _)) fun a h1 h2=>absurd h2 (by omega))
  obtain ⟨q1,q2,q3⟩:=q
  have e:∀ a,G (bubble p k (k - l)) a=if a=l then G p k else if l < a/\a<=k then G p (a - 1) else G p a:=fun a=>by
   rw [al8 (by rw [hp.size]; omega) (by omega),show k - (k - l)=l by omega]
  refine bT.mono (fun r z=>⟨z.1,by rw [show k+(f+1)=k+1+f by omega]; exact z.2⟩) _ (B3 f _ (k+1) (hp.bub _ _) (by omega) fun a b hab hb=>?_)
  rw [e,e]
  by_cases ha:a=l
  ·rw [if_pos ha]
   by_cases hb':b=l
   ·rw [if_pos hb']; exact le_refl O _
   ·rw [if_neg hb',if_pos (by omega)]; exact q3 _ (by omega) (by omega)
  ·rw [if_neg ha]
   by_cases ha2:l < a/\a<=k
   ·rw [if_pos ha2,if_neg (by omega),if_pos (by omega)]
    exact h _ _ (by omega) (by omega)
   ·rw [if_neg ha2]
    by_cases hb':b=l
    ·rw [if_pos hb']; exact q2 a (by omega)
    ·rw [if_neg hb']
     by_cases hb2:l < b/\b<=k
     ·rw [if_pos hb2]; exact h _ _ (by omega) (by omega)
     ·rw [if_neg hb2]; exact h _ _ hab (by omega)
theorem am1 {n:Nat} (hn:1<=n):bT n c (fun q=>PP n q/\fN c q n) (kas_sort n):=by
 have hp:PP n (List.toArray (List.range n)):=by unfold PP; simp
 refine bT.bind (R:=CI c n) (fun r q=>?_) _ (am0 O hp hn)
 obtain ⟨q1,q2,q3,q4⟩:=q
 by_cases h:r.1 < n
 ·rw [if_pos h]
  have e:max r.1 1=r.1:=by omega
  rw [e]
  exact bT.mono (fun p z=>⟨z.1,by rw [show r.1+(n - r.1)=n by omega] at z; exact z.2⟩) _ (B3 O (n - r.1) r.2 r.1 q1 (by omega) q4)
 ·rw [if_neg h]
  have e:r.1=n:=by omega
  exact⟨q1,by rw [e] at q4; exact q4⟩
end
end Srt
namespace L2
open PySem PySem.Spec PyProof.Rows
theorem bY.there {P:Program}{w:World}{H:Hp}{h:Heap}{a:Addr}{o:HO} (x:bY P w H h a o):∃ u,h.get? a=some u:=by
 cases o with
 | lst xs=>obtain ⟨_,_,_,_,e⟩:=x; exact⟨_,e⟩
 | tup xs=>obtain ⟨_,_,_,⟨o,e,_⟩,_⟩:=x; exact⟨_,e⟩
 | dK kvs=>obtain ⟨_,_,_,_,o,_,_,e,_⟩:=x; exact⟨_,e⟩
 | dT kvs=>obtain ⟨_,_,_,_,o,_,_,e,_⟩:=x; exact⟨_,e⟩
 | set S n=>obtain ⟨o,_,_,_,e,_⟩:=x; exact⟨_,e⟩
 | ins C dx fs=>obtain ⟨_,_,_,e,_⟩:=x; exact⟨_,e⟩
 | own y=>exact x
 | xd fs=>obtain ⟨_,⟨_,_,_,e,_⟩,_⟩:=x; exact⟨_,e⟩
 | rng lo hi=>obtain ⟨_,_,_,e⟩:=x; exact⟨_,e⟩
 | frz ob u=>obtain ⟨e,_⟩:=x; exact⟨_,e⟩
 | tbl ps=>exact⟨_,(show h.get? a=some _ from x)⟩
 | met f y=>exact⟨_,(show h.get? a=some _ from x)⟩
 | ext φ=>obtain ⟨_,z,_⟩:=x; exact z
section
variable {X : Cx} {pins : List (Addr × Obj)} {σ : St} {H : Hp} {s : Shared} {h' : Heap} {a : Addr} {o : HO} {t' : Nat}
theorem a6.laidF (I:a6 X pins σ H s) (hn:s.heap.get? a=none) (k:∀ b u,b ≠ X.env.locals->s.heap.get? b=some u->h'.get? b=some u) (ns:∀ m,s.heap.Ns X.env.locals m->h'.Ns X.env.locals m)
  (new:bY X.prog X.w (upd H a o) h' a o):H a=none/\a6 X pins σ (upd H a o) { s with heap:=h',toks:=t' }:=by
 have hHn:H a=none:=by
  cases q:H a with
  | none=>rfl
  | some u=>obtain ⟨z,e⟩:=(I.hok a u q).there; rw [hn] at e; cases e
 have ne:∀ b u,s.heap.get? b=some u->b ≠ a:=fun b u e z=>by rw [z,hn] at e; cases e
 have hL:=I.free
 refine⟨hHn,I.step (g':=s.gens) (d':=s.drawn) (ch:=[]) (fun _ z=>nomatch z) (fun b o' h1 _ _ e _=>k b o' h1 e) (fun b o' h1 _ _ e _=>⟨o'.slots,k b o' h1 e⟩) (fun b o' _ e n=>by rw [aZ (ne b o' e)]; exact n) (fun b o' _ e=>?_)
  (fun b xs q=>by rw [aZ (dD q hHn)]; exact q) (fun b u xs q=>by rw [aZ (dD q hHn)]; exact q) (fun b ps q=>⟨#[],by rw [aZ (dD q hHn),q]; simp⟩) ns (fun b u q=>?_) I.bare⟩
 ·by_cases hb:b=X.env.locals
  ·obtain ⟨m,hm,_⟩:=I.loc
   obtain ⟨o2,_,_,e2,_⟩:=ns m hm
   exact⟨o2,by rw [hb]; exact e2⟩
  ·exact⟨o',k b o' hb e⟩
 ·by_cases hb:b=a
  ·subst hb; rw [bK] at q; cases q; exact new
  ·rw [aZ hb] at q
   refine (I.hok b u q).stay (fun c v hc e=>k c v ?_ e) (fun c e=>by rw [aZ (dD e hHn)]; exact e) fun c xs e=>by rw [aZ (dD e hHn)]; exact e
   rcases hc with z | z
   ·rw [z]; intro y; rw [y,hL] at q; cases q
   ·intro y; rw [y,hL] at z; cases z
theorem a6.newsAll (I:a6 X pins σ H s) {news:List (Addr × Obj)}{m:Str->Option Value} (hs:∀ p ∈ mR X.base s.heap X.env.locals,p ∈ news) (F:Fr X.base X.env.locals h' m) (N:News X.base X.env.locals h' news) :
  ∀ b o,b ≠ X.env.locals->s.heap.get? b=some o->h'.get? b=some o:=fun b o h1 e=>by
 cases q:X.base.get? b with
 | some u=>
  have:=I.bk b u q
  rw [e] at this; cases this
  exact F.keep b _ q
 | none=>exact (N (b,o) (hs _ (x6 h1 q e))).1
end
theorem am2 {α:Type}{d:α} (l:List α) {p:List Nat} (h:p.Perm (List.range l.length)):(p.map fun i=>l.getD i d).Perm l:=by
 have e:(List.range l.length).map (fun i=>l.getD i d)=l:=by
  apply List.ext_getElem
  ·simp
  ·intro i h1 h2
   simp at h1
   simp [h1]
 have:=h.map fun i=>l.getD i d
 rw [e] at this
 exact this
theorem u0:∀ {xs:List V}{us:List Value} (i:Nat),i < xs.length->aI xs us->b4 (xs.getD i .non) (us.getD i Value.none)
 | _,_,_,h,.nil=>by simp at h
 | _,_,0,_,.cons r _=>by simpa using r
 | _,_,i+1,h,.cons _ t=>by
  have:=u0 i (by simpa using h) t
  simpa using this
theorem B4 {xs:List V}{us:List Value} (r:aI xs us):∀ {p:List Nat},(∀ i ∈ p,i < xs.length)->aI (p.map fun i=>xs.getD i .non) (p.map fun i=>us.getD i Value.none)
 | [],_=>.nil
 | i :: p,h=>.cons (u0 i (h i aS8) r) (B4 r fun j hj=>h j (aT5 _ hj))
theorem u3 {α:Type}:∀ l:List α,(l.zip l).map (·.2)=l
 | []=>rfl
 | a :: l=>by
  show a :: ((l.zip l).map (·.2))=a :: l
  rw [u3 l]
theorem am3 {prog:Program}{w:World}{A:Around}{E:Value->Shared->Prop}{s:Shared}{a:Addr}{vs:List Value}{n:Nat}{P:PySem.Fin->Shared->Prop} (e:s.heap.get? a=some (seqObj "list" vs.toArray n)) (few:vs.length < 2)
  (q:P (.done (.ret .none)) { s with heap:=sortedHeap s.heap a vs vs.toArray }):wpAny (model prog w) A (Builtin.«list.sort» ⟨[.ref a],[]⟩) P E s:=by
 have big:vs.length<=sizeLine:=aX5 (aY6 few) (by decide)
 have la:=aU7 e
 have c:vs.toArray.size < 2:=by simpa using few
 have same:(arrOf (SortSt.mk' general' (vs.toArray.zip vs.toArray) #[] 7 none)).map (·.2)=vs.toArray:=by
  change (vs.toArray.zip vs.toArray).map (·.2)=vs.toArray
  apply Array.ext'
  simpa using u3 vs
 obtain ⟨k,ek⟩:∃ k,(s.heap.update a (Obj.mapSeq fun _=>#[])).get? a=some (seqObj "list" #[] k):=⟨_,get?_update_seq e fun _=>#[]⟩
 have there:(((s.heap.update a (Obj.mapSeq fun _=>#[])).push (seqObj "tuple" vs.toArray 0)).push (seqObj "list" #[] 0)).get? a=some (seqObj "list" #[] k):=
  aS7 _ (aS7 _ ek)
 rw [list_sort_plain]
 apply aS6
 apply listItems_at e rfl
 apply aS6
 refine listUpdate_at e rfl ?_ (by simpa using big) (aX6 _)
 apply aS6
 apply seqEpoch_at ek rfl
 apply aS6
 refine wpAny_newTuple ?_ big
 apply aS6
 refine wpAny_newList ?_ (aX6 _)
 apply be0
 simp only [c,if_true,StateT.run_pure]
 apply aS6
 apply aT6
 apply aS6
 apply aT6
 apply aS6
 apply seqEpoch_at there rfl
 apply aS6
 refine listUpdate_at there rfl ?_ (aX6 _) (by rw [same,aU2]; exact Nat.le_succ_of_le big)
 rw [same]
 simp only [bne_self_eq_false,aV7,aZ7]
 exact aT6 q
theorem am4 {prog:Program}{w:World}{A:Around}{E:Value->Shared->Prop}{s:Shared}{l:Addr}{vs:List Value}{Q:Value->Shared->Prop} (hl:s.heap.IsList l vs.toArray) (few:vs.length < 2)
  (q:Q (.ref (s.heap.objs.size+1)) { s with heap:=sortedAll s.heap vs vs.toArray }):wpAny (model prog w) A (call (.builtin "sorted") [.ref l]) Q E s:=by
 have big:vs.length<=sizeLine:=aX5 (aY6 few) (by decide)
 apply Calls.call_function_entry kind_sorted plain_sorted entry_sorted (args_sorted1 _)
 simp only [Builtin.«sorted»]
 apply aS6 (m:=checkCount "sorted" 1 1 _)
 apply aT6
 apply aS6
 refine collect_list hl ?_ big
 apply aS6
 refine wpAny_newList ?_ big
 have one:((s.heap.push (seqObj "list" #[] 0)).update s.heap.objs.size (Obj.mapSeq (· ++ vs.toArray))).objs.size=s.heap.objs.size+1:=(Heap.size_update _ _ _).trans (size_push' _ _)
 have at1:(((s.heap.push (seqObj "list" #[] 0)).update s.heap.objs.size (Obj.mapSeq (· ++ vs.toArray))).push (seqObj "list" vs.toArray 0)).get? (s.heap.objs.size+1)=some (seqObj "list" vs.toArray 0):=one ▸ aU9 _ rfl
 change wpAny _ _ _ _ _ { s with heap:=((s.heap.push (seqObj "list" #[] 0)).update s.heap.objs.size (Obj.mapSeq (· ++ vs.toArray))).push (seqObj "list" vs.toArray 0) }
 rw [one]
 apply aS6
 apply be0
 refine bb1 slot_list_sort ⟨_,at1,rfl⟩ entry_list_sort ?_ (args_list_sort _)
 refine am3 at1 few ⟨_,rfl,?_⟩
 exact aT6 ⟨_,rfl,q⟩
noncomputable def B5 (K:PySem.W.Frag):List V->Hp->VK->Prop:=fun xs H Q=>∃ a ns,xs = [.ref a]/\aJ K H a (ns.map V.int)/\ns.length < 64/\∀ l (ms:List Int),H l=none->ms.Perm ns->ms.Pairwise (· <= ·)->Q (.ref l) (upd H l (.lst (ms.map V.int)))
theorem am5 {X:Cx}:cY X (.builtin "sorted") (B5 X.K):=by
 intro pins s σ H xs us Q I r h
 obtain ⟨a,ns,rfl,hs,h64,q⟩:=h
 obtain ⟨u,rfl,ru⟩:=gT r
 cases ru
 obtain ⟨its,rv,p,hz⟩:=I.list hs
 have hl:=rv.length
 rw [aS9] at hl
 refine sorted_ints p.isList (pC rv) (by omega) fun out ns' a1 a2 a3=>?_
 obtain ⟨e,he⟩:=sortedAll_at s.heap its out
 have hn:s.heap.objs.size<=s.heap.objs.size+1:=Nat.le_succ _
 have hlen:ns'.length=ns.length:=a2.length_eq
 refine⟨.ref (s.heap.objs.size+1),upd H (s.heap.objs.size+1) (.lst (ns'.map V.int)),I.laid (t':=s.toks) (fun _ _=>sortedAll_old) hn ⟨?_,out.toList,e,pH a1,by simpa using he⟩,rfl,q _ ns' (I.hok.fresh hn) a2 a3⟩
 rw [aS9,hlen]
 exact aY6 (nF (by omega))
theorem B6:∀ {a b:List Int},HT.eY a b=true->HT.eY b a=false
 | [],[],h=>by cases h
 | [],_ :: _,_=>rfl
 | _ :: _,[],h=>by cases h
 | x :: xs,y :: ys,h=>by
  rw [HT.mY] at h ⊢
  by_cases e:x=y
  ·rw [if_pos e] at h; rw [if_pos e.symm]; exact B6 h
  ·rw [if_neg e] at h; rw [if_neg (Ne.symm e)]
   have:=aW8 h
   exact aT8 (by omega)
theorem B7:∀ {a b c:List Int},HT.eY a b=false->HT.eY b c=false->HT.eY a c=false
 | [],[],c,_,h=>h
 | [],_ :: _,_,h,_=>by cases h
 | _ :: _,[],[],_,_=>rfl
 | _ :: _,[],_ :: _,_,h=>by cases h
 | _ :: _,_ :: _,[],_,_=>rfl
 | x :: xs,y :: ys,z :: zs,h1,h2=>by
  rw [HT.mY] at h1 h2 ⊢
  by_cases e1:x=y
  ·rw [if_pos e1] at h1
   by_cases e2:y=z
   ·rw [if_pos e2] at h2; rw [if_pos (e1.trans e2)]; exact B7 h1 h2
   ·rw [if_neg e2] at h2; rw [if_neg (by rw [e1]; exact e2)]; rw [e1]; exact h2
  ·rw [if_neg e1] at h1
   have k1:=of_decide_eq_false h1
   by_cases e2:y=z
   ·rw [<- e2,if_neg e1]; exact h1
   ·rw [if_neg e2] at h2
    have k2:=of_decide_eq_false h2
    rw [if_neg (by omega)]
    exact aT8 (by omega)
noncomputable def B8 (H:Hp):V->List Int
 | .ref b=>match H b with
  | some (.tup xs)=>xs.map fun x=>match x with
   | .int i=>i
   | _=>0
  | _=>[]
 | _=>[]
section
variable {prog : Program} {w : World} {A : Around} {s : Shared} {Q : Bool → Shared → Prop}
theorem B9:∀ {us ws:List Value}{xs ys:List Int} (i:Nat),IntsAre us xs->IntsAre ws ys->Q (HT.eY xs ys) s->PySem.W.KatLex prog w A true (decide (us.length < ws.length)) Q (us.zip ws) i s
 | _,_,_,_,_,.nil,.nil,h=>h
 | _,_,_,_,_,.nil,.cons _ _ _,h=>h
 | _,_,_,_,_,.cons _ _ _,.nil,h=>h
 | _,_,_,_,i,.cons (vs:=us) x t hx,.cons (vs:=ws) y u hy,h=>by
  refine PySem.W.kat_cons (wpAny_eqBool_int ?_)
  rw [HT.mY] at h
  by_cases e:x=y
  ·rw [if_pos e] at h
   have eb:(x == y)=true:=by simpa using e
   rw [eb]
   refine PySem.W.kat_yes ?_
   have e2:decide ((Value.int x t :: us).length < (Value.int y u :: ws).length)=decide (us.length < ws.length):=by simp
   rw [e2]
   exact B9 (i+1) hx hy h
  ·rw [if_neg e] at h
   have eb:(x == y)=false:=by simpa using e
   rw [eb]
   refine PySem.W.kat_no ?_
   cases hi:(true && i == 0) with
   | true=>exact PySem.W.kat_lt_int h
   | false=>exact PySem.W.kat_one _ _ (lt_int h)
end
noncomputable def C0 (K:PySem.W.Frag):List V->Hp->VK->Prop:=fun xs H Q=>∃ (a:Addr) (ys:List V) (key:V->List Int),xs = [.ref a]/\aJ K H a ys/\ys.length < 64/\(∀ y ∈ ys,∃ b,y = .ref b/\aQ K H b ((key y).map V.int)/\key y ≠ [])/\
 ∀ l (zs:List V),H l=none->zs.Perm ys->zs.Pairwise (fun u v=>HT.eY (key v) (key u)=false)->Q (.ref l) (upd H l (.lst zs))
theorem am6 {c:Nat->Nat->Bool}{R:V->V->Prop}{ys:List V}{p:Array Nat}{n:Nat} (hp:Srt.PP n p) (ha:Srt.fN c p n) (hR:∀ i j,Srt.Le c i j->R (ys.getD i .non) (ys.getD j .non)) :
  (p.toList.map fun i=>ys.getD i .non).Pairwise R:=by
 rw [bb6,List.pairwise_iff_getElem]
 intro i j hi hj hij
 have hs:=hp.size
 have h1:i < n:=by rw [<- hs]; simpa using hi
 have h2:j < n:=by rw [<- hs]; simpa using hj
 have q:=ha i j (aY6 hij) h2
 have e:∀ k (hk:k < p.toList.length),Srt.G p k=p.toList[k]:=fun k hk=>by
  have hk':k < p.size:=by simpa using hk
  unfold Srt.G; rw [bc8]; simp [hk']
 rw [e i hi,e j hj] at q
 exact hR _ _ q
theorem am7 {X:Cx}:cY X (.builtin "sorted") (C0 X.K):=by
 intro pins s σ H xs us Q I r h
 obtain ⟨a,ys,key,rfl,hs,h64,hk,q⟩:=h
 obtain ⟨u,rfl,ru⟩:=gT r
 cases ru
 obtain ⟨its,rv,p,hz⟩:=I.list hs
 have hl:=rv.length
 by_cases h2:its.length < 2
 ·
  refine am4 p.isList h2 ?_
  obtain ⟨e,he⟩:=sortedAll_at s.heap its its.toArray
  have hn:s.heap.objs.size<=s.heap.objs.size+1:=Nat.le_succ _
  refine⟨.ref (s.heap.objs.size+1),upd H (s.heap.objs.size+1) (.lst ys),I.laid (t':=s.toks) (fun _ _=>sortedAll_old) hn ⟨hz,its,e,rv,he⟩,rfl,q _ ys (I.hok.fresh hn) (bh3 _) ?_⟩
  match ys,hl with
  | [],_=>exact be8
  | [_],_=>exact aW1 _ _
  | _ :: _ :: _,hl=>simp at hl; omega
 ·obtain ⟨m,F⟩:=I.fr
  have hL:∀ {b:Addr}{k:List Int},aQ X.K H b (k.map V.int)->b ≠ X.env.locals:=fun {b k} z e=>by
   obtain ⟨its',_,⟨ob,e1,c1,_⟩,_⟩:=I.tuple z
   obtain ⟨m',⟨o',es',ep',e2,d2,_⟩,_⟩:=I.loc
   rcases z with (z | ⟨_,z⟩) | ⟨o3,its3,n3,z3,zc,zd,_⟩
   ·rw [e,I.free] at z; cases z
   ·rw [e,I.free] at z; cases z
   ·have:=I.kIn b o3 z3
    rw [e,e2] at this
    cases this
    rw [d2] at zd; cases zd
  refine PySem.W.kat_sorted F (ab6 (g:=X.base) (h:=s.heap) (L:=X.env.locals)) p.isList (by omega) (by omega) fun D e1 h' F' N' hD=>?_
  have keep:=I.newsAll (fun p hp=>aT5 _ hp) F' N'
  have look:∀ i,i < ys.length->∃ (b:Addr) (ob:Obj) (us:List Value) (n:Nat),its.getD i Value.none = .ref b/\h'.get? b=some ob/\ob.cls = .type "tuple"/\ob.data = .seq us.toArray n/\IntsAre us (key (ys.getD i .non))/\key (ys.getD i .non) ≠ []:=fun i hi=>by
   have hy:ys.getD i .non ∈ ys:=by
    rw [aU3,aU1 hi]; exact List.getElem_mem hi
   obtain ⟨b,eb,sq,ne⟩:=hk _ hy
   have rr:=u0 i hi rv
   rw [eb] at rr
   have rr:its.getD i Value.none = .ref b:=rr
   obtain ⟨us,ru,⟨ob,e1,c1,n1,d1⟩,_⟩:=I.tuple sq
   exact⟨b,ob,us,n1,rr,keep b ob (hL sq) e1,c1,d1,pC ru,ne⟩
  have firsts:∀ {xs:List V}{vs:List Value},aI xs vs->(∀ y ∈ xs,∃ b,y = .ref b/\aQ X.K H b ((key y).map V.int)/\key y ≠ [])->∃ fs:List Value,PySem.W.KatTups h' vs fs/\fs.length=vs.length/\∀ v ∈ fs,∃ i t,v=Value.int i t:=by
   intro xs vs r
   induction r with
   | nil=>intro _; exact⟨[],PySem.W.KatTups.nil,rfl,fun _ z=>nomatch z⟩
   | @cons x v xs vs rx rt ih=>
    intro hh
    obtain ⟨fs,t1,t2,t3⟩:=ih fun y hy=>hh y (aT5 _ hy)
    obtain ⟨b,eb,sq,ne⟩:=hh x aS8
    subst eb
    cases rx
    obtain ⟨us,ru,⟨ob,e1,c1,n1,d1⟩,_⟩:=I.tuple sq
    have ia:=pC ru
    generalize key (V.ref b)=kk at ia ne
    cases ia with
    | nil=>exact absurd rfl ne
    | @cons n t vs0 ns0 ht=>
     exact⟨Value.int n t :: fs,PySem.W.KatTups.cons (keep b ob (hL sq) e1) c1 d1 (by simp) t1,by simp [t2],fun v hv=>(aU0.mp hv).elim (fun z=>⟨n,t,z⟩) (t3 v)⟩
  obtain ⟨fs,t1,t2,t3⟩:=firsts rv hk
  refine PySem.W.kat_kind (T:=.type "int") t1 (by omega) (fun v hv=>?_) (by decide) ?_
  ·obtain ⟨i,t,rfl⟩:=t3 v hv
   exact PySem.W.Looks.now
  let c:Nat->Nat->Bool:=fun i j=>HT.eY (key (ys.getD i .non)) (key (ys.getD j .non))
  have O:Srt.tW c:=⟨fun h=>B6 h,fun h1 h2=>B7 h1 h2⟩
  have ok:=Srt.am1 (n:=its.length) O (by omega)
  refine Srt.bT.run (I:=fun s'=>s'={ s with heap:=h' }) (fun i j C s' hi hj hI hC=>?_) (fun pa s' hR hI=>?_) _ _ rfl ok
  ·subst hI
   obtain ⟨b1,o1,u1,n1,g1,g2,_,g4,g5,_⟩:=look i (by omega)
   obtain ⟨b2,o2,u2,n2,k1,k2,_,k4,k5,_⟩:=look j (by omega)
   show wpAny _ _ (keyLt' (tuples' (Value.type "int" != Value.type "tuple")) (its.getD i Value.none) (its.getD j Value.none)) _ _ _
   rw [g1,k1]
   have eT:(Value.type "int" != Value.type "tuple")=true:=by decide
   rw [eT]
   refine PySem.W.kat_lt g2 g4 k2 k4 ?_
   have:=B9 (prog:=X.prog) (w:=X.w) (A:=X.A.in1.in1) (s:={ s with heap:=h' }) (Q:=C) 0 g5 k5 (hC _ rfl)
   simpa using this
  ·subst hI
   obtain ⟨hp,hasc⟩:=hR
   refine PySem.W.KasFin.intro F' N' (PySem.W.UpdF.head fun p hp=>aW9 (hD p hp)) fun h2 cc F2 N2=>?_
   have keep2:=I.newsAll (fun p hp=>aT5 _ hp) F2 N2
   have hDn:s.heap.get? D=none:=by
    cases z:s.heap.get? D with
    | none=>rfl
    | some o=>
     obtain ⟨_,n1,n2⟩:=N2 (D,_) aS8
     exact absurd (hD _ (x6 n1 n2 z)) (aX8 _)
   have hpl:∀ i ∈ pa.toList,i < ys.length:=fun i hi=>by
    have:=bh1.mp (hp.mem_iff.mp hi); omega
   have hp':pa.toList.Perm (List.range ys.length):=by rw [hl]; exact hp
   have pm:=am2 (d:=V.non) ys hp'
   obtain ⟨hDo,hDL,hDb⟩:=N2 (D,_) aS8
   obtain ⟨hHD,I2⟩:=I.laidF (t':=s.toks) (a:=D) (o:=.lst (pa.toList.map fun i=>ys.getD i .non)) hDn keep2 (fun m' hm'=>by
     have e:m'=m:=funext fun nm=>Heap.Ns.agree hm' F.ns nm
     rw [e]; exact F2.ns) ⟨by rw [pm.length_eq]; exact hz,_,cc,B4 rv hpl,hDo⟩
   exact⟨.ref D,_,I2,rfl,q D _ hHD pm (am6 hp hasc fun i j hle=>hle)⟩
end L2
namespace Raw
open PySem PySem.W PySem.Calls PyProof.Rows
noncomputable def gL (h:Heap) (d:Addr) (es:Array DictEntry) (ep:Nat):Prop:=∃ o,h.get? d=some o/\o.ExactDict/\o.data = .dict es ep
theorem gL.ty {s:Shared}{d:Addr}{es:Array DictEntry}{ep:Nat} (x:gL s.heap d es ep):s.TypeIs (.ref d) "dict":=x.elim fun o y=>⟨o,y.1,y.2.1.1⟩
theorem gL.lt {h:Heap}{d:Addr}{es:Array DictEntry}{ep:Nat} (x:gL h d es ep):d < h.objs.size:=x.elim fun _ y=>aU7 y.1
theorem gL.keep {h h':Heap}{d:Addr}{es:Array DictEntry}{ep:Nat} (x:gL h d es ep) (k:∀ o,h.get? d=some o->h'.get? d=some o):gL h' d es ep:=x.elim fun o y=>⟨o,k o y.1,y.2⟩
section
variable {prog : Program} {w : World} {A : Around} {E : Value → Shared → Prop} {s : Shared} {d it : Addr} {es : Array DictEntry} {ep i : Nat}
theorem made (far:(d == sysModules)=false) (x:gL s.heap d es ep) {Q:Value->Shared->Prop}
  (q:Q (.ref s.heap.objs.size) { s with heap:=s.heap.push { cls:=.type "dict_keyiterator",data:=.fields #[.ref d,.int 0 0,.int es.size 0,.int ep 0] } }):wpAny (model prog w) A (pyIter (.ref d)) Q E s:=by
 have T:=x.ty
 obtain ⟨o,e1,e2,e3⟩:=x
 apply wpAny_pyIter_slot T PySem.F.slot_dict_iter
 apply bb1 PySem.F.slot_dict_iter T PySem.F.entry_dict_iter _ (PySem.F.args_dict_iter_1 _)
 simp only [Builtin.«dict.__iter__»,Builtin.Dict.dictSlotNone]
 apply aS6
 apply aS6
 apply wpAny_notOrdered_dict T
 apply aT6
 change wpAny _ _ (Builtin.Dict.showsAll d >>= _) _ _ s
 have far':Builtin.Dict.showsAll d=pure ():=by
  unfold Builtin.Dict.showsAll
  simp only [far,aV7,aZ7]
 rw [far',pure_bind]
 apply aS6
 apply wpAny_dictEntries e1 e3
 apply aS6
 apply wpAny_dictEpoch e1 e3
 apply aS6
 refine aY2 (aT6 ?_)
 refine⟨.ref s.heap.objs.size,rfl,"dict_keyiterator",_,⟨_,aU9 _ rfl,rfl⟩,PySem.F.slot_dict_keyiterator_next.lookup,?_⟩
 simpa only [rawInt] using q
theorem turn (hh:A.handled=none) (hi:s.heap.IsKeyIter it d i es.size ep) (x:gL s.heap d es ep) {Q:Option Value->Shared->Prop}
  (yes:∀ (lt:i < es.size) h',h'.IsKeyIter it d (i+1) es.size ep->Heap.SameBut it s.heap h'->Q (some es[i].key) { s with heap:=h' })
  (no:es.size<=i->∀ h',Heap.ExtBut it s.heap h'->Q none { s with heap:=h' }):wpAny (model prog w) A (pyNext (.ref it)) Q E s:=by
 have T:=hi.typeIs
 obtain ⟨oi,f1,f2,f3⟩:=hi
 obtain ⟨o,e1,e2,e3⟩:=x
 have slot:=PySem.F.slot_dict_keyiterator_next
 have plain:Builtin.Dict_items.ownsTuple "dict_keyiterator" = false:=by decide
 have isref:(Value.ref d == Value.none)=false:=rfl
 have nn : ¬ (i:Int) < 0:=by omega
 unfold pyNext
 apply aS6
 apply wpAny_attempt
 apply ba7 (name:=Str.ofString "__next__") T slot
 apply bb1 slot T PySem.F.entry_dict_keyiterator_next _ (PySem.F.args_dict_keyiterator_next_1 _)
 apply aS6
 apply aT6
 apply aS6
 apply aS6
 apply aS6
 first
  | apply wpAny_typeNameOfWhole_keyiter T
  | apply wpAny_typeNameOf_keyiter T
 apply aT6
 apply aS6
 apply wpAny_fieldsOf f1 f3
 simp only [plain,aV7,aZ7]
 change wpAny _ _ (if (Value.ref d == Value.none)=true then _ else _) _ _ s
 have adr:Builtin.Dict_items.addrOf (Value.ref d)=pure d:=rfl
 simp only [isref,aV7,aZ7,adr,pure_bind]
 apply aS6
 apply wpAny_dictEntries e1 e3
 simp only [bne_self_eq_false,aV7,aZ7]
 apply aS6
 apply wpAny_dictEpoch e1 e3
 simp only [bne_self_eq_false,aV7,aZ7]
 apply aT6
 simp only [nn,aZ7,aV4]
 by_cases lt:i < es.size
 ·simp only [Array.getElem?_eq_getElem lt]
  apply aS6
  apply aS6
  first
   | apply wpAny_typeNameOfWhole_keyiter T
   | apply wpAny_typeNameOf_keyiter T
  apply aT6
  apply aS6
  apply wpAny_isOneOf_keyiter T
  change wpAny _ _ (setField (.ref it) 1 (rawInt ((i:Int)+1)) >>= _) _ _ s
  apply aS6
  refine wpAny_setField f1 f3 (by simp) ?_
  have again:(s.heap.update it (Obj.mapFields (·.setIfInBounds 1 (rawInt ((i:Int)+1))))).IsKeyIter it d (i+1) es.size ep:=by
   refine⟨_,Heap.get?_update_self _ f1 (Obj.isFreed_of_fields (Obj.data_mapFields f3 _)),?_,?_⟩
   ·rw [Obj.cls_mapFields]; exact f2
   ·rw [Obj.data_mapFields f3]; simp [rawInt]
  apply aS6
  apply be0
  apply aS6
  refine wpAny_isOneOf_keyiter (s:={ s with heap:=s.heap.update it (Obj.mapFields (·.setIfInBounds 1 (rawInt ((i:Int)+1)))) }) again.typeIs ?_
  change wpAny _ _ (pure es[i].key) _ _ _
  apply aT6
  apply aT6
  exact⟨es[i].key,rfl,aT6 (yes lt _ again (bf2 ..))⟩
 ·have ge:es.size<=i:=bd6 lt
  simp only [Array.getElem?_eq_none ge]
  apply aS6
  apply aS6
  first
   | apply wpAny_typeNameOfWhole_keyiter T
   | apply wpAny_typeNameOf_keyiter T
  apply aT6
  change wpAny _ _ (setField (.ref it) 0 .none >>= _) _ _ s
  apply aS6
  refine wpAny_setField f1 f3 (by simp) ?_
  apply aS6
  simp only [newExc,newTuple]
  apply aS6
  refine aY2 ?_ (by size_fits)
  apply aS6
  refine wpAny_of_eq (a:=Value.none) (by first | rfl | (simp only [firstArgMember]; rfl)) ?_
  refine aY2 ?_ (by size_fits)
  unfold raiseNew
  apply aS6
  apply wpAny_handled
  have quiet:A.in1.handled=none:=hh
  rw [quiet]
  refine wpAny_throw ?_
  apply aS6
  refine wpAny_isInstance (T:="StopIteration") (b:=true) ⟨_,aU9 _ rfl,rfl⟩ isSubtype_stop ?_
  exact aT6 (no ge _ (((bf2 ..).extBut.push _).push _))
theorem am8 (hh:A.handled=none) (ne:d ≠ it):Walks prog w A it [it,d] [it] es.size (fun i v=>∃ lt:i < es.size,es[i].key=v) (fun i h=>h.IsKeyIter it d i es.size ep/\gL h d es ep) where
 sub:=by intro b hb; rw [aT0.mp hb]; exact aS8
 frame:=by
  intro i h h' st hk
  exact⟨st.1.at (hk it aS8),st.2.keep (hk d (aT5 _ aS8))⟩
 item:=by
  intro i s Q E lt st hQ
  refine turn hh st.1 st.2 (fun lt' h' again sb=>?_) fun ge=>absurd lt (Nat.not_lt.mpr ge)
  exact hQ _ h' s.toks ⟨lt',rfl⟩ ⟨again,st.2.keep fun o e=>sb.extBut d o ne e⟩ fun b o hb e=>sb.extBut b o (fun z=>hb (aT0.mpr z)) e
 done:=by
  intro s Q E st hQ
  refine turn hh st.1 st.2 (fun lt=>absurd lt (aX8 _)) fun _ h' eb=>?_
  exact hQ h' s.toks fun b o hb e=>eb b o (fun z=>hb (aT0.mpr z)) e
 self:=by intro i s Q E st hQ; exact wpAny_pyIter_keyiter st.1 hQ
theorem am9 (far:(d == sysModules)=false):KdlSrc prog w "dict" d d es.size (fun i v=>∃ lt:i < es.size,es[i].key=v) (fun h=>gL h d es ep) where
 type:=fun _ x=>x.ty
 there:=fun _ x=>⟨x.lt,x.lt⟩
 keep:=fun _ _ x k=>x.keep (k d (.inl rfl))
 notList:=by decide
 notTuple:=by decide
 hint:=fun _ _ _ _ x q=>kdl_hint_dict x.ty q
 iter:=fun _ _ hh x=>⟨_,_,fun _ _ q=>made far x q,am8 hh (aW9 x.lt),⟨_,aU9 _ rfl,rfl,rfl⟩,x.keep fun o e=>aS7 _ e⟩
end
end Raw
namespace L2
open PySem PySem.Spec PyProof.Rows
section
variable {X : Cx} {pins : List (Addr × Obj)} {σ : St} {H : Hp} {s : Shared} {a : Addr}
theorem an0 {kvs:List (aG × V)} (I:a6 X pins σ H s) (h:H a=some (.dK kvs)):∃ es ep,Raw.gL s.heap a es ep/\(a == sysModules)=false/\aI (kvs.map fun p=>kV p.1) (es.toList.map (·.key))/\kvs.length<=sizeLine:=by
 obtain ⟨z,far,vs,rel,o,es,ep,e1,e2,e3,kk,pr,nd⟩:=(show bY X.prog X.w H s.heap a (.dK kvs) from I.hok a _ h)
 refine⟨es,ep,⟨o,e1,e2,e3⟩,far,?_,z⟩
 clear z far e1 e2 e3 kk nd h
 generalize es.toList=l at pr
 induction pr generalizing kvs with
 | nil=>cases rel; exact .nil
 | @cons e k es' kvs' h1 h2 _ ih=>
  cases rel with
  | @cons p q ps qs r rs=>
   refine .cons ?_ (ih rs)
   obtain ⟨r1,_⟩:=r
   show b4 (kV p.1) e.key
   rw [r1]
   rcases iB h1 with ⟨n,t,e4,e5⟩ | ⟨x,t,e4,e5⟩
   ·rw [e4,e5]; exact⟨t,rfl⟩
   ·rw [e4,e5]; exact⟨t,rfl⟩
theorem an1 {es:Array DictEntry}{acc:Array Value} (h:ItemsOf (fun i v=>∃ lt:i < es.size,es[i].key=v) acc es.size):acc.toList=es.toList.map (·.key):=by
 apply List.ext_getElem?
 intro j
 have h1:=h.1
 by_cases hj:j < es.size
 ·have hj':j < acc.size:=by rw [h1]; exact hj
  obtain ⟨_,e⟩:=h.2 j acc[j] (by simp [hj'])
  rw [aT7]
  simp [hj,hj',e]
 ·have hj' : ¬ j < acc.size:=by rw [h1]; exact hj
  rw [aT7]
  simp [bd6 hj,bd6 hj']
end
noncomputable def C1 (outer:List (Str × NameKind)) (XN:List Str) (names:List (Str × NameKind)) (N:List Str) (fr:List (Option Nat)):Bool:=
 names.all (fun y=>!(y.2 == .cell) || names.lookup y.1 == some .cell) && names.all (fun y=>!(y.2 == .local) || names.lookup y.1 == some .local) &&
 names.all (fun y=>!(y.2 == .free) || (outer.lookup y.1 == some .cell || outer.lookup y.1 == some .free)) && fr.length == N.length &&
 (fr.zip N).all (fun p=>match p.1 with
  | none=>true
  | some j=>XN[j]? == some p.2 && names.lookup p.2 == some .free)
theorem c9.of {X:Cx}{scope:Scope}{N:List Str}{fr:List (Option Nat)} (hk:scope.kind = .function) (h:C1 X.env.scope.names X.N scope.names N fr=true):c9 X scope N fr:=by
 unfold C1 at h
 simp only [aX1] at h
 obtain ⟨⟨⟨⟨h1,h2⟩,h3⟩,h4⟩,h5⟩:=h
 refine⟨hk,fun y hy e=>?_,fun y hy e=>?_,fun y hy e=>?_,by simpa using h4,fun i j e=>?_⟩
 ·have:=bf5.mp h1 y hy
  rw [e] at this; simpa using this
 ·have:=bf5.mp h2 y hy
  rw [e] at this; simpa using this
 ·have:=bf5.mp h3 y hy
  rw [e] at this; simpa using this
 ·have hl:fr.length=N.length:=by simpa using h4
  have hi:i < fr.length:=(aT3.mp e).1
  have m:(some j,N[i]'(by omega)) ∈ fr.zip N:=by
   have:(fr.zip N)[i]? = some (some j,N[i]'(by omega)):=by
    rw [List.getElem?_zip_eq_some]
    exact⟨e,by simp⟩
   exact aT4 this
  have:=bf5.mp h5 _ m
  simp only [aX1,beq_iff_eq] at this
  exact⟨N[i]'(by omega),by simp,this.1,this.2⟩
theorem C2 {n:Option V}{r:St}{v:V}:Wk (none :: r) (some v :: r):=(Wk.refl (none :: r)).set (i:=0) rfl
noncomputable def lO (H:Hp) (ys:List V) (ls:List (Int × Int)):Prop:=Paired (fun y l=>∃ b,y = .ref b/\H b=some (.tup [.int l.1,.int l.2])) ys ls
structure C3 (H:Hp) (v:V) (ws:List Int) (ls:List (Int × Int)):Prop where
 at_:∃ a p q ys,v = .ref a/\H a=some (.tup [.ref p,.ref q])/\H p=some (.tup (ws.map V.int))/\H q=some (.tup ys)/\lO H ys ls
theorem lO.get {H:Hp}:∀ {ys:List V}{ls:List (Int × Int)}{i:Nat}{y:V},lO H ys ls->ys[i]? = some y->∃ l b,ls[i]? = some l/\y = .ref b/\H b=some (.tup [.int l.1,.int l.2])
 | _,_,_,_,.nil,e=>by simp at e
 | _,_,0,_,.cons (b:=l) ⟨b,h1,h2⟩ _,e=>by simp at e; subst e; exact⟨l,b,rfl,h1,h2⟩
 | _,_,i+1,_,.cons _ t,e=>by
  obtain ⟨l,b,h1,h2⟩:=lO.get (i:=i) t (by simpa using e)
  exact⟨l,b,by simpa using h1,h2⟩
noncomputable def aK (ls:List (Int × Int)) (k:Int):List Int:=ls.flatMap fun l=>(if l.1=k then [l.2] else []) ++ (if l.2=k then [l.1] else [])
theorem an2 (ls:List (Int × Int)) (l:Int × Int) (k:Int):aK (ls ++ [l]) k=aK ls k ++ ((if l.1=k then [l.2] else []) ++ (if l.2=k then [l.1] else [])):=by
 unfold aK; rw [List.flatMap_append]; simp
theorem C4 {ls:List (Int × Int)}{i:Nat}{l:Int × Int} (h:ls[i]? = some l) (k:Int):aK (ls.take (i+1)) k=aK (ls.take i) k ++ ((if l.1=k then [l.2] else []) ++ (if l.2=k then [l.1] else [])):=by
 rw [aX0,h]; exact an2 _ _ _
structure gX (H H':Hp) (r:Addr) (bs:List Addr) (f:Nat->List Int):Prop where
 new:H r=none
 news:∀ b ∈ bs,H b=none/\b ≠ r
 nd:bs.Nodup
 row:H' r=some (.lst (bs.map V.ref))
 rows:∀ (k:Nat) (b:Addr),bs[k]? = some b->H' b=some (.lst ((f k).map V.int))
 same:aC H H'
theorem gX.congr {H H':Hp}{r:Addr}{bs:List Addr}{f g:Nat->List Int} (h:gX H H' r bs f) (e:∀ k,k < bs.length->f k=g k):gX H H' r bs g:=
 ⟨h.new,h.news,h.nd,h.row,fun k b hb=>by rw [<- e k (aT3.mp hb).1]; exact h.rows k b hb,h.same⟩
theorem gX.app {H H':Hp}{r:Addr}{bs:List Addr}{f:Nat->List Int} (h:gX H H' r bs f) {k:Nat}{b:Addr} (hb:bs[k]? = some b) (x:Int) :
  gX H (upd H' b (.lst ((f k).map V.int ++ [V.int x]))) r bs (fun j=>if j=k then f j ++ [x] else f j):=by
 have hm:b ∈ bs:=aT4 hb
 refine⟨h.new,h.news,h.nd,by rw [aZ (Ne.symm (h.news b hm).2)]; exact h.row,fun j c hc=>?_,fun c o e=>by rw [aZ (dD e (h.news b hm).1)]; exact h.same c o e⟩
 by_cases hj:j=k
 ·subst hj
  rw [hb] at hc; cases hc
  rw [bK,if_pos rfl]; simp
 ·rw [if_neg hj]
  have ne:c ≠ b:=fun z=>by
   subst z
   obtain ⟨i1,e1⟩:=aT3.mp hb
   obtain ⟨i2,e2⟩:=aT3.mp hc
   refine hj (Nat.le_antisymm (bd6 fun z=>?_) (bd6 fun z=>?_))
   ·exact List.pairwise_iff_getElem.mp h.nd _ _ i1 i2 z (e1.trans e2.symm)
   ·exact List.pairwise_iff_getElem.mp h.nd _ _ i2 i1 z (e2.trans e1.symm)
  rw [aZ ne]; exact h.rows j c hc
theorem nK (ls:List (Int × Int)) (k:Int):(aK ls k).length<=2 * ls.length:=by
 induction ls with
 | nil=>exact aT2 _
 | cons l r ih=>
  have e:aK (l :: r) k=((if l.1=k then [l.2] else []) ++ (if l.2=k then [l.1] else [])) ++ aK r k:=rfl
  rw [e,aU6,aU6,aV8]
  have h1:(if l.1=k then [l.2] else []).length<=1:=by split <;> simp
  have h2:(if l.2=k then [l.1] else []).length<=1:=by split <;> simp
  omega
theorem kH {α:Type}{xs:List α}{i:Int}{v:α} (h0:0<=i) (h:xs[i.toNat]? = some v):atI xs i=some v:=by
 have:=kD h
 rwa [show ((i.toNat:Nat):Int)=i by omega] at this
theorem gM {n:Nat} (h:n<=16000000):n < sizeLine:=by rw [sizeLine_eq]; omega
theorem nL {σ:St}{H:Hp}{A B:Hp->Prop} (h:A H):tQ σ H fun b H4=>if b=true then A H4 else B H4:=by
 show if true=true then A H else B H
 rw [if_pos rfl]; exact h
theorem jU {K:PySem.W.Frag}{H:Hp}{p:Addr}{xs:List V} (h:aJ K H p xs):nC K "list" (.ref p) H:=.inl ⟨rfl,xs,h⟩
noncomputable def nM (H:Hp) (y:V):Int × Int:=match B8 H y with
 | [a,b]=>(a,b)
 | _=>(0,0)
theorem pV {H:Hp}:∀ {zs:List V},(∀ y ∈ zs,∃ b,y = .ref b/\H b=some (.tup [.int (nM H y).1,.int (nM H y).2])/\B8 H y = [(nM H y).1,(nM H y).2])->lO H zs (zs.map (nM H))
 | [],_=>.nil
 | y :: zs,h=>by
  obtain ⟨b,e,hb,_⟩:=h y aS8
  exact .cons ⟨b,e,hb⟩ (pV fun z hz=>h z (aT5 _ hz))
theorem u4 {l:Int × Int}{k x:Int}:x ∈ (if l.1=k then [l.2] else []) ++ (if l.2=k then [l.1] else []) ↔ (l.1=k/\x=l.2) ∨ (l.2=k/\x=l.1):=by
 rw [aT9]
 by_cases h1:l.1=k <;> by_cases h2:l.2=k <;> simp [h1,h2]
theorem dF {ls:List (Int × Int)}{k x:Int}:x ∈ aK ls k ↔ (k,x) ∈ ls ∨ (x,k) ∈ ls:=by
 unfold aK
 rw [List.mem_flatMap]
 constructor
 ·rintro ⟨l,hl,hx⟩
  rcases u4.mp hx with ⟨h1,h2⟩ | ⟨h1,h2⟩
  ·left; rw [<- h1,h2]; exact hl
  ·right; rw [<- h1,h2]; exact hl
 ·rintro (h | h)
  ·exact⟨_,h,u4.mpr (.inl ⟨rfl,rfl⟩)⟩
  ·exact⟨_,h,u4.mpr (.inr ⟨rfl,rfl⟩)⟩
theorem lP {ls:List (Int × Int)}{k x:Int} (h:x ∈ aK ls k):k ∈ aK ls x:=dF.mpr (dF.mp h).symm
theorem u5 (ns:List Int) (lo hi:Option Int):∃ ms:List Int,dP (ns.map V.int) lo hi=ms.map V.int/\ms.length<=ns.length:=by
 unfold dP
 refine⟨_,by rw [<- List.map_drop,<- List.map_take],?_⟩
 rw [aZ6,aZ8]; omega
end L2
namespace Zp
open PySem PyProof.Rows
section
variable {prog : Program} {w : World} {A : Around} {E : Value → Shared → Prop} {s : Shared}
theorem an3 {it t:Addr}{i:Nat}{items:Array Value}{x:Value}{Q:Value->Shared->Prop} (hi:s.heap.IsTupleIter it t i) (ht:s.heap.IsTuple t items) (hx:items[i]? = some x)
  (q:∀ h',h'.IsTupleIter it t (i+1)->Heap.SameBut it s.heap h'->Q x { s with heap:=h' }):wpAny (model prog w) A (Builtin.SmallTypes.nextOf (.ref it)) Q E s:=by
 have T:=hi.typeIs
 obtain ⟨o,e1,e2,e3⟩:=hi
 obtain ⟨u,f1,_,k,f3⟩:=ht
 have slot:=PySem.F.slot_tuple_iterator_next
 have isref:(Value.ref t == Value.none)=false:=rfl
 unfold Builtin.SmallTypes.nextOf
 apply aS6
 apply ba7 (name:=Str.ofString "__next__") T slot
 apply bb1 slot T PySem.F.entry_tuple_iterator_next _ (PySem.F.args_tuple_iterator_next_1 _)
 change wpAny _ _ (field (.ref it) 0 >>= _) _ _ s
 apply aS6
 refine bb5 e1 e3 (x:=.ref t) rfl ?_
 change wpAny _ _ (if (Value.ref t == Value.none)=true then _ else _) _ _ s
 simp only [isref,aV7,aZ7]
 change wpAny _ _ (field (.ref it) 1 >>= _) _ _ s
 apply aS6
 refine bb5 e1 e3 (x:=.int i 0) rfl ?_
 change wpAny _ _ (seqItems? (.ref t) >>= _) _ _ s
 apply aS6
 apply bf8 f1 f3
 simp only [aV4,hx]
 apply aS6
 refine wpAny_setField e1 e3 (by simp) ?_
 apply aT6
 refine⟨x,rfl,aT6 (q _ ⟨_,Heap.get?_update_self _ e1 (Obj.isFreed_of_fields (Obj.data_mapFields e3 _)),?_,?_⟩ (bf2 ..))⟩
 ·rw [Obj.cls_mapFields]; exact e2
 ·rw [Obj.data_mapFields e3]; simp [rawInt]
theorem an4 {it t:Addr}{i:Nat}{items:Array Value}{Q:Value->Shared->Prop} (hh:A.handled=none) (hi:s.heap.IsTupleIter it t i) (ht:s.heap.IsTuple t items) (hx:items[i]? = none)
  (q:∀ h' e,Heap.ExtBut it s.heap h'->(∃ o,h'.get? e=some o/\o.cls = .type "StopIteration")->E (.ref e) { s with heap:=h' }):wpAny (model prog w) A (Builtin.SmallTypes.nextOf (.ref it)) Q E s:=by
 have T:=hi.typeIs
 obtain ⟨o,e1,e2,e3⟩:=hi
 obtain ⟨u,f1,_,k,f3⟩:=ht
 have slot:=PySem.F.slot_tuple_iterator_next
 have isref:(Value.ref t == Value.none)=false:=rfl
 unfold Builtin.SmallTypes.nextOf
 apply aS6
 apply ba7 (name:=Str.ofString "__next__") T slot
 apply bb1 slot T PySem.F.entry_tuple_iterator_next _ (PySem.F.args_tuple_iterator_next_1 _)
 change wpAny _ _ (field (.ref it) 0 >>= _) _ _ s
 apply aS6
 refine bb5 e1 e3 (x:=.ref t) rfl ?_
 change wpAny _ _ (if (Value.ref t == Value.none)=true then _ else _) _ _ s
 simp only [isref,aV7,aZ7]
 change wpAny _ _ (field (.ref it) 1 >>= _) _ _ s
 apply aS6
 refine bb5 e1 e3 (x:=.int i 0) rfl ?_
 change wpAny _ _ (seqItems? (.ref t) >>= _) _ _ s
 apply aS6
 apply bf8 f1 f3
 simp only [aV4,hx]
 apply aS6
 apply wpAny_rule
 apply aS6
 refine wpAny_setField e1 e3 (by simp) ?_
 apply aS6
 simp only [newExc,newTuple]
 apply aS6
 refine aY2 ?_ (by size_fits)
 apply aS6
 refine wpAny_of_eq (a:=Value.none) (by first | rfl | (simp only [firstArgMember]; rfl)) ?_
 refine aY2 ?_ (by size_fits)
 unfold raiseNew
 apply aS6
 apply wpAny_handled
 have quiet:A.in1.handled=none:=hh
 rw [quiet]
 refine wpAny_throw ?_
 exact q _ _ (((bf2 ..).extBut.push _).push _) ⟨_,aU9 _ rfl,rfl⟩
theorem an5 (hh:A.handled=none) (it t:Addr) (ne:t ≠ it) (items:Array Value):Draws prog w A it [it,t] items.size (fun i v=>items[i]? = some v) (fun i h=>h.IsTupleIter it t i/\h.IsTuple t items) where
 live:=fun _ _ st=>st.1.elim fun o y=>⟨o,y.1⟩
 frame:=fun _ _ _ st k=>⟨st.1.at fun o e=>k it aS8 o e,st.2.elim fun o y=>⟨o,k t (aT5 _ aS8) o y.1,y.2⟩⟩
 item:=fun i s Q E lt st q=>an3 st.1 st.2 (Array.getElem?_eq_getElem lt) fun h' again sb=>q _ h' s.toks (Array.getElem?_eq_getElem lt) ⟨again,st.2.elim fun o y=>⟨o,sb.extBut t o ne y.1,y.2⟩⟩ sb
 done:=fun s Q E st q=>an4 hh st.1 st.2 (Array.getElem?_eq_none (aT2 _)) q
end
structure Ap (z TI TO i1 i2:Addr) (fp1 fp2:List Addr):Prop where
 TIz:TI ≠ z
 TOz:TO ≠ z
 TITO:TI ≠ TO
 z1:z ∉ fp1
 z2:z ∉ fp2
 o1:TO ∉ fp1
 o2:TO ∉ fp2
 t1:TI ∉ fp1
 t2:TI ∉ fp2
 m1:i1 ∈ fp1
 m2:i2 ∈ fp2
 n1:i1 ∉ fp2
 n2:i2 ∉ fp1
structure u6 (z TI TO i1 i2:Addr) (St1 St2:Nat->Heap->Prop) (f0:Value) (i j:Nat) (h:Heap):Prop where
 zz:IsZip h z TI TO f0
 ti:IsPair h TI (.ref i1) (.ref i2)
 to_:∃ a b,IsPair h TO a b
 s1:St1 i h
 s2:St2 j h
section
variable {prog : Program} {w : World} {A : Around} {E : Value → Shared → Prop} {s : Shared} {z TI TO i1 i2 : Addr} {fp1 fp2 : List Addr} {n1 n2 : Nat} {P1 P2 : Nat → Value → Prop} {St1 St2 : Nat → Heap → Prop}
theorem lQ (ap:Ap z TI TO i1 i2 fp1 fp2) {b:Addr} (h:b ∉ fp1):b ≠ i1:=fun e=>h (e ▸ ap.m1)
theorem pW (ap:Ap z TI TO i1 i2 fp1 fp2) {b:Addr} (h:b ∉ fp2):b ≠ i2:=fun e=>h (e ▸ ap.m2)
theorem item (D1:Draws prog w A.in1 i1 fp1 n1 P1 St1) (D2:Draws prog w A.in1 i2 fp2 n2 P2 St2) (ap:Ap z TI TO i1 i2 fp1 fp2) {i:Nat} (l1:i < n1) (l2:i < n2) (st:u6 z TI TO i1 i2 St1 St2 .none i i s.heap) {Q:Option Value->Shared->Prop}
  (q:∀ x y h' tk,P1 i x->P2 i y->u6 z TI TO i1 i2 St1 St2 (rawInt s.heap.objs.size) (i+1) (i+1) h'->IsPair h' s.heap.objs.size x y->(∀ c o,c ≠ z->c ≠ TO->c ≠ i1->c ≠ i2->s.heap.get? c=some o->h'.get? c=some o)->
   h'.objs.size=s.heap.objs.size+1->Q (some (.ref s.heap.objs.size)) { s with heap:=h',toks:=tk }):wpAny (model prog w) A (pyNext (.ref z)) Q E s:=by
 obtain ⟨hz,hti,⟨a,b,hto⟩,h1,h2⟩:=st
 have T:s.TypeIs (.ref z) "zip":=⟨_,hz,rfl⟩
 have slot:=PySem.F.slot_zip_next
 unfold pyNext
 apply aS6
 apply wpAny_attempt
 apply ba7 (name:=Str.ofString "__next__") T slot
 apply bb1 slot T PySem.F.entry_zip_next _ (PySem.F.args_zip_next_1 _)
 change wpAny _ _ (field (.ref z) 2 >>= _) _ _ _
 apply aS6
 refine bb5 hz rfl (x:=.bool false) rfl ?_
 change wpAny _ _ (field (.ref z) 3 >>= _) _ _ _
 apply aS6
 refine bb5 hz rfl (x:=.ref TI) rfl ?_
 apply aS6
 apply bf8 hti rfl
 change wpAny _ _ (Builtin.SmallTypes.ownedTupleIsFree (.ref z) >>= _) _ _ _
 apply aS6
 unfold Builtin.SmallTypes.ownedTupleIsFree
 apply aS6
 refine bb5 hz rfl (x:=.none) rfl (aT6 ?_)
 simp only [if_true]
 apply aS6
 apply wpAny_rule
 apply aS6
 refine bb5 hz rfl (x:=.ref TO) rfl ?_
 apply aS6
 refine bf9 hz (by simp) fun g1 hz1 sb1=>?_
 have k1:∀ c o,c ≠ z->s.heap.get? c=some o->g1.get? c=some o:=fun c o c1 e=>sb1.extBut c o c1 e
 apply aS6
 simp only [List.zipIdx_cons,List.zipIdx_nil,List.forIn_cons,List.forIn_nil]
 apply aS6
 apply aS6
 apply wpAny_onRaise
 change wpAny _ _ (Builtin.SmallTypes.nextOf (.ref i1) >>= _) _ _ _
 apply aS6
 refine D1.item i { s with heap:=g1 } _ _ l1 (D1.frame _ _ _ h1 fun c hc o e=>k1 c o (fun y=>ap.z1 (y ▸ hc)) e) fun x g2 tk2 px st1 sb2=>aT6 ?_
 have k2:∀ c o,c ≠ z->c ≠ i1->s.heap.get? c=some o->g2.get? c=some o:=fun c o c1 c2 e=>sb2.extBut c o c2 (k1 c o c1 e)
 have to2:IsPair g2 TO a b:=k2 _ _ ap.TOz (lQ ap ap.o1) hto
 apply aS6
 apply bf8 to2 rfl
 apply aS6
 refine wpAny_updateSeq_pair to2 fun g3 to3 sb3=>?_
 have to3:IsPair g3 TO x b:=to3
 apply aS6
 apply wpAny_letGo
 apply aT6
 apply aS6
 apply aS6
 apply wpAny_onRaise
 change wpAny _ _ (Builtin.SmallTypes.nextOf (.ref i2) >>= _) _ _ _
 apply aS6
 have k3:∀ c o,c ≠ z->c ≠ i1->c ≠ TO->s.heap.get? c=some o->g3.get? c=some o:=fun c o c1 c2 c3 e=>sb3.extBut c o c3 (k2 c o c1 c2 e)
 refine D2.item i { s with heap:=g3,toks:=tk2 } _ _ l2 (D2.frame _ _ _ h2 fun c hc o e=>k3 c o (fun y=>ap.z2 (y ▸ hc)) (fun y=>ap.n1 (y ▸ hc)) (fun y=>ap.o2 (y ▸ hc)) e) fun y g4 tk4 py st2 sb4=>aT6 ?_
 have to4:IsPair g4 TO x b:=sb4.extBut _ _ (pW ap ap.o2) to3
 apply aS6
 apply bf8 to4 rfl
 apply aS6
 refine wpAny_updateSeq_pair to4 fun g5 to5 sb5=>?_
 have to5:IsPair g5 TO x y:=to5
 apply aS6
 apply wpAny_letGo
 apply aT6
 apply aT6
 apply aS6
 apply bf8 to5 rfl
 apply aS6
 refine wpAny_newTuple ?_ (by show 2<=sizeLine; decide)
 have size:g5.objs.size=s.heap.objs.size:=by rw [sb5.1,sb4.1,sb3.1,sb2.1,sb1.1]
 have k5:∀ c o,c ≠ z->c ≠ TO->c ≠ i1->c ≠ i2->s.heap.get? c=some o->g5.get? c=some o:=fun c o c1 c2 c3 c4 e=>sb5.extBut c o c2 (sb4.extBut c o c4 (k3 c o c1 c3 c2 e))
 have z5:IsZip g5 z TI TO .ellipsis:=sb5.extBut _ _ (Ne.symm ap.TOz) (sb4.extBut _ _ (pW ap ap.z2) (sb3.extBut _ _ (Ne.symm ap.TOz) (sb2.extBut _ _ (lQ ap ap.z1) hz1)))
 change wpAny _ _ (Builtin.SmallTypes.ownedTupleHandOut (.ref z) (.ref g5.objs.size) >>= _) _ _ _
 apply aS6
 unfold Builtin.SmallTypes.ownedTupleHandOut
 apply aS6
 have z6:IsZip (g5.push { cls:=.type "tuple",data:=.seq #[x,y] }) z TI TO .ellipsis:=aS7 _ z5
 refine bf9 z6 (by simp) fun g7 z7 sb7=>?_
 have z7:IsZip g7 z TI TO (rawInt g5.objs.size):=z7
 refine bf9 z7 (by simp) fun g8 z8 sb8=>?_
 have z8:IsZip g8 z TI TO (rawInt g5.objs.size):=z8
 have zlt:z < g5.objs.size:=aU7 z5
 have up:∀ c o,c ≠ z->g5.get? c=some o->g8.get? c=some o:=fun c o c1 e=>sb8.extBut c o c1 (sb7.extBut c o c1 (aS7 _ e))
 have p8:IsPair g8 g5.objs.size x y:=sb8.extBut _ _ (bc1 zlt) (sb7.extBut _ _ (bc1 zlt) (aU9 _ rfl))
 have s8:g8.objs.size=g5.objs.size+1:=by rw [sb8.1,sb7.1,bh2]
 have f1:St1 (i+1) g8:=D1.frame _ _ _ st1 fun c hc o e=>up c o (fun y=>ap.z1 (y ▸ hc)) (sb5.extBut c o (fun y=>ap.o1 (y ▸ hc)) (sb4.extBut c o (fun y=>ap.n2 (y ▸ hc)) (sb3.extBut c o (fun y=>ap.o1 (y ▸ hc)) e)))
 have f2:St2 (i+1) g8:=D2.frame _ _ _ st2 fun c hc o e=>up c o (fun y=>ap.z2 (y ▸ hc)) (sb5.extBut c o (fun y=>ap.o2 (y ▸ hc)) e)
 have ti8:IsPair g8 TI (.ref i1) (.ref i2):=up _ _ ap.TIz (k5 _ _ ap.TIz ap.TITO (lQ ap ap.t1) (pW ap ap.t2) hti)
 rw [size] at z8 p8 s8
 apply aT6
 refine⟨_,rfl,aT6 ?_⟩
 change Q (some (.ref g5.objs.size)) _
 rw [size]
 exact q x y g8 tk4 px py ⟨z8,ti8,⟨x,y,up _ _ ap.TOz to5⟩,f1,f2⟩ p8 (fun c o c1 c2 c3 c4 e=>up c o c1 (k5 c o c1 c2 c3 c4 e)) s8
theorem fin (D1:Draws prog w A.in1 i1 fp1 n1 P1 St1) (D2:Draws prog w A.in1 i2 fp2 n2 P2 St2) (ap:Ap z TI TO i1 i2 fp1 fp2) {i:Nat} (le:i=n1 ∨ (i < n1/\i=n2)) (st:u6 z TI TO i1 i2 St1 St2 .none i i s.heap) {Q:Option Value->Shared->Prop}
  (q:∀ h' tk,(∀ c o,c ≠ z->c ≠ TO->c ≠ i1->c ≠ i2->s.heap.get? c=some o->h'.get? c=some o)->Q none { s with heap:=h',toks:=tk }):wpAny (model prog w) A (pyNext (.ref z)) Q E s:=by
 obtain ⟨hz,hti,⟨a,b,hto⟩,h1,h2⟩:=st
 have T:s.TypeIs (.ref z) "zip":=⟨_,hz,rfl⟩
 have slot:=PySem.F.slot_zip_next
 unfold pyNext
 apply aS6
 apply wpAny_attempt
 apply ba7 (name:=Str.ofString "__next__") T slot
 apply bb1 slot T PySem.F.entry_zip_next _ (PySem.F.args_zip_next_1 _)
 change wpAny _ _ (field (.ref z) 2 >>= _) _ _ _
 apply aS6
 refine bb5 hz rfl (x:=.bool false) rfl ?_
 change wpAny _ _ (field (.ref z) 3 >>= _) _ _ _
 apply aS6
 refine bb5 hz rfl (x:=.ref TI) rfl ?_
 apply aS6
 apply bf8 hti rfl
 change wpAny _ _ (Builtin.SmallTypes.ownedTupleIsFree (.ref z) >>= _) _ _ _
 apply aS6
 unfold Builtin.SmallTypes.ownedTupleIsFree
 apply aS6
 refine bb5 hz rfl (x:=.none) rfl (aT6 ?_)
 simp only [if_true]
 apply aS6
 apply wpAny_rule
 apply aS6
 refine bb5 hz rfl (x:=.ref TO) rfl ?_
 apply aS6
 refine bf9 hz (by simp) fun g1 hz1 sb1=>?_
 have k1:∀ c o,c ≠ z->s.heap.get? c=some o->g1.get? c=some o:=fun c o c1 e=>sb1.extBut c o c1 e
 apply aS6
 simp only [List.zipIdx_cons,List.zipIdx_nil,List.forIn_cons,List.forIn_nil]
 apply aS6
 apply aS6
 apply wpAny_onRaise
 change wpAny _ _ (Builtin.SmallTypes.nextOf (.ref i1) >>= _) _ _ _
 apply aS6
 have z1:IsZip g1 z TI TO .ellipsis:=hz1
 rcases le with rfl | ⟨lt,rfl⟩
 ·refine D1.done { s with heap:=g1 } _ _ (D1.frame _ _ _ h1 fun c hc o e=>k1 c o (fun y=>ap.z1 (y ▸ hc)) e) fun g2 e eb ex=>?_
  have z2:IsZip g2 z TI TO .ellipsis:=eb _ _ (lQ ap ap.z1) z1
  refine bf9 z2 (by simp) fun g3 z3 sb3=>?_
  obtain ⟨oe,eo,co⟩:=ex
  have ne:e ≠ z:=fun y=>by
   rw [y,z2] at eo
   have:=aV2 eo
   rw [<- this] at co; exact absurd (show Value.type "zip" = Value.type "StopIteration" from co) (by decide)
  apply aS6
  refine wpAny_isInstance (T:="StopIteration") (b:=true) ⟨oe,sb3.extBut _ _ ne eo,co⟩ isSubtype_stop ?_
  exact aT6 (q g3 s.toks fun c o c1 _ c3 _ e=>sb3.extBut c o c1 (eb c o c3 (k1 c o c1 e)))
 ·refine D1.item i { s with heap:=g1 } _ _ lt (D1.frame _ _ _ h1 fun c hc o e=>k1 c o (fun y=>ap.z1 (y ▸ hc)) e) fun x g2 tk2 px st1 sb2=>aT6 ?_
  have k2:∀ c o,c ≠ z->c ≠ i1->s.heap.get? c=some o->g2.get? c=some o:=fun c o c1 c2 e=>sb2.extBut c o c2 (k1 c o c1 e)
  have to2:IsPair g2 TO a b:=k2 _ _ ap.TOz (lQ ap ap.o1) hto
  apply aS6
  apply bf8 to2 rfl
  apply aS6
  refine wpAny_updateSeq_pair to2 fun g3 to3 sb3=>?_
  apply aS6
  apply wpAny_letGo
  apply aT6
  apply aS6
  apply aS6
  apply wpAny_onRaise
  change wpAny _ _ (Builtin.SmallTypes.nextOf (.ref i2) >>= _) _ _ _
  apply aS6
  have k3:∀ c o,c ≠ z->c ≠ i1->c ≠ TO->s.heap.get? c=some o->g3.get? c=some o:=fun c o c1 c2 c3 e=>sb3.extBut c o c3 (k2 c o c1 c2 e)
  refine D2.done { s with heap:=g3,toks:=tk2 } _ _ (D2.frame _ _ _ h2 fun c hc o e=>k3 c o (fun y=>ap.z2 (y ▸ hc)) (fun y=>ap.n1 (y ▸ hc)) (fun y=>ap.o2 (y ▸ hc)) e) fun g4 e eb ex=>?_
  have z4:IsZip g4 z TI TO .ellipsis:=eb _ _ (pW ap ap.z2) (sb3.extBut _ _ (Ne.symm ap.TOz) (sb2.extBut _ _ (lQ ap ap.z1) z1))
  refine bf9 z4 (by simp) fun g5 z5 sb5=>?_
  obtain ⟨oe,eo,co⟩:=ex
  have ne:e ≠ z:=fun y=>by
   rw [y,z4] at eo
   have:=aV2 eo
   rw [<- this] at co; exact absurd (show Value.type "zip" = Value.type "StopIteration" from co) (by decide)
  apply aS6
  refine wpAny_isInstance (T:="StopIteration") (b:=true) ⟨oe,sb5.extBut _ _ ne eo,co⟩ isSubtype_stop ?_
  exact aT6 (q g5 tk2 fun c o c1 c2 c3 c4 e=>sb5.extBut c o c1 (eb c o c4 (k3 c o c1 c3 c2 e)))
end
noncomputable def fZ (h:Heap) (t u:Addr):Heap:=
 ((((h.push { cls:=.type "tuple_iterator",data:=.fields #[.ref t,.int 0 0] }).push { cls:=.type "tuple_iterator",data:=.fields #[.ref u,.int 0 0] }).push { cls:=.type "tuple",data:=.seq #[.ref h.objs.size,.ref (h.objs.size+1)] }).push
  { cls:=.type "tuple",data:=.seq #[.none,.none] }).push { cls:=.type "zip",data:=.fields #[.none,.bool false,.bool false,.ref (h.objs.size+2),.ref (h.objs.size+3)] }
theorem an6 (t u:Addr) (xs ys:Array Value):Meets (Builtin.«zip.__new__» ⟨[.type "zip",.ref t,.ref u],[]⟩) (fun _ R s=>s.heap.IsTuple t xs/\s.heap.IsTuple u ys/\R (.ok (.ret (.ref (s.heap.objs.size+4)))) { s with heap:=fZ s.heap t u }):=
 .of_wp fun prog w A R s h=>by
  obtain ⟨hp,g,d,tk,os⟩:=s
  obtain ⟨ht,hu,h⟩:=h
  have sub:=sub_zip
  have a1:Heap.IsTuple (Shared.heap ⟨hp,g,d,tk,os⟩) t xs:=ht
  have a2:Heap.IsTuple (Shared.heap ⟨hp.push { cls:=.type "tuple_iterator",data:=.fields #[.ref t,.int 0 0] },g,d,tk,os⟩) u ys:=hu.elim fun o y=>⟨o,aS7 _ y.1,y.2⟩
  wp_walk using wpAny_pyIter_tuple a1,wpAny_pyIter_tuple a2
  have e:∀ (o:Obj) (k:Heap),(k.push o).objs.size=k.objs.size+1:=fun o k=>bh2 ..
  refine⟨_,rfl,?_⟩
  simp only [fZ,e] at h ⊢
  exact h
section
variable {prog : Program} {w : World} {A : Around} {E : Value → Shared → Prop} {s : Shared}
theorem an7 {t u:Addr}{xs ys:Array Value}{Q:Value->Shared->Prop} (ht:s.heap.IsTuple t xs) (hu:s.heap.IsTuple u ys)
  (q:∀ h',IsZip h' (s.heap.objs.size+4) (s.heap.objs.size+2) (s.heap.objs.size+3) .none->IsPair h' (s.heap.objs.size+2) (.ref s.heap.objs.size) (.ref (s.heap.objs.size+1))->
   IsPair h' (s.heap.objs.size+3) .none .none->h'.IsTupleIter s.heap.objs.size t 0->h'.IsTupleIter (s.heap.objs.size+1) u 0->(∀ c o,s.heap.get? c=some o->h'.get? c=some o)->Q (.ref (s.heap.objs.size+4)) { s with heap:=h' }) :
  wpAny (model prog w) A (call (.type "zip") [.ref t,.ref u]) Q E s:=by
 refine callType_new PySem.F.called_zip (by decide) (PySem.F.typeCall_zip_2 _ _) (PySem.F.newCall_zip_2 _ _) (fun obj=>PySem.F.args_object_init_3 obj _ _) PySem.F.entry_zip_new (an6 t u xs ys) ⟨ht,hu,?_⟩
 have e:∀ (o:Obj) (k:Heap),(k.push o).objs.size=k.objs.size+1:=fun o k=>bh2 ..
 have p0:∀ (k:Heap) (o:Obj) (m:Nat),o.isFreed=false->m=k.objs.size->(k.push o).get? m=some o:=fun k o m f z=>by rw [z]; exact aU9 _ f
 have g0:(fZ s.heap t u).get? s.heap.objs.size=some { cls:=.type "tuple_iterator",data:=.fields #[.ref t,.int 0 0] }:=by
  unfold fZ
  exact aS7 _ (aS7 _ (aS7 _ (aS7 _ (p0 _ _ _ rfl rfl))))
 have g1:(fZ s.heap t u).get? (s.heap.objs.size+1)=some { cls:=.type "tuple_iterator",data:=.fields #[.ref u,.int 0 0] }:=by
  unfold fZ
  exact aS7 _ (aS7 _ (aS7 _ (p0 _ _ _ rfl (by simp only [e]))))
 have g2:(fZ s.heap t u).get? (s.heap.objs.size+2)=some { cls:=.type "tuple",data:=.seq #[.ref s.heap.objs.size,.ref (s.heap.objs.size+1)] }:=by
  unfold fZ
  exact aS7 _ (aS7 _ (p0 _ _ _ rfl (by simp only [e])))
 have g3:(fZ s.heap t u).get? (s.heap.objs.size+3)=some { cls:=.type "tuple",data:=.seq #[.none,.none] }:=by
  unfold fZ
  exact aS7 _ (p0 _ _ _ rfl (by simp only [e]))
 have g4:(fZ s.heap t u).get? (s.heap.objs.size+4)=some { cls:=.type "zip",data:=.fields #[.none,.bool false,.bool false,.ref (s.heap.objs.size+2),.ref (s.heap.objs.size+3)] }:=by
  unfold fZ
  exact p0 _ _ _ rfl (by simp only [e])
 refine⟨⟨_,g4,rfl⟩,q _ g4 g2 g3 ⟨_,g0,rfl,rfl⟩ ⟨_,g1,rfl,rfl⟩ fun c o z=>?_⟩
 unfold fZ
 exact aS7 _ (aS7 _ (aS7 _ (aS7 _ (aS7 _ z))))
end
end Zp
namespace L2
open PySem PySem.Spec PyProof.Rows
noncomputable def u7 (K:PySem.W.Frag) (a b:Addr):It:=
  ⟨fun i H=>∃ xs ys x y,aQ K H a xs/\aQ K H b ys/\xs[i]? = some x/\ys[i]? = some y,
   fun i H v H'=>∃ T x y,H T=none/\v = .ref T/\H'=upd H T (.tup [x,y])/\∀ xs ys,aQ K H a xs->aQ K H b ys->xs[i]? = some x/\ys[i]? = some y,
   fun i H=>∃ xs ys,aQ K H a xs/\aQ K H b ys/\(i=xs.length ∨ (i < xs.length/\i=ys.length))⟩
noncomputable def Sq (t:Bool) (K:PySem.W.Frag) (H:Hp) (a:Addr) (xs:List V):Prop:=match t with
 | true=>aQ K H a xs
 | false=>aJ K H a xs
noncomputable def g6 (t:Bool) (h:Heap) (i a:Addr) (n:Nat):Prop:=match t with
 | true=>h.IsTupleIter i a n
 | false=>h.IsListIter i a n
noncomputable def C5 (t:Bool) (h:Heap) (a:Addr) (xs:Array Value):Prop:=match t with
 | true=>h.IsTuple a xs
 | false=>h.IsList a xs
theorem g6.at {h h':Heap}{i a:Addr}{n:Nat}:∀ {t:Bool},g6 t h i a n->(∀ o,h.get? i=some o->h'.get? i=some o)->g6 t h' i a n
 | true,x,k=>Heap.IsTupleIter.at x k
 | false,x,k=>Heap.IsListIter.at x k
theorem g6.ob {h:Heap}{i a:Addr}{n:Nat}:∀ {t:Bool},g6 t h i a n->∃ o,h.get? i=some o/\∀ v,o.data ≠ .cell v
 | true,⟨o,f,_,d⟩=>⟨o,f,fun v q=>by rw [d] at q; cases q⟩
 | false,⟨o,f,_,d⟩=>⟨o,f,fun v q=>by rw [d] at q; cases q⟩
theorem g6.draws {prog:Program}{w:World}{A:Around}:∀ (t:Bool) (hh:A.handled=none) (it a:Addr) (ne:a ≠ it) (items:Array Value),Draws prog w A it [it,a] items.size (fun i v=>items[i]? = some v) (fun i h=>g6 t h it a i/\C5 t h a items)
 | true,hh,it,a,ne,items=>Zp.an5 hh it a ne items
 | false,hh,it,a,ne,items=>Draws.list hh it a ne items
section
variable {X : Cx} {pins : List (Addr × Obj)} {σ : St} {H : Hp} {s : Shared} {a : Addr} {xs ys : List V}
theorem Sq.get (I:a6 X pins σ H s):∀ {t:Bool},Sq t X.K H a xs->∃ us,aI xs us/\C5 t s.heap a us.toArray
 | true,h=>by obtain ⟨us,r,p,_⟩:=I.tuple h; exact⟨us,r,p⟩
 | false,h=>by obtain ⟨us,r,p,_⟩:=I.list h; exact⟨us,r,p.isList⟩
theorem Sq.inj (I:a6 X pins σ H s):∀ {t:Bool},Sq t X.K H a xs->Sq t X.K H a ys->xs=ys
 | true,h,g=>I.tuple_inj h g
 | false,h,g=>I.list_inj h g
theorem Sq.off (I:a6 X pins σ H s) (he:H a=none) (hb:X.base.get? a=none):∀ {t:Bool},Sq t X.K H a xs->False
 | true,h=>by
  rcases h with (h | ⟨_,h⟩) | ⟨o,_,_,h,_⟩
  ·rw [he] at h; cases h
  ·rw [he] at h; cases h
  ·have:=I.ok.mod.kin a o h
   rw [hb] at this; cases this
 | false,h=>by
  rcases h with (h | ⟨_,h⟩) | ⟨o,_,_,h,_⟩
  ·rw [he] at h; cases h
  ·rw [he] at h; cases h
  ·have:=I.ok.mod.kin a o h
   rw [hb] at this; cases this
end
noncomputable def an8 (t1 t2:Bool) (K:PySem.W.Frag) (a b:Addr):It:=
  ⟨fun i H=>∃ xs ys x y,Sq t1 K H a xs/\Sq t2 K H b ys/\xs[i]? = some x/\ys[i]? = some y,
   fun i H v H'=>∃ T x y,H T=none/\v = .ref T/\H'=upd H T (.tup [x,y])/\∀ xs ys,Sq t1 K H a xs->Sq t2 K H b ys->xs[i]? = some x/\ys[i]? = some y,
   fun i H=>∃ xs ys,Sq t1 K H a xs/\Sq t2 K H b ys/\(i=xs.length ∨ (i < xs.length/\i=ys.length))⟩
structure u8 (t1 t2:Bool) (z TI TO i1 i2 a b:Addr) (i:Nat) (h:Heap):Prop where
 zz:IsZip h z TI TO .none
 ti:IsPair h TI (.ref i1) (.ref i2)
 to_:∃ x y,IsPair h TO x y
 s1:g6 t1 h i1 a i
 s2:g6 t2 h i2 b i
theorem C6 (t1 t2:Bool) {P:Program}{w:World}{K:PySem.W.Frag}{elts:List Expr}{k:Nat}{pos:Pos} (a b z TI TO i1 i2:Addr) (d : [z,TI,TO,i1,i2].Nodup) :
  iP P w K (.Tuple elts k pos) (an8 t1 t2 K a b) [z,TI,TO,i1,i2] z (u8 t1 t2 z TI TO i1 i2 a b):=by
 have nd:z ≠ TI/\z ≠ TO/\z ≠ i1/\z ≠ i2/\TI ≠ TO/\TI ≠ i1/\TI ≠ i2/\TO ≠ i1/\TO ≠ i2/\i1 ≠ i2:=by
  simp only [ba4,aU0,aW6,bd0,not_or] at d
  obtain ⟨⟨a1,a2,a3,a4⟩,⟨b1,b2,b3⟩,⟨c1,c2⟩,e1,_⟩:=d
  exact⟨a1,a2,a3,a4,b1,b2,b3,c1,c2,e1⟩
 obtain ⟨n1,n2,n3,n4,n5,n6,n7,n8,n9,n10⟩:=nd
 have offBase:∀ {X:Cx}{pins:List (Addr × Obj)}{σ:St}{H:Hp}{s:Shared},a6 X pins σ H s->(∀ c ∈ [z,TI,TO,i1,i2],gH X pins H c)->∀ c ∈ [z,TI,TO,i1,i2],X.base.get? c=none:=by
  intro X pins σ H s I hf c hc
  cases q:X.base.get? c with
  | none=>rfl
  | some o=>
   rcases (hf c hc).2.2.2.1 with h | h
   ·exact absurd h (I.ok.noex c o q)
   ·exact absurd (aU5 (aU7 q) (aX5 I.ok.bsz h)) (aX8 _)
 have off:∀ {t:Bool}{X:Cx}{pins:List (Addr × Obj)}{σ:St}{H:Hp}{s:Shared}{c:Addr}{zs:List V},a6 X pins σ H s->(∀ c ∈ [z,TI,TO,i1,i2],gH X pins H c)->Sq t X.K H c zs->c ∉ [z,TI,TO,i1,i2]:=by
  intro t X pins σ H s c zs I hf hc hm
  exact Sq.off I (hf c hm).1 (offBase I hf c hm) hc
 have ap:∀ {c e:Addr},c ∉ [z,TI,TO,i1,i2]->e ∉ [z,TI,TO,i1,i2]->Zp.Ap z TI TO i1 i2 [i1,c] [i2,e]:=fun {c e} hc he=>by
  simp only [aU0,aW6,bd0,not_or] at hc he
  obtain ⟨c1,c2,c3,c4,c5⟩:=hc
  obtain ⟨e1,e2,e3,e4,e5⟩:=he
  have two:∀ {q u v:Addr},q ≠ u->q ≠ v->q ∉ [u,v]:=fun {q u v} h1 h2 hm=>by
   simp only [aU0,aW6,bd0] at hm
   exact hm.elim h1 h2
  exact⟨n1.symm,n2.symm,n5,two n3 (Ne.symm c1),two n4 (Ne.symm e1),two n8 (Ne.symm c3),two n9 (Ne.symm e3),two n6 (Ne.symm c2),two n7 (Ne.symm e2),aS8,aS8,two n10 (Ne.symm e4),two n10.symm (Ne.symm c5)⟩
 refine⟨by simp,fun i h st c hc=>?_,fun i h h' st kp=>?_,?_,?_,fun A i s Q E st q=>wpAny_pyIter_zip st.zz q⟩
 ·simp only [aU0,aW6,bd0] at hc
  obtain ⟨x,y,to⟩:=st.to_
  rcases hc with rfl | rfl | rfl | rfl | rfl
  ·exact⟨_,st.zz,fun v q=>by cases q⟩
  ·exact⟨_,st.ti,fun v q=>by cases q⟩
  ·exact⟨_,to,fun v q=>by cases q⟩
  ·exact st.s1.ob
  ·exact st.s2.ob
 ·obtain ⟨x,y,to⟩:=st.to_
  exact⟨kp z (by simp) _ st.zz,kp TI (by simp) _ st.ti,⟨x,y,kp TO (by simp) _ to⟩,st.s1.at fun o e=>kp i1 (by simp) o e,st.s2.at fun o e=>kp i2 (by simp) o e⟩
 ·
  intro X hP hw hK hc i pins s σ H E I hf st hg
  subst hP hw hK
  obtain ⟨xs,ys,x,y,ha,hb,hx,hy⟩:=hg
  obtain ⟨us,ru,pu⟩:=Sq.get I ha
  obtain ⟨vs,rv,pv'⟩:=Sq.get I hb
  obtain ⟨ux,eux,rux⟩:=ru.get hx
  obtain ⟨vy,evy,rvy⟩:=rv.get hy
  have fa:=off I hf ha
  have fb:=off I hf hb
  have hh:X.A.in1.handled=none:=I.ok.hd hc
  have l1:i < us.toArray.size:=by simpa using (aT3.mp eux).1
  have l2:i < vs.toArray.size:=by simpa using (aT3.mp evy).1
  have fa':a ≠ i1:=fun q=>fa (by rw [q]; simp)
  have fb':b ≠ i2:=fun q=>fb (by rw [q]; simp)
  have D1:=g6.draws t1 (prog:=X.prog) (w:=X.w) hh i1 a fa' us.toArray
  have D2:=g6.draws t2 (prog:=X.prog) (w:=X.w) hh i2 b fb' vs.toArray
  refine Zp.item D1 D2 (ap fa fb) l1 l2 ⟨st.zz,st.ti,st.to_,⟨st.s1,pu⟩,⟨st.s2,pv'⟩⟩ fun p q h' tk hp hq st' pr kp sz=>⟨_,rfl,?_⟩
  obtain rfl:p=ux:=by
   have:us.toArray[i]? = some ux:=by simpa using eux
   rw [this] at hp; exact (aV2 hp).symm
  obtain rfl:q=vy:=by
   have:vs.toArray[i]? = some vy:=by simpa using evy
   rw [this] at hq; exact (aV2 hq).symm
  refine wpAny_letOwnedTupleGo_zip (s:={ s with heap:=h',toks:=tk }) st'.zz fun g zz sb=>?_
  have hzl:z < s.heap.objs.size:=aU7 st.zz
  have up:∀ c o,c ≠ z->c ≠ TO->c ≠ i1->c ≠ i2->s.heap.get? c=some o->g.get? c=some o:=fun c o c1 c2 c3 c4 e=>sb.extBut c o c1 (kp c o c1 c2 c3 c4 e)
  have hT:H s.heap.objs.size=none:=I.hok.fresh (aT2 _)
  have prG:IsPair g s.heap.objs.size p q:=sb.extBut _ _ (bc1 hzl) pr
  have fpn:∀ c u,H c=some u->c ∉ [z,TI,TO,i1,i2]:=fun c u e hm=>by rw [(hf c hm).1] at e; cases e
  have upH:∀ c o u,H c=some u->s.heap.get? c=some o->g.get? c=some o:=fun c o u e z=>by
   have:=fpn c u e
   simp only [aU0,aW6,bd0,not_or] at this
   exact up c o this.1 this.2.2.1 this.2.2.2.1 this.2.2.2.2 z
  have ns:∀ m,s.heap.Ns X.env.locals m->g.Ns X.env.locals m:=fun m hm=>by
   obtain ⟨o,es,ep,e1,e2⟩:=hm
   exact⟨o,es,ep,up _ o (Ne.symm (hf z (by simp)).2.1) (Ne.symm (hf TO (by simp)).2.1) (Ne.symm (hf i1 (by simp)).2.1) (Ne.symm (hf i2 (by simp)).2.1) e1,e2⟩
  have I2:a6 X pins σ (upd H s.heap.objs.size (.tup [x,y])) { s with heap:=g,toks:=tk }:=by
   refine I.step (g':=s.gens) (d':=s.drawn) (ch:=[z,TO,i1,i2]) (fun c hc'=>?_) (fun c o _ _ hc' e _=>?_) (fun c o _ _ hc' e _=>⟨o.slots,?_⟩) (fun c o _ e n=>?_) (fun c o hc' e=>⟨o,?_⟩)
    (fun c zs e=>by rw [aZ (dD e hT)]; exact e) (fun c u zs e=>by rw [aZ (dD e hT)]; exact e) (fun c ps e=>⟨#[],by rw [aZ (dD e hT),e]; simp⟩) ns (fun c u e=>?_) I.bare
   ·have hm:c ∈ [z,TI,TO,i1,i2]:=by
     simp only [aU0,aW6,bd0] at hc' ⊢
     rcases hc' with h | h | h | h <;> simp [h]
    exact⟨(hf c hm).2.2.2.1,(hf c hm).2.1,(hf c hm).2.2.2.2.1,(hf c hm).2.2.2.2.2⟩
   ·simp only [aU0,aW6,bd0,not_or] at hc'
    exact up c o hc'.1 hc'.2.1 hc'.2.2.1 hc'.2.2.2 e
   ·simp only [aU0,aW6,bd0,not_or] at hc'
    exact up c o hc'.1 hc'.2.1 hc'.2.2.1 hc'.2.2.2 e
   ·rw [aZ (aW9 (aU7 e))]; exact n
   ·simp only [aU0,aW6,bd0,not_or] at hc'
    exact up c o hc'.1 hc'.2.1 hc'.2.2.1 hc'.2.2.2 e
   ·by_cases hcT:c=s.heap.objs.size
    ·subst hcT
     rw [bK] at e; cases e
     exact⟨by show 2<=sizeLine; decide,[p,q],.cons rux (.cons rvy .nil),⟨_,prG,rfl,_,rfl⟩,fun u e=>by rw [prG] at e; cases e; rfl⟩
    ·rw [aZ hcT] at e
     refine (I.hok c u e).stay (fun c' o' hc2 q'=>?_) (fun c' q'=>by rw [aZ (dD q' hT)]; exact q') fun c' zs q'=>by rw [aZ (dD q' hT)]; exact q'
     rcases hc2 with rfl | hc2
     ·exact upH _ _ _ e q'
     ·exact upH _ _ _ hc2 q'
  obtain ⟨x',y',to'⟩:=st'.to_
  refine⟨.ref s.heap.objs.size,_,I2,rfl,⟨_,x,y,hT,rfl,rfl,fun xs' ys' ha' hb'=>?_⟩,⟨zz,sb.extBut _ _ n1.symm st'.ti,⟨x',y',sb.extBut _ _ n2.symm to'⟩,st'.s1.1.at fun o e=>sb.extBut _ o n3.symm e,st'.s2.1.at fun o e=>sb.extBut _ o n4.symm e⟩,fun c hc'=>?_⟩
  ·rw [Sq.inj I ha' ha,Sq.inj I hb' hb]; exact⟨hx,hy⟩
  ·obtain ⟨o,e,_⟩:∃ o,s.heap.get? c=some o/\True:=by
    simp only [aU0,aW6,bd0] at hc'
    obtain ⟨x2,y2,to2⟩:=st.to_
    obtain ⟨o1,f1,_⟩:=st.s1.ob
    obtain ⟨o2,f2,_⟩:=st.s2.ob
    rcases hc' with rfl | rfl | rfl | rfl | rfl
    ·exact⟨_,st.zz,trivial⟩
    ·exact⟨_,st.ti,trivial⟩
    ·exact⟨_,to2,trivial⟩
    ·exact⟨_,f1,trivial⟩
    ·exact⟨_,f2,trivial⟩
   rw [aZ (aW9 (aU7 e))]; exact (hf c hc').1
 ·
  intro X hP hw hK hc i pins s σ H E I hf st hg
  subst hP hw hK
  obtain ⟨xs,ys,ha,hb,hi⟩:=hg
  obtain ⟨us,ru,pu⟩:=Sq.get I ha
  obtain ⟨vs,rv,pv'⟩:=Sq.get I hb
  have fa:=off I hf ha
  have fb:=off I hf hb
  have hh:X.A.in1.handled=none:=I.ok.hd hc
  have fa':a ≠ i1:=fun q=>fa (by rw [q]; simp)
  have fb':b ≠ i2:=fun q=>fb (by rw [q]; simp)
  have D1:=g6.draws t1 (prog:=X.prog) (w:=X.w) hh i1 a fa' us.toArray
  have D2:=g6.draws t2 (prog:=X.prog) (w:=X.w) hh i2 b fb' vs.toArray
  have e1:=ru.length
  have e2:=rv.length
  refine Zp.fin D1 D2 (ap fa fb) (by simp only [aU2]; omega) ⟨st.zz,st.ti,st.to_,⟨st.s1,pu⟩,⟨st.s2,pv'⟩⟩ fun g tk kp=>⟨rfl,?_⟩
  have fpn:∀ c u,H c=some u->c ∉ [z,TI,TO,i1,i2]:=fun c u e hm=>by rw [(hf c hm).1] at e; cases e
  have upH:∀ c o u,H c=some u->s.heap.get? c=some o->g.get? c=some o:=fun c o u e z=>by
   have:=fpn c u e
   simp only [aU0,aW6,bd0,not_or] at this
   exact kp c o this.1 this.2.2.1 this.2.2.2.1 this.2.2.2.2 z
  have ns:∀ m,s.heap.Ns X.env.locals m->g.Ns X.env.locals m:=fun m hm=>by
   obtain ⟨o,es,ep,e1,e2⟩:=hm
   exact⟨o,es,ep,kp _ o (Ne.symm (hf z (by simp)).2.1) (Ne.symm (hf TO (by simp)).2.1) (Ne.symm (hf i1 (by simp)).2.1) (Ne.symm (hf i2 (by simp)).2.1) e1,e2⟩
  refine I.step (g':=s.gens) (d':=s.drawn) (ch:=[z,TO,i1,i2]) (fun c hc'=>?_) (fun c o _ _ hc' e _=>?_) (fun c o _ _ hc' e _=>⟨o.slots,?_⟩) (fun c o _ e n=>n) (fun c o hc' e=>⟨o,?_⟩)
   (fun c zs e=>e) (fun c u zs e=>e) (fun c ps e=>⟨#[],by rw [e]; simp⟩) ns (fun c u e=>?_) I.bare
  ·have hm:c ∈ [z,TI,TO,i1,i2]:=by
    simp only [aU0,aW6,bd0] at hc' ⊢
    rcases hc' with h | h | h | h <;> simp [h]
   exact⟨(hf c hm).2.2.2.1,(hf c hm).2.1,(hf c hm).2.2.2.2.1,(hf c hm).2.2.2.2.2⟩
  ·simp only [aU0,aW6,bd0,not_or] at hc'
   exact kp c o hc'.1 hc'.2.1 hc'.2.2.1 hc'.2.2.2 e
  ·simp only [aU0,aW6,bd0,not_or] at hc'
   exact kp c o hc'.1 hc'.2.1 hc'.2.2.1 hc'.2.2.2 e
  ·simp only [aU0,aW6,bd0,not_or] at hc'
   exact kp c o hc'.1 hc'.2.1 hc'.2.2.1 hc'.2.2.2 e
  ·refine (I.hok c u e).stay (fun c' o' hc2 q'=>?_) (fun _ q'=>q') fun _ _ q'=>q'
   rcases hc2 with rfl | hc2
   ·exact upH _ _ _ e q'
   ·exact upH _ _ _ hc2 q'
noncomputable abbrev an9:=u8 true true
theorem ao0 {P:Program}{w:World}{K:PySem.W.Frag}{elts:List Expr}{k:Nat}{pos:Pos} (a b z TI TO i1 i2:Addr) (d : [z,TI,TO,i1,i2].Nodup) :
  iP P w K (.Tuple elts k pos) (u7 K a b) [z,TI,TO,i1,i2] z (an9 z TI TO i1 i2 a b):=C6 true true a b z TI TO i1 i2 d
section
variable {X : Cx}
noncomputable def ao1 (K:PySem.W.Frag) (ta:TA):TI:=fun σ H R=>ta σ H fun vs H1=>∃ a b xs ys,vs = [.ref a,.ref b]/\aQ K H1 a xs/\aQ K H1 b ys/\R (u7 K a b) H1
theorem ao2 {elts:List Expr}{kt:Nat}{pt:Pos}{a b:Expr}{ta:TA}{p pos:Pos} (hg:Gl X "zip") (hm:X.mg "zip" = none) (ha:PA X [a,b] ta) (hs:starEach [a,b] X.env = [(false,eval a X.env),(false,eval b X.env)]:=by rfl) (hs2:starEach [b] X.env = [(false,eval b X.env)]:=by rfl) :
  PI X (.Tuple elts kt pt) (.Call (.Name "zip" p) [a,b] [] pos) (ao1 X.K ta):=by
 intro pins s σ H R I h
 refine Call_ (jL I hg hm PyProof.Rows.boot_zip (aZ5 (aO (ha pos pins s σ H _ I h) fun us s1 ⟨vs,H1,I1,r1,q1⟩=>?_) (by rw [hs,hs2]) (by rw [hs2]; rfl)))
 obtain ⟨a',b',xs,ys,e,h1,h2,q⟩:=q1
 subst e
 cases r1 with
 | cons r rr=>
  cases rr with
  | cons r' rr=>
   cases rr
   cases r
   cases r'
   obtain ⟨us,_,p1,_⟩:=I1.tuple h1
   obtain ⟨ws,_,p2,_⟩:=I1.tuple h2
   refine Zp.an7 p1 p2 fun h' z ti to s1' s2' kp=>wpAny_pyIter_zip z ?_
   have fresh:∀ k,H1 (s1.heap.objs.size+k)=none:=fun k=>I1.hok.fresh (ba5 _ _)
   refine⟨s1.heap.objs.size+4,[s1.heap.objs.size+4,s1.heap.objs.size+2,s1.heap.objs.size+3,s1.heap.objs.size,s1.heap.objs.size+1],_,_,H1,rfl,I1.kept (t':=s1.toks) kp,
    ao0 a' b' _ _ _ _ _ (by simp),⟨z,ti,⟨_,_,to⟩,s1',s2'⟩,fun c hc=>?_,q⟩
   simp only [aU0,aW6,bd0] at hc
   rcases hc with rfl | rfl | rfl | rfl | rfl
   ·exact I1.fpOk (ba5 _ _) (fresh 4)
   ·exact I1.fpOk (ba5 _ _) (fresh 2)
   ·exact I1.fpOk (ba5 _ _) (fresh 3)
   ·exact I1.fpOk (aT2 _) (fresh 0)
   ·exact I1.fpOk (ba5 _ _) (fresh 1)
theorem u9 (hc:X.calm=true):cY X (.builtin "all") (fun xs H Q=>∃ (a:Addr) (bs:List Bool),xs = [.ref a]/\aJ X.K H a (bs.map V.bl)/\Q (.bl (bs.all id)) H):=by
 intro pins s σ H xs us Q I r h
 obtain ⟨a,bs,rfl,hq,q⟩:=h
 obtain ⟨u,rfl,ru⟩:=gT r
 cases ru
 obtain ⟨its,rv,p,hz⟩:=I.list hq
 have hl:=rv.length
 rw [aS9] at hl
 have hlt:a < s.heap.objs.size:=by obtain ⟨o,e,_⟩:=p.isList; exact aU7 e
 refine call_all_walk (wpAny_pyIter_list p.isList ?_)
 have hh:X.A.in1.handled=none:=I.ok.hd hc
 refine⟨s.heap.objs.size,_,_,_,_,_,fun i=>bs.getD i false,rfl,Walks.list hh s.heap.objs.size a (aW9 hlt) its.toArray,⟨⟨_,aU9 _ rfl,rfl,rfl⟩,p.isList.push _⟩,?_,fun h' tk kp=>?_⟩
 ·intro i v s' Q' E' hP hQ'
  have hi:its[i]? = some v:=by simpa using hP
  have hil:i < bs.length:=by rw [hl]; exact (aT3.mp hi).1
  obtain ⟨u,e1,e2⟩:=rv.get (i:=i) (x:=.bl bs[i]) (by simp [hil])
  rw [hi] at e1; cases e1
  cases e2
  have:bs.getD i false=bs[i]:=by rw [aU3,aU1 hil]; rfl
  have hQ2:Q' (bs.getD i false) s':=hQ'
  rw [this] at hQ2
  exact be6 hQ2
 ·have all_eq:(List.range its.toArray.size).all (fun i=>bs.getD i false)=bs.all id:=by
   rw [aU2,<- hl]
   clear q rv hz hl hq hlt p hh kp
   induction bs with
   | nil=>rfl
   | cons b r ih=>
    rw [aV8,List.range_succ_eq_map,List.all_cons,List.all_map,List.all_cons,<- ih]
    rfl
  rw [all_eq]
  refine⟨.bl (bs.all id),H,I.kept (t':=tk) (h':=h') fun b o e=>kp b o (fun z=>?_) (aS7 _ e),rfl,q⟩
  rw [aT0.mp z] at e
  exact absurd (aU7 e) (aX8 _)
end
structure uA (H:Hp) (J:It) (n:Nat) (R:Nat->V->Hp->Prop):Prop where
 go:∀ i H',aC H H'->i < n->J.go i H'
 yld:∀ i H' x H2,aC H H'->J.yld i H' x H2->i < n->aC H' H2/\R i x H2
 stop:∀ H',aC H H'->J.stop n H'
theorem uB {H1:Hp}{J:It}{n:Nat}{R:Nat->V->Hp->Prop}{g:TG}{tc:TT}{te:TE}{σ0:St}{Q:VK} (O:uA H1 J n R) (Pv:Nat->List V->Hp->Prop) (hn:n<=sizeLine)
  (h0:∀ D,H1 D=none->Pv 0 [] (upd H1 D (.lst [])))
  (mono:∀ i acc H' H2,aC H' H2->Pv i acc H'->Pv i acc H2)
  (hs:∀ i x acc D H',i < n->R i x H'->pR H1 D n i acc H'->Pv i acc H'->g x σ0 H' fun σ2 H3=>Wk σ0 σ2/\tc σ2 H3 fun b H4=>
   if b=true then te σ2 H4 fun v H5=>tU H1 D n Pv i acc v H5 else A7 H1 D n Pv i acc H4)
  (hd:∀ D acc H',H1 D=none->aC H1 H'->H' D=some (.lst acc)->acc.length<=n->Pv n acc H'->Q (.ref D) H') :
  ∀ D,H1 D=none->∃ W:Nat->Nat->List V->Hp->Prop,(∃ m,W 0 m [] (upd H1 D (.lst [])))/\nH g tc te σ0 J D Q W:=by
 intro D hD
 refine⟨CW H1 D n Pv,⟨n,rfl,aX6 _,aT2 _,bL hD _,bK,h0 D hD⟩,?_⟩
 rintro i m acc H' ⟨rfl,hi,ha,sm,hDa,p⟩
 refine⟨hDa,?_⟩
 by_cases hlt:i < n
 ·refine .inr ⟨O.go i H' sm hlt,fun x H2 y=>?_⟩
  obtain ⟨s2,r2⟩:=O.yld i H' x H2 sm y hlt
  exact hs i x acc D H2 hlt r2 ⟨hlt,ha,hn,sm.trans s2,hD,s2 _ _ hDa⟩ (mono i acc H' H2 s2 p)
 ·have e:i=n:=by omega
  subst e
  exact .inl ⟨O.stop H' sm,hd D acc H' hD sm hDa ha p⟩
theorem C7 {K:PySem.W.Frag}{H:Hp}{a b:Addr}{xs ys:List V} (ha:aQ K H a xs) (hb:aQ K H b ys) (hl:ys.length<=xs.length) :
  uA H (u7 K a b) ys.length (fun i v H2=>∃ T x y,v = .ref T/\H2 T=some (.tup [x,y])/\xs[i]? = some x/\ys[i]? = some y):=by
 refine⟨fun i H' sm hi=>⟨xs,ys,xs[i]'(by omega),ys[i],sm.tup ha,sm.tup hb,by simp,by simp⟩,fun i H' v H2 sm y hi=>?_,fun H' sm=>⟨xs,ys,sm.tup ha,sm.tup hb,by omega⟩⟩
 obtain ⟨T,x,y',hT,hv,e,hxy⟩:=y
 subst e
 obtain ⟨h1,h2⟩:=hxy xs ys (sm.tup ha) (sm.tup hb)
 exact⟨bL hT _,T,x,y',hv,bK,h1,h2⟩
end L2
namespace HT
open PySem PyProof.Rows
section
variable {prog : Program} {w : World} {A : Around} {E : Value → Shared → Prop} {s : Shared}
theorem ao3 {t sl:Addr}{items:Array Value}{vl vu:Value}{lo hi:Option Int}{Q:Value->Shared->Prop} (ht:IsTup s.heap t items) (hs:s.heap.IsSliceOf sl vl vu .none) (pl:IsPart vl lo) (pu:IsPart vu hi)
  (h1:aW items.size 0 lo=0) (h2:aW items.size items.size hi=items.size) (h:Q (.ref t) s):wpAny (model prog w) A (getItem (.ref t) (.ref sl)) Q E s:=by
 obtain ⟨o,e1,e2,e3⟩:=id hs
 have T:s.TypeIs (.ref sl) "slice":=⟨o,e1,e2⟩
 unfold getItem
 try with_reducible refine be0 ?_
 first | refine aS6 (aT6 ?_) | skip
 apply aS6
 apply wpAny_sequenceKey ht.typeIs (by decide)
 apply aS6
 apply ba7 (name:=Str.ofString "__getitem__") ht.typeIs bd4
 apply bb1 bd4 ht.typeIs entry_tuple_getitem _ (args_tuple_getitem _ _)
 change wpAny _ _ (Builtin.Tuple.tupleItemsOf (.ref t) >>= _) _ _ s
 apply aS6
 apply tupleItemsOf_ ht
 apply aS6
 apply wpAny_typeOf T
 rw [if_pos (by decide)]
 apply aS6
 apply yQ hs pl pu
 rw [h1,h2]
 have yes:((((0:Nat):Int) == 0 && (1:Int) == 1 && (items.size - 0) == items.size)=true):=by simp
 change wpAny _ _ (if ((((0:Nat):Int) == 0 && (1:Int) == 1 && (items.size - 0) == items.size)=true) then _ else _) _ _ s
 rw [if_pos yes]
 apply aS6
 unfold Builtin.Tuple.tupleIsExact
 apply aS6
 apply wpAny_typeOf ht.typeIs
 apply aT6
 change wpAny _ _ (rule "tuple.getitem.whole" >>= fun _=>ret (Value.ref t)) _ _ s
 apply aS6
 apply wpAny_rule
 exact aT6 ⟨_,rfl,aT6 h⟩
end
end HT
namespace L2
open PySem PySem.Spec PyProof.Rows
section
variable {X : Cx}
noncomputable def ao4 (K:PySem.W.Frag):V->Option Int->Option Int->Hp->VK->Prop:=fun x lo hi H Q=>∃ a xs,x = .ref a/\aQ K H a xs/\(∀ p,H p=none->Q (.ref p) (upd H p (.tup (dP xs lo hi))))/\(dP xs lo hi=xs->Q (.ref a) H)
theorem C8:jR X (ao4 X.K):=by
 intro pins s σ H x v vl vu lo hi sl Q I rx hs pl pu h
 obtain ⟨a,xs,ex,hx,q1,q2⟩:=h
 by_cases hw:HT.aW xs.length 0 lo=0/\HT.aW xs.length xs.length hi=xs.length
 ·subst ex
  cases rx
  obtain ⟨its,r,ht,hz⟩:=I.tuple hx
  have hlen:its.toArray.size=xs.length:=by rw [aU2]; exact r.length.symm
  refine⟨"tuple",_,PyProof.Rows.slot_tuple_getitem.lookup,ht.typeIs,?_⟩
  refine HT.ao3 ht hs pl pu (by rw [hlen]; exact hw.1) (by rw [hlen]; exact hw.2) ⟨.ref a,H,I,rfl,q2 ?_⟩
  unfold dP
  rw [hw.1,hw.2]
  simp
 ·exact ah6 pins s σ H x v vl vu lo hi sl Q I rx hs pl pu ⟨a,xs,ex,hx,hw,q1⟩
end
theorem uC (xs:List V):dP xs (some 1) none=xs.drop 1:=by
 unfold dP
 have e1:HT.aW xs.length 0 (some 1)=min 1 xs.length:=HT.ag7 xs.length 0 1
 have e2:HT.aW xs.length xs.length none=xs.length:=rfl
 rw [e1,e2]
 cases xs with
 | nil=>rfl
 | cons x r=>
  have:min 1 (x :: r).length=1:=by simp
  rw [this]
  simp
noncomputable def uD (K:PySem.W.Frag) (a b:Addr):It:=
  ⟨fun i H=>∃ xs ys x y,aJ K H a xs/\aJ K H b ys/\xs[i]? = some x/\ys[i]? = some y,
   fun i H v H'=>∃ T x y,H T=none/\v = .ref T/\H'=upd H T (.tup [x,y])/\∀ xs ys,aJ K H a xs->aJ K H b ys->xs[i]? = some x/\ys[i]? = some y,
   fun i H=>∃ xs ys,aJ K H a xs/\aJ K H b ys/\(i=xs.length ∨ (i < xs.length/\i=ys.length))⟩
noncomputable abbrev ao5:=u8 false false
theorem ao6 {P:Program}{w:World}{K:PySem.W.Frag}{elts:List Expr}{k:Nat}{pos:Pos} (a b z TI TO i1 i2:Addr) (d : [z,TI,TO,i1,i2].Nodup) :
  iP P w K (.Tuple elts k pos) (uD K a b) [z,TI,TO,i1,i2] z (ao5 z TI TO i1 i2 a b):=C6 false false a b z TI TO i1 i2 d
section
variable {X : Cx}
noncomputable def ao7 (K:PySem.W.Frag) (ta:TA):TI:=fun σ H R=>ta σ H fun vs H1=>∃ a b xs ys,vs = [.ref a,.ref b]/\aJ K H1 a xs/\aJ K H1 b ys/\R (uD K a b) H1
theorem ao8 {elts:List Expr}{kt:Nat}{pt:Pos}{a b:Expr}{ta:TA}{p pos:Pos} (hg:Gl X "zip") (hm:X.mg "zip" = none) (ha:PA X [a,b] ta) (hs:starEach [a,b] X.env = [(false,eval a X.env),(false,eval b X.env)]:=by rfl) (hs2:starEach [b] X.env = [(false,eval b X.env)]:=by rfl) :
  PI X (.Tuple elts kt pt) (.Call (.Name "zip" p) [a,b] [] pos) (ao7 X.K ta):=by
 intro pins s σ H R I h
 refine Call_ (jL I hg hm PyProof.Rows.boot_zip (aZ5 (aO (ha pos pins s σ H _ I h) fun us s1 ⟨vs,H1,I1,r1,q1⟩=>?_) (by rw [hs,hs2]) (by rw [hs2]; rfl)))
 obtain ⟨a',b',xs,ys,e,h1,h2,q⟩:=q1
 subst e
 cases r1 with
 | cons r rr=>
  cases rr with
  | cons r' rr=>
   cases rr
   cases r
   cases r'
   obtain ⟨us,_,p1,_⟩:=I1.list h1
   obtain ⟨ws,_,p2,_⟩:=I1.list h2
   refine call_zip_2 p1.isList p2.isList fun h' z ti to s1' s2' _ kp=>wpAny_pyIter_zip z ?_
   have fresh:∀ k,H1 (s1.heap.objs.size+k)=none:=fun k=>I1.hok.fresh (ba5 _ _)
   refine⟨s1.heap.objs.size+4,[s1.heap.objs.size+4,s1.heap.objs.size+2,s1.heap.objs.size+3,s1.heap.objs.size,s1.heap.objs.size+1],_,_,H1,rfl,I1.kept (t':=s1.toks) kp,
    ao6 a' b' _ _ _ _ _ (by simp),⟨z,ti,⟨_,_,to⟩,s1',s2'⟩,fun c hc=>?_,q⟩
   simp only [aU0,aW6,bd0] at hc
   rcases hc with rfl | rfl | rfl | rfl | rfl
   ·exact I1.fpOk (ba5 _ _) (fresh 4)
   ·exact I1.fpOk (ba5 _ _) (fresh 2)
   ·exact I1.fpOk (ba5 _ _) (fresh 3)
   ·exact I1.fpOk (aT2 _) (fresh 0)
   ·exact I1.fpOk (ba5 _ _) (fresh 1)
end
theorem ao9 {K:PySem.W.Frag}{H:Hp}{a b:Addr}{xs ys:List V} (ha:aJ K H a xs) (hb:aJ K H b ys) (hl:ys.length<=xs.length) :
  uA H (uD K a b) ys.length (fun i v H2=>∃ T x y,v = .ref T/\H2 T=some (.tup [x,y])/\xs[i]? = some x/\ys[i]? = some y):=by
 refine⟨fun i H' sm hi=>⟨xs,ys,xs[i]'(by omega),ys[i],sm.seq ha,sm.seq hb,by simp,by simp⟩,fun i H' v H2 sm y hi=>?_,fun H' sm=>⟨xs,ys,sm.seq ha,sm.seq hb,by omega⟩⟩
 obtain ⟨T,x,y',hT,hv,e,hxy⟩:=y
 subst e
 obtain ⟨h1,h2⟩:=hxy xs ys (sm.seq ha) (sm.seq hb)
 exact⟨bL hT _,T,x,y',hv,bK,h1,h2⟩
theorem ap0 (l:Addr) (items:Array Value) (n:Nat) (b:Addr) (items2:Array Value) (n2:Nat) (dd:Option Addr) (ss:Array (Option Value)) (h0 : ¬(!items.isEmpty && Builtin.List.listTooLong (items.size+items2.size))=true) (h1:items.size<=sizeLine) (h2:items.size+items2.size<=sizeLine+1) :
  Meets (Builtin.«list.extend» ⟨[.ref l,.ref b],[]⟩) (fun _ R s=>s.heap.get? l=some { cls:=.type "list",dict:=none,data:=.seq items n,slots:=#[] }/\s.heap.get? b=some { cls:=.type "tuple",dict:=dd,data:=.seq items2 n2,slots:=ss }/\R (.ok (.ret Value.none)) { s with heap:=s.heap.update l (Obj.mapSeq fun x=>x ++ items2),toks:=s.toks }):=
 .of_wp fun prog w A R s h=>by
  obtain ⟨hp,g,d,tk,os⟩:=s; obtain ⟨hl,hb,h⟩:=h; have f2:=AutoSeq1.sub_tuple_tuple; have f3:=AutoSeq1.sub_list_list; have f4:=AutoSeq1.sub_tuple_list; have f5:=AutoSeq1.sub_list_tuple
  have hz':(items ++ items2).size<=sizeLine+1:=by rw [Array.size_append]; exact h2
  wp_walk using (wpAny_updateSeq hl rfl (hz:=h1) (_hz':=hz')),AutoSeq1.wpAny_loadPart' hl,AutoSeq1.wpAny_loadPart' hb
  exact⟨_,rfl,h⟩
noncomputable def C9 (K:PySem.W.Frag):V->List V->Hp->VK->Prop:=fun x vs H Q=>∃ (l b:Addr) (xs zs:List V),x = .ref l/\vs = [.ref b]/\H l=some (.lst xs)/\aQ K H b zs/\xs.length+zs.length<=sizeLine/\Q .non (upd H l (.lst (xs ++ zs)))
theorem ap1 {X:Cx}:lJ X "list.extend" (C9 X.K):=by
 intro pins s σ H x vs v us Q I rx rv h
 obtain ⟨l,b,xs,zs,rfl,rfl,hH,hB,hz,q⟩:=h
 cases rx
 obtain ⟨u,rfl,ru⟩:=rv.one
 cases ru
 obtain ⟨z,its,n,r,hl,e⟩:=I.lstM hH
 obtain ⟨its2,r2,⟨⟨cls,dd,data,ss⟩,e2,hc,n2,hd⟩,z2⟩:=I.tuple hB
 cases hc
 cases hd
 have hl2:=r2.length
 have hsz:its.toArray.size+its2.toArray.size<=sizeLine:=by rw [aU2,aU2]; omega
 have hlong : ¬ (!its.toArray.isEmpty && Builtin.List.listTooLong (its.toArray.size+its2.toArray.size))=true:=by
  rw [tE hsz,Bool.and_false]
  exact aV1
 refine call_meets F.slot_list_extend ⟨_,e,rfl⟩ F.entry_list_extend (F.args_list_extend_2 _ _)
  (ap0 l its.toArray n b its2.toArray n2 dd ss hlong (by rw [aU2]; omega) (by omega)) ⟨e,e2,?_⟩
 refine⟨.non,_,I.lset (its':=its ++ its2) hH e (by simp) (r.append r2) ?_,rfl,q⟩
 rw [aU6]
 omega
end L2
namespace PP
open PySem L2
inductive PV where
 | non | bl (b:Bool) | int (i:Int) | str (x:Str) | tup (xs:List PV) | lst (xs:List PV)
 | dK (kvs:List (aG × PV)) | dT (kvs:List (List aG × PV)) | scr (ns:List Int) | kt (xs:List PV) | exc (c:Str) | fK (kvs:List (aG × PV)) | fT (kvs:List (List aG × PV))
mutual
noncomputable def flat:PV->Bool
 | .tup xs=>flats xs
 | .lst _=>false
 | .dK _=>false
 | .dT _=>false
 | .non=>true
 | .bl _=>true
 | .int _=>true
 | .str _=>true
 | .scr _=>true
 | .kt xs=>flats xs
 | .exc _=>true
 | .fK _=>false
 | .fT _=>false
noncomputable def flats:List PV->Bool
 | []=>true
 | x :: r=>flat x && flats r
end
noncomputable def iW (K:PySem.W.Frag) (H:Hp) (a:Addr) (ns:List Int):Prop:=(∃ o,H a=some (.frz o (.lst (ns.map V.int)))) ∨
  ∃ (o:Obj) (its:Array Value) (n:Nat),K.lookup a=some o/\o.cls = .type "list"/\o.dict=none/\o.data = .seq its n/\its.size<=sizeLine/\aI (ns.map V.int) its.toList
noncomputable def ap2 (K:PySem.W.Frag) (a:Addr) (us:List V):Prop:=∃ (o:Obj) (its:Array Value) (n:Nat),K.lookup a=some o/\o.cls = .type "tuple"/\o.data = .seq its n/\its.size<=sizeLine/\aI us its.toList
mutual
inductive aM (K:PySem.W.Frag) (M:Addr->Prop) (H:Hp):V->PV->Prop
 | non:aM K M H .non .non
 | bl (b:Bool):aM K M H (.bl b) (.bl b)
 | int (i:Int):aM K M H (.int i) (.int i)
 | str (x:Str):aM K M H (.str x) (.str x)
 | tup {a:Addr}{us:List V}{xs:List PV}:H a=some (.tup us)->Reps K M H us xs->aM K M H (.ref a) (.tup xs)
 | lst {a:Addr}{us:List V}{xs:List PV}:M a->H a=some (.lst us)->Reps K M H us xs->aM K M H (.ref a) (.lst xs)
 | dK {a:Addr}{kvs:List (aG × V)}{ps:List (aG × PV)}:M a->H a=some (.dK kvs)->kvs.map (·.1)=ps.map (·.1)->Reps K M H (kvs.map (·.2)) (ps.map (·.2))->aM K M H (.ref a) (.dK ps)
 | dT {a:Addr}{kvs:List (List aG × V)}{ps:List (List aG × PV)}:M a->H a=some (.dT kvs)->kvs.map (·.1)=ps.map (·.1)->Reps K M H (kvs.map (·.2)) (ps.map (·.2))->aM K M H (.ref a) (.dT ps)
 | scr {a:Addr}{ns:List Int}:iW K H a ns->aM K M H (.ref a) (.scr ns)
 | kt {a:Addr}{us:List V}{xs:List PV}:ap2 K a us->Reps K M H us xs->aM K M H (.ref a) (.kt xs)
 | exc {a C:Addr}{o:Obj}{c:Str}:H a=some (.frz o (.own a))->PySem.W.nsIn K mainGlobals c=some (some (.ref C))->o.cls = .ref C->aM K M H (.ref a) (.exc c)
 | fK {a:Addr}{o:Obj}{kvs:List (aG × V)}{ps:List (aG × PV)}:H a=some (.frz o (.dK kvs))->kvs.map (·.1)=ps.map (·.1)->Reps K M H (kvs.map (·.2)) (ps.map (·.2))->aM K M H (.ref a) (.fK ps)
 | fT {a:Addr}{o:Obj}{kvs:List (List aG × V)}{ps:List (List aG × PV)}:H a=some (.frz o (.dT kvs))->kvs.map (·.1)=ps.map (·.1)->Reps K M H (kvs.map (·.2)) (ps.map (·.2))->aM K M H (.ref a) (.fT ps)
inductive Reps (K:PySem.W.Frag) (M:Addr->Prop) (H:Hp):List V->List PV->Prop
 | nil:Reps K M H [] []
 | cons {v:V}{x:PV}{vs:List V}{xs:List PV}:aM K M H v x->Reps K M H vs xs->Reps K M H (v :: vs) (x :: xs)
end
structure gY (M M':Addr->Prop) (H H':Hp):Prop where
 lst:∀ a us,M a->H a=some (.lst us)->M' a/\H' a=some (.lst us)
 dK:∀ a kvs,M a->H a=some (.dK kvs)->M' a/\H' a=some (.dK kvs)
 dT:∀ a kvs,M a->H a=some (.dT kvs)->M' a/\H' a=some (.dT kvs)
 tup:∀ a us,H a=some (.tup us)->H' a=some (.tup us)
 frz:∀ a o u,H a=some (.frz o u)->H' a=some (.frz o u)
theorem iW.keep {K:PySem.W.Frag}{H H':Hp}{a:Addr}{ns:List Int} (k:∀ a o u,H a=some (.frz o u)->H' a=some (.frz o u)) (h:iW K H a ns):iW K H' a ns:=
 h.elim (fun ⟨o,e⟩=>.inl ⟨o,k _ _ _ e⟩) .inr
mutual
theorem aM.keep {K:PySem.W.Frag}{M M':Addr->Prop}{H H':Hp} (k:gY M M' H H'):∀ {v:V}{x:PV},aM K M H v x->aM K M' H' v x
 | _,_,.non=>.non
 | _,_,.bl b=>.bl b
 | _,_,.int i=>.int i
 | _,_,.str x=>.str x
 | _,_,.tup h r=>.tup (k.tup _ _ h) (Reps.keep k r)
 | _,_,.lst m h r=>.lst (k.lst _ _ m h).1 (k.lst _ _ m h).2 (Reps.keep k r)
 | _,_,.dK m h e r=>.dK (k.dK _ _ m h).1 (k.dK _ _ m h).2 e (Reps.keep k r)
 | _,_,.dT m h e r=>.dT (k.dT _ _ m h).1 (k.dT _ _ m h).2 e (Reps.keep k r)
 | _,_,.scr h=>.scr (h.keep k.frz)
 | _,_,.kt h r=>.kt h (Reps.keep k r)
 | _,_,.exc h e c=>.exc (k.frz _ _ _ h) e c
 | _,_,.fK h e r=>.fK (k.frz _ _ _ h) e (Reps.keep k r)
 | _,_,.fT h e r=>.fT (k.frz _ _ _ h) e (Reps.keep k r)
theorem Reps.keep {K:PySem.W.Frag}{M M':Addr->Prop}{H H':Hp} (k:gY M M' H H'):∀ {vs:List V}{xs:List PV},Reps K M H vs xs->Reps K M' H' vs xs
 | _,_,.nil=>.nil
 | _,_,.cons r t=>.cons (aM.keep k r) (Reps.keep k t)
end
mutual
theorem aM.flat {K:PySem.W.Frag}{M M':Addr->Prop}{H:Hp}{v:V}{x:PV} (f:flat x=true) (r:aM K M H v x):aM K M' H v x:=by
 cases r with
 | non=>exact .non
 | bl b=>exact .bl b
 | int i=>exact .int i
 | str x=>exact .str x
 | tup h r=>exact .tup h (Reps.flat (by unfold PP.flat at f; exact f) r)
 | lst m h r=>unfold PP.flat at f; cases f
 | dK m h e r=>unfold PP.flat at f; cases f
 | dT m h e r=>unfold PP.flat at f; cases f
 | scr h=>exact .scr h
 | kt h r=>exact .kt h (Reps.flat (by unfold PP.flat at f; exact f) r)
 | exc h e c=>exact .exc h e c
 | fK h e r=>unfold PP.flat at f; cases f
 | fT h e r=>unfold PP.flat at f; cases f
theorem Reps.flat {K:PySem.W.Frag}{M M':Addr->Prop}{H:Hp}{vs:List V}{xs:List PV} (f:flats xs=true) (r:Reps K M H vs xs):Reps K M' H vs xs:=by
 cases r with
 | nil=>exact .nil
 | cons r t=>
  unfold PP.flats at f
  rw [aX1] at f
  exact .cons (aM.flat f.1 r) (Reps.flat f.2 t)
end
theorem gY.same {M M':Addr->Prop}{H H':Hp} (s:aC H H') (m:∀ a,M a->M' a):gY M M' H H':=
 ⟨fun a _ h e=>⟨m a h,s _ _ e⟩,fun a _ h e=>⟨m a h,s _ _ e⟩,fun a _ h e=>⟨m a h,s _ _ e⟩,fun _ _ e=>s _ _ e,fun _ _ _ e=>s _ _ e⟩
theorem aM.same {K:PySem.W.Frag}{M M':Addr->Prop}{H H':Hp}{v:V}{x:PV} (r:aM K M H v x) (s:aC H H') (m:∀ a,M a->M' a):aM K M' H' v x:=r.keep (.same s m)
theorem Reps.same {K:PySem.W.Frag}{M M':Addr->Prop}{H H':Hp}{v:List V}{x:List PV} (r:Reps K M H v x) (s:aC H H') (m:∀ a,M a->M' a):Reps K M' H' v x:=r.keep (.same s m)
noncomputable def iX:HO->Bool
 | .lst _=>true
 | .dK _=>true
 | .dT _=>true
 | _=>false
theorem gY.upd {M M':Addr->Prop}{H:Hp}{a:Addr}{o o':HO} (h:H a=some o') (mu:iX o'=true) (m:∀ b,M b->b ≠ a/\M' b):gY M M' H (upd H a o):=
 ⟨fun b _ hb e=>⟨(m b hb).2,by rw [aZ (m b hb).1]; exact e⟩,fun b _ hb e=>⟨(m b hb).2,by rw [aZ (m b hb).1]; exact e⟩,fun b _ hb e=>⟨(m b hb).2,by rw [aZ (m b hb).1]; exact e⟩,
  fun b _ e=>by rw [aZ (fun z=>by rw [z,h] at e; cases e; cases mu)]; exact e,
  fun b _ _ e=>by rw [aZ (fun z=>by rw [z,h] at e; cases e; cases mu)]; exact e⟩
theorem Reps.length {K:PySem.W.Frag}{M:Addr->Prop}{H:Hp}:∀ {vs:List V}{xs:List PV},Reps K M H vs xs->vs.length=xs.length
 | _,_,.nil=>rfl
 | _,_,.cons _ t=>congrArg (· + 1) t.length
theorem Reps.get {K:PySem.W.Frag}{M:Addr->Prop}{H:Hp}:∀ {vs:List V}{xs:List PV}{i:Nat}{v:V},Reps K M H vs xs->vs[i]? = some v->∃ x,xs[i]? = some x/\aM K M H v x
 | _,_,_,_,.nil,e=>by simp at e
 | _,_,0,_,.cons r _,e=>by simp at e; subst e; exact⟨_,rfl,r⟩
 | _,_,i+1,v,.cons _ t,e=>by
  rw [ba8] at e
  obtain ⟨x,h1,h2⟩:=t.get e
  exact⟨x,by rw [ba8]; exact h1,h2⟩
theorem Reps.at {K:PySem.W.Frag}{M:Addr->Prop}{H:Hp}:∀ {vs:List V}{xs:List PV}{i:Nat}{x:PV},Reps K M H vs xs->xs[i]? = some x->∃ v,vs[i]? = some v/\aM K M H v x
 | _,_,_,_,.nil,e=>by simp at e
 | _,_,0,_,.cons r _,e=>by simp at e; subst e; exact⟨_,rfl,r⟩
 | _,_,i+1,v,.cons _ t,e=>by
  rw [ba8] at e
  obtain ⟨x,h1,h2⟩:=t.at e
  exact⟨x,by rw [ba8]; exact h1,h2⟩
theorem Reps.append {K:PySem.W.Frag}{M:Addr->Prop}{H:Hp}:∀ {vs:List V}{xs:List PV}{us:List V}{ys:List PV},Reps K M H vs xs->Reps K M H us ys->Reps K M H (vs ++ us) (xs ++ ys)
 | _,_,_,_,.nil,s=>s
 | _,_,_,_,.cons r t,s=>.cons r (t.append s)
theorem Reps.set {K:PySem.W.Frag}{M:Addr->Prop}{H:Hp}{v:V}{x:PV} (q:aM K M H v x):∀ (i:Nat) {vs:List V}{xs:List PV},Reps K M H vs xs->Reps K M H (vs.set i v) (xs.set i x)
 | _,_,_,.nil=>.nil
 | 0,_,_,.cons r t=>.cons q t
 | i+1,_,_,.cons r t=>.cons r (Reps.set q i t)
theorem Reps.take {K:PySem.W.Frag}{M:Addr->Prop}{H:Hp}:∀ (n:Nat) {vs:List V}{xs:List PV},Reps K M H vs xs->Reps K M H (vs.take n) (xs.take n)
 | 0,_,_,_=>by simp; exact .nil
 | _+1,_,_,.nil=>.nil
 | n+1,_,_,.cons r t=>.cons r (Reps.take n t)
theorem Reps.drop {K:PySem.W.Frag}{M:Addr->Prop}{H:Hp}:∀ (n:Nat) {vs:List V}{xs:List PV},Reps K M H vs xs->Reps K M H (vs.drop n) (xs.drop n)
 | 0,_,_,r=>r
 | _+1,_,_,.nil=>.nil
 | n+1,_,_,.cons _ t=>Reps.drop n t
theorem Reps.eraseIdx {K:PySem.W.Frag}{M:Addr->Prop}{H:Hp}:∀ (n:Nat) {vs:List V}{xs:List PV},Reps K M H vs xs->Reps K M H (vs.eraseIdx n) (xs.eraseIdx n)
 | _,_,_,.nil=>.nil
 | 0,_,_,.cons _ t=>t
 | n+1,_,_,.cons r t=>.cons r (Reps.eraseIdx n t)
noncomputable abbrev intz (ns:List Int):List PV:=ns.map PV.int
theorem Reps.intz {K:PySem.W.Frag}{M:Addr->Prop}{H:Hp}:∀ (ns:List Int),Reps K M H (ns.map V.int) (intz ns)
 | []=>.nil
 | n :: r=>.cons (.int n) (Reps.intz r)
theorem Reps.ofInts {K:PySem.W.Frag}{M:Addr->Prop}{H:Hp}:∀ {ns:List Int}{us:List V},Reps K M H us (PP.intz ns)->us=ns.map V.int
 | [],_,.nil=>rfl
 | n :: r,_,.cons q t=>by
  cases q
  rw [Reps.ofInts t]; rfl
theorem dB:∀ (ns:List Int),flats (intz ns)=true
 | []=>rfl
 | n :: r=>by show (flat (.int n) && flats (intz r))=true; rw [dB r]; rfl
inductive Tg | rd | sh | nw | fr
inductive Slot | sh (g:Bool) (x:PV) | own (x:PV)
noncomputable def Slot.val:Slot->PV
 | .sh _ x=>x
 | .own x=>x
noncomputable def Slot.tag:Slot->Tg
 | .sh true _=>.nw
 | .sh false _=>.sh
 | .own _=>.rd
noncomputable abbrev bG:=List (Option Slot)
noncomputable def Ms (H0:Hp) (W:Addr->Prop):Bool->Addr->Prop
 | false,a=>¬ W a
 | true,a=>¬ W a/\H0 a=none
noncomputable def Mg (H0:Hp) (W:Addr->Prop) (Hs:Hp):Tg->Addr->Prop
 | .rd,_=>True
 | .sh,a=>¬ W a
 | .nw,a=>¬ W a/\H0 a=none
 | .fr,a=>Hs a=none
noncomputable def gZ (K:PySem.W.Frag) (M:Addr->Prop) (H:Hp) (a:Addr):PV->Prop
 | .lst xs=>∃ us,H a=some (.lst us)/\Reps K M H us xs
 | .dK ps=>∃ kvs,H a=some (.dK kvs)/\kvs.map (·.1)=ps.map (·.1)/\Reps K M H (kvs.map (·.2)) (ps.map (·.2))
 | .dT ps=>∃ kvs,H a=some (.dT kvs)/\kvs.map (·.1)=ps.map (·.1)/\Reps K M H (kvs.map (·.2)) (ps.map (·.2))
 | _=>False
noncomputable def E1 (K:PySem.W.Frag) (H0:Hp) (W:Addr->Prop) (H:Hp) (v:V):Slot->Prop
 | .sh g x=>aM K (Ms H0 W g) H v x
 | .own x=>∃ a,v = .ref a/\W a/\gZ K (Ms H0 W true) H a x
structure PX (K:PySem.W.Frag) (H0:Hp) (W:Addr->Prop) (σ:St) (ρ:bG) (H:Hp):Prop where
 len:ρ.length=σ.length
 same:aC H0 H
 wm:∀ a,W a->H0 a=none/\∃ o,H a=some o/\iX o=true
 sl:∀ (i:Nat) (m:Slot),ρ[i]? = some (some m)->∃ v,σ[i]? = some (some v)/\E1 K H0 W H v m
 dis:∀ (i j:Nat) (x y:PV) (a:Addr),ρ[i]? = some (some (.own x))->ρ[j]? = some (some (.own y))->σ[i]? = some (some (.ref a))->σ[j]? = some (some (.ref a))->i=j
theorem gZ.keep {K:PySem.W.Frag}{M M':Addr->Prop}{H H':Hp}{a:Addr} (k:gY M M' H H') (ha:∀ o,H a=some o->H' a=some o):∀ {x:PV},gZ K M H a x->gZ K M' H' a x
 | .lst _,⟨us,e,r⟩=>⟨us,ha _ e,r.keep k⟩
 | .dK _,⟨us,e,q,r⟩=>⟨us,ha _ e,q,r.keep k⟩
 | .dT _,⟨us,e,q,r⟩=>⟨us,ha _ e,q,r.keep k⟩
theorem gZ.at {K:PySem.W.Frag}{M:Addr->Prop}{H:Hp}{a:Addr}:∀ {x:PV},gZ K M H a x->∃ o,H a=some o/\iX o=true
 | .lst _,⟨us,e,r⟩=>⟨_,e,rfl⟩
 | .dK _,⟨us,e,q,r⟩=>⟨_,e,rfl⟩
 | .dT _,⟨us,e,q,r⟩=>⟨_,e,rfl⟩
theorem gZ.rep {K:PySem.W.Frag}{M M':Addr->Prop}{H:Hp}{a:Addr} (m:∀ b,M b->M' b) (ha:M' a):∀ {x:PV},gZ K M H a x->aM K M' H (.ref a) x
 | .lst _,⟨us,e,r⟩=>.lst ha e (r.same (aC.refl _) m)
 | .dK _,⟨us,e,q,r⟩=>.dK ha e q (r.same (aC.refl _) m)
 | .dT _,⟨us,e,q,r⟩=>.dT ha e q (r.same (aC.refl _) m)
section
variable {K : PySem.W.Frag} {H0 : Hp} {W W' : Addr → Prop} {σ : St} {ρ : bG} {H H' : Hp}
theorem PX.mono (p:PX K H0 W σ ρ H) (s:aC H H'):PX K H0 W σ ρ H':=by
 refine⟨p.len,p.same.trans s,fun a h=>⟨(p.wm a h).1,let ⟨o,e,m⟩:=(p.wm a h).2; ⟨o,s _ _ e,m⟩⟩,fun i m h=>?_,p.dis⟩
 obtain ⟨v,e,r⟩:=p.sl i m h
 refine⟨v,e,?_⟩
 cases m with
 | sh g x=>exact aM.same r s fun _ z=>z
 | own x=>
  obtain ⟨a,e1,e2,r⟩:=r
  exact⟨a,e1,e2,r.keep (.same s fun _ z=>z) fun _ z=>s _ _ z⟩
theorem PX.new (p:PX K H0 W σ ρ H) {a:Addr} (h:H a=none) : ¬ W a/\H0 a=none:=
 ⟨fun z=>(by obtain ⟨_,o,e,_⟩:=p.wm a z; rw [h] at e; cases e),p.same.free h⟩
theorem Mg.back {g:Tg}{H1:Hp} (s:aC H H1) {a:Addr} (h:Mg H0 W H1 g a):Mg H0 W H g a:=by
 cases g with
 | fr=>exact s.free h
 | rd=>exact h
 | sh=>exact h
 | nw=>exact h
end
noncomputable abbrev PK:=PV->Tg->Prop
noncomputable abbrev aF:=bG->PK->Prop
noncomputable abbrev cC:=bG->(Bool->Prop)->Prop
noncomputable abbrev cQ:=bG->(List (PV × Tg)->Prop)->Prop
inductive hG (K:PySem.W.Frag) (H0:Hp) (W:Addr->Prop) (Hs H:Hp):List V->List (PV × Tg)->Prop
 | nil:hG K H0 W Hs H [] []
 | cons {v:V}{x:PV}{g:Tg}{vs:List V}{xs:List (PV × Tg)}:aM K (Mg H0 W Hs g) H v x->hG K H0 W Hs H vs xs->hG K H0 W Hs H (v :: vs) ((x,g) :: xs)
noncomputable def pX (K:PySem.W.Frag) (H0:Hp) (W:Addr->Prop) (H:Hp) (Q:PK) (Q':VK):Prop:=∀ v H' x g,aC H H'->aM K (Mg H0 W H g) H' v x->Q x g->Q' v H'
noncomputable def LE (X:Cx) (t:aF):TE:=fun σ H Q'=>∃ (W:Addr->Prop) (ρ:bG) (Q:PK),PX X.K X.H₀ W σ ρ H/\t ρ Q/\pX X.K X.H₀ W H Q Q'
noncomputable def LT (X:Cx) (t:cC):TT:=fun σ H Q'=>∃ (W:Addr->Prop) (ρ:bG) (Q:Bool->Prop),PX X.K X.H₀ W σ ρ H/\t ρ Q/\∀ b H',aC H H'->Q b->Q' b H'
noncomputable def LA (X:Cx) (t:cQ):TA:=fun σ H Q'=>∃ (W:Addr->Prop) (ρ:bG) (Q:List (PV × Tg)->Prop),PX X.K X.H₀ W σ ρ H/\t ρ Q/\∀ vs H' xs,aC H H'->hG X.K X.H₀ W H H' vs xs->Q xs->Q' vs H'
theorem hG.same {K:PySem.W.Frag}{H0:Hp}{W:Addr->Prop}{Hs Hs' H H':Hp} (s:aC H H') (b:aC Hs' Hs):∀ {vs:List V}{xs:List (PV × Tg)},hG K H0 W Hs H vs xs->hG K H0 W Hs' H' vs xs
 | _,_,.nil=>.nil
 | _,_,.cons r t=>.cons (r.same s fun _ z=>Mg.back b z) (t.same s b)
theorem hG.any {K:PySem.W.Frag}{H0:Hp}{W:Addr->Prop}{Hs H:Hp}:∀ {vs:List V}{xs:List (PV × Tg)},hG K H0 W Hs H vs xs->Reps K (fun _=>True) H vs (xs.map (·.1))
 | _,_,.nil=>.nil
 | _,_,.cons r t=>.cons (r.same (aC.refl _) fun _ _=>trivial) t.any
noncomputable def Nw:Tg->PV->Prop
 | .fr,_=>True
 | .nw,_=>True
 | _,x=>flat x=true
section
variable {K : PySem.W.Frag} {H0 Hs H : Hp} {W : Addr → Prop} {σ : St} {ρ : bG}
theorem Nw.rep {g:Tg}{x:PV}{v:V} (px:PX K H0 W σ ρ Hs) (n:Nw g x) (r:aM K (Mg H0 W Hs g) H v x):aM K (Ms H0 W true) H v x:=by
 cases g with
 | fr=>exact r.same (aC.refl _) fun a z=>px.new z
 | nw=>exact r.same (aC.refl _) fun a z=>z
 | sh=>exact r.flat n
 | rd=>exact r.flat n
theorem E2 {v:V}{m:Slot} (r:E1 K H0 W H v m):aM K (Mg H0 W Hs m.tag) H v m.val:=by
 cases m with
 | sh g x=>
  cases g with
  | true=>exact aM.same r (aC.refl _) fun _ z=>z
  | false=>exact aM.same r (aC.refl _) fun _ z=>z
 | own x=>
  obtain ⟨a,rfl,_,r⟩:=r
  exact r.rep (fun _ _=>trivial) trivial
end
section
variable {X : Cx} {σ : St} {H : Hp} {Q' : VK} {ta tb : aF}
noncomputable def a5 (i:Nat):aF:=fun ρ Q=>∃ m,ρ[i]? = some (some m)/\Q m.val m.tag
noncomputable def qC (x:PV):aF:=fun _ Q=>Q x .fr
theorem ap3 {i:Nat} (h:LE X (a5 i) σ H Q'):iE i σ H Q':=by
 obtain ⟨W,ρ,Q,px,⟨m,e,q⟩,k⟩:=h
 obtain ⟨v,ev,r⟩:=px.sl i m e
 exact⟨v,ev,k v H _ _ (aC.refl _) (E2 r) q⟩
theorem pY {x:PV}{v:V} (hr:∀ M,aM X.K M H v x) (h:LE X (qC x) σ H Q'):tC v σ H Q':=by
 obtain ⟨W,ρ,Q,px,q,k⟩:=h
 exact k v H _ _ (aC.refl _) (hr _) q
noncomputable def fO (X:Cx) (R:PV->Tg->PV->Tg->PK->Prop) (r:R2):Prop:=∀ (W:Addr->Prop) (Hs H:Hp) (u v:V) (x y:PV) (g g':Tg) (Q:PK) (Q':VK),aC Hs H->
 (∀ a,Hs a=none->¬ W a/\X.H₀ a=none)->aM X.K (Mg X.H₀ W Hs g) H u x->aM X.K (Mg X.H₀ W Hs g') H v y->R x g y g' Q->(∀ w H' z gz,aC H H'->aM X.K (Mg X.H₀ W Hs gz) H' w z->Q z gz->Q' w H')->r u v H Q'
noncomputable def q2 (R:PV->Tg->PV->Tg->PK->Prop) (ta tb:aF):aF:=fun ρ Q=>ta ρ fun x g=>tb ρ fun y g'=>R x g y g' Q
theorem pZ {R:PV->Tg->PV->Tg->PK->Prop}{r:R2} (c:fO X R r) (h:LE X (q2 R ta tb) σ H Q'):mU r (LE X ta) (LE X tb) σ H Q':=by
 obtain ⟨W,ρ,Q,px,q,k⟩:=h
 refine⟨W,ρ,_,px,q,fun u H1 x g s1 r1 q1=>⟨W,ρ,_,px.mono s1,q1,fun v H2 y g' s2 r2 q2=>?_⟩⟩
 exact c W H H2 u v x y g g' Q Q' (s1.trans s2) (fun a z=>px.new z) (r1.same s2 fun _ z=>z) (r2.same (aC.refl _) fun _ z=>Mg.back s1 z) q2 fun w H' z gz s3 r3 q3=>k w H' z gz ((s1.trans s2).trans s3) r3 q3
noncomputable def RI (C:Int->Int->Prop) (f:Int->Int->PV):PV->Tg->PV->Tg->PK->Prop:=fun x _ y _ Q=>∃ i j,x = .int i/\y = .int j/\C i j/\Q (f i j) .fr
noncomputable def dS (f:Int->Int->PV):PV->Tg->PV->Tg->PK->Prop:=fun x _ y _ Q=>∃ i j,x = .int i/\y = .int j/\Q (f i j) .fr
theorem nN {C:Int->Int->Prop}{f:Int->Int->Int}:fO X (RI C fun i j=>.int (f i j)) (rI C fun i j=>.int (f i j)):=by
 rintro W Hs H u v x y g g' Q Q' s n r1 r2 ⟨i,j,rfl,rfl,c,q⟩ k
 cases r1; cases r2
 exact⟨i,j,rfl,rfl,c,k _ _ _ _ (aC.refl _) (.int _) q⟩
theorem uE {f:Int->Int->Int}:fO X (dS fun i j=>.int (f i j)) (gS fun i j=>.int (f i j)):=by
 rintro W Hs H u v x y g g' Q Q' s n r1 r2 ⟨i,j,rfl,rfl,q⟩ k
 cases r1; cases r2
 exact⟨i,j,rfl,rfl,k _ _ _ _ (aC.refl _) (.int _) q⟩
theorem lR {f:Int->Int->Bool}:fO X (dS fun i j=>.bl (f i j)) (gS fun i j=>.bl (f i j)):=by
 rintro W Hs H u v x y g g' Q Q' s n r1 r2 ⟨i,j,rfl,rfl,q⟩ k
 cases r1; cases r2
 exact⟨i,j,rfl,rfl,k _ _ _ _ (aC.refl _) (.bl _) q⟩
noncomputable def kI (neg:Bool):PV->Tg->PV->Tg->PK->Prop:=fun x _ y _ Q=>(∃ i j,x = .int i/\y = .int j/\Q (.bl (if neg=true then !decide (i=j) else decide (i=j))) .fr) ∨ (∃ i j,x = .bl i/\y = .bl j/\Q (.bl (if neg=true then !decide (i=j) else decide (i=j))) .fr)
theorem E3 (i j:Int):decide (V.int i=V.int j)=decide (i=j):=by
 rw [ba2,bb7,bb7]; exact⟨fun z=>V.int.inj z,fun z=>congrArg V.int z⟩
theorem E4 (i j:Bool):decide (V.bl i=V.bl j)=decide (i=j):=by
 rw [ba2,bb7,bb7]; exact⟨fun z=>V.bl.inj z,fun z=>congrArg V.bl z⟩
theorem E5:fO X (kI false) xT:=by
 rintro W Hs H u v x y g g' Q Q' s n r1 r2 (⟨i,j,rfl,rfl,q⟩ | ⟨i,j,rfl,rfl,q⟩) k
 ·cases r1; cases r2
  exact⟨rfl,by rw [E3]; exact k _ _ _ _ (aC.refl _) (.bl _) q⟩
 ·cases r1; cases r2
  exact⟨rfl,by rw [E4]; exact k _ _ _ _ (aC.refl _) (.bl _) q⟩
theorem ap4:fO X (kI true) sQ:=by
 rintro W Hs H u v x y g g' Q Q' s n r1 r2 (⟨i,j,rfl,rfl,q⟩ | ⟨i,j,rfl,rfl,q⟩) k
 ·cases r1; cases r2
  exact⟨rfl,by rw [E3]; exact k _ _ _ _ (aC.refl _) (.bl _) q⟩
 ·cases r1; cases r2
  exact⟨rfl,by rw [E4]; exact k _ _ _ _ (aC.refl _) (.bl _) q⟩
noncomputable def bJ (t:aF):cC:=fun ρ Q=>t ρ fun x _=>∃ b,x = .bl b/\Q b
theorem qA {t:aF}{Q':Bool->Hp->Prop} (h:LT X (bJ t) σ H Q'):LE X t σ H fun x H'=>∃ k,x = .bl k/\Q' k H':=by
 obtain ⟨W,ρ,Q,px,q,k⟩:=h
 refine⟨W,ρ,_,px,q,?_⟩
 rintro v H1 x g s r ⟨b,rfl,q⟩
 cases r
 exact⟨b,rfl,k _ _ s q⟩
noncomputable def nO (t u:cC):cC:=fun ρ Q=>t ρ fun c=>if c=true then u ρ Q else Q false
noncomputable def uF (t u:cC):cC:=fun ρ Q=>t ρ fun c=>if c=true then Q true else u ρ Q
noncomputable def kJ (t:cC):cC:=fun ρ Q=>t ρ fun c=>Q (!c)
variable {t u : cC} {Qb : Bool → Hp → Prop}
theorem ap5 (h:LT X (nO t u) σ H Qb):xB (LT X t) (LT X u) σ H Qb:=by
 obtain ⟨W,ρ,Q,px,q,k⟩:=h
 refine⟨W,ρ,_,px,q,fun b H1 s1 q1=>?_⟩
 cases b with
 | true=>exact bN ⟨W,ρ,Q,px.mono s1,by simpa using q1,fun b H2 s2 q2=>k _ _ (s1.trans s2) q2⟩
 | false=>exact bF (k _ _ s1 (by simpa using q1))
theorem ap6 (h:LT X (uF t u) σ H Qb):xC (LT X t) (LT X u) σ H Qb:=by
 obtain ⟨W,ρ,Q,px,q,k⟩:=h
 refine⟨W,ρ,_,px,q,fun b H1 s1 q1=>?_⟩
 cases b with
 | false=>exact bF ⟨W,ρ,Q,px.mono s1,by simpa using q1,fun b H2 s2 q2=>k _ _ (s1.trans s2) q2⟩
 | true=>exact bN (k _ _ s1 (by simpa using q1))
theorem ap7 (h:LT X (kJ t) σ H Qb):xD (LT X t) σ H Qb:=by
 obtain ⟨W,ρ,Q,px,q,k⟩:=h
 exact⟨W,ρ,_,px,q,fun b H1 s1 q1=>k _ _ s1 q1⟩
noncomputable def kK (ta tb:aF):aF:=fun ρ Q=>ta ρ fun x _=>∃ c,x = .bl c/\if c=true then tb ρ Q else Q (.bl false) .fr
theorem pX.back {K:PySem.W.Frag}{H0:Hp}{W:Addr->Prop}{H H1:Hp}{Q:PK} (k:pX K H0 W H Q Q') (s:aC H H1):pX K H0 W H1 Q Q':=fun v H' x g s' r q=>k v H' x g (s.trans s') (r.same (aC.refl _) fun _ z=>Mg.back s z) q
theorem ap8 (h:LE X (kK ta tb) σ H Q'):xE (LE X ta) (LE X tb) σ H Q':=by
 obtain ⟨W,ρ,Q,px,q,k⟩:=h
 refine⟨W,ρ,_,px,q,?_⟩
 rintro v H1 x g s1 r ⟨c,rfl,q⟩
 cases r
 refine⟨c,rfl,?_⟩
 cases c with
 | true=>exact bN ⟨W,ρ,Q,px.mono s1,by simpa using q,k.back s1⟩
 | false=>exact bF (k _ _ _ _ s1 (.bl _) (by simpa using q))
noncomputable def a9:cQ:=fun _ Q=>Q []
noncomputable def a7 (te:aF) (tr:cQ):cQ:=fun ρ Q=>te ρ fun x g=>tr ρ fun xs=>Q ((x,g) :: xs)
variable {Qa : List V → Hp → Prop} {tr : cQ}
theorem ap9 (h:LA X a9 σ H Qa):jQ σ H Qa:=by
 obtain ⟨W,ρ,Q,px,q,k⟩:=h
 exact k _ _ _ (aC.refl _) .nil q
theorem aq0 (h:LA X (a7 ta tr) σ H Qa):iF (LE X ta) (LA X tr) σ H Qa:=by
 obtain ⟨W,ρ,Q,px,q,k⟩:=h
 refine⟨W,ρ,_,px,q,fun v H1 x g s1 r1 q1=>⟨W,ρ,_,px.mono s1,q1,fun vs H2 xs s2 r2 q2=>?_⟩⟩
 exact k _ _ _ (s1.trans s2) (.cons (r1.same s2 fun _ z=>z) (r2.same (aC.refl _) s1)) q2
noncomputable def hJ (t:cQ):aF:=fun ρ Q=>t ρ fun xs=>xs.length<=1000/\flats (xs.map (·.1))=true/\Q (.tup (xs.map (·.1))) .fr
noncomputable def fP (t:cQ):aF:=fun ρ Q=>t ρ fun xs=>xs.length<=1000/\flats (xs.map (·.1))=true/\Q (.lst (xs.map (·.1))) .fr
theorem hG.length {K:PySem.W.Frag}{H0:Hp}{W:Addr->Prop}{Hs H:Hp}:∀ {vs:List V}{xs:List (PV × Tg)},hG K H0 W Hs H vs xs->vs.length=xs.length
 | _,_,.nil=>rfl
 | _,_,.cons _ t=>congrArg (· + 1) t.length
theorem uG {n:Nat} (h:n<=1000):n<=sizeLine:=aY6 (nF h)
theorem aq1 (h:LE X (hJ tr) σ H Q'):yE (LA X tr) σ H Q':=by
 obtain ⟨W,ρ,Q,px,q,k⟩:=h
 refine⟨W,ρ,_,px,q,?_⟩
 rintro vs H1 xs s1 r ⟨hl,n,q⟩
 refine⟨by rw [r.length]; exact uG hl,fun p hp=>k _ _ _ .fr (s1.trans (bL hp _)) (.tup bK ?_) q⟩
 exact (r.any.flat n).same (bL hp _) fun _ z=>z
theorem aq2 (h:LE X (fP tr) σ H Q'):yF (LA X tr) σ H Q':=by
 obtain ⟨W,ρ,Q,px,q,k⟩:=h
 refine⟨W,ρ,_,px,q,?_⟩
 rintro vs H1 xs s1 r ⟨hl,n,q⟩
 refine⟨by rw [r.length]; exact uG hl,fun p hp=>k _ _ _ .fr (s1.trans (bL hp _)) (.lst (s1.free hp) bK ?_) q⟩
 exact (r.any.flat n).same (bL hp _) fun _ z=>z
noncomputable def g9 (X:Cx) (R:List PV->(PV->Prop)->Prop) (r:List V->Hp->VK->Prop):Prop:=∀ (H:Hp) (vs:List V) (xs:List PV) (Q:PV->Prop) (Q':VK),Reps X.K (fun _=>True) H vs xs->R xs Q->
 (∀ w H' z,aC H H'->aM X.K (fun a=>H a=none) H' w z->Q z->Q' w H')->r vs H Q'
noncomputable def aB (R:List PV->(PV->Prop)->Prop) (t:cQ):aF:=fun ρ Q=>t ρ fun xs=>R (xs.map (·.1)) fun z=>Q z .fr
theorem E6 {R:List PV->(PV->Prop)->Prop}{r:List V->Hp->VK->Prop} (c:g9 X R r) (h:LE X (aB R tr) σ H Q'):sX r (LA X tr) σ H Q':=by
 obtain ⟨W,ρ,Q,px,q,k⟩:=h
 refine⟨W,ρ,_,px,q,fun vs H1 xs s1 r1 q1=>c H1 vs _ _ Q' r1.any q1 fun w H' z s2 r2 q2=>k w H' z .fr (s1.trans s2) (r2.same (aC.refl _) fun _ z=>s1.free z) q2⟩
end
structure gN where
 nx:bG->Prop
 rt:PV->Prop
 bk:bG->Prop:=fun _=>False
 ct:bG->Prop:=fun _=>False
noncomputable abbrev aN:=gN->bG->Prop
noncomputable def Ev (W:Addr->Prop) (H:Hp) (W':Addr->Prop) (H':Hp):Prop:=∀ b o,H b=some o->¬ W b->H' b=some o/\¬ W' b
theorem Ev.trans {W W1 W2:Addr->Prop}{H H1 H2:Hp} (a:Ev W H W1 H1) (b:Ev W1 H1 W2 H2):Ev W H W2 H2:=fun c o h n=>let ⟨h1,n1⟩:=a c o h n; b c o h1 n1
theorem Ev.same {W:Addr->Prop}{H H':Hp} (s:aC H H'):Ev W H W H':=fun c o h n=>⟨s _ _ h,n⟩
theorem Ev.refl (W:Addr->Prop) (H:Hp):Ev W H W H:=Ev.same (aC.refl _)
structure nP (X:Cx) (W:Addr->Prop) (H:Hp) (D':gN) (D:cX):Prop where
 nx:∀ W' σ' H' ρ',Ev W H W' H'->PX X.K X.H₀ W' σ' ρ' H'->D'.nx ρ'->D.nx σ' H'
 rt:∀ v H' x,aC X.H₀ H'->aM X.K (fun a=>X.H₀ a=none) H' v x->D'.rt x->D.rt v H'
 bk:∀ W' σ' H' ρ',Ev W H W' H'->PX X.K X.H₀ W' σ' ρ' H'->D'.bk ρ'->D.bk σ' H'
 ct:∀ W' σ' H' ρ',Ev W H W' H'->PX X.K X.H₀ W' σ' ρ' H'->D'.ct ρ'->D.ct σ' H'
theorem nP.step {X:Cx}{W W1:Addr->Prop}{H H1:Hp}{D':gN}{D:cX} (k:nP X W H D' D) (e:Ev W H W1 H1):nP X W1 H1 D' D:=
 ⟨fun W' σ' H' ρ' e'=>k.nx W' σ' H' ρ' (e.trans e'),k.rt,fun W' σ' H' ρ' e'=>k.bk W' σ' H' ρ' (e.trans e'),fun W' σ' H' ρ' e'=>k.ct W' σ' H' ρ' (e.trans e')⟩
noncomputable def LS (X:Cx) (t:aN):TS:=fun D σ H=>∃ (W:Addr->Prop) (ρ:bG) (D':gN),PX X.K X.H₀ W σ ρ H/\t D' ρ/\nP X W H D' D
theorem gA {α:Type}{l:List α}{i j:Nat}{a b:α} (h:(l.set i a)[j]? = some b):(j=i/\i < l.length/\b=a) ∨ (j ≠ i/\l[j]? = some b):=by
 by_cases e:j=i
 ·subst e
  have hl:j < (l.set j a).length:=(aT3.mp h).1
  rw [aX4] at hl
  rw [aZ3 hl] at h
  exact .inl ⟨rfl,hl,(aV2 h).symm⟩
 ·rw [aW4 (Ne.symm e)] at h
  exact .inr ⟨e,h⟩
section
variable {K : PySem.W.Frag} {H0 : Hp} {W W' : Addr → Prop} {σ : St} {ρ : bG} {H H' Hs : Hp}
theorem PX.setSh {i:Nat}{v:V}{g:Bool}{x:PV} (p:PX K H0 W σ ρ H) (r:aM K (Ms H0 W g) H v x):PX K H0 W (σ.set i (some v)) (ρ.set i (some (.sh g x))) H:=by
 refine⟨by rw [aX4,aX4]; exact p.len,p.same,p.wm,fun j m h=>?_,fun j k y z a h1 h2 h3 h4=>?_⟩
 ·rcases gA h with ⟨rfl,hl,e⟩ | ⟨hne,h⟩
  ·cases e
   rw [p.len] at hl
   exact⟨v,aZ3 hl,r⟩
  ·obtain ⟨u,e,q⟩:=p.sl j m h
   exact⟨u,by rw [aW4 (Ne.symm hne)]; exact e,q⟩
 ·rcases gA h1 with ⟨_,_,e⟩ | ⟨n1,h1⟩
  ·cases e
  ·rcases gA h2 with ⟨_,_,e⟩ | ⟨n2,h2⟩
   ·cases e
   ·rw [aW4 (Ne.symm n1)] at h3
    rw [aW4 (Ne.symm n2)] at h4
    exact p.dis j k y z a h1 h2 h3 h4
noncomputable def lS (W:Addr->Prop) (a:Addr):Addr->Prop:=fun b=>W b ∨ b=a
theorem uH {g:Bool}{a b:Addr} (n:b ≠ a) (h:Ms H0 W g b):Ms H0 (lS W a) g b:=by
 cases g with
 | true=>exact⟨fun z=>z.elim h.1 n,h.2⟩
 | false=>exact fun z=>z.elim h n
theorem PX.setOwn {i:Nat}{a:Addr}{x:PV} (p:PX K H0 W σ ρ Hs) (s:aC Hs H) (ha:Hs a=none) (r:gZ K (Ms H0 (lS W a) true) H a x):PX K H0 (lS W a) (σ.set i (some (.ref a))) (ρ.set i (some (.own x))) H:=by
 have old:∀ b o,Hs b=some o->b ≠ a:=fun b o e z=>by rw [z,ha] at e; cases e
 have kp:∀ g,gY (Ms H0 W g) (Ms H0 (lS W a) g) Hs H:=fun g=>⟨fun b _ m e=>⟨uH (old _ _ e) m,s _ _ e⟩,fun b _ m e=>⟨uH (old _ _ e) m,s _ _ e⟩,fun b _ m e=>⟨uH (old _ _ e) m,s _ _ e⟩,fun _ _ e=>s _ _ e,fun _ _ _ e=>s _ _ e⟩
 have wa : ¬ W a:=(p.new ha).1
 refine⟨by rw [aX4,aX4]; exact p.len,p.same.trans s,fun b z=>?_,fun j m h=>?_,fun j k y z b h1 h2 h3 h4=>?_⟩
 ·rcases z with z | rfl
  ·obtain ⟨h1,o,h2,h3⟩:=p.wm b z
   exact⟨h1,o,s _ _ h2,h3⟩
  ·exact⟨(p.new ha).2,r.at⟩
 ·rcases gA h with ⟨rfl,hl,e⟩ | ⟨hne,h⟩
  ·cases e
   rw [p.len] at hl
   exact⟨_,aZ3 hl,a,rfl,.inr rfl,r⟩
  ·obtain ⟨u,e,q⟩:=p.sl j m h
   refine⟨u,by rw [aW4 (Ne.symm hne)]; exact e,?_⟩
   cases m with
   | sh g y=>exact aM.keep (kp g) q
   | own y=>
    obtain ⟨b,e1,e2,q⟩:=q
    exact⟨b,e1,.inl e2,q.keep (kp true) fun o z=>s _ _ z⟩
 ·have ne:∀ {j:Nat}{y:PV},ρ[j]? = some (some (.own y))->σ[j]? ≠ some (some (.ref a)):=fun {j y} h1 h2=>by
   obtain ⟨u,e,c,e1,e2,_⟩:=p.sl j _ h1
   rw [h2] at e
   cases e
   cases e1
   exact wa e2
  rcases gA h1 with ⟨e1,l1,_⟩ | ⟨n1,h1⟩
  ·rcases gA h2 with ⟨e2,_,_⟩ | ⟨n2,h2⟩
   ·rw [e1,e2]
   ·rw [e1,aZ3 (by rw [<- p.len]; exact l1)] at h3
    rw [aW4 (Ne.symm n2)] at h4
    cases h3
    exact absurd h4 (ne h2)
  ·rw [aW4 (Ne.symm n1)] at h3
   rcases gA h2 with ⟨e2,l2,_⟩ | ⟨n2,h2⟩
   ·rw [e2,aZ3 (by rw [<- p.len]; exact l2)] at h4
    cases h4
    exact absurd h3 (ne h1)
   ·rw [aW4 (Ne.symm n2)] at h4
    exact p.dis j k y z b h1 h2 h3 h4
theorem Ev.own {a:Addr} (s:aC Hs H) (ha:Hs a=none):Ev W Hs (lS W a) H:=fun b o e n=>⟨s _ _ e,fun z=>z.elim n fun z=>by rw [z,ha] at e; cases e⟩
theorem kL {g:Bool}{a b:Addr} (wa:W a) (h:Ms H0 W g b):b ≠ a:=by
 cases g with
 | true=>exact fun z=>h.1 (by rw [z]; exact wa)
 | false=>exact fun z=>h (by rw [z]; exact wa)
theorem PX.updOwn {i:Nat}{a:Addr}{x y:PV}{o:HO} (p:PX K H0 W σ ρ H) (hi:ρ[i]? = some (some (.own x))) (ha:σ[i]? = some (some (.ref a))) (wa:W a) (mu:iX o=true) (r:gZ K (Ms H0 W true) (upd H a o) a y) :
  PX K H0 W σ (ρ.set i (some (.own y))) (upd H a o):=by
 obtain ⟨w0,o',e',mu'⟩:=p.wm a wa
 have kp:∀ g,gY (Ms H0 W g) (Ms H0 W g) H (upd H a o):=fun g=>.upd e' mu' fun b m=>⟨kL wa m,m⟩
 refine⟨by rw [aX4]; exact p.len,fun b u e=>by rw [aZ (fun z=>by rw [z,w0] at e; cases e)]; exact p.same _ _ e,fun b z=>?_,fun j m h=>?_,fun j k y' z b h1 h2 h3 h4=>?_⟩
 ·by_cases e:b=a
  ·subst e; exact⟨w0,o,bK,mu⟩
  ·obtain ⟨h1,o2,h2,h3⟩:=p.wm b z
   exact⟨h1,o2,by rw [aZ e]; exact h2,h3⟩
 ·rcases gA h with ⟨rfl,hl,e⟩ | ⟨hne,h⟩
  ·cases e
   exact⟨_,ha,a,rfl,wa,r⟩
  ·obtain ⟨u,e,q⟩:=p.sl j m h
   refine⟨u,e,?_⟩
   cases m with
   | sh g y=>exact aM.keep (kp g) q
   | own y=>
    obtain ⟨b,e1,e2,q⟩:=q
    have hb:b ≠ a:=fun z=>by
     subst e1
     rw [z] at e
     exact hne (p.dis j i _ _ a h hi e ha)
    exact⟨b,e1,e2,q.keep (kp true) fun o z=>by rw [aZ hb]; exact z⟩
 ·have g1:∃ y,ρ[j]? = some (some (.own y)):=by
   rcases gA h1 with ⟨e,_,_⟩ | ⟨_,h⟩
   ·exact⟨x,by rw [e]; exact hi⟩
   ·exact⟨_,h⟩
  have g2:∃ y,ρ[k]? = some (some (.own y)):=by
   rcases gA h2 with ⟨e,_,_⟩ | ⟨_,h⟩
   ·exact⟨x,by rw [e]; exact hi⟩
   ·exact⟨_,h⟩
  obtain ⟨y1,g1⟩:=g1
  obtain ⟨y2,g2⟩:=g2
  exact p.dis j k y1 y2 b g1 g2 h3 h4
theorem Ev.upd {a:Addr}{o:HO} (wa:W a):Ev W H W (upd H a o):=fun b u e n=>⟨by rw [aZ (fun z=>n (by rw [z]; exact wa))]; exact e,n⟩
noncomputable def nQ (W:Addr->Prop) (a:Addr):Addr->Prop:=fun b=>W b/\b ≠ a
theorem uI {g:Bool}{a b:Addr} (h:Ms H0 W g b):Ms H0 (nQ W a) g b:=by
 cases g with
 | true=>exact⟨fun z=>h.1 z.1,h.2⟩
 | false=>exact fun z=>h z.1
theorem PX.freeze {i:Nat}{a:Addr}{x:PV} (p:PX K H0 W σ ρ H) (hi:ρ[i]? = some (some (.own x))) (ha:σ[i]? = some (some (.ref a))):PX K H0 (nQ W a) σ (ρ.set i (some (.sh true x))) H:=by
 obtain ⟨v,ev,a',e1,wa,r⟩:=p.sl i _ hi
 rw [ha] at ev
 cases ev
 cases e1
 refine⟨by rw [aX4]; exact p.len,p.same,fun b z=>p.wm b z.1,fun j m h=>?_,fun j k y' z b h1 h2 h3 h4=>?_⟩
 ·rcases gA h with ⟨rfl,hl,e⟩ | ⟨hne,h⟩
  ·cases e
   exact⟨_,ha,r.rep (M':=Ms H0 (nQ W a) true) (fun b m=>uI (g:=true) m) (show Ms H0 (nQ W a) true a from ⟨fun z=>z.2 rfl,(p.wm a wa).1⟩)⟩
  ·obtain ⟨u,e,q⟩:=p.sl j m h
   refine⟨u,e,?_⟩
   cases m with
   | sh g y=>exact aM.same q (aC.refl _) fun _ m=>uI m
   | own y=>
    obtain ⟨b,e1,e2,q⟩:=q
    have hb:b ≠ a:=fun z=>by
     subst e1
     rw [z] at e
     exact hne (p.dis j i _ _ a h hi e ha)
    exact⟨b,e1,⟨e2,hb⟩,q.keep (.same (aC.refl _) fun _ m=>uI m) fun _ z=>z⟩
 ·rcases gA h1 with ⟨_,_,e⟩ | ⟨_,h1⟩
  ·cases e
  ·rcases gA h2 with ⟨_,_,e⟩ | ⟨_,h2⟩
   ·cases e
   ·exact p.dis j k _ _ b h1 h2 h3 h4
theorem Ev.off {a:Addr}:Ev W H (nQ W a) H:=fun b u e n=>⟨e,fun z=>n z.1⟩
end
section
variable {X : Cx} {σ : St} {H : Hp} {D : cX} {te : aF} {t u : aN}
noncomputable def cT:aN:=fun D ρ=>D.nx ρ
noncomputable def aE (t u:aN):aN:=fun D ρ=>t { D with nx:=u D } ρ
theorem aq3 (h:LS X cT D σ H):xF D σ H:=by
 obtain ⟨W,ρ,D',px,q,k⟩:=h
 exact k.nx W σ H ρ (Ev.refl _ _) px q
theorem aq4 (h:LS X (aE t u) D σ H):xG (LS X t) (LS X u) D σ H:=by
 obtain ⟨W,ρ,D',px,q,k⟩:=h
 exact⟨W,ρ,_,px,q,fun W' σ' H' ρ' e px' q'=>⟨W',ρ',D',px',q',k.step e⟩,k.rt,k.bk,k.ct⟩
noncomputable def E7:Tg->PV->Bool
 | .fr,_=>true
 | .nw,_=>true
 | _,x=>flat x
noncomputable def E8:Tg->PV->Prop
 | .rd,x=>flat x=true
 | _,_=>True
theorem aq5 {K:PySem.W.Frag}{H0 Hs H:Hp}{W:Addr->Prop}{σ:St}{ρ:bG}{g:Tg}{x:PV}{v:V} (px:PX K H0 W σ ρ Hs) (n:E8 g x) (r:aM K (Mg H0 W Hs g) H v x):aM K (Ms H0 W (E7 g x)) H v x:=by
 cases g with
 | fr=>exact Nw.rep (g:=.fr) px trivial r
 | nw=>exact Nw.rep (g:=.nw) px trivial r
 | sh=>
  show aM K (Ms H0 W (flat x)) H v x
  cases e:flat x with
  | true=>exact r.flat e
  | false=>exact r.same (aC.refl _) fun _ z=>z
 | rd=>exact r.flat n
noncomputable def b8 (i:Nat) (te:aF):aN:=fun D ρ=>te ρ fun x g=>E8 g x/\D.nx (ρ.set i (some (.sh (E7 g x) x)))
theorem uJ {i:Nat} (h:LS X (b8 i te) D σ H):jO (LE X te) (cB i) D σ H:=by
 obtain ⟨W,ρ,D',px,q,k⟩:=h
 refine⟨W,ρ,_,px,q,?_⟩
 rintro v H1 x g s r ⟨n,q⟩
 exact k.nx W _ H1 _ (Ev.same s) ((px.mono s).setSh (aq5 px n r)) q
noncomputable def E9:PV->Bool
 | .lst xs=>flats xs
 | .dK ps=>flats (ps.map (·.2))
 | .dT ps=>flats (ps.map (·.2))
 | _=>false
theorem aq6 {K:PySem.W.Frag}{M:Addr->Prop}{H:Hp}{v:V}{x:PV} (r:aM K M H v x) (o:E9 x=true):∃ a,v = .ref a/\M a/\∀ M',gZ K M' H a x:=by
 cases r with
 | lst m e r=>exact⟨_,rfl,m,fun _=>⟨_,e,r.flat o⟩⟩
 | dK m e q r=>exact⟨_,rfl,m,fun _=>⟨_,e,q,r.flat o⟩⟩
 | dT m e q r=>exact⟨_,rfl,m,fun _=>⟨_,e,q,r.flat o⟩⟩
 | _=>cases o
noncomputable def dQ (i:Nat) (te:aF):aN:=fun D ρ=>te ρ fun x g=>g = .fr/\E9 x=true/\D.nx (ρ.set i (some (.own x)))
theorem F0 {i:Nat} (h:LS X (dQ i te) D σ H):jO (LE X te) (cB i) D σ H:=by
 obtain ⟨W,ρ,D',px,q,k⟩:=h
 refine⟨W,ρ,_,px,q,?_⟩
 rintro v H1 x g s r ⟨rfl,o,q⟩
 obtain ⟨a,rfl,m,w⟩:=aq6 r o
 exact k.nx _ _ H1 _ (Ev.own s m) (px.setOwn s m (w _)) q
noncomputable def qB (i:Nat) (t:aN):aN:=fun D ρ=>∃ x,ρ[i]? = some (some (.own x))/\t D (ρ.set i (some (.sh true x)))
theorem aq7 {i:Nat} (h:LS X (qB i t) D σ H):LS X t D σ H:=by
 obtain ⟨W,ρ,D',px,⟨x,hi,q⟩,k⟩:=h
 obtain ⟨v,ev,a,rfl,wa,r⟩:=px.sl i _ hi
 exact⟨_,_,D',px.freeze hi ev,q,k.step Ev.off⟩
noncomputable def bP (te:aF):aN:=fun D ρ=>te ρ fun x g=>Nw g x/\D.rt x
theorem aq8 (h:LS X (bP te) D σ H):sH (LE X te) D σ H:=by
 obtain ⟨W,ρ,D',px,q,k⟩:=h
 refine⟨W,ρ,_,px,q,?_⟩
 rintro v H1 x g s r ⟨n,q⟩
 exact k.rt v H1 x (px.same.trans s) ((Nw.rep px n r).same (aC.refl _) fun _ z=>z.2) q
noncomputable def Slot.nw:Slot->Prop
 | .own _=>True
 | .sh true _=>True
 | .sh false x=>flat x=true
noncomputable def iY (i:Nat):aN:=fun D ρ=>∃ m,ρ[i]? = some (some m)/\m.nw/\D.rt m.val
theorem aq9 {i:Nat} (h:LS X (iY i) D σ H):sH (iE i) D σ H:=by
 obtain ⟨W,ρ,D',px,⟨m,hi,n,q⟩,k⟩:=h
 obtain ⟨v,ev,r⟩:=px.sl i _ hi
 refine⟨v,ev,k.rt v H _ px.same ?_ q⟩
 cases m with
 | own x=>
  obtain ⟨a,rfl,wa,r⟩:=r
  exact r.rep (fun _ z=>z.2) (px.wm a wa).1
 | sh g x=>
  cases g with
  | true=>exact aM.same r (aC.refl _) fun _ z=>z.2
  | false=>exact aM.flat n r
noncomputable def cU (c:cC) (t u:aN):aN:=fun D ρ=>c ρ fun b=>if b=true then t D ρ else u D ρ
theorem ar0 {c:cC} (h:LS X (cU c t u) D σ H):xH (LT X c) (LS X t) (LS X u) D σ H:=by
 obtain ⟨W,ρ,D',px,q,k⟩:=h
 refine⟨W,ρ,_,px,q,fun b H1 s q1=>?_⟩
 cases b with
 | true=>exact bN ⟨W,ρ,D',px.mono s,by simpa using q1,k.step (Ev.same s)⟩
 | false=>exact bF ⟨W,ρ,D',px.mono s,by simpa using q1,k.step (Ev.same s)⟩
noncomputable def lT (c:cC) (tb:aN):aN:=fun D ρ=>∃ I:Nat->bG->Prop,(∃ m,I m ρ)/\∀ m ρ',I m ρ'->c ρ' fun b=>if b=true then tb { D with nx:=fun ρ2=>∃ m',m' < m/\I m' ρ2,ct:=fun ρ2=>∃ m',m' < m/\I m' ρ2,bk:=D.nx } ρ' else D.nx ρ'
theorem ar1 {c:cC}{tb:aN} (h:LS X (lT c tb) D σ H):xJ (LT X c) (LS X tb) D σ H:=by
 obtain ⟨W,ρ,D',px,⟨I,⟨m0,i0⟩,turn⟩,k⟩:=h
 refine⟨fun m σ2 H2=>∃ W2 ρ2,PX X.K X.H₀ W2 σ2 ρ2 H2/\Ev W H W2 H2/\I m ρ2,⟨m0,W,ρ,px,Ev.refl _ _,i0⟩,?_⟩
 rintro m σ2 H2 ⟨W2,ρ2,px2,e2,i2⟩
 refine⟨W2,ρ2,_,px2,turn m ρ2 i2,fun b H3 s3 q3=>?_⟩
 cases b with
 | true=>
  refine bN ⟨fun σ4 H4=>∃ W4 ρ4,PX X.K X.H₀ W4 σ4 ρ4 H4/\Ev W H W4 H4/\∃ m',m' < m/\I m' ρ4,fun σ4 H4 ⟨W4,ρ4,a,b,m',c,d⟩=>⟨m',c,W4,ρ4,a,b,d⟩,W2,ρ2,_,px2.mono s3,by simpa using q3,?_⟩
  have e3:Ev W H W2 H3:=e2.trans (Ev.same s3)
  exact⟨fun W' σ' H' ρ' e p q=>⟨W',ρ',p,e3.trans e,q⟩,k.rt,fun W' σ' H' ρ' e p q=>k.nx W' σ' H' ρ' (e3.trans e) p q,fun W' σ' H' ρ' e p q=>⟨W',ρ',p,e3.trans e,q⟩⟩
 | false=>exact bF (k.nx W2 σ2 H3 ρ2 (e2.trans (Ev.same s3)) (px2.mono s3) (by simpa using q3))
end
theorem lim {n:Nat} (h:n<=16000000):n<=sizeLine:=aY6 (gM h)
theorem aM.sqT {K:PySem.W.Frag}{M:Addr->Prop}{H:Hp}{v:V}{xs:List PV} (r:aM K M H v (.tup xs)):∃ a us,v = .ref a/\H a=some (.tup us)/\Reps K M H us xs:=by
 cases r with
 | tup e r=>exact⟨_,_,rfl,e,r⟩
theorem aM.sqL {K:PySem.W.Frag}{M:Addr->Prop}{H:Hp}{v:V}{xs:List PV} (r:aM K M H v (.lst xs)):∃ a us,v = .ref a/\M a/\H a=some (.lst us)/\Reps K M H us xs:=by
 cases r with
 | lst m e r=>exact⟨_,_,rfl,m,e,r⟩
theorem iW.sqL {K:PySem.W.Frag}{H:Hp}{a:Addr}{ns:List Int} (h:iW K H a ns):aJ K H a (ns.map V.int):=h.elim (fun z=>.inl (.inr z)) .inr
noncomputable def iZ:PV->Option (List PV)
 | .tup xs=>some xs
 | .lst xs=>some xs
 | .scr ns=>some (intz ns)
 | .kt xs=>some xs
 | _=>none
theorem aM.seq {K:PySem.W.Frag}{M:Addr->Prop}{H:Hp}{v:V}{x:PV}{xs:List PV} (r:aM K M H v x) (e:iZ x=some xs):∃ a us,v = .ref a/\(aJ K H a us ∨ aQ K H a us)/\Reps K M H us xs:=by
 cases r with
 | tup h r=>cases e; exact⟨_,_,rfl,.inr (aQ.of h),r⟩
 | lst m h r=>cases e; exact⟨_,_,rfl,.inl (aJ.of h),r⟩
 | scr h=>cases e; exact⟨_,_,rfl,.inl h.sqL,Reps.intz _⟩
 | kt h r=>cases e; exact⟨_,_,rfl,.inr (.inr h),r⟩
 | _=>cases e
section
variable {X : Cx} {σ : St} {H : Hp} {D : cX} {te ti to : aF} {t u : aN} {Q' : VK}
theorem _root_.PP.PX.updL {K:PySem.W.Frag}{H0:Hp}{W:Addr->Prop}{σ:St}{ρ:bG}{H:Hp}{i:Nat}{a:Addr}{x:PV}{us:List V}{ys:List PV} (p:PX K H0 W σ ρ H) (hi:ρ[i]? = some (some (.own x))) (ha:σ[i]? = some (some (.ref a))) (wa:W a) (r:Reps K (Ms H0 W true) (upd H a (.lst us)) us ys) :
  PX K H0 W σ (ρ.set i (some (.own (.lst ys)))) (upd H a (.lst us)):=p.updOwn hi ha wa rfl (y:=.lst ys) ⟨us,bK,r⟩
noncomputable def iG (i:Nat) (te:aF):aN:=fun D ρ=>∃ xs,ρ[i]? = some (some (.own (.lst xs)))/\te ρ fun x g=>Nw g x/\xs.length < 16000000/\D.nx (ρ.set i (some (.own (.lst (xs ++ [x])))))
theorem ar2 {i:Nat} (h:LS X (iG i te) D σ H):oY (pD X.K "list" zF (iE i) (iF (LE X te) jQ)) D σ H:=by
 obtain ⟨W,ρ,D',px,⟨xs,hi,q⟩,k⟩:=h
 obtain ⟨v,ev,a,rfl,wa,us,ea,r⟩:=px.sl i _ hi
 refine⟨_,ev,jU (aJ.of ea),W,ρ,_,px,q,?_⟩
 rintro w H1 x g s rx ⟨n,hl,q⟩
 have ea1:=s _ _ ea
 refine⟨a,us,w,rfl,rfl,ea1,gM (by rw [r.length]; omega),?_⟩
 refine k.nx W σ _ _ ((Ev.same s).trans (Ev.upd wa)) ((px.mono s).updL hi ev wa ?_) q
 exact ((r.same s fun _ z=>z).append (.cons (Nw.rep px n rx) .nil)).keep (.upd ea1 rfl fun b m=>⟨kL wa m,m⟩)
noncomputable def F1 (K:PySem.W.Frag):V->List V->Hp->VK->Prop:=fun x vs H Q=>zG x vs H Q ∨ C9 K x vs H Q
noncomputable def uK (i:Nat) (te:aF):aN:=fun D ρ=>∃ xs,ρ[i]? = some (some (.own (.lst xs)))/\te ρ fun y g=>∃ ys,(y = .tup ys ∨ y = .lst ys)/\(Nw g y ∨ flats ys=true)/\xs.length+ys.length<=16000000/\D.nx (ρ.set i (some (.own (.lst (xs ++ ys)))))
theorem ar3 {i:Nat} (h:LS X (uK i te) D σ H):oY (pD X.K "list" (F1 X.K) (iE i) (iF (LE X te) jQ)) D σ H:=by
 obtain ⟨W,ρ,D',px,⟨xs,hi,q⟩,k⟩:=h
 obtain ⟨v,ev,a,rfl,wa,us,ea,r⟩:=px.sl i _ hi
 refine⟨_,ev,jU (aJ.of ea),W,ρ,_,px,q,?_⟩
 rintro w H1 y g s ry ⟨ys,hy,n,hl,q⟩
 have ea1:=s _ _ ea
 have key:∀ (zs:List V),Reps X.K (Ms X.H₀ W true) H1 zs ys->D.nx σ (upd H1 a (.lst (us ++ zs))):=fun zs rz=>by
  refine k.nx W σ _ _ ((Ev.same s).trans (Ev.upd wa)) ((px.mono s).updL hi ev wa ?_) q
  exact ((r.same s fun _ z=>z).append rz).keep (.upd ea1 rfl fun b m=>⟨kL wa m,m⟩)
 have lr:=r.length
 rcases hy with rfl | rfl
 ·obtain ⟨b,zs,rfl,eb,rz⟩:=ry.sqT
  have lz:=rz.length
  refine .inr ⟨a,b,us,zs,rfl,rfl,ea1,aQ.of eb,lim (by omega),key zs ?_⟩
  rcases n with n | n
  ·obtain ⟨b',zs',e1,e2,rz'⟩:=(Nw.rep px n ry).sqT
   cases e1; rw [eb] at e2; cases e2; exact rz'
  ·exact rz.flat n
 ·obtain ⟨b,zs,rfl,_,eb,rz⟩:=ry.sqL
  have lz:=rz.length
  refine .inl ⟨a,b,us,zs,rfl,rfl,ea1,eb,lim (by omega),key zs ?_⟩
  rcases n with n | n
  ·obtain ⟨b',zs',e1,_,e2,rz'⟩:=(Nw.rep px n ry).sqL
   cases e1; rw [eb] at e2; cases e2; exact rz'
  ·exact rz.flat n
noncomputable def kM (i:Nat) (tk te:aF):aN:=fun D ρ=>te ρ fun x g=>∃ xs,ρ[i]? = some (some (.own (.lst xs)))/\tk ρ fun y _=>∃ n j,y = .int n/\fL xs.length n=some j/\Nw g x/\D.nx (ρ.set i (some (.own (.lst (xs.set j x)))))
theorem ar4 {i:Nat}{tk:aF} (h:LS X (kM i tk te) D σ H):jO (LE X te) (sJ (iE i) (LE X tk) t8) D σ H:=by
 obtain ⟨W,ρ,D',px,q,k⟩:=h
 refine⟨W,ρ,_,px,q,?_⟩
 rintro w H1 x g s rx ⟨xs,hi,q1⟩
 obtain ⟨v,ev,a,rfl,wa,us,ea,r⟩:=(px.mono s).sl i _ hi
 refine⟨_,ev,W,ρ,_,px.mono s,q1,?_⟩
 rintro kv H2 y gy s2 ry ⟨n,j,rfl,hj,nw,q2⟩
 cases ry
 have ea2:=s2 _ _ ea
 refine⟨a,us,n,j,rfl,rfl,ea2,by rw [r.length]; exact hj,?_⟩
 refine k.nx W σ _ _ ((Ev.same (s.trans s2)).trans (Ev.upd wa)) ((px.mono (s.trans s2)).updL hi ev wa ?_) q2
 exact (Reps.set ((Nw.rep px nw rx).same s2 fun _ z=>z) j (r.same s2 fun _ z=>z)).keep (.upd ea2 rfl fun b m=>⟨kL wa m,m⟩)
noncomputable def uL (i j:Nat):aN:=fun D ρ=>∃ xs y,ρ[i]? = some (some (.own (.lst (xs ++ [y]))))/\D.nx ((ρ.set i (some (.own (.lst xs)))).set j (some (.sh true y)))
theorem Reps.snoc_inv {K:PySem.W.Frag}{M:Addr->Prop}{H:Hp}{us:List V}{xs:List PV}{y:PV} (r:Reps K M H us (xs ++ [y])):∃ vs v,us=vs ++ [v]/\Reps K M H vs xs/\aM K M H v y:=by
 have l:=r.length
 have h1:=r.take xs.length
 have h2:=r.drop xs.length
 rw [List.take_left] at h1
 rw [List.drop_left] at h2
 generalize hd:us.drop xs.length=ds at h2
 cases h2 with
 | cons q t=>
  cases t
  exact⟨_,_,by rw [<- hd,List.take_append_drop],h1,q⟩
theorem ar5 {i j:Nat} (h:LS X (uL i j) D σ H):jO (zD X.K "list" zH (iE i)) (cB j) D σ H:=by
 obtain ⟨W,ρ,D',px,⟨xs,y,hi,q⟩,k⟩:=h
 obtain ⟨v,ev,a,rfl,wa,us,ea,r⟩:=px.sl i _ hi
 obtain ⟨vs,w,rfl,r1,ry⟩:=r.snoc_inv
 refine⟨_,ev,jU (aJ.of ea),a,_,w,rfl,rfl,ea,by simp,?_⟩
 rw [List.dropLast_concat]
 have kp:gY (Ms X.H₀ W true) (Ms X.H₀ W true) H (upd H a (.lst vs)):=.upd ea rfl fun b m=>⟨kL wa m,m⟩
 exact k.nx W _ _ _ (Ev.upd wa) ((px.updL hi ev wa (r1.keep kp)).setSh (ry.keep kp)) q
end
theorem Reps.atI {K:PySem.W.Frag}{M:Addr->Prop}{H:Hp}{us:List V}{xs:List PV}{i:Int}{z:PV} (r:Reps K M H us xs) (h:L2.atI xs i=some z):∃ v,L2.atI us i=some v/\aM K M H v z:=by
 unfold L2.atI at h ⊢
 rw [r.length]
 cases e:fL xs.length i with
 | none=>rw [e] at h; cases h
 | some j=>rw [e] at h; exact r.at h
section
variable {X : Cx} {σ : St} {H : Hp} {Q' : VK} {ta tb te : aF} {tr : cQ}
noncomputable def uM:PV->Tg->PV->Tg->PK->Prop:=fun x g y _ Q=>∃ xs i z,iZ x=some xs/\y = .int i/\L2.atI xs i=some z/\Q z g
theorem ar6:fO X uM (yZ X.K):=by
 rintro W Hs H u v x y g g' Q Q' s n r1 r2 ⟨xs,i,z,e,rfl,hz,q⟩ k
 cases r2
 obtain ⟨a,us,rfl,hs,r⟩:=r1.seq e
 obtain ⟨v,hv,rv⟩:=r.atI hz
 rcases hs with hs | hs
 ·exact .inl ⟨a,us,i,v,rfl,rfl,hs,hv,k v H z g (aC.refl _) rv q⟩
 ·exact .inr (.inl ⟨a,us,i,v,rfl,rfl,hs,hv,k v H z g (aC.refl _) rv q⟩)
noncomputable def uN:PV->Option Nat
 | .tup xs=>some xs.length
 | .lst xs=>some xs.length
 | .scr ns=>some ns.length
 | .dK ps=>some ps.length
 | .kt xs=>some xs.length
 | _=>none
noncomputable def dU:List PV->(PV->Prop)->Prop:=fun xs Q=>∃ x n,xs = [x]/\uN x=some n/\Q (.int n)
theorem Reps.one {K:PySem.W.Frag}{M:Addr->Prop}{H:Hp}{vs:List V}{x:PV} (r:Reps K M H vs [x]):∃ v,vs = [v]/\aM K M H v x:=by
 cases r with
 | cons r t=>cases t; exact⟨_,rfl,r⟩
theorem Reps.two {K:PySem.W.Frag}{M:Addr->Prop}{H:Hp}{vs:List V}{x y:PV} (r:Reps K M H vs [x,y]):∃ v w,vs = [v,w]/\aM K M H v x/\aM K M H w y:=by
 cases r with
 | cons r t=>
  obtain ⟨w,rfl,q⟩:=t.one
  exact⟨_,_,rfl,r,q⟩
theorem ar7:g9 X dU (fun xs H Q=>(∃ p ys,xs = [.ref p]/\(aJ X.K H p ys ∨ aQ X.K H p ys)/\Q (.int ys.length) H) ∨ ∃ a kvs,xs = [V.ref a]/\H a=some (.dK kvs)/\Q (.int kvs.length) H):=by
 rintro H vs xs Q Q' r ⟨x,n,rfl,e,q⟩ k
 obtain ⟨v,rfl,r1⟩:=r.one
 have fin:∀ {m:Nat},m=n->Q' (.int m) H:=fun {m} z=>by rw [z]; exact k _ _ _ (aC.refl _) (.int _) q
 cases r1 with
 | tup h r2=>cases e; exact .inl ⟨_,_,rfl,.inr (aQ.of h),fin r2.length⟩
 | lst m h r2=>cases e; exact .inl ⟨_,_,rfl,.inl (aJ.of h),fin r2.length⟩
 | scr h=>cases e; exact .inl ⟨_,_,rfl,.inl h.sqL,fin (by rw [aS9])⟩
 | kt h r2=>cases e; exact .inl ⟨_,_,rfl,.inr (.inr h),fin r2.length⟩
 | dK m h e' r=>
  cases e
  refine .inr ⟨_,_,rfl,h,fin ?_⟩
  have:=congrArg List.length e'
  rw [aS9,aS9] at this
  exact this
 | _=>cases e
noncomputable def seqT:PV->Option (List PV)
 | .kt _=>none
 | x=>iZ x
noncomputable def F3:List PV->(PV->Prop)->Prop:=fun xs Q=>∃ x ys,xs = [x]/\seqT x=some ys/\flats ys=true/\Q (.tup ys)
theorem ar8:g9 X (fun xs Q=>F3 xs Q/\∀ ns,xs ≠ [.scr ns]) (fun xs H Q=>∃ p ys,xs = [.ref p]/\((aJ X.K H p ys/\∀ l,H l=none->Q (.ref l) (upd H l (.tup ys))) ∨ (aQ X.K H p ys/\Q (.ref p) H))):=by
 rintro H vs xs Q Q' r ⟨⟨x,ys,rfl,e,f,q⟩,nsc⟩ k
 obtain ⟨v,rfl,r1⟩:=r.one
 cases r1 with
 | tup h r2=>cases e; exact⟨_,_,rfl,.inr ⟨aQ.of h,k _ _ _ (aC.refl _) (.tup h (r2.flat f)) q⟩⟩
 | lst m h r2=>cases e; exact⟨_,_,rfl,.inl ⟨aJ.of h,fun l hl=>k _ _ _ (bL hl _) (.tup bK ((r2.flat f).same (bL hl _) fun _ z=>z)) q⟩⟩
 | scr h=>exact absurd rfl (nsc _)
 | _=>cases e
noncomputable def uO:List PV->(PV->Prop)->Prop:=fun xs Q=>∃ ns,xs = [.lst (intz ns)]/\ns.length < 64/\∀ ms:List Int,ms.Perm ns->ms.Pairwise (· <= ·)->Q (.lst (intz ms))
theorem ar9:g9 X uO (B5 X.K):=by
 rintro H vs xs Q Q' r ⟨ns,rfl,hl,q⟩ k
 obtain ⟨v,rfl,r1⟩:=r.one
 obtain ⟨a,us,rfl,_,h,r2⟩:=r1.sqL
 obtain rfl:=r2.ofInts
 exact⟨a,ns,rfl,aJ.of h,hl,fun l ms hl' p o=>k _ _ _ (bL hl' _) (.lst hl' bK (Reps.intz ms)) (q ms p o)⟩
noncomputable def uP:List PV->(PV->Prop)->Prop:=fun xs Q=>∃ bs:List Bool,xs = [.lst (bs.map PV.bl)]/\Q (.bl (bs.all id))
theorem Reps.ofBls {K:PySem.W.Frag}{M:Addr->Prop}{H:Hp}:∀ {ns:List Bool}{us:List V},Reps K M H us (ns.map PV.bl)->us=ns.map V.bl
 | [],_,.nil=>rfl
 | n :: r,_,.cons q t=>by
  cases q
  rw [Reps.ofBls t]; rfl
theorem as0:g9 X uP (fun xs H Q=>∃ (a:Addr) (bs:List Bool),xs = [.ref a]/\aJ X.K H a (bs.map V.bl)/\Q (.bl (bs.all id)) H):=by
 rintro H vs xs Q Q' r ⟨bs,rfl,q⟩ k
 obtain ⟨v,rfl,r1⟩:=r.one
 obtain ⟨a,us,rfl,_,h,r2⟩:=r1.sqL
 obtain rfl:=r2.ofBls
 exact⟨a,bs,rfl,aJ.of h,k _ _ _ (aC.refl _) (.bl _) q⟩
noncomputable def lU:List PV->(PV->Prop)->Prop:=fun xs Q=>∃ i j,xs = [.int i,.int j]/\Q (.int (if j < i then j else i))
noncomputable def kN:List PV->(PV->Prop)->Prop:=fun xs Q=>∃ i j,xs = [.int i,.int j]/\Q (.int (if j > i then j else i))
theorem as1:g9 X lU (fun xs H Q=>∃ i j,xs = [.int i,.int j]/\Q (.int (if j < i then j else i)) H):=by
 rintro H vs xs Q Q' r ⟨i,j,rfl,q⟩ k
 obtain ⟨v,w,rfl,r1,r2⟩:=r.two
 cases r1; cases r2
 exact⟨i,j,rfl,k _ _ _ (aC.refl _) (.int _) q⟩
theorem as2:g9 X kN (fun xs H Q=>∃ i j,xs = [.int i,.int j]/\Q (.int (if j > i then j else i)) H):=by
 rintro H vs xs Q Q' r ⟨i,j,rfl,q⟩ k
 obtain ⟨v,w,rfl,r1,r2⟩:=r.two
 cases r1; cases r2
 exact⟨i,j,rfl,k _ _ _ (aC.refl _) (.int _) q⟩
noncomputable abbrev bH:=List PV->(PV->Prop)->Prop
noncomputable def nR (K:PySem.W.Frag) (p:bH):Sp:=fun vs H Q _=>∃ xs Qp,Reps K (fun _=>True) H vs xs/\p xs Qp/\∀ v H' x,aC H H'->aM K (fun a=>H a=none) H' v x->Qp x->Q v H'
theorem as3 {p:bH}{E:XK} (h:LE X (aB p tr) σ H Q'):sV (nR X.K p) [] E (LA X tr) σ H Q':=by
 obtain ⟨W,ρ,Q,px,q,k⟩:=h
 refine⟨W,ρ,_,px,q,fun vs H1 xs s1 r1 q1=>⟨_,_,by rw [ba3]; exact r1.any,q1,fun v H' x s2 r2 q2=>k v H' x .fr (s1.trans s2) (r2.same (aC.refl _) fun _ z=>s1.free z) q2⟩⟩
noncomputable def as4:PV->Option Bool
 | .non=>some false
 | .bl b=>some b
 | .int i=>some (i != 0)
 | .tup xs=>some (!xs.isEmpty)
 | .lst xs=>some (!xs.isEmpty)
 | .dK ps=>some (!ps.isEmpty)
 | _=>none
noncomputable def j3 (t:aF):cC:=fun ρ Q=>t ρ fun x _=>∃ b,as4 x=some b/\Q b
theorem uQ {α β:Type}:∀ {l:List α}{m:List β},l.length=m.length->l.isEmpty=m.isEmpty
 | [],[],_=>rfl
 | _ :: _,_ :: _,_=>rfl
theorem as5 {t:aF}{Qb:Bool->Hp->Prop} (h:LT X (j3 t) σ H Qb):LE X t σ H fun x H'=>∃ k,sS X.K x H' k/\Qb k H':=by
 obtain ⟨W,ρ,Q,px,q,k⟩:=h
 refine⟨W,ρ,_,px,q,?_⟩
 rintro v H1 x g s r ⟨b,e,q⟩
 refine⟨b,?_,k _ _ s q⟩
 cases r with
 | non=>cases e; rfl
 | bl b=>cases e; rfl
 | int i=>cases e; rfl
 | str x=>cases e
 | tup h r=>cases e; exact .inr (.inl ⟨_,aQ.of h,by rw [uQ r.length]⟩)
 | lst m h r=>cases e; exact .inl ⟨_,aJ.of h,by rw [uQ r.length]⟩
 | dK m h e' r=>
  cases e
  refine .inr (.inr ⟨_,h,?_⟩)
  have:=congrArg List.length e'
  rw [aS9,aS9] at this
  rw [uQ this]
 | dT m h e' r=>cases e
 | scr h=>cases e
 | kt h r=>cases e
 | exc h e' c=>cases e
 | fK h e' r=>cases e
 | fT h e' r=>cases e
noncomputable def uR:PV->Bool
 | .non=>true
 | _=>false
noncomputable def uS (neg:Bool):PV->Tg->PV->Tg->PK->Prop:=fun x _ y _ Q=>y = .non/\Q (.bl (if neg=true then !uR x else uR x)) .fr
theorem as6 {K:PySem.W.Frag}{M:Addr->Prop}{H:Hp}{v:V}{x:PV} (r:aM K M H v x):decide (v = .non)=uR x:=by
 cases r <;> rfl
theorem as7:fO X (uS false) (fun x y H Q=>y = .non/\Q (.bl (decide (x = .non))) H):=by
 rintro W Hs H u v x y g g' Q Q' s n r1 r2 ⟨rfl,q⟩ k
 cases r2
 exact⟨rfl,by rw [as6 r1]; exact k _ _ _ _ (aC.refl _) (.bl _) q⟩
end
structure qD (K:PySem.W.Frag) (H0:Hp) (W:Addr->Prop) (g:Bool) (H1:Hp) (J:It) (xs:List PV):Prop where
 go:∀ W' H' i,Ev W H1 W' H'->i < xs.length->J.go i H'
 yld:∀ W' H' i v H2,Ev W H1 W' H'->J.yld i H' v H2->i < xs.length->aC H' H2/\∃ x,xs[i]? = some x/\aM K (Ms H0 W' g) H2 v x
 stop:∀ W' H',Ev W H1 W' H'->J.stop xs.length H'
noncomputable abbrev fA:=bG->(List PV->Bool->Prop)->Prop
noncomputable def LI (X:Cx) (t:fA):TI:=fun σ H R=>∃ (W:Addr->Prop) (ρ:bG) (Q:List PV->Bool->Prop),PX X.K X.H₀ W σ ρ H/\t ρ Q/\∀ J H1 xs g,aC H H1->qD X.K X.H₀ W g H1 J xs->Q xs g->R J H1
theorem Ev.keep {H0:Hp}{W W':Addr->Prop}{H H':Hp}{g:Bool} (e:Ev W H W' H') (tw:∀ a,W a->∃ o,H a=some o/\iX o=true):gY (Ms H0 W g) (Ms H0 W' g) H H':=by
 have m:∀ {a:Addr}{o:HO},Ms H0 W g a->H a=some o->Ms H0 W' g a/\H' a=some o:=fun {a o} z h=>by
  cases g with
  | true=>
   obtain ⟨h1,h2⟩:=e a _ h z.1
   exact⟨⟨h2,z.2⟩,h1⟩
  | false=>
   obtain ⟨h1,h2⟩:=e a _ h z
   exact⟨h2,h1⟩
 refine⟨fun a _ z h=>m z h,fun a _ z h=>m z h,fun a _ z h=>m z h,fun a _ h=>(e a _ h fun z=>?_).1,fun a _ _ h=>(e a _ h fun z=>?_).1⟩
 ·obtain ⟨o,h',mu⟩:=tw a z; rw [h] at h'; cases h'; cases mu
 ·obtain ⟨o,h',mu⟩:=tw a z; rw [h] at h'; cases h'; cases mu
section
variable {X : Cx} {σ : St} {H : Hp} {te : aF} {tr : cQ} {R : It → Hp → Prop}
noncomputable def F4 (K:PySem.W.Frag) (tl:TE):TI:=fun σ H R=>tl σ H fun x H1=>∃ a,x = .ref a/\((∃ xs,aJ K H1 a xs/\R (lH K a) H1) ∨ (∃ xs,aQ K H1 a xs/\R (jP K a) H1))
noncomputable def uT:Tg->List PV->Bool
 | .fr,_=>true
 | .nw,_=>true
 | _,xs=>flats xs
noncomputable def cL (te:aF):fA:=fun ρ Q=>te ρ fun x g=>∃ xs,iZ x=some xs/\(g = .rd->flat x=true)/\Q xs (uT g xs)
theorem F5 {K:PySem.W.Frag}{H0:Hp}{W:Addr->Prop}{g:Bool}{H1:Hp}{a:Addr}{us:List V}{xs:List PV} (tw:∀ a,W a->∃ o,H1 a=some o/\iX o=true) (ha:∀ W' H',Ev W H1 W' H'->aJ K H' a us) (r:Reps K (Ms H0 W g) H1 us xs):qD K H0 W g H1 (lH K a) xs:=by
 have lr:=r.length
 refine⟨fun W' H' i e hi=>⟨us,us[i]'(by omega),ha W' H' e,by simp⟩,fun W' H' i v H2 e y hi=>?_,fun W' H' e=>⟨us,ha W' H' e,by omega⟩⟩
 obtain ⟨rfl,y⟩:=y
 obtain ⟨x,hx,rx⟩:=r.get (y us (ha W' _ e))
 exact⟨aC.refl _,x,hx,rx.keep (e.keep tw)⟩
theorem F6 {K:PySem.W.Frag}{H0:Hp}{W:Addr->Prop}{g:Bool}{H1:Hp}{a:Addr}{us:List V}{xs:List PV} (tw:∀ a,W a->∃ o,H1 a=some o/\iX o=true) (ha:∀ W' H',Ev W H1 W' H'->aQ K H' a us) (r:Reps K (Ms H0 W g) H1 us xs):qD K H0 W g H1 (jP K a) xs:=by
 have lr:=r.length
 refine⟨fun W' H' i e hi=>⟨us,us[i]'(by omega),ha W' H' e,by simp⟩,fun W' H' i v H2 e y hi=>?_,fun W' H' e=>⟨us,ha W' H' e,by omega⟩⟩
 obtain ⟨rfl,y⟩:=y
 obtain ⟨x,hx,rx⟩:=r.get (y us (ha W' _ e))
 exact⟨aC.refl _,x,hx,rx.keep (e.keep tw)⟩
theorem nS {K:PySem.W.Frag}{H0 Hs H:Hp}{W:Addr->Prop}{σ:St}{ρ:bG}{g:Tg}{us:List V}{xs:List PV} (px:PX K H0 W σ ρ Hs) (hg:g = .rd->flats xs=true) (r:Reps K (Mg H0 W Hs g) H us xs):Reps K (Ms H0 W (uT g xs)) H us xs:=by
 cases g with
 | fr=>exact r.same (aC.refl _) fun _ z=>px.new z
 | nw=>exact r.same (aC.refl _) fun _ z=>z
 | sh=>
  show Reps K (Ms H0 W (flats xs)) H us xs
  cases e:flats xs with
  | true=>exact r.flat e
  | false=>exact r.same (aC.refl _) fun _ z=>z
 | rd=>exact r.flat (hg rfl)
theorem as8 (h:LI X (cL te) σ H R):F4 X.K (LE X te) σ H R:=by
 obtain ⟨W,ρ,Q,px,q,k⟩:=h
 refine⟨W,ρ,_,px,q,?_⟩
 rintro v H1 x g s r ⟨xs,e,hg,q⟩
 have px1:=px.mono s
 have tw:∀ a,W a->∃ o,H1 a=some o/\iX o=true:=fun a z=>(px1.wm a z).2
 cases r with
 | tup h r=>
  cases e
  refine⟨_,rfl,.inr ⟨_,aQ.of h,k _ _ _ _ s (F6 tw (fun W' H' e=>aQ.of (e _ _ h fun z=>?_).1) (nS px (fun z=>by have:=hg z; unfold flat at this; exact this) r)) q⟩⟩
  obtain ⟨o,h',mu⟩:=tw _ z; rw [h] at h'; cases h'; cases mu
 | @lst a us xs' m h r=>
  cases e
  have wa : ¬ W a:=by
   cases g with
   | fr=>exact (px.new m).1
   | nw=>exact m.1
   | sh=>exact m
   | rd=>have:=hg rfl; unfold flat at this; cases this
  exact⟨_,rfl,.inl ⟨_,aJ.of h,k _ _ _ _ s (F5 tw (fun W' H' e=>aJ.of (e _ _ h wa).1) (nS px (fun z=>by have:=hg z; unfold flat at this; cases this) r)) q⟩⟩
 | scr h=>
  cases e
  refine⟨_,rfl,.inl ⟨_,h.sqL,k _ _ _ _ s (F5 tw (fun W' H' e=>(iW.keep (fun a o u hz=>(e _ _ hz fun z=>?_).1) h).sqL) (nS (g:=g) px (fun z=>dB _) (Reps.intz _))) q⟩⟩
  obtain ⟨o,h',mu⟩:=tw _ z; rw [hz] at h'; cases h'; cases mu
 | kt h r=>
  cases e
  exact⟨_,rfl,.inr ⟨_,.inr h,k _ _ _ _ s (F6 tw (fun W' H' e=>.inr h) (nS px (fun z=>by have:=hg z; unfold flat at this; exact this) r)) q⟩⟩
 | _=>cases e
noncomputable def dG (lo:Int) (n:Nat):List PV:=(List.range n).map fun (i:Nat)=>PV.int (lo+(i:Int))
theorem eQ (lo:Int) (n:Nat):(dG lo n).length=n:=by unfold dG; rw [aS9,List.length_range]
theorem uU {lo:Int}{n i:Nat} (h:i < n):(dG lo n)[i]? = some (.int (lo+i)):=by unfold dG; rw [aT7,List.getElem?_range h]; rfl
noncomputable def j4 (te:aF):fA:=fun ρ Q=>te ρ fun x _=>∃ j:Int,x = .int j/\-1000000<=j/\j<=1000000/\Q (dG 0 j.toNat) true
noncomputable def qE (ta tb:aF):fA:=fun ρ Q=>ta ρ fun x _=>tb ρ fun y _=>∃ i j:Int,x = .int i/\y = .int j/\(-1000000<=i/\i<=1000000/\-1000000<=j/\j<=1000000)/\Q (dG i (j - i).toNat) true
theorem F7 {K:PySem.W.Frag}{H0:Hp}{W:Addr->Prop}{H1:Hp} (lo:Int) (n:Nat):qD K H0 W true H1 (mS lo n) (dG lo n):=by
 refine⟨fun W' H' i e hi=>by rw [eQ] at hi; exact hi,fun W' H' i v H2 e y hi=>?_,fun W' H' e=>by show n<=(dG lo n).length; rw [eQ]; exact aT2 _⟩
 rw [eQ] at hi
 obtain ⟨rfl,rfl⟩:=y
 exact⟨aC.refl _,_,uU hi,.int _⟩
theorem as9 (h:LI X (j4 te) σ H R):xO (iF (LE X te) jQ) σ H R:=by
 obtain ⟨W,ρ,Q,px,q,k⟩:=h
 refine⟨W,ρ,_,px,q,?_⟩
 rintro v H1 x g s r ⟨j,rfl,h1,h2,q⟩
 cases r
 exact⟨j,rfl,by omega,by omega,k _ _ _ _ s (F7 0 j.toNat) q⟩
theorem at0 {ta tb:aF} (h:LI X (qE ta tb) σ H R):xP (iF (LE X ta) (iF (LE X tb) jQ)) σ H R:=by
 obtain ⟨W,ρ,Q,px,q,k⟩:=h
 refine⟨W,ρ,_,px,q,fun v H1 x g s r q=>⟨W,ρ,_,px.mono s,q,?_⟩⟩
 rintro w H2 y g' s2 r2 ⟨i,j,rfl,rfl,h,q⟩
 cases r; cases r2
 exact⟨i,j,rfl,by omega,k _ _ _ _ (s.trans s2) (F7 i (j - i).toNat) q⟩
end
noncomputable abbrev jV:=PV->Bool->bG->(bG->Prop)->Prop
noncomputable def nT (K:PySem.W.Frag) (own:Nat->Prop) (p:jV) (t:TG):Prop:=∀ (H0:Hp) (W:Addr->Prop) (σ:St) (ρ:bG) (H:Hp) (v:V) (x:PV) (g:Bool) (Q:bG->Prop) (Q':St->Hp->Prop),
 PX K H0 W σ ρ H->aM K (Ms H0 W g) H v x->p x g ρ Q->(∀ σ' ρ',PX K H0 W σ' ρ' H->(∀ i,¬ own i->σ'[i]? = σ[i]?)->σ'.length=σ.length->Q ρ'->Q' σ' H)->t v σ H Q'
noncomputable def bQ (i:Nat):jV:=fun x g ρ Q=>Q (ρ.set i (some (.sh (g || flat x) x)))
theorem qF {K:PySem.W.Frag}{H0 H:Hp}{W:Addr->Prop}{v:V}{x:PV}{g:Bool} (r:aM K (Ms H0 W g) H v x):aM K (Ms H0 W (g || flat x)) H v x:=by
 cases g with
 | true=>exact r
 | false=>
  show aM K (Ms H0 W (flat x)) H v x
  cases e:flat x with
  | true=>exact r.flat e
  | false=>exact r
theorem nU (K:PySem.W.Frag) (i:Nat):nT K (· = i) (bQ i) (cB i):=by
 intro H0 W σ ρ H v x g Q Q' px r q k
 exact k _ _ (px.setSh (qF r)) (fun j hj=>by rw [aW4 (Ne.symm hj)]) (aX4 ..) q
noncomputable def fQ (i j:Nat):jV:=fun x g ρ Q=>∃ y z,x = .tup [y,z]/\Q ((ρ.set i (some (.sh (g || flat y) y))).set j (some (.sh (g || flat z) z)))
theorem qG (K:PySem.W.Frag) (i j:Nat):nT K (fun k=>k=i ∨ k=j) (fQ i j) (jN K 2 (eW (cB i) (eW (cB j) jM))):=by
 intro H0 W σ ρ H v x g Q Q' px r q k
 obtain ⟨y,z,rfl,q⟩:=q
 obtain ⟨a,us,rfl,h,r⟩:=r.sqT
 obtain ⟨u1,u2,rfl,r1,r2⟩:=r.two
 refine⟨a,_,rfl,aQ.of h,rfl,u1,_,rfl,u2,_,rfl,rfl,k _ _ ((px.setSh (qF r1)).setSh (qF r2)) (fun k hk=>?_) (by rw [aX4,aX4]) q⟩
 rw [aW4 (fun e=>hk (.inr e.symm)),aW4 (fun e=>hk (.inl e.symm))]
section
variable {X : Cx} {σ : St} {H : Hp} {D : cX}
noncomputable def eB (ti:fA) (p:jV) (tb:aN):aN:=fun D ρ=>ti ρ fun xs g=>∃ I:Nat->bG->Prop,I 0 ρ/\(∀ i x ρ',xs[i]? = some x->I i ρ'->p x g ρ' fun ρ2=>tb { D with nx:=I (i+1),ct:=I (i+1),bk:=D.nx } ρ2)/\∀ ρ',I xs.length ρ'->D.nx ρ'
theorem at2 {ti:fA}{p:jV}{g:TG}{tb:aN}{own:Nat->Prop} (hg:nT X.K own p g) (h:LS X (eB ti p tb) D σ H):xQ (LI X ti) g (LS X tb) D σ H:=by
 obtain ⟨W,ρ,D',px,q,k⟩:=h
 refine⟨W,ρ,_,px,q,?_⟩
 rintro J H1 xs gb s it ⟨I,i0,turn,fin⟩
 refine⟨fun i m σ2 H2=>m=xs.length - i/\i<=xs.length/\∃ W2 ρ2,PX X.K X.H₀ W2 σ2 ρ2 H2/\Ev W H1 W2 H2/\I i ρ2,⟨xs.length,by omega,aX6 _,W,ρ,px.mono s,Ev.refl _ _,i0⟩,?_⟩
 rintro i m σ2 H2 ⟨rfl,hi,W2,ρ2,px2,e2,i2⟩
 have e0:Ev W H W2 H2:=(Ev.same s).trans e2
 by_cases hlt:i < xs.length
 ·refine .inr ⟨it.go W2 H2 i e2 hlt,fun σ3 H3=>∃ W3 ρ3,PX X.K X.H₀ W3 σ3 ρ3 H3/\Ev W H1 W3 H3/\I (i+1) ρ3,fun σ3 H3 ⟨W3,ρ3,a,b,c⟩=>⟨xs.length - (i+1),by omega,rfl,hlt,W3,ρ3,a,b,c⟩,fun v H3 y=>?_⟩
  obtain ⟨s3,x,hx,rx⟩:=it.yld W2 H2 i v H3 e2 y hlt
  refine hg X.H₀ W2 σ2 ρ2 H3 v x gb _ _ (px2.mono s3) rx (turn i x ρ2 hx i2) fun σ4 ρ4 px4 _ _ q4=>?_
  have e3:Ev W H1 W2 H3:=e2.trans (Ev.same s3)
  have e3':Ev W H W2 H3:=e0.trans (Ev.same s3)
  exact⟨W2,ρ4,_,px4,q4,fun W' σ' H' ρ' e p q=>⟨W',ρ',p,e3.trans e,q⟩,k.rt,fun W' σ' H' ρ' e p q=>k.nx W' σ' H' ρ' (e3'.trans e) p q,fun W' σ' H' ρ' e p q=>⟨W',ρ',p,e3.trans e,q⟩⟩
 ·have e:i=xs.length:=by omega
  subst e
  exact .inl ⟨it.stop W2 H2 e2,k.nx W2 σ2 H2 ρ2 e0 px2 (fin ρ2 i2)⟩
end
noncomputable def lV (fr:List (Option Nat)) (ρ:bG):bG:=fr.map fun o=>o.bind fun j=>(ρ[j]?).join.map fun m=>Slot.sh false m.val
noncomputable def kO (D:Addr):Addr->Prop:=fun a=>a=D
theorem at3 {K:PySem.W.Frag}{H0:Hp}{W:Addr->Prop}{σ:St}{ρ:bG}{H1 H':Hp}{D:Addr}{acc:List V}{fr:List (Option Nat)} (px:PX K H0 W σ ρ H1) (hD:H1 D=none) (s:aC H1 H') (ha:H' D=some (.lst acc)) :
  PX K H1 (kO D) (fM fr σ) (lV fr ρ) H':=by
 have old:∀ {a:Addr}{o:HO},H1 a=some o->a ≠ D:=fun {a o} e z=>by rw [z,hD] at e; cases e
 refine⟨by unfold fM lV; rw [aS9,aS9],s,fun a z=>by cases z; exact⟨hD,_,ha,rfl⟩,fun i m h=>?_,fun i j x y a h1=>?_⟩
 ·unfold lV at h
  rw [aT7] at h
  cases ef:fr[i]? with
  | none=>rw [ef] at h; cases h
  | some o=>
   rw [ef] at h
   cases o with
   | none=>cases h
   | some j=>
    have h:some ((ρ[j]?).join.map fun m=>Slot.sh false m.val)=some (some m):=h
    cases er:ρ[j]? with
    | none=>rw [er] at h; cases h
    | some o=>
     rw [er] at h
     cases o with
     | none=>cases h
     | some m0=>
      cases h
      obtain ⟨v,ev,r⟩:=px.sl j m0 er
      refine⟨v,?_,?_⟩
      ·unfold fM
       rw [aT7,ef]
       show some ((σ[j]?).join)=_
       rw [ev]; rfl
      ·have r':aM K (fun _=>True) H1 v m0.val:=(E2 (Hs:=H1) r).same (aC.refl _) fun _ _=>trivial
       exact r'.keep ⟨fun a _ _ e=>⟨old e,s _ _ e⟩,fun a _ _ e=>⟨old e,s _ _ e⟩,fun a _ _ e=>⟨old e,s _ _ e⟩,fun _ _ e=>s _ _ e,fun _ _ _ e=>s _ _ e⟩
 ·unfold lV at h1
  rw [aT7] at h1
  cases ef:fr[i]? with
  | none=>rw [ef] at h1; cases h1
  | some o=>
   rw [ef] at h1
   cases o with
   | none=>cases h1
   | some j=>
    have h1:some ((ρ[j]?).join.map fun m=>Slot.sh false m.val)=some (some (Slot.own x)):=h1
    cases er:ρ[j]? with
    | none=>rw [er] at h1; cases h1
    | some o=>
     rw [er] at h1
     cases o with
     | none=>cases h1
     | some m0=>cases h1
section
variable {X : Cx} {σ : St} {H : Hp} {Q' : VK}
noncomputable abbrev _root_.L2.Cx.frm (X:Cx) (H1:Hp):Cx:={ X with H₀:=H1 }
noncomputable def cD (ti:fA) (fr:List (Option Nat)) (p:jV) (tc:cC) (te:aF):aF:=fun ρ Q=>ti ρ fun xs g=>xs.length<=16000000/\∃ I:Nat->List PV->Prop,I 0 []/\
 (∀ i x acc,xs[i]? = some x->I i acc->p x false (lV fr ρ) fun ρ2=>tc ρ2 fun b=>if b=true then te ρ2 fun y gy=>Nw gy y/\I (i+1) (acc ++ [y]) else I (i+1) acc)/\∀ acc,I xs.length acc->Q (.lst acc) .fr
theorem kQ {ti:fA}{fr:List (Option Nat)}{p:jV}{g:TG}{tc:cC}{te:aF}{own:Nat->Prop} (hg:nT X.K own p g) (ho:∀ i,own i->fr[i]? = some none) (h:LE X (cD ti fr p tc te) σ H Q') :
  tS (LI X ti) fr (fun _=>g) (fun H1=>LT (X.frm H1) tc) (fun H1=>LE (X.frm H1) te) σ H Q':=by
 obtain ⟨W,ρ,Q,px,q,k⟩:=h
 refine⟨W,ρ,_,px,q,?_⟩
 rintro J H1 xs gb s it ⟨hl,I,i0,turn,fin⟩ D hD
 have px1:=px.mono s
 refine⟨fun i m acc H'=>m=xs.length - i/\i<=xs.length/\aC H1 H'/\H' D=some (.lst acc)/\∃ ys,Reps X.K (Ms H1 (kO D) true) H' acc ys/\ys.length<=i/\I i ys,⟨xs.length,by omega,aX6 _,bL hD _,bK,[],.nil,aT2 _,i0⟩,?_⟩
 rintro i m acc H' ⟨rfl,hi,sm,ha,ys,ry,hy,iy⟩
 refine⟨ha,?_⟩
 have ev:Ev W H1 (lS W D) H':=Ev.own sm hD
 by_cases hlt:i < xs.length
 ·refine .inr ⟨it.go _ H' i ev hlt,fun v H2 y=>?_⟩
  obtain ⟨s2,x,hx,rx⟩:=it.yld _ H' i v H2 ev y hlt
  have ha2:=s2 _ _ ha
  have pxb:PX X.K H1 (kO D) (fM fr σ) (lV fr ρ) H2:=at3 px1 hD (sm.trans s2) ha2
  have rx':aM X.K (Ms H1 (kO D) false) H2 v x:=rx.same (aC.refl _) fun a z=>by
   cases gb with
   | true=>exact fun e=>z.1 (.inr e)
   | false=>exact fun e=>z (.inr e)
  refine hg H1 (kO D) _ _ H2 v x false _ _ pxb rx' (turn i x ys hx iy) fun σ2 ρ2 px2 hown hlen q2=>⟨⟨hlen.symm,fun j w e=>?_⟩,?_⟩
  ·by_cases oj:own j
   ·have:=ho j oj
    unfold fM at e
    rw [aT7,this] at e
    cases e
   ·rw [hown j oj]; exact e
  ·refine⟨kO D,ρ2,_,px2,q2,fun b H4 s4 q4=>?_⟩
   have ha4:=s4 _ _ ha2
   have sm4:=(sm.trans s2).trans s4
   cases b with
   | false=>
    refine bF ⟨xs.length - (i+1),by omega,rfl,hlt,sm4,ha4,ys,ry.same (s2.trans s4) fun _ z=>z,by omega,by simpa using q4⟩
   | true=>
    refine bN ⟨kO D,ρ2,_,px2.mono s4,by simpa using q4,?_⟩
    rintro w H5 y gy s5 ryy ⟨nw,q5⟩
    have ha5:=s5 _ _ ha4
    have lr:=ry.length
    refine⟨ha5,gM (by omega),xs.length - (i+1),by omega,rfl,hlt,fun b o e=>?_,bK,ys ++ [y],?_,by rw [aU6,aW5]; omega,q5⟩
    ·rw [aZ (fun z=>by rw [z,hD] at e; cases e)]
     exact s5 _ _ (sm4 _ _ e)
    ·exact ((ry.same ((s2.trans s4).trans s5) fun _ z=>z).append (.cons (Nw.rep (px2.mono s4) nw ryy) .nil)).keep (.upd ha5 rfl fun b m=>⟨m.1,m⟩)
 ·have e:i=xs.length:=by omega
  subst e
  refine .inl ⟨it.stop _ H' ev,k _ H' _ .fr (s.trans sm) (.lst (s.free hD) ha (ry.same (aC.refl _) fun _ z=>s.free z.2)) (fin ys iy)⟩
noncomputable def cM:cC:=fun _ Q=>Q true
theorem at5 {Qb:Bool->Hp->Prop} (h:LT X cM σ H Qb):tQ σ H Qb:=by
 obtain ⟨W,ρ,Q,px,q,k⟩:=h
 exact k _ _ (aC.refl _) q
end
section
variable {κ : Type} [DecidableEq κ]
noncomputable def cG (ps:List (κ × PV)) (k:κ):Option PV:=(ps.find? fun p=>decide (p.1=k)).map (·.2)
noncomputable def fB (ps:List (κ × PV)) (k:κ) (x:PV):List (κ × PV):=if (ps.any fun p=>decide (p.1=k))=true then ps.map (fun p=>if p.1=k then (p.1,x) else p) else ps ++ [(k,x)]
variable {K : PySem.W.Frag} {M : Addr → Prop} {H : Hp}
theorem j5 (k:κ):∀ {kvs:List (κ × V)}{ps:List (κ × PV)},kvs.map (·.1)=ps.map (·.1)->Reps K M H (kvs.map (·.2)) (ps.map (·.2))->(cG ps k=none->eZ kvs k=none)/\∀ x,cG ps k=some x->∃ v,eZ kvs k=some v/\aM K M H v x
 | [],[],_,_=>⟨fun _=>rfl,fun x h=>by cases h⟩
 | [],_ :: _,e,_=>by cases e
 | _ :: _,[],e,_=>by cases e
 | (k1,v) :: kvs,(k2,x) :: ps,e,r=>by
  injection e with e1 e2
  have e1:k1=k2:=e1
  subst e1
  cases r with
  | cons r t=>
   obtain ⟨h1,h2⟩:=j5 k e2 t
   unfold cG eZ at h1 h2 ⊢
   by_cases e:k1=k
   ·simp only [bc2,e,decide_true,Option.map_some]
    exact⟨fun z=>(by cases z),fun y z=>(by cases z; exact⟨v,rfl,r⟩)⟩
   ·simp only [bc2,e,decide_false]
    exact⟨h1,h2⟩
theorem at6 (k:κ) {kvs:List (κ × V)}{ps:List (κ × PV)} (e:kvs.map (·.1)=ps.map (·.1)):(kvs.any fun p=>decide (p.1=k))=ps.any fun p=>decide (p.1=k):=by
 have h1:(kvs.any fun p=>decide (p.1=k))=(kvs.map (·.1)).any fun z=>decide (z=k):=by rw [List.any_map]; rfl
 have h2:(ps.any fun p=>decide (p.1=k))=(ps.map (·.1)).any fun z=>decide (z=k):=by rw [List.any_map]; rfl
 rw [h1,h2,e]
theorem F8 (k:κ) {w:V}{y:PV} (q:aM K M H w y):∀ {kvs:List (κ × V)}{ps:List (κ × PV)},kvs.map (·.1)=ps.map (·.1)->Reps K M H (kvs.map (·.2)) (ps.map (·.2))->
  (kvs.map fun kv=>if kv.1=k then (kv.1,w) else kv).map (·.1)=(ps.map fun kv=>if kv.1=k then (kv.1,y) else kv).map (·.1)/\Reps K M H ((kvs.map fun kv=>if kv.1=k then (kv.1,w) else kv).map (·.2)) ((ps.map fun kv=>if kv.1=k then (kv.1,y) else kv).map (·.2))
 | [],[],_,_=>⟨rfl,.nil⟩
 | [],_ :: _,e,_=>by cases e
 | _ :: _,[],e,_=>by cases e
 | (k1,v) :: kvs,(k2,x) :: ps,e,r=>by
  injection e with e1 e2
  have e1:k1=k2:=e1
  subst e1
  cases r with
  | cons r t=>
   obtain ⟨h1,h2⟩:=F8 k q e2 t
   by_cases e:k1=k
   ·simp only [aV5,e,if_true]
    exact⟨by rw [h1],.cons q h2⟩
   ·simp only [aV5,e,aZ7]
    exact⟨by rw [h1],.cons r h2⟩
theorem at7 (k:κ) {w:V}{y:PV} (q:aM K M H w y) {kvs:List (κ × V)}{ps:List (κ × PV)} (e:kvs.map (·.1)=ps.map (·.1)) (r:Reps K M H (kvs.map (·.2)) (ps.map (·.2))) :
  (dR kvs k w).map (·.1)=(fB ps k y).map (·.1)/\Reps K M H ((dR kvs k w).map (·.2)) ((fB ps k y).map (·.2)):=by
 unfold dR fB
 rw [at6 k e]
 split
 ·exact F8 k q e r
 ·rw [aV0,aV0,aV0,aV0,e]
  exact⟨rfl,r.append (.cons q .nil)⟩
end
noncomputable def kP:aG->PV
 | .inl i=>.int i
 | .inr x=>.str x
theorem uV {K:PySem.W.Frag}{M:Addr->Prop}{H:Hp}{v:V}{k:aG} (r:aM K M H v (kP k)):v=kV k:=by
 cases k with
 | inl i=>cases r; rfl
 | inr x=>cases r; rfl
theorem F9 {K:PySem.W.Frag}{M:Addr->Prop}{H:Hp}:∀ {ks:List aG}{us:List V},Reps K M H us (ks.map kP)->us=ks.map kV
 | [],_,.nil=>rfl
 | k :: r,_,.cons q t=>by rw [uV q,F9 t]; rfl
noncomputable def G0:PV->PV
 | .fK ps=>.dK ps
 | .fT ps=>.dT ps
 | x=>x
noncomputable def G1 (x y:PV) (o:Option PV):Prop:=(∃ ps k,G0 x = .dK ps/\y=kP k/\o=cG ps k) ∨ (∃ ps k,G0 x = .dT ps/\y = .tup (k.map kP)/\o=cG ps k)
theorem G2 {K:PySem.W.Frag}{M M2:Addr->Prop}{H:Hp}{v w:V}{x y:PV}{o:Option PV} (h:G1 x y o) (rx:aM K M H v x) (ry:aM K M2 H w y):∃ a o',v = .ref a/\gW H a w o'/\(o=none->o'=none)/\∀ z,o=some z->∃ u,o'=some u/\aM K M H u z:=by
 rcases h with ⟨ps,k,ex,rfl,rfl⟩ | ⟨ps,k,ex,rfl,rfl⟩
 ·obtain rfl:=uV ry
  cases rx with
  | dK m h e r=>cases ex; exact⟨_,_,rfl,gW.k h,(j5 k e r).1,(j5 k e r).2⟩
  | fK h e r=>cases ex; exact⟨_,_,rfl,.inl ⟨_,k,.inr ⟨_,h⟩,rfl,rfl⟩,(j5 k e r).1,(j5 k e r).2⟩
  | _=>cases ex
 ·obtain ⟨b,us,rfl,hb,rb⟩:=ry.sqT
  obtain rfl:=F9 rb
  cases rx with
  | dT m h e r=>cases ex; exact⟨_,_,rfl,gW.t h hb,(j5 k e r).1,(j5 k e r).2⟩
  | fT h e r=>cases ex; exact⟨_,_,rfl,.inr ⟨_,k,b,.inr ⟨_,h⟩,rfl,hb,rfl⟩,(j5 k e r).1,(j5 k e r).2⟩
  | _=>cases ex
section
variable {X : Cx} {σ : St} {H : Hp} {D : cX} {tk td te : aF} {Q' : VK}
noncomputable def kR (neg:Bool) (tk td:aF):aF:=fun ρ Q=>tk ρ fun y _=>td ρ fun x _=>∃ o,G1 x y o/\Q (.bl (if neg=true then !o.isSome else o.isSome)) .fr
theorem G3 {α β:Type}{o:Option α}{o':Option β}{P:β->α->Prop} (h1:o=none->o'=none) (h2:∀ z,o=some z->∃ u,o'=some u/\P u z):o'.isSome=o.isSome:=by
 cases o with
 | none=>rw [h1 rfl]; rfl
 | some z=>obtain ⟨u,e,_⟩:=h2 z rfl; rw [e]; rfl
theorem at8 (h:LE X (kR false tk td) σ H Q'):zO (LE X tk) (LE X td) σ H Q':=by
 obtain ⟨W,ρ,Q,px,q,k⟩:=h
 refine⟨W,ρ,_,px,q,fun w H1 y g s r q=>⟨W,ρ,_,px.mono s,q,?_⟩⟩
 rintro v H2 x g' s2 r2 ⟨o,ak,q⟩
 obtain ⟨a,o',rfl,dg,h1,h2⟩:=G2 ak r2 (r.same s2 fun _ z=>z)
 refine⟨a,o',rfl,dg,?_⟩
 rw [G3 h1 h2]
 exact k _ _ _ .fr (s.trans s2) (.bl _) q
theorem at9 (h:LE X (kR true tk td) σ H Q'):zP (LE X tk) (LE X td) σ H Q':=by
 obtain ⟨W,ρ,Q,px,q,k⟩:=h
 refine⟨W,ρ,_,px,q,fun w H1 y g s r q=>⟨W,ρ,_,px.mono s,q,?_⟩⟩
 rintro v H2 x g' s2 r2 ⟨o,ak,q⟩
 obtain ⟨a,o',rfl,dg,h1,h2⟩:=G2 ak r2 (r.same s2 fun _ z=>z)
 refine⟨a,o',rfl,dg,?_⟩
 rw [G3 h1 h2]
 exact k _ _ _ .fr (s.trans s2) (.bl _) q
theorem PX.updD {K:PySem.W.Frag}{H0:Hp}{W:Addr->Prop}{σ:St}{ρ:bG}{H:Hp}{i:Nat}{a:Addr}{x:PV}{kvs:List (aG × V)}{ps:List (aG × PV)} (p:PX K H0 W σ ρ H) (hi:ρ[i]? = some (some (.own x))) (ha:σ[i]? = some (some (.ref a))) (wa:W a)
  (r:kvs.map (·.1)=ps.map (·.1)/\Reps K (Ms H0 W true) (upd H a (.dK kvs)) (kvs.map (·.2)) (ps.map (·.2))):PX K H0 W σ (ρ.set i (some (.own (.dK ps)))) (upd H a (.dK kvs)):=p.updOwn hi ha wa rfl (y:=.dK ps) ⟨kvs,bK,r⟩
theorem au0 {κ α β:Type}{l:List (κ × α)}{m:List (κ × β)} (e:l.map (·.1)=m.map (·.1)):l.length=m.length:=by
 have:=congrArg List.length e
 rw [aS9,aS9] at this
 exact this
noncomputable def qH (i:Nat) (tk te:aF):aN:=fun D ρ=>te ρ fun z g=>∃ ps,ρ[i]? = some (some (.own (.dK ps)))/\tk ρ fun y _=>∃ k,y=kP k/\Nw g z/\ps.length < 16000000/\D.nx (ρ.set i (some (.own (.dK (fB ps k z)))))
theorem au1 {i:Nat} (h:LS X (qH i tk te) D σ H):zQ (iE i) (LE X tk) (LE X te) D σ H:=by
 obtain ⟨W,ρ,D',px,q,k⟩:=h
 refine⟨W,ρ,_,px,q,?_⟩
 rintro w H1 z g s rz ⟨ps,hi,q⟩
 obtain ⟨v,ev,a,rfl,wa,kvs,ea,e1,r⟩:=(px.mono s).sl i _ hi
 refine⟨_,ev,W,ρ,_,px.mono s,q,?_⟩
 rintro kv H2 y g' s2 ry ⟨kk,rfl,nw,hl,q⟩
 obtain rfl:=uV ry
 have ea2:=s2 _ _ ea
 refine⟨a,_,rfl,nE.k ea2 (gM (by rw [au0 e1]; omega)),?_⟩
 refine k.nx W σ _ _ ((Ev.same (s.trans s2)).trans (Ev.upd wa)) ((px.mono (s.trans s2)).updD hi ev wa ?_) q
 obtain ⟨h1,h2⟩:=at7 kk ((Nw.rep px nw rz).same s2 fun _ z=>z) e1 (r.same s2 fun _ z=>z)
 exact⟨h1,h2.keep (.upd ea2 rfl fun b m=>⟨kL wa m,m⟩)⟩
theorem au2 (h:LE X (qC (.dK [])) σ H Q'):zT σ H Q':=by
 obtain ⟨W,ρ,Q,px,q,k⟩:=h
 exact fun p hp=>k _ _ _ .fr (bL hp _) (.dK hp bK rfl .nil) q
end
noncomputable def uW (neg:Bool):PV->Tg->PV->Tg->PK->Prop:=fun x _ y _ Q=>∃ i ns,x = .int i/\iZ y=some (intz ns)/\Q (.bl (if neg=true then !decide (i ∈ ns) else decide (i ∈ ns))) .fr
noncomputable abbrev lW:=bG->(Option Int->Prop)->Prop
noncomputable def hV (xs:List PV) (lo hi:Option Int):List PV:=(xs.drop (HT.aW xs.length 0 lo)).take (HT.aW xs.length xs.length hi - HT.aW xs.length 0 lo)
noncomputable def au3:PV->List PV->PV
 | .tup _,ys=>.tup ys
 | .kt _,ys=>.tup ys
 | _,ys=>.lst ys
noncomputable def G4:lW:=fun _ Q=>Q none
noncomputable def lX (te:aF):lW:=fun ρ Q=>te ρ fun x _=>∃ i,x = .int i/\Q (some i)
noncomputable def qI (te:aF) (tl th:lW):aF:=fun ρ Q=>te ρ fun x _=>tl ρ fun lo=>th ρ fun hi=>∃ xs,seqT x=some xs/\flats xs=true/\Q (au3 x (hV xs lo hi)) .fr
noncomputable def fR (N:List Str) (xs:List PV):bG:=xs.map (fun x=>some (.sh (flat x) x)) ++ List.replicate (N.length - xs.length) none
noncomputable abbrev c7 (ta tb:aF):aF:=q2 (dS fun i j=>.int (i+j)) ta tb
noncomputable abbrev lY (ta tb:aF):aF:=q2 (dS fun i j=>.int (i - j)) ta tb
noncomputable abbrev nV (ta tb:aF):aF:=q2 (RI mW fun i j=>.int (i * j)) ta tb
noncomputable abbrev fS (ta tb:aF):aF:=q2 (RI sO fun i j=>.int (i / j)) ta tb
noncomputable abbrev bV (ta tb:aF):aF:=q2 (RI (fun _ j=>0 < j) fun i j=>.int (i % j)) ta tb
noncomputable abbrev qJ (ta tb:aF):aF:=q2 (RI sP fun i j=>.int (i ^ j.toNat)) ta tb
noncomputable abbrev au4 (ta tb:aF):aF:=q2 (RI (fun _ j=>0<=j) fun i j=>.int (i / 2 ^ j.toNat)) ta tb
noncomputable abbrev kS (ta tb:aF):aF:=q2 (dS fun i j=>.bl (decide (i < j))) ta tb
noncomputable abbrev qK (ta tb:aF):aF:=q2 (dS fun i j=>.bl (decide (i<=j))) ta tb
noncomputable abbrev G5 (ta tb:aF):aF:=q2 (dS fun i j=>.bl (decide (j < i))) ta tb
noncomputable abbrev uX (ta tb:aF):aF:=q2 (dS fun i j=>.bl (decide (j<=i))) ta tb
noncomputable abbrev j6 (ta tb:aF):aF:=q2 (kI false) ta tb
noncomputable abbrev G6 (ta tb:aF):aF:=q2 (kI true) ta tb
noncomputable abbrev au5 (ta tb:aF):aF:=q2 (uS false) ta tb
noncomputable abbrev bA (ta tb:aF):aF:=q2 uM ta tb
noncomputable def iH:List PV->(PV->Prop)->Prop:=fun xs Q=>F3 xs Q/\∀ ns,xs ≠ [.scr ns]
noncomputable def qL:aN:=fun _ _=>False
noncomputable def QE (X:Cx) (e:Expr) (t:aF):Prop:=PE X e (LE X t)
noncomputable def QT (X:Cx) (e:Expr) (t:cC):Prop:=PT X e (LT X t)
noncomputable def QW (X:Cx) (e:Expr) (t:cC):Prop:=PW X e (LT X t)
noncomputable def QA (X:Cx) (es:List Expr) (t:cQ):Prop:=PA X es (LA X t)
noncomputable def QS (X:Cx) (st:Stmt) (t:aN):Prop:=PS X st (LS X t)
noncomputable def eR (X:Cx) (st:List Stmt) (t:aN):Prop:=dO X st (LS X t)
noncomputable def QI (X:Cx) (tg iter:Expr) (t:fA):Prop:=PI X tg iter (LI X t)
section
variable {X : Cx}
theorem cH {e:Expr}{t t':TE} (h:PE X e t) (m:∀ σ H Q,t' σ H Q->t σ H Q):PE X e t':=fun pins s σ H Q I q=>h pins s σ H Q I (m σ H Q q)
theorem lZ {e:Expr}{t t':TT} (h:PT X e t) (m:∀ σ H Q,t' σ H Q->t σ H Q):PT X e t':=fun pins s σ H Q I q=>h pins s σ H Q I (m σ H Q q)
theorem G7 {e:Expr}{t t':TT} (h:PW X e t) (m:∀ σ H Q,t' σ H Q->t σ H Q):PW X e t':=fun wh pins s σ H Q I q=>h wh pins s σ H Q I (m σ H Q q)
theorem G8 {e:List Expr}{t t':TA} (h:PA X e t) (m:∀ σ H Q,t' σ H Q->t σ H Q):PA X e t':=fun pos pins s σ H Q I q=>h pos pins s σ H Q I (m σ H Q q)
theorem dH {e:Stmt}{t t':TS} (h:PS X e t) (m:∀ D σ H,t' D σ H->t D σ H):PS X e t':=fun pins s σ H D I q=>h pins s σ H D I (m D σ H q)
theorem uY {e:List Stmt}{t t':TS} (h:dO X e t) (m:∀ D σ H,t' D σ H->t D σ H):dO X e t':=fun pins s σ H D I q=>h pins s σ H D I (m D σ H q)
theorem qM {tg e:Expr}{t t':TI} (h:PI X tg e t) (m:∀ σ H R,t' σ H R->t σ H R):PI X tg e t':=fun pins s σ H R I q=>h pins s σ H R I (m σ H R q)
variable {a b c e o : Expr} {es cS : List Expr} {ta tb te to tk : aF} {tr : cQ} {tA tB' tc : cC} {pos p2 px : Pos} {st : Stmt} {sts : List Stmt} {t u : aN}
theorem qv (i:Nat) {x:Str}{pos:Pos} (hN:X.N[i]? = some x:=by rfl) (hv:gF X.env.scope x:=by first | exact Or.inl rfl | exact Or.inr (Or.inl rfl) | exact Or.inr (Or.inr rfl)) (hd:(x == ("__debug__" : Str))=false:=by decide)
  (hcd:(x == ("__classdict__" : Str))=false:=by decide):QE X (.Name x pos) (a5 i):=cH (iO hN hv hd hcd) fun _ _ _=>ap3
theorem aD {i j}:QE X (.Constant (.int i) j pos) (qC (.int i)):=cH k8 fun _ _ _=>pY fun _=>.int i
theorem jW {i j}:QE X (.Constant (.bool i) j pos) (qC (.bl i)):=cH x9 fun _ _ _=>pY fun _=>.bl i
theorem G9 {j}:QE X (.Constant .none j pos) (qC .non):=cH ab8 fun _ _ _=>pY fun _=>.non
theorem uZ {i j}:QE X (.Constant (.str i) j pos) (qC (.str i)):=cH ab9 fun _ _ _=>pY fun _=>.str i
theorem j7 {op:Operator}{R:PV->Tg->PV->Tg->PK->Prop}{r:R2} (ho:cE X (binaryOp op) r) (cv:fO X R r) (ha:QE X a ta) (hb:QE X b tb):QE X (.BinOp a op b pos) (q2 R ta tb):=cH (ae3 ho ha hb) fun _ _ _=>pZ cv
theorem cI (ha:QE X a ta) (hb:QE X b tb):QE X (.BinOp a .Add b pos) (q2 (dS fun i j=>.int (i+j)) ta tb):=j7 ae5 uE ha hb
theorem m3 (ha:QE X a ta) (hb:QE X b tb):QE X (.BinOp a .Sub b pos) (q2 (dS fun i j=>.int (i - j)) ta tb):=j7 ae6 uE ha hb
theorem nW (ha:QE X a ta) (hb:QE X b tb):QE X (.BinOp a .Mult b pos) (q2 (RI mW fun i j=>.int (i * j)) ta tb):=j7 ae7 nN ha hb
theorem gB (ha:QE X a ta) (hb:QE X b tb):QE X (.BinOp a .FloorDiv b pos) (q2 (RI sO fun i j=>.int (i / j)) ta tb):=j7 ae8 nN ha hb
theorem cN (ha:QE X a ta) (hb:QE X b tb):QE X (.BinOp a .Mod b pos) (q2 (RI (fun _ j=>0 < j) fun i j=>.int (i % j)) ta tb):=j7 ae9 nN ha hb
theorem J0 (ha:QE X a ta) (hb:QE X b tb):QE X (.BinOp a .Pow b pos) (q2 (RI sP fun i j=>.int (i ^ j.toNat)) ta tb):=j7 af0 nN ha hb
theorem au6 (ha:QE X a ta) (hb:QE X b tb):QE X (.BinOp a .RShift b pos) (q2 (RI (fun _ j=>0<=j) fun i j=>.int (i / 2 ^ j.toNat)) ta tb):=j7 af1 nN ha hb
theorem nX {op:CmpOp}{R:PV->Tg->PV->Tg->PK->Prop}{r:R2} (ho:cE X (compareOp op) r) (cv:fO X R r) (ha:QE X a ta) (hb:QE X b tb) (hm:behindInMarks op b=false):QE X (.Compare a [op] [b] pos) (q2 R ta tb):=cH (sR ho ha hb hm) fun _ _ _=>pZ cv
theorem kT {op:CmpOp}{R:PV->Tg->PV->Tg->PK->Prop}{r:R2} (ho:cE X (compareOp op) r) (cv:fO X R r) (ha:QE X a ta) (hb:QE X b tb) (hm:behindInMarks op b=false):QT X (.Compare a [op] [b] pos) (bJ (q2 R ta tb)):=lZ (af7 ho ha hb hm) fun _ _ _ h=>pZ cv (qA h)
theorem J1 (ha:QE X a ta) (hb:QE X b tb):QE X (.Compare a [.Lt] [b] pos) (q2 (dS fun i j=>.bl (decide (i < j))) ta tb):=nX pA lR ha hb (fY _)
theorem qN (ha:QE X a ta) (hb:QE X b tb):QE X (.Compare a [.LtE] [b] pos) (q2 (dS fun i j=>.bl (decide (i<=j))) ta tb):=nX af3 lR ha hb (fY _)
theorem au7 (ha:QE X a ta) (hb:QE X b tb):QE X (.Compare a [.GtE] [b] pos) (q2 (dS fun i j=>.bl (decide (j<=i))) ta tb):=nX yB lR ha hb (fY _)
theorem v0 (ha:QE X a ta) (hb:QE X b tb):QE X (.Compare a [.Eq] [b] pos) (q2 (kI false) ta tb):=nX xZ E5 ha hb (fY _)
theorem nY (ha:QE X a ta) (hb:QE X b tb):QT X (.Compare a [.Lt] [b] pos) (bJ (q2 (dS fun i j=>.bl (decide (i < j))) ta tb)):=kT pA lR ha hb (fY _)
theorem J2 (ha:QE X a ta) (hb:QE X b tb):QT X (.Compare a [.Gt] [b] pos) (bJ (q2 (dS fun i j=>.bl (decide (j < i))) ta tb)):=kT af4 lR ha hb (fY _)
theorem J3 (ha:QE X a ta) (hb:QE X b tb):QT X (.Compare a [.GtE] [b] pos) (bJ (q2 (dS fun i j=>.bl (decide (j<=i))) ta tb)):=kT yB lR ha hb (fY _)
theorem m5 (ha:QE X a ta) (hb:QE X b tb):QT X (.Compare a [.Eq] [b] pos) (bJ (q2 (kI false) ta tb)):=kT xZ E5 ha hb (fY _)
theorem J4 (ha:QE X a ta) (hb:QE X b tb):QT X (.Compare a [.NotEq] [b] pos) (bJ (q2 (kI true) ta tb)):=kT yA ap4 ha hb (fY _)
theorem au8 (ha:QE X a ta) (hb:QE X b tb):QT X (.Compare a [.Is] [b] pos) (bJ (q2 (uS false) ta tb)):=kT af5 as7 ha hb (fY _)
theorem au9 (hu:X.A.units+1 < cLine) (hk:QE X a tk) (hd:QE X b te) (hm:behindInMarks .In b=false:=by rfl):QT X (.Compare a [.In] [b] pos) (bJ (kR false tk te)):=lZ (xA (aj9 hu hk hd) hm) fun _ _ _ h=>at8 (qA h)
theorem J5 (hu:X.A.units+1 < cLine) (hk:QE X a tk) (hd:QE X b te) (hm:behindInMarks .NotIn b=false:=by rfl):QT X (.Compare a [.NotIn] [b] pos) (bJ (kR true tk te)):=lZ (xA (ak0 hu hk hd) hm) fun _ _ _ h=>at9 (qA h)
theorem m6 (h:QE X e te) (he:∀ whole,isTrue e X.env whole=(do let v <- whole; standAt e.pos; holding [v] (truthy v)):=by intro _; rfl):QT X e (bJ te):=lZ (ac0 h he) fun _ _ _ h=>qA h
theorem kU (h:QE X e te) (he:∀ whole,isTrue e X.env whole=(do let v <- whole; standAt e.pos; holding [v] (truthy v)):=by intro _; rfl):QT X e (j3 te):=lZ (ag0 h he) fun _ _ _ h=>as5 h
theorem v3 (ha:QT X a tA):QW X (.BoolOp .And [a] pos) tA:=ac1 ha
theorem av0 (ha:QT X a tA):QW X (.BoolOp .Or [a] pos) tA:=ac2 ha
theorem v4 (ha:QT X a tA) (hb:QW X (.BoolOp .And (b :: cS) pos) tB'):QW X (.BoolOp .And (a :: b :: cS) pos) (nO tA tB'):=G7 (ac3 ha hb) fun _ _ _=>ap5
theorem av1 (ha:QT X a tA) (hb:QW X (.BoolOp .Or (b :: cS) pos) tB'):QW X (.BoolOp .Or (a :: b :: cS) pos) (uF tA tB'):=G7 (ac4 ha hb) fun _ _ _=>ap6
theorem qO (h:QW X e tA):QT X e tA:=PW.pt h
theorem nZ (ha:QT X a tA):QT X (.UnaryOp .Not a pos) (kJ tA):=lZ (ac5 ha) fun _ _ _=>ap7
theorem v7 {op} (h:QE X a ta):QE X (.BoolOp op [a] pos) ta:=ac6 h
theorem o0 (ha:QE X a ta) (hb:QE X (.BoolOp .And (b :: cS) pos) tb):QE X (.BoolOp .And (a :: b :: cS) pos) (kK ta tb):=cH (ac7 ha hb) fun _ _ _=>ap8
theorem aA:QA X [] a9:=G8 cZ fun _ _ _=>ap9
theorem a8 (ha:QE X e te) (hr:QA X es tr) (hs:starEach (e :: es) X.env=(false,eval e X.env) :: starEach es X.env:=by rfl):QA X (e :: es) (a7 te tr):=G8 (cP ha hr hs) fun _ _ _=>aq0
theorem j8 {x1} (h:QA X es tr):QE X (.Tuple es x1 pos) (hJ tr):=cH (ag3 h) fun _ _ _=>aq1
theorem hZ (h:QA X es tr):QE X (.List es pos) (fP tr):=cH (sT h) fun _ _ _=>aq2
theorem bB (ha:QE X a ta) (hb:QE X b tb) (hs:yU b:=by exact fun _ _=>rfl):QE X (.Subscript a b pos) (q2 uM ta tb):=cH (iR ah8 ha hb hs) fun _ _ _=>pZ ar6
theorem av2:QE X (.Dict [] [] pos) (qC (.dK [])):=cH ak2 fun _ _ _=>au2
theorem j9 {x:Str}{id:String}{R:List PV->(PV->Prop)->Prop}{r:List V->Hp->VK->Prop} (hc:cY X (.builtin id) r) (cv:g9 X R r) (hg:Gl X x) (hm:X.mg x=none) (hv:bootBuiltins x=some (.builtin id)) (ha:QA X (e :: es) tr) (hn:x ≠ "__name__":=by decide) (hdb:(x == ("__debug__" : Str))=false:=by decide)
  (he:starEach (e :: es) X.env=(false,eval e X.env) :: starEach es X.env:=by rfl) (hpl:(backTo pos (starEach es X.env)).any (·.1)=false:=by rfl):QE X (.Call (.Name x p2) (e :: es) [] pos) (aB R tr):=cH (sY hc hg hm hv ha hn hdb he hpl) fun _ _ _=>E6 cv
theorem av3 {x:Str}{T:String}{R:List PV->(PV->Prop)->Prop}{r:List V->Hp->VK->Prop} (hc:cY X (.type T) r) (cv:g9 X R r) (hg:Gl X x) (hm:X.mg x=none) (hv:bootBuiltins x=some (.type T)) (ha:QA X (e :: es) tr) (hn:x ≠ "__name__":=by decide) (hdb:(x == ("__debug__" : Str))=false:=by decide)
  (he:starEach (e :: es) X.env=(false,eval e X.env) :: starEach es X.env:=by rfl) (hpl:(backTo pos (starEach es X.env)).any (·.1)=false:=by rfl):QE X (.Call (.Name x p2) (e :: es) [] pos) (aB R tr):=cH (sZ hc hg hm hv ha hn hdb he hpl) fun _ _ _=>E6 cv
theorem dI:eR X [] cT:=uY ac9 fun _ _ _=>aq3
theorem aH (h1:QS X st t) (h2:eR X sts u):eR X (st :: sts) (aE t u):=uY (k9 h1 h2) fun _ _ _=>aq4
theorem aV (h1:QS X st t):eR X [st] t:=kA h1
theorem v8:QS X st qL:=dH ad2 fun _ _ _ ⟨_,_,_,_,h,_⟩=>h
theorem bC {i:Nat}{x:Str} (hN:X.N.Nodup) (he:QE X e te) (hi:X.N[i]? = some x:=by rfl) (hx:iD X.env.scope x:=by first | exact Or.inl rfl | exact Or.inr rfl) (hs:swapsWith e (some (.Name x p2)) pos.line X.env=pure false:=by rfl) (hf:X.fn x=true ∨ X.env.scope.names.lookup x=some .local:=by first | exact .inl rfl | exact .inr rfl) :
  QS X (.Assign [.Name x p2] e pos) (b8 i te):=dH (sK hN hi hx he hs hf) fun _ _ _=>uJ
theorem fC {i:Nat}{x:Str} (hN:X.N.Nodup) (he:QE X e te) (hi:X.N[i]? = some x:=by rfl) (hx:iD X.env.scope x:=by first | exact Or.inl rfl | exact Or.inr rfl) (hs:swapsWith e (some (.Name x p2)) pos.line X.env=pure false:=by rfl) (hf:X.fn x=true ∨ X.env.scope.names.lookup x=some .local:=by first | exact .inl rfl | exact .inr rfl) :
  QS X (.Assign [.Name x p2] e pos) (dQ i te):=dH (sK hN hi hx he hs hf) fun _ _ _=>F0
theorem J6 (i:Nat) (h:QS X st t):QS X st (qB i t):=dH h fun _ _ _=>aq7
theorem c8 (he:QE X e te):QS X (.Return (some e) pos) (bP te):=dH (lE he) fun _ _ _=>aq8
theorem m7 (i:Nat) {x:Str} (hN:X.N[i]? = some x:=by rfl) (hv:gF X.env.scope x:=by first | exact Or.inl rfl | exact Or.inr (Or.inl rfl) | exact Or.inr (Or.inr rfl)) (hd:(x == ("__debug__" : Str))=false:=by decide) (hcd:(x == ("__classdict__" : Str))=false:=by decide) :
  QS X (.Return (some (.Name x p2)) pos) (iY i):=dH (lE (iO hN hv hd hcd)) fun _ _ _=>aq9
theorem dJ {sa sb:List Stmt} (hc:QT X c tc) (ha:eR X sa t) (hb:eR X sb u):QS X (.If c sa sb pos) (cU tc t u):=dH (ad0 hc ha hb) fun _ _ _=>ar0
theorem qP {body:List Stmt} (hp:PassesOwn (model X.prog X.w) X.A X.env X.xe) (hc:QT X c tc) (hb:eR X body t):QS X (.While c body [] pos) (lT tc t):=dH (ad5 hp hc hb) fun _ _ _=>ar1
theorem kW (i:Nat) {x:Str}{apos cpos xpos:Pos} (he:QE X e te) (hN:X.N[i]? = some x:=by rfl) (hv:gF X.env.scope x:=by first | exact Or.inl rfl | exact Or.inr (Or.inl rfl) | exact Or.inr (Or.inr rfl)) (hd:(x == ("__debug__" : Str))=false:=by decide) (hcd:(x == ("__classdict__" : Str))=false:=by decide)
  (hbase:attributeBase (.Name x xpos) "append" X.env (eval (.Name x xpos) X.env)=eval (.Name x xpos) X.env:=by rfl)
  (hfew:((backTo cpos (starEach [e] X.env)).all (fun x=>!x.1) && (backToKw cpos (keywordEach [] X.env)).all (fun x=>x.1.isSome) && decide (([e]:List Expr).length+([]:List Keyword).length+(if ([]:List Keyword).isEmpty then 0 else 1) < 30))=true:=by rfl)
  (hline:(apos.endLine == cpos.line)=true:=by rfl) (hs:starEach [e] X.env=(false,eval e X.env) :: starEach [] X.env:=by rfl) (hplain:(backTo cpos (starEach [] X.env)).any (·.1)=false:=by rfl)
  (hsw:swapsWith (.Call (.Attribute (.Name x xpos) "append" apos) [e] [] cpos) none pos.line X.env=pure false:=by rfl) :
  QS X (.Expr (.Call (.Attribute (.Name x xpos) "append" apos) [e] [] cpos) pos) (iG i te):=
 dH (kB (kE aZ9 be2 be3 lK (iO hN hv hd hcd) (cP he cZ hs) hbase hfew hline hs hplain) hsw) fun _ _ _=>ar2
theorem J7 {i:Nat}{x:Str}{xpos tpos:Pos} (hu:X.A.units+1 < cLine) (hk:QE X a tk) (he:QE X e te) (hN:X.N[i]? = some x:=by rfl) (hv:gF X.env.scope x:=by first | exact Or.inl rfl | exact Or.inr (Or.inl rfl) | exact Or.inr (Or.inr rfl)) (hd:(x == ("__debug__" : Str))=false:=by decide) (hcd:(x == ("__classdict__" : Str))=false:=by decide)
  (hs:swapsWith e (some (.Subscript (.Name x xpos) a tpos)) pos.line X.env=pure false:=by rfl):QS X (.Assign [.Subscript (.Name x xpos) a tpos] e pos) (qH i tk te):=dH (ak1 hu (iO hN hv hd hcd) hk he hs) fun _ _ _=>au1
theorem av4 {tg l:Expr}{tl:TE} (hl:PE X l tl):PI X tg l (F4 X.K tl):=by
 intro pins s σ H R I h
 refine aO (hl pins s σ H _ I h) fun v s1 ⟨x,H1,I1,r1,q1⟩=>?_
 obtain ⟨a,e,q⟩:=q1
 subst e
 cases r1
 rcases q with ⟨xs,hq,q⟩ | ⟨xs,hq,q⟩
 ·obtain ⟨its,rv,p,hz⟩:=I1.list hq
  refine wpAny_pyIter_list p.isList ?_
  refine⟨s1.heap.objs.size,[s1.heap.objs.size],_,_,H1,rfl,I1.kept (t':=s1.toks) fun b o e=>aS7 _ e,ad6 a _,⟨_,aU9 _ rfl,rfl,rfl⟩,fun b hb=>?_,q⟩
  have e:b=s1.heap.objs.size:=by simpa using hb
  subst e
  exact I1.fpOk (aT2 _) (I1.hok.fresh (aT2 _))
 ·obtain ⟨its,rv,p,hz⟩:=I1.tuple hq
  refine wpAny_pyIter_tuple (show s1.heap.IsTuple a its.toArray from p) ?_
  refine⟨s1.heap.objs.size,[s1.heap.objs.size],_,_,H1,rfl,I1.kept (t':=s1.toks) fun b o e=>aS7 _ e,xM a _,⟨_,aU9 _ rfl,rfl,rfl⟩,fun b hb=>?_,q⟩
  have e:b=s1.heap.objs.size:=by simpa using hb
  subst e
  exact I1.fpOk (aT2 _) (I1.hok.fresh (aT2 _))
theorem dC {tg l:Expr} (hl:QE X l te):QI X tg l (cL te):=qM (av4 hl) fun _ _ _=>as8
theorem kX {tg:Expr} (hg:Gl X "range") (hm:X.mg "range" = none) (ha:QE X a ta) (hs:starEach [a] X.env = [(false,eval a X.env)]:=by rfl):QI X tg (.Call (.Name "range" p2) [a] [] pos) (j4 ta):=qM (ad9 hg hm (cP ha cZ hs) hs) fun _ _ _=>as9
theorem J8 {tg:Expr} (hg:Gl X "range") (hm:X.mg "range" = none) (ha:QE X a ta) (hb:QE X b tb) (hs:starEach [a,b] X.env = [(false,eval a X.env),(false,eval b X.env)]:=by rfl) (hs2:starEach [b] X.env = [(false,eval b X.env)]:=by rfl) :
  QI X tg (.Call (.Name "range" p2) [a,b] [] pos) (qE ta tb):=qM (ae0 hg hm (cP ha (cP hb cZ hs2) (by rw [hs,hs2])) hs hs2) fun _ _ _=>at0
theorem J9 {tg:Expr}{body:List Stmt}{ti:fA}{p:jV}{g:TG}{own:Nat->Prop} (hp:PassesOwn (model X.prog X.w) X.A X.env X.xe) (hc:X.calm=true) (hi:QI X tg e ti) (hg:PG X tg g) (ht:nT X.K own p g) (hb:eR X body t)
  (hs:∀ x,foldedSetIterable e X.env x=pure x:=by intro _; rfl):QS X (.For tg e body [] pos) (eB ti p t):=dH (sL hp hc hi hg hb hs) fun _ _ _=>at2 ht
end
structure Bt (mg:Str->Option Value):Prop where
 len:mg "len" = none
 range:mg "range" = none
 tuple:mg "tuple" = none
 list:mg "list" = none
 sorted:mg "sorted" = none
 all:mg "all" = none
 any:mg "any" = none
 zip:mg "zip" = none
 min:mg "min" = none
 max:mg "max" = none
 sum:mg "sum" = none
 isinst:mg "isinstance" = none
 int:mg "int" = none
 bool:mg "bool" = none
 enum:mg "enumerate" = none
section
variable {X : Cx} {a b c e o : Expr} {es cS : List Expr} {ta tb te to tk : aF} {tr : cQ} {tA tB' tc : cC} {pos p2 px : Pos} {st : Stmt} {sts : List Stmt} {t u : aN}
theorem eS (B:Bt X.mg) (ha:QA X [e] tr) (hg:Gl X "len":=by rfl) (he:starEach [e] X.env=(false,eval e X.env) :: starEach [] X.env:=by rfl) (hpl:(backTo pos (starEach [] X.env)).any (·.1)=false:=by rfl):QE X (.Call (.Name "len" p2) [e] [] pos) (aB dU tr):=
 j9 (ai6.or al2) ar7 hg B.len PySem.boot_len ha (he:=he) (hpl:=hpl)
theorem jA (B:Bt X.mg) (ha:QA X [e] tr) (hg:Gl X "tuple":=by rfl) (he:starEach [e] X.env=(false,eval e X.env) :: starEach [] X.env:=by rfl) (hpl:(backTo pos (starEach [] X.env)).any (·.1)=false:=by rfl):QE X (.Call (.Name "tuple" p2) [e] [] pos) (aB iH tr):=
 av3 ai7 ar8 hg B.tuple PyProof.Rows.boot_tuple ha (he:=he) (hpl:=hpl)
theorem av5 (B:Bt X.mg) (ha:QA X [e] tr) (hg:Gl X "sorted":=by rfl) (he:starEach [e] X.env=(false,eval e X.env) :: starEach [] X.env:=by rfl) (hpl:(backTo pos (starEach [] X.env)).any (·.1)=false:=by rfl):QE X (.Call (.Name "sorted" p2) [e] [] pos) (aB uO tr):=
 j9 am5 ar9 hg B.sorted PyProof.Rows.boot_sorted ha (he:=he) (hpl:=hpl)
theorem av6 (B:Bt X.mg) (hc:X.calm=true) (ha:QA X [e] tr) (hg:Gl X "all":=by rfl) (he:starEach [e] X.env=(false,eval e X.env) :: starEach [] X.env:=by rfl) (hpl:(backTo pos (starEach [] X.env)).any (·.1)=false:=by rfl):QE X (.Call (.Name "all" p2) [e] [] pos) (aB uP tr):=
 j9 (u9 hc) as0 hg B.all PyProof.Rows.boot_all ha (he:=he) (hpl:=hpl)
theorem qQ (B:Bt X.mg) (hc:X.calm=true) (ha:QA X [a,b] tr) (hg:Gl X "min":=by rfl) (he:starEach [a,b] X.env=(false,eval a X.env) :: starEach [b] X.env:=by rfl) (hpl:(backTo pos (starEach [b] X.env)).any (·.1)=false:=by rfl):QE X (.Call (.Name "min" p2) [a,b] [] pos) (aB lU tr):=
 j9 (ag2 hc) as1 hg B.min PyProof.Rows.boot_min ha (he:=he) (hpl:=hpl)
theorem o4 (B:Bt X.mg) (hc:X.calm=true) (ha:QA X [a,b] tr) (hg:Gl X "max":=by rfl) (he:starEach [a,b] X.env=(false,eval a X.env) :: starEach [b] X.env:=by rfl) (hpl:(backTo pos (starEach [b] X.env)).any (·.1)=false:=by rfl):QE X (.Call (.Name "max" p2) [a,b] [] pos) (aB kN tr):=
 j9 (ag1 hc) as2 hg B.max PyProof.Rows.boot_max ha (he:=he) (hpl:=hpl)
theorem K0 (x:Int):∀ (xs:List Int),nB (.int x) (xs.map V.int)=decide (x ∈ xs)
 | []=>by simp [nB]
 | y :: r=>by
  have ih:=K0 x r
  unfold nB at ih ⊢
  rw [aV5,bf4,ih]
  by_cases e:y=x
  ·subst e; simp [gV]
  ·have:gV (.int y) (.int x)=false:=by simpa [gV] using e
   rw [this,Bool.false_or,ba2]
   simp [Ne.symm e]
theorem K1:∀ (xs:List Int),(xs.map V.int).all iS=true
 | []=>rfl
 | _ :: r=>by rw [aV5,List.all_cons,K1 r]; rfl
theorem av7 (neg:Bool):fO X (uW neg) (zB X.K neg):=by
 rintro W Hs H u v x y g g' Q Q' s n r1 r2 ⟨i,ns,rfl,e,q⟩ k
 cases r1
 obtain ⟨a,us,rfl,hs,r⟩:=r2.seq e
 obtain rfl:=r.ofInts
 refine⟨a,_,rfl,hs,rfl,K1 ns,?_⟩
 have:=k _ _ _ .fr (aC.refl _) (.bl _) q
 rw [K0]
 cases neg <;> exact this
theorem av8 (ha:QE X a ta) (hb:QE X b tb) (hm:behindInMarks .In b=false:=by rfl):QE X (.Compare a [.In] [b] pos) (q2 (uW false) ta tb):=nX ai5 (av7 false) ha hb hm
end
end PP
namespace PP
open PySem L2 PyProof.Rows
noncomputable def LO (X:Cx) (t:lW):TO:=fun σ H Q'=>∃ (W:Addr->Prop) (ρ:bG) (Q:Option Int->Prop),PX X.K X.H₀ W σ ρ H/\t ρ Q/\∀ o H',aC H H'->Q o->Q' o H'
noncomputable def QO (X:Cx) (e:Option Expr) (t:lW):Prop:=PO X e (LO X t)
theorem Reps.cut {K:PySem.W.Frag}{M:Addr->Prop}{H:Hp}{us:List V}{xs:List PV} (r:Reps K M H us xs) (lo hi:Option Int):Reps K M H (dP us lo hi) (hV xs lo hi):=by
 unfold dP hV
 rw [r.length]
 exact (r.drop _).take _
section
variable {X : Cx} {a b c e o : Expr} {es cS : List Expr} {ta tb te to tk : aF} {tr : cQ} {tA tB' tc : cC} {pos p2 px : Pos} {st : Stmt} {sts : List Stmt} {t u : aN}
theorem av9:QO X none G4:=fun pins s σ H Q I h=>t4 pins s σ H Q I (by
 obtain ⟨W,ρ,Q1,px,q,k⟩:=h
 exact k _ _ (aC.refl _) q)
theorem o7 (h:QE X e te):QO X (some e) (lX te):=fun pins s σ H Q I hq=>t5 h pins s σ H Q I (by
 obtain ⟨W,ρ,Q1,px,q,k⟩:=hq
 refine⟨W,ρ,_,px,q,?_⟩
 rintro v H1 x g s r ⟨i,rfl,q⟩
 cases r
 exact⟨i,rfl,k _ _ s q⟩)
theorem v9 {lo hi:Option Expr}{tl th:lW}{sp:Pos} (he:QE X e te) (hl:QO X lo tl) (hh:QO X hi th):QE X (.Subscript e (.Slice lo hi none sp) pos) (qI te tl th):=cH (t6 (z9.or C8) he hl hh) fun σ H Q' h=>by
 obtain ⟨W,ρ,Q,px,q,k⟩:=h
 refine⟨W,ρ,_,px,q,fun v H1 x g s1 r1 q1=>⟨W,ρ,_,px.mono s1,q1,fun lo H2 s2 q2=>⟨W,ρ,_,px.mono (s1.trans s2),q2,?_⟩⟩⟩
 rintro hi H3 s3 ⟨xs,e,f,q3⟩
 have S:=(s1.trans s2).trans s3
 have r3:=r1.same (M':=Mg X.H₀ W H g) (s2.trans s3) fun _ z=>z
 cases r3 with
 | tup h r=>
  cases e
  refine .inr ⟨_,_,rfl,aQ.of h,fun p hp=>k _ _ _ .fr (S.trans (bL hp _)) (.tup bK (((r.flat f).cut lo hi).same (bL hp _) fun _ z=>z)) q3,fun ec=>k _ _ _ .fr S (.tup h ?_) q3⟩
  have:=(r.flat (M':=Mg X.H₀ W H .fr) f).cut lo hi
  rw [ec] at this
  exact this
 | lst m h r=>
  cases e
  exact .inl ⟨_,_,rfl,aJ.of h,fun p hp=>k _ _ _ .fr (S.trans (bL hp _)) (.lst (S.free hp) bK (((r.flat f).cut lo hi).same (bL hp _) fun _ z=>z)) q3⟩
 | scr h=>
  cases e
  exact .inl ⟨_,_,rfl,h.sqL,fun p hp=>k _ _ _ .fr (S.trans (bL hp _)) (.lst (S.free hp) bK (((Reps.intz _).cut lo hi).same (bL hp _) fun _ z=>z)) q3⟩
 | _=>cases e
structure Df (P:Program) (w:World) (K:PySem.W.Frag) (mg:Str->Option Value) (base:Heap) (k:Nat) (x:Str) (ps:List Str) (p:bH):Prop where
 ex:∃ f fd,cF P w K mg base dE k f fd ps (nR K p)/\gU K fd ps []/\PySem.W.keepIn K (.ref f)=true/\mg x=some (.ref f)
theorem b5 {k j:Nat}{x:Str}{ps:List Str}{p:bH} (d:Df X.prog X.w X.K X.mg X.base k x ps p) (hr:bZ j X.A) (ha:QA X (e :: es) tr) (hkj:k<=j:=by decide) (hg:Gl X x:=by rfl) (hdb:(x == ("__debug__" : Str))=false:=by decide)
  (he:starEach (e :: es) X.env=(false,eval e X.env) :: starEach es X.env:=by rfl) (hpl:(backTo pos (starEach es X.env)).any (·.1)=false:=by rfl):QE X (.Call (.Name x p2) (e :: es) [] pos) (aB p tr):=by
 obtain ⟨f,fd,F,b,kp,m⟩:=d.ex
 exact cH (sW F (hr.mono hkj) hg m kp b .nil al0 ha hdb he hpl) fun _ _ _=>as3
theorem vA {K:PySem.W.Frag}{H:Hp}{N:List Str}{vs:List V}{xs:List PV} (r:Reps K (fun _=>True) H vs xs):PX K H (fun _=>False) (L2.start N vs) (fR N xs) H:=by
 have lr:=r.length
 have own:∀ {i:Nat}{m:Slot},(fR N xs)[i]? = some (some m)->∃ x,xs[i]? = some x/\m = .sh (flat x) x:=fun {i m} h=>by
  unfold fR at h
  by_cases hi:i < xs.length
  ·rw [aY9 (by simpa using hi),aT7] at h
   rw [aU1 hi] at h ⊢
   cases h
   exact⟨_,rfl,rfl⟩
  ·rw [bf6 (by simpa using hi),List.getElem?_replicate] at h
   split at h <;> cases h
 refine⟨by unfold L2.start fR; simp [lr],aC.refl _,fun a z=>z.elim,fun i m h=>?_,fun i j x y a h1=>?_⟩
 ·obtain ⟨x,hx,rfl⟩:=own h
  obtain ⟨v,hv,rx⟩:=r.at hx
  refine⟨v,?_,qF (g:=false) (rx.same (aC.refl _) fun _ _ z=>z)⟩
  have hi:i < vs.length:=(aT3.mp hv).1
  unfold L2.start
  rw [aY9 (by simpa using hi),aT7,hv]; rfl
 ·obtain ⟨x,_,e⟩:=own h1
  cases e
theorem Df.of {P:Program}{w:World}{K:PySem.W.Frag}{mg:Str->Option Value}{base:Heap}{k:Nat}{x:Str}{ps N:List Str}{p:bH}{st:Stmt}{f:Addr}{fd:FuncData} (F:eO K x x st f fd) (m:mg x=some (.ref f)) (S:FnScope N ps (aX st))
  (hb:∀ (kV doc pm:Value) (an:Option Addr) (cdv ct:Value) (us:List Value),us.length=ps.length->bindArgs (PySem.W.fnOf x x (iU st) (eN st) (aX st) .none kV doc pm an cdv ct) ⟨us,[]⟩=pure (ps.zip us))
  (len:∀ xs Q,p xs Q->xs.length=ps.length)
  (body:∀ (cdv:Value) (A:Around) (outer:List Env) (s:Shared) (H:Hp) (E:XK),bZ k (A.deeper (envOfC x (aX st) s.heap.objs.size f cdv))->
   ∃ t,eR (dA dE P w K mg base N x (aX st) f cdv A outer s H E).nox (eN st) t/\∀ xs Q,p xs Q->t { nx:=fun _=>Q .non,rt:=Q } (fR N xs)):Df P w K mg base (k+1) x ps p:=by
 refine⟨f,fd,F.ok S (fun vs H Q E h=>?_) (fun cdv A outer s H vs Q E hr h=>?_),F.binds hb,F.kp,m⟩
 ·obtain ⟨xs,Qp,r,q,_⟩:=h
  rw [r.length]; exact len xs Qp q
 ·obtain ⟨xs,Qp,r,q,k⟩:=h
  obtain ⟨t,ht,hq⟩:=body cdv A outer s H E hr
  refine⟨_,ht,fun _=>False,fR N xs,_,vA r,hq xs Qp q,?_,?_,?_,?_⟩
  ·exact fun W' σ' H' ρ' e px q=>k _ _ _ px.same .non q
  ·exact fun v H' x s r q=>k _ _ _ s r q
  ·exact fun W' σ' H' ρ' e px q=>q
  ·exact fun W' σ' H' ρ' e px q=>q
theorem iI (i:Nat) {x:Str}{tp:Pos}{body:List Stmt}{ti:fA} (hN:X.N.Nodup) (hi:QI X (.Name x tp) e ti) (hb:eR X body t) (hx:X.N[i]? = some x:=by rfl) (hl:iD X.env.scope x:=by first | exact Or.inl rfl | exact Or.inr rfl) (hf:X.fn x=true ∨ X.env.scope.names.lookup x=some .local:=by first | exact .inl rfl | exact .inr rfl)
  (hp:PassesOwn (model X.prog X.w) X.A X.env X.xe:=by exact bg5) (hc:X.calm=true:=by rfl) (hs:∀ x,foldedSetIterable e X.env x=pure x:=by intro _; rfl):QS X (.For (.Name x tp) e body [] pos) (eB ti (bQ i) t):=
 J9 hp hc hi (eM hN hx hl hf) (nU _ i) hb hs
theorem vB (i j:Nat) {x y:Str}{tp xp yp:Pos}{kt:Nat}{body:List Stmt}{ti:fA} (hN:X.N.Nodup) (hi:QI X (.Tuple [.Name x xp,.Name y yp] kt tp) e ti) (hb:eR X body t) (hx:X.N[i]? = some x:=by rfl) (hy:X.N[j]? = some y:=by rfl) (hlx:iD X.env.scope x:=by first | exact Or.inl rfl | exact Or.inr rfl) (hly:iD X.env.scope y:=by first | exact Or.inl rfl | exact Or.inr rfl)
  (hfx:X.fn x=true ∨ X.env.scope.names.lookup x=some .local:=by first | exact .inl rfl | exact .inr rfl) (hfy:X.fn y=true ∨ X.env.scope.names.lookup y=some .local:=by first | exact .inl rfl | exact .inr rfl)
  (hp:PassesOwn (model X.prog X.w) X.A X.env X.xe:=by exact bg5) (hc:X.calm=true:=by rfl) (hs:∀ x,foldedSetIterable e X.env x=pure x:=by intro _; rfl):QS X (.For (.Tuple [.Name x xp,.Name y yp] kt tp) e body [] pos) (eB ti (fQ i j) t):=
 J9 hp hc hi (lG hc (gG (eM hN hx hlx hfx) (gG (eM hN hy hly hfy) lF))) (qG _ i j) hb hs
noncomputable abbrev bW:Value->Shared->Prop:=fun _ _=>False
section
variable {scope : Scope} {N : List Str} {fr : List (Option Nat)} {x y : Str} {tp xp yp : Pos} {kt : Nat} {iter elt : Expr} {ti : fA}
theorem qR {ifs:List Expr}{tcs:cC} (he:∀ (s:Shared) (H:Hp) (C:Addr) (fp:List Addr),QE (bI X scope N s H C fp bW) elt te) (hi:∀ (s:Shared) (H:Hp) (C:Addr) (fp:List Addr),jS (bI X scope N s H C fp bW) ifs (LT (bI X scope N s H C fp bW) tcs))
  (hN:N.Nodup) (h0:N[0]? = some x) (hl:∀ (s:Shared) (H:Hp) (C:Addr) (fp:List Addr),(bI X scope N s H C fp bW).env.scope.names.lookup x=some .local) (s:Shared) (H:Hp) :
  lN X scope N (.Name x tp) ifs elt s H (cB 0) (LT (X.frm H) tcs) (LE (X.frm H) te):=
 ⟨fun C fp=>eM (X:=bI X scope N s H C fp bW) hN h0 (.inl (hl s H C fp)) (.inr (hl s H C fp)),fun C fp=>hi s H C fp,fun C fp=>he s H C fp⟩
theorem o8 {Y:Cx}:jS Y [] (LT Y cM):=fun pins s σ H Q I h=>nG pins s σ H Q I (at5 h)
theorem o9 (hi:QI X (.Name x tp) iter ti) (he:∀ (s:Shared) (H:Hp) (C:Addr) (fp:List Addr),QE (bI X scope N s H C fp bW) elt te)
  (hc:X.calm=true:=by rfl) (S:c9 X scope N fr:=by exact c9.of rfl rfl) (hN:N.Nodup:=by decide +kernel) (h0:N[0]? = some x:=by rfl) (hl:∀ (s:Shared) (H:Hp) (C:Addr) (fp:List Addr),(bI X scope N s H C fp bW).env.scope.names.lookup x=some .local:=by intro _ _ _ _; rfl) (hf:fr[0]? = some none:=by rfl)
  (hs:∀ x,foldedSetIterable iter X.env x=pure x:=by intro _; rfl):QE X (.ListComp elt [⟨.Name x tp,iter,[],0⟩] scope pos) (cD ti fr (bQ 0) cM te):=
 cH (pP (gh:=fun _=>cB 0) (tch:=fun H=>LT (X.frm H) cM) (teh:=fun H=>LE (X.frm H) te) hc S hi (qR he (fun _ _ _ _=>o8) hN h0 hl) hs) fun _ _ _=>kQ (nU _ 0) (fun i e=>by subst e; exact hf)
theorem m8 {c:Expr}{tcs:cC} (hi:QI X (.Name x tp) iter ti) (ht:∀ (s:Shared) (H:Hp) (C:Addr) (fp:List Addr),QT (bI X scope N s H C fp bW) c tcs) (he:∀ (s:Shared) (H:Hp) (C:Addr) (fp:List Addr),QE (bI X scope N s H C fp bW) elt te)
  (hc:X.calm=true:=by rfl) (S:c9 X scope N fr:=by exact c9.of rfl rfl) (hN:N.Nodup:=by decide +kernel) (h0:N[0]? = some x:=by rfl) (hl:∀ (s:Shared) (H:Hp) (C:Addr) (fp:List Addr),(bI X scope N s H C fp bW).env.scope.names.lookup x=some .local:=by intro _ _ _ _; rfl) (hf:fr[0]? = some none:=by rfl)
  (hs:∀ x,foldedSetIterable iter X.env x=pure x:=by intro _; rfl):QE X (.ListComp elt [⟨.Name x tp,iter,[c],0⟩] scope pos) (cD ti fr (bQ 0) tcs te):=
 cH (pP (gh:=fun _=>cB 0) (tch:=fun H=>LT (X.frm H) tcs) (teh:=fun H=>LE (X.frm H) te) hc S hi (qR he (fun s H C fp=>A0 (ht s H C fp)) hN h0 hl) hs) fun _ _ _=>kQ (nU _ 0) (fun i e=>by subst e; exact hf)
theorem K2 {i:Nat}{z:Str}{zp:Pos} (nd:X.N.Nodup) (hi:QI X (.Name x tp) iter ti) (he:∀ (s:Shared) (H:Hp) (C:Addr) (fp:List Addr),QE (bI X scope N s H C fp bW) elt te)
  (hz:X.N[i]? = some z:=by rfl) (hzl:X.env.scope.names.lookup z=some .local:=by rfl) (hsw:swapsWith (.ListComp elt [⟨.Name x tp,iter,[],0⟩] scope p2) (some (.Name z zp)) pos.line X.env=pure true:=by rfl)
  (hc:X.calm=true:=by rfl) (S:c9 X scope N fr:=by exact c9.of rfl rfl) (hN:N.Nodup:=by decide +kernel) (h0:N[0]? = some x:=by rfl) (hl:∀ (s:Shared) (H:Hp) (C:Addr) (fp:List Addr),(bI X scope N s H C fp bW).env.scope.names.lookup x=some .local:=by intro _ _ _ _; rfl) (hf:fr[0]? = some none:=by rfl)
  (hs:∀ x,foldedSetIterable iter X.env x=pure x:=by intro _; rfl):QS X (.Assign [.Name z zp] (.ListComp elt [⟨.Name x tp,iter,[],0⟩] scope p2) pos) (b8 i (cD ti fr (bQ 0) cM te)):=
 dH (tT (gh:=fun _=>cB 0) (tch:=fun H=>LT (X.frm H) cM) (teh:=fun H=>LE (X.frm H) te) hc S hi (qR he (fun _ _ _ _=>o8) hN h0 hl) nd hz hzl hsw hs) fun D σ H h=>kQ (nU _ 0) (fun i e=>by subst e; exact hf) (uJ h)
theorem aw0 {i:Nat}{z:Str}{zp:Pos} (nd:X.N.Nodup) (hi:QI X (.Name x tp) iter ti) (he:∀ (s:Shared) (H:Hp) (C:Addr) (fp:List Addr),QE (bI X scope N s H C fp bW) elt te)
  (hz:X.N[i]? = some z:=by rfl) (hzl:X.env.scope.names.lookup z=some .local:=by rfl) (hsw:swapsWith (.ListComp elt [⟨.Name x tp,iter,[],0⟩] scope p2) (some (.Name z zp)) pos.line X.env=pure true:=by rfl)
  (hc:X.calm=true:=by rfl) (S:c9 X scope N fr:=by exact c9.of rfl rfl) (hN:N.Nodup:=by decide +kernel) (h0:N[0]? = some x:=by rfl) (hl:∀ (s:Shared) (H:Hp) (C:Addr) (fp:List Addr),(bI X scope N s H C fp bW).env.scope.names.lookup x=some .local:=by intro _ _ _ _; rfl) (hf:fr[0]? = some none:=by rfl)
  (hs:∀ x,foldedSetIterable iter X.env x=pure x:=by intro _; rfl):QS X (.Assign [.Name z zp] (.ListComp elt [⟨.Name x tp,iter,[],0⟩] scope p2) pos) (dQ i (cD ti fr (bQ 0) cM te)):=
 dH (tT (gh:=fun _=>cB 0) (tch:=fun H=>LT (X.frm H) cM) (teh:=fun H=>LE (X.frm H) te) hc S hi (qR he (fun _ _ _ _=>o8) hN h0 hl) nd hz hzl hsw hs) fun D σ H h=>kQ (nU _ 0) (fun i e=>by subst e; exact hf) (F0 h)
end
theorem aw1:lJ X "list.extend" (F1 X.K):=fun pins s σ H x xs v us Q I rx rs h=>h.elim (aj0 pins s σ H x xs v us Q I rx rs) (ap1 pins s σ H x xs v us Q I rx rs)
theorem aw2 (i:Nat) {x:Str}{apos cpos xpos:Pos} (he:QE X e te) (hN:X.N[i]? = some x:=by rfl) (hv:gF X.env.scope x:=by first | exact Or.inl rfl | exact Or.inr (Or.inl rfl) | exact Or.inr (Or.inr rfl)) (hd:(x == ("__debug__" : Str))=false:=by decide) (hcd:(x == ("__classdict__" : Str))=false:=by decide)
  (hbase:attributeBase (.Name x xpos) "extend" X.env (eval (.Name x xpos) X.env)=eval (.Name x xpos) X.env:=by rfl)
  (hfew:((backTo cpos (starEach [e] X.env)).all (fun x=>!x.1) && (backToKw cpos (keywordEach [] X.env)).all (fun x=>x.1.isSome) && decide (([e]:List Expr).length+([]:List Keyword).length+(if ([]:List Keyword).isEmpty then 0 else 1) < 30))=true:=by rfl)
  (hline:(apos.endLine == cpos.line)=true:=by rfl) (hs:starEach [e] X.env=(false,eval e X.env) :: starEach [] X.env:=by rfl) (hplain:(backTo cpos (starEach [] X.env)).any (·.1)=false:=by rfl)
  (hsw:swapsWith (.Call (.Attribute (.Name x xpos) "extend" apos) [e] [] cpos) none pos.line X.env=pure false:=by rfl) :
  QS X (.Expr (.Call (.Attribute (.Name x xpos) "extend" apos) [e] [] cpos) pos) (uK i te):=
 dH (kB (kE aZ9 PySem.F.slot_list_extend PySem.F.type_list_extend aw1 (iO hN hv hd hcd) (cP he cZ hs) hbase hfew hline hs hplain) hsw) fun _ _ _=>ar3
theorem oA {i:Nat}{x:Str}{xpos tpos:Pos} (hk:QE X a tk) (he:QE X e te) (hN:X.N[i]? = some x:=by rfl) (hv:gF X.env.scope x:=by first | exact Or.inl rfl | exact Or.inr (Or.inl rfl) | exact Or.inr (Or.inr rfl)) (hd:(x == ("__debug__" : Str))=false:=by decide) (hcd:(x == ("__classdict__" : Str))=false:=by decide)
  (hp:∀ (tx:TE) (tg:TE),PE X (.Name x xpos) tx->PE X a tg->PG X (.Subscript (.Name x xpos) a tpos) (sJ tx tg t8):=by intro _ _ h1 h2; exact ad3 h1 h2 ai0)
  (hs:swapsWithSole [.Subscript (.Name x xpos) a tpos] e pos.line X.env=pure false:=by rfl) (hw:swappedStores [.Subscript (.Name x xpos) a tpos] e X.env=pure none:=by rfl) :
  QS X (.Assign [.Subscript (.Name x xpos) a tpos] e pos) (kM i tk te):=dH (ad4 he (hp _ _ (iO hN hv hd hcd) hk) hs hw) fun _ _ _=>ar4
end
end PP
namespace SO
open PySem PyProof.Rows
variable {rk : Keyed → Int}
section
variable {κ : SortKind} {a0 : Array Keyed} {pd : Array (Nat × Nat × Nat)} {st : SortSt} {prog : Program} {w : World} {A : Around} {E : Value → Shared → Prop} {s : Shared} {Ok : Keyed → Prop}
noncomputable abbrev DS:=Option (Option Nat) × Nat × Nat
end
noncomputable abbrev LS:=Option (Array Keyed) × Array Keyed × Nat × Nat × Nat × Nat × Nat
noncomputable abbrev LO:=Option (Array Keyed) × Array Keyed × Nat × Nat × Nat
variable {rk : Keyed → Int} {xs ys o : List Keyed} {i j : Nat}
variable {rk : Keyed → Int} {xs ys o : List Keyed} {i j : Nat}
variable {rk : Keyed → Int}
noncomputable def Ch:Nat->List (Nat × Nat)->Nat->Prop
 | a,[],b=>a=b
 | a,(p,n) :: r,b=>p=a/\0 < n/\Ch (a+n) r b
variable {rk : Keyed → Int} {κ : SortKind} {a0 : Array Keyed} {pd : Array (Nat × Nat × Nat)} {st : SortSt} {prog : Program} {w : World} {A : Around} {E : Value → Shared → Prop} {s : Shared} {Ok : Keyed → Prop}
end SO
namespace L2
open PySem PySem.Spec PyProof.Rows
theorem bY.at {P:Program}{w:World}{H:Hp}{h:Heap}{a:Addr}{o:HO} (x:bY P w H h a o):∃ ob,h.get? a=some ob:=by
 cases o with
 | lst xs=>obtain ⟨_,_,_,_,e⟩:=x; exact⟨_,e⟩
 | tup xs=>obtain ⟨_,_,_,⟨_,e,_⟩,_⟩:=x; exact⟨_,e⟩
 | dK kvs=>obtain ⟨_,_,_,_,_,_,_,e,_⟩:=x; exact⟨_,e⟩
 | dT kvs=>obtain ⟨_,_,_,_,_,_,_,e,_⟩:=x; exact⟨_,e⟩
 | set S n=>obtain ⟨_,_,_,_,e,_⟩:=x; exact⟨_,e⟩
 | ins C dx fs=>obtain ⟨_,_,_,e,_⟩:=x; exact⟨_,e⟩
 | own y=>exact x
 | xd fs=>obtain ⟨_,⟨_,_,_,e,_⟩,_⟩:=x; exact⟨_,e⟩
 | rng lo hi=>obtain ⟨_,_,_,e⟩:=x; exact⟨_,e⟩
 | frz ob u=>obtain ⟨e,_⟩:=x; exact⟨_,e⟩
 | tbl ps=>exact⟨_,x⟩
 | met f y=>exact⟨_,x⟩
 | ext φ=>exact x.2.1
structure kY (P:Program) (w:World) (outer:List Env) (H:Hp) (s:Shared) (H':Hp) (B:Heap) (a C:Addr) (s':Shared):Prop where
 os:s'.os=s.os
 bare:AllBare s'.gens
 un:Un (bM outer) [] H H' s.heap s'.heap
 hok:bO P w H' s'.heap
 fly:∃ a0,Heap.FlyingW B outer a (.ref C) a0 s'.heap
 b0:∀ b o,s.heap.get? b=some o->b ∉ bM outer->∃ o',B.get? b=some o'
 b1:∀ b o,s.heap.get? b=some o->H b=none->b ∉ bM outer->B.get? b=some o
 b2:∀ b u o,H' b=some u->s'.heap.get? b=some o->B.get? b=some o
noncomputable def dW (P:Program) (w:World):gI:=fun outer H s E e s'=>∃ (H':Hp) (B:Heap) (a C:Addr),e = .ref a/\kY P w outer H s H' B a C s'/\E (.ref C) none H'
section
variable {P : Program} {w : World} {outer : List Env} {H H' : Hp} {s s' : Shared} {B h2 : Heap} {a C : Addr}
theorem kY.fresh (f:kY P w outer H s H' B a C s'):H' a=none:=by
 cases q:H' a with
 | none=>rfl
 | some u=>
  obtain ⟨ob,e⟩:=(f.hok a u q).at
  have z:=f.b2 a u ob q e
  obtain ⟨_,_,n,_⟩:=f.fly
  rw [n] at z; cases z
theorem kY.hok2 (f:kY P w outer H s H' B a C s') (k:B.StaysIn h2):bO P w H' h2:=fun b u e=>
 (f.hok b u e).stay (fun c v hc q=>by
  rcases hc with z | z
  ·subst z; exact k _ _ (f.b2 _ _ _ e q)
  ·exact k _ _ (f.b2 _ _ _ z q)) (fun _ q=>q) fun _ _ q=>q
end
section
variable {P : Program} {w : World} {K : PySem.W.Frag} {mg : Str → Option Value} {base : Heap} {N : List Str} {qual : Str} {scope : Scope} {f : Addr} {cd : Value} {A : Around} {outer : List Env} {s₀ : Shared} {H₀ : Hp} {E₀ E₁ : XK}
theorem qS {pins:List (Addr × Obj)}{σ:St}{H:Hp}{s:Shared} (I:a6 (dA (dW P w) P w K mg base N qual scope f cd A outer s₀ H₀ E₀) pins σ H s) {b:Addr}{o:Obj} (e:s₀.heap.get? b=some o) (n:b ∉ bM outer) :
  b ∉ bM (envOfC qual scope s₀.heap.objs.size f cd :: outer):=fun z=>by
 rcases aU0.mp (I.stkSub b z) with y | y
 ·have l:=aU7 e
  have y:b=s₀.heap.objs.size:=y
  exact absurd l (by rw [y]; exact aX8 _)
 ·exact n y
theorem aw3 (hE:∀ c d H',E₁ c d H'->E₀ c d H'):mX (dW P w) (dA (dW P w) P w K mg base N qual scope f cd A outer s₀ H₀ E₀) E₁:=by
 intro pins σ H s e s' I hx
 obtain ⟨H',B,a,C,e1,fl,q⟩:=hx
 subst e1
 have I':=I.call' fl.os fl.un fl.hok fl.bare (ch:=[]) (fun b z=>absurd z (by simp))
 obtain ⟨a0,fly⟩:=fl.fly
 refine wpAny_leaves_onW I.ok.frames rfl fly fun h' fly' up=>?_
 have slot:∀ b o,s₀.heap.get? b=some o->b ∈ bM outer->∃ sl,h'.get? b=some { o with slots:=sl }:=fun b o e hb=>by
  obtain ⟨sl,e1⟩:=I'.base.slot b o e (I.ok.frf b hb) hb (fun z=>nomatch z)
  obtain ⟨_,o2,e2,nf⟩:=I.ok.funs.mem hb
  rw [show (dA (dW P w) P w K mg base N qual scope f cd A outer s₀ H₀ E₀).s₀=s₀ from rfl,e] at e2
  cases e2
  obtain ⟨sl',e3⟩:=up b _ e1 nf
  exact⟨sl',e3⟩
 have old:∀ b o,s₀.heap.get? b=some o->H₀ b=none->b ∉ bM outer->B.get? b=some o:=fun b o e n hb=>
  fl.b1 b o (I.base.keep b o e n hb (fun z=>nomatch z)) (I.base.free b o e n (fun z=>nomatch z)) (qS I e hb)
 have old0:∀ b o,s₀.heap.get? b=some o->b ∉ bM outer->∃ o',B.get? b=some o':=fun b o e hb=>by
  obtain ⟨o1,e1⟩:=I.base.there b o e (fun z=>nomatch z)
  exact fl.b0 b o1 e1 (qS I e hb)
 refine⟨H',B,a,C,rfl,⟨I'.os,I'.bare,⟨fun b o e n hb _=>fly'.1 _ _ (old b o e n hb),fun b o e n hb _=>slot b o e hb,fun b o e n hx=>I'.base.free b o e n hx,fun b o e _=>?_,I'.base.tups,I'.base.frzs,I'.base.tbls⟩,fl.hok2 fly'.1,⟨a0,fly'⟩,old0,old,fun b u o e h=>?_⟩,hE _ _ _ q⟩
 ·by_cases hb:b ∈ bM outer
  ·obtain ⟨sl,e1⟩:=slot b o e hb
   exact⟨_,e1⟩
  ·obtain ⟨o',e1⟩:=old0 b o e hb
   exact⟨o',fly'.1 _ _ e1⟩
 ·obtain ⟨ob,e1⟩:=(fl.hok b u e).at
  have e2:=fl.b2 b u ob e e1
  have e3:=fly'.1 _ _ e2
  have h:h'.get? b=some o:=h
  rw [h] at e3; cases e3; exact e2
theorem aw4 {pins:List (Addr × Obj)}{σ:St}{H:Hp}{s:Shared}{h':Heap}{e C:Addr}{args:List Value} (I:a6 (dA (dW P w) P w K mg base N qual scope f cd A outer s₀ H₀ E₀) pins σ H s) (mx:Heap.MadeExcOf s.heap h' e (.ref C) args) (q:E₀ (.ref C) none H) :
  (dA (dW P w) P w K mg base N qual scope f cd A outer s₀ H₀ E₀).xe (.ref e) { s with heap:=h' }:=by
 have tr:∀ b u,H b=some u->b ∉ bM (envOfC qual scope s₀.heap.objs.size f cd :: outer):=fun b u z n=>by
  rw [I.stkFree b n] at z; cases z
 have inB:∀ b o,s.heap.get? b=some o->b ∉ bM (envOfC qual scope s₀.heap.objs.size f cd :: outer)->(PySem.W.hideAll s.heap (bM (envOfC qual scope s₀.heap.objs.size f cd :: outer))).get? b=some o:=fun b o z n=>PySem.W.hideAll_get _ z n
 refine wpAny_leaves_madeW (base:=PySem.W.hideAll s.heap (bM (envOfC qual scope s₀.heap.objs.size f cd :: outer))) I.ok.frames rfl (fun b o z=>PySem.W.of_hideAll _ z) (PySem.W.funFrames_hide I.stack fun env he b hb=>List.mem_filterMap.mpr ⟨env,he,hb⟩) mx fun h'' t fly _ _ up=>?_
 have slot:∀ b o,s₀.heap.get? b=some o->b ∈ bM outer->∃ sl,h''.get? b=some { o with slots:=sl }:=fun b o e hb=>by
  obtain ⟨sl,e1⟩:=I.base.slot b o e (I.ok.frf b hb) hb (fun z=>nomatch z)
  obtain ⟨_,o2,e2,nf⟩:=I.ok.funs.mem hb
  rw [show (dA (dW P w) P w K mg base N qual scope f cd A outer s₀ H₀ E₀).s₀=s₀ from rfl,e] at e2
  cases e2
  obtain ⟨sl',e3⟩:=up b _ (mx.keeps _ _ e1) nf
  exact⟨sl',e3⟩
 have old:∀ b o,s₀.heap.get? b=some o->H₀ b=none->b ∉ bM outer->(PySem.W.hideAll s.heap (bM (envOfC qual scope s₀.heap.objs.size f cd :: outer))).get? b=some o:=fun b o e n hb=>
  inB b o (I.base.keep b o e n hb (fun z=>nomatch z)) (qS I e hb)
 have old0:∀ b o,s₀.heap.get? b=some o->b ∉ bM outer->∃ o',(PySem.W.hideAll s.heap (bM (envOfC qual scope s₀.heap.objs.size f cd :: outer))).get? b=some o':=fun b o e hb=>by
  obtain ⟨o1,e1⟩:=I.base.there b o e (fun z=>nomatch z)
  exact⟨o1,inB b o1 e1 (qS I e hb)⟩
 refine⟨H,_,e,C,rfl,⟨I.os,I.bare,⟨fun b o e n hb _=>fly.1 _ _ (old b o e n hb),fun b o e n hb _=>slot b o e hb,fun b o e n hx=>I.base.free b o e n hx,fun b o e _=>?_,I.base.tups,I.base.frzs,I.base.tbls⟩,fun b u z=>?_,⟨_,fly⟩,old0,old,fun b u o z h=>?_⟩,q⟩
 ·by_cases hb:b ∈ bM outer
  ·obtain ⟨sl,e1⟩:=slot b o e hb
   exact⟨_,e1⟩
  ·obtain ⟨o',e1⟩:=old0 b o e hb
   exact⟨o',fly.1 _ _ e1⟩
 ·refine (I.hok b u z).stay (fun c v hc y=>?_) (fun _ y=>y) fun _ _ y=>y
  rcases hc with z' | z'
  ·subst z'; exact fly.1 _ _ (inB _ _ y (tr _ _ z))
  ·exact fly.1 _ _ (inB _ _ y (tr _ _ z'))
 ·obtain ⟨ob,e1⟩:=(I.hok b u z).at
  have e2:=inB b ob e1 (tr b u z)
  have e3:=fly.1 _ _ e2
  have h:h''.get? b=some o:=h
  rw [h] at e3; cases e3; exact e2
end
structure m9 (X:Cx) (E:XK):Prop where
 pass:mX (dW X.prog X.w) X E
 made:∀ (pins:List (Addr × Obj)) (σ:St) (H:Hp) (s:Shared) (h':Heap) (e C:Addr) (args:List Value),a6 X pins σ H s->Heap.MadeExcOf s.heap h' e (.ref C) args->E (.ref C) none H->X.xe (.ref e) { s with heap:=h' }
 own:PassesOwn (model X.prog X.w) X.A X.env X.xe
theorem aw5 {P:Program}{w:World}{K:PySem.W.Frag}{mg:Str->Option Value}{base:Heap}{N:List Str}{qual:Str}{scope:Scope}{f:Addr}{cd:Value}{A:Around}{outer:List Env}{s₀:Shared}{H₀:Hp}{E₀ E₁:XK} (hE:∀ c d H',E₁ c d H'->E₀ c d H') :
  m9 (dA (dW P w) P w K mg base N qual scope f cd A outer s₀ H₀ E₀) E₁:=
 ⟨aw3 hE,fun _ _ _ _ _ _ _ _ I mx q=>aw4 I mx (hE _ _ _ q),PassesOwn.leaving⟩
noncomputable def K3 (E:XK) (C:Addr) (t:TA):TS:=fun _ σ H=>t σ H fun vs H1=>vs.length<=sizeLine/\E (.ref C) none H1
theorem aw6 {X:Cx}{E:XK}{x:Str}{C:Addr}{bm:List Value}{B newId initId:String}{np cpos pos:Pos}{e:Expr}{es:List Expr}{t:TA} (hX:m9 X E) (hc:X.calm=true) (O:OwnCls x C bm newId X.mg X.base) (FB:ExcBaseFacts B newId initId bm) (ha:PA X (e :: es) t) (hg:Gl X x)
  (hd:(x == ("__debug__" : Str))=false:=by decide) (he:starEach (e :: es) X.env=(false,eval e X.env) :: starEach es X.env:=by rfl) (hpl:(backTo cpos (starEach es X.env)).any (·.1)=false:=by rfl) :
  PS X (.Raise (some (.Call (.Name x np) (e :: es) [] cpos)) none pos) (K3 E C t):=by
 intro pins s σ H D I h
 obtain ⟨tl,Na,nm,qn,bs,hx,sn,sub,ab,col,dd,k0,k1,k2,k3,k5,mN,hC,hN,hni,T⟩:=O.obj
 refine wpAny_Raise_call_subT (nm:=nm) (q:=qn) (N:=Na) (bs:=bs) (bm:=tl) (hdct:=hx) (sn:=sn) (sub:=sub) (ab:=ab) (col:=col) (dd:=dd) (k0:=k0) (k1:=k1) (k2:=k2) (k3:=k3) (k5:=k5) FB (C:=C) (mN:=mN) (T.hasType FB.hasBase) (I.ok.hd hc) (by rw [he]; show (false || (backTo cpos (starEach es X.env)).any (·.1))=false; rw [hpl]; rfl) hni (oX I hg O.bound ⟨rfl,?_⟩ hd)
 have h1:=ha cpos pins s σ H _ I h
 rw [he] at h1 ⊢
 refine Calls.evalArgs_plain (ba6 h1 (fun us s2 h2=>?_) fun _ _ y=>y)
 obtain ⟨vs,H2,I2,r,hl,q⟩:=h2
 have r:aI vs us:=r
 exact⟨rfl,by show us.length<=sizeLine; rw [<- r.length]; exact hl,I2.bk _ _ hC,hN.keeps I2.bk,T.keeps I2.bk,fun h' e' mx=>hX.made pins σ H2 s2 h' e' C _ I2 mx q⟩
theorem eO.okX {P:Program}{w:World}{K:PySem.W.Frag}{mg:Str->Option Value}{base:Heap}{x qual:Str}{st:Stmt}{f:Addr}{fd:FuncData}{N ps:List Str}{k:Nat}{sp:Sp} (F:eO K x qual st f fd) (S:FnScope N ps (aX st)) (len:∀ vs H Q E,sp vs H Q E->vs.length=ps.length)
  (hbody:∀ (cdv:Value) (A:Around) (outer:List Env) (s:Shared) (H:Hp) (vs:List V) (Q:VK) (E:XK),bZ k (A.deeper (envOfC qual (aX st) s.heap.objs.size f cdv))->sp vs H Q E->
   ∃ t,dO (dA (dW P w) P w K mg base N qual (aX st) f cdv A outer s H E) (eN st) t/\t { nx:=fun _ H'=>Q .non H',rt:=Q } (start N vs) H):cF P w K mg base (dW P w) (k+1) f fd ps sp:=by
 obtain ⟨oc,od,kV,doc,pm,an,cdv,ct,osl,rfl,lk,hcd⟩:=F.ex
 exact yM lk hcd S len fun A outer s H vs Q E hr hsp=>hbody cdv A outer s H vs Q E hr hsp
section
variable {X : Cx} {pins : List (Addr × Obj)} {σ : St} {H H1 H' : Hp} {s s1 s' : Shared} {B h2 : Heap} {a C : Addr}
theorem K4 {oe:Obj} (I:a6 X pins σ H1 s1) (fl:kY X.prog X.w X.stack H1 s1 H' B a C s') (st:B.StaysIn h2) (up:s'.heap.UpToSlots h2) (he:h2.get? a=some oe) :
  a6 X pins σ (upd H' a (.frz oe (.own a))) { s' with heap:=h2 }:=by
 obtain ⟨a0,fly⟩:=fl.fly
 have na:B.get? a=none:=fly.2.1
 have nf:a ∉ bM X.stack:=fun z=>by
  obtain ⟨_,o,e,d⟩:=fly.2.2.1.mem z
  obtain ⟨o2,vs,e2,_,d2,_⟩:=fly.first
  rw [e] at e2; cases e2
  exact d vs d2
 have nb:∀ b o,s1.heap.get? b=some o->b ≠ a:=fun b o e z=>by
  subst z
  obtain ⟨o',e'⟩:=fl.b0 _ o e nf
  rw [na] at e'; cases e'
 have nt:∀ b u,H' b=some u->b ≠ a:=fun b u e z=>by
  subst z; rw [fl.fresh] at e; cases e
 have off:∀ b,b ≠ X.env.locals->b ∉ X.fs->b ∉ bM X.stack:=fun b n1 n2 z=>(aU0.mp (I.stkSub b z)).elim n1 n2
 have slot:∀ b o,s1.heap.get? b=some o->b ∈ bM X.stack->∃ sl,h2.get? b=some { o with slots:=sl }:=fun b o e hb=>by
  obtain ⟨sl,e1⟩:=fl.un.any e (I.stkFree b hb) (fun z=>nomatch z)
  obtain ⟨_,o2,e2,d⟩:=I.stack.mem hb
  rw [e] at e2; cases e2
  obtain ⟨sl',e3⟩:=up b _ e1 d
  exact⟨sl',e3⟩
 have ns:∀ m,s1.heap.Ns X.env.locals m->h2.Ns X.env.locals m:=fun m hm=>by
  obtain ⟨o,es,ep,e,r⟩:=hm
  obtain ⟨sl,e1⟩:=fl.un.any e I.free (fun z=>nomatch z)
  exact up.ns ⟨_,es,ep,e1,r⟩
 have hok:bO X.prog X.w (upd H' a (.frz oe (.own a))) h2:=fun b u e=>by
  by_cases hb:b=a
  ·subst hb; rw [bK] at e; cases e; exact⟨he,_,he⟩
  ·rw [aZ hb] at e
   exact (fl.hok2 st b u e).stay (fun _ _ _ q=>q) (fun c q=>by rw [aZ (nt c _ q)]; exact q) fun c xs q=>by rw [aZ (nt c _ q)]; exact q
 have bare:=fl.bare
 have un:=fl.un
 have b0:=fl.b0
 have b1:=fl.b1
 have os:=fl.os
 clear fl fly up
 obtain ⟨hh,g,d,t,os'⟩:=s'
 obtain rfl:os'=s1.os:=os
 show a6 X pins σ _ { s1 with heap:=h2,gens:=g,drawn:=d,toks:=t }
 refine I.step (h':=h2) (g':=g) (d':=d) (t':=t) (ch:=[]) (fun _ z=>nomatch z) (fun b o n1 n2 _ e n=>st _ _ (b1 b o e n (off b n1 n2))) (fun b o n1 hb _ e n=>?_) (fun b o _ e n=>by rw [aZ (nb b o e)]; exact un.free b o e n (fun z=>nomatch z)) (fun b o _ e=>?_)
  (fun b xs q=>by rw [aZ (nt b _ (un.tups b xs q))]; exact un.tups b xs q) (fun b o u q=>by rw [aZ (nt b _ (un.frzs b o u q))]; exact un.frzs b o u q) (fun b ps q=>by
   obtain ⟨more,q'⟩:=un.tbls b ps q
   exact⟨more,by rw [aZ (nt b _ q')]; exact q'⟩) ns hok bare
 ·by_cases hs:b ∈ bM X.stack
  ·exact slot b o e hs
  ·exact⟨o.slots,st _ _ (b1 b o e n hs)⟩
 ·by_cases hb:b ∈ bM X.stack
  ·obtain ⟨sl,e1⟩:=slot b o e hb
   exact⟨_,e1⟩
  ·obtain ⟨o',e1⟩:=b0 b o e hb
   exact⟨o',st _ _ e1⟩
noncomputable abbrev Cx.suite (X:Cx) (a:Addr):Cx:={ X with A:=X.A.mark (some (.ref a)),calm:=false,xe:=fun _ _=>False }
theorem Cx.Ok.suite {X:Cx} (ok:X.Ok) (a:Addr):(X.suite a).Ok:=
 ⟨ok.mod,ok.kind,ok.glob,ok.blt,ok.above,ok.inj,ok.has,ok.cab,fun z=>Bool.noConfusion z,ok.frames,ok.stk,ok.exf,ok.bs,ok.bsz,ok.noex,ok.exfs,ok.funs,ok.frf⟩
theorem a6.suite (I:a6 X pins σ H s) (a:Addr):a6 (X.suite a) pins σ H s:=⟨I.ok.suite a,I.os,I.bare,I.base,I.loc,I.cell,I.free,I.freeC,I.pin,I.hok,I.len⟩
theorem a6.unsuite (I:a6 (X.suite a) pins σ H s) (ok:X.Ok):a6 X pins σ H s:=⟨ok,I.os,I.bare,I.base,I.loc,I.cell,I.free,I.freeC,I.pin,I.hok,I.len⟩
theorem aw7 {M:Model}{A:Around}{E:Value->Shared->Prop}{K:PySem.W.Frag}{e C D:Addr}{oe:Obj}{Q:Bool->Shared->Prop} (k:K.In s.heap) (he:s.heap.get? e=some oe) (hc:oe.cls = .ref C) (h1:(PySem.W.clsIn K D).isSome=true) (h2:PySem.W.typeIn K (.ref D)=some (.type "type"))
  (h3:PySem.W.subIn K (.ref D) (.type "BaseException")=some true) (h4:PySem.W.subIn K (.ref C) (.ref D)=some true) (hq:Q true s):wpAny M A (excMatches (.ref e) (.ref D)) Q E s:=by
 obtain ⟨h,g,d,t,os⟩:=s
 have k:K.In h:=k
 have he:h.get? e=some oe:=he
 have l1:PySem.W.Looks M h (isType (.ref D)) true:=by
  unfold PySem.W.clsIn at h1
  split at h1
  ·rename_i c' d' cd' sl' ho
   intro A' Q' E' s' kk q
   unfold isType loadHead
   exact aS6 (wpAny_loadPart (kk _ _ (k _ _ ho)) (aT6 q))
  ·cases h1
 have l2:PySem.W.Looks M h (typeOf (.ref D)) (.type "type"):=PySem.W.looks_typeIn k h2
 have l3:PySem.W.Looks M h (isSubtype (.ref D) (.type "BaseException")) true:=PySem.W.looks_subIn k h3
 have l4:PySem.W.Looks M h (isSubtype (.ref C) (.ref D)) true:=PySem.W.looks_subIn k h4
 have l5:PySem.W.Looks M h (typeOf (.ref e)) (.ref C):=hc ▸ (PySem.W.Looks.ld he).andThen .now
 have l6:PySem.W.Looks M h (isInstance (.ref D) (.type "tuple")) false:=l2.andThen (PySem.W.Looks.of_pure tc_notTuple)
 have l7:PySem.W.Looks M h (isExcClass (.ref D)) true:=by
  unfold isExcClass
  exact l1.andThen (by simpa using l3)
 have f:=tc_notTuple
 unfold excMatches
 repeat (first | exact hq | (with_reducible refine l2.at ?_) | (with_reducible refine l7.at ?_) | (with_reducible refine l1.at ?_) | (with_reducible refine l3.at ?_) | (with_reducible refine l5.at ?_) | (with_reducible refine l4.at ?_) | wp_step)
end
section
variable {X : Cx} {pins : List (Addr × Obj)} {σ : St} {H H1 H' : Hp} {s s1 s' : Shared} {B : Heap} {a C Ch : Addr} {i : Nat} {x n : Str} {np pos hpos : Pos} {b₀ : Stmt} {suite : List Stmt} {ts : TS} {D : cX} {cS : List ExceptHandler}
structure vC (K:PySem.W.Frag) (Ch:Addr):Prop where
 c1:(PySem.W.clsIn K Ch).isSome=true
 c2:PySem.W.typeIn K (.ref Ch)=some (.type "type")
 c3:PySem.W.subIn K (.ref Ch) (.type "BaseException")=some true
end
noncomputable abbrev TB:=cX->XK->St->Hp->Prop
noncomputable def XB (X:Cx) (pins:List (Addr × Obj)) (σ:St) (Ex:XK):Value->Shared->Prop:=fun e s'=>∃ H1 s1,a6 X pins σ H1 s1/\dW X.prog X.w X.stack H1 s1 Ex e s'
noncomputable def PB (X:Cx) (sts:List Stmt) (t:TB):Prop:=
 ∀ (pins:List (Addr × Obj)) (s:Shared) (σ:St) (H:Hp) (D:cX) (Ex:XK),a6 X pins σ H s->t D Ex σ H->wpAny (model X.prog X.w) X.A (execs sts X.env) (SP X pins D) (XB X pins σ Ex) s
section
variable {X : Cx}
noncomputable def K5:V->List V->Hp->VK->Prop:=fun x vs H Q=>∃ l xs y,∃ k:Nat,x = .ref l/\vs = [.int k,y]/\H l=some (.lst xs)/\k<=xs.length/\xs.length < sizeLine/\Q .non (upd H l (.lst (xs.take k ++ y :: xs.drop k)))
theorem aw8:lJ X "list.insert" K5:=by
 intro pins s σ H x vs v us Q I rx rv h
 obtain ⟨l,xs,y,k,rfl,rfl,hH,hk,hz,q⟩:=h
 obtain ⟨u1,u2,rfl,⟨t,rfl⟩,r2⟩:=rv.two
 obtain rfl:v=Value.ref l:=rx
 obtain ⟨z,its,n,r,hl,e⟩:=I.lstM hH
 have hs:sizeLine=16777216:=sizeLine_eq
 obtain ⟨x,hx⟩:∃ x:Int,x=(k:Int):=⟨_,rfl⟩
 rw [<- hx]
 have hf : ¬(!Builtin.List.listFitsIndex x)=true:=by
  have h1:Builtin.List.listFitsIndex x=true:=by
   unfold Builtin.List.listFitsIndex
   rw [aX1]
   exact⟨aT1 (by omega),aT1 (by omega)⟩
  rw [h1]; exact aV1
 have hz2:its.toArray.size<=sizeLine:=by rw [aU2]; omega
 refine call_meets PySem.F.slot_list_insert ⟨_,e,rfl⟩ PySem.F.entry_list_insert (PySem.F.args_list_insert_3 _ _ _) (AutoSeq1.list_insert_list_int_val_1 l its.toArray n x t u2 hf hz2) ⟨e,.non,_,?_,rfl,q⟩
 refine I.lset (its':=its.take k ++ u2 :: its.drop k) hH e ?_ ((r.take k).append (.cons r2 (r.drop k))) ?_
 ·have e1:(if x < 0 then (x+(its.toArray.size:Int)).toNat else min x.toNat its.toArray.size)=k:=by
   rw [if_neg (by omega),aU2]
   omega
  dsimp only
  rw [e1]
  apply Array.toList_inj.mp
  simp only [Array.toList_append,Array.toList_push,Array.toList_extract,List.extract_eq_drop_take]
  simp
  rw [aW0 (by rw [aZ8]; omega)]
 ·rw [aU6,aV8,aZ6,aZ8]
  omega
end
end L2
namespace Core
open PySem L2 PP
noncomputable def i3 (ns:List Int):Bool:=((ns.zip (ns.drop 1)).map fun p=>decide (p.1 < p.2)).all id
theorem oB {α β:Type}{l:List α}{f:α->β}{i:Nat}{x:α} (h:l[i]? = some x):(l.take (i+1)).map f=(l.take i).map f ++ [f x]:=by
 rw [aX0,h]; simp
theorem fU:∀ {ns:List Int},i3 ns=true->ns.Pairwise (· < ·)
 | [],_=>.nil
 | [x],_=>aW1 _ _
 | x :: y :: r,h=>by
  have e:i3 (x :: y :: r)=(decide (x < y) && i3 (y :: r)):=rfl
  rw [e,aX1] at h
  have ih:=fU h.2
  refine aY5.mpr ⟨fun z hz=>?_,ih⟩
  rcases aU0.mp hz with rfl | hz
  ·exact aW8 h.1
  ·exact Int.lt_trans (aW8 h.1) (List.rel_of_pairwise_cons ih hz)
theorem vD:∀ {ns:List Int},ns.Pairwise (· < ·)->i3 ns=true
 | [],_=>rfl
 | [x],_=>rfl
 | x :: y :: r,h=>by
  have e:i3 (x :: y :: r)=(decide (x < y) && i3 (y :: r)):=rfl
  have h':=aY5.mp h
  rw [e,vD h'.2,Bool.and_true]
  exact aT1 (h'.1 y aS8)
noncomputable def kin (ws:List Int) (ls:List (Int × Int)) (S:List Int) (h:Int):Bool:=!decide (h ∈ S) && decide (ws.getD h.toNat 0<=(((aK ls h).filter fun x=>decide (x ∈ S)).length:Int))
noncomputable def nextOf (ws:List Int) (ls:List (Int × Int)) (S:List Int):List Int:=((List.range ws.length).map fun (i:Nat)=>(i:Int)).filter (kin ws ls S)
noncomputable def oC (ws:List Int) (ls:List (Int × Int)) (S:List Int):Nat->List Int
 | 0=>S
 | k+1=>oC ws ls S k ++ nextOf ws ls (oC ws ls S k)
noncomputable def K6 (ws:List Int) (S:List Int):Nat:=(((List.range ws.length).map fun (i:Nat)=>(i:Int)).filter fun x=>!decide (x ∈ S)).length
theorem K7 {α:Type} (p q:α->Bool) (h:∀ x,q x=true->p x=false):∀ L:List α,(L.filter fun x=>!p x && !q x).length+(L.filter q).length=(L.filter fun x=>!p x).length
 | []=>rfl
 | x :: r=>by
  have ih:=K7 p q h r
  cases e1:p x with
  | true=>
   have e2:q x=false:=by
    cases e:q x with
    | false=>rfl
    | true=>have:=h x e; rw [e1] at this; cases this
   simp only [bb2,e1,e2,Bool.not_true,Bool.false_and,aV7,aZ7]
   exact ih
  | false=>
   cases e2:q x with
   | true=>
    simp only [bb2,e1,e2,Bool.not_true,Bool.not_false,Bool.and_false,aV7,aZ7,if_true,aV8]
    omega
   | false=>
    simp only [bb2,e1,e2,Bool.not_false,Bool.and_true,aV7,aZ7,if_true,aV8]
    omega
noncomputable def after (ws:List Int) (ls:List (Int × Int)) (S:List Int) (m:Nat):List (List Int):=(List.range m).map fun k=>nextOf ws ls (oC ws ls S k)
theorem aw9 {ws ns:List Int} (hu:ns.Pairwise (· < ·)) (hin:∀ x ∈ ns,0<=x/\x < (ws.length:Int)):ns.length+K6 ws ns<=ws.length:=by
 have nd:ns.Nodup:=hu.imp fun h=>bd2 h
 have sub:ns ⊆ ((List.range ws.length).map fun (i:Nat)=>(i:Int)).filter fun x=>decide (x ∈ ns):=fun x hx=>by
  refine aU4.mpr ⟨aU8.mpr ⟨x.toNat,bh1.mpr ?_,?_⟩,aT1 hx⟩
  ·have:=hin x hx; omega
  ·have:=hin x hx; omega
 have h1:=nd.length_le_of_subset sub
 have h2:=K7 (fun _=>false) (fun x=>decide (x ∈ ns)) (fun _ _=>rfl) ((List.range ws.length).map fun (i:Nat)=>(i:Int))
 have h3:(((List.range ws.length).map fun (i:Nat)=>(i:Int)).filter fun x=>!false && !decide (x ∈ ns)).length=K6 ws ns:=rfl
 have h4:(((List.range ws.length).map fun (i:Nat)=>(i:Int)).filter fun x=>!false).length<=ws.length:=by
  refine aX5 (aX9 _ _) ?_
  rw [aS9,List.length_range]; exact aT2 _
 rw [h3] at h2
 omega
noncomputable def cX (ws:List Int) (ls:List (Int × Int)) (ns:List Int) (m:Nat):Prop:=(∀ k < m,nextOf ws ls (oC ws ls ns k) ≠ [])/\nextOf ws ls (oC ws ls ns m) = []
theorem gP {ns:List Int}{i:Nat}{x:PV} (h:(intz ns)[i]? = some x):∃ n,x = .int n/\ns[i]? = some n:=by
 rw [aT7] at h
 cases e:ns[i]? with
 | none=>rw [e] at h; cases h
 | some n=>rw [e] at h; exact⟨n,(aV2 h).symm,rfl⟩
theorem jB {lo:Int}{n i:Nat}{x:PV} (h:(dG lo n)[i]? = some x):x = .int (lo+i)/\i < n:=by
 have hi:i < n:=by
  have:=(aT3.mp h).1
  rwa [eQ] at this
 rw [uU hi] at h
 exact⟨(aV2 h).symm,hi⟩
noncomputable def rng (n:Nat):List Int:=(List.range n).map fun (i:Nat)=>(i:Int)
theorem dL (n:Nat):(rng n).length=n:=by unfold rng; rw [aS9,List.length_range]
theorem oD {n i:Nat} (h:i < n):(rng n)[i]? = some (i:Int):=by unfold rng; rw [aT7,List.getElem?_range h]; rfl
theorem cJ {n:Nat}{x:Int}:x ∈ rng n ↔ 0<=x/\x < (n:Int):=by
 unfold rng
 rw [aU8]
 constructor
 ·rintro ⟨i,hi,rfl⟩
  have:=bh1.mp hi
  omega
 ·intro h
  exact⟨x.toNat,bh1.mpr (by omega),by omega⟩
theorem oE {α:Type}{l:List α}{p:α->Bool}{i:Nat}{x:α} (h:l[i]? = some x):(l.take (i+1)).filter p=(l.take i).filter p ++ (if p x=true then [x] else []):=by
 rw [aX0,h,List.filter_append]
 congr 1
 cases e:p x <;> simp [e]
theorem gC (a b:List Int):intz (a ++ b)=intz a ++ intz b:=aV0
theorem bD (a:List Int):(intz a).length=a.length:=aS9 _
noncomputable def bE (ws:List Int) (ls:List (Int × Int)):PV:=.tup [.tup (intz ws),.tup (ls.map fun l=>.tup [.int l.1,.int l.2])]
structure Wb (ws:List Int) (ls:List (Int × Int)):Prop where
 few:ws.length<=40
 most:ls.length<=1700
 links:∀ l ∈ ls,(0<=l.1/\l.1 < ws.length)/\0<=l.2/\l.2 < ws.length
noncomputable def cV (x:PV) (ns:List Int):Prop:=x = .tup (intz ns) ∨ x = .lst (intz ns)
theorem cV.seq {x:PV}{ns:List Int} (h:cV x ns):iZ x=some (intz ns):=by rcases h with rfl | rfl <;> rfl
theorem cV.seqT {x:PV}{ns:List Int} (h:cV x ns):seqT x=some (intz ns):=by rcases h with rfl | rfl <;> rfl
theorem oF:∀ (ls:List (Int × Int)),flats (ls.map fun l=>PV.tup [.int l.1,.int l.2])=true
 | []=>rfl
 | l :: r=>by
  show (flat (.tup [.int l.1,.int l.2]) && flats (r.map fun l=>PV.tup [.int l.1,.int l.2]))=true
  rw [oF r]; rfl
theorem K8 (ws:List Int) (ls:List (Int × Int)):flat (bE ws ls)=true:=by
 show flats [.tup (intz ws),.tup (ls.map fun l=>PV.tup [.int l.1,.int l.2])]=true
 show (flat (.tup (intz ws)) && (flat (.tup (ls.map fun l=>PV.tup [.int l.1,.int l.2])) && true))=true
 show (flats (intz ws) && (flats (ls.map fun l=>PV.tup [.int l.1,.int l.2]) && true))=true
 rw [dB,oF]; rfl
noncomputable def fV:bH:=fun xs Q=>∃ ws ls,xs = [bE ws ls]/\Q (.int ws.length)
noncomputable def K9:aN:=(bP (aB dU (a7 (bA (a5 0) (qC (.int 0))) a9)))
noncomputable abbrev cA (t:aN) (N:List Str) (p:bH):Prop:=∀ xs Q,p xs Q->t { nx:=fun _=>Q .non,rt:=Q } (fR N xs)
theorem ax0:cA K9 ["web"] fV:=by
 rintro xs Q ⟨ws,ls,rfl,q⟩
 refine⟨_,rfl,_,_,_,rfl,rfl,rfl,_,_,rfl,rfl,trivial,?_⟩
 rw [bD]; exact q
noncomputable def vE:bH:=fun xs Q=>∃ x ns,xs = [x]/\cV x ns/\ns.length<=1000/\Q (.bl (i3 ns))
noncomputable def inB (n:Nat) (x:Int):Bool:=decide (0<=x) && decide (x < (n:Int))
noncomputable def qT:bH:=fun xs Q=>∃ ws ls n,xs = [bE ws ls,.int n]/\Q (.bl (inB ws.length n))
noncomputable def L0:aN:=(bP (kK (uX (a5 1) (qC (.int 0))) (kS (a5 1) (aB fV (a7 (a5 0) a9)))))
theorem ax1:cA L0 ["web","number"] qT:=by
 rintro xs Q ⟨ws,ls,n,rfl,q⟩
 refine⟨_,rfl,_,_,rfl,rfl,_,rfl,?_⟩
 unfold inB at q
 by_cases h:(0:Int)<=n
 ·rw [aT1 h] at q ⊢
  refine bN ⟨_,rfl,_,rfl,ws,ls,rfl,_,_,rfl,rfl,trivial,?_⟩
  simpa using q
 ·rw [aT8 h] at q ⊢
  exact bF ⟨trivial,by simpa using q⟩
noncomputable def b7 (n:Nat) (ns:List Int):Bool:=i3 ns && (ns.map (inB n)).all id
noncomputable def qU:bH:=fun xs Q=>∃ ws ls x ns,xs = [bE ws ls,x]/\cV x ns/\ns.length<=1000/\Q (.bl (b7 ws.length ns))
noncomputable def L1:aN:=(bP (kK (aB vE (a7 (a5 1) a9)) (aB uP (a7 (cD (cL (a5 1)) [none,some 0] (bQ 0) cM (aB qT (a7 (a5 1) (a7 (a5 0) a9)))) a9))))
theorem qV {x:PV}{ns:List Int} (h:cV x ns):(Slot.sh (flat x) x).tag = .rd->flat x=true:=by
 cases flat x <;> intro z <;> cases z
theorem ax2:cA L1 ["web","numbers"] qU:=by
 rintro xs Q ⟨ws,ls,x,ns,rfl,hx,hl,q⟩
 refine⟨_,rfl,x,ns,rfl,hx,hl,_,rfl,?_⟩
 unfold b7 at q
 cases h:i3 ns with
 | false=>rw [h] at q; exact bF ⟨trivial,q⟩
 | true=>
  rw [h] at q
  refine bN ⟨_,rfl,_,hx.seq,qV hx,by rw [bD]; omega,fun i acc=>acc=(((ns.take i).map (inB ws.length)).map PV.bl),rfl,?_,?_⟩
  ·rintro i y acc hy rfl
   obtain ⟨n,rfl,hn⟩:=gP hy
   have tk:((ns.take (i+1)).map (inB ws.length)).map PV.bl=((ns.take i).map (inB ws.length)).map PV.bl ++ [PV.bl (inB ws.length n)]:=by rw [oB hn,aV0]; rfl
   exact⟨_,rfl,_,rfl,ws,ls,n,rfl,trivial,tk.symm⟩
  ·rintro acc rfl
   rw [bD,ba0]
   exact⟨_,rfl,trivial,by simpa using q⟩
theorem cV.noscr {x:PV}{ns:List Int} (h:cV x ns):∀ ms,([x]:List PV) ≠ [.scr ms]:=by
 rcases h with rfl | rfl <;> intro ms z <;> cases z
structure DS (ps:List (aG × PV)) (S:List Int):Prop where
 has:∀ i:Int,(cG ps (Sum.inl i:aG)).isSome=decide (i ∈ S)
 len:ps.length<=S.length
 fl:flats (ps.map (·.2))=true
theorem DS.nil:DS [] []:=⟨fun i=>rfl,aT2 _,rfl⟩
section
variable {κ : Type} [DecidableEq κ]
theorem jC {p:κ × PV}{r:List (κ × PV)}{k:κ} (e:p.1=k):cG (p :: r) k=some p.2:=by simp [cG,bc2,e]
theorem jD {p:κ × PV}{r:List (κ × PV)}{k:κ} (e : ¬ p.1=k):cG (p :: r) k=cG r k:=by simp [cG,bc2,e]
theorem qW (k:κ):∀ kvs:List (κ × PV),(kvs.any fun kv=>decide (kv.1=k))=(cG kvs k).isSome
 | []=>rfl
 | p :: r=>by
  rw [bf4]
  by_cases e:p.1=k
  ·simp only [jC e,aT1 e,Bool.true_or,Option.isSome_some]
  ·rw [jD e,aT8 e,Bool.false_or]; exact qW k r
theorem L3 (k j:κ) (y:PV):∀ kvs:List (κ × PV),cG (kvs.map fun kv=>if kv.1=k then (kv.1,y) else kv) j=(cG kvs j).map fun x=>if j=k then y else x
 | []=>rfl
 | p :: r=>by
  have ih:=L3 k j y r
  rw [aV5]
  by_cases h:p.1=k
  ·rw [if_pos h]
   by_cases e:p.1=j
   ·rw [jC (p:=(p.1,y)) e,jC e,Option.map_some,if_pos (e.symm.trans h)]
   ·rw [jD (p:=(p.1,y)) e,jD e,ih]
  ·rw [if_neg h]
   by_cases e:p.1=j
   ·rw [jC (p:=p) e,jC e,Option.map_some,if_neg (fun z=>h (e.trans z))]
   ·rw [jD (p:=p) e,jD e,ih]
theorem L4 (k j:κ) (y:PV):∀ kvs:List (κ × PV),cG kvs k=none->cG (kvs ++ [(k,y)]) j=if j=k then some y else cG kvs j
 | [],_=>by
  by_cases e:k=j
  ·rw [if_pos e.symm]; exact jC (p:=(k,y)) e
  ·rw [if_neg (fun z=>e z.symm)]; exact jD (p:=(k,y)) e
 | p :: r,hn=>by
  rw [List.cons_append]
  have hk : ¬ p.1=k:=fun z=>by rw [jC z] at hn; cases hn
  rw [jD hk] at hn
  have ih:=L4 k j y r hn
  by_cases e:p.1=j
  ·rw [jC e,jC e,if_neg (fun z=>hk (e.trans z))]
  ·rw [jD e,jD e,ih]
theorem ax3 (kvs:List (κ × PV)) (k j:κ) (y:PV):cG (fB kvs k y) j=if j=k then some y else cG kvs j:=by
 unfold fB
 by_cases a:(kvs.any fun kv=>decide (kv.1=k))=true
 ·rw [if_pos a,L3]
  rw [qW] at a
  by_cases e:j=k
  ·obtain ⟨x,hx⟩:=Option.isSome_iff_exists.mp a
   rw [if_pos e,e,hx,Option.map_some,if_pos rfl]
  ·rw [if_neg e]
   cases cG kvs j with
   | none=>rfl
   | some x=>rw [Option.map_some,if_neg e]
 ·rw [if_neg a]
  refine L4 k j y kvs ?_
  rw [qW] at a
  cases q:cG kvs k with
  | none=>rfl
  | some x=>rw [q] at a; exact (a rfl).elim
theorem ax4 (kvs:List (κ × PV)) (k:κ) (v:PV):(fB kvs k v).length<=kvs.length+1:=by
 unfold fB
 split
 ·rw [aS9]; omega
 ·rw [aU6,aV8,List.length_nil]; omega
end
theorem vF:∀ (xs:List PV),flats xs=true ↔ ∀ x ∈ xs,flat x=true
 | []=>by simp [flats]
 | x :: r=>by
  unfold flats
  rw [aX1,vF r]; simp
theorem ax5 {κ:Type} [DecidableEq κ] {ps:List (κ × PV)}{k:κ}{v:PV}{p:κ × PV} (h:p ∈ fB ps k v):p.2=v ∨ p ∈ ps:=by
 unfold fB at h
 split at h
 ·obtain ⟨q,hq,e⟩:=aU8.mp h
  split at e
  ·subst e; exact .inl rfl
  ·subst e; exact .inr hq
 ·rcases aT9.mp h with h | h
  ·exact .inr h
  ·rw [aT0.mp h]; exact .inl rfl
theorem ax6 {κ:Type} [DecidableEq κ] {ps:List (κ × PV)}{k:κ}{v:PV} (h:flats (ps.map (·.2))=true) (hv:flat v=true):flats ((fB ps k v).map (·.2))=true:=by
 rw [vF] at h ⊢
 intro x hx
 obtain ⟨p,hp,rfl⟩:=aU8.mp hx
 rcases ax5 hp with e | e
 ·rw [e]; exact hv
 ·exact h _ (aU8.mpr ⟨p,e,rfl⟩)
theorem DS.put {ps:List (aG × PV)}{S:List Int} (h:DS ps S) (x:Int) (v:PV) (hv:flat v=true):DS (fB ps (Sum.inl x:aG) v) (S ++ [x]):=by
 refine⟨fun i=>?_,?_,ax6 h.fl hv⟩
 ·rw [ax3]
  by_cases e:i=x
  ·subst e; rw [if_pos rfl]; simp
  ·rw [if_neg (fun z=>e (Sum.inl.inj z)),h.has]
   simp [e]
 ·have:=ax4 ps (Sum.inl x:aG) v
  have:=h.len
  rw [aU6,aW5]; omega
noncomputable def mB:bH:=fun xs Q=>∃ x ns,xs = [x]/\cV x ns/\ns.length<=1000/\∀ ps,DS ps ns->Q (.dK ps)
noncomputable def L5:aN:=(aE (dQ 1 (qC (.dK [])))
 (aE (eB (cL (a5 0)) (bQ 2)
  (qH 1 (a5 2) (qC (.bl true))))
 (iY 1)))
theorem ax7:cA L5 ["hearths","inside","hearth"] mB:=by
 rintro xs Q ⟨x,ns,rfl,hx,hl,q⟩
 refine⟨rfl,rfl,_,rfl,_,hx.seq,qV hx,fun i ρ=>∃ y ps,ρ = [some (.sh (flat x) x),some (.own (.dK ps)),y]/\DS ps (ns.take i),⟨none,[],rfl,DS.nil⟩,?_,?_⟩
 ·rintro i y ρ hy ⟨y0,ps,rfl,d⟩
  obtain ⟨n,rfl,hn⟩:=gP hy
  have hlen:=d.len
  rw [aZ6] at hlen
  refine⟨_,rfl,_,rfl,Sum.inl n,rfl,trivial,by omega,_,_,rfl,?_⟩
  rw [aX0,hn]
  exact d.put n _ rfl
 ·rintro ρ ⟨y,ps,rfl,d⟩
  rw [bD,ba0] at d
  exact⟨_,rfl,trivial,q ps d⟩
noncomputable def cR (n:Nat) (ls:List (Int × Int)):List PV:=(List.range n).map fun (k:Nat)=>PV.lst (intz (aK ls k))
noncomputable def i4:bH:=fun xs Q=>∃ ws ls,xs = [bE ws ls]/\Wb ws ls/\Q (.lst (cR ws.length ls))
theorem vG {n:Nat}{ls:List (Int × Int)}{h:Int} (h0:0<=h) (h1:h < (n:Int)):atI (cR n ls) h=some (.lst (intz (aK ls h))):=by
 refine kH h0 ?_
 unfold cR
 rw [aT7,List.getElem?_range (by omega)]
 show some (PV.lst (intz (aK ls ((h.toNat:Nat):Int))))=_
 rw [show ((h.toNat:Nat):Int)=h by omega]
theorem L6 {ws:List Int}{h:Int} (h0:0<=h) (h1:h < (ws.length:Int)):atI (intz ws) h=some (.int (ws.getD h.toNat 0)):=by
 refine kH h0 ?_
 have:h.toNat < ws.length:=by omega
 rw [aT7,aU3,aU1 this]; rfl
noncomputable def tups (rs:List (List Int)):List PV:=rs.map fun r=>PV.tup (intz r)
theorem oG (rs:List (List Int)):(tups rs).length=rs.length:=aS9 _
theorem dX {n:Nat}{ns:List Int} (h:b7 n ns=true):i3 ns=true/\∀ x ∈ ns,0<=x/\x < (n:Int):=by
 unfold b7 at h
 rw [aX1,bf5] at h
 refine⟨h.1,fun x hx=>?_⟩
 have:=h.2 _ (aU8.mpr ⟨x,hx,rfl⟩)
 unfold inB at this
 simpa using this
theorem oH {n:Nat}{ns:List Int} (h:b7 n ns=true):ns.length<=n:=by
 obtain ⟨h1,h2⟩:=dX h
 have:=aw9 (ws:=List.replicate n (0:Int)) (fU h1) (by rw [bd5]; exact h2)
 rw [bd5] at this
 omega
end Core
namespace PP
open PySem L2
noncomputable def vH (te:aF):aF:=fun ρ Q=>te ρ fun x _=>∃ n:Int,x = .int n/\0<=n/\n<=1000000/\Q (.lst (dG 0 n.toNat)) .fr
noncomputable def qX:List PV->(PV->Prop)->Prop:=fun xs Q=>∃ ys:List (List Int),xs = [.lst (ys.map fun r=>PV.tup (intz r))]/\ys.length < 64/\(∀ y ∈ ys,y ≠ [])/\∀ zs:List (List Int),zs.Perm ys->zs.Pairwise (fun u v=>HT.eY v u=false)->Q (.lst (zs.map fun r=>PV.tup (intz r)))
end PP
namespace Core
open PySem L2 PP
theorem ax8 (g:Tg) (n:Int):Nw g (.int n):=by cases g <;> first | exact trivial | rfl
noncomputable def oI (x:PV) (ns:List Int):Prop:=x = .scr ns ∨ x = .lst (intz ns)
theorem oI.seq {x:PV}{ns:List Int} (h:oI x ns):iZ x=some (intz ns):=by rcases h with rfl | rfl <;> rfl
theorem oI.len {x:PV}{ns:List Int} (h:oI x ns):uN x=some ns.length:=by
 rcases h with rfl | rfl
 ·rfl
 ·show some (intz ns).length=_
  rw [bD]
noncomputable def eC:bH:=fun xs Q=>∃ x ns k,xs = [x,.int k]/\oI x ns/\0<=k/\Q (.int (ns.getD k.toNat 0))
noncomputable def L7:aN:=(aE (cU (bJ (kS (a5 1) (aB dU (a7 (a5 0) a9)))) (bP (bA (a5 0) (a5 1))) cT)
 (bP (qC (.int 0))))
theorem ax9:cA L7 ["script","k"] eC:=by
 rintro xs Q ⟨x,ns,k,rfl,hx,h0,q⟩
 refine⟨_,rfl,_,rfl,_,_,rfl,hx.len,_,_,rfl,rfl,_,rfl,?_⟩
 by_cases h:k < (ns.length:Int)
 ·rw [aT1 h]
  exact bN ⟨_,rfl,_,rfl,_,_,_,hx.seq,rfl,L6 h0 h,ax8 _ _,q⟩
 ·rw [aT8 h]
  rw [aU3,bg1 (by omega)] at q
  exact bF ⟨trivial,q⟩
noncomputable def b6 (ls:List (Int × Int)):List PV:=ls.map fun l=>PV.tup [.int l.1,.int l.2]
theorem jX (ls:List (Int × Int)):(b6 ls).length=ls.length:=aS9 _
noncomputable def jE (l m:Int × Int):Prop:=l.1 < m.1 ∨ (l.1=m.1/\l.2 < m.2)
noncomputable abbrev si (n:Int):Option Slot:=some (.sh true (.int n))
theorem cV.len {x:PV}{ns:List Int} (h:cV x ns):uN x=some ns.length:=by
 rcases h with rfl | rfl <;> (show some (intz ns).length=_; rw [bD])
theorem vI {ls:List (Int × Int)}{i:Nat}{x:PV} (h:(b6 ls)[i]? = some x):∃ l,x = .tup [.int l.1,.int l.2]/\ls[i]? = some l:=by
 unfold b6 at h
 rw [aT7] at h
 cases e:ls[i]? with
 | none=>rw [e] at h; cases h
 | some n=>rw [e] at h; exact⟨n,(aV2 h).symm,rfl⟩
end Core
namespace PP
open PySem L2 PyProof.Rows
theorem Reps.rep {K:PySem.W.Frag}{M:Addr->Prop}{H:Hp}{us:List V}{xs:List PV} (r:Reps K M H us xs):∀ k:Nat,Reps K M H (List.replicate k us).flatten (List.replicate k xs).flatten
 | 0=>.nil
 | k+1=>by rw [aY8,aY8,bc9,bc9]; exact r.append (Reps.rep r k)
section
variable {X : Cx} {a b e : Expr} {ta tb te : aF} {tr : cQ} {pos p2 p3 pos2 : Pos}
theorem L8 {tA:TA} (hg:Gl X "range") (hm:X.mg "range" = none) (ha:PA X [a] tA) (hs:starEach [a] X.env = [(false,eval a X.env)]:=by rfl) :
  PE X (.Call (.Name "range" p2) [a] [] pos) (fun σ H Q=>tA σ H fun vs H1=>∃ j:Int,vs = [.int j]/\∀ r,H1 r=none->Q (.ref r) (upd H1 r (.rng 0 j))):=by
 intro pins s σ H Q I h
 refine Call_ (jL I hg hm boot_range (aZ5 (aO (ha pos pins s σ H _ I h) fun us s1 ⟨vs,H1,I1,r1,q1⟩=>?_) hs rfl))
 obtain ⟨j,e,q⟩:=q1
 subst e
 cases r1 with
 | cons r rr=>
  cases rr
  obtain ⟨t,rfl⟩:=r
  refine call_range_1 ?_
  exact⟨.ref s1.heap.objs.size,_,I1.laid (o:=.rng 0 j) (fun b ob q=>aS7 _ q) (aT2 _) ⟨_,_,_,aU9 _ rfl⟩,rfl,q _ (I1.hok.fresh (aT2 _))⟩
theorem L9:∀ {xs:List V}{us:List Value},xs.length=us.length->(∀ (i:Nat) x u,xs[i]? = some x->us[i]? = some u->b4 x u)->aI xs us
 | [],[],_,_=>.nil
 | x :: xs,u :: us,hl,h=>.cons (h 0 x u rfl rfl) (L9 (by simpa using hl) fun i y w h1 h2=>h (i+1) y w (by rw [ba8]; exact h1) (by rw [ba8]; exact h2))
theorem M0 {n:Nat}{acc:Array Value} (h:ItemsOf (fun i v=>∃ t,v = .int (0+(i:Int) * 1) t) acc n):aI (gK 0 n) acc.toList:=by
 obtain ⟨h1,h2⟩:=h
 refine L9 (by rw [pQ]; simp [h1]) fun i x u hx hu=>?_
 have hi:i < n:=by
  have:=(aT3.mp hx).1
  rwa [pQ] at this
 unfold gK at hx
 rw [aT7,List.getElem?_range hi] at hx
 cases hx
 obtain ⟨t,rfl⟩:=h2 i u (by rw [<- Array.getElem?_toList]; exact hu)
 exact⟨t,by congr 1; omega⟩
theorem ay0 (hc:X.calm=true):cY X (.type "list") (fun xs H Q=>∃ r j,xs = [.ref r]/\H r=some (.rng 0 j)/\0<=j/\j<=1000000/\∀ l,H l=none->Q (.ref l) (upd H l (.lst (gK 0 j.toNat)))):=by
 intro pins s σ H xs us Q I r h
 obtain ⟨p,j,rfl,hq,h0,h1,q⟩:=h
 obtain ⟨u,rfl,rx⟩:=gT r
 cases rx
 obtain ⟨t,u,v,ho⟩:=(show bY X.prog X.w H s.heap p (.rng 0 j) from I.hok p _ hq)
 refine PySem.call_list_range (a:=0) (b:=j) (c:=1) (n:=j.toNat) (I.ok.hd hc) ho (small_one (by decide) (by decide) (by omega) (by omega)) (by rw [rangeSize_one]; split <;> omega) (by omega) fun h' tk acc' c' kp e it=>?_
 have vv:=M0 it
 have eq:acc'.toList.toArray=acc':=by simp
 exact⟨.ref s.heap.objs.size,_,I.laid (t':=tk) (o:=.lst (gK 0 j.toNat)) kp (aT2 _) ⟨by rw [pQ]; exact lim (by omega),acc'.toList,c',vv,by rw [eq]; exact e⟩,rfl,q _ (I.hok.fresh (aT2 _))⟩
theorem M1 {K:PySem.W.Frag}{M:Addr->Prop}{H:Hp} (lo:Int) (n:Nat):Reps K M H (gK lo n) (dG lo n):=by
 unfold gK dG
 generalize List.range n=l
 induction l with
 | nil=>exact .nil
 | cons a r ih=>exact .cons (.int _) ih
theorem M3 (B:Bt X.mg) (ha:QE X a ta) (hc:X.calm=true:=by rfl) (hg:Gl X "list":=by rfl) (hgr:Gl X "range":=by rfl) (hs:starEach [a] X.env = [(false,eval a X.env)]:=by rfl)
  (he:starEach [.Call (.Name "range" p3) [a] [] pos2] X.env=(false,eval (.Call (.Name "range" p3) [a] [] pos2) X.env) :: starEach [] X.env:=by rfl) (hpl:(backTo pos (starEach [] X.env)).any (·.1)=false:=by rfl) :
  QE X (.Call (.Name "list" p2) [.Call (.Name "range" p3) [a] [] pos2] [] pos) (vH ta):=
 cH (sZ (ay0 hc) hg B.list PyProof.Rows.boot_list (cP (L8 hgr B.range (cP ha cZ hs) hs) cZ he) (he:=he) (hpl:=hpl)) fun σ H Q' h=>by
  obtain ⟨W,ρ,Q,px,q,k⟩:=h
  refine⟨W,ρ,_,px,q,?_⟩
  rintro v H1 x g s r ⟨n,rfl,h0,h1,q⟩
  cases r
  refine⟨n,rfl,fun r hr=>⟨r,n,rfl,bK,h0,h1,fun l hl=>?_⟩⟩
  have S:aC H (upd (upd H1 r (.rng 0 n)) l (.lst (gK 0 n.toNat))):=(s.trans (bL hr _)).trans (bL hl _)
  exact k _ _ _ .fr S (.lst (((s.trans (bL hr _))).free hl) bK (M1 0 n.toNat)) q
noncomputable def vJ:V->Int
 | .int i=>i
 | _=>0
noncomputable def kZ (H:Hp):V->List Int
 | .ref a=>match H a with
  | some (.tup us)=>us.map vJ
  | _=>[]
 | _=>[]
theorem ay1 {H:Hp}{a:Addr}{ns:List Int} (h:H a=some (.tup (ns.map V.int))):kZ H (.ref a)=ns:=by
 show (match H a with | some (.tup us)=>us.map vJ | _=>[])=ns
 rw [h]
 show (ns.map V.int).map vJ=ns
 rw [aY7]
 exact List.map_id _
theorem M4 {K:PySem.W.Frag}{M:Addr->Prop}{H:Hp}:∀ {us:List V}{ys:List (List Int)},Reps K M H us (ys.map fun r=>PV.tup (intz r))->us.map (kZ H)=ys/\∀ u ∈ us,∃ b,u = .ref b/\H b=some (.tup ((kZ H u).map V.int))
 | _,[],.nil=>⟨rfl,fun u h=>nomatch h⟩
 | _,y :: ys,.cons r t=>by
  obtain ⟨a,us,rfl,h,r1⟩:=r.sqT
  obtain rfl:=r1.ofInts
  obtain ⟨h1,h2⟩:=M4 t
  have hk:=ay1 h
  refine⟨by rw [aV5,h1,hk],fun u hu=>?_⟩
  rcases aU0.mp hu with rfl | hu
  ·exact⟨a,rfl,by rw [hk]; exact h⟩
  ·exact h2 u hu
theorem M5 {K:PySem.W.Frag}{M:Addr->Prop}{H:Hp}:∀ {us:List V},(∀ u ∈ us,∃ b,u = .ref b/\H b=some (.tup ((kZ H u).map V.int)))->Reps K M H us ((us.map (kZ H)).map fun r=>PV.tup (intz r))
 | [],_=>.nil
 | u :: us,h=>by
  obtain ⟨b,rfl,hb⟩:=h u aS8
  exact .cons (.tup hb (Reps.intz _)) (M5 fun v hv=>h v (aT5 _ hv))
theorem ay2:g9 X qX (C0 X.K):=by
 rintro H vs xs Q Q' r ⟨ys,rfl,hl,hne,q⟩ k
 obtain ⟨v,rfl,r1⟩:=r.one
 obtain ⟨a,us,rfl,_,h,r2⟩:=r1.sqL
 obtain ⟨h1,h2⟩:=M4 r2
 have lr:=r2.length
 rw [aS9] at lr
 refine⟨a,us,kZ H,rfl,aJ.of h,by omega,fun y hy=>?_,fun l zs hl' pm so=>?_⟩
 ·obtain ⟨b,rfl,hb⟩:=h2 y hy
  refine⟨b,rfl,aQ.of hb,hne _ ?_⟩
  rw [<- h1]; exact aU8.mpr ⟨_,hy,rfl⟩
 ·have hz:∀ u ∈ zs,∃ b,u = .ref b/\H b=some (.tup ((kZ H u).map V.int)):=fun u hu=>h2 u (pm.mem_iff.mp hu)
  refine k _ _ _ (bL hl' _) (.lst hl' bK ((M5 hz).same (bL hl' _) fun _ z=>z)) (q _ ?_ ?_)
  ·rw [<- h1]; exact pm.map _
  ·rw [bb6]; exact so
theorem ay3 (B:Bt X.mg) (ha:QA X [e] tr) (hg:Gl X "sorted":=by rfl) (he:starEach [e] X.env=(false,eval e X.env) :: starEach [] X.env:=by rfl) (hpl:(backTo pos (starEach [] X.env)).any (·.1)=false:=by rfl):QE X (.Call (.Name "sorted" p2) [e] [] pos) (aB qX tr):=
 j9 am7 ay2 hg B.sorted PyProof.Rows.boot_sorted ha (he:=he) (hpl:=hpl)
end
noncomputable def M6 (K:PySem.W.Frag):Sp:=fun vs H Q _=>∃ (a:Addr) (ns:List Int),vs = [.ref a]/\(aQ K H a (ns.map V.int) ∨ aJ K H a (ns.map V.int))/\ns.length<=1000/\∀ H',aC H H'->Q (.bl (Core.i3 ns)) H'
noncomputable def qY:Sp:=fun vs H Q _=>∃ v ws ls,vs = [v]/\C3 H v ws ls/\ws.length<=1000/\ls.length<=2000/\(∀ l ∈ ls,(0<=l.1/\l.1 < ws.length)/\0<=l.2/\l.2 < ws.length)/\
 ∀ (r:Addr) (bs:List Addr) (H':Hp),bs.length=ws.length->gX H H' r bs (fun k=>aK ls k)->Q (.ref r) H'
section
variable {P : Program} {w : World} {K : PySem.W.Frag} {mg : Str → Option Value} {base : Heap} {f : Addr} {fd : FuncData} {k : Nat}
theorem ay4 (F:cF P w K mg base dE k f fd ["things"] (M6 K)) (b:gU K fd ["things"] []) (kp:PySem.W.keepIn K (.ref f)=true) (m:mg "rises" = some (.ref f)):Df P w K mg base k "rises" ["things"] Core.vE:=by
 refine⟨f,fd,F.imp fun vs H Q E h=>?_,b,kp,m⟩
 obtain ⟨xs,Qp,r,⟨x,ns,rfl,hx,hl,q⟩,k⟩:=h
 obtain ⟨v,rfl,r1⟩:=r.one
 rcases hx with rfl | rfl
 ·obtain ⟨a,us,rfl,h,r2⟩:=r1.sqT
  obtain rfl:=r2.ofInts
  exact⟨a,ns,rfl,.inl (aQ.of h),hl,fun H' s=>k _ H' _ s (.bl _) q⟩
 ·obtain ⟨a,us,rfl,_,h,r2⟩:=r1.sqL
  obtain rfl:=r2.ofInts
  exact⟨a,ns,rfl,.inr (aJ.of h),hl,fun H' s=>k _ H' _ s (.bl _) q⟩
theorem pV {M:Addr->Prop}{H:Hp}:∀ {us:List V}{ls:List (Int × Int)},Reps K M H us (ls.map fun l=>PV.tup [.int l.1,.int l.2])->lO H us ls
 | _,[],.nil=>.nil
 | _,l :: ls,.cons r t=>by
  obtain ⟨a,us,rfl,h,r1⟩:=r.sqT
  obtain ⟨u1,u2,rfl,q1,q2⟩:=r1.two
  cases q1; cases q2
  exact .cons ⟨a,rfl,h⟩ (pV t)
theorem M7 {M:Addr->Prop}{H:Hp}{v:V}{ws:List Int}{ls:List (Int × Int)} (r:aM K M H v (Core.bE ws ls)):C3 H v ws ls:=by
 obtain ⟨a,us,rfl,h,r1⟩:=aM.sqT r
 obtain ⟨u1,u2,rfl,q1,q2⟩:=r1.two
 obtain ⟨p,up,rfl,hp,rp⟩:=q1.sqT
 obtain ⟨q,uq,rfl,hq,rq⟩:=q2.sqT
 obtain rfl:=rp.ofInts
 exact⟨a,p,q,uq,rfl,h,hp,hq,pV rq⟩
theorem vK {M:Addr->Prop}{H:Hp}:∀ {bs:List Addr}{ls:List (Int × Int)} (off:Nat),(∀ b ∈ bs,M b)->(∀ (k:Nat) b,bs[k]? = some b->H b=some (.lst ((aK ls ((off+k:Nat):Int)).map V.int)))->Reps K M H (bs.map V.ref) ((List.range' off bs.length).map fun (k:Nat)=>PV.lst (intz (aK ls k)))
 | [],_,_,_,_=>.nil
 | b :: bs,ls,off,hm,h=>by
  refine .cons (.lst (hm b aS8) (h 0 b rfl) (Reps.intz _)) (vK (off+1) (fun c hc=>hm c (aT5 _ hc)) fun k c hk=>?_)
  have:=h (k+1) c (by rw [ba8]; exact hk)
  rw [show off+1+k=off+(k+1) by omega]; exact this
theorem ay5 (F:cF P w K mg base dE k f fd ["web"] qY) (b:gU K fd ["web"] []) (kp:PySem.W.keepIn K (.ref f)=true) (m:mg "near_lists" = some (.ref f)):Df P w K mg base k "near_lists" ["web"] Core.i4:=by
 refine⟨f,fd,F.imp fun vs H Q E h=>?_,b,kp,m⟩
 obtain ⟨xs,Qp,r,⟨ws,ls,rfl,wb,q⟩,k⟩:=h
 obtain ⟨v,rfl,r1⟩:=r.one
 have:=wb.few
 have:=wb.most
 refine⟨v,ws,ls,rfl,M7 r1,by omega,by omega,wb.links,fun t bs H' hb R=>k _ H' _ R.same (.lst R.new R.row ?_) q⟩
 have:=vK (K:=K) (M:=fun a=>H a=none) (H:=H') (bs:=bs) (ls:=ls) 0 (fun b hb=>(R.news b hb).1) fun k b hk=>by rw [Nat.zero_add]; exact R.rows k b hk
 rw [hb,<- List.range_eq_range'] at this
 exact this
end
end PP
namespace Core
open PySem L2 PP
theorem ay6 (n:Nat):dG 0 n=intz (rng n):=by
 unfold dG rng
 show _=List.map PV.int (List.map (fun (i:Nat)=>(i:Int)) (List.range n))
 rw [aY7]
 refine bb4 fun i _=>?_
 show PV.int (0+(i:Int))=PV.int (i:Int)
 rw [Int.zero_add]
theorem ay7 (n:Nat):(rng n).Nodup:=by
 unfold rng
 rw [List.nodup_iff_pairwise_ne,bb6]
 exact (List.nodup_range (n:=n)).imp fun h e=>h (by omega)
noncomputable def two (l:Int × Int):List Int:=[l.1,l.2]
noncomputable def oJ (r:List Int):Int × Int:=(r.getD 0 0,r.getD 1 0)
theorem M8 (ls:List (Int × Int)):b6 ls=(ls.map two).map fun r=>PV.tup (intz r):=by
 unfold b6
 rw [aY7]; rfl
theorem ay8 {zs:List (List Int)}{ls:List (Int × Int)} (h:zs.Perm (ls.map two)):∃ ls':List (Int × Int),zs=ls'.map two/\ls'.Perm ls:=by
 refine⟨zs.map oJ,?_,?_⟩
 ·rw [aY7]
  have:∀ z ∈ zs,(two ∘ oJ) z=z:=fun z hz=>by
   obtain ⟨l,_,rfl⟩:=aU8.mp (h.mem_iff.mp hz)
   rfl
  rw [bb4 this,List.map_id']
 ·have:=h.map oJ
  rw [aY7] at this
  have e:ls.map (oJ ∘ two)=ls:=by
   have:∀ l ∈ ls,(oJ ∘ two) l=id l:=fun l _=>rfl
   rw [bb4 this,List.map_id]
  rw [e] at this
  exact this
theorem ay9 {ls:List (Int × Int)} (so:(ls.map two).Pairwise fun u v=>HT.eY v u=false) (nd:ls.Nodup):ls.Pairwise jE:=by
 rw [bb6] at so
 refine (List.pairwise_and_iff.mpr ⟨so,nd⟩).imp fun {a b} h=>?_
 obtain ⟨h1,h2⟩:=h
 unfold two at h1
 rw [HT.mY] at h1
 unfold jE
 by_cases e:b.1=a.1
 ·rw [if_pos e,HT.mY] at h1
  by_cases e2:b.2=a.2
  ·exact absurd (Prod.ext e.symm e2.symm) h2
  ·rw [if_neg e2] at h1
   have:=of_decide_eq_false h1
   omega
 ·rw [if_neg e] at h1
  have:=of_decide_eq_false h1
  omega
structure dY (i:Int) (ms:List Int):Prop where
 up:ms.Pairwise (· < ·)
 inn:∀ x ∈ ms,0<=x/\x < i
 len:(ms.length:Int)<=i
theorem dY.nil:dY 0 []:=⟨.nil,(fun _ h=>nomatch h),bc6 _⟩
theorem dY.skip {i:Nat}{ms:List Int} (h:dY (i:Int) ms):dY ((i+1:Nat):Int) ms:=⟨h.up,fun x hx=>by have:=h.inn x hx; omega,by have:=h.len; omega⟩
theorem dY.set {n:Nat}{ms:List Int} (h:dY (n:Int) ms):b7 n ms=true:=by
 unfold b7
 rw [vD h.up,Bool.true_and,bf5]
 intro b hb
 obtain ⟨x,hx,rfl⟩:=aU8.mp hb
 have:=h.inn x hx
 unfold inB
 simp [this]
noncomputable def eD (n:Nat) (S:List Int):List PV:=(rng n).map fun i=>PV.bl (decide (i ∈ S))
theorem mC (n:Nat) (S:List Int):(eD n S).length=n:=by unfold eD; rw [aS9,dL]
theorem M9 {n:Nat}{S:List Int}{x:Int} (h0:0<=x) (h1:x < (n:Int)):atI (eD n S) x=some (.bl (decide (x ∈ S))):=by
 refine kH h0 ?_
 unfold eD
 rw [aT7,oD (by omega)]
 show some (PV.bl (decide (((x.toNat:Nat):Int) ∈ S)))=_
 rw [show ((x.toNat:Nat):Int)=x by omega]
theorem az0 {n:Nat}{S:List Int}{x:Int} (h0:0<=x) (h1:x < (n:Int)):(eD n S).set x.toNat (.bl true)=eD n (S ++ [x]):=by
 refine List.ext_getElem? fun i=>?_
 by_cases hi:i < n
 ·have e1:(eD n (S ++ [x]))[i]? = some (.bl (decide ((i:Int) ∈ S ++ [x]))):=by unfold eD; rw [aT7,oD hi]; rfl
  rw [e1]
  by_cases e:i=x.toNat
  ·subst e
   rw [aZ3 (by rw [mC]; exact hi)]
   have:(((x.toNat:Nat):Int) ∈ S ++ [x]):=by rw [show ((x.toNat:Nat):Int)=x by omega]; simp
   rw [aT1 this]
  ·rw [aW4 (Ne.symm e)]
   unfold eD
   rw [aT7,oD hi]
   have:decide ((i:Int) ∈ S ++ [x])=decide ((i:Int) ∈ S):=by
    rw [ba2]; simp; omega
   rw [this]; rfl
 ·rw [bg1 (by rw [aX4,mC]; omega),bg1 (by rw [mC]; omega)]
theorem vL:∀ {a b:List Int},a.Perm b->a.Pairwise (· <= ·)->b.Pairwise (· <= ·)->a=b:=by
 intro a b h ha hb
 exact h.eq_of_pairwise (fun x y _ _ h1 h2=>Int.le_antisymm h1 h2) ha hb
noncomputable def N0:bH:=fun xs Q=>∃ ns:List Int,xs = [.scr ns]/\ns.length<=63/\Q (.bl true)
end Core
namespace PP
open PySem L2 PyProof.Rows
theorem az1 {P:Program}{w:World}{K:PySem.W.Frag}{mg:Str->Option Value}{base:Heap}{k:Nat}{x:Str}{ps N:List Str}{p:bH}{st:Stmt}{f:Addr}{fd:FuncData} (F:eO K x x st f fd) (S:FnScope N ps (aX st))
  (len:∀ xs Q,p xs Q->xs.length=ps.length)
  (body:∀ (cdv:Value) (A:Around) (outer:List Env) (s:Shared) (H:Hp) (E:XK),bZ k (A.deeper (envOfC x (aX st) s.heap.objs.size f cdv))->
   ∃ t,eR (dA dE P w K mg base N x (aX st) f cdv A outer s H E).nox (eN st) t/\∀ xs Q,p xs Q->t { nx:=fun _=>Q .non,rt:=Q } (fR N xs)):cF P w K mg base dE (k+1) f fd ps (nR K p):=by
 refine F.ok S (fun vs H Q E h=>?_) (fun cdv A outer s H vs Q E hr h=>?_)
 ·obtain ⟨xs,Qp,r,q,_⟩:=h
  rw [r.length]; exact len xs Qp q
 ·obtain ⟨xs,Qp,r,q,k⟩:=h
  obtain ⟨t,ht,hq⟩:=body cdv A outer s H E hr
  refine⟨_,ht,fun _=>False,fR N xs,_,vA r,hq xs Qp q,?_,?_,?_,?_⟩
  ·exact fun W' σ' H' ρ' e px q=>k _ _ _ px.same .non q
  ·exact fun v H' x s r q=>k _ _ _ s r q
  ·exact fun W' σ' H' ρ' e px q=>q
  ·exact fun W' σ' H' ρ' e px q=>q
noncomputable def qZ (K:PySem.W.Frag):Sp:=fun vs H Q _=>∃ (a:Addr) (ns:List Int),vs = [.ref a]/\iW K H a ns/\ns.length<=63/\∀ H',Q (.bl true) H'
theorem az2 {P:Program}{w:World}{K:PySem.W.Frag}{mg:Str->Option Value}{base:Heap}{k:Nat}{f:Addr}{fd:FuncData} (F:cF P w K mg base dE k f fd ["script"] (nR K Core.N0)):cF P w K mg base dE k f fd ["script"] (qZ K):=
 F.imp fun vs H Q E h=>by
  obtain ⟨a,ns,rfl,hs,hl,q⟩:=h
  refine⟨[.scr ns],fun z=>z = .bl true,.cons (.scr hs) .nil,⟨ns,rfl,hl,rfl⟩,?_⟩
  rintro v H' x _ r rfl
  cases r
  exact q H'
theorem az3 {K:PySem.W.Frag}{H:Hp}{a:Addr}{ns:List Int} (hO:pI H) (h:aJ K H a (ns.map V.int)):iW K H a ns:=by
 rcases h with (h | ⟨o,h⟩) | h
 ·rcases hO a with e | ⟨o,xs,e⟩ <;> (rw [h] at e; cases e)
 ·exact .inl ⟨o,h⟩
 ·exact .inr h
end PP
namespace PyProof.Rows
open PySem
end PyProof.Rows
namespace PP
open PySem L2 PyProof.Rows
section
variable {X : Cx} {e : Expr} {te : aF} {pos p2 : Pos} {scope : Scope} {N : List Str} {fr : List (Option Nat)} {x y : Str} {tp xp yp : Pos} {kt : Nat} {iter elt : Expr} {ti : fA}
noncomputable abbrev jY (x y:Str) (xp yp:Pos) (kt:Nat) (tp:Pos):Expr:=.Tuple [.Name x xp,.Name y yp] kt tp
theorem vM {ifs:List Expr}{tcs:cC} (hc:X.calm=true) (he:∀ (s:Shared) (H:Hp) (C:Addr) (fp:List Addr),QE (bI X scope N s H C fp bW) elt te) (hi:∀ (s:Shared) (H:Hp) (C:Addr) (fp:List Addr),jS (bI X scope N s H C fp bW) ifs (LT (bI X scope N s H C fp bW) tcs))
  (hN:N.Nodup) (h0:N[0]? = some x) (h1:N[1]? = some y) (hl:∀ (s:Shared) (H:Hp) (C:Addr) (fp:List Addr),(bI X scope N s H C fp bW).env.scope.names.lookup x=some .local) (hl2:∀ (s:Shared) (H:Hp) (C:Addr) (fp:List Addr),(bI X scope N s H C fp bW).env.scope.names.lookup y=some .local) (s:Shared) (H:Hp) :
  lN X scope N (jY x y xp yp kt tp) ifs elt s H (jN X.K 2 (eW (cB 0) (eW (cB 1) jM))) (LT (X.frm H) tcs) (LE (X.frm H) te):=
 ⟨fun C fp=>lG (X:=bI X scope N s H C fp bW) hc (gG (eM hN h0 (.inl (hl s H C fp)) (.inr (hl s H C fp))) (gG (eM hN h1 (.inl (hl2 s H C fp)) (.inr (hl2 s H C fp))) lF)),fun C fp=>hi s H C fp,fun C fp=>he s H C fp⟩
theorem N1 (hi:QI X (jY x y xp yp kt tp) iter ti) (he:∀ (s:Shared) (H:Hp) (C:Addr) (fp:List Addr),QE (bI X scope N s H C fp bW) elt te)
  (hc:X.calm=true:=by rfl) (S:c9 X scope N fr:=by exact c9.of rfl rfl) (hN:N.Nodup:=by decide +kernel) (h0:N[0]? = some x:=by rfl) (h1:N[1]? = some y:=by rfl) (hl:∀ (s:Shared) (H:Hp) (C:Addr) (fp:List Addr),(bI X scope N s H C fp bW).env.scope.names.lookup x=some .local:=by intro _ _ _ _; rfl) (hl2:∀ (s:Shared) (H:Hp) (C:Addr) (fp:List Addr),(bI X scope N s H C fp bW).env.scope.names.lookup y=some .local:=by intro _ _ _ _; rfl) (hf:fr[0]? = some none:=by rfl) (hf2:fr[1]? = some none:=by rfl)
  (hs:∀ x,foldedSetIterable iter X.env x=pure x:=by intro _; rfl):QE X (.ListComp elt [⟨jY x y xp yp kt tp,iter,[],0⟩] scope pos) (cD ti fr (fQ 0 1) cM te):=
 cH (pP (gh:=fun _=>jN X.K 2 (eW (cB 0) (eW (cB 1) jM))) (tch:=fun H=>LT (X.frm H) cM) (teh:=fun H=>LE (X.frm H) te) hc S hi (vM hc he (fun _ _ _ _=>o8) hN h0 h1 hl hl2) hs) fun _ _ _=>kQ (qG _ 0 1) (fun i e=>by rcases e with e | e <;> (subst e; assumption))
theorem az4 {c:Expr}{tcs:cC} (hi:QI X (jY x y xp yp kt tp) iter ti) (ht:∀ (s:Shared) (H:Hp) (C:Addr) (fp:List Addr),QT (bI X scope N s H C fp bW) c tcs) (he:∀ (s:Shared) (H:Hp) (C:Addr) (fp:List Addr),QE (bI X scope N s H C fp bW) elt te)
  (hc:X.calm=true:=by rfl) (S:c9 X scope N fr:=by exact c9.of rfl rfl) (hN:N.Nodup:=by decide +kernel) (h0:N[0]? = some x:=by rfl) (h1:N[1]? = some y:=by rfl) (hl:∀ (s:Shared) (H:Hp) (C:Addr) (fp:List Addr),(bI X scope N s H C fp bW).env.scope.names.lookup x=some .local:=by intro _ _ _ _; rfl) (hl2:∀ (s:Shared) (H:Hp) (C:Addr) (fp:List Addr),(bI X scope N s H C fp bW).env.scope.names.lookup y=some .local:=by intro _ _ _ _; rfl) (hf:fr[0]? = some none:=by rfl) (hf2:fr[1]? = some none:=by rfl)
  (hs:∀ x,foldedSetIterable iter X.env x=pure x:=by intro _; rfl):QE X (.ListComp elt [⟨jY x y xp yp kt tp,iter,[c],0⟩] scope pos) (cD ti fr (fQ 0 1) tcs te):=
 cH (pP (gh:=fun _=>jN X.K 2 (eW (cB 0) (eW (cB 1) jM))) (tch:=fun H=>LT (X.frm H) tcs) (teh:=fun H=>LE (X.frm H) te) hc S hi (vM hc he (fun s H C fp=>A0 (ht s H C fp)) hN h0 h1 hl hl2) hs) fun _ _ _=>kQ (qG _ 0 1) (fun i e=>by rcases e with e | e <;> (subst e; assumption))
theorem az5 {i:Nat}{z:Str}{zp:Pos} (nd:X.N.Nodup) (hi:QI X (jY x y xp yp kt tp) iter ti) (he:∀ (s:Shared) (H:Hp) (C:Addr) (fp:List Addr),QE (bI X scope N s H C fp bW) elt te)
  (hz:X.N[i]? = some z:=by rfl) (hzl:X.env.scope.names.lookup z=some .local:=by rfl) (hsw:swapsWith (.ListComp elt [⟨jY x y xp yp kt tp,iter,[],0⟩] scope p2) (some (.Name z zp)) pos.line X.env=pure true:=by rfl)
  (hc:X.calm=true:=by rfl) (S:c9 X scope N fr:=by exact c9.of rfl rfl) (hN:N.Nodup:=by decide +kernel) (h0:N[0]? = some x:=by rfl) (h1:N[1]? = some y:=by rfl) (hl:∀ (s:Shared) (H:Hp) (C:Addr) (fp:List Addr),(bI X scope N s H C fp bW).env.scope.names.lookup x=some .local:=by intro _ _ _ _; rfl) (hl2:∀ (s:Shared) (H:Hp) (C:Addr) (fp:List Addr),(bI X scope N s H C fp bW).env.scope.names.lookup y=some .local:=by intro _ _ _ _; rfl) (hf:fr[0]? = some none:=by rfl) (hf2:fr[1]? = some none:=by rfl)
  (hs:∀ x,foldedSetIterable iter X.env x=pure x:=by intro _; rfl):QS X (.Assign [.Name z zp] (.ListComp elt [⟨jY x y xp yp kt tp,iter,[],0⟩] scope p2) pos) (b8 i (cD ti fr (fQ 0 1) cM te)):=
 dH (tT (gh:=fun _=>jN X.K 2 (eW (cB 0) (eW (cB 1) jM))) (tch:=fun H=>LT (X.frm H) cM) (teh:=fun H=>LE (X.frm H) te) hc S hi (vM hc he (fun _ _ _ _=>o8) hN h0 h1 hl hl2) nd hz hzl hsw hs) fun D σ H h=>kQ (qG _ 0 1) (fun i e=>by rcases e with e | e <;> (subst e; assumption)) (uJ h)
end
section
variable {X : Cx} {a b e o f : Expr} {ta tb te td tk tx : aF} {pos p2 apos cpos : Pos} {σ : L2.St} {H : Hp} {Q' : VK}
noncomputable def N3:PV->Tg->PV->Tg->PK->Prop:=fun x _ y _ Q=>∃ xs n,x = .lst xs/\y = .int n/\flats xs=true/\-1000000<=n/\n<=1000000/\xs.length<=10/\Q (.lst (List.replicate n.toNat xs).flatten) .fr
noncomputable abbrev r6 (ta tb:aF):aF:=q2 N3 ta tb
theorem az6:fO X N3 zI:=by
 rintro W Hs H u v x y g g' Q Q' s n r1 r2 ⟨xs,m,rfl,rfl,f,h1,h2,hl,q⟩ k
 cases r2
 obtain ⟨a,us,rfl,mm,h,r⟩:=r1.sqL
 have lr:=r.length
 refine⟨a,m,us,rfl,rfl,h,by omega,by omega,lim ?_,fun p hp=>k _ _ _ .fr (bL hp _) (.lst (s.free hp) bK (((r.flat f).rep m.toNat).same (bL hp _) fun _ z=>z)) q⟩
 have h3:us.length<=10:=by omega
 have h4:m.toNat<=1000000:=by omega
 calc us.length * m.toNat<=10 * 1000000:=Nat.mul_le_mul h3 h4
  _<=16000000:=by decide
theorem vN (ha:QE X a ta) (hb:QE X b tb):QE X (.BinOp a .Mult b pos) (r6 ta tb):=j7 aj3 az6 ha hb
end
end PP
namespace Core
open PySem L2 PP
section
variable {ws : List Int} {ls : List (Int × Int)} {os ns : List Int}
theorem az7 {S T:List Int}{h:Int} (hk:kin ws ls S h=true) (st:∀ x ∈ S,x ∈ T) (hn:h ∉ T):kin ws ls T h=true:=by
 unfold kin at hk ⊢
 rw [aX1] at hk ⊢
 refine⟨by rw [aT8 hn]; rfl,aT1 ?_⟩
 have h1:=aW8 hk.2
 have h2:((aK ls h).filter fun x=>decide (x ∈ S)).length<=((aK ls h).filter fun x=>decide (x ∈ T)).length:=by
  rw [<- List.countP_eq_length_filter,<- List.countP_eq_length_filter]
  exact List.countP_mono_left fun x _ hx=>aT1 (st x (aW8 hx))
 omega
noncomputable def i5 (ws:List Int) (ls:List (Int × Int)) (T:List Int):Prop:=∀ h ∈ rng ws.length,kin ws ls T h=false
theorem az8 (n:Nat):(rng n).Nodup:=ay7 n
end
noncomputable def jZ:Option Int->PV
 | none=>.non
 | some h=>.int h
theorem k6 {i:Nat}{h:Int}{g:Bool}{ρ:bG}{Q:bG->Prop} (q:Q (ρ.set i (some (.sh true (.int h))))):bQ i (.int h) g ρ Q:=by
 show Q (ρ.set i (some (.sh (g || true) (.int h))))
 rw [Bool.or_true]; exact q
noncomputable def az9 (ns S:List Int):Int:=(ns.length:Int) - (((ns.filter fun x=>decide (x ∈ S)).length:Nat):Int)
noncomputable def mD:bH:=fun xs Q=>∃ x ns y ms,xs = [x,y]/\cV x ns/\cV y ms/\ns.length<=10000/\ms.length<=1000/\Q (.tup (intz (ns.filter fun z=>!decide (z ∈ ms))))
noncomputable def N4:aN:=(aE (b8 2 (aB mB (a7 (a5 1) a9)))
 (bP (aB iH (a7 (cD (cL (a5 0)) [none,some 2] (bQ 0) (bJ (kR true (a5 0) (a5 1))) (a5 0)) a9))))
theorem aA0:cA N4 ["hearths","some","gone"] mD:=by
 rintro xs Q ⟨x,ns,y,ms,rfl,hx,hy,hl,hm,q⟩
 refine⟨_,rfl,y,ms,rfl,hy,hm,fun ps d=>⟨trivial,?_⟩⟩
 refine⟨_,rfl,_,hx.seq,qV hx,by rw [bD]; omega,fun i acc=>acc=intz ((ns.take i).filter fun z=>!decide (z ∈ ms)),rfl,?_,?_⟩
 ·rintro i z acc hz rfl
  obtain ⟨n,rfl,hn⟩:=gP hz
  have tk:=oE (p:=fun z=>!decide (z ∈ ms)) hn
  refine⟨_,rfl,_,rfl,_,.inl ⟨ps,Sum.inl n,rfl,rfl,rfl⟩,_,rfl,?_⟩
  show if (!(cG ps (Sum.inl n:aG)).isSome)=true then _ else _
  rw [d.has n]
  by_cases h:n ∈ ms
  ·rw [aT1 h] at tk ⊢
   refine bF ?_
   show _=intz (List.filter _ (List.take (i+1) ns))
   rw [tk]; exact congrArg intz (ba3 _).symm
  ·rw [aT8 h] at tk ⊢
   refine bN ⟨_,rfl,trivial,?_⟩
   show _=intz (List.filter _ (List.take (i+1) ns))
   rw [tk,gC]; rfl
 ·rintro acc rfl
  rw [bD,ba0]
  exact⟨⟨_,_,rfl,rfl,dB _,trivial,q⟩,fun ns z=>by cases z⟩
noncomputable def aA1 (ws:List Int) (ls:List (Int × Int)) (S:List Int) (h:Int):Bool:=decide (az9 (aK ls h) S < ws.getD h.toNat 0)
noncomputable def stay (ws:List Int) (ls:List (Int × Int)) (S:List Int):List Int:=S.filter (aA1 ws ls S)
theorem r9 {n:Nat}{S:List Int} (h:b7 n S=true) (p:Int->Bool):b7 n (S.filter p)=true:=by
 obtain ⟨h1,h2⟩:=dX h
 have u:dY (n:Int) (S.filter p):=⟨(fU h1).filter p,fun x hx=>h2 x (aU4.mp hx).1,by
  have:=oH h
  have:=aX9 p S
  omega⟩
 exact u.set
section
variable {ws : List Int} {ls : List (Int × Int)} {S T : List Int}
theorem N5 {n:Nat}{A B:List Int} (ha:b7 n A=true) (hb:b7 n B=true) (h:∀ x,x ∈ A ↔ x ∈ B):A=B:=by
 have ua:=fU (dX ha).1
 have ub:=fU (dX hb).1
 have p:A.Perm B:=(bg0 (ua.imp fun z=>bd2 z) (ub.imp fun z=>bd2 z)).mpr h
 exact vL p (ua.imp fun z=>Int.le_of_lt z) (ub.imp fun z=>Int.le_of_lt z)
end
section
variable {ws : List Int} {ls : List (Int × Int)} {ns : List Int}
theorem aA2 (wb:Wb ws ls) {h x:Int} (hx:x ∈ aK ls h):x ∈ rng ws.length:=by
 unfold aK at hx
 obtain ⟨l,hl,hx⟩:=List.mem_flatMap.mp hx
 have:=wb.links l hl
 rcases aT9.mp hx with hx | hx
 ·split at hx
  ·rw [aT0.mp hx]; exact cJ.mpr this.2
  ·cases hx
 ·split at hx
  ·rw [aT0.mp hx]; exact cJ.mpr this.1
  ·cases hx
noncomputable def vO (n:Nat) (S:List Int):List Int:=(rng n).filter fun x=>!decide (x ∈ S)
end
end Core
namespace Raw
open PySem PySem.W PyProof.Rows
section
variable {prog : Program} {w : World} {A : Around} {E : Value → Shared → Prop} {s : Shared} {T : String} {r d : Addr} {n : Nat} {P : Nat → Value → Prop} {OK : Heap → Prop}
theorem aA3 {R:Result->Shared->Prop} (K:KdlSrc prog w T r d n P OK) (hh:A.handled=none) (hok:OK s.heap) (hn:n<=sizeLine)
  (hR:∀ h' tk acc c,(∀ b o,b ≠ s.heap.objs.size->(s.heap.push { cls:=.type "list",data:=.seq ([]:List Value).toArray }).get? b=some o->h'.get? b=some o)->h'.get? s.heap.objs.size=some { cls:=.type "list",dict:=none,data:=.seq acc c,slots:=#[] }->ItemsOf P acc n->R (.ok (.ret (.ref s.heap.objs.size))) { s with heap:=h',toks:=tk }) :
  codeAny (model prog w) A (.builtin "proto.collect" ⟨[.ref r],[]⟩) R s:=by
 have lt:=K.there _ hok
 refine codeAny_builtin PySem.F.entry_proto_collect ?_
 rw [Around.under_plainId PySem.F.plain_proto_collect _]
 show wpAny _ A.in1 (newList [] >>= fun l=>again (.builtin "list.__iadd__" ⟨[l,.ref r],[]⟩)) _ _ s
 refine aS6 (aY2 ?_)
 refine aT6 ⟨plainId_quiet PySem.F.plain_list_iadd _,codeAny_builtin PySem.F.entry_list_iadd ?_⟩
 rw [Around.under_plainId PySem.F.plain_list_iadd _]
 show wpAny _ A.in1 (Builtin.List.listExtendWith (.ref s.heap.objs.size) (.ref r) (.ref s.heap.objs.size)) _ _ _
 exact kdl_extend (s:={ s with heap:=s.heap.push { cls:=.type "list",data:=.seq ([]:List Value).toArray } }) (R:=R) K hh (K.keep _ _ hok fun b _ o e=>aS7 _ e) s.heap.objs.size (bc1 lt.1) (bc1 lt.2) _ 0 (aU9 _ rfl) hR hn
theorem aA4 {Q:List Value->Shared->Prop} (K:KdlSrc prog w T r d n P OK) (hh:A.handled=none) (hok:OK s.heap) (hn:n<=sizeLine)
  (hQ:∀ h' tk acc,(∀ b o,s.heap.get? b=some o->h'.get? b=some o)->s.heap.objs.size<=h'.objs.size->ItemsOf P acc n->Q acc.toList { s with heap:=h',toks:=tk }) :
  wpAny (model prog w) A (collect (.ref r)) Q E s:=by
 unfold collect
 refine aS6 (wpAny_runValue (aA3 (s:=s) K hh hok hn fun h' tk acc c kp at1 it=>?_))
 show wpAny _ A (load s.heap.objs.size >>= _) _ _ _
 refine aS6 (wpAny_load at1 ?_)
 exact aT6 (hQ h' tk acc (fun b o e=>kp b o (aW9 (aU7 e)) (aS7 _ e)) (aY6 (aU7 at1)) it)
theorem aA5 {Q:Value->Shared->Prop}{G:List Int->Prop} (K:KdlSrc prog w T r d n P OK) (hh:A.handled=none) (hok:OK s.heap) (hn:n < 64)
  (hI:∀ acc,ItemsOf P acc n->∃ ns,IntsAre acc.toList ns/\G ns)
  (h:∀ h' tk a (out:Array Value) (ns ns':List Int) e,(∀ b o,s.heap.get? b=some o->h'.get? b=some o)->s.heap.objs.size<=a->h'.get? a=some (seqObj "list" out e)->IntsAre out.toList ns'->G ns->ns'.Perm ns->ns'.Pairwise (· <= ·)->Q (.ref a) { s with heap:=h',toks:=tk }) :
  wpAny (model prog w) A (call (.builtin "sorted") [.ref r]) Q E s:=by
 have hsl:n<=sizeLine:=aX5 (aY6 hn) (by decide)
 refine Calls.call_function_entry kind_sorted plain_sorted entry_sorted (args_sorted1 _) ?_
 unfold Builtin.«sorted»
 refine aS6 (m:=checkCount "sorted" 1 1 _) (aT6 ?_)
 refine aS6 (aA4 (s:=s) K hh hok hsl fun h' tk acc kp hs it=>?_)
 obtain ⟨ns,hi,g⟩:=hI acc it
 have hz:acc.toList.length < 64:=by rw [aX3,it.1]; exact hn
 refine aS6 (wpAny_newList ?_ (aX5 (aY6 hz) (by decide)))
 have hoL:(h'.push (seqObj "list" acc.toList.toArray 0)).get? h'.objs.size=some (seqObj "list" acc.toList.toArray 0):=aU9 _ rfl
 show wpAny _ _ _ _ _ { s with heap:=h'.push (seqObj "list" acc.toList.toArray 0),toks:=tk }
 refine aS6 (be0 (bb1 slot_list_sort ⟨_,hoL,rfl⟩ entry_list_sort (list_sort_tree hoL hi hz fun out ns' a1 a2 a3=>⟨_,rfl,?_⟩) (args_list_sort _)))
 obtain ⟨e,he⟩:=sortedHeap_at (vs:=acc.toList) (out:=out) hoL
 refine aT6 ⟨_,rfl,h _ tk h'.objs.size out ns ns' e (fun b o hb=>?_) hs he a1 g a2 a3⟩
 have lt:=aU7 (kp b o hb)
 rw [sortedHeap_old (aW9 lt) (by rw [size_push']; exact Nat.lt_succ_of_lt lt)]
 exact aS7 _ (kp b o hb)
end
end Raw
namespace L2
open PySem PySem.Spec PyProof.Rows
section
variable {X : Cx}
theorem aA6 (hc:X.calm=true):cY X (.builtin "sorted") (fun xs H Q=>∃ a kvs ns,xs = [.ref a]/\H a=some (.dK kvs)/\kvs.map (·.1)=ns.map Sum.inl/\ns.length < 64/\∀ l (ms:List Int),H l=none->ms.Perm ns->ms.Pairwise (· <= ·)->Q (.ref l) (upd H l (.lst (ms.map V.int)))):=by
 intro pins s σ H xs us Q I r h
 obtain ⟨a,kvs,ns,rfl,ha,hk,h64,q⟩:=h
 obtain ⟨u,rfl,ru⟩:=gT r
 cases ru
 obtain ⟨es,ep,rd,far,vk,z⟩:=an0 I ha
 have hl:=vk.length
 have hl2:=congrArg List.length hk
 rw [aS9,aS9] at hl hl2
 have hsz:es.toList.length=es.size:=aX3
 have e1:(kvs.map fun p=>kV p.1)=ns.map V.int:=by
  have:(kvs.map fun p=>kV p.1)=(kvs.map (·.1)).map kV:=by rw [aY7]; rfl
  rw [this,hk,aY7]; rfl
 rw [e1] at vk
 refine Raw.aA5 (G:=fun ms=>ms=ns) (Raw.am9 far) (I.ok.hd hc) rd (by omega) (fun acc it=>⟨ns,by rw [an1 it]; exact pC vk,rfl⟩) fun h' tk l out ns1 ns' e kp hn he a1 g a2 a3=>?_
 subst g
 have hlen:ns'.length=ns1.length:=a2.length_eq
 refine⟨.ref l,upd H l (.lst (ns'.map V.int)),I.laid (t':=tk) kp hn ⟨?_,out.toList,e,pH a1,by simpa using he⟩,rfl,q _ ns' (I.hok.fresh hn) a2 a3⟩
 rw [aS9,hlen]
 exact aY6 (nF (by omega))
end
end L2
namespace PP
open PySem L2 PyProof.Rows
section
variable {X : Cx} {a b e : Expr} {ta tb te : aF} {tr : cQ} {pos p2 : Pos}
noncomputable def vP:List PV->(PV->Prop)->Prop:=fun xs Q=>∃ (ps:List (aG × PV)) (ns:List Int),xs = [.dK ps]/\ps.map (·.1)=ns.map Sum.inl/\ns.length < 64/\∀ ms:List Int,ms.Perm ns->ms.Pairwise (· <= ·)->Q (.lst (intz ms))
theorem aA7:g9 X vP (fun xs H Q=>∃ a kvs ns,xs = [.ref a]/\H a=some (.dK kvs)/\kvs.map (·.1)=ns.map Sum.inl/\ns.length < 64/\∀ l (ms:List Int),H l=none->ms.Perm ns->ms.Pairwise (· <= ·)->Q (.ref l) (upd H l (.lst (ms.map V.int)))):=by
 rintro H vs xs Q Q' r ⟨ps,ns,rfl,e,hl,q⟩ k
 obtain ⟨v,rfl,r1⟩:=r.one
 cases r1 with
 | @dK a kvs _ m h e2 r2=>
  exact⟨a,kvs,ns,rfl,h,e2.trans e,hl,fun l ms hl' p o=>k _ _ _ (bL hl' _) (.lst hl' bK (Reps.intz ms)) (q ms p o)⟩
theorem aA8 (B:Bt X.mg) (hc:X.calm=true) (ha:QA X [e] tr) (hg:Gl X "sorted":=by rfl) (he:starEach [e] X.env=(false,eval e X.env) :: starEach [] X.env:=by rfl) (hpl:(backTo pos (starEach [] X.env)).any (·.1)=false:=by rfl):QE X (.Call (.Name "sorted" p2) [e] [] pos) (aB vP tr):=
 j9 (aA6 hc) aA7 hg B.sorted PyProof.Rows.boot_sorted ha (he:=he) (hpl:=hpl)
end
end PP
namespace Core
open PySem L2 PP
theorem aA9 {ps:List (aG × PV)}{h:Int}{v:PV}{S:List Int} (e:ps.map (·.1)=S.map Sum.inl) (hn:h ∉ S):fB ps (Sum.inl h:aG) v=ps ++ [(Sum.inl h,v)]:=by
 unfold fB
 rw [if_neg]
 intro z
 rw [List.any_eq_true] at z
 obtain ⟨p,hp,hq⟩:=z
 have:p.1 ∈ ps.map (·.1):=aU8.mpr ⟨p,hp,rfl⟩
 rw [e,aW8 hq] at this
 obtain ⟨y,hy,e2⟩:=aU8.mp this
 exact hn (Sum.inl.inj e2 ▸ hy)
theorem aB0 {xs:List PV}{w:Int} (h:0<=w):hV xs none (some w)=xs.take w.toNat:=by
 unfold hV
 rw [HT.ag6,List.drop_zero,Nat.sub_zero]
 have:HT.aW xs.length xs.length (some w)=min w.toNat xs.length:=by
  show (if w < 0 then (w+(xs.length:Int)).toNat else min w.toNat xs.length)=_
  rw [if_neg (by omega)]
 rw [this,<- List.take_take,ba0]
theorem dF {ls:List (Int × Int)}{h x:Int}:x ∈ aK ls h ↔ ∃ l ∈ ls,(l.1=h/\l.2=x) ∨ (l.2=h/\l.1=x):=by
 unfold aK
 rw [List.mem_flatMap]
 constructor
 ·rintro ⟨l,hl,hx⟩
  refine⟨l,hl,?_⟩
  rcases aT9.mp hx with hx | hx
  ·split at hx
   ·rename_i e; exact .inl ⟨e,(aT0.mp hx).symm⟩
   ·cases hx
  ·split at hx
   ·rename_i e; exact .inr ⟨e,(aT0.mp hx).symm⟩
   ·cases hx
 ·rintro ⟨l,hl,⟨e1,e2⟩ | ⟨e1,e2⟩⟩
  ·exact⟨l,hl,aX2 _ (by rw [if_pos e1,e2]; exact List.mem_singleton_self _)⟩
  ·exact⟨l,hl,aW2 _ (by rw [if_pos e1,e2]; exact List.mem_singleton_self _)⟩
theorem N6 {h:Int}:∀ {ls:List (Int × Int)},(∀ l ∈ ls,l.1 < l.2)->ls.Pairwise jE->(aK ls h).Nodup
 | [],_,_=>.nil
 | l :: r,hl,hp=>by
  have ih:=N6 (h:=h) (ls:=r) (fun m hm=>hl m (aT5 _ hm)) (aY5.mp hp).2
  have h0:=hl l aS8
  have e:aK (l :: r) h=((if l.1=h then [l.2] else []) ++ (if l.2=h then [l.1] else [])) ++ aK r h:=rfl
  rw [e]
  refine bf0.mpr ⟨?_,ih,fun x hx y hy q=>?_⟩
  ·by_cases e1:l.1=h
   ·rw [if_pos e1,if_neg (by omega),ba3]; exact aW1 _ _
   ·rw [if_neg e1]
    split
    ·exact aW1 _ _
    ·exact .nil
  ·subst q
   obtain ⟨m,hm,c⟩:=dF.mp hy
   have h1:=hl m (aT5 _ hm)
   have h2:=(aY5.mp hp).1 m hm
   have c':(l.1=h/\l.2=x) ∨ (l.2=h/\l.1=x):=by
    rcases aT9.mp hx with hx | hx
    ·split at hx
     ·rename_i e; exact .inl ⟨e,(aT0.mp hx).symm⟩
     ·cases hx
    ·split at hx
     ·rename_i e; exact .inr ⟨e,(aT0.mp hx).symm⟩
     ·cases hx
   unfold jE at h2
   omega
end Core
namespace L2
open PySem PySem.Spec PyProof.Rows
theorem N7:∀ (n:Nat) (ns:List Int),n<=ns.length->preSum (fun i=>ns.getD i 0) n=(ns.take n).sum
 | 0,_,_=>by simp [preSum]
 | n+1,ns,h=>by
  show preSum (fun i=>ns.getD i 0) n+ns.getD n 0=_
  have h1:ns[n]? = some (ns[n]'(by omega)):=aU1 (by omega)
  have h2:ns.take (n+1)=ns.take n ++ [ns[n]'(by omega)]:=by rw [aX0,h1]; rfl
  have h3:ns.getD n 0=ns[n]'(by omega):=by rw [aU3,h1]; rfl
  rw [N7 n ns (by omega),h2,h3,List.sum_append,aW7,List.sum_nil]
  omega
section
variable {X : Cx}
theorem aB1 (hc:X.calm=true):cY X (.builtin "sum") (fun xs H Q=>∃ (a:Addr) (ns:List Int),xs = [.ref a]/\(aJ X.K H a (ns.map V.int) ∨ aQ X.K H a (ns.map V.int))/\Q (.int ns.sum) H):=by
 intro pins s σ H xs us Q I r h
 obtain ⟨a,ns,rfl,hq,q⟩:=h
 obtain ⟨u,rfl,ru⟩:=gT r
 cases ru
 have hh:X.A.in1.handled=none:=I.ok.hd hc
 have fin:∀ (its:List Value) (o:Obj) (wr:List Addr) (hw:∀ b ∈ wr,s.heap.objs.size<=b),aI (ns.map V.int) its->∀ s' t',Moved wr (fun a b=>b=a) { s with heap:=s.heap.push o } s'->
   ∃ x H',a6 X pins σ H' s'/\b4 x (.int (preSum (fun i=>ns.getD i 0) its.toArray.size) t')/\Q x H':=fun its o wr hw rv s' t' hm=>by
  have hl:=rv.length
  rw [aS9] at hl
  have e:=Moved.eq_with hm
  have e2:preSum (fun i=>ns.getD i 0) its.toArray.size=ns.sum:=by rw [aU2,<- hl,N7 _ _ (aT2 _),ba0]
  rw [e2,e]
  refine⟨.int ns.sum,H,I.kept (t':=s'.toks) (h':=s'.heap) fun b o' eb=>hm.heap b o' (fun z=>?_) (aS7 _ eb),⟨t',rfl⟩,q⟩
  exact absurd (aU7 eb) (Nat.not_lt.mpr (hw b z))
 have val:∀ (its:List Value),aI (ns.map V.int) its->∀ (i:Nat) (v:Value),its.toArray[i]? = some v->∃ t,v = .int (ns.getD i 0) t:=fun its rv i v hv=>by
  have hi:its[i]? = some v:=by simpa using hv
  have hl:=rv.length
  rw [aS9] at hl
  have hil:i < ns.length:=by rw [hl]; exact (aT3.mp hi).1
  obtain ⟨u,e1,e2⟩:=rv.get (i:=i) (x:=.int ns[i]) (by simp [hil])
  rw [hi] at e1; cases e1
  obtain ⟨t,rfl⟩:=e2
  exact⟨t,by rw [aU3,aU1 hil]; rfl⟩
 rcases hq with hq | hq
 ·obtain ⟨its,rv,p,hz⟩:=I.list hq
  have hlt:a < s.heap.objs.size:=by obtain ⟨o,e,_⟩:=p.isList; exact aU7 e
  refine call_sum_walkAnyS (wpAny_pyIter_list p.isList ?_)
  refine⟨s.heap.objs.size,_,_,_,_,_,_,fun i=>ns.getD i 0,rfl,(Walks.list hh s.heap.objs.size a (aW9 hlt) its.toArray).toS,⟨⟨_,aU9 _ rfl,rfl,rfl⟩,p.isList.push _⟩,?_,val its rv,fun s' t' hm=>fin its _ _ ?_ rv s' t' hm⟩
  ·intro b hb
   have hs:(s.heap.push { cls:=.type "list_iterator",data:=.fields #[.ref a,.int 0 0] }).objs.size=s.heap.objs.size+1:=size_push' _ _
   show b < (s.heap.push _).objs.size
   rw [size_push']
   rcases aU0.mp hb with rfl | hb
   ·exact Nat.lt_succ_self _
   ·rw [aT0.mp hb]; exact Nat.lt_succ_of_lt hlt
  ·intro b hb
   rw [aT0.mp hb]; exact aT2 _
 ·obtain ⟨its,rv,p,hz⟩:=I.tuple hq
  have hlt:a < s.heap.objs.size:=by obtain ⟨o,e,_⟩:=p; exact aU7 e
  refine call_sum_walkAnyS (wpAny_pyIter_tuple p ?_)
  refine⟨s.heap.objs.size,_,_,_,_,_,_,fun i=>ns.getD i 0,rfl,(Walks.tuple hh s.heap.objs.size a (aW9 hlt) its.toArray).toS,⟨⟨_,aU9 _ rfl,rfl,rfl⟩,?_⟩,?_,val its rv,fun s' t' hm=>fin its _ _ ?_ rv s' t' hm⟩
  ·obtain ⟨o,e,h⟩:=p
   exact⟨o,aS7 _ e,h⟩
  ·intro b hb
   show b < (s.heap.push _).objs.size
   rw [size_push']
   rcases aU0.mp hb with rfl | hb
   ·exact Nat.lt_succ_self _
   ·rw [aT0.mp hb]; exact Nat.lt_succ_of_lt hlt
  ·intro b hb
   rw [aT0.mp hb]; exact aT2 _
theorem aB2 (hc:X.calm=true):cY X (.builtin "any") (fun xs H Q=>∃ (a:Addr) (bs:List Bool),xs = [.ref a]/\aJ X.K H a (bs.map V.bl)/\Q (.bl (bs.any id)) H):=by
 intro pins s σ H xs us Q I r h
 obtain ⟨a,bs,rfl,hq,q⟩:=h
 obtain ⟨u,rfl,ru⟩:=gT r
 cases ru
 obtain ⟨its,rv,p,hz⟩:=I.list hq
 have hl:=rv.length
 rw [aS9] at hl
 have hlt:a < s.heap.objs.size:=by obtain ⟨o,e,_⟩:=p.isList; exact aU7 e
 refine call_any_walk (wpAny_pyIter_list p.isList ?_)
 have hh:X.A.in1.handled=none:=I.ok.hd hc
 refine⟨s.heap.objs.size,_,_,_,_,_,fun i=>bs.getD i false,rfl,Walks.list hh s.heap.objs.size a (aW9 hlt) its.toArray,⟨⟨_,aU9 _ rfl,rfl,rfl⟩,p.isList.push _⟩,?_,fun h' tk kp=>?_⟩
 ·intro i v s' Q' E' hP hQ'
  have hi:its[i]? = some v:=by simpa using hP
  have hil:i < bs.length:=by rw [hl]; exact (aT3.mp hi).1
  obtain ⟨u,e1,e2⟩:=rv.get (i:=i) (x:=.bl bs[i]) (by simp [hil])
  rw [hi] at e1; cases e1
  cases e2
  have:bs.getD i false=bs[i]:=by rw [aU3,aU1 hil]; rfl
  have hQ2:Q' (bs.getD i false) s':=hQ'
  rw [this] at hQ2
  exact be6 hQ2
 ·have any_eq:(List.range its.toArray.size).any (fun i=>bs.getD i false)=bs.any id:=by
   rw [aU2,<- hl]
   clear q rv hz hl hq hlt p hh kp
   induction bs with
   | nil=>rfl
   | cons b r ih=>
    rw [aV8,List.range_succ_eq_map,bf4,List.any_map,bf4,<- ih]
    rfl
  rw [any_eq]
  refine⟨.bl (bs.any id),H,I.kept (t':=tk) (h':=h') fun b o e=>kp b o (fun z=>?_) (aS7 _ e),rfl,q⟩
  rw [aT0.mp z] at e
  exact absurd (aU7 e) (aX8 _)
end
end L2
namespace PP
open PySem L2 PyProof.Rows
section
variable {X : Cx} {a b e : Expr} {ta tb te : aF} {tr : cQ} {pos p2 : Pos}
noncomputable def l8:List PV->(PV->Prop)->Prop:=fun xs Q=>∃ x ns,xs = [x]/\iZ x=some (intz ns)/\Q (.int ns.sum)
theorem aB3:g9 X l8 (fun xs H Q=>∃ (a:Addr) (ns:List Int),xs = [.ref a]/\(aJ X.K H a (ns.map V.int) ∨ aQ X.K H a (ns.map V.int))/\Q (.int ns.sum) H):=by
 rintro H vs xs Q Q' r ⟨x,ns,rfl,e,q⟩ k
 obtain ⟨v,rfl,r1⟩:=r.one
 obtain ⟨a,us,rfl,hs,r2⟩:=r1.seq e
 obtain rfl:=r2.ofInts
 exact⟨a,ns,rfl,hs,k _ _ _ (aC.refl _) (.int _) q⟩
theorem rA (B:Bt X.mg) (hc:X.calm=true) (ha:QA X [e] tr) (hg:Gl X "sum":=by rfl) (he:starEach [e] X.env=(false,eval e X.env) :: starEach [] X.env:=by rfl) (hpl:(backTo pos (starEach [] X.env)).any (·.1)=false:=by rfl):QE X (.Call (.Name "sum" p2) [e] [] pos) (aB l8 tr):=
 j9 (aB1 hc) aB3 hg B.sum PyProof.Rows.boot_sum ha (he:=he) (hpl:=hpl)
noncomputable def vQ:List PV->(PV->Prop)->Prop:=fun xs Q=>∃ bs:List Bool,xs = [.lst (bs.map PV.bl)]/\Q (.bl (bs.any id))
theorem aB4:g9 X vQ (fun xs H Q=>∃ (a:Addr) (bs:List Bool),xs = [.ref a]/\aJ X.K H a (bs.map V.bl)/\Q (.bl (bs.any id)) H):=by
 rintro H vs xs Q Q' r ⟨bs,rfl,q⟩ k
 obtain ⟨v,rfl,r1⟩:=r.one
 obtain ⟨a,us,rfl,_,h,r2⟩:=r1.sqL
 obtain rfl:=r2.ofBls
 exact⟨a,bs,rfl,aJ.of h,k _ _ _ (aC.refl _) (.bl _) q⟩
theorem aB5 (B:Bt X.mg) (hc:X.calm=true) (ha:QA X [e] tr) (hg:Gl X "any":=by rfl) (he:starEach [e] X.env=(false,eval e X.env) :: starEach [] X.env:=by rfl) (hpl:(backTo pos (starEach [] X.env)).any (·.1)=false:=by rfl):QE X (.Call (.Name "any" p2) [e] [] pos) (aB vQ tr):=
 j9 (aB2 hc) aB4 hg B.any PyProof.Rows.boot_any ha (he:=he) (hpl:=hpl)
end
end PP
namespace Core
open PySem L2 PP
noncomputable def mE:bH:=fun xs Q=>∃ (x:PV) (ns:List Int) (m:Nat),xs = [x,.int m]/\cV x ns/\ns.length=m/\m<=1000000/\(∀ w ∈ ns,0<=w)/\Q (.tup (intz ns))
noncomputable def N8:aN:=(aE (cU (bJ (G6 (aB dU (a7 (a5 0) a9)) (a5 1))) qL cT)
 (aE (cU (bJ (aB vQ (a7 (cD (cL (a5 0)) [none] (bQ 0) cM (kS (a5 0) (qC (.int 0)))) a9))) qL cT)
 (bP (aB iH (a7 (a5 0) a9)))))
theorem aB6:cA N8 ["prices","many"] mE:=by
 rintro xs Q ⟨x,ns,m,rfl,hx,hl,hm,hp,q⟩
 refine⟨_,rfl,_,_,rfl,hx.len,_,rfl,.inl ⟨_,_,rfl,rfl,_,rfl,?_⟩⟩
 show if (!decide ((ns.length:Int)=(m:Int)))=true then _ else _
 rw [aT1 (by omega)]
 refine bF ⟨_,rfl,_,hx.seq,qV hx,by rw [bD]; omega,fun i acc=>acc=List.replicate i (PV.bl false),rfl,?_,?_⟩
 ·rintro i y acc hy rfl
  obtain ⟨n,rfl,hn⟩:=gP hy
  refine⟨_,rfl,_,_,rfl,rfl,trivial,?_⟩
  dsimp only
  rw [aT8 (by have:=hp n (aT4 hn); omega),List.replicate_succ']
 ·rintro acc rfl
  refine⟨List.replicate (intz ns).length false,by rw [List.map_replicate]; rfl,_,rfl,?_⟩
  have:(List.replicate (intz ns).length false).any id=false:=by
   rw [List.any_eq_false]; intro x hx; rw [(List.mem_replicate.mp hx).2]; decide
  rw [this]
  exact bF ⟨_,rfl,⟨_,_,rfl,hx.seqT,dB _,trivial,q⟩,hx.noscr⟩
theorem vR {l l':List Int} (p:l.Perm l'):l.sum=l'.sum:=by
 induction p with
 | nil=>rfl
 | cons x _ ih=>rw [aW7,aW7,ih]
 | swap x y l=>simp only [aW7]; omega
 | trans _ _ h1 h2=>exact h1.trans h2
theorem rB:∀ {l:List Int},(∀ x ∈ l,0<=x)->0<=l.sum
 | [],_=>by simp
 | x :: r,h=>by
  have h1:=h x aS8
  have h2:=rB fun y hy=>h y (aT5 _ hy)
  rw [aW7]; omega
theorem N9 {l:List Int}{i:Nat} (h:i < l.length):(l.take (i+1)).sum=(l.take i).sum+l[i]:=by
 rw [aX0,aU1 h,List.sum_append]; simp
theorem aB7 {zs t:List Int} (so:zs.Pairwise (· <= ·)) (sub:t.Sublist zs):(zs.take t.length).sum<=t.sum:=by
 induction sub with
 | slnil=>simp
 | @cons t zs a sub ih=>
  have so':=(aY5.mp so)
  have ih:=ih so'.2
  cases t with
  | nil=>simp
  | cons b t=>
   have hl:=sub.length_le
   rw [aV8] at hl ih ⊢
   rw [List.take_succ_cons,aW7]
   rw [N9 (by omega)] at ih
   have:=so'.1 _ (List.getElem_mem (show t.length < zs.length by omega))
   omega
 | @cons_cons t zs a sub ih=>
  have ih:=ih (aY5.mp so).2
  rw [aV8,List.take_succ_cons,aW7,aW7]
  omega
theorem O0 {zs:List Int} (hp:∀ x ∈ zs,0<=x) {i j:Nat} (h:i<=j):(zs.take i).sum<=(zs.take j).sum:=by
 induction h with
 | refl=>exact bc6 _
 | @step k _ ih=>
  by_cases hk:k < zs.length
  ·rw [N9 hk]
   have:=hp _ (List.getElem_mem hk)
   omega
  ·have e1:zs.take (k+1)=zs:=aW0 (by omega)
   have e2:zs.take k=zs:=aW0 (by omega)
   rw [e1]; rw [e2] at ih; exact ih
theorem aB8 {hs zs t:List Int} (p:zs.Perm hs) (so:zs.Pairwise (· <= ·)) (sub:t.Sublist hs) (hp:∀ x ∈ hs,0<=x) {k:Nat} (hk:k<=t.length):(zs.take k).sum<=t.sum:=by
 obtain ⟨t',p',sub'⟩:=List.exists_perm_sublist sub p.symm
 have h1:=aB7 so sub'
 rw [vR p'] at h1
 refine Int.le_trans (O0 (fun x hx=>hp x (p.mem_iff.mp hx)) ?_) h1
 rw [p'.length_eq]; exact hk
theorem u3 {ls:List (Int × Int)}{wts:List Int} (e:wts.length=ls.length):(ls.zip wts).map (·.2)=wts:=by
 rw [List.map_snd_zip]; omega
theorem O1 (n:Nat):(rng n).Pairwise (· < ·):=by
 unfold rng
 rw [bb6]
 exact (List.pairwise_lt_range (n:=n)).imp fun h=>by omega
theorem aB9 (n:Nat) (p:Int->Bool):b7 n ((rng n).filter p)=true:=by
 refine dY.set ⟨(O1 n).sublist List.filter_sublist,fun x hx=>?_,?_⟩
 ·have:=cJ.mp (aU4.mp hx).1
  exact this
 ·have:=aX9 p (rng n)
  rw [dL] at this
  omega
section
variable {ws : List Int} {ls : List (Int × Int)} {ns wts : List Int} {m : Nat}
noncomputable def loose (ls:List (Int × Int)) (wts ns:List Int):List ((Int × Int) × Int):=(ls.zip wts).filter fun z=>!(decide (z.1.1 ∈ ns) && decide (z.1.2 ∈ ns))
end
end Core
set_option maxHeartbeats 1000000
set_option maxHeartbeats 1000000
set_option maxHeartbeats 1000000
set_option maxHeartbeats 1000000
namespace PP
open PySem L2 PyProof.Rows
noncomputable abbrev fD:=(Str->Prop)->bH
noncomputable def EX (K:PySem.W.Frag) (H0:Hp) (Ep:Str->Prop):XK:=fun c d H'=>d=none/\aC H0 H'/\∃ n C,c = .ref C/\PySem.W.nsIn K mainGlobals n=some (some (.ref C))/\Ep n
noncomputable def O2 (K:PySem.W.Frag) (p:fD):Sp:=fun vs H Q E=>∃ xs Qp Ep,Reps K (fun _=>True) H vs xs/\p Ep xs Qp/\(∀ v H' x,aC H H'->aM K (fun a=>H a=none) H' v x->Qp x->Q v H')/\
 ∀ n C H',aC H H'->PySem.W.nsIn K mainGlobals n=some (some (.ref C))->Ep n->E (.ref C) none H'
structure eF (P:Program) (w:World) (K:PySem.W.Frag) (mg:Str->Option Value) (base:Heap) (k:Nat) (x:Str) (ps:List Str) (p:fD):Prop where
 ex:∃ f fd,cF P w K mg base (dW P w) k f fd ps (O2 K p)/\gU K fd ps []/\PySem.W.keepIn K (.ref f)=true/\mg x=some (.ref f)
section
variable {X : Cx} {σ : L2.St} {H : Hp} {D : cX} {tr : cQ} {Q' : VK} {a b c e : Expr} {es : List Expr} {pos p2 cp np hp : Pos} {t : aN} {te : aF} {tc : cC}
noncomputable def vS (Ep:Str->Prop) (p:fD) (t:cQ):aF:=aB (p Ep) t
theorem O3 {p:fD}{Ep:Str->Prop} (h:LE X (vS Ep p tr) σ H Q'):sV (O2 X.K p) [] (EX X.K X.H₀ Ep) (LA X tr) σ H Q':=by
 obtain ⟨W,ρ,Q,px,q,k⟩:=h
 refine⟨W,ρ,_,px,q,fun vs H1 xs s1 r1 q1=>⟨_,_,Ep,by rw [ba3]; exact r1.any,q1,fun v H' x s2 r2 q2=>k v H' x .fr (s1.trans s2) (r2.same (aC.refl _) fun _ z=>s1.free z) q2,fun n C H' s2 z1 z2=>⟨rfl,(px.same.trans s1).trans s2,n,C,rfl,z1,z2⟩⟩⟩
theorem aC0 {Ep:Str->Prop}{k j:Nat}{x:Str}{ps:List Str}{p:fD} (hX:m9 X (EX X.K X.H₀ Ep)) (d:eF X.prog X.w X.K X.mg X.base k x ps p) (hr:bZ j X.A) (ha:QA X (e :: es) tr) (hkj:k<=j:=by decide) (hg:Gl X x:=by rfl) (hdb:(x == ("__debug__" : Str))=false:=by decide)
  (he:starEach (e :: es) X.env=(false,eval e X.env) :: starEach es X.env:=by rfl) (hpl:(backTo pos (starEach es X.env)).any (·.1)=false:=by rfl):QE X (.Call (.Name x p2) (e :: es) [] pos) (vS Ep p tr):=by
 obtain ⟨f,fd,F,b,kp,m⟩:=d.ex
 exact cH (sW F (hr.mono hkj) hg m kp b .nil hX.pass ha hdb he hpl) fun _ _ _=>O3
theorem O4 {k j:Nat}{x:Str}{ps:List Str}{p:fD} (d:eF X.prog X.w X.K X.mg X.base k x ps p) (hr:bZ j X.A) (ha:QA X (e :: es) tr) (hkj:k<=j:=by decide) (hg:Gl X x:=by rfl) (hdb:(x == ("__debug__" : Str))=false:=by decide)
  (he:starEach (e :: es) X.env=(false,eval e X.env) :: starEach es X.env:=by rfl) (hpl:(backTo pos (starEach es X.env)).any (·.1)=false:=by rfl):QE X (.Call (.Name x p2) (e :: es) [] pos) (aB (p fun _=>False) tr):=by
 obtain ⟨f,fd,F,b,kp,m⟩:=d.ex
 refine cH (sW F (E:=EX X.K X.H₀ fun _=>False) (hr.mono hkj) hg m kp b .nil (fun _ _ _ _ _ _ _ h=>?_) ha hdb he hpl) fun _ _ _ h=>O3 (Ep:=fun _=>False) h
 obtain ⟨_,_,_,_,_,_,_,_,_,_,_,_,z⟩:=h
 exact z.elim
noncomputable def oK (Ep:Str->Prop) (n:Str) (t:cQ):aN:=fun _ ρ=>t ρ fun xs=>xs.length<=1000/\Ep n
theorem aC1 {Ep:Str->Prop}{n:Str}{C:Addr} (hn:PySem.W.nsIn X.K mainGlobals n=some (some (.ref C))) (h:LS X (oK Ep n tr) D σ H):K3 (EX X.K X.H₀ Ep) C (LA X tr) D σ H:=by
 obtain ⟨W,ρ,D',px,q,k⟩:=h
 exact⟨W,ρ,_,px,q,fun vs H1 xs s1 r z=>⟨by rw [r.length]; exact uG z.1,rfl,px.same.trans s1,n,C,rfl,hn,z.2⟩⟩
structure Xc (K:PySem.W.Frag) (mg:Str->Option Value) (base:Heap) (n:Str):Prop where
 ex:∃ C B newId initId bm,OwnCls n C bm newId mg base/\ExcBaseFacts B newId initId bm/\PySem.W.nsIn K mainGlobals n=some (some (.ref C))
theorem vT {Ep:Str->Prop}{n:Str} (hX:m9 X (EX X.K X.H₀ Ep)) (x:Xc X.K X.mg X.base n) (ha:QA X (e :: es) tr) (hc:X.calm=true:=by rfl) (hg:Gl X n:=by rfl) (hd:(n == ("__debug__" : Str))=false:=by decide)
  (he:starEach (e :: es) X.env=(false,eval e X.env) :: starEach es X.env:=by rfl) (hpl:(backTo cp (starEach es X.env)).any (·.1)=false:=by rfl):QS X (.Raise (some (.Call (.Name n np) (e :: es) [] cp)) none pos) (oK Ep n tr):=by
 obtain ⟨C,B,newId,initId,bm,O,FB,hn⟩:=x.ex
 exact dH (aw6 hX hc O FB ha hg hd he hpl) fun _ _ _=>aC1 hn
noncomputable abbrev mF:=gN->(Str->Prop)->bG->Prop
noncomputable def LB (X:Cx) (t:mF):TB:=fun D Ex σ H=>∃ (W:Addr->Prop) (ρ:bG) (D':gN) (Ep:Str->Prop),PX X.K X.H₀ W σ ρ H/\t D' Ep ρ/\nP X W H D' D/\∀ n C H',aC H H'->PySem.W.nsIn X.K mainGlobals n=some (some (.ref C))->Ep n->Ex (.ref C) none H'
noncomputable def QB (X:Cx) (sts:List Stmt) (t:mF):Prop:=PB X sts (LB X t)
theorem pbI {sts:List Stmt}{t t':TB} (h:PB X sts t) (m:∀ D Ex σ H,t' D Ex σ H->t D Ex σ H):PB X sts t':=fun pins s σ H D Ex I q=>h pins s σ H D Ex I (m D Ex σ H q)
noncomputable def vU:List Str:=["BadWeb","BadSet","BadOrder","BadPrices","BadBoard","BadDeed","NotWood","NoPaper","NoSuch","TooMany","NoText","OddRound"]
noncomputable def oM (n m:Str):Option Bool:=if vU.contains n then some (n == m || m == "HearthError" || m == "ValueError") else none
structure vV (K:PySem.W.Frag) (mg:Str->Option Value) (m:Str):Prop where
 ex:∃ Ch,mg m=some (.ref Ch)/\vC K Ch/\∀ n C,oM n m=some true->PySem.W.nsIn K mainGlobals n=some (some (.ref C))->PySem.W.subIn K (.ref C) (.ref Ch)=some true
noncomputable def nC:V->Value
 | .ref a=>.ref a
 | .ty n=>.type n
 | _=>.none
end
structure oN (K:PySem.W.Frag) (C:Addr):Prop where
 cls:PySem.W.isClsIn K C=true
 ty:PySem.W.typeIn K (.ref C)=some (.type "type")
 ga:PySem.W.findIn K (.ref C) "__getattribute__" = some (some (.builtin "BaseException.__getattribute__"))
 gt:PySem.W.findIn K (.ref C) "__getattr__" = some none
 fc:PySem.W.findIn K (.ref C) "__class__" = some (some (.builtin "object.__class__"))
 fg:PySem.W.specialIn K (.builtin "object.__class__") "__get__" = some (some (.builtin "getset_descriptor.__get__"))
 ft:PySem.W.takesIn K (.builtin "object.__class__")=some true
 ob:PySem.W.mroIn K C (.type "object")=some true
 be:PySem.W.mroIn K C (.type "BaseException")=some true
theorem O5 {K:PySem.W.Frag}{h₀:Heap}{mg:Str->Option Value}{x:Str}{C:Addr}{bmB:List Value}{newId:String} (X:K.In h₀) (m:mg x=some (.ref C)) (q:PySem.W.excIn K C bmB newId=true):OwnCls x C bmB newId mg h₀:=by
 refine⟨m,?_⟩
 unfold PySem.W.excIn at q
 split at q
 case h_2=>cases q
 rename_i dd cd sl ho
 split at q
 case h_2=>cases q
 rename_i C' bm k0 k1 k2 k3 n k5 hm hs
 simp only [aX1,beq_iff_eq,Bool.not_eq_true'] at q
 obtain ⟨⟨⟨⟨⟨rfl,rfl⟩,dl⟩,ht⟩,hok⟩,hni⟩:=q
 obtain ⟨nm,bs,mro,ns,qn,hd,sn,sub,ab,col,del⟩:=cd
 dsimp only at hm dl hok hni
 subst hm dl
 obtain rfl:sl = #[k0,k1,k2,k3,some (.builtin n),k5]:=by
  obtain ⟨l⟩:=sl
  exact congrArg Array.mk hs
 exact⟨bm,ns,nm,qn,bs,hd,sn,sub,ab,col,dd,k0,k1,k2,k3,k5,_,X _ _ ho,.of_isNs (PySem.W.isNs_of_in X hok),PySem.W.nsMap_none_of_in X hok hni,PySem.W.tail_of_in X ht⟩
theorem aC2 {n m:Str}{b:Bool} (h:oM n m=some b):n ∈ vU/\b=(n == m || m == "HearthError" || m == "ValueError"):=by
 unfold oM at h
 split at h
 ·rename_i z
  exact⟨by simpa using z,by cases h; rfl⟩
 ·cases h
theorem eF.of {P:Program}{w:World}{K:PySem.W.Frag}{mg:Str->Option Value}{base:Heap}{k:Nat}{x:Str}{ps N:List Str}{p:fD}{st:Stmt}{f:Addr}{fd:FuncData} (F:eO K x x st f fd) (m:mg x=some (.ref f)) (S:FnScope N ps (aX st))
  (hb:∀ (kV doc pm:Value) (an:Option Addr) (cdv ct:Value) (us:List Value),us.length=ps.length->bindArgs (PySem.W.fnOf x x (iU st) (eN st) (aX st) .none kV doc pm an cdv ct) ⟨us,[]⟩=pure (ps.zip us))
  (t:(Str->Prop)->aN) (len:∀ Ep xs Q,p Ep xs Q->xs.length=ps.length) (rd:∀ Ep xs Q,p Ep xs Q->t Ep { nx:=fun _=>Q .non,rt:=Q } (fR N xs))
  (body:∀ (cdv:Value) (A:Around) (outer:List Env) (s:Shared) (H:Hp) (E:XK) (Ep:Str->Prop),bZ k (A.deeper (envOfC x (aX st) s.heap.objs.size f cdv))->m9 (dA (dW P w) P w K mg base N x (aX st) f cdv A outer s H E) (EX K H Ep)->
   eR (dA (dW P w) P w K mg base N x (aX st) f cdv A outer s H E) (eN st) (t Ep)):eF P w K mg base (k+1) x ps p:=by
 refine⟨f,fd,F.okX S (fun vs H Q E h=>?_) (fun cdv A outer s H vs Q E hr h=>?_),F.binds hb,F.kp,m⟩
 ·obtain ⟨xs,Qp,Ep,r,q,_⟩:=h
  rw [r.length]; exact len Ep xs Qp q
 ·obtain ⟨xs,Qp,Ep,r,q,k,ke⟩:=h
  have ht:=body cdv A outer s H E Ep hr (aw5 fun c d H' z=>?_)
  ·refine⟨_,ht,fun _=>False,fR N xs,_,vA r,rd Ep xs Qp q,?_,?_,?_,?_⟩
   ·exact fun W' σ' H' ρ' e px q=>k _ _ _ px.same .non q
   ·exact fun v H' x s r q=>k _ _ _ s r q
   ·exact fun W' σ' H' ρ' e px q=>q
   ·exact fun W' σ' H' ρ' e px q=>q
  ·obtain ⟨rfl,s1,n,C,rfl,z1,z2⟩:=z
   exact ke n C H' s1 z1 z2
end PP
namespace Core
open PySem L2 PP
noncomputable abbrev vW (t:(Str->Prop)->aN) (N:List Str) (p:fD):Prop:=∀ Ep xs Q,p Ep xs Q->t Ep { nx:=fun _=>Q .non,rt:=Q } (fR N xs)
noncomputable def rC:fD:=fun Ep xs Q=>∃ ws ls x ns,xs = [bE ws ls,x]/\cV x ns/\ns.length<=1000/\(b7 ws.length ns=true->Q (.tup (intz ns)))/\(b7 ws.length ns=false->Ep "BadSet")
noncomputable def O6 (Ep:Str->Prop):aN:=(aE (cU (kJ (bJ (aB qU (a7 (a5 0) (a7 (a5 1) a9))))) (oK Ep "BadSet" (a7 (qC (.str "a set is of rising hearths of the web")) a9)) cT)
 (bP (aB iH (a7 (a5 1) a9))))
theorem aC3:vW O6 ["web","hearths"] rC:=by
 rintro Ep xs Q ⟨ws,ls,x,ns,rfl,hx,hl,q1,q2⟩
 refine⟨_,rfl,_,rfl,ws,ls,x,ns,rfl,hx,hl,_,rfl,?_⟩
 cases h:b7 ws.length ns with
 | true=>exact bF ⟨_,rfl,⟨_,_,rfl,hx.seqT,dB _,trivial,q1 h⟩,hx.noscr⟩
 | false=>exact bN ⟨by decide,q2 h⟩
end Core
namespace PP
open PySem L2
theorem mG {us:List Value} (h:us.length=1):∃ a,us = [a]:=List.length_eq_one_iff.mp h
theorem vX {us:List Value} (h:us.length=2):∃ a b,us = [a,b]:=by
 cases us with
 | nil=>cases h
 | cons a r=>
  obtain ⟨b,rfl⟩:=mG (us:=r) (by simpa using h)
  exact⟨a,b,rfl⟩
theorem O7 {us:List Value} (h:us.length=3):∃ a b c,us = [a,b,c]:=by
 cases us with
 | nil=>cases h
 | cons a r=>
  obtain ⟨b,c,rfl⟩:=vX (us:=r) (by simpa using h)
  exact⟨a,b,c,rfl⟩
end PP
namespace Core
open PySem L2 PP
noncomputable def NN (zs:List Int):Prop:=∀ z ∈ zs,(0:Int)<=z
theorem NN.set {zs:List Int}{z:Int} (h:NN zs) (hz:0<=z) (j:Nat):NN (zs.set j z):=fun y hy=>by
 rcases List.mem_or_eq_of_mem_set hy with hy | rfl
 ·exact h y hy
 ·exact hz
noncomputable def vY (i:Nat) (S:List Int):Prop:=S.Pairwise (· < ·)/\∀ x ∈ S,0<=x/\x < (i:Int)
theorem vY.set {i:Nat}{S:List Int} (h:vY i S):b7 i S=true:=by
 unfold b7
 rw [vD h.1,Bool.true_and,bf5]
 intro b hb
 obtain ⟨x,hx,rfl⟩:=aU8.mp hb
 have:=h.2 x hx
 unfold inB
 simp only [id,aX1,bb7]
 exact this
end Core
namespace PP
open PySem L2
section
variable {X : Cx} {a b e : Expr} {ta tb : aF} {tr : cQ} {D : cX} {σ : St} {H : Hp} {pos p2 p3 p4 : Pos}
noncomputable def rD (i:Nat) (ta tb:aF):aN:=fun D ρ=>∃ xs,ρ[i]? = some (some (.own (.lst xs)))/\ta ρ fun x _=>∃ k:Nat,x = .int k/\k<=xs.length/\xs.length < 16000000/\tb ρ fun y g=>Nw g y/\D.nx (ρ.set i (some (.own (.lst (xs.take k ++ y :: xs.drop k)))))
theorem aC4 {i:Nat} (h:LS X (rD i ta tb) D σ H):oY (pD X.K "list" K5 (iE i) (iF (LE X ta) (iF (LE X tb) jQ))) D σ H:=by
 obtain ⟨W,ρ,D',px,⟨xs,hi,q⟩,k⟩:=h
 obtain ⟨v,ev,a,rfl,wa,us,ea,r⟩:=px.sl i _ hi
 refine⟨_,ev,jU (aJ.of ea),W,ρ,_,px,q,?_⟩
 rintro w H1 x g s rx ⟨j,rfl,hj,hl,q⟩
 cases rx
 refine⟨W,ρ,_,px.mono s,q,?_⟩
 rintro w H2 y g s2 ry ⟨n,q⟩
 have ea2:=s2 _ _ (s _ _ ea)
 have s3:=s.trans s2
 refine⟨a,us,w,j,rfl,rfl,ea2,by rw [r.length]; exact hj,gM (by rw [r.length]; omega),?_⟩
 refine k.nx W σ _ _ ((Ev.same s3).trans (Ev.upd wa)) ((px.mono s3).updL hi ev wa ?_) q
 have r2:=r.same s3 fun _ z=>z
 exact ((r2.take j).append (.cons (Nw.rep (px.mono s) n ry) (r2.drop j))).keep (.upd ea2 rfl fun b m=>⟨kL wa m,m⟩)
theorem aC5 (i:Nat) {x:Str}{apos cpos xpos:Pos} (ha:QE X a ta) (hb:QE X b tb) (hN:X.N[i]? = some x:=by rfl) (hv:gF X.env.scope x:=by first | exact Or.inl rfl | exact Or.inr (Or.inl rfl) | exact Or.inr (Or.inr rfl)) (hd:(x == ("__debug__" : Str))=false:=by decide) (hcd:(x == ("__classdict__" : Str))=false:=by decide)
  (hbase:attributeBase (.Name x xpos) "insert" X.env (eval (.Name x xpos) X.env)=eval (.Name x xpos) X.env:=by rfl)
  (hfew:((backTo cpos (starEach [a,b] X.env)).all (fun x=>!x.1) && (backToKw cpos (keywordEach [] X.env)).all (fun x=>x.1.isSome) && decide (([a,b]:List Expr).length+([]:List Keyword).length+(if ([]:List Keyword).isEmpty then 0 else 1) < 30))=true:=by rfl)
  (hline:(apos.endLine == cpos.line)=true:=by rfl) (hs:starEach [a,b] X.env=(false,eval a X.env) :: starEach [b] X.env:=by rfl) (hs2:starEach [b] X.env=(false,eval b X.env) :: starEach [] X.env:=by rfl) (hplain:(backTo cpos (starEach [b] X.env)).any (·.1)=false:=by rfl)
  (hsw:swapsWith (.Call (.Attribute (.Name x xpos) "insert" apos) [a,b] [] cpos) none pos.line X.env=pure false:=by rfl) :
  QS X (.Expr (.Call (.Attribute (.Name x xpos) "insert" apos) [a,b] [] cpos) pos) (rD i ta tb):=
 dH (kB (kE aZ9 PySem.F.slot_list_insert PySem.F.type_list_insert aw8 (iO hN hv hd hcd) (cP ha (cP hb cZ hs2) hs) hbase hfew hline hs hplain) hsw) fun _ _ _=>aC4
end
end PP
namespace Core
open PySem L2 PP
structure WL (n:Int) (ws:List Int) (ls:List (Int × Int)):Prop where
 many:(ws.length:Int)=n
 inn:∀ l ∈ ls,0<=l.1/\l.1 < l.2/\l.2 < n
 most:ls.length<=1700
 ord:ls.Pairwise jE
 pos:∀ w ∈ ws,0<=w
theorem WL.perm {n:Int}{ws:List Int}{ls ls':List (Int × Int)} (h1:(ws.length:Int)=n) (h2:∀ l ∈ ls,0<=l.1/\l.1 < l.2/\l.2 < n) (h3:ls.length<=1700) (nd:ls.Nodup) (h4:∀ w ∈ ws,0<=w) (p:ls'.Perm ls) (so:(ls'.map two).Pairwise fun u v=>HT.eY v u=false):WL n ws ls':=
 ⟨h1,fun l hl=>h2 l (p.mem_iff.mp hl),by rw [p.length_eq]; exact h3,ay9 so (p.nodup_iff.mpr nd),h4⟩
theorem WL.wb {n:Int}{ws:List Int}{ls:List (Int × Int)} (h:WL n ws ls) (hn:n<=40):Wb ws ls:=
 ⟨by have:=h.many; omega,h.most,fun l hl=>by have:=h.inn l hl; have:=h.many; omega⟩
noncomputable def aC6 (f:List Int->List (Int × Int)->List Int->(PV->Prop)->Prop):fD:=fun Ep xs Q=>∃ ws ls x ns,xs = [bE ws ls,x]/\Wb ws ls/\cV x ns/\ns.length<=1000/\(b7 ws.length ns=true->f ws ls ns Q)/\(b7 ws.length ns=false->Ep "BadSet")
noncomputable def rE:bH:=fun xs Q=>∃ ws ls y ms,xs = [bE ws ls,y]/\cV y ms/\ms.length<=1000/\ws.length<=1000/\Q (.tup (intz (vO ws.length ms)))
noncomputable def O8:aN:=(bP (aB mD (a7 (vH (aB fV (a7 (a5 0) a9))) (a7 (a5 1) a9))))
theorem aC7:cA O8 ["web","some"] rE:=by
 rintro xs Q ⟨ws,ls,y,ms,rfl,hy,hm,hw,q⟩
 refine⟨_,rfl,ws,ls,rfl,_,rfl,by omega,by omega,?_⟩
 rw [ay6]
 refine⟨_,rfl,_,rng ws.length,y,ms,rfl,.inr rfl,hy,by rw [dL]; omega,hm,trivial,q⟩
end Core
namespace PP
open PySem L2
section
variable {X : Cx} {a : Expr} {tk : aF} {σ : St} {H : Hp} {Q' : VK} {pos p2 : Pos}
noncomputable def vZ (tk:aF):aF:=fun ρ Q=>tk ρ fun x _=>∃ n:Int,x = .int n/\Q (.dK [(Sum.inl n,.bl true)]) .fr
theorem aC8 (h:LE X (vZ tk) σ H Q'):zW [(LE X tk,tC (.bl true))] σ H Q':=by
 obtain ⟨W,ρ,Q,px,q,k⟩:=h
 intro p hp
 refine⟨W,ρ,_,px.mono (bL hp _),q,?_⟩
 rintro v H1 x g s r ⟨n,rfl,q1⟩
 cases r
 have hp1:H1 p=some (.dK []):=s p _ bK
 refine⟨hp1,[((Sum.inl n:aG),V.bl true)],rfl,by show 1<=15; decide,?_⟩
 have sm:aC H (upd H1 p (.dK (lM [] [((Sum.inl n:aG),V.bl true)]))):=fun b o e=>by
  have nb:b ≠ p:=fun z=>by rw [z,hp] at e; cases e
  rw [aZ nb]
  exact s b o (by rw [aZ nb]; exact e)
 exact k _ _ _ .fr sm (.dK hp bK rfl (.cons (.bl true) .nil)) q1
theorem aC9 {j:Nat} (ha:QE X a tk):QE X (.Dict [some a] [.Constant (.bool true) j p2] pos) (vZ tk):=
 cH (ak5 (ak4 ha x9 ak3) rfl rfl (by simp) (by show 1<=15; decide)) fun _ _ _=>aC8
theorem aD0 (hN:X.N.Nodup) (i j:Nat) {x y:Str}{apos cpos xpos:Pos} (hi:X.N[i]? = some x:=by rfl) (hj:X.N[j]? = some y:=by rfl) (hv:gF X.env.scope x:=by first | exact Or.inl rfl | exact Or.inr (Or.inl rfl) | exact Or.inr (Or.inr rfl)) (hd:(x == ("__debug__" : Str))=false:=by decide) (hcd:(x == ("__classdict__" : Str))=false:=by decide)
  (hbase:attributeBase (.Name x xpos) "pop" X.env (eval (.Name x xpos) X.env)=eval (.Name x xpos) X.env:=by rfl) (hline:(apos.endLine == cpos.line)=true:=by rfl)
  (hx:iD X.env.scope y:=by first | exact Or.inl rfl | exact Or.inr rfl) (hs:swapsWith (.Call (.Attribute (.Name x xpos) "pop" apos) [] [] cpos) (some (.Name y p2)) pos.line X.env=pure false:=by rfl) (hf:X.fn y=true ∨ X.env.scope.names.lookup y=some .local:=by first | exact .inl rfl | exact .inr rfl) :
  QS X (.Assign [.Name y p2] (.Call (.Attribute (.Name x xpos) "pop" apos) [] [] cpos) pos) (uL i j):=
 dH (sK hN hj hx (ai8 aZ9 PySem.F.slot_list_pop PySem.F.type_list_pop aj1 (iO hi hv hd hcd) hbase hline) hs hf) fun _ _ _=>ar5
end
end PP
namespace Core
open PySem L2 PP
noncomputable def gD (R:List Int):List (aG × PV):=R.map fun x=>((Sum.inl x:aG),PV.bl true)
theorem O9 (R:List Int):(gD R).map (·.1)=R.map (Sum.inl:Int->aG):=by unfold gD; rw [aY7]; rfl
theorem aD1 (R:List Int):(gD R).length=R.length:=by unfold gD; rw [aS9]
theorem aD2 (R:List Int) (n:Int):(cG (gD R) (Sum.inl n:aG)).isSome=decide (n ∈ R):=by
 rw [<- qW,ba2,List.any_eq_true,bb7]
 unfold gD
 refine⟨fun ⟨p,hp,e⟩=>?_,fun h=>⟨_,aU8.mpr ⟨n,h,rfl⟩,aT1 rfl⟩⟩
 obtain ⟨x,hx,rfl⟩:=aU8.mp hp
 have e:(Sum.inl x:aG)=Sum.inl n:=aW8 e
 rw [<- Sum.inl.inj e]; exact hx
theorem aD3 {R:List Int}{y:Int} (h:y ∉ R):fB (gD R) (Sum.inl y:aG) (.bl true)=gD (R ++ [y]):=by
 rw [aA9 (O9 R) h]
 unfold gD
 rw [aV0]; rfl
structure w4 (n:Nat) (ls:List (Int × Int)) (S P:List Int):Prop where
 set:b7 n P=true
 ne:P ≠ []
 sub:∀ x ∈ P,x ∈ S
 shut:∀ x ∈ P,∀ y ∈ aK ls x,y ∈ S->y ∈ P
 got:∀ h ∈ S.head?,h ∈ P
 least:∀ U:List Int,(∀ x ∈ U,∀ y ∈ aK ls x,y ∈ S->y ∈ U)->(∀ h ∈ S.head?,h ∈ U)->∀ x ∈ P,x ∈ U
noncomputable def rF:bH:=fun xs Q=>∃ ws ls S,xs = [.lst (cR ws.length ls),.tup (intz S)]/\Wb ws ls/\b7 ws.length S=true/\S ≠ []/\∀ P,w4 ws.length ls S P->Q (.tup (intz P))
noncomputable def P0:aN:=(aE (b8 2 (aB mB (a7 (a5 1) a9)))
 (aE (dQ 3 (vZ (bA (a5 1) (qC (.int 0)))))
 (aE (dQ 4 (fP (a7 (bA (a5 1) (qC (.int 0))) a9)))
 (aE (lT (j3 (a5 4))
  (aE (uL 4 5)
  (eB (cL (bA (a5 0) (a5 5))) (bQ 6)
   (cU (nO (bJ (kR false (a5 6) (a5 2))) (bJ (kR true (a5 6) (a5 3)))) (aE (qH 3 (a5 6) (qC (.bl true)))
    (iG 4 (a5 6))) cT))))
 (bP (aB iH (a7 (aB vP (a7 (a5 3) a9)) a9)))))))
structure P3 (ls:List (Int × Int)) (S R W:List Int) (E:Int->Prop):Prop where
 nd:R.Nodup
 ne:R ≠ []
 sub:∀ x ∈ R,x ∈ S
 wait:∀ x ∈ W,x ∈ R
 shut:∀ x ∈ R,x ∉ W->¬ E x->∀ y ∈ aK ls x,y ∈ S->y ∈ R
 got:∀ h ∈ S.head?,h ∈ R
 least:∀ U:List Int,(∀ x ∈ U,∀ y ∈ aK ls x,y ∈ S->y ∈ U)->(∀ h ∈ S.head?,h ∈ U)->∀ x ∈ R,x ∈ U
theorem aD4:cA P0 ["around","hearths","inside","reached","waiting","hearth","other"] rF:=by
 rintro xs Q ⟨ws,ls,S,rfl,wb,hS,hne,q⟩
 have few:=wb.few
 have most:=wb.most
 have sl:=oH hS
 have snd:S.Nodup:=(fU (dX hS).1).imp fun h=>bd2 h
 obtain ⟨s0,sr,rfl⟩:∃ s0 sr,S=s0 :: sr:=by
  cases S with
  | nil=>exact absurd rfl hne
  | cons a r=>exact⟨a,r,rfl⟩
 have i0:L2.atI (intz (s0 :: sr)) (0:Int)=some (.int s0):=kD (xs:=intz (s0 :: sr)) (j:=0) rfl
 generalize hSS:s0 :: sr=S at *
 have m0:s0 ∈ S:=by rw [<- hSS]; exact aS8
 have hd:∀ h,h ∈ S.head? ↔ h=s0:=fun h=>by rw [<- hSS]; exact⟨fun z=>by cases z; rfl,fun z=>by rw [z]; rfl⟩
 refine⟨_,rfl,_,S,rfl,.inl rfl,by omega,fun pm dm=>⟨trivial,?_⟩⟩
 refine⟨_,rfl,_,_,_,rfl,rfl,i0,s0,rfl,rfl,rfl,?_⟩
 refine⟨_,rfl,_,_,_,rfl,rfl,i0,by show 1<=1000; decide,rfl,rfl,rfl,?_⟩
 refine⟨fun n ρ=>∃ (R W:List Int) (y5 y6:Option Slot),ρ = [some (.sh (flat (.lst (cR ws.length ls))) (.lst (cR ws.length ls))),some (.sh (flat (.tup (intz S))) (.tup (intz S))),some (.sh true (.dK pm)),some (.own (.dK (gD R))),some (.own (.lst (intz W))),y5,y6]/\
   n=2 * (S.length - R.length)+W.length/\n<=2 * S.length/\P3 ls S R W fun _=>False,⟨_,[s0],[s0],none,none,rfl,rfl,by rw [<- hSS]; simp; omega,aW1 _ _,(fun z=>nomatch z),(fun x hx=>by rw [aT0.mp hx]; exact m0),fun _ h=>h,fun x hx hw=>absurd hx hw,fun h hh=>aT0.mpr ((hd h).mp hh),fun U _ hU x hx=>by rw [aT0.mp hx]; exact hU s0 ((hd s0).mpr rfl)⟩,?_⟩
 rintro n ρ ⟨R,W,y5,y6,rfl,rfl,bd,wy⟩
 refine⟨_,rfl,_,rfl,?_⟩
 have rl:R.length<=S.length:=wy.nd.length_le_of_subset wy.sub
 rcases List.eq_nil_or_concat W with hW | ⟨W',h,hW⟩
 ·subst hW
  refine bF ⟨_,rfl,_,R,rfl,O9 R,by omega,fun ms pm so=>⟨⟨_,_,rfl,rfl,dB _,trivial,q ms ⟨?_,?_,?_,?_,fun h hh=>pm.mem_iff.mpr (wy.got h hh),fun U hU hh x hx=>wy.least U hU hh x (pm.mem_iff.mp hx)⟩⟩,fun ns z=>by cases z⟩⟩
  ·have nd:ms.Nodup:=pm.nodup_iff.mpr wy.nd
   have up:ms.Pairwise (· < ·):=(List.Pairwise.and so nd).imp fun z=>Int.lt_iff_le_and_ne.mpr ⟨z.1,z.2⟩
   have u:dY (ws.length:Int) ms:=⟨up,fun x hx=>(dX hS).2 x (wy.sub x (pm.mem_iff.mp hx)),by rw [pm.length_eq]; omega⟩
   exact u.set
  ·intro z; rw [z] at pm; exact wy.ne (List.nil_perm.mp pm)
  ·exact fun x hx=>wy.sub x (pm.mem_iff.mp hx)
  ·exact fun x hx y hy hyS=>pm.mem_iff.mpr (wy.shut x (pm.mem_iff.mp hx) (fun z=>nomatch z) (fun z=>z) y hy hyS)
 ·have hW:W=W' ++ [h]:=by rw [hW]; simp
  subst hW
  have hR:h ∈ R:=wy.wait h (by simp)
  have hb:=(dX hS).2 h (wy.sub h hR)
  have nz:(!(intz (W' ++ [h])).isEmpty)=true:=by rw [gC]; cases W' <;> rfl
  show if (!(intz (W' ++ [h])).isEmpty)=true then _ else _
  rw [nz]
  refine bN ⟨intz W',.int h,by rw [gC]; rfl,?_⟩
  refine⟨_,rfl,_,rfl,_,_,_,rfl,rfl,vG hb.1 hb.2,_,rfl,(fun z=>by cases z),fun j ρ=>∃ (R2 W2:List Int) (y6:Option Slot),ρ = [some (.sh (flat (.lst (cR ws.length ls))) (.lst (cR ws.length ls))),some (.sh (flat (.tup (intz S))) (.tup (intz S))),some (.sh true (.dK pm)),some (.own (.dK (gD R2))),some (.own (.lst (intz W2))),si h,y6]/\
    2 * (S.length - R2.length)+W2.length < 2 * (S.length - R.length)+(W' ++ [h]).length/\P3 ls S R2 W2 (fun x=>x=h)/\h ∈ R2/\∀ y ∈ (aK ls h).take j,y ∈ S->y ∈ R2,
    ⟨R,W',y6,rfl,by rw [aU6,aW5]; omega,⟨wy.nd,wy.ne,wy.sub,fun x hx=>wy.wait x (aX2 _ hx),fun x hx hw he=>wy.shut x hx (fun z=>(aT9.mp z).elim hw fun z=>he (aT0.mp z)) fun z=>z,wy.got,wy.least⟩,hR,fun y hy=>by rw [List.take_zero] at hy; cases hy⟩,?_,?_⟩
  ·rintro j y ρ hy ⟨R2,W2,y6,rfl,lt,wy2,hR2,seen⟩
   obtain ⟨o,rfl,ho⟩:=gP hy
   have rl2:R2.length<=S.length:=wy2.nd.length_le_of_subset wy2.sub
   have tk:∀ y,y ∈ (aK ls h).take (j+1)->y ∈ (aK ls h).take j ∨ y=o:=fun y z=>by
    rw [aX0,ho] at z
    rcases aT9.mp z with z | z
    ·exact .inl z
    ·exact .inr (by simpa using z)
   refine k6 ?_
   refine⟨_,rfl,_,rfl,_,.inl ⟨pm,Sum.inl o,rfl,rfl,rfl⟩,_,rfl,?_⟩
   show if (cG pm (Sum.inl o:aG)).isSome=true then _ else _
   rw [dm.has o]
   by_cases h1:o ∈ S
   ·rw [aT1 h1]
    refine bN ⟨_,rfl,_,rfl,_,.inl ⟨gD R2,Sum.inl o,rfl,rfl,rfl⟩,_,rfl,?_⟩
    show if (!(cG (gD R2) (Sum.inl o:aG)).isSome)=true then _ else _
    rw [aD2]
    by_cases h2:o ∈ R2
    ·rw [aT1 h2]
     exact bF ⟨R2,W2,si o,rfl,lt,wy2,hR2,fun y z zS=>(tk y z).elim (fun z=>seen y z zS) fun e=>by rw [e]; exact h2⟩
    ·rw [aT8 h2]
     have nd3:(R2 ++ [o]).Nodup:=bf0.mpr ⟨wy2.nd,aW1 _ _,fun a ha b hb e=>h2 (by rw [aT0.mp hb] at e; rw [<- e]; exact ha)⟩
     have sub3:∀ x ∈ R2 ++ [o],x ∈ S:=fun x hx=>(aT9.mp hx).elim (wy2.sub x) fun z=>by rw [aT0.mp z]; exact h1
     have l3:(R2 ++ [o]).length<=S.length:=nd3.length_le_of_subset sub3
     rw [aU6,aW5] at l3
     refine bN ⟨_,rfl,_,rfl,Sum.inl o,rfl,trivial,by rw [aD1]; omega,?_⟩
     rw [aD3 h2]
     refine⟨_,rfl,_,rfl,trivial,by rw [bD]; omega,R2 ++ [o],W2 ++ [o],si o,?_,?_,⟨nd3,(fun z=>by simp at z),sub3,fun x hx=>?_,fun x hx hw he y hy yS=>?_,fun h hh=>aX2 _ (wy2.got h hh),fun U hU hh x hx=>(aT9.mp hx).elim (wy2.least U hU hh x) fun z=>by rw [aT0.mp z]; exact hU h (wy2.least U hU hh h hR2) o (aT4 ho) h1⟩,aX2 _ hR2,fun y z zS=>?_⟩
     ·rw [gC]; rfl
     ·simp only [aU6,aW5] at lt ⊢; omega
     ·rcases aT9.mp hx with z | z
      ·exact aX2 _ (wy2.wait x z)
      ·exact aW2 _ z
     ·rcases aT9.mp hx with z | z
      ·exact aX2 _ (wy2.shut x z (fun z=>hw (aX2 _ z)) he y hy yS)
      ·exact absurd (aW2 _ z) hw
     ·rcases tk y z with z | e
      ·exact aX2 _ (seen y z zS)
      ·rw [e]; exact aW2 _ (aT0.mpr rfl)
   ·rw [aT8 h1]
    exact bF (bF ⟨R2,W2,si o,rfl,lt,wy2,hR2,fun y z zS=>(tk y z).elim (fun z=>seen y z zS) fun e=>absurd (e ▸ zS) h1⟩)
  ·rintro ρ ⟨R2,W2,y6,rfl,lt,wy2,hR2,seen⟩
   rw [bD,ba0] at seen
   refine⟨_,lt,R2,W2,si h,y6,rfl,rfl,by omega,wy2.nd,wy2.ne,wy2.sub,wy2.wait,fun x hx hw _ y hy yS=>?_,wy2.got,wy2.least⟩
   by_cases e:x=h
   ·subst e; exact seen y hy yS
   ·exact wy2.shut x hx hw e y hy yS
noncomputable def P4 (Ep:Str->Prop):aN:=(aE (b8 2 (aB i4 (a7 (a5 0) a9)))
 (aE (b8 3 (vS Ep rC (a7 (a5 0) (a7 (a5 1) a9))))
 (aE (dQ 4 (fP a9))
 (aE (lT (j3 (a5 3))
  (aE (b8 5 (aB rF (a7 (a5 2) (a7 (a5 3) a9))))
  (aE (iG 4 (a5 5))
  (b8 3 (aB mD (a7 (a5 3) (a7 (a5 5) a9)))))))
 (iY 4)))))
theorem aD5 (n:Nat):rng (n+1)=rng n ++ [(n:Int)]:=by
 unfold rng; rw [List.range_succ,aV0]; rfl
theorem rG (n:Nat) (a:Int):(List.replicate n [PV.int a]).flatten=intz (List.replicate n a):=by
 induction n with
 | zero=>rfl
 | succ n ih=>rw [aY8,aY8,bc9,ih]; rfl
section
variable {ws : List Int} {ls : List (Int × Int)}
noncomputable def cne (ws:List Int) (ls:List (Int × Int)) (S:List Int):Bool:=!decide (S = []) && decide (stay ws ls S=S)
end
theorem rH {b:Bool}{A B:Prop} (a:A) (c:B):if b=true then A else B:=by
 cases b with
 | true=>exact bN a
 | false=>exact bF c
noncomputable def far (ns S:List Int):Bool:=decide (((S.filter fun x=>decide (x ∈ ns)).length:Int)=0)
noncomputable def dZ (ls:List (Int × Int)) (S U:List Int):Prop:=∀ x ∈ U,∀ y ∈ aK ls x,y ∈ S->y ∈ U
noncomputable def comp (ls:List (Int × Int)) (S:List Int) (h:Int):List Int:=S.filter fun x=>@decide (∀ U:List Int,dZ ls S U->h ∈ U->x ∈ U) (Classical.propDecidable _)
section
variable {ws : List Int} {ls : List (Int × Int)} {S : List Int} {n : Nat} {h x : Int}
theorem fE:x ∈ comp ls S h ↔ x ∈ S/\∀ U,dZ ls S U->h ∈ U->x ∈ U:=by
 unfold comp
 rw [aU4]
 exact⟨fun z=>⟨z.1,@aW8 _ (Classical.propDecidable _) z.2⟩,fun z=>⟨z.1,@aT1 _ (Classical.propDecidable _) z.2⟩⟩
theorem mH:∀ x ∈ comp ls S h,x ∈ S:=fun x hx=>(fE.mp hx).1
theorem fF (hh:h ∈ S):h ∈ comp ls S h:=fE.mpr ⟨hh,fun _ _ z=>z⟩
theorem i6:dZ ls S (comp ls S h):=fun x hx y hy yS=>fE.mpr ⟨yS,fun U hU z=>hU x ((fE.mp hx).2 U hU z) y hy yS⟩
theorem fW (hS:b7 n S=true):b7 n (comp ls S h)=true:=r9 hS _
theorem aD6 {P:List Int} (hS:b7 n S=true) (hP:b7 n P=true) (hs:∀ x ∈ P,x ∈ S) (hh:h ∈ P) (sh:dZ ls S P) (le:∀ U,dZ ls S U->h ∈ U->∀ x ∈ P,x ∈ U):P=comp ls S h:=
 N5 hP (fW hS) fun x=>⟨fun hx=>fE.mpr ⟨hs x hx,fun U hU z=>le U hU z x hx⟩,fun hx=>(fE.mp hx).2 P sh hh⟩
theorem iJ (hS:b7 n S=true) (hx:x ∈ comp ls S h) (hh:h ∈ S):comp ls S x=comp ls S h:=by
 have back:h ∈ comp ls S x:=by
  refine fE.mpr ⟨hh,fun U hU xU=>?_⟩
  refine aY0 fun hn=>?_
  have sv:dZ ls S (S.filter fun z=>!decide (z ∈ U)):=fun a ha b hb bS=>by
   rw [aU4] at ha ⊢
   refine⟨bS,?_⟩
   by_cases bU:b ∈ U
   ·have:=hU b bU a (lP hb) ha.1
    rw [aT1 this] at ha; exact absurd ha.2 (by decide)
   ·rw [aT8 bU]; rfl
  have:=(fE.mp hx).2 _ sv (aU4.mpr ⟨hh,by rw [aT8 hn]; rfl⟩)
  rw [aU4,aT1 xU] at this
  exact absurd this.2 (by decide)
 exact N5 (fW hS) (fW hS) fun y=>⟨fun hy=>(fE.mp hy).2 _ i6 hx,fun hy=>(fE.mp hy).2 _ i6 back⟩
theorem iK {L:List Int}{a:Int} (hL:b7 n L=true) (ha:L.head? = some a):a ∈ L/\∀ x ∈ L,a=x ∨ a < x:=by
 cases L with
 | nil=>cases ha
 | cons b r=>
  cases ha
  refine⟨aS8,fun x hx=>?_⟩
  rcases aU0.mp hx with e | hx
  ·exact .inl e.symm
  ·exact .inr ((aY5.mp (fU (dX hL).1)).1 x hx)
theorem w5 {L:List Int}{a:Int} (hL:b7 n L=true) (ha:a ∈ L) (hl:∀ x ∈ L,a<=x):L.head? = some a:=by
 cases L with
 | nil=>cases ha
 | cons b r=>
  rcases aU0.mp ha with e | e
  ·rw [e]; rfl
  ·have h1:=(aY5.mp (fU (dX hL).1)).1 a e
   have h2:=hl b aS8
   omega
noncomputable def oO (ls:List (Int × Int)) (S:List Int) (h:Int):Bool:=decide ((comp ls S h).head? = some h)
noncomputable def aY (ls:List (Int × Int)) (S:List Int):List Int:=S.filter (oO ls S)
theorem aD7 {A B:List Int} (ua:A.Pairwise (· < ·)) (ub:B.Pairwise (· < ·)) (h:∀ x,x ∈ A ↔ x ∈ B):A=B:=
 vL ((bg0 (ua.imp fun z=>bd2 z) (ub.imp fun z=>bd2 z)).mpr h) (ua.imp fun z=>Int.le_of_lt z) (ub.imp fun z=>Int.le_of_lt z)
theorem aD8 {L:List Int}{a:Int} (hS:b7 n S=true) (hL:b7 n L=true) (sub:∀ x ∈ L,x ∈ S) (ha:L.head? = some a) (pl:∀ x ∈ comp ls S a,x ∈ L)
  (lt:∀ h ∈ (aY ls S).filter (fun z=>!decide (z ∈ L)),∀ x ∈ L,h < x) :
  (aY ls S).filter (fun z=>!decide (z ∈ L.filter fun z=>!decide (z ∈ comp ls S a)))=(aY ls S).filter (fun z=>!decide (z ∈ L)) ++ [a]:=by
 obtain ⟨aL,al⟩:=iK hL ha
 have aS:=sub a aL
 have hu:(aY ls S).Pairwise (· < ·):=fU (dX (r9 hS (oO ls S))).1
 have hd:(comp ls S a).head? = some a:=w5 (fW hS) (fF aS) fun x hx=>by rcases al x (pl x hx) with e | e <;> omega
 refine aD7 (hu.sublist List.filter_sublist) (List.pairwise_append.mpr ⟨hu.sublist List.filter_sublist,aW1 _ _,fun x hx y hy=>by rw [aT0.mp hy]; exact lt x hx a aL⟩) fun x=>?_
 simp only [aT9,aT0,aU4,Bool.not_eq_true',decide_eq_false_iff_not,not_and,Decidable.not_not]
 constructor
 ·rintro ⟨hx,hn⟩
  by_cases xL:x ∈ L
  ·refine .inr ?_
   have xc:=hn xL
   have h1:(comp ls S x).head? = some x:=aW8 (aU4.mp hx).2
   rw [iJ hS xc aS,hd] at h1
   cases h1; rfl
  ·exact .inl ⟨hx,xL⟩
 ·rintro (⟨hx,xL⟩ | rfl)
  ·exact⟨hx,fun z=>absurd z xL⟩
  ·exact⟨aU4.mpr ⟨aS,aT1 hd⟩,fun _=>fF aS⟩
theorem w4.comp {L P:List Int}{a:Int} (hS:b7 n S=true) (sub:∀ x ∈ L,x ∈ S) (sh:dZ ls S L) (ha:L.head? = some a) (pc:w4 n ls L P):P=comp ls S a:=by
 have ea:∀ z,z ∈ L.head?->z=a:=fun z hz=>by rw [ha] at hz; cases hz; rfl
 exact aD6 hS pc.set (fun x hx=>sub x (pc.sub x hx)) (pc.got a ha) (fun x hx y hy yS=>pc.shut x hx y hy (sh x (pc.sub x hx) y hy yS))
  fun U hU aU=>pc.least U (fun x hx y hy yL=>hU x hx y hy (sub y yL)) fun z hz=>by rw [ea z hz]; exact aU
end
noncomputable abbrev aD9:=P4
noncomputable def i7 (ls:List (Int × Int)) (S:List Int):List (List Int):=(aY ls S).map (comp ls S)
noncomputable def rJ:fD:=aC6 fun ws ls S Q=>Q (.lst (tups (i7 ls S)))
theorem aE0:vW P4 ["web","block","around","left","pieces","piece"] rJ:=by
 rintro Ep xs Q ⟨ws,ls,x,S,rfl,wb,hx,hl,q,qe⟩
 have few:=wb.few
 refine⟨_,rfl,ws,ls,rfl,wb,trivial,?_⟩
 refine⟨_,rfl,_,rfl,ws,ls,x,S,rfl,hx,hl,fun hs=>⟨trivial,?_⟩,qe⟩
 have q:Q (.lst (tups (i7 ls S))):=q hs
 have sl:=oH hs
 refine⟨by decide,rfl,rfl,rfl,?_⟩
 refine⟨fun n ρ=>∃ (L:List Int) (Ps:List (List Int)) (y5:Option Slot),ρ = [some (.sh (flat (bE ws ls)) (bE ws ls)),some (.sh (flat x) x),some (.sh true (.lst (cR ws.length ls))),some (.sh true (.tup (intz L))),some (.own (.lst (tups Ps))),y5]/\
   n=L.length/\b7 ws.length L=true/\Ps.length+L.length<=S.length/\(∀ x ∈ L,x ∈ S)/\dZ ls S L/\Ps=((aY ls S).filter fun z=>!decide (z ∈ L)).map (comp ls S)/\∀ h ∈ (aY ls S).filter (fun z=>!decide (z ∈ L)),∀ x ∈ L,h < x,⟨_,S,[],none,rfl,rfl,hs,by simp,fun _ h=>h,fun _ _ _ _ h=>h,?_,?_⟩,?_⟩
 ·rw [List.filter_eq_nil_iff.mpr fun z hz=>?_]; rfl
  rw [aT1 (aU4.mp hz).1]; decide
 ·intro h hh
  have:=aU4.mp hh
  rw [aT1 (aU4.mp this.1).1] at this
  exact absurd this.2 (by decide)
 rintro n ρ ⟨L,Ps,y5,rfl,rfl,lset,bd,sub,sh,eP,lt⟩
 refine⟨_,rfl,_,rfl,?_⟩
 cases hL:L with
 | nil=>
  refine bF ⟨_,rfl,trivial,?_⟩
  have e:(aY ls S).filter (fun z=>!decide (z ∈ L))=aY ls S:=List.filter_eq_self.mpr fun z _=>by rw [hL]; rfl
  rw [e] at eP
  rw [eP]; exact q
 | cons a r=>
  rw [<- hL]
  have ne:(!(intz L).isEmpty)=true:=by rw [hL]; rfl
  have nl:L ≠ []:=by rw [hL]; exact fun z=>nomatch z
  have hd:L.head? = some a:=by rw [hL]; rfl
  show if (!(intz L).isEmpty)=true then _ else _
  rw [ne]
  refine bN ?_
  have ll:=oH lset
  refine⟨_,rfl,_,rfl,ws,ls,L,rfl,wb,lset,nl,fun P pc=>⟨trivial,?_⟩⟩
  have pn:P.Nodup:=(fU (dX pc.set).1).imp fun h=>bd2 h
  have pl:P.length<=L.length:=pn.length_le_of_subset pc.sub
  refine⟨_,rfl,_,rfl,trivial,by rw [oG]; omega,?_⟩
  refine⟨_,rfl,_,rfl,_,L,_,P,rfl,.inl rfl,.inl rfl,by omega,by omega,trivial,?_⟩
  have aP:=pc.got a hd
  obtain ⟨aL,al⟩:=iK lset hd
  have lt2:(L.filter fun z=>!decide (z ∈ P)).length < L.length:=by
   rcases Nat.lt_or_ge (L.filter fun z=>!decide (z ∈ P)).length L.length with z | z
   ·exact z
   ·have:=List.filter_eq_self.mp (List.filter_sublist.eq_of_length_le z) a aL
    rw [aT1 aP] at this; cases this
  have ec:=pc.comp hs sub sh hd
  have hn:=aD8 hs lset sub hd (fun x hx=>pc.sub x (by rw [ec]; exact hx)) lt
  rw [<- ec] at hn
  refine⟨_,lt2,L.filter (fun z=>!decide (z ∈ P)),Ps ++ [P],some (.sh true (.tup (intz P))),?_,rfl,r9 lset _,by rw [aU6,aW5]; omega,fun x hx=>sub x (aU4.mp hx).1,?_,?_,?_⟩
  ·unfold tups
   rw [aV0]; rfl
  ·intro x hx y hy yS
   rw [aU4] at hx ⊢
   refine⟨sh x hx.1 y hy yS,?_⟩
   by_cases yP:y ∈ P
   ·have:=pc.shut y yP x (lP hy) hx.1
    rw [aT1 this] at hx; exact absurd hx.2 (by decide)
   ·rw [aT8 yP]; rfl
  ·rw [hn,aV0,<- eP,ec]; rfl
  ·rw [hn]
   intro h hh x hx
   rw [aU4] at hx
   rcases aT9.mp hh with hh | hh
   ·exact lt h hh x hx.1
   ·rw [aT0.mp hh]
    rcases al x hx.1 with e | e
    ·rw [<- e,aT1 aP] at hx; exact absurd hx.2 (by decide)
    ·exact e
end Core
namespace PP
open PySem L2
section
variable {X : Cx} {a b : Expr} {ta tb : aF} {pos : Pos}
noncomputable def w6:PV->Tg->PV->Tg->PK->Prop:=fun x _ y _ Q=>∃ (i:Int) (o:Option Int),x = .int i/\y=Core.jZ o/\Q (.bl (!decide (o=some i))) .fr
theorem aE1:fO X w6 sQ:=by
 rintro W Hs H u v x y g g' Q Q' s n r1 r2 ⟨i,o,rfl,rfl,q⟩ k
 cases r1
 cases o with
 | none=>
  cases r2
  exact⟨rfl,k _ _ _ .fr (aC.refl _) (.bl true) q⟩
 | some j=>
  cases r2
  have e:decide (V.int i=V.int j)=decide (some j=some i):=decide_eq_decide.mpr ⟨fun z=>by cases z; rfl,fun z=>by cases z; rfl⟩
  refine⟨rfl,?_⟩
  rw [e]
  exact k _ _ _ .fr (aC.refl _) (.bl _) q
theorem aE2 (ha:QE X a ta) (hb:QE X b tb):QT X (.Compare a [.NotEq] [b] pos) (bJ (q2 w6 ta tb)):=kT yA aE1 ha hb (fY _)
end
end PP
namespace Core
open PySem L2 PP
noncomputable def P5 (ws:List Int) (ls:List (Int × Int)):List Int->List Int->Bool
 | _,[]=>true
 | B,h :: R=>inB ws.length h && (kin ws ls B h && P5 ws ls (B ++ [h]) R)
end Core
namespace Raw
open PySem PySem.W PySem.Calls PyProof.Rows
theorem w9 {xs:List Nat} (a:xs.Pairwise (· < ·)) {i k:Nat} (hk:k < xs.length) (h:i<=k):xs.getD i 0<=xs.getD k 0:=by
 rcases Nat.lt_or_ge i k with z | z
 ·have:=List.pairwise_iff_getElem.mp a i k (by omega) hk z
  rw [aU3,aU3,aU1 (by omega),aU1 hk]
  exact aY6 this
 ·rw [Nat.le_antisymm h z]; exact aT2 _
theorem aE3 {xs:Array Nat}{i j:Nat} (h:i < xs.size):xs.getD i j=xs.toList.getD i 0:=by
 rw [aU3,Array.getElem?_toList,bc8,Array.getElem?_eq_getElem h]; rfl
theorem wA {xs:Array Nat}{j:Nat} (a:xs.toList.Pairwise (· < ·)):∀ (fuel lo hi:Nat),lo<=hi->hi<=xs.size->hi - lo<=fuel->(∀ i,i < lo->xs.toList.getD i 0 < j)->(∀ i,hi<=i->i < xs.size->j<=xs.toList.getD i 0)->
  SetTable.below.go xs j fuel lo hi<=xs.size/\(∀ i,i < SetTable.below.go xs j fuel lo hi->xs.toList.getD i 0 < j)/\∀ i,SetTable.below.go xs j fuel lo hi<=i->i < xs.size->j<=xs.toList.getD i 0
 | 0,lo,hi,h1,h2,h3,h4,h5=>by
  have e:lo=hi:=by omega
  subst e
  exact⟨h2,h4,h5⟩
 | fuel+1,lo,hi,h1,h2,h3,h4,h5=>by
  have sz:xs.toList.length=xs.size:=aX3
  unfold SetTable.below.go
  by_cases lt:lo < hi
  ·rw [if_pos lt]
   dsimp only
   have m1:lo<=(lo+hi) / 2:=by omega
   have m2:(lo+hi) / 2 < hi:=by omega
   rw [aE3 (by omega)]
   by_cases c:xs.toList.getD ((lo+hi) / 2) 0 < j
   ·rw [if_pos c]
    exact wA a fuel _ _ (by omega) h2 (by omega) (fun i hi'=>Nat.lt_of_le_of_lt (w9 a (by omega) (by omega)) c) h5
   ·rw [if_neg c]
    exact wA a fuel _ _ (by omega) (by omega) (by omega) h4 fun i h6 h7=>aX5 (bd6 c) (w9 a (by omega) h6)
  ·rw [if_neg lt]
   have e:lo=hi:=by omega
   subst e
   exact⟨h2,h4,h5⟩
theorem aE4 {xs:Array Nat}{j:Nat} (a:xs.toList.Pairwise (· < ·)):SetTable.below xs j<=xs.size/\(∀ i,i < SetTable.below xs j->xs.toList.getD i 0 < j)/\∀ i,SetTable.below xs j<=i->i < xs.size->j<=xs.toList.getD i 0:=
 wA a xs.size 0 xs.size (aX6 _) (aT2 _) (by omega) (fun i h=>absurd h (Nat.not_lt_zero _)) fun i h1 h2=>absurd h2 (by omega)
theorem aE5 {α:Type} (xs:Array α) (p:Nat) (x:α):(SetTable.insertAt xs p x).toList=xs.toList.take p ++ x :: xs.toList.drop p:=by
 unfold SetTable.insertAt
 simp
 exact aW0 (by simp)
theorem aE6 {xs:Array Nat}{j:Nat} (a:xs.toList.Pairwise (· < ·)) (ne:xs[SetTable.below xs j]? ≠ some j):(SetTable.insertAt xs (SetTable.below xs j) j).toList.Pairwise (· < ·):=by
 obtain ⟨b1,b2,b3⟩:=aE4 (j:=j) a
 have sz:xs.toList.length=xs.size:=aX3
 rw [aE5]
 refine List.pairwise_append.mpr ⟨a.sublist (List.take_sublist _ _),aY5.mpr ⟨fun x hx=>?_,a.sublist (List.drop_sublist _ _)⟩,fun x hx y hy=>?_⟩
 ·obtain ⟨i,hi,e⟩:=List.getElem_of_mem hx
  rw [aZ8] at hi
  rw [List.getElem_drop] at e
  have h1:=b3 (SetTable.below xs j) (aT2 _) (by omega)
  have h2:=w9 a (i:=SetTable.below xs j) (k:=SetTable.below xs j+i) (by omega) (by omega)
  have h3:xs.toList.getD (SetTable.below xs j+i) 0=x:=by rw [aU3,aU1 (by omega),e]; rfl
  rcases Nat.lt_or_ge j x with z | z
  ·exact z
  ·exfalso
   have h4:xs.toList.getD (SetTable.below xs j) 0=j:=by omega
   rw [aU3,aU1 (by omega)] at h4
   refine ne ?_
   rw [<- Array.getElem?_toList,aU1 (by omega)]
   exact congrArg some h4
 ·have hx':x < j:=by
   obtain ⟨i,hi,e⟩:=List.getElem_of_mem hx
   rw [aZ6] at hi
   rw [List.getElem_take] at e
   have:=b2 i (by omega)
   rw [aU3,aU1 (by omega),e] at this
   exact this
  rcases aU0.mp hy with e | hy
  ·rw [e]; exact hx'
  ·obtain ⟨i,hi,e⟩:=List.getElem_of_mem hy
   rw [aZ8] at hi
   rw [List.getElem_drop] at e
   have:=b3 (SetTable.below xs j+i) (by omega) (by omega)
   rw [aU3,aU1 (by omega),e] at this
   exact aU5 hx' this
structure i8 (b:Bool) (t:SetTable):Prop where
 asc:t.place.toList.Pairwise (· < ·)
 dm:t.dummies = #[]
 led:t.led=b
theorem P6 (j:Nat):SetTable.has #[] j=false:=by
 unfold SetTable.has
 simp
theorem P7 {t:SetTable} (dm:t.dummies = #[]) {h:Int}{j:Nat}{d:Option Nat}:∀ (fuel:Nat) (p:SetTable.Probe),p.dummy=none->SetTable.probe.go t (fun _=>h+1) h fuel p=some (.empty j d)->d=none/\t.slot j = .empty
 | 0,p,_,e=>by cases e
 | fuel+1,p,hp,e=>by
  unfold SetTable.probe.go at e
  have adv:∀ p:SetTable.Probe,p.dummy=none->(t.advance p).dummy=none:=fun p hp=>by
   unfold SetTable.advance
   split <;> exact hp
  cases hs:t.slot p.j with
  | empty=>
   rw [hs] at e
   cases e
   exact⟨hp,hs⟩
  | dummy=>
   exfalso
   unfold SetTable.slot at hs
   dsimp only at hs
   rw [dm,P6] at hs
   split at hs <;> cases hs
  | live i=>
   rw [hs] at e
   dsimp only at e
   rw [if_neg (by simp; omega)] at e
   exact P7 dm fuel _ (adv p hp) e
theorem aE7 {t:SetTable} (dm:t.dummies = #[]) {h:Int}{sl:Nat}{d:Bool} (e:t.freeSlot h=some (sl,d)):t.slot sl = .empty:=by
 unfold SetTable.freeSlot at e
 split at e
 ·rename_i j dummy hm
  obtain ⟨e1,e2⟩:=P7 dm _ _ rfl hm
  subst e1
  cases e
  exact e2
 ·cases e
theorem rK {b:Bool}{t:SetTable} (h:i8 b t) (n:Nat):i8 b (t.standIn n):=⟨by
 show (Array.range n).toList.Pairwise (· < ·)
 rw [Array.toList_range]; exact List.pairwise_lt_range,rfl,h.led⟩
theorem aE8 {b:Bool}{t:SetTable} (h:i8 b t) {j:Nat} (hs:t.slot j = .empty):i8 b (t.put j).1:=by
 refine⟨?_,?_,h.led⟩
 ·refine aE6 h.asc fun e=>?_
  unfold SetTable.slot at hs
  dsimp only at hs
  rw [if_pos (by rw [e]; exact beq_self_eq_true _)] at hs
  cases hs
 ·show (if SetTable.has t.dummies j then SetTable.eraseAt t.dummies (SetTable.below t.dummies j) else t.dummies) = #[]
  rw [h.dm,P6]; rfl
theorem aE9 {b:Bool}{t:SetTable} (h:i8 b t) (es:Array (Int × Value)) (k:Int) (x:Value):i8 b (layNew t es k x).2.1:=by
 unfold layNew
 split
 ·rename_i sl wd e
  have p:=aE8 h (aE7 h.dm e)
  show i8 b (SetTable.orStandIn _ _)
  unfold SetTable.orStandIn
  split
  ·exact p
  ·exact rK p _
 ·exact rK h _
theorem aF0 {b:Bool}{t:SetTable} (h:i8 b t) (es:Array (Int × Value)) (n:Nat):i8 b (relayAll t es n).2.1:=by
 unfold relayAll
 split
 ·rename_i t' order e
  dsimp only
  split
  ·show i8 b t'
   unfold SetTable.relaid SetTable.laid at e
   cases hc:SetTable.layClean (SetTable.sizeAbove n - 1) (es.map (·.1)) with
   | none=>rw [hc] at e; cases e
   | some owner=>
    rw [hc] at e
    cases e
    refine⟨?_,rfl,h.led⟩
    show (List.map _ _).Pairwise (· < ·)
    refine bb6.mpr (List.Pairwise.filterMap _ (R:=(· < ·)) ?_ List.pairwise_lt_range)
    intro i i' hlt x hx y hy
    cases ho:owner.getD i none with
    | none=>rw [ho] at hx; cases hx
    | some v=>
     rw [ho] at hx
     cases ho2:owner.getD i' none with
     | none=>rw [ho2] at hy; cases hy
     | some v2=>
      rw [ho2] at hy
      cases hx; cases hy
      exact hlt
  ·exact rK h _
 ·exact rK h _
theorem P8 {us vs:List Value} (p:us.Perm vs):∀ {ns:List Int},IntsAre vs ns->∃ ms,IntsAre us ms/\ms.Perm ns:=by
 induction p with
 | nil=>intro ns h; exact⟨ns,h,bh3 _⟩
 | cons x _ ih=>
  intro ns h
  cases h with
  | cons n t r=>
   obtain ⟨ms,h1,h2⟩:=ih r
   exact⟨n :: ms,.cons n t h1,h2.cons n⟩
 | swap x y l=>
  intro ns h
  cases h with
  | cons n t r=>
   cases r with
   | cons n' t' r=>
    exact⟨n' :: n :: _,.cons n' t' (.cons n t r),List.Perm.swap _ _ _⟩
 | trans _ _ ih1 ih2=>
  intro ns h
  obtain ⟨ms,h1,h2⟩:=ih2 h
  obtain ⟨ms',h3,h4⟩:=ih1 h1
  exact⟨ms',h3,h4.trans h2⟩
theorem P9:∀ {us:List Value}{ns:List Int},IntsAre us ns->∀ (k:Int) (t:Nat),IntsAre (us ++ [.int k t]) (ns ++ [k])
 | _,_,.nil,k,t=>.cons k t .nil
 | _,_,.cons n u r,k,t=>.cons n u (P9 r k t)
theorem rL:∀ {us:List Value}{ns:List Int},IntsAre us ns->∀ k:Int,k ∈ ns ↔ ∃ t,Value.int k t ∈ us
 | _,_,.nil,k=>⟨(fun h=>nomatch h),(fun ⟨_,h⟩=>nomatch h)⟩
 | _,_,.cons n u r,k=>by
  constructor
  ·intro h
   rcases aU0.mp h with e | h
   ·exact⟨u,by rw [e]; exact aS8⟩
   ·obtain ⟨t,ht⟩:=(rL r k).mp h
    exact⟨t,aT5 _ ht⟩
  ·rintro ⟨t,h⟩
   rcases aU0.mp h with e | h
   ·cases e; exact aS8
   ·exact aT5 _ ((rL r k).mpr ⟨t,h⟩)
noncomputable abbrev oP (es:Array (Int × Value)) (ep:Nat) (t:SetTable):Obj:={ cls:=.type "set",dict:=none,data:=.set es ep t,slots:=#[] }
section
variable {prog : Program} {w : World} {A : Around} {E : Value → Shared → Prop} {s : Shared}
noncomputable def aF1 (prog:Program) (w:World) (es:Array (Int × Value)) (t:SetTable) (ms:List Int):Prop:=ElemsOf (intKind prog w) es.toList/\IntsAre (es.toList.map (·.2)) ms/\es.size < scanBound/\t.fits es.size=true/\i8 (!w.params.followText "set-order") t
noncomputable def Q0 (prog:Program) (w:World) (h:Heap) (a:Addr) (ms:List Int):Prop:=∃ es ep t,h.get? a=some (oP es ep t)/\aF1 prog w es t ms
theorem Q2 {h:Heap}{a:Addr}{es es':Array (Int × Value)}{ep:Nat}{t t':SetTable} (ho:h.get? a=some (oP es ep t)):(h.update a (Obj.putSet es' t')).get? a=some (oP es' (ep+1) t'):=by
 have:=Heap.get?_update_self (Obj.putSet es' t') ho (by rw [putSet_of es' t' (rfl:(oP es ep t).data=_)]; rfl)
 rw [putSet_of es' t' (rfl:(oP es ep t).data=_)] at this
 exact this
theorem add_int {a:Addr}{ms:List Int}{k:Int}{u:Nat}{Q:Bool->Shared->Prop} (hS:Q0 prog w s.heap a ms) (room:ms.length+1 < scanBound)
  (h:∀ b h' ms',Heap.SameBut a s.heap h'->Q0 prog w h' a ms'->(k ∈ ms->ms'.Perm ms)->(k ∉ ms->ms'.Perm (ms ++ [k]))->Q b { s with heap:=h' }) :
  wpAny (model prog w) A (setAddHashed a (.int k u) ((intKind prog w).hash k)) Q E s:=by
 obtain ⟨es,ep,t,ho,hel,hi,hb,hf,tk⟩:=hS
 have key:(intKind prog w).is k (.int k u)=true:=intKind_is _ _ _ _
 have ln:ms.length=es.size:=by
  have:=IntsAre.length hi
  rw [aS9,aX3] at this
  exact this.symm
 have isk:∀ v,(intKind prog w).is k v=true->∃ u,v = .int k u:=fun v hv=>Value.isInt_shape hv
 unfold setAddHashed setAddHashedIn
 refine be0 (aS6 (wpAny_setState_of ho rfl hf ?_))
 dsimp only
 rw [byScan_of (knd:=intKind prog w) (x:=.int k u) rfl hb hel,if_pos rfl]
 unfold setAddByScan
 refine aS6 (aS6 (wpAny_rule ?_))
 refine aS6 (wpAny_setScan_of key ho rfl hf hel ?_)
 cases hr:List.findIdx? (fun e=>(intKind prog w).is k e.2) es.toList with
 | some j=>
  dsimp only
  obtain ⟨hj,hp,_⟩:=List.findIdx?_eq_some_iff_getElem.mp hr
  have km:k ∈ ms:=by
   obtain ⟨u',e⟩:=isk _ hp
   exact (rL hi k).mpr ⟨u',by rw [<- e]; exact aU8.mpr ⟨_,List.getElem_mem hj,rfl⟩⟩
  have e:s={ s with heap:=s.heap }:=by cases s; rfl
  rw [e]
  exact aT6 (aT6 (h _ s.heap ms (Heap.SameBut.refl a s.heap) ⟨es,ep,t,ho,hel,hi,hb,hf,tk⟩ (fun _=>bh3 _) fun n=>absurd km n))
 | none=>
  dsimp only
  have km:k ∉ ms:=fun z=>by
   obtain ⟨u',hm⟩:=(rL hi k).mp z
   obtain ⟨e,he,e2⟩:=aU8.mp hm
   have:=List.findIdx?_eq_none_iff.mp hr e he
   rw [e2,intKind_is _ _ _ _] at this; cases this
  have lp:=layNew_perm t es ((intKind prog w).hash k) (.int k u)
  have lf:=layNew_fits t es ((intKind prog w).hash k) (.int k u)
  have lk:=aE9 tk es ((intKind prog w).hash k) (.int k u)
  generalize hL:layNew t es ((intKind prog w).hash k) (.int k u)=L at lp lf lk ⊢
  obtain ⟨es1,t1,wd,gave⟩:=L
  dsimp only at lp lf lk ⊢
  rw [Array.toList_push] at lp
  have el1:ElemsOf (intKind prog w) es1.toList:=(hel.push key rfl).perm lp
  have sz1:es1.size=es.size+1:=by rw [<- aX3,lp.length_eq,aU6,aX3]; rfl
  obtain ⟨ms1,i1,p1⟩:∃ ms1,IntsAre (es1.toList.map (·.2)) ms1/\ms1.Perm (ms ++ [k]):=P8 (lp.map (·.2)) (by rw [aV0]; exact P9 hi k u)
  have hb1:es1.size < scanBound:=by omega
  have gw:∀ (b:Bool) (s₁:Shared) (Q':Unit->Shared->Prop),Q' () s₁->wpAny (model prog w) A (match b with | true=>rule "set.scan.the-table-gave-way" | false=>pure ()) Q' E s₁:=fun b s₁ Q' hq=>by
   cases b
   ·exact aT6 hq
   ·exact wpAny_rule hq
  refine aS6 (gw _ _ _ ?_)
  split <;> (
   show wpAny _ _ (storeSet a es1 t1 >>= _) _ _ _
   simp only [↓reduceIte]
   refine aS6 (wpAny_storeSet_of ho rfl ?_ (fits_of_scanBound hb1))
   have ho1:=Q2 (es':=es1) (t':=t1) ho
   have sb1:=bf2 s.heap a (Obj.putSet es1 t1)
   split
   ·have rp:=relayAll_perm t1 es1 (SetTable.grown es1.size)
    have rf:=relayAll_fits t1 es1 (SetTable.grown es1.size)
    have rk:=aF0 lk es1 (SetTable.grown es1.size)
    generalize relayAll t1 es1 (SetTable.grown es1.size)=L at rp rf rk ⊢
    obtain ⟨es2,t2,gave2⟩:=L
    dsimp only at rp rf rk ⊢
    have sz2:es2.size=es1.size:=by rw [<- aX3,rp.length_eq,aX3]
    obtain ⟨ms2,i2,p2⟩:=P8 (rp.map (·.2)) i1
    refine aS6 (gw _ _ _ ?_)
    refine aS6 (wpAny_storeSet_of ho1 rfl ?_ (fits_of_scanBound (by omega)))
    exact aT6 (aT6 (h _ _ ms2 (sb1.trans (bf2 _ a _)) ⟨es2,_,t2,Q2 ho1,el1.perm rp,i2,by omega,rf,rk⟩ (fun z=>absurd z km) fun _=>p2.trans p1))
   ·exact aT6 (aT6 (h _ _ ms1 sb1 ⟨es1,_,t1,ho1,el1,i1,hb1,lf,lk⟩ (fun z=>absurd z km) fun _=>p1)))
end
section
variable {prog : Program} {w : World} {A : Around} {E : Value → Shared → Prop} {s : Shared} {r : Addr} {b : Int} {t u v : Tok} {n : Nat}
theorem aF2 {R:Result->Shared->Prop} (hh:A.handled=none) (hr:IsRange s.heap r 0 b 1 t u v) (sm:Builtin.Range.small 0 b 1=true) (hn:Builtin.Range.rangeSize 0 b 1=n) (hl:n<=2 ^ 24)
  (hR:∀ h' tk acc c,(∀ b o,b ≠ s.heap.objs.size->(s.heap.push { cls:=.type "list",data:=.seq ([]:List Value).toArray }).get? b=some o->h'.get? b=some o)->h'.get? s.heap.objs.size=some { cls:=.type "list",dict:=none,data:=.seq acc c,slots:=#[] }->ItemsOf (fun i v=>∃ t,v = .int (0+i * 1) t) acc n->R (.ok (.ret (.ref s.heap.objs.size))) { s with heap:=h',toks:=tk }) :
  codeAny (model prog w) A (.builtin "proto.collect" ⟨[.ref r],[]⟩) R s:=by
 refine codeAny_builtin PySem.F.entry_proto_collect ?_
 rw [Around.under_plainId PySem.F.plain_proto_collect _]
 show wpAny _ A.in1 (newList [] >>= fun l=>again (.builtin "list.__iadd__" ⟨[l,.ref r],[]⟩)) _ _ s
 refine aS6 (aY2 ?_)
 refine aT6 ⟨plainId_quiet PySem.F.plain_list_iadd _,codeAny_builtin PySem.F.entry_list_iadd ?_⟩
 rw [Around.under_plainId PySem.F.plain_list_iadd _]
 show wpAny _ A.in1 (Builtin.List.listExtendWith (.ref s.heap.objs.size) (.ref r) (.ref s.heap.objs.size)) _ _ _
 exact wpAny_extend_range (s:={ s with heap:=s.heap.push { cls:=.type "list",data:=.seq ([]:List Value).toArray } }) (R:=R) hh (aS7 _ hr) sm hn hl s.heap.objs.size _ 0 (aU9 _ rfl) hR
theorem aF3 {Q:List Value->Shared->Prop} (hh:A.handled=none) (hr:IsRange s.heap r 0 b 1 t u v) (sm:Builtin.Range.small 0 b 1=true) (hn:Builtin.Range.rangeSize 0 b 1=n) (hl:n<=2 ^ 24)
  (hQ:∀ h' tk acc,(∀ b o,s.heap.get? b=some o->h'.get? b=some o)->ItemsOf (fun i v=>∃ t,v = .int (0+i * 1) t) acc n->Q acc.toList { s with heap:=h',toks:=tk }):wpAny (model prog w) A (collect (.ref r)) Q E s:=by
 unfold collect
 refine aS6 (wpAny_runValue (aF2 (s:=s) hh hr sm hn hl fun h' tk acc c kp at1 it=>?_))
 show wpAny _ A (load s.heap.objs.size >>= _) _ _ _
 refine aS6 (wpAny_load at1 ?_)
 exact aT6 (hQ h' tk acc (fun b o e=>kp b o (aW9 (aU7 e)) (aS7 _ e)) it)
theorem aF4 (r:Addr) (b:Int) (t u v:Tok) (n:Nat) (sm:Builtin.Range.small 0 b 1=true) (hn:Builtin.Range.rangeSize 0 b 1=n) (hl:n<=2 ^ 24) :
  Meets (Builtin.«tuple.__new__» ⟨[.type "tuple",.ref r],[]⟩) (fun A R s=>A.handled=none/\IsRange s.heap r 0 b 1 t u v/\∀ (h':Heap) tk (acc:Array Value),(∀ b o',s.heap.get? b=some o'->h'.get? b=some o')->ItemsOf (fun i v=>∃ t,v = .int (0+i * 1) t) acc n->R (.ok (.ret (.ref h'.objs.size))) { s with heap:=h'.push { cls:=.type "tuple",data:=.seq acc },toks:=tk }):=
 .of_wp fun prog w A R s h=>by
  obtain ⟨hp,g,d,tk,os⟩:=s
  obtain ⟨hh,ht,h⟩:=h
  have hsub:=sub_tuple_self
  have hinit:=init_tuple_lookup
  have hmh:=madeHere_tuple
  have hT:Shared.TypeIs ⟨hp,g,d,tk,os⟩ (.ref r) "range":=⟨_,ht,rfl⟩
  unfold Builtin.«tuple.__new__»
  generalize pi:collect=CC
  wp_walk using wpAny_loadPart' ht,wpAny_typeOf hT
  subst pi
  refine aF3 (s:=⟨hp,g,d,tk,os⟩) hh ht sm hn hl fun h' tk' acc kp it=>?_
  refine aS6 (aT6 ?_)
  show wpAny _ _ (Builtin.Tuple.tupleExact acc.toList.toArray >>= fun v=>ret v) _ _ _
  unfold Builtin.Tuple.tupleExact
  refine aS6 (aY2 ?_ (by show acc.toList.toArray.size<=sizeLine; rw [aU2,aX3,it.1,sizeLine_eq]; omega))
  refine aT6 ⟨_,rfl,?_⟩
  have e:acc.toList.toArray=acc:=by simp
  rw [e]
  exact h h' tk' acc kp it
theorem aF5 {Q:Value->Shared->Prop} (hh:A.handled=none) (hr:IsRange s.heap r 0 b 1 t u v) (sm:Builtin.Range.small 0 b 1=true) (hn:Builtin.Range.rangeSize 0 b 1=n) (hl:n<=2 ^ 24)
  (h:∀ (h':Heap) tk (acc:Array Value),(∀ b o',s.heap.get? b=some o'->h'.get? b=some o')->ItemsOf (fun i v=>∃ t,v = .int (0+i * 1) t) acc n->Q (.ref h'.objs.size) { s with heap:=h'.push { cls:=.type "tuple",data:=.seq acc },toks:=tk }) :
  wpAny (model prog w) A (call (.type "tuple") [.ref r]) Q E s:=
 callType_new F.called_tuple (by decide) (F.typeCall_tuple_1 _) (F.newCall_tuple_1 _) (fun obj=>F.args_object_init_2 obj _) F.entry_tuple_new (aF4 r b t u v n sm hn hl) ⟨by simp [hh],hr,fun h' tk acc hk it=>⟨⟨_,aU9 _ rfl,rfl⟩,h h' tk acc hk it⟩⟩
end
end Raw
namespace PP
open PySem L2
section
variable {X : Cx} {a b : Expr} {ta tb : aF} {pos pos2 p2 p3 : Pos}
noncomputable abbrev aF6 (ta tb:aF):aF:=q2 (dS fun i j=>.int (Builtin.bitAnd i j)) ta tb
theorem aF7 (ha:QE X a ta) (hb:QE X b tb):QE X (.BinOp a .BitAnd b pos) (q2 (dS fun i j=>.int (Builtin.bitAnd i j)) ta tb):=j7 af2 uE ha hb
theorem aF8 (hc:X.calm=true):cY X (.type "tuple") (fun xs H Q=>∃ r j,xs = [.ref r]/\H r=some (.rng 0 j)/\0<=j/\j<=1000000/\∀ l,H l=none->Q (.ref l) (upd H l (.tup (gK 0 j.toNat)))):=by
 intro pins s σ H xs us Q I r h
 obtain ⟨p,j,rfl,hq,h0,h1,q⟩:=h
 obtain ⟨u,rfl,rx⟩:=gT r
 cases rx
 obtain ⟨t,u,v,ho⟩:=(show bY X.prog X.w H s.heap p (.rng 0 j) from I.hok p _ hq)
 refine Raw.aF5 (b:=j) (n:=j.toNat) (I.ok.hd hc) ho (small_one (by decide) (by decide) (by omega) (by omega)) (by rw [rangeSize_one]; split <;> omega) (by omega) fun h' tk acc kp it=>?_
 have vv:=M0 it
 have eq:acc.toList.toArray=acc:=by simp
 have I1:a6 X pins σ H { s with heap:=h',toks:=tk }:=I.kept (t':=tk) kp
 have I2:a6 X pins σ (upd H h'.objs.size (.tup (gK 0 j.toNat))) { s with heap:=h'.push { cls:=.type "tuple",data:=.seq acc.toList.toArray },toks:=tk }:=
  I1.laid (t':=tk) (fun b o e=>aS7 _ e) (aT2 _) (show bY X.prog X.w _ _ _ (.tup _) from ⟨by rw [pQ]; exact lim (by omega),acc.toList,vv,PyProof.Rows.IsTup.new _ _,iC.new _ _ rfl⟩)
 rw [eq] at I2
 exact⟨.ref h'.objs.size,_,I2,rfl,q _ (I1.hok.fresh (aT2 _))⟩
noncomputable def Q3 (te:aF):aF:=fun ρ Q=>te ρ fun x _=>∃ n:Int,x = .int n/\0<=n/\n<=1000000/\Q (.tup (dG 0 n.toNat)) .fr
theorem aF9 (B:Bt X.mg) (ha:QE X a ta) (hc:X.calm=true:=by rfl) (hg:Gl X "tuple":=by rfl) (hgr:Gl X "range":=by rfl) (hs:starEach [a] X.env = [(false,eval a X.env)]:=by rfl)
  (he:starEach [.Call (.Name "range" p3) [a] [] pos2] X.env=(false,eval (.Call (.Name "range" p3) [a] [] pos2) X.env) :: starEach [] X.env:=by rfl) (hpl:(backTo pos (starEach [] X.env)).any (·.1)=false:=by rfl) :
  QE X (.Call (.Name "tuple" p2) [.Call (.Name "range" p3) [a] [] pos2] [] pos) (Q3 ta):=
 cH (sZ (aF8 hc) hg B.tuple PyProof.Rows.boot_tuple (cP (L8 hgr B.range (cP ha cZ hs) hs) cZ he) (he:=he) (hpl:=hpl)) fun σ H Q' h=>by
  obtain ⟨W,ρ,Q,px,q,k⟩:=h
  refine⟨W,ρ,_,px,q,?_⟩
  rintro v H1 x g s r ⟨n,rfl,h0,h1,q⟩
  cases r
  refine⟨n,rfl,fun r hr=>⟨r,n,rfl,bK,h0,h1,fun l hl=>?_⟩⟩
  have S:aC H (upd (upd H1 r (.rng 0 n)) l (.tup (gK 0 n.toNat))):=(s.trans (bL hr _)).trans (bL hl _)
  exact k _ _ _ .fr S (.tup bK (M1 0 n.toNat)) q
end
end PP
namespace Core
open PySem L2 PP
noncomputable def i9:bH:=fun xs Q=>∃ a k:Int,xs = [.int a,.int k]/\0<=k/\k<=1000/\∀ z,0<=z->Q (.int z)
noncomputable def Q4:aN:=(aE (b8 2 (bV (c7 (c7 (c7 (bV (a5 0) (qC (.int 2147483647))) (nV (nV (qC (.int 69621)) (a5 1)) (a5 1))) (nV (qC (.int 40692)) (a5 1))) (qC (.int 1))) (qC (.int 2147483647))))
 (aE (b8 2 (bV (nV (a5 2) (qC (.int 48271))) (qC (.int 2147483647))))
 (bP (bV (nV (a5 2) (a5 2)) (qC (.int 2147483647))))))
theorem aG0:cA Q4 ["number","k","turn"] i9:=by
 rintro xs Q ⟨a,k,rfl,k0,k1,q⟩
 have big:(0:Int) < 2147483647:=by decide
 refine⟨_,rfl,_,_,rfl,rfl,big,_,rfl,_,_,rfl,rfl,.inl ⟨by decide,by decide⟩,_,rfl,_,_,rfl,rfl,.inr ⟨by show -(2 ^ 64) < k; omega,by show k < 2 ^ 64; omega⟩,_,_,rfl,rfl,_,rfl,_,_,rfl,rfl,.inl ⟨by decide,by decide⟩,_,_,rfl,rfl,_,_,rfl,rfl,_,_,rfl,rfl,big,trivial,?_⟩
 refine⟨_,rfl,_,_,rfl,rfl,.inr ⟨by decide,by decide⟩,_,_,rfl,rfl,big,trivial,?_⟩
 dsimp only
 have t0:0<=(a % 2147483647+69621 * k * k+40692 * k+1) % 2147483647 * 48271 % 2147483647:=aZ2 _ (by decide)
 have t1:(a % 2147483647+69621 * k * k+40692 * k+1) % 2147483647 * 48271 % 2147483647 < 2147483647:=bd8 _ (by decide)
 generalize (a % 2147483647+69621 * k * k+40692 * k+1) % 2147483647 * 48271 % 2147483647=t at t0 t1
 exact⟨_,rfl,_,rfl,_,_,rfl,rfl,.inl ⟨by show -(2 ^ 64) < t; omega,by show t < 2 ^ 64; omega⟩,_,_,rfl,rfl,big,trivial,q _ (aZ2 _ (by decide))⟩
noncomputable def rM:bH:=fun xs Q=>∃ (ns:List Int) (most:Int),xs = [.scr ns,.int most]/\0<=most/\∀ z,0<=z->z<=most->Q (.int z)
noncomputable def Q5:aN:=(aE (b8 2 (aB eC (a7 (a5 0) (a7 (qC (.int 0)) a9))))
 (aE (cU (bJ (j6 (bV (a5 2) (qC (.int 3))) (qC (.int 0)))) (bP (aB lU (a7 (a5 1) (a7 (aB kN (a7 (qC (.int 0)) (a7 (lY (aB dU (a7 (a5 0) a9)) (qC (.int 4))) a9))) a9)))) cT)
 (aE (cU (bJ (j6 (bV (a5 2) (qC (.int 8))) (qC (.int 1)))) (bP (bV (c7 (fS (a5 2) (qC (.int 24))) (qC (.int 5))) (c7 (a5 1) (qC (.int 1))))) cT)
 (bP (bV (c7 (fS (a5 2) (qC (.int 3))) (qC (.int 2))) (c7 (aB lU (a7 (qC (.int 6)) (a7 (a5 1) a9))) (qC (.int 1))))))))
theorem aG1:cA Q5 ["script","most","number"] rM:=by
 rintro xs Q ⟨ns,most,rfl,hm,q⟩
 refine⟨_,rfl,_,ns,0,rfl,.inl rfl,by decide,trivial,?_⟩
 generalize ns.getD (0:Int).toNat 0=c
 refine⟨_,rfl,_,_,rfl,rfl,(by show (0:Int) < 3; decide),.inl ⟨_,_,rfl,rfl,_,rfl,rH ?_ ?_⟩⟩
 ·refine⟨_,rfl,_,rfl,_,_,rfl,rfl,_,_,rfl,rfl,_,_,rfl,_,_,rfl,trivial,q _ ?_ ?_⟩ <;> split <;> split <;> omega
 refine⟨_,rfl,_,_,rfl,rfl,(by show (0:Int) < 8; decide),.inl ⟨_,_,rfl,rfl,_,rfl,rH ?_ ?_⟩⟩
 ·have hp:0 < most+1:=by omega
  refine⟨_,rfl,_,_,rfl,rfl,⟨by decide,by decide⟩,_,_,rfl,rfl,_,rfl,_,_,rfl,rfl,_,_,rfl,rfl,hp,trivial,q _ (aZ2 _ (by omega)) ?_⟩
  have:=bd8 (c / 24+5) hp
  omega
 ·have hp:0 < (if most < 6 then most else 6)+1:=by split <;> omega
  refine⟨_,rfl,_,_,rfl,rfl,⟨by decide,by decide⟩,_,_,rfl,rfl,_,rfl,_,_,rfl,_,_,rfl,rfl,_,_,rfl,rfl,hp,trivial,q _ (aZ2 _ (by omega)) ?_⟩
  have:=bd8 (c / 3+2) hp
  have hm:(if most < 6 then most else 6)<=most:=by split <;> omega
  omega
theorem jF {ws:List Int}{j:Nat} (h:j < ws.length):L2.atI (intz ws) (j:Int)=some (.int (ws.getD j 0)):=by
 have gw:ws[j]? = some (ws.getD j 0):=by rw [aU3,aU1 h]; rfl
 exact kD (by rw [aT7,gw]; rfl)
theorem jG {ws:List Int} (h:NN ws) (j:Nat):0<=ws.getD j 0:=by
 rw [aU3]
 cases hj:ws[j]? with
 | none=>exact bc6 0
 | some w=>exact h w (aT4 hj)
theorem u5 (ns:List Int) (lo hi:Option Int):∃ zs:List Int,hV (intz ns) lo hi=intz zs/\zs.length<=ns.length:=by
 refine⟨(ns.drop (HT.aW (intz ns).length 0 lo)).take (HT.aW (intz ns).length (intz ns).length hi - HT.aW (intz ns).length 0 lo),?_,?_⟩
 ·unfold hV intz; rw [List.map_take,List.map_drop]
 ·rw [aZ6,aZ8]; omega
end Core
namespace PP
open PySem L2
section
variable {P : Program} {w : World} {K : PySem.W.Frag} {mg : Str → Option Value} {base : Heap} {k : Nat} {f : Addr} {fd : FuncData}
theorem aG2 (F:cF P w K mg base dE k f fd ["web"] qY) (b:gU K fd ["web"] []) (kp:PySem.W.keepIn K (.ref f)=true) (m:mg "_law_beside" = some (.ref f)):Df P w K mg base k "_law_beside" ["web"] Core.i4:=by
 refine⟨f,fd,F.imp fun vs H Q E h=>?_,b,kp,m⟩
 obtain ⟨xs,Qp,r,⟨ws,ls,rfl,wb,q⟩,k⟩:=h
 obtain ⟨v,rfl,r1⟩:=r.one
 have:=wb.few
 have:=wb.most
 refine⟨v,ws,ls,rfl,M7 r1,by omega,by omega,wb.links,fun t bs H' hb R=>k _ H' _ R.same (.lst R.new R.row ?_) q⟩
 have:=vK (K:=K) (M:=fun a=>H a=none) (H:=H') (bs:=bs) (ls:=ls) 0 (fun b hb=>(R.news b hb).1) fun k b hk=>by rw [Nat.zero_add]; exact R.rows k b hk
 rw [hb,<- List.range_eq_range'] at this
 exact this
end
end PP
namespace Core
open PySem L2 PP
noncomputable def iL (ws:List Int) (ls:List (Int × Int)) (C:List Int):Bool:=@decide (∀ U:List Int,i5 ws ls U->(∀ x ∈ C,x ∈ U)->∀ h ∈ rng ws.length,h ∈ U) (Classical.propDecidable _)
section
variable {ws : List Int} {ls : List (Int × Int)} {C D : List Int}
theorem wB:iL ws ls C=true ↔ ∀ U:List Int,i5 ws ls U->(∀ x ∈ C,x ∈ U)->∀ h ∈ rng ws.length,h ∈ U:=
 ⟨fun z=>@aW8 _ (Classical.propDecidable _) z,fun z=>@aT1 _ (Classical.propDecidable _) z⟩
theorem aG3 {T:List Int} (sh:i5 ws ls T) (sub:∀ x ∈ C,x ∈ T) (le:∀ U,i5 ws ls U->(∀ x ∈ C,x ∈ U)->∀ x ∈ T,x ∈ U):iL ws ls C=true ↔ ∀ h ∈ rng ws.length,h ∈ T:=
 ⟨fun f=>wB.mp f T sh sub,fun a=>wB.mpr fun U sU hU h hh=>le U sU hU h (a h hh)⟩
end
noncomputable abbrev Q6:bH:=i4
noncomputable def rN:bH:=fun xs Q=>∃ ws ls x ns,xs = [bE ws ls,x]/\Wb ws ls/\cV x ns/\(∀ x ∈ ns,x ∈ rng ws.length)/\∀ T,i5 ws ls T->(∀ x ∈ ns,x ∈ T)->(∀ U,i5 ws ls U->(∀ x ∈ ns,x ∈ U)->∀ x ∈ T,x ∈ U)->Q (.lst (eD ws.length T))
noncomputable def Q7:aN:=(aE (b8 2 (aB Q6 (a7 (a5 0) a9)))
 (aE (dQ 3 (cD (j4 (aB dU (a7 (bA (a5 0) (qC (.int 0))) a9))) [none,some 1] (bQ 0) cM (q2 (uW false) (a5 0) (a5 1))))
 (aE (b8 4 (qC (.bl true)))
 (aE (lT (bJ (a5 4))
  (aE (b8 4 (qC (.bl false)))
  (eB (j4 (aB dU (a7 (bA (a5 0) (qC (.int 0))) a9))) (bQ 5)
   (aE (b8 6 (aB dU (a7 (cD (cL (bA (a5 2) (a5 5))) [none,some 3] (bQ 0) (j3 (bA (a5 1) (a5 0))) (a5 0)) a9)))
   (cU (nO (kJ (j3 (bA (a5 3) (a5 5)))) (bJ (uX (a5 6) (bA (bA (a5 0) (qC (.int 0))) (a5 5))))) (aE (kM 3 (a5 5) (qC (.bl true)))
    (b8 4 (qC (.bl true)))) cT)))))
 (iY 3)))))
theorem aG4:cA Q7 ["web","seeds","beside","burning","left","hearth","count"] rN:=by
 rintro xs Q ⟨ws,ls,x,ns,rfl,wb,hx,inn,q⟩
 have few:=wb.few
 refine⟨_,rfl,ws,ls,rfl,wb,trivial,?_⟩
 refine⟨_,rfl,_,_,_,rfl,rfl,rfl,_,_,rfl,rfl,_,rfl,by rw [bD]; omega,by rw [bD]; omega,by rw [eQ,bD]; omega,fun i acc=>acc=((rng ws.length).take i).map fun i=>PV.bl (decide (i ∈ ns)),rfl,?_,?_⟩
 ·rintro i y acc hy rfl
  obtain ⟨rfl,hi⟩:=jB hy
  rw [bD] at hi
  have hi:i < ws.length:=by omega
  refine⟨_,rfl,_,rfl,_,ns,rfl,hx.seq,trivial,?_⟩
  have tk:=oB (f:=fun (i:Int)=>PV.bl (decide (i ∈ ns))) (oD hi)
  show _=List.map _ (List.take (i+1) _)
  rw [tk,Int.zero_add]; rfl
 rintro bu rfl
 rw [eQ,bD,aW0 (by rw [dL]; omega)]
 have flb:∀ S,flats (eD ws.length S)=true:=fun S=>by
  rw [vF]
  intro x hx
  unfold eD at hx
  obtain ⟨i,_,rfl⟩:=aU8.mp hx
  rfl
 refine⟨rfl,flb ns,?_⟩
 refine⟨trivial,?_⟩
 refine⟨fun n ρ=>∃ (T:List Int) (g:Bool) (y5 y6:Option Slot),ρ = [some (.sh (flat (bE ws ls)) (bE ws ls)),some (.sh (flat x) x),some (.sh true (.lst (cR ws.length ls))),some (.own (.lst (eD ws.length T))),some (.sh true (.bl g)),y5,y6]/\
   (∀ x ∈ ns,x ∈ T)/\(∀ U,i5 ws ls U->(∀ x ∈ ns,x ∈ U)->∀ x ∈ T,x ∈ U)/\(g=false->i5 ws ls T)/\n=2 * ((rng ws.length).filter fun z=>!decide (z ∈ T)).length+(if g=true then 1 else 0),⟨_,ns,true,none,none,rfl,fun _ h=>h,fun _ _ h=>h,(fun z=>by cases z),rfl⟩,?_⟩
 rintro n ρ ⟨T,g,y5,y6,rfl,sub,le,sh,rfl⟩
 refine⟨_,rfl,_,rfl,?_⟩
 cases g with
 | false=>exact bF ⟨_,rfl,trivial,q T (sh rfl) sub le⟩
 | true=>
  refine bN ⟨trivial,?_⟩
  refine⟨_,rfl,_,_,_,rfl,rfl,rfl,_,_,rfl,rfl,_,rfl,by rw [bD]; omega,by rw [bD]; omega,fun i ρ=>∃ (T2:List Int) (g2:Bool) (y5 y6:Option Slot),ρ = [some (.sh (flat (bE ws ls)) (bE ws ls)),some (.sh (flat x) x),some (.sh true (.lst (cR ws.length ls))),some (.own (.lst (eD ws.length T2))),some (.sh true (.bl g2)),y5,y6]/\
   (∀ x ∈ ns,x ∈ T2)/\(∀ U,i5 ws ls U->(∀ x ∈ ns,x ∈ U)->∀ x ∈ T2,x ∈ U)/\(g2=false->T2=T/\∀ j:Nat,j < i->kin ws ls T j=false)/\(g2=true->((rng ws.length).filter fun z=>!decide (z ∈ T2)).length < ((rng ws.length).filter fun z=>!decide (z ∈ T)).length),⟨T,false,y5,y6,rfl,sub,le,(fun _=>⟨rfl,fun j hj=>absurd hj (Nat.not_lt_zero _)⟩),fun z=>by cases z⟩,?_,?_⟩
  ·rintro i y ρ hy ⟨T2,g2,y5,y6,rfl,sub2,le2,h0,h1⟩
   obtain ⟨rfl,hi⟩:=jB hy
   have hi:i < ws.length:=by rw [bD,aV4] at hi; exact hi
   refine k6 ?_
   rw [Int.zero_add]
   have hr:(i:Int) ∈ rng ws.length:=cJ.mpr ⟨by omega,by omega⟩
   refine⟨_,rfl,_,rfl,_,_,_,rfl,rfl,vG (by omega) (by omega),_,rfl,(fun z=>by cases z),?_,fun j acc=>acc=intz (((aK ls (i:Int)).take j).filter fun z=>decide (z ∈ T2)),rfl,?_,?_⟩
   ·rw [bD]; have:=nK ls (i:Int); have:=wb.most; omega
   ·rintro j z acc hz rfl
    obtain ⟨o,rfl,ho⟩:=gP hz
    have tk:=oE (p:=fun z=>decide (z ∈ T2)) ho
    have om:=cJ.mp (aA2 wb (aT4 ho))
    refine⟨_,rfl,_,rfl,_,_,_,rfl,rfl,M9 om.1 om.2,_,rfl,?_⟩
    show if decide (o ∈ T2)=true then _ else _
    cases hm:decide (o ∈ T2) with
    | true=>
     rw [hm] at tk
     refine bN ⟨_,rfl,trivial,?_⟩
     dsimp only
     rw [tk,gC]; rfl
    | false=>
     rw [hm] at tk
     refine bF ?_
     dsimp only
     rw [tk]; exact congrArg intz (ba3 _).symm
   rintro acc rfl
   rw [bD,ba0]
   have ix:L2.atI (intz ws) (i:Int)=some (.int (ws.getD (i:Int).toNat 0)):=L6 (by omega) (by omega)
   refine⟨_,_,rfl,rfl,trivial,?_⟩
   refine⟨_,rfl,_,rfl,_,_,_,rfl,rfl,M9 (by omega) (by omega),_,rfl,?_⟩
   show if (!decide ((i:Int) ∈ T2))=true then _ else _
   have stay:kin ws ls T2 (i:Int)=false->∃ (T3:List Int) (g3:Bool) (y5 y6':Option Slot),[some (Slot.sh (flat (bE ws ls)) (bE ws ls)),some (.sh (flat x) x),some (.sh true (.lst (cR ws.length ls))),some (.own (.lst (eD ws.length T2))),some (.sh true (.bl g2)),si (i:Int),some (.sh true (.int (((aK ls (i:Int)).filter fun z=>decide (z ∈ T2)).length:Nat)))] = [some (.sh (flat (bE ws ls)) (bE ws ls)),some (.sh (flat x) x),some (.sh true (.lst (cR ws.length ls))),some (.own (.lst (eD ws.length T3))),some (.sh true (.bl g3)),y5,y6']/\
     (∀ x ∈ ns,x ∈ T3)/\(∀ U,i5 ws ls U->(∀ x ∈ ns,x ∈ U)->∀ x ∈ T3,x ∈ U)/\(g3=false->T3=T/\∀ j:Nat,j < i+1->kin ws ls T j=false)/\(g3=true->((rng ws.length).filter fun z=>!decide (z ∈ T3)).length < ((rng ws.length).filter fun z=>!decide (z ∈ T)).length):=fun hk=>by
    refine⟨T2,g2,_,_,rfl,sub2,le2,fun z=>?_,h1⟩
    obtain ⟨e,a⟩:=h0 z
    refine⟨e,fun j hj=>?_⟩
    by_cases je:j=i
    ·rw [je,<- e]; exact hk
    ·exact a j (by omega)
   by_cases hm:(i:Int) ∈ T2
   ·have hk:kin ws ls T2 (i:Int)=false:=by unfold kin; rw [aT1 hm]; rfl
    rw [aT1 hm]
    have:=stay hk
    refine bF (bF ?_)
    dsimp only
    rw [bD]
    exact this
   ·rw [aT8 hm]
    refine bN ⟨_,rfl,_,rfl,_,_,_,rfl,rfl,rfl,_,rfl,_,_,_,rfl,rfl,ix,_,_,rfl,rfl,_,rfl,?_⟩
    have ek:kin ws ls T2 (i:Int)=decide ((((aK ls (i:Int)).filter fun z=>decide (z ∈ T2)).length:Int) >= ws.getD (i:Int).toNat 0):=by unfold kin; rw [aT8 hm]; rfl
    dsimp only
    rw [bD]
    rw [<- ek]
    cases hk:kin ws ls T2 (i:Int) with
    | false=>exact bF (stay hk)
    | true=>
     refine bN ⟨_,rfl,_,rfl,_,i,rfl,?_,trivial,?_⟩
     ·unfold fL
      rw [mC,if_pos (by omega),if_pos (by omega),aV4]
     have bs:=az0 (n:=ws.length) (S:=T2) (x:=(i:Int)) (by omega) (by omega)
     rw [aV4] at bs
     rw [bs]
     refine⟨trivial,T2 ++ [(i:Int)],true,_,_,rfl,fun x hx=>aX2 _ (sub2 x hx),fun U sU hU x hx=>?_,(fun z=>by cases z),fun _=>?_⟩
     ·rcases aT9.mp hx with hx | hx
      ·exact le2 U sU hU x hx
      ·rw [aT0.mp hx]
       refine aY0 fun hn=>?_
       have:=az7 hk (le2 U sU hU) hn
       rw [sU (i:Int) hr] at this; cases this
     ·have lt:((rng ws.length).filter fun z=>!decide (z ∈ T2 ++ [(i:Int)])).length < ((rng ws.length).filter fun z=>!decide (z ∈ T2)).length:=by
       have n1:((rng ws.length).filter fun z=>!decide (z ∈ T2 ++ [(i:Int)])).Nodup:=(az8 _).filter _
       have n2:(i:Int) ∉ (rng ws.length).filter fun z=>!decide (z ∈ T2 ++ [(i:Int)]):=fun z=>by
        have:=(aU4.mp z).2
        rw [aT1 (aW2 _ (List.mem_singleton_self _))] at this; cases this
       have:=(ba4.mpr ⟨n2,n1⟩).length_le_of_subset (l₂:=(rng ws.length).filter fun z=>!decide (z ∈ T2)) fun z hz=>by
        rcases aU0.mp hz with e | hz
        ·rw [e]; exact aU4.mpr ⟨hr,by rw [aT8 hm]; rfl⟩
        ·have h2:=aU4.mp hz
         refine aU4.mpr ⟨h2.1,?_⟩
         rw [aT8 fun w=>?_]; rfl
         rw [aT1 (aX2 _ w)] at h2; exact absurd h2.2 (by decide)
       rw [aV8] at this
       omega
      cases g2 with
      | true=>have:=h1 rfl; omega
      | false=>have e:=(h0 rfl).1; rw [e] at lt ⊢; exact lt
  ·rintro ρ ⟨T2,g2,y5,y6,rfl,sub2,le2,h0,h1⟩
   rw [eQ,bD,aV4] at h0
   cases g2 with
   | true=>exact⟨_,by have:=h1 rfl; rw [if_pos rfl]; omega,T2,true,y5,y6,rfl,sub2,le2,(fun z=>by cases z),rfl⟩
   | false=>
    obtain ⟨e,sh2⟩:=h0 rfl
    subst e
    refine⟨_,by rw [if_pos rfl,if_neg (by decide)]; omega,T2,false,y5,y6,rfl,sub2,le2,(fun _ h hh=>?_),rfl⟩
    have hm:=cJ.mp hh
    have:=sh2 h.toNat (by omega)
    rwa [show ((h.toNat:Nat):Int)=h by omega] at this
noncomputable def rO:bH:=fun xs Q=>∃ ws ls x ns,xs = [bE ws ls,x]/\Wb ws ls/\cV x ns/\(∀ x ∈ ns,x ∈ rng ws.length)/\Q (.bl (iL ws ls ns))
noncomputable def Q8:aN:=(bP (j6 (aB dU (a7 (cD (cL (aB rN (a7 (a5 0) (a7 (a5 1) a9)))) [none] (bQ 0) (kJ (j3 (a5 0))) (a5 0)) a9)) (qC (.int 0))))
theorem aG5:cA Q8 ["web","seeds"] rO:=by
 rintro xs Q ⟨ws,ls,x,ns,rfl,wb,hx,inn,q⟩
 have few:=wb.few
 refine⟨_,rfl,_,rfl,ws,ls,x,ns,rfl,wb,hx,inn,fun T sh sub le=>?_⟩
 refine⟨_,rfl,(fun z=>by cases z),by rw [mC]; omega,fun i acc=>acc.length=(((rng ws.length).take i).filter fun z=>!decide (z ∈ T)).length,rfl,?_,?_⟩
 ·rintro i y acc hy e
  unfold eD at hy
  rw [aT7] at hy
  cases hz:(rng ws.length)[i]? with
  | none=>rw [hz] at hy; cases hy
  | some z=>
   rw [hz] at hy
   cases hy
   have tk:=oE (p:=fun z=>!decide (z ∈ T)) hz
   refine⟨_,rfl,_,rfl,?_⟩
   show if (!decide (z ∈ T))=true then _ else _
   cases hm:decide (z ∈ T) with
   | true=>
    rw [hm] at tk
    refine bF ?_
    dsimp only
    rw [tk,e]; exact congrArg List.length (ba3 _).symm
   | false=>
    rw [hm] at tk
    refine bN ⟨_,rfl,trivial,?_⟩
    dsimp only
    rw [tk,aU6,aU6,e]; rfl
 ·intro acc e
  rw [mC,aW0 (by rw [dL]; exact aT2 _)] at e
  refine⟨_,_,rfl,rfl,.inl ⟨_,_,rfl,rfl,trivial,?_⟩⟩
  have ef:iL ws ls ns=decide ((acc.length:Int)=0):=by
   rw [ba2,bb7,aG3 sh sub le,e]
   constructor
   ·intro a
    rw [List.filter_eq_nil_iff.mpr fun z hz=>by rw [aT1 (a z hz)]; decide]; rfl
   ·intro z h hh
    have nl:(rng ws.length).filter (fun z=>!decide (z ∈ T)) = []:=List.eq_nil_of_length_eq_zero (by omega)
    have:=List.filter_eq_nil_iff.mp nl h hh
    simpa using this
  rw [ef] at q
  exact q
noncomputable def rP:bH:=fun xs Q=>∃ (c:Int) (n:Nat),xs = [.int c,.int n]/\n<=40/\∀ S,b7 n S=true->Q (.tup (intz S))
noncomputable def Q9:aN:=(aE (cU (bJ (j6 (bV (a5 0) (qC (.int 2))) (qC (.int 1)))) (bP (aB iH (a7 (cD (j4 (a5 1)) [none,some 0] (bQ 0) (bJ (j6 (aF6 (au4 (a5 1) (c7 (a5 0) (qC (.int 1)))) (qC (.int 1))) (qC (.int 1)))) (a5 0)) a9))) cT)
 (bP (aB iH (a7 (cD (j4 (a5 1)) [none,some 0] (bQ 0) (bJ (G5 (bV (aB i9 (a7 (a5 1) (a7 (c7 (a5 0) (qC (.int 90))) a9))) (qC (.int 3))) (qC (.int 0)))) (a5 0)) a9))))
theorem wC {b:Bool}{A B:Prop} (a:A) (c:B):if b=true then A else B:=by
 cases b
 ·exact c
 ·exact a
theorem aG6:cA Q9 ["number","many"] rP:=by
 rintro xs Q ⟨c,n,rfl,hn,q⟩
 have st:∀ (i:Nat) (acc:List PV) (A:List Int),acc=intz A->dY (i:Int) A->∃ A2,acc ++ [PV.int (0+(i:Int))]=intz A2/\dY ((i+1:Nat):Int) A2:=fun i acc A e u=>by
  refine⟨A ++ [(i:Int)],by rw [e,gC,Int.zero_add]; rfl,List.pairwise_append.mpr ⟨u.up,aW1 _ _,fun x hx y hy=>?_⟩,fun x hx=>?_,?_⟩
  ·rw [aT0.mp hy]; exact (u.inn x hx).2
  ·rcases aT9.mp hx with hx | hx
   ·have:=u.inn x hx; omega
   ·rw [aT0.mp hx]; omega
  ·rw [aU6,aW5]; have:=u.len; omega
 refine⟨_,rfl,_,_,rfl,rfl,(by show (0:Int) < 2; decide),.inl ⟨_,_,rfl,rfl,_,rfl,wC ?_ ?_⟩⟩
 ·refine⟨_,rfl,_,rfl,by omega,by omega,by rw [eQ]; omega,fun i acc=>∃ A,acc=intz A/\dY (i:Int) A,⟨[],rfl,dY.nil⟩,?_,?_⟩
  ·rintro i y acc hy ⟨A,e,u⟩
   obtain ⟨rfl,hi⟩:=jB hy
   refine⟨_,rfl,_,rfl,_,_,rfl,rfl,_,_,rfl,rfl,?_,_,_,rfl,rfl,.inl ⟨_,_,rfl,rfl,_,rfl,wC ⟨_,rfl,trivial,st i acc A e u⟩ ⟨A,e,u.skip⟩⟩⟩
   show (0:Int)<=0+(i:Int)+1
   omega
  ·rintro acc ⟨A,rfl,u⟩
   rw [eQ] at u
   have u:dY (n:Int) A:=by rw [aV4] at u; exact u
   exact⟨⟨_,_,rfl,rfl,dB _,trivial,q A u.set⟩,fun ns z=>by cases z⟩
 ·refine⟨_,rfl,_,rfl,by omega,by omega,by rw [eQ]; omega,fun i acc=>∃ A,acc=intz A/\dY (i:Int) A,⟨[],rfl,dY.nil⟩,?_,?_⟩
  ·rintro i y acc hy ⟨A,e,u⟩
   obtain ⟨rfl,hi⟩:=jB hy
   have hi:i < n:=by rw [aV4] at hi; exact hi
   refine⟨_,rfl,_,rfl,_,_,rfl,rfl,_,_,rfl,?_,?_,fun z z0=>⟨_,_,rfl,rfl,(by show (0:Int) < 3; decide),_,_,rfl,rfl,_,rfl,wC ⟨_,rfl,trivial,st i acc A e u⟩ ⟨A,e,u.skip⟩⟩⟩
   ·show (0:Int)<=0+(i:Int)+90; omega
   ·show 0+(i:Int)+90<=1000; omega
  ·rintro acc ⟨A,rfl,u⟩
   rw [eQ] at u
   have u:dY (n:Int) A:=by rw [aV4] at u; exact u
   exact⟨⟨_,_,rfl,rfl,dB _,trivial,q A u.set⟩,fun ns z=>by cases z⟩
section
variable {ws : List Int} {ls : List (Int × Int)} {ns S : List Int}
noncomputable def dM (S:List Int) (h:Int):List Int:=S.filter fun z=>!decide (z ∈ [h])
theorem l9 {h x:Int}:x ∈ dM S h ↔ x ∈ S/\x ≠ h:=by unfold dM; rw [aU4]; simp
theorem rQ {n:Nat}{h:Int} (hs:b7 n S=true):b7 n (dM S h)=true:=r9 hs _
end
theorem R3 (n:Nat):b7 n (rng n)=true:=vY.set ⟨O1 n,fun x hx=>cJ.mp hx⟩
end Core
namespace L2
open PySem PySem.Spec PyProof.Rows
noncomputable def R4 (K:PySem.W.Frag) (a:Addr) (n:Nat):It:=
 ⟨fun i H=>(∃ xs,aJ K H a xs/\xs.length=n)/\i < n,fun i H x H'=>H'=H/\∀ xs,aJ K H a xs->xs[n - 1 - i]? = some x,fun i H=>i=n⟩
theorem aG7 {P:Program}{w:World}{K:PySem.W.Frag}{tg:Expr} (a it:Addr) (n:Nat):iP P w K tg (R4 K a n) [it] it (fun i h=>h.IsRevIter it a ((n:Int) - 1 - (i:Int))):=by
 refine⟨by simp,fun i h st b hb=>?_,fun i h h' st k=>st.at fun o e=>k it (by simp) o e,?_,?_,fun _ _ _ _ _ st q=>wpAny_pyIter_revIter st q⟩
 ·obtain rfl:b=it:=by simpa using hb
  obtain ⟨o,e,c,d⟩:=st
  exact⟨o,e,fun v z=>by rw [d] at z; cases z⟩
 ·intro X hP hw hK hc i pins s σ H E I hf st hg
  subst hP hw hK
  obtain ⟨⟨xs,hq,hl⟩,hi⟩:=hg
  obtain ⟨its,rv,p,hz⟩:=I.list hq
  have lv:=rv.length
  have hx:xs[n - 1 - i]? = some (xs[n - 1 - i]'(by omega)):=aU1 (by omega)
  obtain ⟨u,hu,ru⟩:=rv.get hx
  obtain ⟨f0,f1,f2,f3,f4,f5⟩:=hf it (by simp)
  have e0:(n:Int) - 1 - (i:Int)=((n - 1 - i:Nat):Int):=by omega
  rw [e0] at st
  refine wpAny_pyNext_rev_item st p.isList (x:=u) (by simpa using hu) fun h' st' sb=>?_
  have I1:a6 X pins σ H { s with heap:=h' }:=I.turned (t':=s.toks) (fun b o hb e=>(sb.2 b hb).trans e) f0 f1 f3 f4 f5
  have e1:((n - 1 - i:Nat):Int) - 1=(n:Int) - 1 - ((i+1:Nat):Int):=by omega
  rw [e1] at st'
  obtain ⟨o,e,c,d⟩:=id st'
  exact⟨u,rfl,p5 (s:={ s with heap:=h' }) e c d (by decide) ⟨_,H,I1,ru,⟨rfl,fun ys hy=>by rw [I.list_inj hy hq]; exact hx⟩,st',fun b hb=>(hf b hb).1⟩⟩
 ·intro X hP hw hK hc i pins s σ H E I hf st hg
  subst hP hw hK
  have hg:i=n:=hg
  subst hg
  obtain ⟨f0,f1,f2,f3,f4,f5⟩:=hf it (by simp)
  rw [show (i:Int) - 1 - (i:Int) = -1 by omega] at st
  exact wpAny_pyNext_rev_end (I.ok.hd hc) st fun h' eb=>⟨rfl,I.turned (t':=s.toks) (fun b o hb e=>eb b o hb e) f0 f1 f3 f4 f5⟩
section
variable {X : Cx}
noncomputable def R5 (K:PySem.W.Frag) (ta:TA):TI:=fun σ H R=>ta σ H fun vs H1=>∃ a xs,vs = [.ref a]/\aJ K H1 a xs/\R (R4 K a xs.length) H1
theorem aG8 {tg:Expr}{a:Expr}{ta:TA}{p pos:Pos} (hg:Gl X "reversed") (hm:X.mg "reversed" = none) (ha:PA X [a] ta) (hs:starEach [a] X.env = [(false,eval a X.env)]:=by rfl) :
  PI X tg (.Call (.Name "reversed" p) [a] [] pos) (R5 X.K ta):=by
 intro pins s σ H R I h
 refine Call_ (jL I hg hm PyProof.Rows.boot_reversed (aZ5 (aO (ha pos pins s σ H _ I h) fun us s1 ⟨vs,H1,I1,r1,q1⟩=>?_) (by rw [hs]; rfl) (by rfl)))
 obtain ⟨a',xs,e,h1,q⟩:=q1
 subst e
 cases r1 with
 | cons r rr=>
  cases rr
  cases r
  obtain ⟨us,rv,p1,_⟩:=I1.list h1
  have lv:=rv.length
  refine call_reversed_list p1.isList ?_
  have st:∀ t:Nat,(s1.heap.push (revObj a' ((us.toArray.size:Int) - 1))).IsRevIter s1.heap.objs.size a' ((xs.length:Int) - 1 - (0:Nat)):=fun _=>by
   rw [aU2,<- lv]
   exact⟨_,aU9 _ rfl,rfl,by rw [show (xs.length:Int) - 1 - (0:Nat)=(xs.length:Int) - 1 by omega]; rfl⟩
  refine wpAny_pyIter_revIter (st 0) ?_
  refine⟨s1.heap.objs.size,[s1.heap.objs.size],_,_,H1,rfl,I1.kept (t':=s1.toks) fun b o e=>aS7 _ e,aG7 a' _ xs.length,st 0,fun c hc=>?_,q⟩
  obtain rfl:c=s1.heap.objs.size:=by simpa using hc
  exact I1.fpOk (aT2 _) (I1.hok.fresh (aT2 _))
end
end L2
namespace PP
open PySem L2
section
variable {X : Cx} {σ : St} {H : Hp} {te : aF} {R : It → Hp → Prop} {a : Expr} {p2 pos : Pos}
noncomputable def wD (te:aF):fA:=fun ρ Q=>te ρ fun x g=>∃ xs,x = .lst xs/\g ≠ .rd/\Q xs.reverse (uT g xs)
theorem aG9 (h:LI X (wD te) σ H R):R5 X.K (iF (LE X te) jQ) σ H R:=by
 obtain ⟨W,ρ,Q,px,q,k⟩:=h
 refine⟨W,ρ,_,px,q,?_⟩
 rintro v H1 x g s r ⟨xs,rfl,hg,q⟩
 have px1:=px.mono s
 have tw:∀ a,W a->∃ o,H1 a=some o/\iX o=true:=fun a z=>(px1.wm a z).2
 obtain ⟨a,us,rfl,m,ea,r⟩:=r.sqL
 have wa : ¬ W a:=by
  cases g with
  | fr=>exact (px.new m).1
  | nw=>exact m.1
  | sh=>exact m
  | rd=>exact absurd rfl hg
 have lr:=r.length
 have ha:∀ W' H',Ev W H1 W' H'->aJ X.K H' a us:=fun W' H' e=>aJ.of (e _ _ ea wa).1
 have rr:=nS px (fun z=>absurd z hg) r
 refine⟨a,us,rfl,aJ.of ea,k _ _ _ _ s ⟨fun W' H' i e hi=>⟨⟨us,ha W' H' e,rfl⟩,?_⟩,fun W' H' i v H2 e y hi=>?_,fun W' H' e=>?_⟩ q⟩
 ·rw [List.length_reverse] at hi; omega
 ·rw [List.length_reverse] at hi
  obtain ⟨rfl,y⟩:=y
  obtain ⟨x,hx,rx⟩:=rr.get (y us (ha W' _ e))
  refine⟨aC.refl _,x,?_,rx.keep (e.keep tw)⟩
  rw [List.getElem?_reverse hi,<- lr]
  exact hx
 ·show xs.reverse.length=us.length
  rw [List.length_reverse]; omega
theorem aH0 {tg:Expr} (hm:X.mg "reversed" = none) (ha:QE X a te) (hg:Gl X "reversed":=by rfl) (hs:starEach [a] X.env = [(false,eval a X.env)]:=by rfl):QI X tg (.Call (.Name "reversed" p2) [a] [] pos) (wD te):=qM (aG8 hg hm (cP ha cZ hs) hs) fun _ _ _=>aG9
end
end PP
namespace Core
open PySem L2 PP
noncomputable def lA (n:Nat) (ps:List Int):Prop:=ps.length=n/\∀ w ∈ ps,0<=w
noncomputable def rR:bH:=fun xs Q=>∃ (ns:List Int) (m:Nat),xs = [.scr ns,.int m]/\ns.length<=63/\m<=40/\∀ ps,lA m ps->Q (.lst (intz ps))
noncomputable def R6:aN:=(aE (dQ 2 (fP a9))
 (aE (eB (j4 (a5 1)) (bQ 3)
  (aE (b8 4 (aB i9 (a7 (aB eC (a7 (a5 0) (a7 (qC (.int 2)) a9))) (a7 (c7 (a5 3) (qC (.int 30))) a9))))
  (aE (cU (bJ (kS (c7 (qC (.int 4)) (a5 3)) (aB dU (a7 (a5 0) a9)))) (b8 4 (c7 (fS (bA (a5 0) (c7 (qC (.int 4)) (a5 3))) (qC (.int 11))) (aB eC (a7 (a5 0) (a7 (qC (.int 2)) a9))))) cT)
  (iG 2 (bA (fP (a7 (bV (a5 4) (qC (.int 3))) (a7 (c7 (qC (.int 1)) (bV (a5 4) (qC (.int 9)))) (a7 (bV (a5 4) (qJ (qC (.int 10)) (qC (.int 9)))) (a7 (c7 (qJ (qC (.int 10)) (qC (.int 20))) (bV (a5 4) (qC (.int 7)))) a9))))) (bV (fS (a5 4) (qC (.int 10))) (qC (.int 4))))))))
 (iY 2)))
theorem aH1:cA R6 ["script","many","prices","k","number"] rR:=by
 rintro xs Q ⟨ns,m,rfl,hl,hm,q⟩
 refine⟨by decide,rfl,rfl,rfl,?_⟩
 refine⟨_,rfl,(m:Int),rfl,by omega,by omega,fun i ρ=>∃ (ps:List Int) (y3 y4:Option Slot),ρ = [some (.sh (flat (.scr ns)) (.scr ns)),some (.sh (flat (.int (m:Int))) (.int (m:Int))),some (.own (.lst (intz ps))),y3,y4]/\lA i ps,⟨[],none,none,rfl,rfl,by simp⟩,?_,?_⟩
 ·rintro i y ρ hy ⟨ps,y3,y4,rfl,gp⟩
  obtain ⟨rfl,hi⟩:=jB hy
  rw [aV4] at hi
  refine k6 ?_
  rw [Int.zero_add]
  refine⟨_,rfl,_,ns,2,rfl,.inl rfl,by decide,_,rfl,_,_,rfl,rfl,_,_,rfl,by omega,by omega,fun z z0=>⟨trivial,?_⟩⟩
  have tail:∀ c:Int,(iG 2 (bA (fP (a7 (bV (a5 4) (qC (.int 3))) (a7 (c7 (qC (.int 1)) (bV (a5 4) (qC (.int 9)))) (a7 (bV (a5 4) (qJ (qC (.int 10)) (qC (.int 9)))) (a7 (c7 (qJ (qC (.int 10)) (qC (.int 20))) (bV (a5 4) (qC (.int 7)))) a9))))) (bV (fS (a5 4) (qC (.int 10))) (qC (.int 4)))))
    { nx:=fun ρ=>∃ (ps:List Int) (y3 y4:Option Slot),ρ = [some (.sh (flat (.scr ns)) (.scr ns)),some (.sh (flat (.int (m:Int))) (.int (m:Int))),some (.own (.lst (intz ps))),y3,y4]/\lA (i+1) ps,rt:=Q,ct:=fun ρ=>∃ (ps:List Int) (y3 y4:Option Slot),ρ = [some (.sh (flat (.scr ns)) (.scr ns)),some (.sh (flat (.int (m:Int))) (.int (m:Int))),some (.own (.lst (intz ps))),y3,y4]/\lA (i+1) ps,bk:=(iY 2) { nx:=fun _=>Q .non,rt:=Q } }
    [some (.sh (flat (.scr ns)) (.scr ns)),some (.sh (flat (.int (m:Int))) (.int (m:Int))),some (.own (.lst (intz ps))),si i,si c]:=fun c=>by
   have j0:0<=c / 10 % 4:=aZ2 _ (by decide)
   have j1:c / 10 % 4 < 4:=bd8 _ (by decide)
   have odd:∃ p:Int,0<=p/\L2.atI [PV.int (c % 3),.int (1+c % 9),.int (c % 10 ^ (9:Int).toNat),.int (10 ^ (20:Int).toNat+c % 7)] (c / 10 % 4)=some (.int p):=by
    generalize c / 10 % 4=j at j0 j1
    have e1:0<=c % 3:=aZ2 _ (by decide)
    have e2:0<=c % 9:=aZ2 _ (by decide)
    have e3:0<=c % 10 ^ (9:Int).toNat:=aZ2 _ (by decide)
    have e4:0<=c % 7:=aZ2 _ (by decide)
    have e5:(0:Int)<=10 ^ (20:Int).toNat:=by decide
    rcases (show j=0 ∨ j=1 ∨ j=2 ∨ j=3 by omega) with rfl | rfl | rfl | rfl
    ·exact⟨_,e1,rfl⟩
    ·exact⟨_,by omega,rfl⟩
    ·exact⟨_,e3,rfl⟩
    ·exact⟨_,Int.add_nonneg e5 e4,rfl⟩
   obtain ⟨p,p0,at4⟩:=odd
   refine⟨_,rfl,_,rfl,_,_,rfl,rfl,(by show (0:Int) < 3; decide),_,rfl,_,_,rfl,rfl,(by show (0:Int) < 9; decide),_,_,rfl,rfl,_,rfl,_,_,rfl,rfl,⟨by decide,by decide,by decide⟩,_,_,rfl,rfl,(by show (0:Int) < 10 ^ (9:Int).toNat; decide),
    _,_,rfl,rfl,⟨by decide,by decide,by decide⟩,_,rfl,_,_,rfl,rfl,(by show (0:Int) < 7; decide),_,_,rfl,rfl,by show 4<=1000; decide,rfl,_,rfl,_,_,rfl,rfl,⟨by decide,by decide⟩,_,_,rfl,rfl,(by show (0:Int) < 4; decide),?_⟩
   refine⟨_,_,_,rfl,rfl,at4,trivial,by rw [bD,gp.1]; omega,ps ++ [p],si i,si c,?_,?_⟩
   ·rw [gC]; rfl
   ·refine⟨by rw [aU6,gp.1]; rfl,fun w hw=>?_⟩
    rcases aT9.mp hw with hw | hw
    ·exact gp.2 w hw
    ·rw [aT0] at hw; omega
  refine⟨_,rfl,_,_,rfl,rfl,_,rfl,_,_,rfl,rfl,_,_,rfl,rfl,_,rfl,?_⟩
  show if decide (4+(i:Int) < (ns.length:Int))=true then _ else _
  by_cases h4:4+(i:Int) < (ns.length:Int)
  ·rw [aT1 h4]
   have hl4:4+i < ns.length:=by omega
   have ix:L2.atI (intz ns) (4+(i:Int))=some (.int ns[4+i]):=by
    have:=kD (xs:=intz ns) (j:=4+i) (v:=.int ns[4+i]) (by show (List.map PV.int ns)[_]? = _; rw [aT7,aU1 hl4]; rfl)
    exact this
   exact bN ⟨_,rfl,_,rfl,_,_,rfl,rfl,_,_,_,rfl,rfl,ix,_,_,rfl,rfl,⟨by decide,by decide⟩,_,rfl,_,ns,2,rfl,.inl rfl,by decide,_,_,rfl,rfl,trivial,tail _⟩
  ·rw [aT8 h4]
   exact bF (tail z)
 ·rintro ρ ⟨ps,y3,y4,rfl,gp⟩
  rw [eQ,aV4] at gp
  exact⟨_,rfl,trivial,q ps gp⟩
noncomputable def lB (h:Int):List Int->List Int
 | []=>[h]
 | a :: r=>if h<=a then h :: a :: r else a :: lB h r
theorem wE (h:Int):∀ A:List Int,(lB h A).Perm (A ++ [h])
 | []=>bh3 _
 | a :: r=>by
  show (if h<=a then h :: a :: r else a :: lB h r).Perm _
  split
  ·exact List.perm_append_comm (l₁:=[h]) (l₂:=a :: r)
  ·exact (wE h r).cons a
theorem R7 (h:Int):∀ {A:List Int},A.Pairwise (· <= ·)->(lB h A).Pairwise (· <= ·)
 | [],_=>aW1 _ _
 | a :: r,p=>by
  have p':=aY5.mp p
  show (if h<=a then h :: a :: r else a :: lB h r).Pairwise _
  split
  ·rename_i z
   exact aY5.mpr ⟨fun x hx=>by
    rcases aU0.mp hx with rfl | hx
    ·exact z
    ·exact Int.le_trans z (p'.1 x hx),p⟩
  ·rename_i z
   exact aY5.mpr ⟨fun x hx=>by
    rcases aT9.mp ((wE h r).mem_iff.mp hx) with hx | hx
    ·exact p'.1 x hx
    ·rw [aT0] at hx; omega,R7 h p'.2⟩
theorem aH2 {motive:List Int->Prop} (z:motive []) (sn:∀ L x,motive L->motive (L ++ [x])):∀ L,motive L:=fun L=>by
 have:∀ R:List Int,motive R.reverse:=by
  intro R
  induction R with
  | nil=>exact z
  | cons x r ih=>rw [List.reverse_cons]; exact sn _ _ ih
 have:=this L.reverse
 rwa [List.reverse_reverse] at this
noncomputable def fG (O:List Int):List Int:=O.foldl (fun A h=>lB h A) []
theorem aH3 (O:List Int) (h:Int):fG (O ++ [h])=lB h (fG O):=by unfold fG; rw [List.foldl_append]; rfl
theorem oQ:∀ O:List Int,(fG O).Perm O/\(fG O).Pairwise (· <= ·):=by
 refine aH2 ⟨bh3 _,.nil⟩ ?_
 rintro O h ⟨i1,i2⟩
 rw [aH3]
 exact⟨(wE h _).trans (i1.append_right [h]),R7 h i2⟩
theorem aH4 {O ms:List Int} (p:ms.Perm O) (s:ms.Pairwise (· <= ·)):ms=fG O:=vL (p.trans (oQ O).1.symm) s (oQ O).2
noncomputable def tW (ws:List Int) (ls:List (Int × Int)) (ns R:List Int):Prop:=P5 ws ls ns R=true/\i5 ws ls (ns ++ R)
end Core
namespace L2
open PySem PySem.Spec PyProof.Rows PP
section
variable {prog : Program} {w : World} {A : Around} {R : Result → Shared → Prop} {I S : Addr} {n : Nat} {l : Addr} {its : Array Value} {s0 : Shared} {bt : Nat → Nat → Bool}
noncomputable abbrev at_ (s:Shared) (h:Heap) (k:Nat):Shared:={ s with heap:=h,toks:=k }
end
end L2
namespace HT
open PySem PyProof.Rows
section
open PySem.SeqAt
open PySem.AutoSeq1 (wpAny_loadPart')
open PySem.MeetsSeq PySem.MeetsSeq2 PySem.MeetsSeq3
theorem mI {its:List Value}{ns:List Int} (h:IntsAre its ns) {i:Nat} (hi:i < its.length):∃ a t,its[i]? = some (.int a t)/\ns[i]? = some a:=by
 induction h generalizing i with
 | nil=>exact absurd hi (Nat.not_lt_zero _)
 | cons a t h ih=>
  cases i with
  | zero=>exact⟨a,t,rfl,rfl⟩
  | succ i=>exact ih (by simpa using hi)
end
end HT
namespace Core
open PySem L2 PP
noncomputable def FB (L:List (List Int)) (f:List Int->Int) (r:List Int):Prop:=∃ i,L[i]? = some r/\(∀ (j:Nat) (s:List Int),j < i->L[j]? = some s->f s < f r)/\∀ s ∈ L,f s<=f r
noncomputable def eG (n:Nat) (ls:List (Int × Int)):Prop:=(∀ l ∈ ls,0<=l.1/\l.1 < l.2/\l.2 < (n:Int))/\ls.length<=1700/\ls.Pairwise jE
noncomputable def fH (S:List Int) (l:Int × Int):Bool:=decide (l.1 ∈ S) && decide (l.2 ∈ S)
structure Moved (ws os ws':List Int):Prop where
 len:ws'.length=ws.length
 at_:∀ h:Nat,h < ws.length->ws'[(os.getD h 0).toNat]? = ws[h]?
theorem aH5 {ls:List (Int × Int)} (h:ls.Pairwise jE):ls.Nodup:=h.imp fun {a b} z e=>by subst e; unfold jE at z; omega
noncomputable def wF (r c:Int) (l:Int × Int):Bool:=decide (0<=l.1) && (decide (l.1 < r) && (decide (0<=l.2) && decide (l.2 < c)))
noncomputable def aH6 (l:Int × Int):List (Int × Int):=[(l.1 - 1,l.2),(l.1,l.2 - 1),(l.1,l.2+1),(l.1+1,l.2)]
noncomputable def wG (r c:Int) (l:Int × Int):List (Int × Int):=(aH6 l).filter (wF r c)
theorem fX:∀ {l m:List Int},l.Nodup->(∀ x ∈ l,x ∈ m)->l.length<=m.length
 | [],_,_,_=>aX6 _
 | a :: r,m,nd,h=>by
  have hm:=h a aS8
  have:=fX (l:=r) (m:=m.erase a) (ba4.mp nd).2 fun x hx=>(List.mem_erase_of_ne (show x ≠ a from fun e=>(ba4.mp nd).1 (by rw [<- e]; exact hx))).mpr (h x (aT5 _ hx))
  rw [List.length_erase_of_mem hm] at this
  have:=List.length_pos_of_mem hm
  rw [aV8]; omega
section
variable {ls : List (Int × Int)} {n : Nat} {B : List Int}
noncomputable def ins (ls:List (Int × Int)) (S:List Int) (h:Int):Nat:=((aK ls h).filter fun x=>decide (x ∈ S)).length
noncomputable def Two (ls:List (Int × Int)) (S:List Int):Prop:=∀ h ∈ S,2<=ins ls S h
theorem aH7 {S:List Int}{h:Int} (nd:(aK ls h).Nodup) (t:2<=ins ls S h):∃ a b,a ∈ aK ls h/\b ∈ aK ls h/\a ∈ S/\b ∈ S/\a ≠ b:=by
 unfold ins at t
 have n2:=nd.filter (fun x=>decide (x ∈ S))
 have mem:∀ x ∈ (aK ls h).filter fun x=>decide (x ∈ S),x ∈ aK ls h/\x ∈ S:=fun x hx=>⟨(aU4.mp hx).1,aW8 (aU4.mp hx).2⟩
 cases e:(aK ls h).filter fun x=>decide (x ∈ S) with
 | nil=>rw [e] at t; simp at t
 | cons x r=>
  cases r with
  | nil=>rw [e] at t; simp at t
  | cons y z=>
   rw [e] at n2 mem
   have h1:=mem x aS8
   have h2:=mem y (aT5 _ aS8)
   exact⟨x,y,h1.1,h2.1,h1.2,h2.2,fun z=>(ba4.mp n2).1 (by rw [z]; exact aS8)⟩
end
section
variable {ls : List (Int × Int)} {B : List Int}
structure eI (ls:List (Int × Int)):Prop where
 lt:∀ l ∈ ls,l.1 < l.2
 ord:ls.Pairwise jE
theorem eI.nnd (f:eI ls) (h:Int):(aK ls h).Nodup:=N6 f.lt f.ord
theorem eI.irr (f:eI ls) (h:Int):h ∉ aK ls h:=fun z=>by
 rcases L2.dF.mp z with z | z <;> exact absurd (f.lt _ z) (Int.lt_irrefl _)
end
noncomputable def rS (d:Int):Int:=if d - 1 > 0 then d - 1 else 0
noncomputable def wH (ls:List (Int × Int)) (S:List Int):Prop:=∀ U,Two ls U->(∀ x ∈ U,x ∈ S)->U = []
theorem eG.fit {n:Nat}{ls:List (Int × Int)} (lk:eG n ls):eI ls:=⟨fun l hl=>(lk.1 l hl).2.1,lk.2.2⟩
noncomputable def mJ (L:List Int) (h:Int) (l:Int × Int):Bool:=decide (h ∈ [l.1,l.2]) && (decide (l.1 ∈ L) && decide (l.2 ∈ L))
theorem R8 {L:List Int}{h:Int} (hh:h ∈ L):∀ {ls:List (Int × Int)},(∀ l ∈ ls,l.1 ≠ l.2)->(ls.filter (mJ L h)).length=ins ls L h
 | [],_=>rfl
 | l :: r,ne=>by
  have ih:=R8 hh (ls:=r) fun m hm=>ne m (aT5 _ hm)
  have e:aK (l :: r) h=((if l.1=h then [l.2] else []) ++ (if l.2=h then [l.1] else [])) ++ aK r h:=rfl
  have n0:=ne l aS8
  unfold ins at ih ⊢
  rw [e,List.filter_append,aU6,<- ih]
  by_cases a:l.1=h
  ·have b : ¬ l.2=h:=fun z=>n0 (a.trans z.symm)
   have a1:l.1 ∈ L:=by rw [a]; exact hh
   have a2:h ∈ [l.1,l.2]:=by rw [a]; exact aS8
   rw [if_pos a,if_neg b,ba3]
   by_cases c:l.2 ∈ L
   ·rw [bc7 (by unfold mJ; rw [aT1 a2,aT1 a1,aT1 c]; rfl),bc7 (by simpa using c),aV8]
    show _=1+_
    omega
   ·rw [ba9 (by unfold mJ; rw [aT8 c,Bool.and_false,Bool.and_false]; decide),ba9 (by simpa using c)]
    show _=0+_
    omega
  ·by_cases b:l.2=h
   ·have a1:l.2 ∈ L:=by rw [b]; exact hh
    have a2:h ∈ [l.1,l.2]:=by rw [b]; exact aT5 _ aS8
    rw [if_neg a,if_pos b,List.nil_append]
    by_cases c:l.1 ∈ L
    ·rw [bc7 (by unfold mJ; rw [aT1 a2,aT1 a1,aT1 c]; rfl),bc7 (by simpa using c),aV8]
     show _=1+_
     omega
    ·rw [ba9 (by unfold mJ; rw [aT8 c,Bool.false_and,Bool.and_false]; decide),ba9 (by simpa using c)]
     show _=0+_
     omega
   ·have a2:h ∉ [l.1,l.2]:=fun z=>by
     simp only [aU0,aW6,bd0] at z
     rcases z with z | z
     ·exact a z.symm
     ·exact b z.symm
    rw [if_neg a,if_neg b,ba9 (by unfold mJ; rw [aT8 a2,Bool.false_and]; decide)]
    show _=0+_
    omega
noncomputable def keep2 (ls:List (Int × Int)) (L:List Int):List Int:=L.filter fun h=>decide (2<=ins ls L h)
end Core
namespace L2
open PySem PySem.Spec PyProof.Rows SO
noncomputable abbrev kk (l:Int × Int):List aG:=[Sum.inl l.1,Sum.inl l.2]
end L2
namespace Core
open PySem L2 PP
inductive oR (r c:Int) (S:List (Int × Int)):Int × Int->Prop
 | seed {x:Int × Int}:x ∈ S->oR r c S x
 | kin {x a b:Int × Int}:wF r c x=true->a ∈ wG r c x->b ∈ wG r c x->a ≠ b->oR r c S a->oR r c S b->oR r c S x
noncomputable def nbC (r c:Int) (P:List (Int × Int)) (x:Int × Int):Nat:=(P.filter fun p=>decide (x ∈ wG r c p)).length
structure Wk (r c:Int) (S K P:List (Int × Int)):Prop where
 nd:K.Nodup
 ndP:P.Nodup
 sub:∀ x ∈ P,x ∈ K
 brn:∀ x ∈ K,oR r c S x
 sd:∀ x ∈ S,x ∈ K
 bd:∀ x ∈ K,wF r c x=true
 low:∀ x,x ∉ K->nbC r c P x < 2
end Core
namespace L2
open PySem PySem.Spec PyProof.Rows SO
noncomputable abbrev kn (ns:List Int):List aG:=ns.map Sum.inl
end L2
namespace Core
open PySem L2 PP
structure Bx where
 t:Int
 l:Int
 b:Int
 r:Int
deriving DecidableEq
noncomputable def Bx.k (x:Bx):List Int:=[x.t,x.l,x.b,x.r]
noncomputable def okX (x:Bx):Prop:=x.t<=x.b/\x.l<=x.r
noncomputable def R9 (x:Bx) (p:Int × Int):Prop:=x.t<=p.1/\p.1<=x.b/\x.l<=p.2/\p.2<=x.r
noncomputable def S0 (x a:Int × Int):Prop:=(a.1=x.1/\(a.2=x.2 - 1 ∨ a.2=x.2+1)) ∨ (a.2=x.2/\(a.1=x.1 - 1 ∨ a.1=x.1+1))
noncomputable def Clo (B:Bx) (U:Int × Int->Prop):Prop:=∀ x a b,R9 B x->S0 x a->S0 x b->a ≠ b->U a->U b->U x
section
variable {B : Bx} {U : Int × Int → Prop}
variable {t l b r : Int}
section
variable (cl : Clo B U) {p1 p2 : Int} (u : U (p1, p2)) (ip : R9 B (p1, p2))
include cl u ip
end
end
noncomputable abbrev bxP (x:Bx):PV:=.tup (intz x.k)
theorem wI {i j:Nat}{a b:Int}{g:Bool}{ρ:bG}{Q:bG->Prop} (q:Q ((ρ.set i (si a)).set j (si b))):fQ i j (.tup [.int a,.int b]) g ρ Q:=by
 refine⟨_,_,rfl,?_⟩
 rw [show flat (.int a)=true from rfl,show flat (.int b)=true from rfl,Bool.or_true]
 exact q
section
variable {ns : List Int} {a r c z t l : Int} {Q : PV → Prop} (q : ∀ x : Bx, Q (bxP x))
include q
end
end Core
namespace L2
open PySem PySem.Spec PyProof.Rows
noncomputable def aH8 (sp:Sp) (t:TA) (i:Nat):TB:=fun D Ex σ H=>t σ H fun vs H1=>sp vs H1 (fun v H2=>D.nx (σ.set i (some v)) H2) Ex
section
variable {X : Cx} {k : Nat} {f : Addr} {fd : FuncData} {ps : List Str} {sp : Sp} {x z : Str} {p cp pos zp : Pos} {e : Expr} {es : List Expr} {t : TA} {i : Nat}
theorem aH9 (F:cF X.prog X.w X.K X.mg X.base (dW X.prog X.w) k f fd ps sp) (hr:bZ k X.A) (hg:Gl X x) (hm:X.mg x=some (.ref f)) (hk:PySem.W.keepIn X.K (.ref f)=true) (hb:gU X.K fd ps []) (ha:∀ E,PA (X.wish E) (e :: es) t)
  (hN:X.N.Nodup) (hi:X.N[i]? = some z) (hz:X.env.scope.names.lookup z=some .local)
  (hdb:(x == ("__debug__" : Str))=false:=by decide) (he:starEach (e :: es) X.env=(false,eval e X.env) :: starEach es X.env:=by rfl) (hpl:(backTo cp (starEach es X.env)).any (·.1)=false:=by rfl) (hsw:swapsWith (.Call (.Name x p) (e :: es) [] cp) (some (.Name z zp)) pos.line X.env=pure false:=by rfl) :
  PB X [.Assign [.Name z zp] (.Call (.Name x p) (e :: es) [] cp) pos] (aH8 sp t i):=by
 intro pins s σ H D Ex I h
 refine wpAny_execs_cons (wpAny_Assign_Name ?_ hsw)
 refine wpAny_Call_Name_kw (oX I hg hm ?_ hdb)
 refine PySem.W.callWith_K (h₀:=X.base) I.ok.mod.kin hk (aO (ha (XB X pins σ Ex) cp pins s σ H _ (I.wish _) h) fun us s1 h1=>⟨?_,?_⟩) he hpl
 ·obtain ⟨_,_,I1,_⟩:=h1
  exact I1.kIn
 ·obtain ⟨vs,H1,I1,r,q⟩:=h1
  have I1:=I1.unwish
  have hl:us.length=ps.length:=by rw [<- r.length]; exact F.len _ _ _ _ q
  have bd:=hb s1 us I1.kIn (by rw [ba3]; exact hl)
  rw [ba3] at bd
  refine wpAny_call (codeAny_mono (F.run X.A X.stack s1 H1 ⟨us,[]⟩ us vs _ Ex hr I1.env0 bd r q) fun rs s' hq=>?_)
  cases rs with
  | error ev=>exact⟨H1,s1,I1,hq⟩
  | ok fl=>
   cases fl with
   | ret u=>
    obtain ⟨v,H2,I2,rv,q2⟩:=I1.after hq
    exact sG I2 hN hi (.inl hz) rv (fun s3 I3=>wpAny_execs_nil ⟨_,H2,I3,q2⟩) (.inr hz)
   | next=>exact False.elim hq
   | brk=>exact False.elim hq
   | cont=>exact False.elim hq
end
end L2
namespace PP
open PySem L2
section
variable {X : Cx} {e : Expr} {es : List Expr} {tr : cQ} {p2 cp pos zp : Pos}
noncomputable def S2 (i:Nat) (p:fD) (t:cQ):mF:=fun D Ep ρ=>t ρ fun xs=>p Ep (xs.map (·.1)) fun z=>D.nx (ρ.set i (some (.sh true z)))
theorem aI0 (i:Nat) {k j:Nat}{x z:Str}{ps:List Str}{p:fD} (d:eF X.prog X.w X.K X.mg X.base k x ps p) (hr:bZ j X.A) (hN:X.N.Nodup) (ha:∀ E,QA (X.wish E) (e :: es) tr) (hkj:k<=j:=by decide) (hg:Gl X x:=by rfl) (hi:X.N[i]? = some z:=by rfl) (hz:X.env.scope.names.lookup z=some .local:=by rfl) (hdb:(x == ("__debug__" : Str))=false:=by decide)
  (he:starEach (e :: es) X.env=(false,eval e X.env) :: starEach es X.env:=by rfl) (hpl:(backTo cp (starEach es X.env)).any (·.1)=false:=by rfl) (hsw:swapsWith (.Call (.Name x p2) (e :: es) [] cp) (some (.Name z zp)) pos.line X.env=pure false:=by rfl):QB X [.Assign [.Name z zp] (.Call (.Name x p2) (e :: es) [] cp) pos] (S2 i p tr):=by
 obtain ⟨f,fd,F,b,kp,m⟩:=d.ex
 refine pbI (aH9 (t:=LA X tr) F (hr.mono hkj) hg m kp b (fun E=>ha E) hN hi hz hdb he hpl hsw) fun D Ex σ H h=>?_
 obtain ⟨W,ρ,D',Ep,px,q,k,ke⟩:=h
 refine⟨W,ρ,_,px,q,fun vs H1 xs s1 r q1=>⟨_,_,Ep,r.any,q1,fun v H' x s2 r2 q2=>?_,fun n C H' s2 z1 z2=>ke n C H' (s1.trans s2) z1 z2⟩⟩
 have s3:=s1.trans s2
 exact k.nx W _ H' _ (Ev.same s3) ((px.mono s3).setSh (g:=true) (r2.same (aC.refl _) fun a za=>px.new (s1.free za))) q2
end
end PP
namespace Core
open PySem L2 PP
theorem S3 {α:Type} (p q:α->Bool):∀ l:List α,(l.filter p).length=(l.filter fun x=>p x && !q x).length+(l.filter fun x=>q x && p x).length
 | []=>rfl
 | a :: r=>by
  have ih:=S3 p q r
  rw [bb2,bb2,bb2]
  cases p a <;> cases q a <;> simp <;> omega
section
variable {ls : List (Int × Int)} {n : Nat} {U : List Int} {v : Int}
theorem aI1 (hv:v ∈ U) (ne:∀ l ∈ ls,l.1 ≠ l.2):(ls.filter (fH U)).length=(ls.filter (fH (dM U v))).length+ins ls U v:=by
 rw [<- R8 hv ne,S3 (fH U) (fun l=>decide (v ∈ [l.1,l.2])) ls]
 congr 2
 refine List.filter_congr fun l _=>?_
 unfold fH
 rw [ba2]
 simp only [aX1,Bool.not_eq_true',bb7,decide_eq_false_iff_not,l9,aU0,aW6,bd0,not_or]
 constructor
 ·rintro ⟨⟨a,b⟩,c,d⟩; exact⟨⟨a,fun z=>c z.symm⟩,b,fun z=>d z.symm⟩
 ·rintro ⟨⟨a,c⟩,b,d⟩; exact⟨⟨a,b⟩,fun z=>c z.symm,fun z=>d z.symm⟩
theorem S4 {h:Int} (x:Int) (hx:x ∈ comp ls (dM U v) h):x ∈ comp ls U h:=by
 obtain ⟨h1,h2⟩:=fE.mp hx
 exact fE.mpr ⟨(l9.mp h1).1,fun W hW hh=>h2 W (fun a ha b hb bS=>hW a ha b hb (l9.mp bS).1) hh⟩
theorem eJ {S:List Int}{h:Int}:h ∈ aY ls S ↔ h ∈ S/\(comp ls S h).head? = some h:=by
 unfold aY oO
 rw [aU4]
 exact⟨fun z=>⟨z.1,@aW8 _ _ z.2⟩,fun z=>⟨z.1,@aT1 _ _ z.2⟩⟩
theorem wJ (hU:b7 n U=true) {h:Int} (hh:h ∈ aY ls U) (ne:h ≠ v):h ∈ aY ls (dM U v):=by
 obtain ⟨h1,h2⟩:=eJ.mp hh
 have hb:h ∈ dM U v:=l9.mpr ⟨h1,ne⟩
 refine eJ.mpr ⟨hb,w5 (fW (rQ hU)) (fF hb) fun x hx=>?_⟩
 have:=(iK (fW hU) h2).2 x (S4 x hx)
 omega
theorem wK (hU:b7 n U=true):(aY ls U).Nodup:=by
 have:U.Nodup:=(fU (dX hU).1).imp fun h=>bd2 h
 exact this.filter _
theorem aI2 (f:eI ls) (hU:b7 n U=true) (hv:v ∈ U):(aY ls U).length<=(aY ls (dM U v)).length+(if ins ls U v=0 then 1 else 0):=by
 have nd:=wK (ls:=ls) hU
 by_cases hh:v ∈ aY ls U
 ·by_cases i0:ins ls U v=0
  ·rw [if_pos i0]
   have:=fX nd (m:=v :: aY ls (dM U v)) fun x hx=>by
    by_cases e:x=v
    ·rw [e]; exact aS8
    ·exact aT5 _ (wJ hU hx e)
   rw [aV8] at this
   exact this
  ·rw [if_neg i0]
   obtain ⟨w,hw⟩:∃ w,w ∈ (aK ls v).filter fun x=>decide (x ∈ U):=by
    cases e:(aK ls v).filter fun x=>decide (x ∈ U) with
    | nil=>exact absurd (show ins ls U v=0 by unfold ins; rw [e]; rfl) i0
    | cons a r=>exact⟨a,aS8⟩
   obtain ⟨w1,w2⟩:=aU4.mp hw
   have w2:w ∈ U:=aW8 w2
   have wv:w ≠ v:=fun e=>f.irr v (e ▸ w1)
   have wb:w ∈ dM U v:=l9.mpr ⟨w2,wv⟩
   have cs:=fW (ls:=ls) (h:=w) (rQ (h:=v) hU)
   obtain ⟨a,ha⟩:∃ a,(comp ls (dM U v) w).head? = some a:=by
    cases e:comp ls (dM U v) w with
    | nil=>have:=fF (ls:=ls) wb; rw [e] at this; cases this
    | cons a r=>exact⟨a,rfl⟩
   have am:=(iK cs ha).1
   have ab:=mH a am
   have ahd:a ∈ aY ls (dM U v):=eJ.mpr ⟨ab,by rw [iJ (rQ hU) am wb]; exact ha⟩
   have wc:w ∈ comp ls U v:=i6 v (fF hv) w w1 w2
   have ac:a ∈ comp ls U v:=by rw [<- iJ hU wc hv]; exact S4 a am
   have an:a ∉ aY ls U:=fun z=>by
    have h1:=(eJ.mp z).2
    rw [iJ hU ac hv,(eJ.mp hh).2] at h1
    exact (l9.mp ab).2 (aV2 h1).symm
   have nd2:(a :: (aY ls U).erase v).Nodup:=ba4.mpr ⟨fun z=>an (List.mem_of_mem_erase z),nd.erase v⟩
   have:=fX nd2 (m:=aY ls (dM U v)) fun x hx=>by
    rcases aU0.mp hx with rfl | hx
    ·exact ahd
    ·have h2:=(nd.mem_erase_iff).mp hx
     exact wJ hU h2.2 h2.1
   rw [aV8,List.length_erase_of_mem hh] at this
   have:=List.length_pos_of_mem hh
   omega
 ·have:=fX nd (m:=aY ls (dM U v)) fun x hx=>wJ hU hx fun e=>hh (e ▸ hx)
  omega
noncomputable def mu (ls:List (Int × Int)) (U:List Int):Int:=((ls.filter (fH U)).length:Int) - (U.length:Int)+((aY ls U).length:Int)
theorem S5 (nd:U.Nodup) (hv:v ∈ U):(dM U v).length+1=U.length:=by
 have e:dM U v=U.erase v:=by
  unfold dM
  rw [nd.erase_eq_filter]
  refine List.filter_congr fun x _=>?_
  by_cases h:x=v <;> simp [h]
 rw [e,List.length_erase_of_mem hv]
 have:=List.length_pos_of_mem hv
 omega
theorem aI3 (f:eI ls) (hU:b7 n U=true) (hv:v ∈ U):mu ls U<=mu ls (dM U v)+rS (ins ls U v:Int):=by
 have a:=aI1 hv (fun l hl=>bd2 (f.lt l hl))
 have b:=aI2 f hU hv
 have c:=S5 ((fU (dX hU).1).imp fun h=>bd2 h) hv
 unfold mu rS
 by_cases i0:ins ls U v=0
 ·rw [if_pos i0] at b
  rw [if_neg (by omega)]; omega
 ·rw [if_neg i0] at b
  by_cases i1:(ins ls U v:Int) - 1 > 0
  ·rw [if_pos i1]; omega
  ·rw [if_neg i1]; omega
theorem wL (f:eI ls):∀ (k:Nat) (T:List Int),T.length<=k->b7 n T=true->wH ls T->mu ls T<=0
 | 0,T,hl,_,_=>by
  have:T = []:=List.length_eq_zero_iff.mp (by omega)
  subst this
  have:ls.filter (fH []) = []:=List.filter_eq_nil_iff.mpr fun l _=>by simp [fH]
  unfold mu
  rw [this]
  show (0:Int) - 0+((([]:List Int).filter _).length:Int)<=0
  simp
 | k+1,T,hl,hT,no=>by
  by_cases e:T = []
  ·exact wL f k T (by rw [e]; simp) hT no
  ·obtain ⟨v,hv,hi⟩:∃ v,v ∈ T/\ins ls T v < 2:=aY0 fun z=>e (no T (fun h hh=>bd6 fun q=>z ⟨h,hh,q⟩) fun _ h=>h)
   have nd:T.Nodup:=(fU (dX hT).1).imp fun h=>bd2 h
   have bl:=S5 nd hv
   have ih:=wL f k (dM T v) (by omega) (rQ hT) fun U hU sub=>no U hU fun x hx=>(l9.mp (sub x hx)).1
   have st:=aI3 f hT hv
   have:rS (ins ls T v:Int)=0:=by unfold rS; rw [if_neg (by omega)]
   omega
end
noncomputable def mK:bH:=fun xs Q=>∃ ws ls,xs = [bE ws ls]/\Wb ws ls/\Q (.lst (tups (i7 ls (rng ws.length))))
noncomputable def S6:aN:=(bP (aB (rJ fun _=>False) (a7 (a5 0) (a7 (aB rE (a7 (a5 0) (a7 (hJ a9) a9))) a9))))
theorem aI4:cA S6 ["web"] mK:=by
 rintro xs Q ⟨ws,ls,rfl,wb,q⟩
 have few:=wb.few
 have e:vO ws.length []=rng ws.length:=List.filter_eq_self.mpr fun x _=>by simp
 have rs:=R3 ws.length
 refine⟨_,rfl,_,rfl,by show 0<=1000; decide,rfl,ws,ls,_,[],rfl,.inl rfl,by decide,by omega,ws,ls,_,vO ws.length [],rfl,wb,.inl rfl,?_,fun _=>⟨trivial,?_⟩,fun z=>?_⟩
 ·rw [e,dL]; omega
 ·rw [e]; exact q
 ·rw [e,rs] at z; cases z
noncomputable abbrev wM:=List (Int × List Int)
noncomputable def mL (D:wM):List Int:=D.map (·.1)
noncomputable def S7 (n:Nat) (ls:List (Int × Int)) (h:Int):Prop:=∀ x ∈ comp ls (rng n) h,h<=x
structure aI5 (n:Nat) (ls:List (Int × Int)) (D:wM):Prop where
 nd:(mL D).Nodup
 inn:∀ h ∈ mL D,h ∈ rng n
 up:∀ h w,(h,w) ∈ D->(w = [h]/\S7 n ls h) ∨ ∃ g u,(g,u) ∈ D/\w=u ++ [h]/\h ∈ aK ls g
section
variable {n : Nat} {ls : List (Int × Int)} {D : wM}
theorem root_of (t:aI5 n ls D) (cl:dZ ls (rng n) (mL D)) {i:Nat} (hi:i < n) (lo:∀ k:Nat,k < i->(k:Int) ∈ mL D) (hn:(i:Int) ∉ mL D):S7 n ls (i:Int):=fun x hx=>by
 have xr:=mH x hx
 have b:=cJ.mp xr
 refine aY0 fun lt=>hn ?_
 have xk:x ∈ mL D:=by
  have:=lo x.toNat (by omega)
  rwa [show ((x.toNat:Nat):Int)=x by omega] at this
 have im:(i:Int) ∈ rng n:=cJ.mpr ⟨by omega,by omega⟩
 have back:(i:Int) ∈ comp ls (rng n) x:=by rw [iJ (R3 n) hx im]; exact fF im
 exact (fE.mp back).2 _ cl xk
end
section
variable {ls : List (Int × Int)} {l : Int × Int} {n : Nat} {S U : List Int} {h x y : Int}
theorem wN:y ∈ aK (l :: ls) x ↔ y ∈ aK ls x ∨ l=(x,y) ∨ l=(y,x):=by
 rw [L2.dF,L2.dF,aU0,aU0]
 constructor
 ·rintro ((e | e) | (e | e))
  ·exact .inr (.inl e.symm)
  ·exact .inl (.inl e)
  ·exact .inr (.inr e.symm)
  ·exact .inl (.inr e)
 ·rintro ((e | e) | (e | e))
  ·exact .inl (.inr e)
  ·exact .inr (.inr e)
  ·exact .inl (.inl e.symm)
  ·exact .inr (.inl e.symm)
theorem rT (hS:b7 n S=true) (hh:h ∈ S) (hU:dZ ls S U) (hu:h ∈ U) (le:∀ x ∈ U,x ∈ S->h<=x):h ∈ aY ls S:=
 eJ.mpr ⟨hh,w5 (fW hS) (fF hh) fun x hx=>le x ((fE.mp hx).2 U hU hu) (mH x hx)⟩
theorem wO (hS:b7 n S=true) (hh:h ∈ aY ls S) (no:h ∉ aY (l :: ls) S):fH S l=true/\(l.1 ∈ comp ls S h ∨ l.2 ∈ comp ls S h):=by
 obtain ⟨h1,h2⟩:=eJ.mp hh
 have le:=(iK (fW hS) h2).2
 refine aY0 fun hn=>no (rT hS h1 (U:=comp ls S h) (fun x hx y hy yS=>?_) (fF h1) fun x hx _=>by have:=le x hx; omega)
 rcases wN.mp hy with e | e | e
 ·exact i6 x hx y e yS
 ·refine absurd ⟨?_,.inl (by rw [e]; exact hx)⟩ hn
  unfold fH; rw [e,aX1]; exact⟨aT1 (mH x hx),aT1 yS⟩
 ·refine absurd ⟨?_,.inr (by rw [e]; exact hx)⟩ hn
  unfold fH; rw [e,aX1]; exact⟨aT1 yS,aT1 (mH x hx)⟩
theorem wP (hS:b7 n S=true) {a b z:Int} (ha:a ∈ aY ls S) (hb:b ∈ aY ls S) (za:z ∈ comp ls S a) (zb:z ∈ comp ls S b):a=b:=by
 obtain ⟨a1,a2⟩:=eJ.mp ha
 obtain ⟨b1,b2⟩:=eJ.mp hb
 rw [<- iJ hS za a1] at a2
 rw [<- iJ hS zb b1,a2] at b2
 exact aV2 b2
theorem S8 (hS:b7 n S=true) {a b:Int} (ha:a ∈ aY ls S) (hb:b ∈ aY ls S) (la:l.1 ∈ comp ls S a) (lb:l.2 ∈ comp ls S b) (lt:a<=b):a ∈ aY (l :: ls) S:=by
 obtain ⟨a1,a2⟩:=eJ.mp ha
 obtain ⟨b1,b2⟩:=eJ.mp hb
 have lea:=(iK (fW hS) a2).2
 have leb:=(iK (fW hS) b2).2
 refine rT hS a1 (U:=comp ls S a ++ comp ls S b) (fun x hx y hy yS=>?_) (aT9.mpr (.inl (fF a1))) fun x hx _=>?_
 ·rcases wN.mp hy with e | e | e
  ·rcases aT9.mp hx with z | z
   ·exact aT9.mpr (.inl (i6 x z y e yS))
   ·exact aT9.mpr (.inr (i6 x z y e yS))
  ·rw [e] at lb; exact aT9.mpr (.inr lb)
  ·rw [e] at la; exact aT9.mpr (.inl la)
 ·rcases aT9.mp hx with z | z
  ·have:=lea x z; omega
  ·have:=leb x z; omega
theorem S9 (hS:b7 n S=true) {a b:Int} (ha:a ∈ aY ls S) (hb:b ∈ aY ls S) (la:l.1 ∈ comp ls S a) (lb:l.2 ∈ comp ls S b) (lt:b<=a):b ∈ aY (l :: ls) S:=by
 obtain ⟨a1,a2⟩:=eJ.mp ha
 obtain ⟨b1,b2⟩:=eJ.mp hb
 have lea:=(iK (fW hS) a2).2
 have leb:=(iK (fW hS) b2).2
 refine rT hS b1 (U:=comp ls S a ++ comp ls S b) (fun x hx y hy yS=>?_) (aT9.mpr (.inr (fF b1))) fun x hx _=>?_
 ·rcases wN.mp hy with e | e | e
  ·rcases aT9.mp hx with z | z
   ·exact aT9.mpr (.inl (i6 x z y e yS))
   ·exact aT9.mpr (.inr (i6 x z y e yS))
  ·rw [e] at lb; exact aT9.mpr (.inr lb)
  ·rw [e] at la; exact aT9.mpr (.inl la)
 ·rcases aT9.mp hx with z | z
  ·have:=lea x z; omega
  ·have:=leb x z; omega
theorem aI6 (hS:b7 n S=true) {a b:Int} (ha:a ∈ aY ls S) (na:a ∉ aY (l :: ls) S) (hb:b ∈ aY ls S) (nb:b ∉ aY (l :: ls) S):a=b:=by
 rcases (wO hS ha na).2 with la | la <;> rcases (wO hS hb nb).2 with lb | lb
 ·exact wP hS ha hb la lb
 ·rcases Int.le_total a b with z | z
  ·exact absurd (S8 hS ha hb la lb z) na
  ·exact absurd (S9 hS ha hb la lb z) nb
 ·rcases Int.le_total a b with z | z
  ·exact absurd (S9 hS hb ha lb la z) na
  ·exact absurd (S8 hS hb ha lb la z) nb
 ·exact wP hS ha hb la lb
theorem aI7 (hS:b7 n S=true):(aY ls S).length<=(aY (l :: ls) S).length+(if fH S l=true then 1 else 0):=by
 have nd:=wK (ls:=ls) hS
 by_cases ex:∃ a,a ∈ aY ls S/\a ∉ aY (l :: ls) S
 ·obtain ⟨a,ha,na⟩:=ex
  rw [if_pos (wO hS ha na).1]
  have:=fX nd (m:=a :: aY (l :: ls) S) fun x hx=>by
   by_cases nx:x ∈ aY (l :: ls) S
   ·exact aT5 _ nx
   ·rw [aI6 hS hx nx ha na]; exact aS8
  rwa [aV8] at this
 ·have:=fX nd (m:=aY (l :: ls) S) fun x hx=>aY0 fun z=>ex ⟨x,hx,z⟩
  omega
theorem wQ (hS:b7 n S=true):S.Nodup:=(fU (dX hS).1).imp fun h=>bd2 h
theorem wR (hS:b7 n S=true):∀ ls:List (Int × Int),S.length<=(aY ls S).length+(ls.filter (fH S)).length
 | []=>by
  refine aX5 (fX (wQ hS) (m:=aY [] S) fun x hx=>rT hS hx (U:=[x]) (fun a _ b hb _=>?_) aS8 fun y hy _=>?_) (ba5 _ _)
  ·rcases L2.dF.mp hb with e | e <;> cases e
  ·rw [aT0.mp hy]; exact bc6 _
 | l :: ls=>by
  have ih:=wR hS ls
  have:=aI7 (ls:=ls) (l:=l) hS
  rw [bb2]
  split <;> rename_i e
  ·rw [if_pos e] at this; rw [aV8]; omega
  ·rw [if_neg e] at this; omega
noncomputable def fI (ls:List (Int × Int)) (l:Int × Int):List (Int × Int):=ls.filter fun m=>!decide (m=l)
theorem mM {m:Int × Int}:m ∈ fI ls l ↔ m ∈ ls/\m ≠ l:=by
 unfold fI; rw [aU4,Bool.not_eq_true',decide_eq_false_iff_not]
theorem T0:∀ {ls:List (Int × Int)},l ∈ ls->ls.Nodup->(fI ls l).length+1<=ls.length
 | m :: r,hl,nd=>by
  unfold fI
  rw [bb2]
  rcases aU0.mp hl with e | e
  ·subst e
   rw [aT1 rfl]
   have:=aX9 (fun m=>!decide (m=l)) r
   simp only [aV8,Bool.not_true,aV7,aZ7]
   omega
  ·have ih:=T0 e (ba4.mp nd).2
   unfold fI at ih
   split
   ·rw [aV8,aV8]; omega
   ·rw [aV8]; omega
theorem aI8 (t:l.1 ∈ U ↔ l.2 ∈ U) (c:dZ (fI ls l) S U):dZ ls S U:=fun x hx y hy yS=>by
 by_cases e:l=(x,y)
 ·rw [e] at t; exact t.mp hx
 ·by_cases e2:l=(y,x)
  ·rw [e2] at t; exact t.mpr hx
  ·refine c x hx y ?_ yS
   rcases L2.dF.mp hy with z | z
   ·exact L2.dF.mpr (.inl (mM.mpr ⟨z,fun q=>e q.symm⟩))
   ·exact L2.dF.mpr (.inr (mM.mpr ⟨z,fun q=>e2 q.symm⟩))
theorem wS (c:dZ ls S U):dZ (fI ls l) S U:=fun x hx y hy yS=>by
 refine c x hx y ?_ yS
 rcases L2.dF.mp hy with z | z
 ·exact L2.dF.mpr (.inl (mM.mp z).1)
 ·exact L2.dF.mpr (.inr (mM.mp z).1)
theorem aI9 (t:∀ U,dZ (fI ls l) S U->(l.1 ∈ U ↔ l.2 ∈ U)):aY (fI ls l) S=aY ls S:=by
 have e:∀ h,comp (fI ls l) S h=comp ls S h:=fun h=>by
  refine List.filter_congr fun x _=>?_
  rw [ba2]
  constructor
  ·intro z; exact @aT1 _ (Classical.propDecidable _) fun U hU hh=>(@aW8 _ (Classical.propDecidable _) z) U (wS hU) hh
  ·intro z; exact @aT1 _ (Classical.propDecidable _) fun U hU hh=>(@aW8 _ (Classical.propDecidable _) z) U (aI8 (t U hU) hU) hh
 unfold aY oO
 refine List.filter_congr fun x _=>?_
 rw [e]
noncomputable def e7 (n:Nat) (ls:List (Int × Int)):Prop:=ls.length+(aY ls (rng n)).length=n
theorem jH (n:Nat):b7 n (rng n)=true:=by
 have:=aB9 n fun _=>true
 rwa [List.filter_eq_self.mpr fun _ _=>rfl] at this
theorem aJ0 (w:e7 n ls) (nd:ls.Nodup) (hl:l ∈ ls) : ¬ ∀ U,dZ (fI ls l) (rng n) U->(l.1 ∈ U ↔ l.2 ∈ U):=fun t=>by
 have h1:=wR (jH n) (fI ls l)
 rw [aI9 t,dL] at h1
 have h2:=aX9 (fH (rng n)) (fI ls l)
 have h3:=T0 hl nd
 unfold e7 at w
 omega
end
noncomputable abbrev bX:=List (Int × Option Int)
noncomputable def aT (ls:List (Int × Int)) (h:Int) (e:Option Int):List Int:=(aK ls h).filter fun x=>!decide (some x=e)
theorem gQ {ls:List (Int × Int)}{h x:Int}{e:Option Int}:x ∈ aT ls h e ↔ x ∈ aK ls h/\some x ≠ e:=by
 unfold aT; rw [aU4,Bool.not_eq_true',decide_eq_false_iff_not]
structure fJ (n:Nat) (ls:List (Int × Int)) (P:bX) (t:Nat):Prop where
 nd:(P.map (·.1)).Nodup
 inn:∀ p ∈ P,p.1 ∈ rng n
 par:∀ (i:Nat) (h e:Int),P[i]? = some (h,some e)->∃ (j:Nat) (q:Option Int),j < i/\j < t/\P[j]? = some (e,q)/\e ∈ aK ls h
 done:∀ (i:Nat) (h:Int) (e:Option Int),i < t->P[i]? = some (h,e)->∀ x ∈ aK ls h,e=some x ∨ (x,some h) ∈ P
 root:∀ h,(h,none) ∈ P ↔ h ∈ aY ls (rng n)
structure Rt (n:Nat) (ls:List (Int × Int)) (P:bX):Prop where
 nd:(P.map (·.1)).Nodup
 mem:∀ h,h ∈ P.map (·.1) ↔ h ∈ rng n
 par:∀ (i:Nat) (h e:Int),P[i]? = some (h,some e)->∃ (j:Nat) (q:Option Int),j < i/\P[j]? = some (e,q)/\e ∈ aK ls h
 done:∀ h e,(h,e) ∈ P->∀ x ∈ aK ls h,e=some x ∨ (x,some h) ∈ P
 root:∀ h,(h,none) ∈ P ↔ h ∈ aY ls (rng n)
theorem jI {P:bX} (nd:(P.map (·.1)).Nodup) {i j:Nat}{h:Int}{e e':Option Int} (hi:P[i]? = some (h,e)) (hj:P[j]? = some (h,e')):i=j/\e=e':=by
 have h1:(P.map (·.1))[i]? = some h:=by rw [aT7,hi]; rfl
 have h2:(P.map (·.1))[j]? = some h:=by rw [aT7,hj]; rfl
 have hl:i < (P.map (·.1)).length:=(aT3.mp h1).1
 have e0:i=j:=(List.getElem?_inj hl nd).mp (h1.trans h2.symm)
 subst e0
 rw [hi] at hj
 exact⟨rfl,by cases hj; rfl⟩
theorem gE {P:bX}{p:Int × Option Int} (h:p ∈ P):∃ i:Nat,P[i]? = some p:=bg2.mp h
theorem oS {P:bX} (nd:(P.map (·.1)).Nodup) {h:Int}{e e':Option Int} (hi:(h,e) ∈ P) (hj:(h,e') ∈ P):e=e':=by
 obtain ⟨i,hi⟩:=gE hi
 obtain ⟨j,hj⟩:=gE hj
 exact (jI nd hi hj).2
section
variable {n : Nat} {ls : List (Int × Int)} {P : bX} {t : Nat}
theorem fJ.root_of (B:fJ n ls P t) {l:Int × Int} (lm:∀ (i:Nat) (h e:Int),P[i]? = some (h,some e)->l ≠ (h,e)/\l ≠ (e,h)):∀ (i:Nat) (x:Int) (q:Option Int),P[i]? = some (x,q)->∃ r,r ∈ aY ls (rng n)/\∀ U,dZ (fI ls l) (rng n) U->(x ∈ U ↔ r ∈ U):=by
 intro i
 induction i using Nat.strongRecOn with
 | ind i ih=>
  intro x q hi
  cases q with
  | none=>exact⟨x,(B.root x).mp (aT4 hi),fun _ _=>Iff.rfl⟩
  | some e=>
   obtain ⟨j,q,ji,_,hj,ee⟩:=B.par i x e hi
   obtain ⟨r,hr,hu⟩:=ih j ji e q hj
   obtain ⟨l1,l2⟩:=lm i x e hi
   have en:e ∈ aK (fI ls l) x:=by
    rcases L2.dF.mp ee with z | z
    ·exact L2.dF.mpr (.inl (mM.mpr ⟨z,fun q=>l1 q.symm⟩))
    ·exact L2.dF.mpr (.inr (mM.mpr ⟨z,fun q=>l2 q.symm⟩))
   refine⟨r,hr,fun U hU=>(Iff.intro (fun z=>hU x z e en (B.inn _ (aT4 hj))) fun z=>hU e z x (lP en) (B.inn _ (aT4 hi))).trans (hu U hU)⟩
theorem fJ.fresh (B:fJ n ls P t) (w:e7 n ls) (f:eI ls) {h:Int}{e:Option Int} (ht:P[t]? = some (h,e)) {c:Int} (hc:c ∈ aT ls h e):c ∉ P.map (·.1):=by
 intro hin
 obtain ⟨cn,ce⟩:=gQ.mp hc
 obtain ⟨⟨c',q⟩,hm,rfl⟩:=aU8.mp hin
 obtain ⟨i,hi⟩:=gE hm
 have hc':h ∈ aK ls c':=lP cn
 have no1:∀ (i:Nat) (g:Int),P[i]? = some (g,some c')->g ≠ h:=fun i g hg z=>by
  subst z
  exact ce (jI B.nd hg ht).2
 have no2:∀ (i:Nat) (g:Int),P[i]? = some (g,some h)->g ≠ c':=fun i g hg z=>by
  obtain ⟨j,q,_,jt,hj,_⟩:=B.par i g h hg
  have:=(jI B.nd hj ht).1
  omega
 obtain ⟨l,hl,hlc⟩:∃ l,l ∈ ls/\(l=(h,c') ∨ l=(c',h)):=by
  rcases L2.dF.mp cn with z | z
  ·exact⟨_,z,.inl rfl⟩
  ·exact⟨_,z,.inr rfl⟩
 have lm:∀ (i:Nat) (g e:Int),P[i]? = some (g,some e)->l ≠ (g,e)/\l ≠ (e,g):=fun i g e hg=>by
  constructor <;> intro z <;> rcases hlc with y | y <;> rw [z] at y <;> cases y
  ·exact no1 i _ hg rfl
  ·exact no2 i _ hg rfl
  ·exact no2 i _ hg rfl
  ·exact no1 i _ hg rfl
 obtain ⟨r1,hr1,u1⟩:=B.root_of lm i c' q hi
 obtain ⟨r2,hr2,u2⟩:=B.root_of lm t h e ht
 have hS:=jH n
 have hh:h ∈ rng n:=B.inn _ (aT4 ht)
 have cc:c' ∈ comp ls (rng n) h:=i6 h (fF hh) c' cn (B.inn _ hm)
 have k1:=(u1 _ (wS i6)).mp cc
 have k2:=(u2 _ (wS (i6 (ls:=ls) (S:=rng n) (h:=h)))).mp (fF hh)
 have e1:r1=r2:=by
  have c1:=iJ hS k1 hh
  have c2:=iJ hS k2 hh
  refine wP hS hr1 hr2 (z:=r1) (fF (eJ.mp hr1).1) ?_
  rw [c2]; exact k1
 refine aJ0 w (aH5 f.ord) hl fun U hU=>?_
 have:=(u1 U hU).trans ((by rw [e1]:r1 ∈ U ↔ r2 ∈ U).trans (u2 U hU).symm)
 rcases hlc with y | y <;> rw [y]
 ·exact this.symm
 ·exact this
theorem fJ.step (B:fJ n ls P t) (w:e7 n ls) (f:eI ls) (ir:∀ h x,x ∈ aK ls h->x ∈ rng n) {h:Int}{e:Option Int} (ht:P[t]? = some (h,e)):fJ n ls (P ++ (aT ls h e).map fun c=>(c,some h)) (t+1):=by
 have tl:t < P.length:=(aT3.mp ht).1
 have km:∀ p ∈ (aT ls h e).map (fun c=>(c,some h)),∃ c ∈ aT ls h e,p=(c,some h):=fun p hp=>let ⟨c,h1,h2⟩:=aU8.mp hp; ⟨c,h1,h2.symm⟩
 refine⟨?_,fun p hp=>?_,fun i g e' hi=>?_,fun i g e' it hi x hx=>?_,fun g=>?_⟩
 ·rw [aV0,aY7,bf0]
  have e0:(aT ls h e).map ((fun p:Int × Option Int=>p.1) ∘ fun c=>(c,some h))=aT ls h e:=List.map_id'' (fun _=>rfl) _
  rw [e0]
  exact⟨B.nd,(f.nnd h).filter _,fun a ha b hb z=>B.fresh w f ht hb (by rw [<- z]; exact ha)⟩
 ·rcases aT9.mp hp with z | z
  ·exact B.inn p z
  ·obtain ⟨c,hc,rfl⟩:=km p z
   exact ir h c (gQ.mp hc).1
 ·by_cases il:i < P.length
  ·rw [aY9 il] at hi
   obtain ⟨j,q,ji,jt,hj,en⟩:=B.par i g e' hi
   exact⟨j,q,ji,by omega,by rw [aY9 (by omega)]; exact hj,en⟩
  ·rw [bf6 (by omega)] at hi
   obtain ⟨c,hc,z⟩:=km _ (aT4 hi)
   cases z
   exact⟨t,e,by omega,by omega,by rw [aY9 tl]; exact ht,lP (gQ.mp hc).1⟩
 ·rw [aY9 (by omega)] at hi
  by_cases e1:i=t
  ·subst e1
   rw [ht] at hi
   cases hi
   by_cases z:some x=e
   ·exact .inl z.symm
   ·exact .inr (aT9.mpr (.inr (aU8.mpr ⟨x,gQ.mpr ⟨hx,z⟩,rfl⟩)))
  ·exact (B.done i g e' (by omega) hi x hx).imp id fun z=>aT9.mpr (.inl z)
 ·rw [<- B.root g]
  refine⟨fun z=>?_,fun z=>aT9.mpr (.inl z)⟩
  rcases aT9.mp z with z | z
  ·exact z
  ·obtain ⟨c,_,z⟩:=km _ z
   cases z
theorem fJ.start:fJ n ls ((aY ls (rng n)).map fun h=>(h,none)) 0:=by
 have hS:=jH n
 refine⟨?_,fun p hp=>?_,fun i g e hi=>?_,fun i g e it=>absurd it (by omega),fun g=>?_⟩
 ·rw [aY7,show (aY ls (rng n)).map ((fun p:Int × Option Int=>p.1) ∘ fun h=>(h,none))=aY ls (rng n) from List.map_id'' (fun _=>rfl) _]
  exact wK hS
 ·obtain ⟨h,hh,rfl⟩:=aU8.mp hp
  exact (eJ.mp hh).1
 ·obtain ⟨h,_,z⟩:=aU8.mp (aT4 hi)
  cases z
 ·refine⟨fun z=>?_,fun z=>aU8.mpr ⟨g,z,rfl⟩⟩
  obtain ⟨h,hh,z⟩:=aU8.mp z
  cases z
  exact hh
theorem fJ.len (B:fJ n ls P t):P.length<=n:=by
 have:=fX B.nd (m:=rng n) fun x hx=>by
  obtain ⟨p,hp,rfl⟩:=aU8.mp hx
  exact B.inn p hp
 rwa [aS9,dL] at this
theorem fJ.all (B:fJ n ls P P.length):Rt n ls P:=by
 have hS:=jH n
 have par:∀ (i:Nat) (h e:Int),P[i]? = some (h,some e)->∃ (j:Nat) (q:Option Int),j < i/\P[j]? = some (e,q)/\e ∈ aK ls h:=fun i h e hi=>let ⟨j,q,a,_,b,c⟩:=B.par i h e hi; ⟨j,q,a,b,c⟩
 have done:∀ (h:Int) (e:Option Int),(h,e) ∈ P->∀ x ∈ aK ls h,e=some x ∨ (x,some h) ∈ P:=fun h e hm=>by
  obtain ⟨i,hi⟩:=gE hm
  exact B.done i h e (aT3.mp hi).1 hi
 refine⟨B.nd,fun h=>⟨fun z=>?_,fun z=>?_⟩,par,done,B.root⟩
 ·obtain ⟨p,hp,rfl⟩:=aU8.mp z
  exact B.inn p hp
 ·have sh:dZ ls (rng n) (P.map (·.1)):=fun x hx y hy _=>by
   obtain ⟨⟨x',e⟩,hp,rfl⟩:=aU8.mp hx
   rcases done x' e hp y hy with z | z
   ·subst z
    obtain ⟨i,hi⟩:=gE hp
    obtain ⟨j,q,_,hj,_⟩:=par i x' y hi
    exact aU8.mpr ⟨_,aT4 hj,rfl⟩
   ·exact aU8.mpr ⟨_,z,rfl⟩
  obtain ⟨r,hr⟩:∃ r,(comp ls (rng n) h).head? = some r:=by
   cases e:comp ls (rng n) h with
   | nil=>have:=fF (ls:=ls) z; rw [e] at this; cases this
   | cons a r=>exact⟨a,rfl⟩
  have rm:=(iK (fW hS) hr).1
  have rs:=iJ hS rm z
  have hd:r ∈ aY ls (rng n):=eJ.mpr ⟨mH _ rm,by rw [rs]; exact hr⟩
  have hc:h ∈ comp ls (rng n) r:=by rw [rs]; exact fF z
  exact (fE.mp hc).2 _ sh (aU8.mpr ⟨_,(B.root r).mpr hd,rfl⟩)
end
theorem eG.inr {n:Nat}{ls:List (Int × Int)} (lk:eG n ls) (x y:Int) (hy:y ∈ aK ls x):y ∈ rng n:=by
 rcases L2.dF.mp hy with z | z
 ·have:=lk.1 _ z; exact cJ.mpr ⟨by dsimp only at this; omega,by dsimp only at this; omega⟩
 ·have:=lk.1 _ z; exact cJ.mpr ⟨by dsimp only at this; omega,by dsimp only at this; omega⟩
theorem eG.nlen {n:Nat}{ls:List (Int × Int)} (lk:eG n ls) (x:Int):(aK ls x).length<=n:=by
 have:=fX (lk.fit.nnd x) (m:=rng n) fun y hy=>lk.inr x y hy
 rwa [dL] at this
noncomputable def rU:bH:=fun xs Q=>∃ ws ls,xs = [bE ws ls]/\Wb ws ls/\(e7 ws.length ls->Q (.bl true))/\(¬ e7 ws.length ls->Q (.bl false))
noncomputable def T1:aN:=(bP (j6 (aB dU (a7 (bA (a5 0) (qC (.int 1))) a9)) (lY (aB fV (a7 (a5 0) a9)) (aB dU (a7 (aB mK (a7 (a5 0) a9)) a9)))))
theorem aJ1:cA T1 ["web"] rU:=by
 rintro xs Q ⟨ws,ls,rfl,wb,q1,q2⟩
 refine⟨_,rfl,_,_,_,rfl,rfl,rfl,_,_,rfl,rfl,_,rfl,ws,ls,rfl,_,rfl,ws,ls,rfl,wb,_,_,rfl,rfl,_,_,rfl,rfl,.inl ⟨_,_,rfl,rfl,trivial,?_⟩⟩
 have a:(b6 ls).length=ls.length:=aS9 _
 have b:(tups (i7 ls (rng ws.length))).length=(aY ls (rng ws.length)).length:=by rw [oG]; unfold i7; rw [aS9]
 show Q (.bl (decide (((b6 ls).length:Int)=(ws.length:Int) - ((tups (i7 ls (rng ws.length))).length:Int))))
 rw [a,b]
 by_cases w:e7 ws.length ls
 ·have:=q1 w
  unfold e7 at w
  rw [aT1 (by omega)]; exact this
 ·have:=q2 w
  unfold e7 at w
  rw [aT8 (by omega)]; exact this
noncomputable def k7:bH:=fun xs Q=>∃ (n:Nat) (ls:List (Int × Int)) (h:Int) (e:Option Int),xs = [.lst (cR n ls),.int h,jZ e]/\0<=h/\h < (n:Int)/\(aK ls h).length<=1000/\Q (.lst (intz (aT ls h e)))
noncomputable def T4:aN:=(bP (cD (cL (bA (a5 0) (a5 1))) [none,some 2] (bQ 0) (bJ (q2 w6 (a5 0) (a5 1))) (a5 0)))
theorem aJ2:cA T4 ["around","hearth","elder"] k7:=by
 rintro xs Q ⟨n,ls,h,e,rfl,h0,h1,hl,q⟩
 refine⟨_,rfl,_,rfl,_,_,_,rfl,rfl,vG h0 h1,intz (aK ls h),rfl,(fun z=>by cases z),by rw [bD]; omega,fun i acc=>acc=intz (((aK ls h).take i).filter fun x=>!decide (some x=e)),rfl,?_,?_⟩
 ·rintro i y acc hy rfl
  obtain ⟨x,rfl,hx⟩:=gP hy
  have tk:=oE (p:=fun x=>!decide (some x=e)) hx
  refine⟨_,rfl,_,rfl,x,e,rfl,rfl,_,rfl,?_⟩
  by_cases z:some x=e
  ·rw [aT1 z.symm]
   refine bF ?_
   dsimp only
   rw [tk,aT1 z]; exact (ba3 _).symm ▸ rfl
  ·rw [aT8 fun y=>z y.symm]
   refine bN ⟨_,rfl,trivial,?_⟩
   dsimp only
   rw [tk,aT8 z,gC]; rfl
 ·rintro acc rfl
  rw [bD,aW0 (aT2 _)]
  exact⟨trivial,q⟩
noncomputable def rV (p:Int × Option Int):PV:=.tup [.int p.1,jZ p.2]
noncomputable def cO (P:bX):List PV:=P.map rV
theorem iM (P:bX):(cO P).length=P.length:=aS9 _
theorem T5 {P:bX}{i:Nat}{p:Int × Option Int} (h:P[i]? = some p):L2.atI (cO P) (i:Int)=some (rV p):=kD (by unfold cO; rw [aT7,h]; rfl)
noncomputable def mO:bH:=fun xs Q=>∃ ws ls,xs = [bE ws ls]/\Wb ws ls/\eG ws.length ls/\e7 ws.length ls/\∀ P,Rt ws.length ls P->Q (.lst (cO P))
noncomputable def T6:aN:=(lT (bJ (kS (a5 3) (aB dU (a7 (a5 2) a9))))
  (aE (b8 4 (bA (bA (a5 2) (a5 3)) (qC (.int 0))))
  (aE (uK 2 (cD (cL (aB k7 (a7 (a5 1) (a7 (a5 4) (a7 (bA (bA (a5 2) (a5 3)) (qC (.int 1))) a9))))) [none,some 4] (bQ 0) cM (hJ (a7 (a5 0) (a7 (a5 1) a9)))))
  (b8 3 (c7 (a5 3) (qC (.int 1)))))))
noncomputable def T7:aN:=(aE (cU (kJ (bJ (aB rU (a7 (a5 0) a9)))) qL cT)
 (aE (b8 1 (aB i4 (a7 (a5 0) a9)))
 (aE (dQ 2 (cD (cL (aB mK (a7 (a5 0) a9))) [none] (bQ 0) cM (hJ (a7 (bA (a5 0) (qC (.int 0))) (a7 (qC .non) a9)))))
 (aE (b8 3 (qC (.int 0)))
 (aE T6
 (iY 2))))))
section
variable {ws : List Int} {ls : List (Int × Int)} {E : gN} {s0 : Option Slot} {n : Nat}
theorem T8 (P:bX):flats (cO P)=true:=by
 induction P with
 | nil=>rfl
 | cons p P ih=>
  show (flat (rV p) && flats (cO P))=true
  rw [ih,Bool.and_true]
  obtain ⟨h,e⟩:=p
  cases e <;> rfl
theorem aJ3 (n40:n<=40) (lk:eG n ls) (w:e7 n ls) (k:∀ P y3 y4,Rt n ls P->E.nx [s0,some (.sh true (.lst (cR n ls))),some (.own (.lst (cO P))),y3,y4]) {y4:Option Slot} :
  T6 E [s0,some (.sh true (.lst (cR n ls))),some (.own (.lst (cO ((aY ls (rng n)).map fun h=>(h,none))))),si 0,y4]:=by
 refine⟨fun m ρ=>∃ (P:bX) (t:Nat) (y4:Option Slot),ρ = [s0,some (.sh true (.lst (cR n ls))),some (.own (.lst (cO P))),si t,y4]/\fJ n ls P t/\t<=P.length/\m=n - t,⟨_,_,0,y4,rfl,fJ.start,aX6 _,rfl⟩,?_⟩
 rintro m ρ ⟨P,t,y4,rfl,B,tl,rfl⟩
 have pl:=B.len
 refine⟨_,rfl,_,rfl,_,_,rfl,rfl,_,_,rfl,rfl,_,rfl,?_⟩
 rw [iM]
 by_cases lt:t < P.length
 ·rw [aT1 (by omega)]
  obtain ⟨⟨h,e⟩,ht⟩:∃ p,P[t]? = some p:=⟨_,aU1 lt⟩
  have hr:=cJ.mp (B.inn _ (aT4 ht))
  dsimp only at hr
  have nl:=lk.nlen h
  refine bN ⟨_,rfl,_,rfl,_,_,_,rfl,rfl,T5 ht,_,_,_,rfl,rfl,rfl,rfl,?_⟩
  refine⟨cO P,rfl,_,rfl,_,rfl,_,rfl,_,rfl,_,_,_,rfl,rfl,T5 ht,_,_,_,rfl,rfl,rfl,n,ls,h,e,rfl,hr.1,hr.2,by omega,intz (aT ls h e),rfl,(fun z=>by cases z),?_,fun i acc=>acc=cO (((aT ls h e).take i).map fun c=>(c,some h)),rfl,?_,?_⟩
  ·rw [bD]; have:=aX9 (fun x=>!decide (some x=e)) (aK ls h); unfold aT; omega
  ·rintro i y acc hy rfl
   obtain ⟨c,rfl,hc⟩:=gP hy
   refine⟨_,rfl,_,rfl,by show 2<=1000; decide,rfl,trivial,?_⟩
   dsimp only
   rw [aX0,hc,aV0]
   unfold cO
   rw [aV0]
   rfl
  ·rintro acc rfl
   rw [bD,aW0 (aT2 _)]
   have kl:(aT ls h e).length<=n:=by have:=aX9 (fun x=>!decide (some x=e)) (aK ls h); unfold aT; omega
   refine⟨_,.inr rfl,.inr (T8 _),by rw [iM,iM,aS9]; omega,_,rfl,_,_,rfl,rfl,trivial,n - (t+1),by omega,P ++ (aT ls h e).map (fun c=>(c,some h)),t+1,si h,?_,B.step w lk.fit (fun h x=>lk.inr h x) ht,by rw [aU6]; omega,rfl⟩
   unfold cO
   rw [<- aV0]
   rfl
 ·rw [aT8 (by omega)]
  have:t=P.length:=by omega
  subst this
  exact bF (k P _ _ B.all)
end
theorem aJ4:cA T7 ["web","around","pairs","turn","hearth"] mO:=by
 rintro xs Q ⟨ws,ls,rfl,wb,lk,w,q⟩
 have few:=wb.few
 have hS:=jH ws.length
 refine⟨_,rfl,ws,ls,rfl,wb,fun _=>?_,fun z=>absurd w z⟩
 refine⟨_,rfl,bF ?_⟩
 refine⟨_,rfl,ws,ls,rfl,wb,trivial,?_⟩
 refine⟨_,rfl,ws,ls,rfl,wb,tups (i7 ls (rng ws.length)),rfl,(fun z=>by cases z),?_,fun i acc=>acc=cO (((aY ls (rng ws.length)).take i).map fun h=>(h,none)),rfl,?_,?_⟩
 ·rw [oG]; unfold i7; rw [aS9]
  have:=aX9 (oO ls (rng ws.length)) (rng ws.length)
  rw [dL] at this
  unfold aY; omega
 ·rintro i y acc hy rfl
  unfold tups i7 at hy
  rw [aY7,aT7] at hy
  cases hz:(aY ls (rng ws.length))[i]? with
  | none=>rw [hz] at hy; cases hy
  | some h=>
   rw [hz] at hy
   cases hy
   obtain ⟨h1,h2⟩:=eJ.mp (aT4 hz)
   have h3:L2.atI (intz (comp ls (rng ws.length) h)) 0=some (.int h):=by
    cases e:comp ls (rng ws.length) h with
    | nil=>rw [e] at h2; cases h2
    | cons a r=>rw [e] at h2; cases h2; exact kD (j:=0) rfl
   refine⟨_,rfl,_,_,_,rfl,rfl,h3,by show 2<=1000; decide,rfl,trivial,?_⟩
   dsimp only
   rw [aX0,hz,aV0]
   unfold cO
   rw [aV0]
   rfl
 ·rintro acc rfl
  rw [show (tups (i7 ls (rng ws.length))).length=(aY ls (rng ws.length)).length by rw [oG]; unfold i7; rw [aS9],aW0 (aT2 _)]
  refine⟨rfl,T8 _,trivial,?_⟩
  refine aJ3 few lk w fun P y3 y4 R=>?_
  exact⟨_,rfl,trivial,q P R⟩
structure TL (k:Nat) (lks:List (Int × Int)):Prop where
 inn:∀ l ∈ lks,0<=l.1/\l.1 < l.2/\l.2 < (k:Int)
 nd:(lks.map (·.2)).Nodup
 few:lks.length<=k
theorem TL.same {k:Nat}{lks:List (Int × Int)} (h:TL k lks):TL (k+1) lks:=⟨fun l hl=>by have:=h.inn l hl; omega,h.nd,by have:=h.few; omega⟩
theorem TL.app {k:Nat}{lks:List (Int × Int)} (h:TL k lks) {e:Int} (e0:0<=e) (e1:e < (k:Int)):TL (k+1) (lks ++ [(e,(k:Int))]):=by
 refine⟨fun l hl=>?_,?_,by rw [aU6,aW5]; have:=h.few; omega⟩
 ·rcases aT9.mp hl with z | z
  ·have:=h.inn l z; omega
  ·rw [aT0.mp z]; dsimp only; omega
 ·rw [aV0,bf0]
  refine⟨h.nd,aW1 _ _,fun a ha b hb e=>?_⟩
  obtain ⟨l,hl,rfl⟩:=aU8.mp ha
  rw [List.map_singleton,aT0] at hb
  have:=h.inn l hl
  omega
theorem TL.snd {k:Nat}{lks:List (Int × Int)} (h:TL k lks) {a b c:Int} (ha:(a,c) ∈ lks) (hb:(b,c) ∈ lks):a=b:=by
 obtain ⟨i,hi⟩:=bg2.mp ha
 obtain ⟨j,hj⟩:=bg2.mp hb
 have h1:(lks.map (·.2))[i]? = some c:=by rw [aT7,hi]; rfl
 have h2:(lks.map (·.2))[j]? = some c:=by rw [aT7,hj]; rfl
 have:=(List.getElem?_inj (aT3.mp h1).1 h.nd).mp (h1.trans h2.symm)
 subst this
 rw [hi] at hj
 exact (Prod.mk.inj (aV2 hj)).1
theorem TL.ndl {k:Nat}{lks:List (Int × Int)} (h:TL k lks):lks.Nodup:=(bb6.mp h.nd).imp fun z e=>z (by rw [e])
structure Pl (m:Nat) (p:Int->Int):Prop where
 inn:∀ i,0<=i->i < (m:Int)->0<=p i/\p i < (m:Int)
 inj:∀ i j,0<=i->i < (m:Int)->0<=j->j < (m:Int)->p i=p j->i=j
 onto:∀ x,x ∈ rng m->∃ i,0<=i/\i < (m:Int)/\p i=x
noncomputable def eU (p:Int->Int) (l:Int × Int):Int × Int:=(min (p l.1) (p l.2),max (p l.1) (p l.2))
theorem aJ5 {m:Nat}{p:Int->Int}{lks:List (Int × Int)} (P:Pl m p) (T:TL m lks):∀ l ∈ lks.map (eU p),0<=l.1/\l.1 < l.2/\l.2 < (m:Int):=by
 intro l0 hl0
 obtain ⟨l,hl,rfl⟩:=aU8.mp hl0
 have h:=T.inn l hl
 have a:=P.inn l.1 (by omega) (by omega)
 have b:=P.inn l.2 (by omega) (by omega)
 have c:p l.1 ≠ p l.2:=fun e=>by have:=P.inj _ _ (by omega) (by omega) (by omega) (by omega) e; omega
 unfold eU
 dsimp only
 omega
theorem wT {p:Int->Int}{l:Int × Int}{x y:Int} (e:eU p l=(x,y) ∨ eU p l=(y,x)):(p l.1=x/\p l.2=y) ∨ (p l.1=y/\p l.2=x):=by
 unfold eU at e
 rcases e with e | e <;> (have e1:=(Prod.mk.inj e).1; have e2:=(Prod.mk.inj e).2; omega)
theorem aJ6 {m:Nat}{p:Int->Int}{lks:List (Int × Int)} (P:Pl m p) (T:TL m lks):(lks.map (eU p)).Nodup:=by
 refine bb6.mpr (T.ndl.imp_of_mem fun {a b} ha hb hab e=>hab ?_)
 have h1:=T.inn a ha
 have h2:=T.inn b hb
 rcases wT (x:=(eU p b).1) (y:=(eU p b).2) (.inl e) with ⟨c,d⟩ | ⟨c,d⟩ <;> rcases wT (p:=p) (l:=b) (x:=(eU p b).1) (y:=(eU p b).2) (.inl rfl) with ⟨c',d'⟩ | ⟨c',d'⟩
 ·exact Prod.ext (P.inj _ _ (by omega) (by omega) (by omega) (by omega) (c.trans c'.symm)) (P.inj _ _ (by omega) (by omega) (by omega) (by omega) (d.trans d'.symm))
 ·have e1:=P.inj a.1 b.2 (by omega) (by omega) (by omega) (by omega) (c.trans d'.symm)
  have e2:=P.inj a.2 b.1 (by omega) (by omega) (by omega) (by omega) (d.trans c'.symm)
  omega
 ·have e1:=P.inj a.1 b.2 (by omega) (by omega) (by omega) (by omega) (c.trans d'.symm)
  have e2:=P.inj a.2 b.1 (by omega) (by omega) (by omega) (by omega) (d.trans c'.symm)
  omega
 ·exact Prod.ext (P.inj _ _ (by omega) (by omega) (by omega) (by omega) (c.trans c'.symm)) (P.inj _ _ (by omega) (by omega) (by omega) (by omega) (d.trans d'.symm))
theorem T9 {f:Int->Int->Prop}:∀ {U:List Int},U ≠ []->(∀ x ∈ U,∃ i,f x i)->∃ x ∈ U,∃ i,f x i/\∀ y ∈ U,∃ j,f y j/\j<=i
 | [x],_,h=>by
  obtain ⟨i,hi⟩:=h x aS8
  exact⟨x,aS8,i,hi,fun y hy=>by rw [aT0.mp hy]; exact⟨i,hi,bc6 _⟩⟩
 | x :: z :: r,_,h=>by
  obtain ⟨i,hi⟩:=h x aS8
  obtain ⟨y,hy,j,hj,m⟩:=T9 (U:=z :: r) (by simp) fun y hy=>h y (aT5 _ hy)
  by_cases le:i<=j
  ·refine⟨y,aT5 _ hy,j,hj,fun w hw=>?_⟩
   rcases aU0.mp hw with e | e
   ·rw [e]; exact⟨i,hi,le⟩
   ·exact m w e
  ·refine⟨x,aS8,i,hi,fun w hw=>?_⟩
   rcases aU0.mp hw with e | e
   ·rw [e]; exact⟨i,hi,bc6 _⟩
   ·obtain ⟨k,hk,kl⟩:=m w e; exact⟨k,hk,by omega⟩
theorem aJ7 {m:Nat}{p:Int->Int}{lks ls:List (Int × Int)} (P:Pl m p) (T:TL m lks) (pm:ls.Perm (lks.map (eU p))) (f:eI ls):wH ls (rng m):=by
 intro U two sub
 refine aY0 fun ne=>?_
 obtain ⟨x,hx,i,⟨i0,i1,hi⟩,mx⟩:=T9 (f:=fun x i=>0<=i/\i < (m:Int)/\p i=x) ne fun x hx=>P.onto x (sub x hx)
 obtain ⟨a,b,na,nb,ua,ub,ab⟩:=aH7 (f.nnd x) (two x hx)
 have up:∀ y,y ∈ aK ls x->y ∈ U->∃ j,(j,i) ∈ lks/\p j=y:=fun y hy hu=>by
  obtain ⟨j,⟨j0,j1,hj⟩,ji⟩:=mx y hu
  obtain ⟨l,hl,e⟩:∃ l ∈ lks,eU p l=(x,y) ∨ eU p l=(y,x):=by
   rcases L2.dF.mp hy with z | z
   ·obtain ⟨l,hl,e⟩:=aU8.mp (pm.mem_iff.mp z); exact⟨l,hl,.inl e⟩
   ·obtain ⟨l,hl,e⟩:=aU8.mp (pm.mem_iff.mp z); exact⟨l,hl,.inr e⟩
  have h:=T.inn l hl
  rcases wT e with ⟨c,d⟩ | ⟨c,d⟩
  ·have e1:=P.inj l.1 i (by omega) (by omega) i0 i1 (c.trans hi.symm)
   have e2:=P.inj l.2 j (by omega) (by omega) j0 j1 (d.trans hj.symm)
   omega
  ·have e1:=P.inj l.2 i (by omega) (by omega) i0 i1 (d.trans hi.symm)
   exact⟨l.1,by rw [<- e1]; exact hl,c⟩
 obtain ⟨j,hj,ej⟩:=up a na ua
 obtain ⟨k,hk,ek⟩:=up b nb ub
 exact ab (by rw [<- ej,<- ek,T.snd hj hk])
theorem aJ8 {n:Nat}{ls:List (Int × Int)} (lk:eG n ls) (no:wH ls (rng n)):e7 n ls:=by
 have h1:=wL lk.fit n (rng n) (by rw [dL]; exact aT2 _) (jH n) no
 have h2:=wR (jH n) ls
 have e:ls.filter (fH (rng n))=ls:=List.filter_eq_self.mpr fun l hl=>by
  have:=lk.1 l hl
  unfold fH
  rw [aT1 (cJ.mpr ⟨by omega,by omega⟩),aT1 (cJ.mpr ⟨by omega,by omega⟩)]; rfl
 unfold mu at h1
 rw [e,dL] at h1
 rw [e,dL] at h2
 unfold e7
 omega
noncomputable def rW:bH:=fun xs Q=>∃ (ns:List Int) (m:Nat) (dg:Bool),xs = [.scr ns,.int m,.bl dg]/\ns.length<=63/\m<=40/\∀ ps:List Int,ps.Perm (rng m)->Q (.lst (intz ps))
noncomputable def U0:aN:=(aE (b8 6 (aB i9 (a7 (aB eC (a7 (a5 0) (a7 (qC (.int 3)) a9))) (a7 (c7 (a5 5) (qC (.int 5))) a9))))
   (aE (cU (j3 (a5 2)) (aE (b8 6 (a5 4))
    (b8 4 (fS (a5 4) (c7 (a5 5) (qC (.int 1)))))) cT)
   (rD 3 (bV (a5 6) (c7 (a5 5) (qC (.int 1)))) (a5 5))))
noncomputable def U1:aN:=(aE (dQ 3 (vH (a5 1)))
 (aE (b8 4 (aB eC (a7 (a5 0) (a7 (qC (.int 3)) a9))))
 (aE (cU (bJ (j6 (bV (fS (aB eC (a7 (a5 0) (a7 (qC (.int 1)) a9))) (qC (.int 3))) (qC (.int 2))) (qC (.int 1)))) (aE (dQ 3 (fP a9))
  (eB (j4 (a5 1)) (bQ 5)
   U0)) cT)
 (iY 3))))
theorem aJ9 {ns:List Int}{s1 y6:Option Slot}{dg:Bool}{ps:List Int}{nb:Int}{k:Nat}{E:gN} (k40:k < 40) (hp:ps.Perm (rng k))
  (nx:∀ (ps:List Int) (nb:Int) (y6:Option Slot),ps.Perm (rng (k+1))->E.nx [some (.sh true (.scr ns)),s1,some (.sh true (.bl dg)),some (.own (.lst (intz ps))),si nb,si k,y6]) :
  U0 E [some (.sh true (.scr ns)),s1,some (.sh true (.bl dg)),some (.own (.lst (intz ps))),si nb,si k,y6]:=by
 have pl:=hp.length_eq
 rw [dL] at pl
 have fin:∀ (sp nb:Int),(rD 3 (bV (a5 6) (c7 (a5 5) (qC (.int 1)))) (a5 5)) E [some (.sh true (.scr ns)),s1,some (.sh true (.bl dg)),some (.own (.lst (intz ps))),si nb,si k,si sp]:=fun sp nb=>by
  have h0:=aZ2 sp (show (k:Int)+1 ≠ 0 by omega)
  have h1:=bd8 sp (show (0:Int) < (k:Int)+1 by omega)
  refine⟨intz ps,rfl,_,rfl,_,rfl,_,_,rfl,rfl,_,_,rfl,rfl,by show (0:Int) < (k:Int)+1; omega,(sp % ((k:Int)+1)).toNat,by show PV.int (sp % ((k:Int)+1))=_; rw [Int.toNat_of_nonneg h0],by rw [bD]; omega,by rw [bD]; omega,_,rfl,trivial,?_⟩
  have e:(intz ps).take (sp % ((k:Int)+1)).toNat ++ PV.int k :: (intz ps).drop (sp % ((k:Int)+1)).toNat=intz (ps.take (sp % ((k:Int)+1)).toNat ++ (k:Int) :: ps.drop (sp % ((k:Int)+1)).toNat):=by
   unfold intz; rw [aV0,List.map_take,aV5,List.map_drop]
  have:=nx (ps.take (sp % ((k:Int)+1)).toNat ++ (k:Int) :: ps.drop (sp % ((k:Int)+1)).toNat) nb (si sp) (by
   rw [aD5]
   refine (List.perm_middle).trans ?_
   rw [List.take_append_drop]
   exact (List.Perm.cons _ hp).trans (List.perm_append_singleton _ _).symm)
  rw [<- e] at this
  exact this
 refine⟨_,rfl,_,ns,3,rfl,.inl rfl,by decide,_,rfl,_,_,rfl,rfl,_,_,rfl,by omega,by omega,fun z _=>⟨trivial,?_⟩⟩
 refine⟨_,rfl,_,rfl,?_⟩
 cases dg with
 | false=>exact bF (fin z nb)
 | true=>exact bN ⟨_,rfl,trivial,_,rfl,_,rfl,_,_,rfl,rfl,_,_,rfl,rfl,⟨by show (0:Int) < (k:Int)+1; omega,by omega⟩,trivial,fin nb _⟩
theorem oT (n:Nat):dG 0 n=intz (rng n):=by
 refine List.ext_getElem? fun i=>?_
 by_cases h:i < n
 ·rw [uU h]
  unfold intz
  rw [aT7,oD h,Int.zero_add]; rfl
 ·rw [bg1 (by rw [eQ]; omega),bg1 (by rw [bD,dL]; omega)]
theorem aK0:cA U1 ["script","many","digits","places","number","k","spot"] rW:=by
 rintro xs Q ⟨ns,m,dg,rfl,hl,m40,q⟩
 refine⟨_,rfl,m,rfl,by omega,by omega,rfl,?_,?_⟩
 ·show flats (dG 0 (m:Int).toNat)=true
  rw [oT]; exact dB _
 rw [oT,aV4]
 refine⟨_,rfl,_,ns,3,rfl,.inl rfl,by decide,trivial,?_⟩
 dsimp only
 generalize ns.getD (3:Int).toNat 0=nb
 refine⟨_,rfl,_,ns,1,rfl,.inl rfl,by decide,_,_,rfl,rfl,⟨by decide,by decide⟩,_,_,rfl,rfl,(by show (0:Int) < 2; decide),.inl ⟨_,_,rfl,rfl,_,rfl,?_⟩⟩
 generalize (if false=true then _ else _:Bool)=b
 cases b with
 | false=>exact bF ⟨_,rfl,trivial,q _ (bh3 _)⟩
 | true=>
  refine bN ⟨by decide,rfl,rfl,rfl,?_⟩
  refine⟨_,rfl,m,rfl,by omega,by omega,fun k ρ=>∃ (ps:List Int) (nb:Int) (y5 y6:Option Slot),ρ = [some (.sh true (.scr ns)),si m,some (.sh true (.bl dg)),some (.own (.lst (intz ps))),si nb,y5,y6]/\ps.Perm (rng k),⟨[],nb,none,none,rfl,bh3 _⟩,?_,?_⟩
  ·rintro k y ρ hy ⟨ps,nb,y5,y6,rfl,hp⟩
   obtain ⟨rfl,hk⟩:=jB hy
   have hk:k < m:=by omega
   refine k6 ?_
   rw [Int.zero_add]
   exact aJ9 (by omega) hp fun ps nb y6 h=>⟨ps,nb,si k,y6,rfl,h⟩
  ·rintro ρ ⟨ps,nb,y5,y6,rfl,hp⟩
   rw [eQ,aV4] at hp
   exact⟨_,rfl,trivial,q ps hp⟩
noncomputable def U2 (mx:Int):bH:=fun xs Q=>∃ (ns:List Int) (most:Int),xs = [.scr ns,.int most]/\ns.length<=63/\0<=most/\most<=mx/\∀ (n:Nat) ws ls,(n:Int)<=most->WL n ws ls->eG n ls->e7 n ls->Q (bE ws ls)
noncomputable def U3 (R:List PV->(PV->Prop)->Prop):Prop:=∀ (ls:List (Int × Int)) (Q:PV->Prop),ls.length < 64->(∀ ls':List (Int × Int),ls'.Perm ls->(ls'.map two).Pairwise (fun u v=>HT.eY v u=false)->Q (.lst (b6 ls')))->R [.lst (b6 ls)] Q
theorem aK1:U3 qX:=fun ls Q few q=>by
 refine⟨ls.map two,by rw [M8],by rw [aS9]; exact few,fun y hy=>by obtain ⟨l,_,rfl⟩:=aU8.mp hy; exact List.cons_ne_nil _ _,fun Z pz so=>?_⟩
 obtain ⟨ls',rfl,pl⟩:=ay8 pz
 have:=q ls' pl so
 rw [M8] at this
 exact this
noncomputable def U4:aN:=(aE (iG 4 (hJ (a7 (a5 9) (a7 (a5 7) a9))))
   (aE (kM 5 (a5 9) (c7 (bA (a5 5) (a5 9)) (qC (.int 1))))
   (kM 5 (a5 7) (c7 (bA (a5 5) (a5 7)) (qC (.int 1))))))
noncomputable def U5:aN:=(cU (bJ (G5 (bV (a5 8) (qC (.int 8))) (qC (.int 0)))) (aE (b8 9 (bV (fS (a5 8) (qC (.int 8))) (a5 7)))
   (aE (cU (bJ (j6 (bV (aB eC (a7 (a5 0) (a7 (qC (.int 1)) a9))) (qC (.int 3))) (qC (.int 1)))) (b8 9 (aB kN (a7 (qC (.int 0)) (a7 (lY (lY (a5 7) (qC (.int 1))) (bV (fS (a5 8) (qC (.int 8))) (qC (.int 3)))) a9)))) cT)
   U4)) cT)
noncomputable def U6:aN:=(aE (b8 8 (aB i9 (a7 (bA (a5 6) (a5 7)) (a7 (a5 7) a9))))
  (aE (cU (j3 (a5 3)) (b8 8 (fS (bA (a5 6) (a5 7)) (qC (.int 64)))) cT)
  U5))
noncomputable def U7 (R:List PV->(PV->Prop)->Prop):aN:=(aE (qB 4 (b8 12 (cD (cL (a5 4)) [none,none,some 10] (fQ 0 1) cM (hJ (a7 (aB lU (a7 (bA (a5 2) (a5 0)) (a7 (bA (a5 2) (a5 1)) a9))) (a7 (aB kN (a7 (bA (a5 2) (a5 0)) (a7 (bA (a5 2) (a5 1)) a9))) a9))))))
 (bP (hJ (a7 (aB iH (a7 (a5 11) a9)) (a7 (aB iH (a7 (aB R (a7 (a5 12) a9)) a9)) a9)))))
noncomputable def U8:aN:=(aE (b8 10 (aB rW (a7 (a5 0) (a7 (a5 2) (a7 (a5 3) a9)))))
 (aE (dQ 11 (r6 (fP (a7 (qC (.int 0)) a9)) (a5 2)))
 (aE (eB (j4 (a5 2)) (bQ 7)
  (kM 11 (bA (a5 10) (a5 7)) (bV (bA (a5 6) (a5 7)) (c7 (bA (a5 5) (a5 7)) (qC (.int 2))))))
 (U7 qX))))
noncomputable def U9:aN:=(aE (b8 2 (aB rM (a7 (a5 0) (a7 (a5 1) a9))))
 (aE (b8 3 (j6 (bV (fS (aB eC (a7 (a5 0) (a7 (qC (.int 1)) a9))) (qC (.int 8))) (qC (.int 2))) (qC (.int 1))))
 (aE (dQ 4 (fP a9))
 (aE (dQ 5 (r6 (fP (a7 (qC (.int 0)) a9)) (a5 2)))
 (aE (dQ 6 (qI (a5 0) (lX (qC (.int 4))) (lX (c7 (qC (.int 4)) (a5 2)))))
 (aE (eB (qE (aB dU (a7 (a5 6) a9)) (a5 2)) (bQ 7)
  (iG 6 (aB i9 (a7 (aB eC (a7 (a5 0) (a7 (qC (.int 1)) a9))) (a7 (a5 7) a9)))))
 (aE (eB (qE (qC (.int 1)) (a5 2)) (bQ 7)
  U6)
 U8)))))))
section
variable {ns : List Int} {m k : Nat} {dg : Bool} {cs cts : List Int} {lks : List (Int × Int)} {s1 y8 y9 y10 y11 y12 : Option Slot} {E : gN}
theorem V0 {e nb:Int} (hc:m<=cs.length) (hk:k < m) (m40:m<=40) (T:TL k lks) (cl:cts.length=m) (nn:NN cts) (e0:0<=e) (e1:e < (k:Int)) {s0 s3 s6:Option Slot}
  (nx:∀ (lks':List (Int × Int)) (cts':List Int),TL (k+1) lks'->cts'.length=m->NN cts'->E.nx [s0,s1,si m,s3,some (.own (.lst (b6 lks'))),some (.own (.lst (intz cts'))),s6,si k,si nb,si e,y10,y11,y12]) :
  U4 E [s0,s1,si m,s3,some (.own (.lst (b6 lks))),some (.own (.lst (intz cts))),s6,si k,si nb,si e,y10,y11,y12]:=by
 have pl:(b6 lks).length=lks.length:=aS9 _
 have fw:=T.few
 obtain ⟨j,rfl⟩:∃ j:Nat,e=j:=⟨e.toNat,by omega⟩
 refine⟨_,rfl,_,rfl,_,rfl,by show 2<=1000; decide,rfl,trivial,by rw [pl]; omega,?_⟩
 have a1:=jF (ws:=cts) (j:=j) (by omega)
 refine⟨_,rfl,_,rfl,_,_,_,rfl,rfl,a1,_,_,rfl,rfl,_,rfl,_,rfl,j,j,rfl,?_,trivial,?_⟩
 ·rw [bD]; unfold fL; rw [if_pos (by omega),if_pos (by omega)]; rfl
 have q1:(intz cts).set j (.int (cts.getD j 0+1))=intz (cts.set j (cts.getD j 0+1)):=(List.map_set ..).symm
 have n1:NN (cts.set j (cts.getD j 0+1)):=nn.set (by have:=jG nn j; omega) _
 dsimp only
 rw [q1]
 have l1:(cts.set j (cts.getD j 0+1)).length=m:=by rw [aX4]; exact cl
 generalize cts.set j (cts.getD j 0+1)=ct2 at n1 l1
 have a2:=jF (ws:=ct2) (j:=k) (by omega)
 refine⟨_,rfl,_,rfl,_,_,_,rfl,rfl,a2,_,_,rfl,rfl,_,rfl,_,rfl,k,k,rfl,?_,trivial,?_⟩
 ·rw [bD]; unfold fL; rw [if_pos (by omega),if_pos (by omega)]; rfl
 have q2:(intz ct2).set k (.int (ct2.getD k 0+1))=intz (ct2.set k (ct2.getD k 0+1)):=(List.map_set ..).symm
 have n2:NN (ct2.set k (ct2.getD k 0+1)):=n1.set (by have:=jG n1 k; omega) _
 dsimp only
 rw [q2]
 have:=nx (lks ++ [((j:Int),(k:Int))]) (ct2.set k (ct2.getD k 0+1)) (T.app e0 e1) (by rw [aX4]; exact l1) n2
 unfold b6 at this ⊢
 rw [aV0] at this
 exact this
theorem V1 {nb:Int} (hc:m<=cs.length) (k1:1<=k) (hk:k < m) (m40:m<=40) (T:TL k lks) (cl:cts.length=m) (nn:NN cts) {s3 s6:Option Slot}
  (nx:∀ (y9:Option Slot) (lks':List (Int × Int)) (cts':List Int),TL (k+1) lks'->cts'.length=m->NN cts'->E.nx [some (.sh true (.scr ns)),s1,si m,s3,some (.own (.lst (b6 lks'))),some (.own (.lst (intz cts'))),s6,si k,si nb,y9,y10,y11,y12]) :
  U5 E [some (.sh true (.scr ns)),s1,si m,s3,some (.own (.lst (b6 lks))),some (.own (.lst (intz cts))),s6,si k,si nb,y9,y10,y11,y12]:=by
 refine⟨_,rfl,_,_,rfl,rfl,(by show (0:Int) < 8; decide),_,_,rfl,rfl,_,rfl,rH ?_ (nx y9 lks cts T.same cl nn)⟩
 have e0:=aZ2 (nb / 8) (show (k:Int) ≠ 0 by omega)
 have e1:=bd8 (nb / 8) (show (0:Int) < (k:Int) by omega)
 refine⟨_,rfl,_,_,rfl,rfl,⟨by decide,by decide⟩,_,rfl,_,_,rfl,rfl,(by show (0:Int) < (k:Int); omega),trivial,?_⟩
 refine⟨_,rfl,_,ns,1,rfl,.inl rfl,by decide,_,_,rfl,rfl,(by show (0:Int) < 3; decide),.inl ⟨_,_,rfl,rfl,_,rfl,rH ?_ (V0 hc hk m40 T cl nn e0 e1 fun l c a b d=>nx _ l c a b d)⟩⟩
 refine⟨_,rfl,_,_,rfl,rfl,_,rfl,_,_,rfl,rfl,⟨by decide,by decide⟩,_,_,rfl,rfl,(by show (0:Int) < 3; decide),_,_,rfl,rfl,_,_,rfl,trivial,?_⟩
 have h0:=aZ2 (nb / 8) (show (3:Int) ≠ 0 by decide)
 dsimp only
 generalize hz:(if (k:Int) - 1 - nb / 8 % 3 > 0 then (k:Int) - 1 - nb / 8 % 3 else 0)=z
 have z0:0<=z:=by rw [<- hz]; split <;> omega
 have z1:z < (k:Int):=by rw [<- hz]; split <;> omega
 exact V0 hc hk m40 T cl nn z0 z1 fun l c a b d=>nx _ l c a b d
theorem aK2 (hc:m<=cs.length) (k1:1<=k) (hk:k < m) (m40:m<=40) (T:TL k lks) (cl:cts.length=m) (nn:NN cts)
  (nx:∀ (y8 y9:Option Slot) (lks':List (Int × Int)) (cts':List Int),TL (k+1) lks'->cts'.length=m->NN cts'->E.nx [some (.sh true (.scr ns)),s1,si m,some (.sh true (.bl dg)),some (.own (.lst (b6 lks'))),some (.own (.lst (intz cts'))),some (.own (.lst (intz cs))),si k,y8,y9,y10,y11,y12]) :
  U6 E [some (.sh true (.scr ns)),s1,si m,some (.sh true (.bl dg)),some (.own (.lst (b6 lks))),some (.own (.lst (intz cts))),some (.own (.lst (intz cs))),si k,y8,y9,y10,y11,y12]:=by
 have a0:=jF (ws:=cs) (j:=k) (by omega)
 refine⟨_,rfl,_,rfl,_,_,_,rfl,rfl,a0,_,rfl,_,_,rfl,by omega,by omega,fun z _=>⟨trivial,?_⟩⟩
 refine⟨_,rfl,_,rfl,?_⟩
 cases dg with
 | false=>exact bF (V1 hc k1 hk m40 T cl nn fun y9 l c a b d=>nx _ y9 l c a b d)
 | true=>exact bN ⟨_,rfl,_,rfl,_,_,_,rfl,rfl,a0,_,_,rfl,rfl,⟨by decide,by decide⟩,trivial,V1 hc k1 hk m40 T cl nn fun y9 l c a b d=>nx _ y9 l c a b d⟩
theorem V2 {m:Nat}{ps:List Int} (hp:ps.Perm (rng m)):Pl m fun i=>ps.getD i.toNat 0:=by
 have pl:=hp.length_eq
 rw [dL] at pl
 have nd:ps.Nodup:=hp.nodup_iff.mpr (wQ (jH m))
 have gt:∀ i:Int,0<=i->i < (m:Int)->ps[i.toNat]? = some (ps.getD i.toNat 0):=fun i h0 h1=>by
  rw [aU3,aU1 (by omega)]; rfl
 refine⟨fun i h0 h1=>cJ.mp (hp.mem_iff.mp (aT4 (gt i h0 h1))),fun i j h0 h1 g0 g1 e=>?_,fun x hx=>?_⟩
 ·have:=(List.getElem?_inj (aT3.mp (gt i h0 h1)).1 nd).mp ((gt i h0 h1).trans (by rw [gt j g0 g1]; exact congrArg some e))
  omega
 ·obtain ⟨i,hi⟩:=bg2.mp (hp.mem_iff.mpr hx)
  have il:=(aT3.mp hi).1
  refine⟨i,by omega,by omega,?_⟩
  show ps.getD (i:Int).toNat 0=x
  rw [aV4,aU3,hi]; rfl
theorem aK3 {R:List PV->(PV->Prop)->Prop} (hR:U3 R) {ps ws:List Int}{s0 s3 s5 s6 y7:Option Slot}{Q:PV->Prop} (m40:m<=40) (T:TL m lks) (hp:ps.Perm (rng m)) (wl:ws.length=m) (wn:NN ws) (q:∀ ls,WL m ws ls->eG m ls->e7 m ls->Q (bE ws ls)) :
  U7 R { nx:=fun _=>Q .non,rt:=Q } [s0,s1,si m,s3,some (.own (.lst (b6 lks))),s5,s6,y7,y8,y9,some (.sh true (.lst (intz ps))),some (.own (.lst (intz ws))),y12]:=by
 have P:=V2 hp
 have pl:=hp.length_eq
 rw [dL] at pl
 have fw:=T.few
 have pgl:(b6 lks).length=lks.length:=aS9 _
 refine⟨_,rfl,_,rfl,b6 lks,rfl,(fun z=>by cases z),by rw [pgl]; omega,fun i acc=>acc=b6 ((lks.take i).map (eU fun i=>ps.getD i.toNat 0)),rfl,?_,?_⟩
 ·rintro i y acc hy rfl
  unfold b6 at hy
  rw [aT7] at hy
  cases hz:lks[i]? with
  | none=>rw [hz] at hy; cases hy
  | some l=>
   rw [hz] at hy
   cases hy
   have h:=T.inn l (aT4 hz)
   obtain ⟨a,ea⟩:∃ a:Nat,l.1=a:=⟨l.1.toNat,by omega⟩
   obtain ⟨b,eb⟩:∃ b:Nat,l.2=b:=⟨l.2.toNat,by omega⟩
   have a1:L2.atI (intz ps) l.1=some (.int (ps.getD l.1.toNat 0)):=by rw [ea,aV4]; exact jF (by omega)
   have a2:L2.atI (intz ps) l.2=some (.int (ps.getD l.2.toNat 0)):=by rw [eb,aV4]; exact jF (by omega)
   refine⟨_,_,rfl,?_⟩
   refine⟨_,rfl,_,rfl,_,_,_,rfl,rfl,a1,_,rfl,_,rfl,_,_,_,rfl,rfl,a2,_,_,rfl,_,rfl,_,rfl,_,_,_,rfl,rfl,a1,_,rfl,_,rfl,_,_,_,rfl,rfl,a2,_,_,rfl,by show 2<=1000; decide,rfl,trivial,?_⟩
   dsimp only
   rw [aX0,hz,aV0]
   unfold b6
   rw [aV0]
   have e1:(if ps.getD l.2.toNat 0 < ps.getD l.1.toNat 0 then ps.getD l.2.toNat 0 else ps.getD l.1.toNat 0)=min (ps.getD l.1.toNat 0) (ps.getD l.2.toNat 0):=by split <;> omega
   have e2:(if ps.getD l.2.toNat 0 > ps.getD l.1.toNat 0 then ps.getD l.2.toNat 0 else ps.getD l.1.toNat 0)=max (ps.getD l.1.toNat 0) (ps.getD l.2.toNat 0):=by split <;> omega
   show _ ++ [PV.tup [.int (if ps.getD l.2.toNat 0 < ps.getD l.1.toNat 0 then ps.getD l.2.toNat 0 else ps.getD l.1.toNat 0),.int (if ps.getD l.2.toNat 0 > ps.getD l.1.toNat 0 then ps.getD l.2.toNat 0 else ps.getD l.1.toNat 0)]]=_
   rw [e1,e2]; rfl
 ·rintro acc rfl
  rw [pgl,aW0 (aT2 _)]
  have inn:=aJ5 P T
  have nd:=aJ6 P T
  have ml:(lks.map (eU fun i=>ps.getD i.toNat 0)).length=lks.length:=aS9 _
  have fp:∀ ls:List (Int × Int),flats (b6 ls)=true:=oF
  refine⟨trivial,?_⟩
  refine⟨_,rfl,⟨_,_,rfl,rfl,dB _,?_⟩,(fun ns e=>by cases e)⟩
  refine⟨_,rfl,?_⟩
  refine hR (lks.map (eU fun i=>ps.getD i.toNat 0)) _ (by rw [ml]; omega) (fun ls' pm so=>?_)
  have W:=WL.perm (n:=m) (ws:=ws) (by omega) inn (by rw [ml]; omega) nd wn pm so
  have lk:eG m ls':=⟨fun l hl=>W.inn l hl,W.most,W.ord⟩
  refine⟨⟨_,_,rfl,rfl,fp _,by show 2<=1000; decide,?_,trivial,?_⟩,(fun ns e=>by cases e)⟩
  ·show (flats (intz ws) && (flats (b6 ls') && true))=true
   rw [dB,fp]; rfl
  ·exact q ls' W lk (aJ8 lk (aJ7 P T pm lk.fit))
theorem aK4 {s7:Option Slot}{Q:PV->Prop} (hn:ns.length<=63) (hc:m<=cs.length) (m40:m<=40) (T:TL m lks) (cl:cts.length=m) (nn:NN cts) (q:∀ ws ls,WL m ws ls->eG m ls->e7 m ls->Q (bE ws ls)) :
  U8 { nx:=fun _=>Q .non,rt:=Q } [some (.sh true (.scr ns)),s1,si m,some (.sh true (.bl dg)),some (.own (.lst (b6 lks))),some (.own (.lst (intz cts))),some (.own (.lst (intz cs))),s7,y8,y9,none,none,none]:=by
 refine⟨_,rfl,_,rfl,_,rfl,ns,m,dg,rfl,hn,m40,fun ps hp=>⟨trivial,?_⟩⟩
 have pl:=hp.length_eq
 rw [dL] at pl
 refine⟨by show 1<=1000; decide,rfl,_,rfl,_,_,rfl,rfl,rfl,by omega,by omega,by show 1<=10; decide,rfl,?_,?_⟩
 ·show flats (List.replicate (m:Int).toNat [PV.int 0]).flatten=true
  rw [rG]; exact dB _
 show (aE _ _) _ [_,_,_,_,_,_,_,_,_,_,_,some (Slot.own (.lst (List.replicate (m:Int).toNat [PV.int 0]).flatten)),_]
 rw [rG,aV4]
 refine⟨_,rfl,m,rfl,by omega,by omega,fun i ρ=>∃ (ws:List Int) (y7:Option Slot),ρ = [some (.sh true (.scr ns)),s1,si m,some (.sh true (.bl dg)),some (.own (.lst (b6 lks))),some (.own (.lst (intz cts))),some (.own (.lst (intz cs))),y7,y8,y9,some (.sh true (.lst (intz ps))),some (.own (.lst (intz ws))),none]/\ws.length=m/\NN ws,⟨_,s7,rfl,bd5,fun z hz=>by rw [List.eq_of_mem_replicate hz]; exact bc6 0⟩,?_,?_⟩
 ·rintro i y ρ hy ⟨ws,y7,rfl,wl,wn⟩
  obtain ⟨rfl,hi⟩:=jB hy
  have hi:i < m:=by omega
  refine k6 ?_
  rw [Int.zero_add]
  have a1:=jF (ws:=cs) (j:=i) (by omega)
  have a2:=jF (ws:=cts) (j:=i) (by omega)
  have a3:=jF (ws:=ps) (j:=i) (by omega)
  have p1:=jG nn i
  have pr:=(V2 hp).inn i (by omega) (by omega)
  rw [aV4] at pr
  obtain ⟨z,ez⟩:∃ z:Nat,ps.getD i 0=z:=⟨(ps.getD i 0).toNat,by omega⟩
  refine⟨_,rfl,_,rfl,_,_,_,rfl,rfl,a1,_,rfl,_,rfl,_,_,_,rfl,rfl,a2,_,_,rfl,rfl,_,_,rfl,rfl,by show 0 < cts.getD i 0+2; omega,_,rfl,_,rfl,_,rfl,_,_,_,rfl,rfl,a3,_,z,rfl,?_,trivial,ws.set z (cs.getD i 0 % (cts.getD i 0+2)),si i,?_,by rw [aX4]; exact wl,wn.set (aZ2 _ (by omega)) _⟩
  ·rw [bD,ez]; unfold fL; rw [if_pos (by omega),if_pos (by omega)]; rfl
  ·show _ = [_,_,_,_,_,_,_,_,_,_,_,some (Slot.own (.lst (intz (ws.set z (cs.getD i 0 % (cts.getD i 0+2)))))),_]
   have:(intz ws).set z (.int (cs.getD i 0 % (cts.getD i 0+2)))=intz (ws.set z (cs.getD i 0 % (cts.getD i 0+2))):=(List.map_set ..).symm
   rw [<- this]; rfl
 ·rintro ρ ⟨ws,y7,rfl,wl,wn⟩
  exact aK3 aK1 m40 T hp wl wn fun ls a b c=>q ws ls a b c
end
theorem aK5 {mx:Int} (mx40:mx<=40):cA U9 ["script","most","many","digits","links","counts","cells","k","number","elder","places","wants","pairs"] (U2 mx):=by
 rintro xs Q ⟨ns,most,rfl,hl,h0,h1,q⟩
 refine⟨_,rfl,_,rfl,ns,most,rfl,h0,fun z z0 z1=>⟨trivial,?_⟩⟩
 obtain ⟨m,rfl⟩:∃ m:Nat,z=m:=⟨z.toNat,by omega⟩
 refine⟨_,rfl,_,ns,1,rfl,.inl rfl,by decide,_,_,rfl,rfl,⟨by decide,by decide⟩,_,_,rfl,rfl,(by show (0:Int) < 2; decide),.inl ⟨_,_,rfl,rfl,trivial,?_⟩⟩
 generalize (if false=true then !decide (ns.getD (1:Int).toNat 0 / 8 % 2=1) else decide (ns.getD (1:Int).toNat 0 / 8 % 2=1))=dg
 refine⟨by decide,rfl,rfl,rfl,?_⟩
 refine⟨by show 1<=1000; decide,rfl,_,rfl,_,_,rfl,rfl,rfl,by omega,by omega,by show 1<=10; decide,rfl,?_,?_⟩
 ·show flats (List.replicate (m:Int).toNat [PV.int 0]).flatten=true
  rw [rG]; exact dB _
 show (aE _ _) _ [_,_,_,_,_,some (Slot.own (.lst (List.replicate (m:Int).toNat [PV.int 0]).flatten)),_,_,_,_,_,_,_]
 rw [rG,aV4]
 obtain ⟨zs,ez,zl⟩:=u5 ns (some 4) (some (4+(m:Int)))
 refine⟨_,rfl,_,rfl,_,rfl,_,_,rfl,rfl,_,rfl,_,rfl,dB _,rfl,?_,?_⟩
 ·show flats (hV (intz ns) (some 4) (some (4+(m:Int))))=true
  rw [ez]; exact dB _
 show (aE _ _) _ [_,_,_,_,_,_,some (Slot.own (.lst (hV (intz ns) (some 4) (some (4+(m:Int)))))),_,_,_,_,_,_]
 rw [ez]
 refine⟨_,rfl,_,_,rfl,rfl,_,rfl,(zs.length:Int),(m:Int),by rw [bD],rfl,⟨by omega,by omega,by omega,by omega⟩,fun i ρ=>∃ (cs:List Int) (y7:Option Slot),ρ = [some (.sh true (.scr ns)),si most,si m,some (.sh true (.bl dg)),some (.own (.lst (b6 []))),some (.own (.lst (intz (List.replicate m 0)))),some (.own (.lst (intz cs))),y7,none,none,none,none,none]/\cs.length=zs.length+i,⟨zs,none,rfl,rfl⟩,?_,?_⟩
 ·rintro i y ρ hy ⟨cs,y7,rfl,cl⟩
  obtain ⟨rfl,hi⟩:=jB hy
  refine k6 ?_
  refine⟨_,rfl,_,rfl,_,ns,1,rfl,.inl rfl,by decide,_,rfl,_,_,rfl,by omega,by omega,fun z _=>⟨trivial,by rw [bD]; omega,cs ++ [z],_,by rw [gC]; rfl,by rw [aU6,cl]; rfl⟩⟩
 rintro ρ ⟨cs,y7,rfl,cl⟩
 rw [eQ] at cl
 have hc:m<=cs.length:=by omega
 refine⟨_,rfl,(1:Int),(m:Int),rfl,rfl,⟨by omega,by omega,by omega,by omega⟩,fun i ρ=>∃ (lks:List (Int × Int)) (cts:List Int) (y7 y8 y9:Option Slot),ρ = [some (.sh true (.scr ns)),si most,si m,some (.sh true (.bl dg)),some (.own (.lst (b6 lks))),some (.own (.lst (intz cts))),some (.own (.lst (intz cs))),y7,y8,y9,none,none,none]/\TL (i+1) lks/\cts.length=m/\NN cts,⟨[],_,y7,none,none,rfl,⟨(fun l hl=>by cases hl),be8,aX6 _⟩,bd5,fun z hz=>by rw [List.eq_of_mem_replicate hz]; exact bc6 0⟩,?_,?_⟩
 ·rintro i y ρ hy ⟨lks,cts,y7,y8,y9,rfl,T,cl,nn⟩
  obtain ⟨rfl,hi⟩:=jB hy
  refine k6 ?_
  rw [show (1:Int)+(i:Int)=((i+1:Nat):Int) by omega]
  exact aK2 hc (by omega) (by omega) (by omega) T cl nn fun y8 y9 l c a b d=>⟨l,c,si ((i+1:Nat):Int),y8,y9,rfl,a,b,d⟩
 ·rintro ρ ⟨lks,cts,y7,y8,y9,rfl,T,cl,nn⟩
  rw [eQ] at T
  have T':TL m lks:=by
   by_cases m0:m=0
   ·subst m0
    have e:lks = []:=by
     cases lks with
     | nil=>rfl
     | cons l r=>have:=T.inn l aS8; omega
    subst e
    exact⟨(fun l hl=>by cases hl),be8,aX6 _⟩
   ·rwa [show ((m:Int) - 1).toNat+1=m by omega] at T
  exact aK4 hl hc (by omega) T' cl nn fun ws ls a b c=>q m ws ls z1 a b c
noncomputable abbrev wU:=List (Int × List Int)
noncomputable def V3 (W:wU):List Int:=W.map (·.1)
section
variable {ws : List Int} {n : Nat} {ls : List (Int × Int)} {P : bX} {W T : wU} {D B : List Int} {h x y c : Int} {e : Option Int}
theorem Rt.kid (R:Rt n ls P) (f:eI ls) (hp:(h,e) ∈ P):c ∈ aT ls h e ↔ (c,some h) ∈ P:=by
 constructor
 ·intro z
  obtain ⟨z1,z2⟩:=gQ.mp z
  exact (R.done h e hp c z1).resolve_left fun q=>z2 q.symm
 ·intro z
  obtain ⟨i,hi⟩:=gE z
  obtain ⟨j,q,ji,hj,hn⟩:=R.par i c h hi
  refine gQ.mpr ⟨lP hn,fun ec=>?_⟩
  rw [<- ec] at hp
  obtain ⟨i2,hi2⟩:=gE hp
  obtain ⟨j2,q2,ji2,hj2,_⟩:=R.par i2 h c hi2
  have e1:=(jI R.nd hj2 hi).1
  have e2:=(jI R.nd hj hi2).1
  omega
structure nI (P:bX) (W:wU) (D:List Int) (x:Int) (B:List Int):Prop where
 self:x ∈ B
 nd:B.Nodup
 up:∀ y ∈ B,y=x ∨ (y ∈ V3 W/\∃ e,(y,some e) ∈ P/\e ∈ B)
 dn:∀ y ∈ B,∀ c,(c,some y) ∈ P->c ∈ V3 W->c ∈ B
 inn:∀ y ∈ B,y ∈ D
end
theorem aK6 {bs:List (List Int)}{i:Nat}{y:PV} (h:(tups bs)[i]? = some y):∃ b,bs[i]? = some b/\y = .tup (intz b):=by
 unfold tups at h
 rw [aT7] at h
 cases e:bs[i]? with
 | none=>rw [e] at h; cases h
 | some b=>rw [e] at h; exact⟨b,rfl,(aV2 h).symm⟩
theorem aK7 {i:Nat}{b:List Int}{g:Bool}{ρ:bG}{Q:bG->Prop} (q:Q (ρ.set i (some (.sh true (.tup (intz b)))))):bQ i (.tup (intz b)) g ρ Q:=by
 show Q (ρ.set i (some (.sh (g || flats (intz b)) (.tup (intz b)))))
 rw [dB,Bool.or_true]; exact q
noncomputable abbrev rX:bH:=U2 40
noncomputable abbrev V4:aN:=U9
theorem aK8:cA V4 ["script","most","many","digits","links","counts","cells","k","number","elder","places","wants","pairs"] rX:=aK5 (by decide)
noncomputable abbrev cK:=List (Int × Int)
noncomputable def e8 (bl:cK):List Int:=bl.map fun p=>p.2 - p.1
noncomputable def eV (w p:Int) (bl:cK):Int:=(bl.map (·.1)).sum+(if w<=(bl.length:Int) then min p ((fG (e8 bl)).take w.toNat).sum else p)
noncomputable def jJ (w p:Int) (bl:cK):Int × Int:=(eV (max 0 (w - 1)) p bl,eV w p bl)
noncomputable def rY:bH:=fun xs Q=>∃ w:Int,xs = [.int w]/\Q (.int (max 0 (w - 1)))
noncomputable def V5:aN:=(bP (aB kN (a7 (qC (.int 0)) (a7 (lY (a5 0) (qC (.int 1))) a9))))
theorem aK9:cA V5 ["want"] rY:=by
 rintro xs Q ⟨w,rfl,q⟩
 refine⟨_,rfl,_,_,rfl,rfl,_,_,rfl,trivial,?_⟩
 have e:(if w - 1 > 0 then w - 1 else 0)=max 0 (w - 1):=by split <;> omega
 show Q (.int (if w - 1 > 0 then w - 1 else 0))
 rw [e]; exact q
noncomputable def oU:bH:=fun xs Q=>∃ (w p:Int) (bl:cK),xs = [.int w,.int p,.lst (b6 bl)]/\0<=w/\bl.length < 64/\Q (.int (eV w p bl))
noncomputable def V6:aN:=(aE (b8 3 (aB uO (a7 (cD (cL (a5 2)) [none,none] (fQ 0 1) cM (lY (a5 1) (a5 0))) a9)))
 (aE (b8 4 (a5 1))
 (aE (cU (bJ (uX (aB dU (a7 (a5 3) a9)) (a5 0))) (b8 4 (aB lU (a7 (a5 1) (a7 (aB l8 (a7 (qI (a5 3) G4 (lX (a5 0))) a9)) a9)))) cT)
 (bP (c7 (aB l8 (a7 (cD (cL (a5 2)) [none,none] (fQ 0 1) cM (a5 0)) a9)) (a5 4))))))
section
variable {w p d : Int} {bl : cK} {Q : PV → Prop} {s0 s1 s3 : Option Slot}
theorem V7 {g:Bool} (hl:bl.length < 64) (q:Q (.int ((bl.map (·.1)).sum+d))) :
  (bP (c7 (aB l8 (a7 (cD (cL (a5 2)) [none,none] (fQ 0 1) cM (a5 0)) a9)) (a5 4))) { nx:=fun _=>Q .non,rt:=Q } [s0,s1,some (.sh g (.lst (b6 bl))),s3,si d]:=by
 refine⟨_,rfl,b6 bl,rfl,(fun z=>by cases g <;> cases z),by rw [jX]; omega,fun i acc=>acc=intz ((bl.take i).map (·.1)),rfl,?_,?_⟩
 ·rintro i y acc hy rfl
  obtain ⟨r,rfl,hr⟩:=vI hy
  refine wI ?_
  refine⟨_,rfl,trivial,?_⟩
  dsimp only
  rw [aX0,hr,aV0,gC]; rfl
 ·rintro acc rfl
  rw [jX,aW0 (aT2 _)]
  exact⟨_,_,rfl,rfl,_,rfl,_,_,rfl,rfl,trivial,q⟩
end
theorem aL0:cA V6 ["want","price","below","gaps","dearer"] oU:=by
 rintro xs Q ⟨w,p,bl,rfl,w0,hl,q⟩
 refine⟨_,rfl,b6 bl,rfl,(fun z=>by cases z),by rw [jX]; omega,fun i acc=>acc=intz (e8 (bl.take i)),rfl,?_,?_⟩
 ·rintro i y acc hy rfl
  obtain ⟨r,rfl,hr⟩:=vI hy
  refine wI ?_
  refine⟨_,rfl,_,rfl,_,_,rfl,rfl,trivial,?_⟩
  dsimp only
  unfold e8
  rw [aX0,hr,aV0,gC]; rfl
 rintro acc rfl
 rw [jX,aW0 (aT2 _)]
 have gl:(e8 bl).length=bl.length:=aS9 _
 refine⟨e8 bl,rfl,by omega,fun ms pm so=>⟨trivial,?_⟩⟩
 cases aH4 pm so
 have sl:=pm.length_eq
 refine⟨_,rfl,trivial,?_⟩
 refine⟨_,rfl,_,_,rfl,rfl,_,rfl,_,_,rfl,rfl,_,rfl,?_⟩
 rw [bD]
 unfold eV at q
 by_cases c:w<=(bl.length:Int)
 ·rw [if_pos c] at q
  rw [aT1 (by omega)]
  refine bN ⟨_,rfl,_,rfl,_,rfl,_,rfl,intz (fG (e8 bl)),rfl,dB _,_,(fG (e8 bl)).take w.toNat,rfl,?_,_,_,rfl,trivial,?_⟩
  ·show some (hV (intz (fG (e8 bl))) none (some w))=_
   rw [aB0 w0]; unfold intz; rw [List.map_take]
  ·have e:(if ((fG (e8 bl)).take w.toNat).sum < p then ((fG (e8 bl)).take w.toNat).sum else p)=min p ((fG (e8 bl)).take w.toNat).sum:=by split <;> omega
   dsimp only
   rw [e]
   exact V7 hl q
 ·rw [if_neg c] at q
  rw [aT8 (by omega)]
  exact bF (V7 hl q)
noncomputable def mP:bH:=fun xs Q=>∃ (w p:Int) (bl:cK),xs = [.int w,.int p,.lst (b6 bl)]/\0<=w/\bl.length < 64/\Q (.tup [.int (jJ w p bl).1,.int (jJ w p bl).2])
noncomputable def V8:aN:=(bP (hJ (a7 (aB oU (a7 (aB rY (a7 (a5 0) a9)) (a7 (a5 1) (a7 (a5 2) a9)))) (a7 (aB oU (a7 (a5 0) (a7 (a5 1) (a7 (a5 2) a9)))) a9))))
theorem aL1:cA V8 ["want","price","below"] mP:=by
 rintro xs Q ⟨w,p,bl,rfl,w0,hl,q⟩
 exact⟨_,rfl,w,rfl,_,rfl,_,rfl,_,p,bl,rfl,by omega,hl,_,rfl,_,rfl,_,rfl,w,p,bl,rfl,w0,hl,by show 2<=1000; decide,rfl,trivial,q⟩
noncomputable def aR (L:cK) (h:Int):Int × Int:=L.getD h.toNat (0,0)
noncomputable def rZ (ws ps:List Int) (ls:List (Int × Int)) (L:cK) (h:Int) (e:Option Int):Prop:=aR L h=jJ (ws.getD h.toNat 0) (ps.getD h.toNat 0) ((aT ls h e).map (aR L))
noncomputable def wV (ws ps:List Int) (ls:List (Int × Int)) (P:bX) (L:cK):Prop:=L.length=ws.length/\∀ h e,(h,e) ∈ P->rZ ws ps ls L h e
noncomputable def sA:bH:=fun xs Q=>∃ ws ls x ps,xs = [bE ws ls,x]/\Wb ws ls/\eG ws.length ls/\e7 ws.length ls/\NN ws/\cV x ps/\lA ws.length ps/\∀ P L,Rt ws.length ls P->wV ws ps ls P L->Q (.tup (b6 L))
noncomputable def V9:aN:=(aE (b8 8 (cD (cL (aB k7 (a7 (a5 4) (a7 (a5 6) (a7 (a5 7) a9))))) [none,some 5] (bQ 0) cM (bA (a5 1) (a5 0))))
  (kM 5 (a5 6) (aB mP (a7 (bA (bA (a5 0) (qC (.int 0))) (a5 6)) (a7 (bA (a5 3) (a5 6)) (a7 (a5 8) a9))))))
noncomputable def W0:aN:=(aE (b8 2 (aB mO (a7 (a5 0) a9)))
 (aE (b8 3 (aB mE (a7 (a5 1) (a7 (aB fV (a7 (a5 0) a9)) a9))))
 (aE (b8 4 (aB i4 (a7 (a5 0) a9)))
 (aE (dQ 5 (r6 (fP (a7 (hJ (a7 (qC (.int 0)) (a7 (qC (.int 0)) a9))) a9)) (aB fV (a7 (a5 0) a9))))
 (aE (eB (wD (a5 2)) (fQ 6 7)
  V9)
 (bP (aB iH (a7 (a5 5) a9))))))))
theorem sB {L:cK}{h:Int} (h0:0<=h) (h1:h < (L.length:Int)):L2.atI (b6 L) h=some (.tup [.int (aR L h).1,.int (aR L h).2]):=by
 obtain ⟨j,rfl⟩:∃ j:Nat,h=j:=⟨h.toNat,by omega⟩
 refine kD ?_
 unfold b6 aR
 rw [aV4,aT7,aU3,aU1 (by omega)]; rfl
theorem mI {ns:List Int}{h:Int} (h0:0<=h) (h1:h < (ns.length:Int)):L2.atI (intz ns) h=some (.int (ns.getD h.toNat 0)):=by
 obtain ⟨j,rfl⟩:∃ j:Nat,h=j:=⟨h.toNat,by omega⟩
 rw [aV4]; exact jF (by omega)
theorem W5 {L:cK}{h x:Int}{v:Int × Int} (h0:0<=h) (x0:0<=x) (ne:x ≠ h):aR (L.set h.toNat v) x=aR L x:=by
 unfold aR
 rw [aU3,aU3,aW4 (by omega)]
theorem aL2 {L:cK}{h:Int}{v:Int × Int} (h0:0<=h) (h1:h < (L.length:Int)):aR (L.set h.toNat v) h=v:=by
 unfold aR
 rw [aU3,aZ3 (by omega)]; rfl
section
variable {ws ps : List Int} {ls : List (Int × Int)} {P : bX} {L : cK} {h : Int} {e : Option Int} {E : gN} {s1 s2 y8 : Option Slot}
theorem aL3 (lk:eG ws.length ls) (n40:ws.length<=40) (nn:NN ws) (pl:ps.length=ws.length) (ll:L.length=ws.length) (hr:h ∈ rng ws.length)
  (nx:∀ y8,E.nx [some (.sh true (bE ws ls)),s1,s2,some (.sh true (.tup (intz ps))),some (.sh true (.lst (cR ws.length ls))),some (.own (.lst (b6 (L.set h.toNat (jJ (ws.getD h.toNat 0) (ps.getD h.toNat 0) ((aT ls h e).map (aR L))))))),si h,some (.sh true (jZ e)),y8]) :
  V9 E [some (.sh true (bE ws ls)),s1,s2,some (.sh true (.tup (intz ps))),some (.sh true (.lst (cR ws.length ls))),some (.own (.lst (b6 L))),si h,some (.sh true (jZ e)),y8]:=by
 have hm:=cJ.mp hr
 have nl:=lk.nlen h
 have kl:(aT ls h e).length<=ws.length:=by have:=aX9 (fun x=>!decide (some x=e)) (aK ls h); unfold aT; omega
 refine⟨_,rfl,_,rfl,_,rfl,ws.length,ls,h,e,rfl,hm.1,hm.2,by omega,intz (aT ls h e),rfl,(fun z=>by cases z),by rw [bD]; omega,fun i acc=>acc=b6 (((aT ls h e).take i).map (aR L)),rfl,?_,?_⟩
 ·rintro i y acc hy rfl
  obtain ⟨c,rfl,hc⟩:=gP hy
  have cr:=cJ.mp (lk.inr h c (gQ.mp (aT4 hc)).1)
  refine⟨_,rfl,_,rfl,_,_,_,rfl,rfl,sB cr.1 (by omega),rfl,?_⟩
  dsimp only
  unfold b6
  rw [aX0,hc,aV0,aV0]; rfl
 ·rintro acc rfl
  rw [bD,aW0 (aT2 _)]
  have wp:0<=ws.getD h.toNat 0:=jG nn _
  refine⟨trivial,?_⟩
  refine⟨_,rfl,_,_,_,rfl,rfl,rfl,_,rfl,_,_,_,rfl,rfl,mI hm.1 hm.2,_,rfl,_,rfl,_,_,_,rfl,rfl,mI hm.1 (by omega),_,rfl,_,_,(aT ls h e).map (aR L),rfl,wp,by rw [aS9]; omega,b6 L,rfl,_,rfl,h,h.toNat,rfl,?_,trivial,?_⟩
  ·rw [jX]; unfold fL; rw [if_pos (by omega),if_pos (by omega)]
  ·have:=nx (some (.sh true (.lst (b6 ((aT ls h e).map (aR L))))))
   have q:b6 (L.set h.toNat (jJ (ws.getD h.toNat 0) (ps.getD h.toNat 0) ((aT ls h e).map (aR L))))=(b6 L).set h.toNat (.tup [.int (jJ (ws.getD h.toNat 0) (ps.getD h.toNat 0) ((aT ls h e).map (aR L))).1,.int (jJ (ws.getD h.toNat 0) (ps.getD h.toNat 0) ((aT ls h e).map (aR L))).2]):=by unfold b6; rw [List.map_set]
   rw [q] at this
   exact this
end
structure iA (P:bX) (i:Nat) (D:List Int):Prop where
 mem:∀ y,y ∈ D ↔ ∃ (j:Nat) (q:Option Int),P[j]? = some (y,q)/\P.length<=j+i
theorem iA.nil {P:bX}:iA P 0 []:=⟨fun y=>⟨(fun z=>by cases z),fun ⟨j,q,hj,hl⟩=>by have:=(aT3.mp hj).1; omega⟩⟩
theorem iA.next {P:bX}{i:Nat}{D:List Int}{h:Int}{e:Option Int} (S:iA P i D) (il:i < P.length) (hk:P[P.length - 1 - i]? = some (h,e)):iA P (i+1) (h :: D):=⟨fun y=>by
 constructor
 ·intro z
  rcases aU0.mp z with z | z
  ·rw [z]; exact⟨_,e,hk,by omega⟩
  ·obtain ⟨j,q,hj,hl⟩:=(S.mem y).mp z
   exact⟨j,q,hj,by omega⟩
 ·rintro ⟨j,q,hj,hl⟩
  by_cases ej:j=P.length - 1 - i
  ·subst ej
   rw [hk] at hj
   cases hj
   exact aS8
  ·exact aT5 _ ((S.mem y).mpr ⟨j,q,hj,by omega⟩)⟩
theorem iA.notin {n:Nat}{ls:List (Int × Int)}{P:bX}{i:Nat}{D:List Int}{h:Int}{e:Option Int} (S:iA P i D) (R:Rt n ls P) (il:i < P.length) (hk:P[P.length - 1 - i]? = some (h,e)):h ∉ D:=fun z=>by
 obtain ⟨j,q,hj,hl⟩:=(S.mem h).mp z
 have:=(jI R.nd hj hk).1
 omega
theorem iA.elder {n:Nat}{ls:List (Int × Int)}{P:bX}{i:Nat}{D:List Int}{h:Int}{e:Option Int} (S:iA P i D) (R:Rt n ls P) (il:i < P.length) (hk:P[P.length - 1 - i]? = some (h,e)):∀ y ∈ D,(h,some y) ∉ P:=fun y hy z=>by
 obtain ⟨j,q,hj,hl⟩:=(S.mem y).mp hy
 cases oS R.nd z (aT4 hk)
 obtain ⟨j',q',jk,hj',_⟩:=R.par _ h y hk
 have:=(jI R.nd hj hj').1
 omega
theorem W6 {n:Nat}{ls:List (Int × Int)}{P:bX} (R:Rt n ls P):P.length<=n:=by
 have:=fX R.nd (m:=rng n) fun x hx=>(R.mem x).mp hx
 rwa [aS9,dL] at this
theorem aL4 {P:bX}{i:Nat}{y:PV} (hy:(cO P).reverse[i]? = some y):i < P.length/\∃ h e,P[P.length - 1 - i]? = some (h,e)/\y=rV (h,e):=by
 have il:i < P.length:=by have:=(aT3.mp hy).1; rwa [List.length_reverse,iM] at this
 rw [List.getElem?_reverse (by rw [iM]; exact il),iM] at hy
 unfold cO at hy
 rw [aT7] at hy
 obtain ⟨⟨h,e⟩,hk⟩:∃ p,P[P.length - 1 - i]? = some p:=⟨_,aU1 (by omega)⟩
 rw [hk] at hy
 cases hy
 exact⟨il,h,e,hk,rfl⟩
theorem W7 (n:Nat) (a b:Int):(List.replicate n [PV.tup [.int a,.int b]]).flatten=b6 (List.replicate n (a,b)):=by
 induction n with
 | zero=>rfl
 | succ n ih=>rw [aY8,bc9,ih,aY8]; rfl
theorem aL5:cA W0 ["web","prices","pairs","known","around","ledger","hearth","elder","below"] sA:=by
 rintro xs Q ⟨ws,ls,x,ps,rfl,wb,lk,w,nn,hx,⟨gl,gn⟩,q⟩
 have few:=wb.few
 refine⟨_,rfl,ws,ls,rfl,wb,lk,w,fun P R=>⟨trivial,?_⟩⟩
 have pl:=W6 R
 refine⟨_,rfl,_,rfl,ws,ls,rfl,x,ps,ws.length,rfl,hx,gl,by omega,gn,trivial,?_⟩
 refine⟨_,rfl,ws,ls,rfl,wb,trivial,?_⟩
 refine⟨by show 2<=1000; decide,rfl,by show 1<=1000; decide,rfl,_,rfl,ws,ls,rfl,_,_,rfl,rfl,rfl,by omega,by omega,by show 1<=10; decide,rfl,?_,?_⟩
 ·show flats (List.replicate (ws.length:Int).toNat [PV.tup [.int 0,.int 0]]).flatten=true
  rw [W7]; exact oF _
 show (aE _ _) _ [some (Slot.sh (flat (bE ws ls)) (bE ws ls)),some (Slot.sh (flat x) x),_,_,_,some (Slot.own (.lst (List.replicate (ws.length:Int).toNat [PV.tup [.int 0,.int 0]]).flatten)),_,_,_]
 rw [W7,aV4,K8]
 refine⟨_,rfl,cO P,rfl,(fun z=>by cases z),fun i ρ=>∃ (L:cK) (D:List Int) (y6 y7 y8:Option Slot),ρ = [some (.sh true (bE ws ls)),some (Slot.sh (flat x) x),some (.sh true (.lst (cO P))),some (.sh true (.tup (intz ps))),some (.sh true (.lst (cR ws.length ls))),some (.own (.lst (b6 L))),y6,y7,y8]/\L.length=ws.length/\iA P i D/\∀ h e,(h,e) ∈ P->h ∈ D->rZ ws ps ls L h e,⟨_,[],none,none,none,rfl,bd5,iA.nil,fun _ _ _ z=>by cases z⟩,?_,?_⟩
 ·rintro i y ρ hy ⟨L,D,y6,y7,y8,rfl,ll,S,ok⟩
  obtain ⟨il,h,e,hk,rfl⟩:=aL4 hy
  have hp:=aT4 hk
  have hr:=(R.mem h).mp (aU8.mpr ⟨_,hp,rfl⟩)
  have hm:=cJ.mp hr
  refine⟨_,_,rfl,?_⟩
  refine aL3 lk few nn gl ll hr fun y8=>⟨_,h :: D,_,_,y8,rfl,by rw [aX4]; exact ll,S.next il hk,fun g e' hg gd=>?_⟩
  have hD:=S.notin R il hk
  have kid:∀ c ∈ aT ls g e',c ≠ h/\0<=c:=fun c hc=>by
   have cp:=(R.kid lk.fit hg).mp hc
   have cr:=cJ.mp ((R.mem c).mp (aU8.mpr ⟨_,cp,rfl⟩))
   refine⟨fun z=>?_,cr.1⟩
   subst z
   rcases aU0.mp gd with z | z
   ·subst z
    exact lk.fit.irr g (gQ.mp hc).1
   ·exact S.elder R il hk g z cp
  unfold rZ
  rw [bb4 (g:=aR L) fun c hc=>W5 hm.1 (kid c hc).2 (kid c hc).1]
  rcases aU0.mp gd with z | z
  ·subst z
   cases oS R.nd hg hp
   rw [aL2 hm.1 (by omega)]
  ·have gr:=cJ.mp ((R.mem g).mp (aU8.mpr ⟨_,hg,rfl⟩))
   rw [W5 hm.1 gr.1 fun z'=>hD (by rw [<- z']; exact z)]
   exact ok g e' hg z
 ·rintro ρ ⟨L,D,y6,y7,y8,rfl,ll,S,ok⟩
  refine⟨_,rfl,⟨_,_,rfl,rfl,oF _,trivial,q P L R ⟨ll,fun h e he=>ok h e he ?_⟩⟩,fun ns z=>by cases z⟩
  rw [List.length_reverse,iM] at S
  obtain ⟨j,hj⟩:=gE he
  exact (S.mem h).mpr ⟨j,e,hj,by omega⟩
section
variable {n : Nat} {ls : List (Int × Int)} {P P' : bX}
theorem Rt.pair (R:Rt n ls P) {h:Int} (hh:h ∈ rng n):∃ e,(h,e) ∈ P:=by
 obtain ⟨⟨h',e⟩,hp,rfl⟩:=aU8.mp ((R.mem h).mpr hh)
 exact⟨e,hp⟩
theorem Rt.inr (R:Rt n ls P) {h:Int}{e:Option Int} (hp:(h,e) ∈ P):h ∈ rng n:=(R.mem h).mp (aU8.mpr ⟨_,hp,rfl⟩)
theorem W8 (R:Rt n ls P) (R':Rt n ls P'):∀ (i:Nat) (h:Int) (e':Option Int),P'[i]? = some (h,e')->(h,e') ∈ P:=by
 intro i
 induction i using Nat.strongRecOn with
 | ind i ih=>
  intro h e' hi
  cases e' with
  | none=>exact (R.root h).mpr ((R'.root h).mp (aT4 hi))
  | some g=>
   obtain ⟨j,q,ji,hj,gn⟩:=R'.par i h g hi
   obtain ⟨e,he⟩:=R.pair (R'.inr (aT4 hi))
   rcases R.done h e he g gn with z | z
   ·rw [<- z]; exact he
   ·have:=oS R.nd (ih j ji g q hj) z
    subst this
    obtain ⟨k,q2,kj,hk,_⟩:=R'.par j g h hj
    have:=(jI R'.nd hk hi).1
    omega
theorem aL6 (R:Rt n ls P) (R':Rt n ls P') {h:Int}{e:Option Int}:(h,e) ∈ P ↔ (h,e) ∈ P':=by
 constructor
 ·intro z; obtain ⟨i,hi⟩:=gE z; exact W8 R' R i h e hi
 ·intro z; obtain ⟨i,hi⟩:=gE z; exact W8 R R' i h e hi
theorem Rt.leaf (R:Rt n ls P) (f:eI ls) {C:Int->Option Int->Prop} (step:∀ h e,(h,e) ∈ P->(∀ c ∈ aT ls h e,C c (some h))->C h e):∀ h e,(h,e) ∈ P->C h e:=by
 have key:∀ (k i:Nat) (h:Int) (e:Option Int),i+k=P.length->P[i]? = some (h,e)->C h e:=by
  intro k
  induction k using Nat.strongRecOn with
  | ind k ih=>
   intro i h e ik hi
   refine step h e (aT4 hi) fun c hc=>?_
   obtain ⟨j,hj⟩:=gE ((R.kid f (aT4 hi)).mp hc)
   obtain ⟨i',q,ij,hi',_⟩:=R.par j c h hj
   have:=(jI R.nd hi' hi).1
   have jl:=(aT3.mp hj).1
   exact ih (P.length - j) (by omega) j c (some h) (by omega) hj
 intro h e hp
 obtain ⟨i,hi⟩:=gE hp
 have il:=(aT3.mp hi).1
 exact key (P.length - i) i h e (by omega) hi
end
section
variable {ws ps : List Int} {ls : List (Int × Int)} {P : bX} {L : cK} {S O : List Int} {n : Nat}
structure wW (ws:List Int) (ls:List (Int × Int)) (S O:List Int):Prop where
 nd:O.Nodup
 inn:∀ x ∈ O,x ∈ rng ws.length
 kin:∀ (i:Nat) (h:Int),O[i]? = some h->h ∈ S ∨ ws.getD h.toNat 0<=(((aK ls h).filter fun x=>decide (x ∈ O.take i)).length:Int)
theorem aL7 (sub:∀ s ∈ S,s ∈ rng ws.length) (f:iL ws ls S=true):∀ (k:Nat) (O:List Int),wW ws ls S O->ws.length<=O.length+k->∃ O',wW ws ls S O'/\∀ h ∈ rng ws.length,h ∈ O':=by
 intro k
 induction k with
 | zero=>
  intro O K hl
  refine⟨O,K,fun h hh=>aY0 fun no=>?_⟩
  have:=fX (ba4.mpr ⟨no,K.nd⟩) (m:=rng ws.length) fun x hx=>(aU0.mp hx).elim (fun z=>z ▸ hh) (K.inn x)
  rw [aV8,dL] at this
  omega
 | succ k ih=>
  intro O K hl
  by_cases ex:∃ h ∈ rng ws.length,h ∉ O/\(h ∈ S ∨ ws.getD h.toNat 0<=(((aK ls h).filter fun x=>decide (x ∈ O)).length:Int))
  ·obtain ⟨h,hr,hO,hk⟩:=ex
   refine ih (O ++ [h]) ⟨bf0.mpr ⟨K.nd,aW1 _ _,fun a ha b hb z=>hO (by rw [<- aT0.mp hb,<- z]; exact ha)⟩,fun x hx=>?_,fun i g hi=>?_⟩ (by rw [aU6,aW5]; omega)
   ·rcases aT9.mp hx with z | z
    ·exact K.inn x z
    ·rw [aT0.mp z]; exact hr
   ·by_cases il:i < O.length
    ·rw [aY9 il] at hi
     rw [List.take_append_of_le_length (by omega)]
     exact K.kin i g hi
    ·have il2:=(aT3.mp hi).1
     rw [aU6,aW5] at il2
     have e:i=O.length:=by omega
     subst e
     rw [bf6 (aT2 _)] at hi
     have:g=h:=aT0.mp (aT4 hi)
     subst this
     rw [List.take_left' rfl]
     exact hk
  ·refine⟨O,K,fun h hh=>wB.mp f O (fun g hg=>?_) (fun s hs=>aY0 fun no=>ex ⟨s,sub s hs,no,.inl hs⟩) h hh⟩
   unfold kin
   by_cases gO:g ∈ O
   ·rw [aT1 gO]; rfl
   ·rw [Bool.and_eq_false_iff]
    exact .inr (aT8 fun z=>ex ⟨g,hg,gO,.inr z⟩)
noncomputable def gR (ws ps:List Int) (ls:List (Int × Int)) (L:cK) (h:Int) (e:Option Int):Prop:=0<=(aR L h).1/\(aR L h).1<=(aR L h).2/\(aR L h).1<=(jJ (ws.getD h.toNat 0) (ps.getD h.toNat 0) ((aT ls h e).map (aR L))).1/\(aR L h).2<=(jJ (ws.getD h.toNat 0) (ps.getD h.toNat 0) ((aT ls h e).map (aR L))).2
noncomputable def cW (O:List Int) (h:Int):List Int:=O.take (O.idxOf h)
noncomputable def dN (L:cK) (O:List Int) (h:Int):Option Int->Int
 | none=>(aR L h).2
 | some g=>if g ∈ cW O h then (aR L h).1 else (aR L h).2
theorem W9 {e:Option Int}{h:Int} (r:gR ws ps ls L h e) (e':Option Int):(aR L h).1<=dN L O h e':=by
 obtain ⟨_,r2,_⟩:=r
 cases e' with
 | none=>exact r2
 | some g=>unfold dN; split <;> omega
theorem aL8 {e:Option Int}{h:Int} (r:gR ws ps ls L h e) (e':Option Int):dN L O h e'<=(aR L h).2:=by
 obtain ⟨_,r2,_⟩:=r
 cases e' with
 | none=>exact bc6 _
 | some g=>unfold dN; split <;> omega
theorem aL9 (nd:O.Nodup) {a b:Int} (ha:a ∈ O) (h:b ∈ cW O a):a ∉ cW O b:=fun z=>by
 unfold cW at h z
 obtain ⟨i,hi,e1⟩:=List.mem_take_iff_getElem.mp h
 obtain ⟨j,hj,e2⟩:=List.mem_take_iff_getElem.mp z
 have k1:O.idxOf b=i:=by rw [<- e1]; exact nd.idxOf_getElem i (by omega)
 have k2:O.idxOf a=j:=by rw [<- e2]; exact nd.idxOf_getElem j (by omega)
 omega
theorem X0 {f g:Int->Int}:∀ {l:List Int},(∀ x ∈ l,f x<=g x)->(l.map f).sum<=(l.map g).sum
 | [],_=>bc6 _
 | x :: r,h=>by
  rw [aV5,aV5,aW7,aW7]
  have:=X0 (l:=r) fun y hy=>h y (aT5 _ hy)
  have:=h x aS8
  omega
theorem X1 {a b v:Int->Int} (q:Int->Bool):∀ {l:List Int},(∀ x ∈ l,a x<=v x)->(∀ x ∈ l,q x=true->v x=b x)->(l.map a).sum+((l.filter q).map fun x=>b x - a x).sum<=(l.map v).sum
 | [],_,_=>bc6 _
 | x :: r,h1,h2=>by
  have ih:=X1 q (l:=r) (fun y hy=>h1 y (aT5 _ hy)) fun y hy=>h2 y (aT5 _ hy)
  have k1:=h1 x aS8
  rw [aV5,aV5,aW7,aW7,bb2]
  cases hq:q x with
  | true=>
   have:=h2 x aS8 hq
   rw [if_pos rfl,aV5,aW7]; omega
  | false=>rw [if_neg (by simp)]; omega
theorem aM0 (R:Rt ws.length ls P) (f:eI ls) (K:wW ws ls S O) (all:∀ h ∈ rng ws.length,h ∈ O) (nn:NN ws) (right:∀ h e,(h,e) ∈ P->gR ws ps ls L h e) {h:Int}{e:Option Int} (hp:(h,e) ∈ P) :
  dN L O h e<=((aT ls h e).map fun c=>dN L O c (some h)).sum+(if h ∈ S then ps.getD h.toNat 0 else 0):=by
 have hO:=all h (R.inr hp)
 have rh:=right h e hp
 have rc:∀ c ∈ aT ls h e,gR ws ps ls L c (some h):=fun c hc=>right c (some h) ((R.kid f hp).mp hc)
 have w0:=jG nn h.toNat
 have e1:((aT ls h e).map (aR L)).map (·.1)=(aT ls h e).map fun c=>(aR L c).1:=aY7 ..
 have e2:e8 ((aT ls h e).map (aR L))=(aT ls h e).map fun c=>(aR L c).2 - (aR L c).1:=by unfold e8; rw [aY7]; rfl
 have low:=X0 (l:=aT ls h e) (f:=fun c=>(aR L c).1) (g:=fun c=>dN L O c (some h)) fun c hc=>W9 (rc c hc) _
 have mle:∀ w p (bl:cK),eV w p bl<=(bl.map (·.1)).sum+p:=fun w p bl=>by unfold eV; split <;> omega
 by_cases hS:h ∈ S
 ·rw [if_pos hS]
  have v1:=aL8 (O:=O) rh e
  obtain ⟨_,_,_,r4⟩:=rh
  have:=mle (ws.getD h.toNat 0) (ps.getD h.toNat 0) ((aT ls h e).map (aR L))
  rw [e1] at this
  have r4:(aR L h).2<=eV (ws.getD h.toNat 0) (ps.getD h.toNat 0) ((aT ls h e).map (aR L)):=r4
  omega
 ·rw [if_neg hS]
  obtain ⟨i,hi⟩:=bg2.mp hO
  have ix:O.idxOf h=i:=by
   obtain ⟨il,ee⟩:=aT3.mp hi
   rw [<- ee]; exact K.nd.idxOf_getElem i il
  have kn:=(K.kin i h hi).resolve_left hS
  have bo:cW O h=O.take i:=by unfold cW; rw [ix]
  rw [<- bo] at kn
  have gp:=X1 (fun c=>decide (c ∈ cW O h)) (l:=aT ls h e) (a:=fun c=>(aR L c).1) (b:=fun c=>(aR L c).2) (v:=fun c=>dN L O c (some h)) (fun c hc=>W9 (rc c hc) _) fun c hc q=>by
   have cb:=aW8 q
   show (if h ∈ cW O c then (aR L c).1 else (aR L c).2)=_
   rw [if_neg (aL9 K.nd hO cb)]
  have key:∀ w:Int,0<=w->w<=(((aT ls h e).filter fun c=>decide (c ∈ cW O h)).length:Int)->eV w (ps.getD h.toNat 0) ((aT ls h e).map (aR L))<=((aT ls h e).map fun c=>dN L O c (some h)).sum:=fun w wp wl=>by
   have ll:=aB8 (oQ (e8 ((aT ls h e).map (aR L)))).1 (oQ (e8 ((aT ls h e).map (aR L)))).2 (t:=((aT ls h e).filter fun c=>decide (c ∈ cW O h)).map fun c=>(aR L c).2 - (aR L c).1) (by rw [e2]; exact List.filter_sublist.map _) (fun x hx=>by
    rw [e2] at hx
    obtain ⟨c,hc,rfl⟩:=aU8.mp hx
    have:=(rc c hc).2.1
    omega) (k:=w.toNat) (by rw [aS9]; omega)
   have fl:=aX9 (fun c=>decide (c ∈ cW O h)) (aT ls h e)
   unfold eV
   rw [if_pos (by rw [aS9]; omega),e1]
   have gp:((aT ls h e).map fun c=>(aR L c).1).sum+(((aT ls h e).filter fun c=>decide (c ∈ cW O h)).map fun c=>(aR L c).2 - (aR L c).1).sum<=((aT ls h e).map fun c=>dN L O c (some h)).sum:=gp
   omega
  have cnt:∀ g,e=some g->((aK ls h).filter fun x=>decide (x ∈ cW O h)).length<=(if g ∈ cW O h then 1 else 0)+((aT ls h e).filter fun c=>decide (c ∈ cW O h)).length:=fun g eg=>by
   by_cases gb:g ∈ cW O h
   ·rw [if_pos gb]
    have:=fX ((f.nnd h).filter _) (m:=g :: (aT ls h e).filter fun c=>decide (c ∈ cW O h)) fun x hx=>by
     obtain ⟨x1,x2⟩:=aU4.mp hx
     by_cases xg:x=g
     ·rw [xg]; exact aS8
     ·exact aT5 _ (aU4.mpr ⟨gQ.mpr ⟨x1,by rw [eg]; exact fun z=>xg (aV2 z)⟩,x2⟩)
    rw [aV8] at this
    omega
   ·rw [if_neg gb]
    have:=fX ((f.nnd h).filter _) (m:=(aT ls h e).filter fun c=>decide (c ∈ cW O h)) fun x hx=>by
     obtain ⟨x1,x2⟩:=aU4.mp hx
     exact aU4.mpr ⟨gQ.mpr ⟨x1,by rw [eg]; exact fun z=>gb (by rw [<- aV2 z]; exact aW8 x2)⟩,x2⟩
    omega
  obtain ⟨_,_,r3,r4⟩:=rh
  have r3:(aR L h).1<=eV (max 0 (ws.getD h.toNat 0 - 1)) (ps.getD h.toNat 0) ((aT ls h e).map (aR L)):=r3
  have r4:(aR L h).2<=eV (ws.getD h.toNat 0) (ps.getD h.toNat 0) ((aT ls h e).map (aR L)):=r4
  cases e with
  | none=>
   have c0:=fX ((f.nnd h).filter fun x=>decide (x ∈ cW O h)) (m:=(aT ls h none).filter fun c=>decide (c ∈ cW O h)) fun x hx=>by
    obtain ⟨x1,x2⟩:=aU4.mp hx
    exact aU4.mpr ⟨gQ.mpr ⟨x1,fun z=>by cases z⟩,x2⟩
   have:=key _ w0 (by omega)
   show (aR L h).2<=_
   omega
  | some g=>
   have c0:=cnt g rfl
   show (if g ∈ cW O h then (aR L h).1 else (aR L h).2)<=_
   by_cases gb:g ∈ cW O h
   ·rw [if_pos gb] at c0 ⊢
    have:=key (max 0 (ws.getD h.toNat 0 - 1)) (by omega) (by omega)
    omega
   ·rw [if_neg gb] at c0 ⊢
    have:=key _ w0 (by omega)
    omega
noncomputable def jK (P:bX):List Int:=(P.filter fun p=>p.2.isNone).map (·.1)
theorem X2 {α:Type} (f:Int->Int) (g:α->List Int):∀ l:List α,((l.flatMap g).map f).sum=(l.map fun p=>((g p).map f).sum).sum
 | []=>rfl
 | x :: r=>by rw [List.flatMap_cons,aV0,List.sum_append,X2 f g r,aV5,aW7]
theorem X3 {α:Type}{f g:α->Int}:∀ {l:List α},(∀ x ∈ l,f x<=g x)->(l.map f).sum<=(l.map g).sum
 | [],_=>bc6 _
 | x :: r,h=>by
  rw [aV5,aV5,aW7,aW7]
  have:=X3 (l:=r) fun y hy=>h y (aT5 _ hy)
  have:=h x aS8
  omega
theorem X4 {α:Type} (f g:α->Int):∀ l:List α,(l.map fun x=>f x+g x).sum=(l.map f).sum+(l.map g).sum
 | []=>rfl
 | x :: r=>by rw [aV5,aV5,aV5,aW7,aW7,aW7,X4 f g r]; omega
theorem aM1 (R:Rt n ls P) (f:eI ls):(P.flatMap fun p=>aT ls p.1 p.2).Perm ((P.filter fun p=>p.2.isSome).map (·.1)):=by
 refine (bg0 ?_ (List.Pairwise.sublist (List.filter_sublist.map _) R.nd)).mpr fun c=>?_
 ·refine List.pairwise_flatMap.mpr ⟨fun p _=>(f.nnd p.1).filter _,?_⟩
  refine (bb6.mp R.nd).imp_of_mem fun {p q} hp hq ne x hx y hy e=>ne ?_
  subst e
  have a:=(R.kid f (h:=p.1) (e:=p.2) hp).mp hx
  have b:=(R.kid f (h:=q.1) (e:=q.2) hq).mp hy
  exact aV2 (oS R.nd a b)
 ·rw [List.mem_flatMap,aU8]
  constructor
  ·rintro ⟨p,hp,hc⟩
   exact⟨(c,some p.1),aU4.mpr ⟨(R.kid f (h:=p.1) (e:=p.2) hp).mp hc,rfl⟩,rfl⟩
  ·rintro ⟨⟨c',e⟩,hq,rfl⟩
   obtain ⟨h1,h2⟩:=aU4.mp hq
   cases e with
   | none=>cases h2
   | some g=>
    obtain ⟨i,hi⟩:=gE h1
    obtain ⟨j,q,_,hj,_⟩:=R.par i c' g hi
    exact⟨(g,q),aT4 hj,(R.kid f (aT4 hj)).mpr h1⟩
theorem wX (F:Int × Option Int->Int):∀ P:bX,(P.map F).sum=((P.filter fun p=>p.2.isSome).map F).sum+((P.filter fun p=>p.2.isNone).map F).sum
 | []=>rfl
 | (h,none) :: P=>by
  rw [ba9 (by simp),bc7 rfl,aV5,aV5,aW7,aW7,wX F P]; omega
 | (h,some g) :: P=>by
  rw [bc7 rfl,ba9 (by simp),aV5,aV5,aW7,aW7,wX F P]; omega
theorem X5 (R:Rt ws.length ls P) (f:eI ls) (nn:NN ws) (hS:b7 ws.length S=true) (full:iL ws ls S=true) (right:∀ h e,(h,e) ∈ P->gR ws ps ls L h e):((jK P).map fun r=>(aR L r).2).sum<=(S.map fun s=>ps.getD s.toNat 0).sum:=by
 have sub:∀ s ∈ S,s ∈ rng ws.length:=fun s hs=>cJ.mpr ((dX hS).2 s hs)
 obtain ⟨O,K,all⟩:=aL7 sub full ws.length [] ⟨be8,(fun _ z=>by cases z),fun i h hi=>by cases hi⟩ (by omega)
 have l1:=X3 (l:=P) (f:=fun p=>dN L O p.1 p.2) (g:=fun p=>((aT ls p.1 p.2).map fun c=>dN L O c (some p.1)).sum+(if p.1 ∈ S then ps.getD p.1.toNat 0 else 0)) fun p hp=>aM0 R f K all nn right (h:=p.1) (e:=p.2) hp
 rw [X4] at l1
 let F:Int->Int:=fun c=>((P.find? fun p=>decide (p.1=c)).map fun p=>dN L O p.1 p.2).getD 0
 have Fp:∀ c e,(c,e) ∈ P->F c=dN L O c e:=fun c e hp=>by
  show ((P.find? fun p=>decide (p.1=c)).map fun p=>dN L O p.1 p.2).getD 0=_
  cases z:P.find? fun p=>decide (p.1=c) with
  | none=>have:=List.find?_eq_none.mp z _ hp; simp at this
  | some p=>
   have a:=List.find?_some z
   have b:=List.mem_of_find?_eq_some z
   have a:p.1=c:=by simpa using a
   obtain ⟨c',e'⟩:=p
   dsimp only at a
   subst a
   cases oS R.nd b hp
   rfl
 have l2:(P.map fun p=>((aT ls p.1 p.2).map fun c=>dN L O c (some p.1)).sum).sum=((P.filter fun p=>p.2.isSome).map fun p=>dN L O p.1 p.2).sum:=by
  have a:(P.map fun p=>((aT ls p.1 p.2).map fun c=>dN L O c (some p.1)).sum)=P.map fun p=>((aT ls p.1 p.2).map F).sum:=bb4 fun p hp=>by
   rw [bb4 fun c hc=>(Fp c (some p.1) ((R.kid f (h:=p.1) (e:=p.2) hp).mp hc)).symm]
  rw [a,<- X2 F (fun p:Int × Option Int=>aT ls p.1 p.2) P,vR ((aM1 R f).map F),aY7]
  congr 1
  exact bb4 fun p hp=>Fp p.1 p.2 (aU4.mp hp).1
 have l3:(P.map fun p=>if p.1 ∈ S then ps.getD p.1.toNat 0 else 0).sum=(S.map fun s=>ps.getD s.toNat 0).sum:=by
  have a:∀ l:List Int,(l.map fun h=>if h ∈ S then ps.getD h.toNat 0 else 0).sum=((l.filter fun h=>decide (h ∈ S)).map fun s=>ps.getD s.toNat 0).sum:=fun l=>by
   induction l with
   | nil=>rfl
   | cons x r ih=>
    rw [aV5,aW7,ih,bb2]
    by_cases z:x ∈ S
    ·rw [if_pos z,if_pos (aT1 z),aV5,aW7]
    ·rw [if_neg z,if_neg (by simpa using z)]; omega
  have b:=a (P.map (·.1))
  rw [aY7] at b
  rw [show (P.map fun p=>if p.1 ∈ S then ps.getD p.1.toNat 0 else 0)=P.map ((fun h=>if h ∈ S then ps.getD h.toNat 0 else 0) ∘ fun p:Int × Option Int=>p.1) from rfl,b]
  refine vR (List.Perm.map _ ((bg0 (R.nd.filter _) (wQ hS)).mpr fun x=>?_))
  rw [aU4,bb7]
  exact⟨fun z=>z.2,fun z=>⟨(R.mem x).mpr (sub x z),z⟩⟩
 have l4:=wX (fun p=>dN L O p.1 p.2) P
 have l5:((P.filter fun p=>p.2.isNone).map fun p=>dN L O p.1 p.2).sum=((jK P).map fun r=>(aR L r).2).sum:=by
  unfold jK
  rw [aY7]
  congr 1
  refine bb4 fun p hp=>?_
  obtain ⟨h,e⟩:=p
  obtain ⟨_,z⟩:=aU4.mp hp
  cases e with
  | none=>rfl
  | some g=>cases z
 rw [l2,l3] at l1
 omega
end
end Core
namespace L2
open PySem PySem.Spec PyProof.Rows
section
variable {X : Cx} {pins : List (Addr × Obj)} {σ : St} {H H1 H' : Hp} {s s1 s' : Shared} {B : Heap} {a C Ch : Addr} {x : Str} {np pos hpos : Pos} {b₀ : Stmt} {suite body : List Stmt} {tb : TB} {ts : TS} {D : cX} {cS : List ExceptHandler}
theorem aM2 (I:a6 X pins σ H1 s1) (fl:kY X.prog X.w X.stack H1 s1 H' B a C s') (hstk:X.stack=X.env :: X.outer/\X.env.frame=some X.env.locals) (hg:Gl X x) (hm:X.mg x=some (.ref Ch)) (ct:vC X.K Ch) (sub:PySem.W.subIn X.K (.ref C) (.ref Ch)=some true)
  (hs:dO (X.suite a) (b₀ :: suite) ts) (q:∀ oe:Obj,oe.cls = .ref C->ts D σ (upd H' a (.frz oe (.own a)))) (hd:(x == ("__debug__" : Str))=false) :
  wpAny (model X.prog X.w) X.A (noteFrame (.ref a) X.env) (fun _ s₂=>wpAny (model X.prog X.w) X.A (setFlight (.ref a) none) (fun _ s₃=>wpAny (model X.prog X.w) X.A (handleBy (.ref a) X.env (.ExceptHandler (some (.Name x np)) none (b₀ :: suite) hpos :: cS)) (SP X pins D) X.xe s₃) X.xe s₂) X.xe s':=by
 obtain ⟨a0,fly⟩:=fl.fly
 rw [hstk.1] at fly
 refine wpAny_looks_onW (outer:=X.outer) (L:=X.env.locals) (by rw [I.ok.frames,hstk.1]) hstk.2 fly fun h4 held up4=>wpAny_landsW held fun h5 fly5 up5=>?_
 obtain ⟨o5,v5,e5,c5,_⟩:=fly5.first
 have I5:=K4 I fl fly5.1 (up4.trans up5) e5
 refine wpAny_handleBy_cons (codeAny_handlers_test (oX (I5.suite a) hg hm ?_ hd)) (by intro z; cases z)
 refine aw7 I5.kIn e5 c5 ct.c1 ct.c2 ct.c3 sub ?_
 show codeAny (model X.prog X.w) (X.A.mark (some (.ref a))) (.handlers (.ref a) [.ExceptHandler none none (b₀ :: suite) hpos] X.env) _ _
 refine codeAny_handlers_suite (lands_againW fly5 fun h6 fly6 up6=>?_)
 obtain ⟨o6,v6,e6,c6,_⟩:=fly6.first
 have I6:=K4 I fl fly6.1 ((up4.trans up5).trans up6) e6
 refine ba6 (hs pins _ _ _ D (I6.suite a) (q o6 c6)) (fun f s8 h8=>?_) fun _ _ z=>z.elim
 show SP X pins D f s8
 cases f with
 | next=>obtain ⟨σ',H',J,q⟩:=h8; exact⟨_,_,J.unsuite I.ok,q⟩
 | brk=>obtain ⟨σ',H',J,q⟩:=h8; exact⟨_,_,J.unsuite I.ok,q⟩
 | cont=>obtain ⟨σ',H',J,q⟩:=h8; exact⟨_,_,J.unsuite I.ok,q⟩
 | ret u=>obtain ⟨v,σ',H',J,r,q⟩:=h8; exact⟨v,_,_,J.unsuite I.ok,r,q⟩
noncomputable def X6 (K:PySem.W.Frag) (Ch:Addr) (tb:TB) (ts:TS):TS:=fun D σ H=>
 tb D (fun c _ H'=>∀ (a C:Addr) (oe:Obj),c = .ref C->H' a=none->oe.cls = .ref C->PySem.W.subIn K (.ref C) (.ref Ch)=some true/\ts D σ (upd H' a (.frz oe (.own a)))) σ H
theorem aM3 (hstk:X.stack=X.env :: X.outer/\X.env.frame=some X.env.locals) (hb:PB X body tb) (hg:Gl X x) (hm:X.mg x=some (.ref Ch)) (ct:vC X.K Ch) (hs:∀ a,dO (X.suite a) (b₀ :: suite) ts)
  (hd:(x == ("__debug__" : Str))=false:=by decide):PS X (.Try body [.ExceptHandler (some (.Name x np)) none (b₀ :: suite) hpos] [] [] pos) (X6 X.K Ch tb ts):=by
 intro pins s σ H D I h
 refine wpAny_Try_except (ba6 (hb pins s σ H D _ I h) (fun fl s1 q=>?_) (fun ev s1 q=>?_))
 ·cases fl with
  | next=>exact wpAny_execs_nil q
  | _=>exact q
 ·obtain ⟨H1,s2,I1,H',B,a,C,e1,fl,q⟩:=q
  subst e1
  obtain ⟨a0,fly⟩:=fl.fly
  obtain ⟨o5,_,_,c5,_⟩:=fly.first
  exact aM2 I1 fl hstk hg hm ct (q a C o5 rfl fl.fresh c5).1 (hs a) (fun oe hc=>(q a C oe rfl fl.fresh hc).2) hd
end
end L2
namespace PP
open PySem L2
section
variable {X : Cx} {σ : L2.St} {H : Hp} {D : cX} {np hp pos : Pos}
noncomputable def wY (m:Str) (tb:mF) (ts:aN):aN:=fun D ρ=>tb D (fun n=>oM n m=some true/\ts D ρ) ρ
theorem aM4 {m:Str}{Ch:Addr}{tb:mF}{ts:aN} (hs:∀ n C,oM n m=some true->PySem.W.nsIn X.K mainGlobals n=some (some (.ref C))->PySem.W.subIn X.K (.ref C) (.ref Ch)=some true) (h:LS X (wY m tb ts) D σ H):X6 X.K Ch (LB X tb) (LS X ts) D σ H:=by
 obtain ⟨W,ρ,D',px,q,k⟩:=h
 refine⟨W,ρ,D',_,px,q,k,fun n C H' s z1 z2 a C' oe hc na hcl=>?_⟩
 cases hc
 exact⟨hs n C z2.1 z1,W,_,D',px.mono (s.trans (bL na _)),z2.2,k.step (Ev.same (W:=W) (s.trans (bL na (.frz oe (.own a)))))⟩
theorem aM5 {m:Str}{b₀:Stmt}{suite body:List Stmt}{tb:mF}{ts:aN} (ct:vV X.K X.mg m) (hb:QB X body tb) (hs:∀ a,eR (X.suite a) (b₀ :: suite) ts) (hstk:X.stack=X.env :: X.outer/\X.env.frame=some X.env.locals:=by exact⟨rfl,rfl⟩) (hg:Gl X m:=by rfl)
  (hd:(m == ("__debug__" : Str))=false:=by decide):QS X (.Try body [.ExceptHandler (some (.Name m np)) none (b₀ :: suite) hp] [] [] pos) (wY m tb ts):=by
 obtain ⟨Ch,hm,c,sub⟩:=ct.ex
 exact dH (aM3 (ts:=LS X ts) hstk hb hg hm c (fun a=>uY (hs a) fun _ _ _ ⟨W,ρ,D',px,q,k⟩=>⟨W,ρ,D',px,q,⟨k.nx,k.rt,k.bk,k.ct⟩⟩) hd) fun _ _ _=>aM4 sub
end
end PP
namespace Core
open PySem L2 PP
noncomputable def sC:bH:=fun xs Q=>∃ a b c d:Int,xs = [.tup [.int a,.int b],.tup [.int c,.int d]]/\Q (.bl (decide (0<=a/\a<=b/\a<=c/\b<=d)))
noncomputable def X7:aN:=(bP (kK (qK (qC (.int 0)) (bA (a5 0) (qC (.int 0)))) (kK (qK (bA (a5 0) (qC (.int 0))) (bA (a5 0) (qC (.int 1)))) (kK (qK (bA (a5 0) (qC (.int 0))) (bA (a5 1) (qC (.int 0)))) (qK (bA (a5 0) (qC (.int 1))) (bA (a5 1) (qC (.int 1))))))))
theorem aM6:cA X7 ["told","most"] sC:=by
 rintro xs Q ⟨a,b,c,d,rfl,q⟩
 refine⟨_,rfl,_,_,_,rfl,rfl,rfl,_,_,rfl,rfl,_,rfl,?_⟩
 by_cases h1:0<=a
 ·rw [aT1 h1]
  refine bN ⟨_,rfl,_,_,_,rfl,rfl,rfl,_,rfl,_,_,_,rfl,rfl,rfl,_,_,rfl,rfl,_,rfl,?_⟩
  by_cases h2:a<=b
  ·rw [aT1 h2]
   refine bN ⟨_,rfl,_,_,_,rfl,rfl,rfl,_,rfl,_,_,_,rfl,rfl,rfl,_,_,rfl,rfl,_,rfl,?_⟩
   by_cases h3:a<=c
   ·rw [aT1 h3]
    refine bN ⟨_,rfl,_,_,_,rfl,rfl,rfl,_,rfl,_,_,_,rfl,rfl,rfl,_,_,rfl,rfl,trivial,?_⟩
    rw [show decide (0<=a/\a<=b/\a<=c/\b<=d)=decide (b<=d) from decide_eq_decide.mpr ⟨fun z=>z.2.2.2,fun z=>⟨h1,h2,h3,z⟩⟩] at q
    exact q
   ·rw [aT8 h3]
    rw [aT8 fun z=>h3 z.2.2.1] at q
    exact bF ⟨trivial,q⟩
  ·rw [aT8 h2]
   rw [aT8 fun z=>h2 z.2.1] at q
   exact bF ⟨trivial,q⟩
 ·rw [aT8 h1]
  rw [aT8 fun z=>h1 z.1] at q
  exact bF ⟨trivial,q⟩
noncomputable def IsL (y:PV) (L:cK):Prop:=y = .tup (b6 L) ∨ y = .lst (b6 L)
theorem IsL.seq {y:PV}{L:cK} (h:IsL y L):iZ y=some (b6 L):=by rcases h with rfl | rfl <;> rfl
noncomputable def wZ (ws ps:List Int) (ls:List (Int × Int)) (P:bX) (L:cK):Prop:=L.length=ws.length/\∀ h e,(h,e) ∈ P->gR ws ps ls L h e
noncomputable def oV:fD:=fun Ep xs Q=>∃ ws ls x ps y L,xs = [bE ws ls,x,y]/\Wb ws ls/\eG ws.length ls/\e7 ws.length ls/\NN ws/\cV x ps/\lA ws.length ps/\IsL y L/\L.length<=1000/\∀ P,Rt ws.length ls P->(wZ ws ps ls P L->Q (.int ((jK P).map fun r=>(aR L r).2).sum))/\(¬ wZ ws ps ls P L->Ep "NoPaper")
noncomputable def X8 (Ep:Str->Prop):aN:=(aE (b8 8 (cD (cL (aB k7 (a7 (a5 5) (a7 (a5 6) (a7 (a5 7) a9))))) [none,some 2] (bQ 0) cM (bA (a5 1) (a5 0))))
  (cU (kJ (bJ (aB sC (a7 (bA (a5 2) (a5 6)) (a7 (aB mP (a7 (bA (bA (a5 0) (qC (.int 0))) (a5 6)) (a7 (bA (a5 4) (a5 6)) (a7 (a5 8) a9)))) a9))))) (oK Ep "NoPaper" (a7 (qC (.str "a pair of the ledger is not right")) a9)) cT))
noncomputable def x3 (Ep:Str->Prop):aN:=(aE (b8 3 (aB mO (a7 (a5 0) a9)))
 (aE (b8 4 (aB mE (a7 (a5 1) (a7 (aB fV (a7 (a5 0) a9)) a9))))
 (aE (cU (bJ (G6 (aB dU (a7 (a5 2) a9)) (aB fV (a7 (a5 0) a9)))) (oK Ep "NoPaper" (a7 (qC (.str "a ledger has a pair for each hearth")) a9)) cT)
 (aE (b8 5 (aB i4 (a7 (a5 0) a9)))
 (aE (eB (cL (a5 3)) (fQ 6 7)
  (X8 Ep))
 (bP (aB l8 (a7 (cD (cL (a5 3)) [none,none,some 2] (fQ 0 1) (bJ (au5 (a5 1) (qC .non))) (bA (bA (a5 2) (a5 0)) (qC (.int 1)))) a9))))))))
theorem X9 {P:bX}{i:Nat}{y:PV} (hy:(cO P)[i]? = some y):∃ h e,P[i]? = some (h,e)/\y = .tup [.int h,jZ e]:=by
 unfold cO at hy
 rw [aT7] at hy
 cases z:P[i]? with
 | none=>rw [z] at hy; cases hy
 | some p=>rw [z] at hy; obtain ⟨h,e⟩:=p; exact⟨h,e,rfl,(aV2 hy).symm⟩
section
variable {ws ps : List Int} {ls : List (Int × Int)} {P : bX} {L : cK} {h : Int} {e : Option Int} {E : gN} {s1 s3 y8 : Option Slot} {y : PV} {g : Bool} {Ep : Str → Prop}
theorem aM7 (lk:eG ws.length ls) (n40:ws.length<=40) (nn:NN ws) (pl:ps.length=ws.length) (ll:L.length=ws.length) (hr:h ∈ rng ws.length) (hy:IsL y L)
  (nx:gR ws ps ls L h e->∀ y8,E.nx [some (.sh true (bE ws ls)),s1,some (.sh g y),s3,some (.sh true (.tup (intz ps))),some (.sh true (.lst (cR ws.length ls))),si h,some (.sh true (jZ e)),y8]) (ne : ¬ gR ws ps ls L h e->Ep "NoPaper") :
  X8 Ep E [some (.sh true (bE ws ls)),s1,some (.sh g y),s3,some (.sh true (.tup (intz ps))),some (.sh true (.lst (cR ws.length ls))),si h,some (.sh true (jZ e)),y8]:=by
 have hm:=cJ.mp hr
 have nl:=lk.nlen h
 have kl:(aT ls h e).length<=ws.length:=by have:=aX9 (fun x=>!decide (some x=e)) (aK ls h); unfold aT; omega
 refine⟨_,rfl,_,rfl,_,rfl,ws.length,ls,h,e,rfl,hm.1,hm.2,by omega,intz (aT ls h e),rfl,(fun z=>by cases z),by rw [bD]; omega,fun i acc=>acc=b6 (((aT ls h e).take i).map (aR L)),rfl,?_,?_⟩
 ·rintro i y' acc hy' rfl
  obtain ⟨c,rfl,hc⟩:=gP hy'
  have cr:=cJ.mp (lk.inr h c (gQ.mp (aT4 hc)).1)
  refine⟨_,rfl,_,rfl,_,_,_,hy.seq,rfl,sB cr.1 (by omega),?_,?_⟩
  ·cases g <;> first | rfl | trivial
  dsimp only
  unfold b6
  rw [aX0,hc,aV0,aV0]; rfl
 ·rintro acc rfl
  rw [bD,aW0 (aT2 _)]
  have wp:0<=ws.getD h.toNat 0:=jG nn _
  refine⟨trivial,?_⟩
  refine⟨_,rfl,_,rfl,_,_,_,hy.seq,rfl,sB hm.1 (by omega),_,rfl,_,_,_,rfl,rfl,rfl,_,rfl,_,_,_,rfl,rfl,mI hm.1 hm.2,_,rfl,_,rfl,_,_,_,rfl,rfl,mI hm.1 (by omega),_,rfl,_,_,(aT ls h e).map (aR L),rfl,wp,by rw [aS9]; omega,_,_,_,_,rfl,_,rfl,?_⟩
  by_cases r:gR ws ps ls L h e
  ·rw [aT1 (show 0<=(aR L h).1/\(aR L h).1<=(aR L h).2/\(aR L h).1<=_/\(aR L h).2<=_ from r)]
   exact bF (nx r _)
  ·rw [aT8 (show ¬ (0<=(aR L h).1/\(aR L h).1<=(aR L h).2/\(aR L h).1<=_/\(aR L h).2<=_) from r)]
   exact bN ⟨by decide,ne r⟩
end
theorem aM8:vW x3 ["web","prices","ledger","pairs","known","around","hearth","elder","below"] oV:=by
 rintro Ep xs Q ⟨ws,ls,x,ps,y,L,rfl,wb,lk,w,nn,hx,⟨gl,gn⟩,hy,ll,q⟩
 have few:=wb.few
 show x3 Ep _ [some (.sh (flat (bE ws ls)) (bE ws ls)),some (.sh (flat x) x),some (.sh (flat y) y),none,none,none,none,none,none]
 rw [K8]
 refine⟨_,rfl,ws,ls,rfl,wb,lk,w,fun P R=>⟨trivial,?_⟩⟩
 obtain ⟨q1,q2⟩:=q P R
 have pl:=W6 R
 refine⟨_,rfl,_,rfl,ws,ls,rfl,x,ps,ws.length,rfl,hx,gl,by omega,gn,trivial,?_⟩
 refine⟨_,rfl,_,(b6 L).length,rfl,(by rcases hy with rfl | rfl <;> rfl),_,rfl,ws,ls,rfl,.inl ⟨_,_,rfl,rfl,_,rfl,?_⟩⟩
 rw [jX]
 show if (!decide ((L.length:Int)=(ws.length:Int)))=true then _ else _
 by_cases c:L.length=ws.length
 ·rw [aT1 (by omega)]
  refine bF ?_
  refine⟨_,rfl,ws,ls,rfl,wb,trivial,?_⟩
  refine⟨_,rfl,cO P,rfl,(fun z=>by cases z),fun i ρ=>∃ (y6 y7 y8:Option Slot),ρ = [some (.sh true (bE ws ls)),some (.sh (flat x) x),some (.sh (flat y) y),some (.sh true (.lst (cO P))),some (.sh true (.tup (intz ps))),some (.sh true (.lst (cR ws.length ls))),y6,y7,y8]/\∀ p ∈ P.take i,gR ws ps ls L p.1 p.2,⟨none,none,none,rfl,fun p hp=>by rw [List.take_zero] at hp; cases hp⟩,?_,?_⟩
  ·rintro i y' ρ hy' ⟨y6,y7,y8,rfl,ok⟩
   obtain ⟨h,e,hi,rfl⟩:=X9 hy'
   have hp:=aT4 hi
   refine⟨_,_,rfl,?_⟩
   refine aM7 lk few nn gl c (R.inr hp) hy (fun r y8=>⟨_,_,y8,rfl,fun p hp'=>?_⟩) fun no=>q2 fun z=>no (z.2 h e hp)
   rw [aX0,hi] at hp'
   rcases aT9.mp hp' with z | z
   ·exact ok p z
   ·cases aT0.mp z; exact r
  ·rintro ρ ⟨y6,y7,y8,rfl,ok⟩
   rw [iM,aW0 (aT2 _)] at ok
   have q0:=q1 ⟨c,fun h e hp=>ok (h,e) hp⟩
   refine⟨_,rfl,cO P,rfl,(fun z=>by cases z),by rw [iM]; omega,fun i acc=>acc=intz ((jK (P.take i)).map fun r=>(aR L r).2),rfl,?_,?_⟩
   ·rintro i y' acc hy' rfl
    obtain ⟨h,e,hi,rfl⟩:=X9 hy'
    have hm:=cJ.mp (R.inr (aT4 hi))
    have tk:jK (P.take (i+1))=jK (P.take i) ++ (if e.isNone=true then [h] else []):=by
     unfold jK
     rw [oE (p:=fun p:Int × Option Int=>p.2.isNone) hi,aV0]
     congr 1
     cases e <;> rfl
    refine⟨_,_,rfl,?_⟩
    refine⟨_,rfl,rfl,_,rfl,?_⟩
    cases e with
    | none=>
     refine bN ⟨_,rfl,_,rfl,_,_,_,hy.seq,rfl,sB hm.1 (by omega),_,_,_,rfl,rfl,rfl,?_,?_⟩
     ·cases flat y <;> first | rfl | trivial
     dsimp only
     rw [tk,if_pos (show (none:Option Int).isNone=true from rfl),aV0,gC]; rfl
    | some g=>
     refine bF ?_
     dsimp only
     rw [tk,if_neg (by simp),ba3]
   ·rintro acc rfl
    rw [iM,aW0 (aT2 _)]
    exact⟨_,_,rfl,rfl,trivial,q0⟩
 ·rw [aT8 (by omega)]
  exact bN ⟨by decide,q2 fun z=>c z.1⟩
theorem aM9 {bl:cK}{p:Int} (p0:0<=p) (ok:∀ r ∈ bl,0<=r.1/\r.1<=r.2):(∀ w:Int,0<=w->0<=eV w p bl)/\∀ w w':Int,0<=w->w<=w'->eV w p bl<=eV w' p bl:=by
 have s0:0<=(bl.map (·.1)).sum:=rB fun x hx=>by obtain ⟨r,hr,rfl⟩:=aU8.mp hx; exact (ok r hr).1
 have g0:∀ x ∈ fG (e8 bl),0<=x:=fun x hx=>by
  have:=(oQ (e8 bl)).1.mem_iff.mp hx
  obtain ⟨r,hr,rfl⟩:=aU8.mp this
  have:=(ok r hr).2
  omega
 have t0:∀ k,0<=((fG (e8 bl)).take k).sum:=fun k=>rB fun x hx=>g0 x (List.mem_of_mem_take hx)
 refine⟨fun w w0=>?_,fun w w' w0 le=>?_⟩
 ·have:=t0 w.toNat
  unfold eV
  split <;> omega
 ·have:=O0 g0 (show w.toNat<=w'.toNat by omega)
  have:=t0 w.toNat
  unfold eV
  split <;> split <;> omega
theorem wV.right {ws ps:List Int}{ls:List (Int × Int)}{P:bX}{L:cK} (k:wV ws ps ls P L) (R:Rt ws.length ls P) (f:eI ls) (nn:NN ws) (gp:lA ws.length ps):wZ ws ps ls P L:=by
 refine⟨k.1,R.leaf f (C:=fun h e=>gR ws ps ls L h e) fun h e hp ih=>?_⟩
 have e1:=k.2 h e hp
 unfold rZ at e1
 have w0:=jG nn h.toNat
 have p0:0<=ps.getD h.toNat 0:=jG gp.2 _
 have ok:∀ r ∈ (aT ls h e).map (aR L),0<=r.1/\r.1<=r.2:=fun r hr=>by
  obtain ⟨c,hc,rfl⟩:=aU8.mp hr
  exact⟨(ih c hc).1,(ih c hc).2.1⟩
 obtain ⟨a,b⟩:=aM9 p0 ok
 unfold gR
 rw [<- e1]
 refine⟨?_,?_,bc6 _,bc6 _⟩
 ·rw [e1]; exact a _ (by omega)
 ·rw [e1]; exact b _ _ (by omega) (by omega)
noncomputable def x4:bH:=N0
noncomputable def Y0:aN:=(aE (b8 13 (aB l8 (a7 (cD (cL (a5 12)) [none,some 3] (bQ 0) cM (bA (a5 1) (a5 0))) a9)))
  (cU (nO (bJ (aB rO (a7 (a5 1) (a7 (a5 12) a9)))) (uF (bJ (kS (a5 13) (a5 5))) (bJ (kS (a5 13) (a5 9))))) (bP (qC (.bl false))) cT))
noncomputable def Y1:aN:=(aE (dQ 10 (fP (a7 (Q3 (a5 2)) a9)))
 (aE (eB (cL (qI (a5 0) (lX (qC (.int 2))) (lX (qC (.int 62))))) (bQ 11)
  (iG 10 (aB rP (a7 (a5 11) (a7 (a5 2) a9)))))
 (aE (qB 10 (eB (cL (a5 10)) (bQ 12)
  Y0))
 (bP (qC (.bl true))))))
noncomputable def Y2:aN:=(aE (b8 1 (aB rX (a7 (a5 0) (a7 (qC (.int 30)) a9))))
 (aE (b8 2 (aB dU (a7 (bA (a5 1) (qC (.int 0))) a9)))
 (aE (b8 3 (aB rR (a7 (a5 0) (a7 (a5 2) a9))))
 (aE (b8 4 (aB sA (a7 (a5 1) (a7 (a5 3) a9))))
 (aE (b8 5 (aB (oV fun _=>False) (a7 (a5 1) (a7 (a5 3) (a7 (a5 4) a9)))))
 (aE (dQ 6 (fP a9))
 (aE (eB (cL (a5 4)) (fQ 7 8)
  (iG 6 (hJ (a7 (fS (a5 7) (qC (.int 2))) (a7 (aB kN (a7 (fS (a5 7) (qC (.int 2))) (a7 (fS (a5 8) (c7 (qC (.int 1)) (bV (aB eC (a7 (a5 0) (a7 (qC (.int 2)) a9))) (qC (.int 2))))) a9))) a9)))))
 (aE (b8 9 (qC (.int 0)))
 (aE (wY "NoPaper" (S2 9 oV (a7 (a5 1) (a7 (a5 3) (a7 (a5 6) a9)))) (b8 9 (qC (.int 0))))
 Y1)))))))))
section
variable {ws ps : List Int} {ls : List (Int × Int)} {S : List Int} {E : gN} {s0 s2 s4 s6 s7 s8 s10 s11 y13 : Option Slot} {b1 b2 : Int}
theorem aN0 (wb:Wb ws ls) (pl:ps.length=ws.length) (hS:b7 ws.length S=true) (bd:iL ws ls S=true->b1<=(S.map fun s=>ps.getD s.toNat 0).sum/\b2<=(S.map fun s=>ps.getD s.toNat 0).sum)
  (nx:∀ y13,E.nx [s0,some (.sh true (bE ws ls)),s2,some (.sh true (.lst (intz ps))),s4,si b1,s6,s7,s8,si b2,s10,s11,some (.sh true (.tup (intz S))),y13]) :
  Y0 E [s0,some (.sh true (bE ws ls)),s2,some (.sh true (.lst (intz ps))),s4,si b1,s6,s7,s8,si b2,s10,s11,some (.sh true (.tup (intz S))),y13]:=by
 have few:=wb.few
 have sl:=oH hS
 refine⟨_,rfl,intz S,rfl,(fun z=>by cases z),by rw [bD]; omega,fun i acc=>acc=intz ((S.take i).map fun s=>ps.getD s.toNat 0),rfl,?_,?_⟩
 ·rintro i y acc hy rfl
  obtain ⟨x,rfl,hx⟩:=gP hy
  have xr:=(dX hS).2 x (aT4 hx)
  refine⟨_,rfl,_,rfl,_,_,_,rfl,rfl,mI xr.1 (by omega),rfl,?_⟩
  dsimp only
  rw [aX0,hx,aV0,gC]; rfl
 rintro acc rfl
 rw [bD,aW0 (aT2 _)]
 refine⟨_,_,rfl,rfl,trivial,?_⟩
 refine⟨_,rfl,_,rfl,ws,ls,_,S,rfl,wb,.inl rfl,fun x hx=>cJ.mpr ((dX hS).2 x hx),_,rfl,?_⟩
 cases f:iL ws ls S with
 | false=>exact bF (bF (nx _))
 | true=>
  obtain ⟨c1,c2⟩:=bd f
  refine bN ⟨_,rfl,_,rfl,_,_,rfl,rfl,_,rfl,?_⟩
  rw [aT8 (by omega)]
  refine bF ⟨_,rfl,_,rfl,_,_,rfl,rfl,_,rfl,?_⟩
  rw [aT8 (by omega)]
  exact bF (nx _)
theorem Y3 {ns:List Int}{Q:PV->Prop} (wb:Wb ws ls) (pl:ps.length=ws.length) (bd:∀ S,b7 ws.length S=true->iL ws ls S=true->b1<=(S.map fun s=>ps.getD s.toNat 0).sum/\b2<=(S.map fun s=>ps.getD s.toNat 0).sum) (hl:ns.length<=63) (q:Q (.bl true)) :
  Y1 { nx:=fun _=>Q .non,rt:=Q } [some (.sh true (.scr ns)),some (.sh true (bE ws ls)),si ws.length,some (.sh true (.lst (intz ps))),s4,si b1,s6,s7,s8,si b2,none,none,none,none]:=by
 have few:=wb.few
 refine⟨_,rfl,ws.length,rfl,by omega,by omega,by show 1<=1000; decide,?_,rfl,?_,?_⟩
 ·show (flats (dG 0 (ws.length:Int).toNat) && true)=true
  rw [oT,dB]; rfl
 ·show (flats (dG 0 (ws.length:Int).toNat) && true)=true
  rw [oT,dB]; rfl
 show (aE _ _) _ [_,_,_,_,_,_,_,_,_,_,some (Slot.own (.lst [.tup (dG 0 (ws.length:Int).toNat)])),_,_,_]
 rw [oT,aV4]
 obtain ⟨zs,ez,zl⟩:=u5 ns (some 2) (some 62)
 refine⟨_,rfl,_,rfl,_,rfl,_,rfl,dB _,intz zs,by show some (hV (intz ns) (some 2) (some 62))=_; rw [ez],(fun z=>by cases z),fun i ρ=>∃ (Ss:List (List Int)) (y11:Option Slot),ρ = [some (.sh true (.scr ns)),some (.sh true (bE ws ls)),si ws.length,some (.sh true (.lst (intz ps))),s4,si b1,s6,s7,s8,si b2,some (.own (.lst (tups Ss))),y11,none,none]/\(∀ S ∈ Ss,b7 ws.length S=true)/\Ss.length<=i+1,⟨[rng ws.length],none,rfl,fun S hS=>by rw [aT0.mp hS]; exact jH _,aT2 _⟩,?_,?_⟩
 ·rintro i y ρ hy ⟨Ss,y11,rfl,ok,sl⟩
  obtain ⟨c,rfl,hc⟩:=gP hy
  have il:=(aT3.mp hc).1
  refine k6 ?_
  refine⟨_,rfl,_,rfl,_,rfl,c,ws.length,rfl,by omega,fun S hS=>⟨trivial,by rw [oG]; omega,Ss ++ [S],si c,?_,fun T hT=>?_,by rw [aU6,aW5]; omega⟩⟩
  ·unfold tups; rw [aV0]; rfl
  ·rcases aT9.mp hT with z | z
   ·exact ok T z
   ·rw [aT0.mp z]; exact hS
 rintro ρ ⟨Ss,y11,rfl,ok,sl⟩
 refine⟨_,rfl,_,rfl,tups Ss,rfl,(fun z=>by cases z),fun i ρ=>∃ (y12 y13:Option Slot),ρ = [some (.sh true (.scr ns)),some (.sh true (bE ws ls)),si ws.length,some (.sh true (.lst (intz ps))),s4,si b1,s6,s7,s8,si b2,some (.sh true (.lst (tups Ss))),y11,y12,y13],⟨none,none,rfl⟩,?_,?_⟩
 ·rintro i y ρ hy ⟨y12,y13,rfl⟩
  obtain ⟨S,hS,rfl⟩:=aK6 hy
  refine aK7 ?_
  exact aN0 wb pl (ok S (aT4 hS)) (bd S (ok S (aT4 hS))) fun y13=>⟨_,y13,rfl⟩
 ·rintro ρ ⟨y12,y13,rfl⟩
  exact⟨trivial,q⟩
end
theorem aN1:cA Y2 ["script","web","many","prices","best","bound","lower","first","second","other","tried","cell","seeds","price"] x4:=by
 rintro xs Q ⟨ns,rfl,hl,q⟩
 refine⟨_,rfl,ns,30,rfl,hl,by decide,by decide,fun n ws ls n1 w lk wd=>⟨trivial,?_⟩⟩
 have wl:=w.many
 have wb:Wb ws ls:=w.wb (by omega)
 have en:ws.length=n:=by omega
 subst en
 have few:=wb.few
 refine⟨_,rfl,_,_,_,rfl,rfl,rfl,_,_,rfl,rfl,trivial,?_⟩
 rw [bD]
 refine⟨_,rfl,_,rfl,ns,ws.length,rfl,hl,few,fun ps gp=>⟨trivial,?_⟩⟩
 refine⟨_,rfl,_,rfl,ws,ls,_,ps,rfl,wb,lk,wd,w.pos,.inr rfl,gp,fun P L R k=>⟨trivial,?_⟩⟩
 have ll:=k.1
 refine⟨_,rfl,_,rfl,_,rfl,ws,ls,_,ps,_,L,rfl,wb,lk,wd,w.pos,.inr rfl,gp,.inl rfl,by omega,fun P' R'=>⟨fun r=>⟨trivial,?_⟩,fun no=>no ?_⟩⟩
 rotate_left
 ·have:=k.right R lk.fit w.pos gp
  exact⟨this.1,fun h e he=>this.2 h e ((aL6 R R').mpr he)⟩
 have bd1:∀ S,b7 ws.length S=true->iL ws ls S=true->_:=fun S hS f=>X5 R' lk.fit w.pos hS f r.2
 generalize ((jK P').map fun r=>(aR L r).2).sum=b1 at bd1
 refine⟨by decide,rfl,rfl,rfl,?_⟩
 have cm:(0:Int) < 1+ns.getD (2:Int).toNat 0 % 2/\1+ns.getD (2:Int).toNat 0 % 2<=2:=by
  have:=aZ2 (ns.getD (2:Int).toNat 0) (show (2:Int) ≠ 0 by decide)
  have:=bd8 (ns.getD (2:Int).toNat 0) (show (0:Int) < 2 by decide)
  omega
 refine⟨_,rfl,b6 L,rfl,(fun z=>by cases z),fun i ρ=>∃ (M:cK) (y7 y8:Option Slot),ρ = [some (.sh true (.scr ns)),some (.sh true (bE ws ls)),si ws.length,some (.sh true (.lst (intz ps))),some (.sh true (.tup (b6 L))),si b1,some (.own (.lst (b6 M))),y7,y8,none,none,none,none,none]/\M.length=i,⟨[],none,none,rfl,rfl⟩,?_,?_⟩
 ·rintro i y ρ hy ⟨M,y7,y8,rfl,ml⟩
  obtain ⟨p,rfl,hp⟩:=vI hy
  have il:=(aT3.mp hp).1
  refine wI ?_
  refine⟨_,rfl,_,rfl,_,_,rfl,rfl,⟨by decide,by decide⟩,_,rfl,_,_,rfl,rfl,⟨by decide,by decide⟩,_,rfl,_,rfl,_,ns,2,rfl,.inl rfl,by decide,_,_,rfl,rfl,(by show (0:Int) < 2; decide),_,_,rfl,rfl,_,_,rfl,rfl,⟨cm.1,by have:=cm.2; omega⟩,_,_,rfl,by show 2<=1000; decide,rfl,trivial,by rw [jX]; omega,M ++ [(p.1 / 2,if p.2 / (1+ns.getD (2:Int).toNat 0 % 2) > p.1 / 2 then p.2 / (1+ns.getD (2:Int).toNat 0 % 2) else p.1 / 2)],si p.1,si p.2,?_,by rw [aU6,ml]; rfl⟩
  unfold b6
  rw [aV0]; rfl
 rintro ρ ⟨M,y7,y8,rfl,ml⟩
 rw [jX] at ml
 refine⟨trivial,?_⟩
 refine⟨_,rfl,_,rfl,_,rfl,ws,ls,_,ps,_,M,rfl,wb,lk,wd,w.pos,.inr rfl,gp,.inr rfl,by omega,fun P2 R2=>⟨fun r2=>?_,fun _=>⟨by decide,?_⟩⟩⟩
 ·exact Y3 wb gp.1 (fun S hS f=>⟨bd1 S hS f,X5 R2 lk.fit w.pos hS f r2.2⟩) hl q
 ·refine⟨trivial,?_⟩
  refine Y3 wb gp.1 (fun S hS f=>⟨bd1 S hS f,rB fun x hx=>?_⟩) hl q
  obtain ⟨s,_,rfl⟩:=aU8.mp hx
  exact jG gp.2 _
end Core
namespace K_k57
open PySem PySem.W L2 PP Core
theorem _root_.L2.FnScope.au {N P:List Str}{s:Scope} (a:s.kind=.function:=by rfl) (b:s.isCoroutine=false:=by rfl) (c:s.isGenerator=false:=by rfl) (d:N.Nodup:=by decide +kernel) (e:N.take P.length=P:=by rfl) (f:∀ x∈P,s.names.lookup x=some .local∨s.names.lookup x=some .cell:=by decide +kernel) (g:∀ y∈s.names,y.2≠.free:=by decide +kernel):FnScope N P s:=⟨a,b,c,d,e,f,g⟩
noncomputable def b9 (i:Nat):Stmt:=PySem.Challenge.pw_kindleweb_k57_whole_no_cheaper_seeds_in.main.body.getD i (.Pass ⟨0,0,0,0⟩)
structure FK (K:Frag) (n:Str) (i:Nat) (f:Addr) (d:FuncData):Prop where
 a:nsIn K mainGlobals n=some (some (.ref f))
 F:eO K n n (b9 i) f d
structure FM (K:Frag) (mg:Str->Option Value) (n:Str) (i:Nat) (f:Addr) (d:FuncData):Prop where
 F:eO K n n (b9 i) f d
 m:mg n=some (.ref f)
theorem FK.M {K:Frag}{mg:Str->Option Value}{n:Str}{i:Nat}{f:Addr}{d:FuncData}{h:Heap} (z:FK K n i f d) (X:K.In h) (G:h.Ns mainGlobals mg):FM K mg n i f d:=⟨z.F,mg_of X G z.a⟩
noncomputable abbrev Hb (x:Str) (ps:List Str) (i:Nat):Prop:=∀ (kV doc pm:Value) (an:Option Addr) (cdv ct:Value) (us:List Value),us.length=ps.length->bindArgs (fnOf x x (iU (b9 i)) (eN (b9 i)) (aX (b9 i)) .none kV doc pm an cdv ct) ⟨us,[]⟩=pure (ps.zip us)
section
variable {P : Program} {w : World} {K : Frag} {mg : Str → Option Value} {base : Heap} {f : Addr} {fd : FuncData} {k i : Nat} {x : Str} {ps N : List Str}
theorem Df.au {p:bH} (F:FM K mg x i f fd) (S:FnScope N ps (aX (b9 i))) (body:∀ (cdv:Value) (A:Around) (outer:List Env) (s:Shared) (H:Hp) (E:XK),bZ k (A.deeper (PyProof.Rows.envOfC x (aX (b9 i)) s.heap.objs.size f cdv))->∃ t,eR (dA dE P w K mg base N x (aX (b9 i)) f cdv A outer s H E).nox (eN (b9 i)) t/\∀ xs Q,p xs Q->t { nx:=fun _=>Q .non,rt:=Q } (fR N xs)) (hb:Hb x ps i:=by intro _ _ _ _ _ _ us hl; first | (obtain ⟨_,rfl⟩:=mG hl; rfl) | (obtain ⟨_,_,rfl⟩:=vX hl; rfl) | (obtain ⟨_,_,_,rfl⟩:=O7 hl; rfl) | (obtain ⟨_,_,_,_,rfl⟩:=us4 hl; rfl) | (obtain ⟨_,_,_,_,_,rfl⟩:=us5 hl; rfl)) (len:∀ xs Q,p xs Q->xs.length=ps.length:=by intro xs Q h; repeat (first | (obtain ⟨rfl,_⟩:=h; rfl) | (obtain ⟨_,h⟩:=h))):Df P w K mg base (k+1) x ps p:=
 Df.of F.F F.m S hb len body
theorem eF.au {p:fD} (F:FM K mg x i f fd) (S:FnScope N ps (aX (b9 i))) (t:(Str->Prop)->aN) (rd:∀ Ep xs Q,p Ep xs Q->t Ep { nx:=fun _=>Q .non,rt:=Q } (fR N xs)) (body:∀ (cdv:Value) (A:Around) (outer:List Env) (s:Shared) (H:Hp) (E:XK) (Ep:Str->Prop),bZ k (A.deeper (PyProof.Rows.envOfC x (aX (b9 i)) s.heap.objs.size f cdv))->m9 (dA (dW P w) P w K mg base N x (aX (b9 i)) f cdv A outer s H E) (EX K H Ep)->eR (dA (dW P w) P w K mg base N x (aX (b9 i)) f cdv A outer s H E) (eN (b9 i)) (t Ep)) (hb:Hb x ps i:=by intro _ _ _ _ _ _ us hl; first | (obtain ⟨_,rfl⟩:=mG hl; rfl) | (obtain ⟨_,_,rfl⟩:=vX hl; rfl) | (obtain ⟨_,_,_,rfl⟩:=O7 hl; rfl) | (obtain ⟨_,_,_,_,rfl⟩:=us4 hl; rfl) | (obtain ⟨_,_,_,_,_,rfl⟩:=us5 hl; rfl)) (len:∀ Ep xs Q,p Ep xs Q->xs.length=ps.length:=by intro Ep xs Q h; repeat (first | (obtain ⟨rfl,_⟩:=h; rfl) | (obtain ⟨_,h⟩:=h))):eF P w K mg base (k+1) x ps p:=
 eF.of F.F F.m S hb t len rd body
end
section
variable {P : Program} {w : World} {K : Frag} {mg : Str → Option Value} {base : Heap} {f : Addr} {fd : FuncData}
theorem nd2:(["ahead","behind"]:List Str).Nodup:=by decide +kernel
noncomputable abbrev Y4:Stmt:=b9 9
theorem scR:FnScope ["things"] ["things"] (aX Y4):=.au
theorem x5 {ns:List Int}{i:Nat}{x y:V} (h1:(ns.map V.int)[i]? = some x) (h2:((ns.map V.int).drop 1)[i]? = some y):∃ p q:Int,x = .int p/\y = .int q/\(ns.zip (ns.drop 1))[i]? = some (p,q):=by
 rw [aT7] at h1
 rw [<- List.map_drop,aT7] at h2
 cases e1:ns[i]? with
 | none=>rw [e1] at h1; cases h1
 | some p=>
  cases e2:(ns.drop 1)[i]? with
  | none=>rw [e2] at h2; cases h2
  | some q=>
   rw [e1] at h1; rw [e2] at h2
   exact⟨p,q,(aV2 h1).symm,(aV2 h2).symm,List.getElem?_zip_eq_some.mpr ⟨e1,e2⟩⟩
theorem aN2 (B:Bt mg) (F:eO K "rises" "rises" Y4 f fd):cF P w K mg base dE 1 f fd ["things"] (M6 K):=by
 refine F.ok scR (fun vs H Q E h=>?_) (fun cdv A outer s H vs Q E hr h=>?_)
 ·obtain ⟨a,ns,rfl,_⟩:=h
  rfl
 obtain ⟨a,ns,rfl,hS,hn,q⟩:=h
 have lz:((ns.map V.int).drop 1).length<=sizeLine:=aY6 (gM (by rw [aZ8,aS9]; omega))
 have lz2:((ns.map V.int).drop 1).length<=(ns.map V.int).length:=by rw [aZ8]; omega
 have lz3:(ns.zip (ns.drop 1)).length=((ns.map V.int).drop 1).length:=by rw [List.length_zip,aZ8,aZ8,aS9]; omega
 rcases hS with hS | hS
 ·refine⟨_,kA (lE (sY (u9 rfl) rfl B.all PyProof.Rows.boot_all (cP (A3 (N:=["ahead","behind"]) (fr:=[none,none]) rfl (c9.of rfl rfl) (ao2 rfl B.zip (cP (pv 0) (cP (t6 C8 (pv 0) (t5 k8) t4) cZ)))
   ⟨fun _ _ _ _=>show PG _ _ (jN K 2 (eW (cB 0) (eW (cB 1) jM))) from lG rfl (gG (eM (i:=0) nd2 rfl (Or.inl rfl) (.inr rfl)) (gG (eM (i:=1) nd2 rfl (Or.inl rfl) (.inr rfl)) lF)),fun _ _ _ _=>nG,fun _ _ _ _=>sR pA (pv 0) (pv 1) (fY _)⟩) cZ))),?_⟩
  refine⟨_,rfl,_,rfl,1,rfl,a,_,rfl,hS,fun p hp=>?_,fun e=>?_⟩
  ·have s1:=bL hp (.tup (dP (ns.map V.int) (some 1) none))
   have hb:aQ K (upd H p (.tup (dP (ns.map V.int) (some 1) none))) p ((ns.map V.int).drop 1):=aQ.of (by rw [bK,uC])
   refine⟨a,p,_,_,rfl,s1.tup hS,hb,uB (C7 (s1.tup hS) hb lz2) (fun i acc _=>acc=((ns.zip (ns.drop 1)).take i).map fun (p:Int × Int)=>V.bl (decide (p.1 < p.2))) lz (fun _ _=>rfl) (fun _ _ _ _ _ h=>h) (fun i x acc D H' hi hR c hP=>?_) (fun D acc H' hD sm hDa hlen hP=>?_)⟩
   ·obtain ⟨T,x1,y1,rfl,hT,h1,h2⟩:=hR
    obtain ⟨m,k,rfl,rfl,hz⟩:=x5 h1 h2
    refine⟨T,_,rfl,aQ.of hT,rfl,_,_,rfl,_,_,rfl,rfl,((Wk.refl _).set (i:=0) rfl).set (i:=1) rfl,nL ⟨_,rfl,_,rfl,_,_,rfl,rfl,c.yes (aC.refl _) ?_⟩⟩
    rw [oB hz,hP]
   ·refine⟨D,(ns.zip (ns.drop 1)).map fun (p:Int × Int)=>decide (p.1 < p.2),rfl,aJ.of ?_,q _ (s1.trans sm)⟩
    rw [hDa,hP,<- lz3,ba0,aY7]; rfl
  ·have hb:aQ K H a ((ns.map V.int).drop 1):=by
    have:(ns.map V.int).drop 1=ns.map V.int:=by rw [<- uC]; exact e
    rw [this]; exact hS
   refine⟨a,a,_,_,rfl,hS,hb,uB (C7 hS hb lz2) (fun i acc _=>acc=((ns.zip (ns.drop 1)).take i).map fun (p:Int × Int)=>V.bl (decide (p.1 < p.2))) lz (fun _ _=>rfl) (fun _ _ _ _ _ h=>h) (fun i x acc D H' hi hR c hP=>?_) (fun D acc H' hD sm hDa hlen hP=>?_)⟩
   ·obtain ⟨T,x1,y1,rfl,hT,h1,h2⟩:=hR
    obtain ⟨m,k,rfl,rfl,hz⟩:=x5 h1 h2
    refine⟨T,_,rfl,aQ.of hT,rfl,_,_,rfl,_,_,rfl,rfl,((Wk.refl _).set (i:=0) rfl).set (i:=1) rfl,nL ⟨_,rfl,_,rfl,_,_,rfl,rfl,c.yes (aC.refl _) ?_⟩⟩
    rw [oB hz,hP]
   ·refine⟨D,(ns.zip (ns.drop 1)).map fun (p:Int × Int)=>decide (p.1 < p.2),rfl,aJ.of ?_,q _ sm⟩
    rw [hDa,hP,<- lz3,ba0,aY7]; rfl
 ·refine⟨_,kA (lE (sY (u9 rfl) rfl B.all PyProof.Rows.boot_all (cP (A3 (N:=["ahead","behind"]) (fr:=[none,none]) rfl (c9.of rfl rfl) (ao8 rfl B.zip (cP (pv 0) (cP (t6 z9 (pv 0) (t5 k8) t4) cZ)))
   ⟨fun _ _ _ _=>show PG _ _ (jN K 2 (eW (cB 0) (eW (cB 1) jM))) from lG rfl (gG (eM (i:=0) nd2 rfl (Or.inl rfl) (.inr rfl)) (gG (eM (i:=1) nd2 rfl (Or.inl rfl) (.inr rfl)) lF)),fun _ _ _ _=>nG,fun _ _ _ _=>sR pA (pv 0) (pv 1) (fY _)⟩) cZ))),?_⟩
  refine⟨_,rfl,_,rfl,1,rfl,a,_,rfl,hS,fun p hp=>?_⟩
  have s1:=bL hp (.lst (dP (ns.map V.int) (some 1) none))
  have hb:aJ K (upd H p (.lst (dP (ns.map V.int) (some 1) none))) p ((ns.map V.int).drop 1):=aJ.of (by rw [bK,uC])
  refine⟨a,p,_,_,rfl,s1.seq hS,hb,uB (ao9 (s1.seq hS) hb lz2) (fun i acc _=>acc=((ns.zip (ns.drop 1)).take i).map fun (p:Int × Int)=>V.bl (decide (p.1 < p.2))) lz (fun _ _=>rfl) (fun _ _ _ _ _ h=>h) (fun i x acc D H' hi hR c hP=>?_) (fun D acc H' hD sm hDa hlen hP=>?_)⟩
  ·obtain ⟨T,x1,y1,rfl,hT,h1,h2⟩:=hR
   obtain ⟨m,k,rfl,rfl,hz⟩:=x5 h1 h2
   refine⟨T,_,rfl,aQ.of hT,rfl,_,_,rfl,_,_,rfl,rfl,((Wk.refl _).set (i:=0) rfl).set (i:=1) rfl,nL ⟨_,rfl,_,rfl,_,_,rfl,rfl,c.yes (aC.refl _) ?_⟩⟩
   rw [oB hz,hP]
  ·refine⟨D,(ns.zip (ns.drop 1)).map fun (p:Int × Int)=>decide (p.1 < p.2),rfl,aJ.of ?_,q _ (s1.trans sm)⟩
   rw [hDa,hP,<- lz3,ba0,aY7]; rfl
noncomputable abbrev Y5:Stmt:=b9 11
theorem sD:FnScope ["web","around","one","other"] ["web"] (aX Y5):=.au
theorem aN3 (F:eO K "near_lists" "near_lists" Y5 f fd):cF P w K mg base dE 1 f fd ["web"] qY:=by
 refine F.ok sD (fun vs H Q E h=>?_) (fun cdv A outer s H vs Q E hr h=>?_)
 ·obtain ⟨v,ws,ls,rfl,_⟩:=h
  rfl
 obtain ⟨v,ws,ls,rfl,W,hn,hm,hin,q⟩:=h
 refine⟨_,k9 (A4 (i:=1) (N:=["want"]) (fr:=[none]) rfl (c9.of rfl rfl) (p6 (iR nA (pv 0) k8 (fun _ _=>rfl)))
   ⟨fun _ _ _ _=>eM (i:=0) (aW1 _ _) rfl (Or.inl rfl) (.inr rfl),fun _ _ _ _=>nG,fun _ _ _ _=>sT cZ⟩ sD.nd rfl rfl rfl)
  (k9 (sL bg5 rfl (p6 (iR nA (pv 0) k8 (fun _ _=>rfl))) (lG (n:=2) rfl (gG (eM (i:=2) sD.nd rfl (Or.inl rfl) (.inr rfl)) (gG (eM (i:=3) sD.nd rfl (Or.inl rfl) (.inr rfl)) lF)) )
   (k9 (kB (kE aZ9 be2 be3 lK (iR mZ (pv 1) (pv 2) (fun _ _=>rfl)) (cP (pv 3) cZ)))
   (kA (kB (kE aZ9 be2 be3 lK (iR mZ (pv 1) (pv 3) (fun _ _=>rfl)) (cP (pv 2) cZ))))))
  (kA (lE (pv 1)))),?_⟩
 obtain ⟨a,p,q',ys,rfl,ha,hp,hq,hL⟩:=W.at_
 have lw:(ws.map V.int).length=ws.length:=aS9 _
 refine⟨_,rfl,a,_,_,_,rfl,rfl,aQ.of ha,rfl,p,rfl,⟨_,aQ.of hp⟩,A8 (A6 (aQ.of hp)) (fun i acc H'=>∃ bs:List Addr,acc=bs.map V.ref/\bs.length=i/\bs.Nodup/\∀ b ∈ bs,H b=none/\H' b=some (.lst [])) (by rw [lw]; exact aY6 (nF hn))
  (fun D hD=>⟨[],rfl,rfl,List.nodup_nil,fun _ z=>nomatch z⟩) (fun i x acc D H' hx c hPv=>?_) (fun D acc H' hD sm hDa hlen hPv=>?_)⟩
 ·obtain ⟨bs,rfl,hbl,nd,hb⟩:=hPv
  refine⟨C2 (n:=none),nL ⟨aX6 _,fun r hr'=>?_⟩⟩
  have hrD:r ≠ D:=fun z=>by rw [z,c.acc] at hr'; cases hr'
  have hrH:H r=none:=c.same.free hr'
  refine c.yes (bL hr' _) ⟨bs ++ [r],by simp,by simp [hbl],?_,fun b hm=>?_⟩
  ·refine bf0.mpr ⟨nd,aW1 _ _,fun b hb1 b' hb2 e=>?_⟩
   rw [aT0.mp hb2] at e
   rw [e] at hb1
   rw [(hb r hb1).2] at hr'; cases hr'
  ·rcases aT9.mp hm with hm | hm
   ·have hbD:b ≠ D:=fun z=>by
     rw [z] at hm
     have:=(hb D hm).2
     rw [c.acc] at this
     have:bs.map V.ref = []:=by injection this with e1; injection e1
     have:bs = []:=List.map_eq_nil_iff.mp this
     rw [this] at hm; simp at hm
    refine⟨(hb b hm).1,?_⟩
    rw [aZ hbD,aZ (dD (hb b hm).2 hr')]
    exact (hb b hm).2
   ·rw [aT0.mp hm]
    exact⟨hrH,by rw [aZ hrD,bK]⟩
 ·obtain ⟨bs,rfl,hbl,nd,hb⟩:=hPv
  rw [lw] at hbl
  have R0:gX H H' D bs (fun k=>aK (ls.take 0) k):=by
   refine⟨hD,fun b hm=>⟨(hb b hm).1,fun z=>?_⟩,nd,hDa,fun k b hk=>(hb b (aT4 hk)).2,sm⟩
   rw [z] at hm
   have:=(hb D hm).2
   rw [hDa] at this
   have:bs.map V.ref = []:=by injection this with e1; injection e1
   have:bs = []:=List.map_eq_nil_iff.mp this
   rw [this] at hm; simp at hm
  have lL:=hL.length
  refine⟨_,rfl,a,_,_,_,rfl,rfl,aQ.of (sm _ _ ha),rfl,q',rfl,⟨_,aQ.of (sm _ _ hq)⟩,xR (K:=K) (a:=q') (xs:=ys) (fun i σ H2=>∃ x y:Option V,σ = [some (.ref a),some (.ref D),x,y]/\gX H H2 D bs (fun k=>aK (ls.take i) k))
   ⟨none,none,rfl,R0⟩ (fun i σ H2 _ ⟨_,_,_,R⟩=>aQ.of (R.same _ _ hq)) ?_ ?_⟩
  ·rintro i y σ H2 hi ⟨x1,x2,rfl,R⟩
   obtain ⟨l,b,hl,rfl,hbt⟩:=hL.get hi
   have hlm:l ∈ ls:=aT4 hl
   obtain ⟨⟨h1,h2⟩,h3,h4⟩:=hin l hlm
   have k1:l.1.toNat < bs.length:=by omega
   have k2:l.2.toNat < bs.length:=by omega
   have e1:bs[l.1.toNat]? = some (bs[l.1.toNat]):=aU1 k1
   have e2:bs[l.2.toNat]? = some (bs[l.2.toNat]):=aU1 k2
   refine⟨b,_,rfl,aQ.of (R.same _ _ hbt),rfl,_,_,rfl,_,_,rfl,rfl,?_⟩
   refine⟨_,rfl,_,rfl,D,_,_,.ref bs[l.1.toNat],rfl,rfl,aJ.of R.row,kH h1 (by rw [aT7,e1]; rfl),jU (aJ.of (R.rows _ _ e1)),_,rfl,_,_,_,rfl,rfl,R.rows _ _ e1,?_,?_⟩
   ·rw [aS9]
    have:=nK (ls.take i) (l.1.toNat:Nat)
    rw [aZ6] at this
    exact gM (by omega)
   ·have R1:=R.app e1 l.2
    refine⟨_,rfl,_,rfl,D,_,_,.ref bs[l.2.toNat],rfl,rfl,aJ.of R1.row,kH h3 (by rw [aT7,e2]; rfl),jU (aJ.of (R1.rows _ _ e2)),_,rfl,_,_,_,rfl,rfl,R1.rows _ _ e2,?_,?_⟩
    ·rw [aS9]
     have:=nK (ls.take i) (l.2.toNat:Nat)
     rw [aZ6] at this
     split
     ·rw [aU6,aW5]; exact gM (by omega)
     ·exact gM (by omega)
    ·have R2:=R1.app e2 l.1
     refine⟨_,_,rfl,R2.congr fun k hk=>?_⟩
     rw [C4 hl]
     have c1:(k=l.1.toNat) ↔ l.1=(k:Int):=by omega
     have c2:(k=l.2.toNat) ↔ l.2=(k:Int):=by omega
     by_cases d1:k=l.1.toNat
     ·by_cases d2:k=l.2.toNat
      ·rw [if_pos d2,if_pos d1,if_pos (c1.mp d1),if_pos (c2.mp d2)]; simp
      ·rw [if_neg d2,if_pos d1,if_pos (c1.mp d1),if_neg (fun z=>d2 (c2.mpr z))]; simp
     ·by_cases d2:k=l.2.toNat
      ·rw [if_pos d2,if_neg d1,if_neg (fun z=>d1 (c1.mpr z)),if_pos (c2.mp d2)]; simp
      ·rw [if_neg d2,if_neg d1,if_neg (fun z=>d1 (c1.mpr z)),if_neg (fun z=>d2 (c2.mpr z))]; simp
  ·
   rintro σ H2 ⟨x1,x2,rfl,R⟩
   refine⟨_,rfl,q D bs H2 hbl ?_⟩
   rw [lL,ba0] at R
   exact R
noncomputable abbrev Y6:Stmt:=b9 39
theorem sE:FnScope ["web","beside","one","other"] ["web"] (aX Y6):=.au
theorem aN4 (F:eO K "_law_beside" "_law_beside" Y6 f fd):cF P w K mg base dE 1 f fd ["web"] qY:=by
 refine F.ok sE (fun vs H Q E h=>?_) (fun cdv A outer s H vs Q E hr h=>?_)
 ·obtain ⟨v,ws,ls,rfl,_⟩:=h
  rfl
 obtain ⟨v,ws,ls,rfl,W,hn,hm,hin,q⟩:=h
 refine⟨_,k9 (A4 (i:=1) (N:=["hearth"]) (fr:=[none]) rfl (c9.of rfl rfl) (p6 (iR nA (pv 0) k8 (fun _ _=>rfl)))
   ⟨fun _ _ _ _=>eM (i:=0) (aW1 _ _) rfl (Or.inl rfl) (.inr rfl),fun _ _ _ _=>nG,fun _ _ _ _=>sT cZ⟩ sE.nd rfl rfl rfl)
  (k9 (sL bg5 rfl (p6 (iR nA (pv 0) k8 (fun _ _=>rfl))) (lG (n:=2) rfl (gG (eM (i:=2) sE.nd rfl (Or.inl rfl) (.inr rfl)) (gG (eM (i:=3) sE.nd rfl (Or.inl rfl) (.inr rfl)) lF)) )
   (k9 (kB (kE aZ9 be2 be3 lK (iR mZ (pv 1) (pv 2) (fun _ _=>rfl)) (cP (pv 3) cZ)))
   (kA (kB (kE aZ9 be2 be3 lK (iR mZ (pv 1) (pv 3) (fun _ _=>rfl)) (cP (pv 2) cZ))))))
  (kA (lE (pv 1)))),?_⟩
 obtain ⟨a,p,q',ys,rfl,ha,hp,hq,hL⟩:=W.at_
 have lw:(ws.map V.int).length=ws.length:=aS9 _
 refine⟨_,rfl,a,_,_,_,rfl,rfl,aQ.of ha,rfl,p,rfl,⟨_,aQ.of hp⟩,A8 (A6 (aQ.of hp)) (fun i acc H'=>∃ bs:List Addr,acc=bs.map V.ref/\bs.length=i/\bs.Nodup/\∀ b ∈ bs,H b=none/\H' b=some (.lst [])) (by rw [lw]; exact aY6 (nF hn))
  (fun D hD=>⟨[],rfl,rfl,List.nodup_nil,fun _ z=>nomatch z⟩) (fun i x acc D H' hx c hPv=>?_) (fun D acc H' hD sm hDa hlen hPv=>?_)⟩
 ·obtain ⟨bs,rfl,hbl,nd,hb⟩:=hPv
  refine⟨C2 (n:=none),nL ⟨aX6 _,fun r hr'=>?_⟩⟩
  have hrD:r ≠ D:=fun z=>by rw [z,c.acc] at hr'; cases hr'
  have hrH:H r=none:=c.same.free hr'
  refine c.yes (bL hr' _) ⟨bs ++ [r],by simp,by simp [hbl],?_,fun b hm=>?_⟩
  ·refine bf0.mpr ⟨nd,aW1 _ _,fun b hb1 b' hb2 e=>?_⟩
   rw [aT0.mp hb2] at e
   rw [e] at hb1
   rw [(hb r hb1).2] at hr'; cases hr'
  ·rcases aT9.mp hm with hm | hm
   ·have hbD:b ≠ D:=fun z=>by
     rw [z] at hm
     have:=(hb D hm).2
     rw [c.acc] at this
     have:bs.map V.ref = []:=by injection this with e1; injection e1
     have:bs = []:=List.map_eq_nil_iff.mp this
     rw [this] at hm; simp at hm
    refine⟨(hb b hm).1,?_⟩
    rw [aZ hbD,aZ (dD (hb b hm).2 hr')]
    exact (hb b hm).2
   ·rw [aT0.mp hm]
    exact⟨hrH,by rw [aZ hrD,bK]⟩
 ·obtain ⟨bs,rfl,hbl,nd,hb⟩:=hPv
  rw [lw] at hbl
  have R0:gX H H' D bs (fun k=>aK (ls.take 0) k):=by
   refine⟨hD,fun b hm=>⟨(hb b hm).1,fun z=>?_⟩,nd,hDa,fun k b hk=>(hb b (aT4 hk)).2,sm⟩
   rw [z] at hm
   have:=(hb D hm).2
   rw [hDa] at this
   have:bs.map V.ref = []:=by injection this with e1; injection e1
   have:bs = []:=List.map_eq_nil_iff.mp this
   rw [this] at hm; simp at hm
  have lL:=hL.length
  refine⟨_,rfl,a,_,_,_,rfl,rfl,aQ.of (sm _ _ ha),rfl,q',rfl,⟨_,aQ.of (sm _ _ hq)⟩,xR (K:=K) (a:=q') (xs:=ys) (fun i σ H2=>∃ x y:Option V,σ = [some (.ref a),some (.ref D),x,y]/\gX H H2 D bs (fun k=>aK (ls.take i) k))
   ⟨none,none,rfl,R0⟩ (fun i σ H2 _ ⟨_,_,_,R⟩=>aQ.of (R.same _ _ hq)) ?_ ?_⟩
  ·rintro i y σ H2 hi ⟨x1,x2,rfl,R⟩
   obtain ⟨l,b,hl,rfl,hbt⟩:=hL.get hi
   have hlm:l ∈ ls:=aT4 hl
   obtain ⟨⟨h1,h2⟩,h3,h4⟩:=hin l hlm
   have k1:l.1.toNat < bs.length:=by omega
   have k2:l.2.toNat < bs.length:=by omega
   have e1:bs[l.1.toNat]? = some (bs[l.1.toNat]):=aU1 k1
   have e2:bs[l.2.toNat]? = some (bs[l.2.toNat]):=aU1 k2
   refine⟨b,_,rfl,aQ.of (R.same _ _ hbt),rfl,_,_,rfl,_,_,rfl,rfl,?_⟩
   refine⟨_,rfl,_,rfl,D,_,_,.ref bs[l.1.toNat],rfl,rfl,aJ.of R.row,kH h1 (by rw [aT7,e1]; rfl),jU (aJ.of (R.rows _ _ e1)),_,rfl,_,_,_,rfl,rfl,R.rows _ _ e1,?_,?_⟩
   ·rw [aS9]
    have:=nK (ls.take i) (l.1.toNat:Nat)
    rw [aZ6] at this
    exact gM (by omega)
   ·have R1:=R.app e1 l.2
    refine⟨_,rfl,_,rfl,D,_,_,.ref bs[l.2.toNat],rfl,rfl,aJ.of R1.row,kH h3 (by rw [aT7,e2]; rfl),jU (aJ.of (R1.rows _ _ e2)),_,rfl,_,_,_,rfl,rfl,R1.rows _ _ e2,?_,?_⟩
    ·rw [aS9]
     have:=nK (ls.take i) (l.2.toNat:Nat)
     rw [aZ6] at this
     split
     ·rw [aU6,aW5]; exact gM (by omega)
     ·exact gM (by omega)
    ·have R2:=R1.app e2 l.1
     refine⟨_,_,rfl,R2.congr fun k hk=>?_⟩
     rw [C4 hl]
     have c1:(k=l.1.toNat) ↔ l.1=(k:Int):=by omega
     have c2:(k=l.2.toNat) ↔ l.2=(k:Int):=by omega
     by_cases d1:k=l.1.toNat
     ·by_cases d2:k=l.2.toNat
      ·rw [if_pos d2,if_pos d1,if_pos (c1.mp d1),if_pos (c2.mp d2)]; simp
      ·rw [if_neg d2,if_pos d1,if_pos (c1.mp d1),if_neg (fun z=>d2 (c2.mpr z))]; simp
     ·by_cases d2:k=l.2.toNat
      ·rw [if_pos d2,if_neg d1,if_neg (fun z=>d1 (c1.mpr z)),if_pos (c2.mp d2)]; simp
      ·rw [if_neg d2,if_neg d1,if_neg (fun z=>d1 (c1.mpr z)),if_neg (fun z=>d2 (c2.mpr z))]; simp
  ·
   rintro σ H2 ⟨x1,x2,rfl,R⟩
   refine⟨_,rfl,q D bs H2 hbl ?_⟩
   rw [lL,ba0] at R
   exact R
theorem aN5:FnScope ["prices","many"] ["prices","many"] (aX (b9 7)):=.au
theorem aN6 (B:Bt mg) (F:FM K mg "made_prices" 7 f fd)  : Df P w K mg base 1 "made_prices" ["prices","many"] mE:=
 Df.au F aN5 (fun cdv A outer s H E hr=>by
  exact⟨(N8),(aH (dJ (J4 (eS B (a8 (qv 0) aA)) (qv 1)) (aV v8) dI)
   (aH (dJ (m6 (aB5 B rfl (a8 (o9 (N:=["price"]) (fr:=[none]) (dC (qv 0)) (fun _ _ _ _=>(J1 (qv 0) aD))) aA))) (aV v8) dI)
   (aV (c8 (jA B (a8 (qv 0) aA)))))),aB6⟩)
theorem aN7:FnScope ["web"] ["web"] (aX (b9 10)):=.au
theorem aN8 (B:Bt mg) (F:FM K mg "hearths_in" 10 f fd)  : Df P w K mg base 1 "hearths_in" ["web"] fV:=
 Df.au F aN7 (fun cdv A outer s H E hr=>by
  exact⟨(K9),(aV (c8 (eS B (a8 (bB (qv 0) aD) aA)))),ax0⟩)
theorem Y7:FnScope ["hearths","inside","hearth"] ["hearths"] (aX (b9 15)):=.au
theorem aN9 (B:Bt mg) (F:FM K mg "marked" 15 f fd)  : Df P w K mg base 1 "marked" ["hearths"] mB:=
 Df.au F Y7 (fun cdv A outer s H E hr=>by
  have nd:=Y7.nd
  have hu:=tL hr
  exact⟨(L5),(aH (fC (i:=1) nd av2)
   (aH (iI 2 nd (dC (qv 0))
    (aV (J7 hu (i:=1) (qv 2) jW)))
   (aV (m7 1)))),ax7⟩)
theorem aO0:FnScope ["around","hearth","elder"] ["around","hearth","elder"] (aX (b9 25)):=.au
theorem aO1 (B:Bt mg) (F:FM K mg "children_of" 25 f fd)  : Df P w K mg base 1 "children_of" ["around","hearth","elder"] k7:=
 Df.au F aO0 (fun cdv A outer s H E hr=>by
  exact⟨(T4),(aV (c8 (m8 (N:=["other","elder"]) (fr:=[none,some 2]) (dC (bB (qv 0) (qv 1))) (fun _ _ _ _=>(aE2 (qv 0) (qv 1))) (fun _ _ _ _=>(qv 0))))),aJ2⟩)
theorem aO2:FnScope ["want"] ["want"] (aX (b9 29)):=.au
theorem aO3 (B:Bt mg) (F:FM K mg "one_less" 29 f fd)  : Df P w K mg base 1 "one_less" ["want"] rY:=
 Df.au F aO2 (fun cdv A outer s H E hr=>by
  exact⟨(V5),(aV (c8 (o4 B rfl (a8 aD (a8 (m3 (qv 0) aD) aA))))),aK9⟩)
theorem Y8:FnScope ["want","price","below","gaps","dearer"] ["want","price","below"] (aX (b9 30)):=.au
theorem aO4 (B:Bt mg) (F:FM K mg "most_for" 30 f fd)  : Df P w K mg base 1 "most_for" ["want","price","below"] oU:=
 Df.au F Y8 (fun cdv A outer s H E hr=>by
  have nd:=Y8.nd
  exact⟨(V6),(aH (bC (i:=3) nd (av5 B (a8 (N1 (N:=["a","b"]) (fr:=[none,none]) (dC (qv 2)) (fun _ _ _ _=>(m3 (qv 1) (qv 0)))) aA)))
   (aH (bC (i:=4) nd (qv 1))
   (aH (dJ (J3 (eS B (a8 (qv 3) aA)) (qv 0)) (aV (bC (i:=4) nd (qQ B rfl (a8 (qv 1) (a8 (rA B rfl (a8 (v9 (qv 3) av9 (o7 (qv 0))) aA)) aA))))) dI)
   (aV (c8 (cI (rA B rfl (a8 (N1 (N:=["a","b"]) (fr:=[none,none]) (dC (qv 2)) (fun _ _ _ _=>(qv 0))) aA)) (qv 4))))))),aL0⟩)
theorem aO5:FnScope ["told","most"] ["told","most"] (aX (b9 32)):=.au
theorem aO6 (B:Bt mg) (F:FM K mg "is_right_pair" 32 f fd)  : Df P w K mg base 1 "is_right_pair" ["told","most"] sC:=
 Df.au F aO5 (fun cdv A outer s H E hr=>by
  exact⟨(X7),(aV (c8 (o0 (qN aD (bB (qv 0) aD)) (o0 (qN (bB (qv 0) aD) (bB (qv 0) aD)) (o0 (qN (bB (qv 0) aD) (bB (qv 1) aD)) (v7 (qN (bB (qv 0) aD) (bB (qv 1) aD)))))))),aM6⟩)
theorem aO7:FnScope ["script","k"] ["script","k"] (aX (b9 34)):=.au
theorem aO8 (B:Bt mg) (F:FM K mg "_law_cell_at" 34 f fd)  : Df P w K mg base 1 "_law_cell_at" ["script","k"] eC:=
 Df.au F aO7 (fun cdv A outer s H E hr=>by
  exact⟨(L7),(aH (dJ (nY (qv 1) (eS B (a8 (qv 0) aA))) (aV (c8 (bB (qv 0) (qv 1)))) dI)
   (aV (c8 aD))),ax9⟩)
theorem Y9:FnScope ["number","k","turn"] ["number","k"] (aX (b9 35)):=.au
theorem aO9 (B:Bt mg) (F:FM K mg "_law_mixed" 35 f fd)  : Df P w K mg base 1 "_law_mixed" ["number","k"] i9:=
 Df.au F Y9 (fun cdv A outer s H E hr=>by
  have nd:=Y9.nd
  exact⟨(Q4),(aH (bC (i:=2) nd (cN (cI (cI (cI (cN (qv 0) aD) (nW (nW aD (qv 1)) (qv 1))) (nW aD (qv 1))) aD) aD))
   (aH (bC (i:=2) nd (cN (nW (qv 2) aD) aD))
   (aV (c8 (cN (nW (qv 2) (qv 2)) aD))))),aG0⟩)
theorem aP0:FnScope ["web","number"] ["web","number"] (aX (b9 12)):=.au
theorem aP1 (B:Bt mg) (F:FM K mg "is_hearth" 12 f fd) (d_hearths_in:Df P w K mg base 1 "hearths_in" ["web"] fV):Df P w K mg base 2 "is_hearth" ["web","number"] qT:=
 Df.au F aP0 (fun cdv A outer s H E hr=>by
  exact⟨(L0),(aV (c8 (o0 (au7 (qv 1) aD) (v7 (J1 (qv 1) (b5 d_hearths_in hr (a8 (qv 0) aA))))))),ax1⟩)
theorem Z0:FnScope ["hearths","some","gone"] ["hearths","some"] (aX (b9 16)):=.au
theorem aP2 (B:Bt mg) (F:FM K mg "without" 16 f fd) (d_marked:Df P w K mg base 1 "marked" ["hearths"] mB):Df P w K mg base 2 "without" ["hearths","some"] mD:=
 Df.au F Z0 (fun cdv A outer s H E hr=>by
  have nd:=Z0.nd
  have hu:=tL hr
  exact⟨(N4),(aH (bC (i:=2) nd (b5 d_marked hr (a8 (qv 1) aA)))
   (aV (c8 (jA B (a8 (m8 (N:=["hearth","gone"]) (fr:=[none,some 2]) (dC (qv 0)) (fun _ _ _ _=>(J5 hu (qv 0) (qv 1))) (fun _ _ _ _=>(qv 0))) aA))))),aA0⟩)
theorem Z1:FnScope ["around","hearths","inside","reached","waiting","hearth","other"] ["around","hearths"] (aX (b9 20)):=.au
theorem aP3 (B:Bt mg) (F:FM K mg "first_piece" 20 f fd) (d_marked:Df P w K mg base 1 "marked" ["hearths"] mB):Df P w K mg base 2 "first_piece" ["around","hearths"] rF:=
 Df.au F Z1 (fun cdv A outer s H E hr=>by
  have nd:=Z1.nd
  have hu:=tL hr
  exact⟨(P0),(aH (bC (i:=2) nd (b5 d_marked hr (a8 (qv 1) aA)))
   (aH (fC (i:=3) nd (aC9 (bB (qv 1) aD)))
   (aH (fC (i:=4) nd (hZ (a8 (bB (qv 1) aD) aA)))
   (aH (qP bg5 (kU (qv 4))
    (aH (aD0 nd 4 5)
    (aV (iI 6 nd (dC (bB (qv 0) (qv 5)))
     (aV (dJ (qO (v4 (au9 hu (qv 6) (qv 2)) (v3 (J5 hu (qv 6) (qv 3))))) (aH (J7 hu (i:=3) (qv 6) jW)
      (aV (kW 4 (qv 6)))) dI))))))
   (aV (c8 (jA B (a8 (aA8 B rfl (a8 (qv 3) aA)) aA)))))))),aD4⟩)
theorem aP4:FnScope ["want","price","below"] ["want","price","below"] (aX (b9 28)):=.au
theorem aP5 (B:Bt mg) (F:FM K mg "most_pair" 28 f fd) (d_most_for:Df P w K mg base 1 "most_for" ["want","price","below"] oU) (d_one_less:Df P w K mg base 1 "one_less" ["want"] rY):Df P w K mg base 2 "most_pair" ["want","price","below"] mP:=
 Df.au F aP4 (fun cdv A outer s H E hr=>by
  exact⟨(V8),(aV (c8 (j8 (a8 (b5 d_most_for hr (a8 (b5 d_one_less hr (a8 (qv 0) aA)) (a8 (qv 1) (a8 (qv 2) aA)))) (a8 (b5 d_most_for hr (a8 (qv 0) (a8 (qv 1) (a8 (qv 2) aA)))) aA))))),aL1⟩)
theorem Z2:FnScope ["script","most","number"] ["script","most"] (aX (b9 36)):=.au
theorem aP6 (B:Bt mg) (F:FM K mg "_law_hearths" 36 f fd) (d__law_cell_at:Df P w K mg base 1 "_law_cell_at" ["script","k"] eC):Df P w K mg base 2 "_law_hearths" ["script","most"] rM:=
 Df.au F Z2 (fun cdv A outer s H E hr=>by
  have nd:=Z2.nd
  exact⟨(Q5),(aH (bC (i:=2) nd (b5 d__law_cell_at hr (a8 (qv 0) (a8 aD aA))))
   (aH (dJ (m5 (cN (qv 2) aD) aD) (aV (c8 (qQ B rfl (a8 (qv 1) (a8 (o4 B rfl (a8 aD (a8 (m3 (eS B (a8 (qv 0) aA)) aD) aA))) aA))))) dI)
   (aH (dJ (m5 (cN (qv 2) aD) aD) (aV (c8 (cN (cI (gB (qv 2) aD) aD) (cI (qv 1) aD)))) dI)
   (aV (c8 (cN (cI (gB (qv 2) aD) aD) (cI (qQ B rfl (a8 aD (a8 (qv 1) aA))) aD))))))),aG1⟩)
theorem Z3:FnScope ["script","many","digits","places","number","k","spot"] ["script","many","digits"] (aX (b9 37)):=.au
theorem aP7 (B:Bt mg) (F:FM K mg "_law_places" 37 f fd) (d__law_cell_at:Df P w K mg base 1 "_law_cell_at" ["script","k"] eC) (d__law_mixed:Df P w K mg base 1 "_law_mixed" ["number","k"] i9):Df P w K mg base 2 "_law_places" ["script","many","digits"] rW:=
 Df.au F Z3 (fun cdv A outer s H E hr=>by
  have nd:=Z3.nd
  exact⟨(U1),(aH (fC (i:=3) nd (M3 B (qv 1)))
   (aH (bC (i:=4) nd (b5 d__law_cell_at hr (a8 (qv 0) (a8 aD aA))))
   (aH (dJ (m5 (cN (gB (b5 d__law_cell_at hr (a8 (qv 0) (a8 aD aA))) aD) aD) aD) (aH (fC (i:=3) nd (hZ aA))
    (aV (iI 5 nd (kX rfl B.range (qv 1))
     (aH (bC (i:=6) nd (b5 d__law_mixed hr (a8 (b5 d__law_cell_at hr (a8 (qv 0) (a8 aD aA))) (a8 (cI (qv 5) aD) aA))))
     (aH (dJ (kU (qv 2)) (aH (bC (i:=6) nd (qv 4))
      (aV (bC (i:=4) nd (gB (qv 4) (cI (qv 5) aD))))) dI)
     (aV (aC5 3 (cN (qv 6) (cI (qv 5) aD)) (qv 5)))))))) dI)
   (aV (m7 3))))),aK0⟩)
theorem Z4:FnScope ["web","seeds","beside","burning","left","hearth","count"] ["web","seeds"] (aX (b9 40)):=.au
theorem aP8 (B:Bt mg) (F:FM K mg "_law_burning" 40 f fd) (d__law_beside:Df P w K mg base 1 "_law_beside" ["web"] Q6):Df P w K mg base 2 "_law_burning" ["web","seeds"] rN:=
 Df.au F Z4 (fun cdv A outer s H E hr=>by
  have nd:=Z4.nd
  exact⟨(Q7),(aH (bC (i:=2) nd (b5 d__law_beside hr (a8 (qv 0) aA)))
   (aH (fC (i:=3) nd (o9 (N:=["hearth","seeds"]) (fr:=[none,some 1]) (kX rfl B.range (eS B (a8 (bB (qv 0) aD) aA))) (fun _ _ _ _=>(av8 (qv 0) (qv 1)))))
   (aH (bC (i:=4) nd jW)
   (aH (qP bg5 (m6 (qv 4))
    (aH (bC (i:=4) nd jW)
    (aV (iI 5 nd (kX rfl B.range (eS B (a8 (bB (qv 0) aD) aA)))
     (aH (bC (i:=6) nd (eS B (a8 (m8 (N:=["other","burning"]) (fr:=[none,some 3]) (dC (bB (qv 2) (qv 5))) (fun _ _ _ _=>(kU (bB (qv 1) (qv 0)))) (fun _ _ _ _=>(qv 0))) aA)))
     (aV (dJ (qO (v4 (nZ (kU (bB (qv 3) (qv 5)))) (v3 (J3 (qv 6) (bB (bB (qv 0) aD) (qv 5)))))) (aH (oA (i:=3) (qv 5) jW)
      (aV (bC (i:=4) nd jW))) dI)))))))
   (aV (m7 3)))))),aG4⟩)
theorem aP9:FnScope ["number","many"] ["number","many"] (aX (b9 42)):=.au
theorem aQ0 (B:Bt mg) (F:FM K mg "_law_seeds" 42 f fd) (d__law_mixed:Df P w K mg base 1 "_law_mixed" ["number","k"] i9):Df P w K mg base 2 "_law_seeds" ["number","many"] rP:=
 Df.au F aP9 (fun cdv A outer s H E hr=>by
  exact⟨(Q9),(aH (dJ (m5 (cN (qv 0) aD) aD) (aV (c8 (jA B (a8 (m8 (N:=["hearth","number"]) (fr:=[none,some 0]) (kX rfl B.range (qv 1)) (fun _ _ _ _=>(m5 (aF7 (au6 (qv 1) (cI (qv 0) aD)) aD) aD)) (fun _ _ _ _=>(qv 0))) aA)))) dI)
   (aV (c8 (jA B (a8 (m8 (N:=["hearth","number"]) (fr:=[none,some 0]) (kX rfl B.range (qv 1)) (fun _ _ _ _=>(J2 (cN (b5 d__law_mixed hr (a8 (qv 1) (a8 (cI (qv 0) aD) aA))) aD) aD)) (fun _ _ _ _=>(qv 0))) aA))))),aG6⟩)
theorem Z5:FnScope ["script","many","prices","k","number"] ["script","many"] (aX (b9 43)):=.au
theorem aQ1 (B:Bt mg) (F:FM K mg "_law_prices" 43 f fd) (d__law_mixed:Df P w K mg base 1 "_law_mixed" ["number","k"] i9) (d__law_cell_at:Df P w K mg base 1 "_law_cell_at" ["script","k"] eC):Df P w K mg base 2 "_law_prices" ["script","many"] rR:=
 Df.au F Z5 (fun cdv A outer s H E hr=>by
  have nd:=Z5.nd
  exact⟨(R6),(aH (fC (i:=2) nd (hZ aA))
   (aH (iI 3 nd (kX rfl B.range (qv 1))
    (aH (bC (i:=4) nd (b5 d__law_mixed hr (a8 (b5 d__law_cell_at hr (a8 (qv 0) (a8 aD aA))) (a8 (cI (qv 3) aD) aA))))
    (aH (dJ (nY (cI aD (qv 3)) (eS B (a8 (qv 0) aA))) (aV (bC (i:=4) nd (cI (gB (bB (qv 0) (cI aD (qv 3))) aD) (b5 d__law_cell_at hr (a8 (qv 0) (a8 aD aA)))))) dI)
    (aV (kW 2 (bB (hZ (a8 (cN (qv 4) aD) (a8 (cI aD (cN (qv 4) aD)) (a8 (cN (qv 4) (J0 aD aD)) (a8 (cI (J0 aD aD) (cN (qv 4) aD)) aA))))) (cN (gB (qv 4) aD) aD)))))))
   (aV (m7 2)))),aH1⟩)
theorem aQ2:FnScope ["web","numbers"] ["web","numbers"] (aX (b9 13)):=.au
theorem aQ3 (B:Bt mg) (F:FM K mg "is_set" 13 f fd) (d_rises:Df P w K mg base 1 "rises" ["things"] vE) (d_is_hearth:Df P w K mg base 2 "is_hearth" ["web","number"] qT):Df P w K mg base 3 "is_set" ["web","numbers"] qU:=
 Df.au F aQ2 (fun cdv A outer s H E hr=>by
  exact⟨(L1),(aV (c8 (o0 (b5 d_rises hr (a8 (qv 1) aA)) (v7 (av6 B rfl (a8 (o9 (N:=["number","web"]) (fr:=[none,some 0]) (dC (qv 1)) (fun _ _ _ _=>(b5 d_is_hearth hr (a8 (qv 1) (a8 (qv 0) aA))))) aA)))))),ax2⟩)
theorem aQ4:FnScope ["web","some"] ["web","some"] (aX (b9 17)):=.au
theorem aQ5 (B:Bt mg) (F:FM K mg "all_but" 17 f fd) (d_without:Df P w K mg base 2 "without" ["hearths","some"] mD) (d_hearths_in:Df P w K mg base 1 "hearths_in" ["web"] fV):Df P w K mg base 3 "all_but" ["web","some"] rE:=
 Df.au F aQ4 (fun cdv A outer s H E hr=>by
  exact⟨(O8),(aV (c8 (b5 d_without hr (a8 (M3 B (b5 d_hearths_in hr (a8 (qv 0) aA))) (a8 (qv 1) aA))))),aC7⟩)
theorem Z6:FnScope ["script","most","many","digits","links","counts","cells","k","number","elder","places","wants","pairs"] ["script","most"] (aX (b9 38)):=.au
theorem aQ6 (B:Bt mg) (F:FM K mg "_law_wood" 38 f fd) (d__law_hearths:Df P w K mg base 2 "_law_hearths" ["script","most"] rM) (d__law_cell_at:Df P w K mg base 1 "_law_cell_at" ["script","k"] eC) (d__law_mixed:Df P w K mg base 1 "_law_mixed" ["number","k"] i9) (d__law_places:Df P w K mg base 2 "_law_places" ["script","many","digits"] rW):Df P w K mg base 3 "_law_wood" ["script","most"] rX:=
 Df.au F Z6 (fun cdv A outer s H E hr=>by
  have nd:=Z6.nd
  exact⟨(V4),(aH (bC (i:=2) nd (b5 d__law_hearths hr (a8 (qv 0) (a8 (qv 1) aA))))
   (aH (bC (i:=3) nd (v0 (cN (gB (b5 d__law_cell_at hr (a8 (qv 0) (a8 aD aA))) aD) aD) aD))
   (aH (fC (i:=4) nd (hZ aA))
   (aH (fC (i:=5) nd (vN (hZ (a8 aD aA)) (qv 2)))
   (aH (fC (i:=6) nd (v9 (qv 0) (o7 aD) (o7 (cI aD (qv 2)))))
   (aH (iI 7 nd (J8 rfl B.range (eS B (a8 (qv 6) aA)) (qv 2))
    (aV (kW 6 (b5 d__law_mixed hr (a8 (b5 d__law_cell_at hr (a8 (qv 0) (a8 aD aA))) (a8 (qv 7) aA))))))
   (aH (iI 7 nd (J8 rfl B.range aD (qv 2))
    (aH (bC (i:=8) nd (b5 d__law_mixed hr (a8 (bB (qv 6) (qv 7)) (a8 (qv 7) aA))))
    (aH (dJ (kU (qv 3)) (aV (bC (i:=8) nd (gB (bB (qv 6) (qv 7)) aD))) dI)
    (aV (dJ (J2 (cN (qv 8) aD) aD) (aH (bC (i:=9) nd (cN (gB (qv 8) aD) (qv 7)))
     (aH (dJ (m5 (cN (b5 d__law_cell_at hr (a8 (qv 0) (a8 aD aA))) aD) aD) (aV (bC (i:=9) nd (o4 B rfl (a8 aD (a8 (m3 (m3 (qv 7) aD) (cN (gB (qv 8) aD) aD)) aA))))) dI)
     (aH (kW 4 (j8 (a8 (qv 9) (a8 (qv 7) aA))))
     (aH (oA (i:=5) (qv 9) (cI (bB (qv 5) (qv 9)) aD))
     (aV (oA (i:=5) (qv 7) (cI (bB (qv 5) (qv 7)) aD))))))) dI)))))
   (aH (bC (i:=10) nd (b5 d__law_places hr (a8 (qv 0) (a8 (qv 2) (a8 (qv 3) aA)))))
   (aH (fC (i:=11) nd (vN (hZ (a8 aD aA)) (qv 2)))
   (aH (iI 7 nd (kX rfl B.range (qv 2))
    (aV (oA (i:=11) (bB (qv 10) (qv 7)) (cN (bB (qv 6) (qv 7)) (cI (bB (qv 5) (qv 7)) aD)))))
   (aH (J6 4 (az5 (i:=12) nd (N:=["one","other","places"]) (fr:=[none,none,some 10]) (dC (qv 4)) (fun _ _ _ _=>(j8 (a8 (qQ B rfl (a8 (bB (qv 2) (qv 0)) (a8 (bB (qv 2) (qv 1)) aA))) (a8 (o4 B rfl (a8 (bB (qv 2) (qv 0)) (a8 (bB (qv 2) (qv 1)) aA))) aA))))))
   (aV (c8 (j8 (a8 (jA B (a8 (qv 11) aA)) (a8 (jA B (a8 (ay3 B (a8 (qv 12) aA)) aA)) aA)))))))))))))))),aK8⟩)
theorem aQ7:FnScope ["web","seeds"] ["web","seeds"] (aX (b9 41)):=.au
theorem aQ8 (B:Bt mg) (F:FM K mg "_law_lights" 41 f fd) (d__law_burning:Df P w K mg base 2 "_law_burning" ["web","seeds"] rN):Df P w K mg base 3 "_law_lights" ["web","seeds"] rO:=
 Df.au F aQ7 (fun cdv A outer s H E hr=>by
  exact⟨(Q8),(aV (c8 (v0 (eS B (a8 (m8 (N:=["fire"]) (fr:=[none]) (dC (b5 d__law_burning hr (a8 (qv 0) (a8 (qv 1) aA)))) (fun _ _ _ _=>(nZ (kU (qv 0)))) (fun _ _ _ _=>(qv 0))) aA)) aD))),aG5⟩)
theorem aQ9:FnScope ["web","hearths"] ["web","hearths"] (aX (b9 14)):=.au
theorem aR0 (B:Bt mg) (F:FM K mg "made_set" 14 f fd) (d_is_set:Df P w K mg base 3 "is_set" ["web","numbers"] qU) (x_BadSet:Xc K mg base "BadSet"):eF P w K mg base 4 "made_set" ["web","hearths"] rC:=
 eF.au F aQ9 O6 aC3 (fun cdv A outer s H E Ep hr hX=>by
  exact (aH (dJ (nZ (m6 (b5 d_is_set hr (a8 (qv 0) (a8 (qv 1) aA))))) (aV (vT hX x_BadSet (a8 uZ aA))) dI)
   (aV (c8 (jA B (a8 (qv 1) aA))))))
theorem Z7:FnScope ["web","block","around","left","pieces","piece"] ["web","block"] (aX (b9 19)):=.au
theorem aR1 (B:Bt mg) (F:FM K mg "cold_pieces" 19 f fd) (d_near_lists:Df P w K mg base 1 "near_lists" ["web"] i4) (d_made_set:eF P w K mg base 4 "made_set" ["web","hearths"] rC) (d_first_piece:Df P w K mg base 2 "first_piece" ["around","hearths"] rF) (d_without:Df P w K mg base 2 "without" ["hearths","some"] mD):eF P w K mg base 5 "cold_pieces" ["web","block"] rJ:=
 eF.au F Z7 aD9 aE0 (fun cdv A outer s H E Ep hr hX=>by
  have nd:=Z7.nd
  exact (aH (bC (i:=2) nd (b5 d_near_lists hr (a8 (qv 0) aA)))
   (aH (bC (i:=3) nd (aC0 hX d_made_set hr (a8 (qv 0) (a8 (qv 1) aA))))
   (aH (fC (i:=4) nd (hZ aA))
   (aH (qP hX.own (kU (qv 3))
    (aH (bC (i:=5) nd (b5 d_first_piece hr (a8 (qv 2) (a8 (qv 3) aA))))
    (aH (kW 4 (qv 5))
    (aV (bC (i:=3) nd (b5 d_without hr (a8 (qv 3) (a8 (qv 5) aA))))))))
   (aV (m7 4)))))))
theorem aR2:FnScope ["web"] ["web"] (aX (b9 23)):=.au
theorem aR3 (B:Bt mg) (F:FM K mg "all_pieces" 23 f fd) (d_cold_pieces:eF P w K mg base 5 "cold_pieces" ["web","block"] rJ) (d_all_but:Df P w K mg base 3 "all_but" ["web","some"] rE):Df P w K mg base 6 "all_pieces" ["web"] mK:=
 Df.au F aR2 (fun cdv A outer s H E hr=>by
  exact⟨(S6),(aV (c8 (O4 d_cold_pieces hr (a8 (qv 0) (a8 (b5 d_all_but hr (a8 (qv 0) (a8 (j8 aA) aA))) aA))))),aI4⟩)
theorem aR4:FnScope ["web"] ["web"] (aX (b9 22)):=.au
theorem aR5 (B:Bt mg) (F:FM K mg "is_wood" 22 f fd) (d_hearths_in:Df P w K mg base 1 "hearths_in" ["web"] fV) (d_all_pieces:Df P w K mg base 6 "all_pieces" ["web"] mK):Df P w K mg base 7 "is_wood" ["web"] rU:=
 Df.au F aR4 (fun cdv A outer s H E hr=>by
  exact⟨(T1),(aV (c8 (v0 (eS B (a8 (bB (qv 0) aD) aA)) (m3 (b5 d_hearths_in hr (a8 (qv 0) aA)) (eS B (a8 (b5 d_all_pieces hr (a8 (qv 0) aA)) aA)))))),aJ1⟩)
theorem Z8:FnScope ["web","around","pairs","turn","hearth"] ["web"] (aX (b9 24)):=.au
theorem aR6 (B:Bt mg) (F:FM K mg "from_roots" 24 f fd) (d_is_wood:Df P w K mg base 7 "is_wood" ["web"] rU) (d_near_lists:Df P w K mg base 1 "near_lists" ["web"] i4) (d_all_pieces:Df P w K mg base 6 "all_pieces" ["web"] mK) (d_children_of:Df P w K mg base 1 "children_of" ["around","hearth","elder"] k7):Df P w K mg base 8 "from_roots" ["web"] mO:=
 Df.au F Z8 (fun cdv A outer s H E hr=>by
  have nd:=Z8.nd
  exact⟨(T7),(aH (dJ (nZ (m6 (b5 d_is_wood hr (a8 (qv 0) aA)))) (aV v8) dI)
   (aH (bC (i:=1) nd (b5 d_near_lists hr (a8 (qv 0) aA)))
   (aH (aw0 (i:=2) nd (N:=["piece"]) (fr:=[none]) (dC (b5 d_all_pieces hr (a8 (qv 0) aA))) (fun _ _ _ _=>(j8 (a8 (bB (qv 0) aD) (a8 G9 aA)))))
   (aH (bC (i:=3) nd aD)
   (aH (qP bg5 (nY (qv 3) (eS B (a8 (qv 2) aA)))
    (aH (bC (i:=4) nd (bB (bB (qv 2) (qv 3)) aD))
    (aH (aw2 2 (o9 (N:=["child","hearth"]) (fr:=[none,some 4]) (dC (b5 d_children_of hr (a8 (qv 1) (a8 (qv 4) (a8 (bB (bB (qv 2) (qv 3)) aD) aA))))) (fun _ _ _ _=>(j8 (a8 (qv 0) (a8 (qv 1) aA))))))
    (aV (bC (i:=3) nd (cI (qv 3) aD))))))
   (aV (m7 2))))))),aJ4⟩)
theorem Z9:FnScope ["web","prices","pairs","known","around","ledger","hearth","elder","below"] ["web","prices"] (aX (b9 27)):=.au
theorem aR7 (B:Bt mg) (F:FM K mg "best_ledger" 27 f fd) (d_from_roots:Df P w K mg base 8 "from_roots" ["web"] mO) (d_made_prices:Df P w K mg base 1 "made_prices" ["prices","many"] mE) (d_hearths_in:Df P w K mg base 1 "hearths_in" ["web"] fV) (d_near_lists:Df P w K mg base 1 "near_lists" ["web"] i4) (d_children_of:Df P w K mg base 1 "children_of" ["around","hearth","elder"] k7) (d_most_pair:Df P w K mg base 2 "most_pair" ["want","price","below"] mP) (rv:mg "reversed" = none):Df P w K mg base 9 "best_ledger" ["web","prices"] sA:=
 Df.au F Z9 (fun cdv A outer s H E hr=>by
  have nd:=Z9.nd
  exact⟨(W0),(aH (bC (i:=2) nd (b5 d_from_roots hr (a8 (qv 0) aA)))
   (aH (bC (i:=3) nd (b5 d_made_prices hr (a8 (qv 1) (a8 (b5 d_hearths_in hr (a8 (qv 0) aA)) aA))))
   (aH (bC (i:=4) nd (b5 d_near_lists hr (a8 (qv 0) aA)))
   (aH (fC (i:=5) nd (vN (hZ (a8 (j8 (a8 aD (a8 aD aA))) aA)) (b5 d_hearths_in hr (a8 (qv 0) aA))))
   (aH (vB 6 7 nd (aH0 rv (qv 2))
    (aH (K2 (i:=8) nd (N:=["child","ledger"]) (fr:=[none,some 5]) (dC (b5 d_children_of hr (a8 (qv 4) (a8 (qv 6) (a8 (qv 7) aA))))) (fun _ _ _ _=>(bB (qv 1) (qv 0))))
    (aV (oA (i:=5) (qv 6) (b5 d_most_pair hr (a8 (bB (bB (qv 0) aD) (qv 6)) (a8 (bB (qv 3) (qv 6)) (a8 (qv 8) aA))))))))
   (aV (c8 (jA B (a8 (qv 5) aA))))))))),aL5⟩)
theorem aa0:FnScope ["web","prices","ledger","pairs","known","around","hearth","elder","below"] ["web","prices","ledger"] (aX (b9 31)):=.au
theorem aR8 (B:Bt mg) (F:FM K mg "judged_ledger" 31 f fd) (d_from_roots:Df P w K mg base 8 "from_roots" ["web"] mO) (d_made_prices:Df P w K mg base 1 "made_prices" ["prices","many"] mE) (d_hearths_in:Df P w K mg base 1 "hearths_in" ["web"] fV) (d_near_lists:Df P w K mg base 1 "near_lists" ["web"] i4) (d_children_of:Df P w K mg base 1 "children_of" ["around","hearth","elder"] k7) (d_is_right_pair:Df P w K mg base 1 "is_right_pair" ["told","most"] sC) (d_most_pair:Df P w K mg base 2 "most_pair" ["want","price","below"] mP) (x_NoPaper:Xc K mg base "NoPaper"):eF P w K mg base 9 "judged_ledger" ["web","prices","ledger"] oV:=
 eF.au F aa0 x3 aM8 (fun cdv A outer s H E Ep hr hX=>by
  have nd:=aa0.nd
  exact (aH (bC (i:=3) nd (b5 d_from_roots hr (a8 (qv 0) aA)))
   (aH (bC (i:=4) nd (b5 d_made_prices hr (a8 (qv 1) (a8 (b5 d_hearths_in hr (a8 (qv 0) aA)) aA))))
   (aH (dJ (J4 (eS B (a8 (qv 2) aA)) (b5 d_hearths_in hr (a8 (qv 0) aA))) (aV (vT hX x_NoPaper (a8 uZ aA))) dI)
   (aH (bC (i:=5) nd (b5 d_near_lists hr (a8 (qv 0) aA)))
   (aH (vB 6 7 (hp:=hX.own) nd (dC (qv 3))
    (aH (K2 (i:=8) nd (N:=["child","ledger"]) (fr:=[none,some 2]) (dC (b5 d_children_of hr (a8 (qv 5) (a8 (qv 6) (a8 (qv 7) aA))))) (fun _ _ _ _=>(bB (qv 1) (qv 0))))
    (aV (dJ (nZ (m6 (b5 d_is_right_pair hr (a8 (bB (qv 2) (qv 6)) (a8 (b5 d_most_pair hr (a8 (bB (bB (qv 0) aD) (qv 6)) (a8 (bB (qv 4) (qv 6)) (a8 (qv 8) aA)))) aA))))) (aV (vT hX x_NoPaper (a8 uZ aA))) dI))))
   (aV (c8 (rA B rfl (a8 (az4 (N:=["hearth","elder","ledger"]) (fr:=[none,none,some 2]) (dC (qv 3)) (fun _ _ _ _=>(au8 (qv 1) G9)) (fun _ _ _ _=>(bB (bB (qv 2) (qv 0)) aD))) aA))))))))))
theorem aa1:FnScope ["script","web","many","prices","best","bound","lower","first","second","other","tried","cell","seeds","price"] ["script"] (aX (b9 44)):=.au
theorem aR9 (B:Bt mg) (F:eO K "law" "law" (b9 44) f fd) (d__law_wood:Df P w K mg base 3 "_law_wood" ["script","most"] rX) (d__law_prices:Df P w K mg base 2 "_law_prices" ["script","many"] rR) (d_best_ledger:Df P w K mg base 9 "best_ledger" ["web","prices"] sA) (d_judged_ledger:eF P w K mg base 9 "judged_ledger" ["web","prices","ledger"] oV) (d__law_cell_at:Df P w K mg base 1 "_law_cell_at" ["script","k"] eC) (d__law_seeds:Df P w K mg base 2 "_law_seeds" ["number","many"] rP) (d__law_lights:Df P w K mg base 3 "_law_lights" ["web","seeds"] rO) (cat_NoPaper:vV K mg "NoPaper"):cF P w K mg base dE 10 f fd ["script"] (nR K x4):=
 az1 F aa1 (fun xs Q h=>by unfold x4 at h; repeat (first | (obtain ⟨rfl,_⟩:=h; rfl) | (obtain ⟨_,h⟩:=h))) (fun cdv A outer s H E hr=>by
  have nd:=aa1.nd
  exact⟨(Y2),(aH (bC (i:=1) nd (b5 d__law_wood hr (a8 (qv 0) (a8 aD aA))))
   (aH (bC (i:=2) nd (eS B (a8 (bB (qv 1) aD) aA)))
   (aH (bC (i:=3) nd (b5 d__law_prices hr (a8 (qv 0) (a8 (qv 2) aA))))
   (aH (bC (i:=4) nd (b5 d_best_ledger hr (a8 (qv 1) (a8 (qv 3) aA))))
   (aH (bC (i:=5) nd (O4 d_judged_ledger hr (a8 (qv 1) (a8 (qv 3) (a8 (qv 4) aA)))))
   (aH (fC (i:=6) nd (hZ aA))
   (aH (vB 7 8 nd (dC (qv 4))
    (aV (kW 6 (j8 (a8 (gB (qv 7) aD) (a8 (o4 B rfl (a8 (gB (qv 7) aD) (a8 (gB (qv 8) (cI aD (cN (b5 d__law_cell_at hr (a8 (qv 0) (a8 aD aA))) aD))) aA))) aA))))))
   (aH (bC (i:=9) nd aD)
   (aH (aM5 cat_NoPaper (aI0 9 d_judged_ledger hr nd (fun _=>(a8 (qv 1) (a8 (qv 3) (a8 (qv 6) aA))))) (fun _=>(aV (bC (i:=9) nd aD))))
   (aH (fC (i:=10) nd (hZ (a8 (aF9 B (qv 2)) aA)))
   (aH (iI 11 nd (dC (v9 (qv 0) (o7 aD) (o7 aD)))
    (aV (kW 10 (b5 d__law_seeds hr (a8 (qv 11) (a8 (qv 2) aA))))))
   (aH (J6 10 (iI 12 nd (dC (qv 10))
    (aH (bC (i:=13) nd (rA B rfl (a8 (o9 (N:=["hearth","prices"]) (fr:=[none,some 3]) (dC (qv 12)) (fun _ _ _ _=>(bB (qv 1) (qv 0)))) aA)))
    (aV (dJ (qO (v4 (m6 (b5 d__law_lights hr (a8 (qv 1) (a8 (qv 12) aA)))) (v3 (qO (av1 (nY (qv 13) (qv 5)) (av0 (nY (qv 13) (qv 9)))))))) (aV (c8 jW)) dI)))))
   (aV (c8 jW)))))))))))))),aN1⟩)
end
set_option autoImplicit true in
theorem aS0 {l:OpenLaw}{w:World}{K:Frag}{h:Heap}{mg:Str->Option Value} (X:K.In h) (G:h.Ns mainGlobals mg) (hfa:mg "law" = some (.ref fa))
  (h0:FK K "made_prices" 7 f0 d0)
  (h1:FK K "rises" 9 f1 d1)
  (h2:FK K "hearths_in" 10 f2 d2)
  (h3:FK K "near_lists" 11 f3 d3)
  (h4:FK K "marked" 15 f4 d4)
  (h5:FK K "children_of" 25 f5 d5)
  (h6:FK K "one_less" 29 f6 d6)
  (h7:FK K "most_for" 30 f7 d7)
  (h8:FK K "is_right_pair" 32 f8 d8)
  (h9:FK K "_law_cell_at" 34 f9 d9)
  (h10:FK K "_law_mixed" 35 f10 d10)
  (h11:FK K "_law_beside" 39 f11 d11)
  (h12:FK K "is_hearth" 12 f12 d12)
  (h13:FK K "without" 16 f13 d13)
  (h14:FK K "first_piece" 20 f14 d14)
  (h15:FK K "most_pair" 28 f15 d15)
  (h16:FK K "_law_hearths" 36 f16 d16)
  (h17:FK K "_law_places" 37 f17 d17)
  (h18:FK K "_law_burning" 40 f18 d18)
  (h19:FK K "_law_seeds" 42 f19 d19)
  (h20:FK K "_law_prices" 43 f20 d20)
  (h21:FK K "is_set" 13 f21 d21)
  (h22:FK K "all_but" 17 f22 d22)
  (h23:FK K "_law_wood" 38 f23 d23)
  (h24:FK K "_law_lights" 41 f24 d24)
  (h25:FK K "made_set" 14 f25 d25)
  (h26:FK K "cold_pieces" 19 f26 d26)
  (h27:FK K "all_pieces" 23 f27 d27)
  (h28:FK K "is_wood" 22 f28 d28)
  (h29:FK K "from_roots" 24 f29 d29)
  (h30:FK K "best_ledger" 27 f30 d30)
  (h31:FK K "judged_ledger" 31 f31 d31)
  (a32:nsIn K mainGlobals "law" = some (some (.ref f32))) (l32:K.lookup f32=some ⟨oc32,od32,.func (fnOf "law" "law" (iU (b9 44)) (eN (b9 44)) (aX (b9 44)) .none kV32 dc32 pm32 an32 cd32 ct32),sl32⟩) (c32:codeIn K cd32 "law" = true) (k32:keepIn K (.ref f32)=true)
  (z_len:nsIn K mainGlobals "len" = some none)
  (z_range:nsIn K mainGlobals "range" = some none)
  (z_tuple:nsIn K mainGlobals "tuple" = some none)
  (z_list:nsIn K mainGlobals "list" = some none)
  (z_sorted:nsIn K mainGlobals "sorted" = some none)
  (z_all:nsIn K mainGlobals "all" = some none)
  (z_any:nsIn K mainGlobals "any" = some none)
  (z_zip:nsIn K mainGlobals "zip" = some none)
  (z_min:nsIn K mainGlobals "min" = some none)
  (z_max:nsIn K mainGlobals "max" = some none)
  (z_sum:nsIn K mainGlobals "sum" = some none)
  (z_isinstance:nsIn K mainGlobals "isinstance" = some none)
  (z_int:nsIn K mainGlobals "int" = some none)
  (z_bool:nsIn K mainGlobals "bool" = some none)
  (z_enumerate:nsIn K mainGlobals "enumerate" = some none)
  (z_reversed:nsIn K mainGlobals "reversed" = some none)
  {C_HearthError C_BadSet C_BadPrices C_NotWood C_NoPaper:Addr}
  (aX_HE:nsIn K mainGlobals "HearthError" = some (some (.ref C_HearthError)))
  (aX_BS:nsIn K mainGlobals "BadSet" = some (some (.ref C_BadSet)))
  (aX_BP:nsIn K mainGlobals "BadPrices" = some (some (.ref C_BadPrices)))
  (aX_NW:nsIn K mainGlobals "NotWood" = some (some (.ref C_NotWood)))
  (aX_NP:nsIn K mainGlobals "NoPaper" = some (some (.ref C_NoPaper)))
  (zX_BW:nsIn K mainGlobals "BadWeb" = some none)
  (zX_BO:nsIn K mainGlobals "BadOrder" = some none)
  (zX_BB:nsIn K mainGlobals "BadBoard" = some none)
  (zX_BD:nsIn K mainGlobals "BadDeed" = some none)
  (zX_NS:nsIn K mainGlobals "NoSuch" = some none)
  (zX_TM:nsIn K mainGlobals "TooMany" = some none)
  (zX_NT:nsIn K mainGlobals "NoText" = some none)
  (zX_OR:nsIn K mainGlobals "OddRound" = some none)
  (y_fg:specialIn K (.builtin "object.__class__") "__get__" = some (some (.builtin "getset_descriptor.__get__")))
  (y_ft:takesIn K (.builtin "object.__class__")=some true)
  (z_VE:nsIn K mainGlobals "ValueError" = some none)
  (y1_HE:isClsIn K C_HearthError=true)
  (y2_HE:typeIn K (.ref C_HearthError)=some (.type "type"))
  (y3_HE:findIn K (.ref C_HearthError) "__getattribute__" = some (some (.builtin "BaseException.__getattribute__")))
  (y4_HE:findIn K (.ref C_HearthError) "__getattr__" = some none)
  (y5_HE:findIn K (.ref C_HearthError) "__class__" = some (some (.builtin "object.__class__")))
  (y6_HE:mroIn K C_HearthError (.type "object")=some true)
  (y7_HE:mroIn K C_HearthError (.type "BaseException")=some true)
  (y1_BS:isClsIn K C_BadSet=true)
  (y2_BS:typeIn K (.ref C_BadSet)=some (.type "type"))
  (y3_BS:findIn K (.ref C_BadSet) "__getattribute__" = some (some (.builtin "BaseException.__getattribute__")))
  (y4_BS:findIn K (.ref C_BadSet) "__getattr__" = some none)
  (y5_BS:findIn K (.ref C_BadSet) "__class__" = some (some (.builtin "object.__class__")))
  (y6_BS:mroIn K C_BadSet (.type "object")=some true)
  (y7_BS:mroIn K C_BadSet (.type "BaseException")=some true)
  (y1_BP:isClsIn K C_BadPrices=true)
  (y2_BP:typeIn K (.ref C_BadPrices)=some (.type "type"))
  (y3_BP:findIn K (.ref C_BadPrices) "__getattribute__" = some (some (.builtin "BaseException.__getattribute__")))
  (y4_BP:findIn K (.ref C_BadPrices) "__getattr__" = some none)
  (y5_BP:findIn K (.ref C_BadPrices) "__class__" = some (some (.builtin "object.__class__")))
  (y6_BP:mroIn K C_BadPrices (.type "object")=some true)
  (y7_BP:mroIn K C_BadPrices (.type "BaseException")=some true)
  (y1_NW:isClsIn K C_NotWood=true)
  (y2_NW:typeIn K (.ref C_NotWood)=some (.type "type"))
  (y3_NW:findIn K (.ref C_NotWood) "__getattribute__" = some (some (.builtin "BaseException.__getattribute__")))
  (y4_NW:findIn K (.ref C_NotWood) "__getattr__" = some none)
  (y5_NW:findIn K (.ref C_NotWood) "__class__" = some (some (.builtin "object.__class__")))
  (y6_NW:mroIn K C_NotWood (.type "object")=some true)
  (y7_NW:mroIn K C_NotWood (.type "BaseException")=some true)
  (y1_NP:isClsIn K C_NoPaper=true)
  (y2_NP:typeIn K (.ref C_NoPaper)=some (.type "type"))
  (y3_NP:findIn K (.ref C_NoPaper) "__getattribute__" = some (some (.builtin "BaseException.__getattribute__")))
  (y4_NP:findIn K (.ref C_NoPaper) "__getattr__" = some none)
  (y5_NP:findIn K (.ref C_NoPaper) "__class__" = some (some (.builtin "object.__class__")))
  (y6_NP:mroIn K C_NoPaper (.type "object")=some true)
  (y7_NP:mroIn K C_NoPaper (.type "BaseException")=some true)
  (sB_NP:subIn K (.ref C_NoPaper) (.type "BaseException")=some true)
  (s_NP_NP:subIn K (.ref C_NoPaper) (.ref C_NoPaper)=some true)
  (q_BS:excIn K C_BadSet [.type "ValueError",.type "Exception",.type "BaseException",.type "object"] "ValueError.__new__" = true)
  (q_NP:excIn K C_NoPaper [.type "ValueError",.type "Exception",.type "BaseException",.type "object"] "ValueError.__new__" = true)
  : ∃ fd:FuncData,(∀ (s:Shared) (v:Value),BindsTo s fd ⟨[v],[]⟩ [("script",v)])/\∀ base:Heap,K.In base->base.Ns mainGlobals mg->cF l.prog w K mg base dE 10 fa fd ["script"] (qZ K):=by
 have e:=hfa.symm.trans (mg_of X G a32)
 cases e
 have F32:=al1 (st:=b9 44) l32 c32 k32
 have m32:=mg_of X G a32
 have B:Bt mg:=⟨mg_none_of X G z_len,mg_none_of X G z_range,mg_none_of X G z_tuple,mg_none_of X G z_list,mg_none_of X G z_sorted,mg_none_of X G z_all,mg_none_of X G z_any,mg_none_of X G z_zip,mg_none_of X G z_min,mg_none_of X G z_max,mg_none_of X G z_sum,mg_none_of X G z_isinstance,mg_none_of X G z_int,mg_none_of X G z_bool,mg_none_of X G z_enumerate⟩
 have rv:=mg_none_of X G z_reversed
 refine⟨fnOf "law" "law" (iU (b9 44)) (eN (b9 44)) (aX (b9 44)) .none kV32 dc32 pm32 an32 cd32 ct32,fun s v=>.of_eq rfl,fun base KB _=>?_⟩
 have XK_HearthError:oN K C_HearthError:=⟨y1_HE,y2_HE,y3_HE,y4_HE,y5_HE,y_fg,y_ft,y6_HE,y7_HE⟩
 have XK_BadSet:oN K C_BadSet:=⟨y1_BS,y2_BS,y3_BS,y4_BS,y5_BS,y_fg,y_ft,y6_BS,y7_BS⟩
 have XK_BadPrices:oN K C_BadPrices:=⟨y1_BP,y2_BP,y3_BP,y4_BP,y5_BP,y_fg,y_ft,y6_BP,y7_BP⟩
 have XK_NotWood:oN K C_NotWood:=⟨y1_NW,y2_NW,y3_NW,y4_NW,y5_NW,y_fg,y_ft,y6_NW,y7_NW⟩
 have XK_NoPaper:oN K C_NoPaper:=⟨y1_NP,y2_NP,y3_NP,y4_NP,y5_NP,y_fg,y_ft,y6_NP,y7_NP⟩
 have cat_NoPaper:vV K mg "NoPaper":=⟨C_NoPaper,mg_of X G aX_NP,⟨y1_NP,y2_NP,sB_NP⟩,fun n C h2 h1=>by
  obtain ⟨hm,hb⟩:=aC2 h2
  simp only [vU,aU0,aW6,bd0] at hm
  rcases hm with rfl | rfl | rfl | rfl | rfl | rfl | rfl | rfl | rfl | rfl | rfl | rfl
  ·rw [zX_BW] at h1; cases h1
  ·rw [aX_BS] at h1; cases h1; exact absurd hb (by decide)
  ·rw [zX_BO] at h1; cases h1
  ·rw [aX_BP] at h1; cases h1; exact absurd hb (by decide)
  ·rw [zX_BB] at h1; cases h1
  ·rw [zX_BD] at h1; cases h1
  ·rw [aX_NW] at h1; cases h1; exact absurd hb (by decide)
  ·rw [aX_NP] at h1; cases h1; exact s_NP_NP
  ·rw [zX_NS] at h1; cases h1
  ·rw [zX_TM] at h1; cases h1
  ·rw [zX_NT] at h1; cases h1
  ·rw [zX_OR] at h1; cases h1⟩
 have x_BadSet:Xc K mg base "BadSet":=⟨C_BadSet,_,_,_,_,O5 KB (mg_of X G aX_BS) q_BS,PySem.F.excBase_ValueError,aX_BS⟩
 have x_NoPaper:Xc K mg base "NoPaper":=⟨C_NoPaper,_,_,_,_,O5 KB (mg_of X G aX_NP) q_NP,PySem.F.excBase_ValueError,aX_NP⟩
 have D0:=aN6 (P:=l.prog) (w:=w) (base:=base) B (h0.M X G)
 have D1:=ay4 (aN2 (P:=l.prog) (w:=w) (base:=base) B h1.F) (h1.F.binds (ps:=["things"]) fun _ _ _ _ _ _ us hl=>by obtain ⟨_,rfl⟩:=mG hl; rfl) h1.F.kp (mg_of X G h1.a)
 have D2:=aN8 (P:=l.prog) (w:=w) (base:=base) B (h2.M X G)
 have D3:=ay5 (aN3 (P:=l.prog) (w:=w) (mg:=mg) (base:=base) h3.F) (h3.F.binds (ps:=["web"]) fun _ _ _ _ _ _ us hl=>by obtain ⟨_,rfl⟩:=mG hl; rfl) h3.F.kp (mg_of X G h3.a)
 have D4:=aN9 (P:=l.prog) (w:=w) (base:=base) B (h4.M X G)
 have D5:=aO1 (P:=l.prog) (w:=w) (base:=base) B (h5.M X G)
 have D6:=aO3 (P:=l.prog) (w:=w) (base:=base) B (h6.M X G)
 have D7:=aO4 (P:=l.prog) (w:=w) (base:=base) B (h7.M X G)
 have D8:=aO6 (P:=l.prog) (w:=w) (base:=base) B (h8.M X G)
 have D9:=aO8 (P:=l.prog) (w:=w) (base:=base) B (h9.M X G)
 have D10:=aO9 (P:=l.prog) (w:=w) (base:=base) B (h10.M X G)
 have D11:=aG2 (aN4 (P:=l.prog) (w:=w) (mg:=mg) (base:=base) h11.F) (h11.F.binds (ps:=["web"]) fun _ _ _ _ _ _ us hl=>by obtain ⟨_,rfl⟩:=mG hl; rfl) h11.F.kp (mg_of X G h11.a)
 have D12:=aP1 (P:=l.prog) (w:=w) (base:=base) B (h12.M X G) D2
 have D13:=aP2 (P:=l.prog) (w:=w) (base:=base) B (h13.M X G) D4
 have D14:=aP3 (P:=l.prog) (w:=w) (base:=base) B (h14.M X G) D4
 have D15:=aP5 (P:=l.prog) (w:=w) (base:=base) B (h15.M X G) D7 D6
 have D16:=aP6 (P:=l.prog) (w:=w) (base:=base) B (h16.M X G) D9
 have D17:=aP7 (P:=l.prog) (w:=w) (base:=base) B (h17.M X G) D9 D10
 have D18:=aP8 (P:=l.prog) (w:=w) (base:=base) B (h18.M X G) D11
 have D19:=aQ0 (P:=l.prog) (w:=w) (base:=base) B (h19.M X G) D10
 have D20:=aQ1 (P:=l.prog) (w:=w) (base:=base) B (h20.M X G) D10 D9
 have D21:=aQ3 (P:=l.prog) (w:=w) (base:=base) B (h21.M X G) D1 D12
 have D22:=aQ5 (P:=l.prog) (w:=w) (base:=base) B (h22.M X G) D13 D2
 have D23:=aQ6 (P:=l.prog) (w:=w) (base:=base) B (h23.M X G) D16 D9 D10 D17
 have D24:=aQ8 (P:=l.prog) (w:=w) (base:=base) B (h24.M X G) D18
 have D25:=aR0 (P:=l.prog) (w:=w) (base:=base) B (h25.M X G) D21 x_BadSet
 have D26:=aR1 (P:=l.prog) (w:=w) (base:=base) B (h26.M X G) D3 D25 D14 D13
 have D27:=aR3 (P:=l.prog) (w:=w) (base:=base) B (h27.M X G) D26 D22
 have D28:=aR5 (P:=l.prog) (w:=w) (base:=base) B (h28.M X G) D2 D27
 have D29:=aR6 (P:=l.prog) (w:=w) (base:=base) B (h29.M X G) D28 D3 D27 D5
 have D30:=aR7 (P:=l.prog) (w:=w) (base:=base) B (h30.M X G) D29 D0 D2 D3 D5 D15 rv
 have D31:=aR8 (P:=l.prog) (w:=w) (base:=base) B (h31.M X G) D29 D0 D2 D3 D5 D8 D15 x_NoPaper
 exact az2 (aR9 B F32 D23 D20 D30 D31 D9 D19 D24 cat_NoPaper)
theorem aS1 {l:OpenLaw}{q:Program}{loose:List Str}{XP:(Str->Option Value)->Heap->Prop}{YP:World->Heap->Prop}{d:DefRec}{K:Params->Frag} (hn:l.most=some 63) (hdf:d.params.defaults = [])
  (hY:∀ (w:World) (h:Heap),YP w h->(K w.params).In h)
  (F:∀ (w:World) (mg:Str->Option Value) (fa:Addr) (h:Heap),(K w.params).In h->h.Ns mainGlobals mg->mg d.name=some (.ref fa)->
   ∃ fd:FuncData,(∀ (s:Shared) (u:Value),BindsTo s fd ⟨[u],[]⟩ [("script",u)])/\∀ base:Heap,(K w.params).In base->base.Ns mainGlobals mg->cF l.prog w (K w.params) mg base dE 10 fa fd ["script"] (qZ (K w.params))) :
  WalkO q loose XP YP l.row.toRowW d [] (fun f vs=>PySem.call f vs):=
 L2.ak9 (n:=63) (k:=10) (x:="script") (CX:=fun _=>dE) (sp:=fun w=>qZ (K w.params)) hn (by decide) hdf ⟨rfl,by decide,by decide⟩ hY F (fun _ _ a ns hl hO hS=>⟨a,ns,rfl,az3 hO hS,hl,fun _=>rfl⟩) fun _ _ _ _ _ z=>z
end K_k57
open PySem PySem.W PyProof.Rows
theorem PySem.W.Fast.te13052408679150730464 : True := trivial
theorem PySem.W.Fast.te16555476440528808052 : True := trivial
theorem PySem.W.Fast.te5369427470323729400 : True := trivial
set_option maxRecDepth 100000 in
set_option maxHeartbeats 0 in
theorem PySem.Challenge.cw_kindleweb_k57_whole_no_cheaper_seeds_in_holds : PySem.Challenge.rw_kindleweb_k57_whole_no_cheaper_seeds_in.Holds := by
 w_on; o_law; k_head; (case hw => w_witness2)
 k_fill
 refine K_k57.aS1 (l := PySem.Challenge.rw_kindleweb_k57_whole_no_cheaper_seeds_in) rfl rfl (fun w h Y => PySem.W.kIn_of Y) ?F
 case F =>
  intro w mg fa h KX G hmg
  refine' K_k57.aS0 KX G hmg ?h0 ?h1 ?h2 ?h3 ?h4 ?h5 ?h6 ?h7 ?h8 ?h9 ?h10 ?h11 ?h12 ?h13 ?h14 ?h15 ?h16 ?h17 ?h18 ?h19 ?h20 ?h21 ?h22 ?h23 ?h24 ?h25 ?h26 ?h27 ?h28 ?h29 ?h30 ?h31 ?a32 ?l32 ?c32 ?k32 ?z_len ?z_range ?z_tuple ?z_list ?z_sorted ?z_all ?z_any ?z_zip ?z_min ?z_max ?z_sum ?z_isinstance ?z_int ?z_bool ?z_enumerate ?z_reversed ?aX_HE ?aX_BS ?aX_BP ?aX_NW ?aX_NP ?zX_BW ?zX_BO ?zX_BB ?zX_BD ?zX_NS ?zX_TM ?zX_NT ?zX_OR ?y_fg ?y_ft ?z_VE ?y1_HE ?y2_HE ?y3_HE ?y4_HE ?y5_HE ?y6_HE ?y7_HE ?y1_BS ?y2_BS ?y3_BS ?y4_BS ?y5_BS ?y6_BS ?y7_BS ?y1_BP ?y2_BP ?y3_BP ?y4_BP ?y5_BP ?y6_BP ?y7_BP ?y1_NW ?y2_NW ?y3_NW ?y4_NW ?y5_NW ?y6_NW ?y7_NW ?y1_NP ?y2_NP ?y3_NP ?y4_NP ?y5_NP ?y6_NP ?y7_NP ?sB_NP ?s_NP_NP ?q_BS ?q_NP
  (case h0 | h1 | h2 | h3 | h4 | h5 | h6 | h7 | h8 | h9 | h10 | h11 | h12 | h13 | h14 | h15 | h16 | h17 | h18 | h19 | h20 | h21 | h22 | h23 | h24 | h25 | h26 | h27 | h28 | h29 | h30 | h31 => exact ⟨by k_is, ⟨⟨_, _, _, _, _, _, _, _, _, rfl, by k_is, by k_is⟩, by k_is⟩⟩)
  (case a32|l32|c32|k32|z_len|z_range|z_tuple|z_list|z_sorted|z_all|z_any|z_zip|z_min|z_max|z_sum|z_isinstance|z_int|z_bool|z_enumerate|z_reversed|aX_HE|aX_BS|aX_BP|aX_NW|aX_NP|zX_BW|zX_BO|zX_BB|zX_BD|zX_NS|zX_TM|zX_NT|zX_OR|y_fg|y_ft|z_VE|y1_HE|y2_HE|y3_HE|y4_HE|y5_HE|y6_HE|y7_HE|y1_BS|y2_BS|y3_BS|y4_BS|y5_BS|y6_BS|y7_BS|y1_BP|y2_BP|y3_BP|y4_BP|y5_BP|y6_BP|y7_BP|y1_NW|y2_NW|y3_NW|y4_NW|y5_NW|y6_NW|y7_NW|y1_NP|y2_NP|y3_NP|y4_NP|y5_NP|y6_NP|y7_NP|sB_NP|s_NP_NP => k_is)
  (case q_BS|q_NP => k_exc)


