import PyProof.Rows.All
import Wide.All
import OpenK.AllK
import Wide.FinOn
import Lean
import PyProof.EqAt
import PyProof.EqKinds
import PyProof.TupleCall
import PyProof.NeKinds
import PyProof.Draws
import PyProof.ZipIter
import PyProof.DictUpdate
import PyProof.AutoSeq1
import PyProof.ListRange
import PyProof.ListMulRoad
import PyProof.FactsAll.tuple_2
import PyProof.Rows.SortShell
import PyProof.EnumFor
import PyProof.EnumMake
import PyProof.EnumStmt
import PyProof.Rows.SortWalk
import KE.KDictList
import PyProof.SumAny
import PyProof.ConsumeWalk
import PyProof.WalksMore
import PyProof.Rows.TupAssign
import PyProof.ExcArgsOwn
import PySem.Challenge.RW_kindleweb_k56_ledgers_judged
set_option Elab.async false
set_option linter.all false
set_option maxRecDepth 100000
set_option maxHeartbeats 4000000
section
open PySem PySem.Spec PyProof.Rows
noncomputable def bb5:=@wpAny_bind
noncomputable def bb6:=@List.size_toArray
noncomputable def bb7:=@Heap.get?_push_of_some
noncomputable def bb8:=@List.length_map
noncomputable def bb9:=@List.getElem?_eq_getElem
noncomputable def bc0:=@decide_eq_true
noncomputable def bc1:=@List.mem_singleton
noncomputable def bc2:=@List.mem_of_getElem?
noncomputable def bc3:=@decide_eq_false
noncomputable def bc4:=@List.getElem?_eq_some_iff
noncomputable def bc5:=@Nat.le_refl
noncomputable def bc6:=@List.mem_cons_self
noncomputable def bc7:=@List.getD_eq_getElem?_getD
noncomputable def bc8:=@wpAny_pure
noncomputable def bc9:=@List.mem_append
noncomputable def bd0:=@List.mem_cons
noncomputable def bd1:=@List.getElem?_map
noncomputable def bd2:=@Nat.lt_of_lt_of_le
noncomputable def bd3:=@List.length_append
noncomputable def bd4:=@List.mem_cons_of_mem
noncomputable def bd5:=@Heap.lt_size
noncomputable def bd6:=@List.mem_map
noncomputable def bd7:=@List.mem_filter
noncomputable def bd8:=@List.map_append
noncomputable def bd9:=@Bool.false_ne_true
noncomputable def be1:=@Heap.get?_push_size
noncomputable def be3:=@Option.some.inj
noncomputable def be5:=@Int.toNat_natCast
noncomputable def be6:=@List.length_cons
noncomputable def be7:=@List.getElem?_set_ne
noncomputable def be8:=@List.pairwise_singleton
noncomputable def be9:=@Bool.false_eq_true
noncomputable def bf1:=@List.not_mem_nil
noncomputable def bf2:=@List.mem_append_right
noncomputable def bf3:=@List.getElem?_append_left
noncomputable def bf5:=@List.take_of_length_le
noncomputable def bf6:=@List.length_singleton
noncomputable def bf7:=@List.mem_append_left
noncomputable def bf8:=@List.take_add_one
noncomputable def bg0:=@Nat.ne_of_lt
noncomputable def bg1:=@List.length_set
noncomputable def bg2:=@Bool.and_eq_true
noncomputable def bg4:=@List.replicate_succ
noncomputable def bg5:=@Nat.le_trans
noncomputable def bg6:=@Nat.lt_irrefl
noncomputable def bg7:=@List.length_filter_le
noncomputable def bg8:=@Nat.zero_le
noncomputable def bg9:=@PySem.mem_of_lookup
noncomputable def bh1:=@List.getElem?_set_self
noncomputable def bh3:=@Int.emod_nonneg
noncomputable def bh7:=@PySem.W.kia_one
noncomputable def bh8:=@List.lookup_cons
noncomputable def bh9:=@Nat.le_of_lt
noncomputable def bi0:=@of_decide_eq_true
noncomputable def bi1:=@List.map_cons
noncomputable def bi3:=@PyProof.Rows.callWith_type1
noncomputable def bi4:=@List.map_map
noncomputable def bi5:=@if_false
noncomputable def bi6:=@PySem.F.plainAttrs_list
noncomputable def bi8:=@wpAny_newObj_type
noncomputable def bi9:=@Classical.byContradiction
noncomputable def bj0:=@List.append_nil
noncomputable def bj2:=@List.length_take
noncomputable def bj3:=@Nat.le_add_right
noncomputable def bj4:=@List.take_length
noncomputable def bj6:=@wpAny_mono
noncomputable def bj7:=@List.mem_iff_getElem?
noncomputable def bj8:=@or_false
noncomputable def bj9:=@wpAny_callSpecial?_slot
noncomputable def bk0:=@List.getElem?_cons_succ
noncomputable def bk2:=@List.pairwise_cons
noncomputable def bk3:=@Bool.eq_iff_iff
noncomputable def bk4:=@List.nodup_cons
noncomputable def bk5:=@List.length_drop
noncomputable def bk6:=@wpAny_call_entry
noncomputable def bk7:=@beq_self_eq_true
noncomputable def bk8:=@List.all_eq_true
noncomputable def bl0:=@wpAny_truthy_bool
noncomputable def bl1:=@wpAny_field
noncomputable def bl2:=@List.flatten_cons
noncomputable def bl3:=@List.pairwise_map
noncomputable def bl4:=@List.length_replicate
noncomputable def bl7:=@Nat.ne_of_gt
noncomputable def bl8:=@List.find?_cons
noncomputable def bm0:=@Int.emod_lt_of_pos
noncomputable def bm1:=@List.filter_cons_of_neg
noncomputable def bm2:=@wpAny_holding
noncomputable def bm3:=@List.getElem?_append_right
noncomputable def bm4:=@Bool.and_false
noncomputable def bm5:=@Bool.eq_false_iff
noncomputable def bm6:=@decide_eq_true_eq
noncomputable def bm7:=@Int.ne_of_lt
noncomputable def bm8:=@List.nodup_append
noncomputable def bn0:=@PyProof.Rows.slot_tuple_getitem
noncomputable def bn2:=@List.filter_cons
noncomputable def bn5:=@PySem.F.slot_list_append
noncomputable def bn6:=@PySem.F.type_list_append
noncomputable def bo3:=@List.Pairwise.nil
noncomputable def bo4:=@List.mem_singleton_self
noncomputable def bo5:=@List.filter_cons_of_pos
noncomputable def bo7:=@Array.getD_eq_getD_getElem?
noncomputable def bo8:=@Int.zero_add
noncomputable def bo9:=@List.any_cons
noncomputable def bp0:=@Nat.le_of_not_lt
noncomputable def bp2:=@List.mem_range
noncomputable def bp3:=@List.mem_filterMap
noncomputable def bp5:=@wpAny_seqItems
noncomputable def bp6:=@wpAny_setField_rec
noncomputable def bp7:=@wpAny_passesOwn
noncomputable def bp9:=@PassesOwn.never
noncomputable def bq2:=@True.intro
noncomputable def bq5:=@Heap.size_push
noncomputable def bq6:=@Prod.mk.inj
end
namespace L2
open PySem PySem.Spec PyProof.Rows
noncomputable abbrev aJ:=Sum Int Str
noncomputable def mD:aJ->Value->Bool
 | .inl k,v=>Value.isInt k v
 | .inr x,v=>Value.isStrOf x v
noncomputable def af8 (w:World):aJ->Int
 | .inl k=>hashInt k
 | .inr x=>hashStr w x
theorem iP:∀ {k:aJ}{v:Value},mD k v=true->(∃ i t,k=Sum.inl i/\v=Value.int i t) ∨ (∃ x t,k=Sum.inr x/\v=Value.str x t)
 | .inl i,v,h=>by
  obtain ⟨t,e⟩:=Value.isInt_shape (k:=i) (v:=v) h
  exact .inl ⟨i,t,rfl,e⟩
 | .inr x,v,h=>by
  obtain ⟨t,e⟩:=Value.isStrOf_shape (x:=x) (v:=v) h
  exact .inr ⟨x,t,rfl,e⟩
theorem af9 (i:Int) (t:Tok):mD (.inl i) (.int i t)=true:=by simp [mD,Value.isInt]
theorem ag0 (x:Str) (t:Tok):mD (.inr x) (.str x t)=true:=by simp [mD,Value.isStrOf]
theorem ag1 (a b:Int):decide ((Sum.inl a:aJ)=Sum.inl b)=(a == b):=by
 by_cases e:a=b
 ·subst e; simp
 ·have h : ¬ (Sum.inl a:aJ)=Sum.inl b:=fun q=>e (Sum.inl.inj q)
  rw [bc3 h]
  exact (beq_eq_false_iff_ne.mpr e).symm
theorem ag2 (a b:Str):decide ((Sum.inr a:aJ)=Sum.inr b)=decide (a=b):=by
 by_cases e:a=b
 ·subst e; simp
 ·have h : ¬ (Sum.inr a:aJ)=Sum.inr b:=fun q=>e (Sum.inr.inj q)
  rw [bc3 h,bc3 e]
theorem ag3 (a:Int) (b:Str):decide ((Sum.inl a:aJ)=Sum.inr b)=false:=bc3 (fun q=>nomatch q)
theorem ag4 (a:Str) (b:Int):decide ((Sum.inr a:aJ)=Sum.inl b)=false:=bc3 (fun q=>nomatch q)
noncomputable def eY (prog:Program) (w:World):PySem.KeyKind prog w aJ where
 is:=mD
 hash:=af8 w
 inj:=fun v a b ha hb=>by
  rcases iP ha with ⟨i,t,rfl,rfl⟩ | ⟨x,t,rfl,rfl⟩
  ·rcases iP hb with ⟨j,u,rfl,e⟩ | ⟨y,u,rfl,e⟩
   ·injection e with e1 _; rw [e1]
   ·exact nomatch e
  ·rcases iP hb with ⟨j,u,rfl,e⟩ | ⟨y,u,rfl,e⟩
   ·exact nomatch e
   ·injection e with e1 _; rw [e1]
 byValue:=fun k v h=>by
  rcases iP h with ⟨i,t,rfl,rfl⟩ | ⟨x,t,rfl,rfl⟩ <;> rfl
 pyHash:=fun hv h=>by
  rcases iP hv with ⟨i,t,rfl,rfl⟩ | ⟨x,t,rfl,rfl⟩
  ·exact wpAny_pyHash_int h
  ·exact wpAny_pyHash_str h
 eqBool:=fun hu hv h=>by
  rcases iP hu with ⟨i,t,rfl,rfl⟩ | ⟨x,t,rfl,rfl⟩
  ·rcases iP hv with ⟨j,u,rfl,rfl⟩ | ⟨y,u,rfl,rfl⟩
   ·rw [ag1] at h; exact wpAny_eqBool_int h
   ·rw [ag3] at h; exact SeqAt.EqAt.int_str i t y u _ _ _ _ h
  ·rcases iP hv with ⟨j,u,rfl,rfl⟩ | ⟨y,u,rfl,rfl⟩
   ·rw [ag4] at h; exact SeqAt.EqAt.str_int x t j u _ _ _ _ h
   ·rw [ag2] at h; exact wpAny_eqBool_str h
 «strs»:=fun k x t v h=>by
  rcases iP h with ⟨i,u,rfl,e⟩ | ⟨y,u,rfl,e⟩
  ·exact nomatch e
  ·injection e with e1 _
   subst e1
   cases v <;> rfl
theorem ag5 (prog:Program) (w:World) (i:Int) (t:Tok):(eY prog w).is (.inl i) (.int i t)=true:=af9 i t
theorem ag6 (prog:Program) (w:World) (x:Str) (t:Tok):(eY prog w).is (.inr x) (.str x t)=true:=ag0 x t
inductive V where
 | non | bl (b:Bool) | int (i:Int) | str (x:Str) | byt (b:Array UInt8) | flt (b:UInt64) | ref (a:Addr) | ty (n:String)
 deriving DecidableEq
noncomputable def aY:V->Value->Prop
 | .non,u=>u=Value.none
 | .bl b,u=>u=Value.bool b
 | .int i,u=>∃ t,u=Value.int i t
 | .str x,u=>∃ t,u=Value.str x t
 | .byt b,u=>∃ t,u=Value.bytes b t
 | .flt b,u=>∃ t,u=Value.float b t
 | .ref a,u=>u=Value.ref a
 | .ty n,u=>u=Value.type n
noncomputable abbrev aN:List V->List Value->Prop:=Paired aY
theorem aN.length {xs:List V}{us:List Value} (r:aN xs us):xs.length=us.length:=Paired.length r
theorem aN.get:∀ {xs:List V}{us:List Value}{i:Nat}{x:V},aN xs us->xs[i]? = some x->∃ u,us[i]? = some u/\aY x u
 | _,_,_,_,.nil,e=>by simp at e
 | _,_,0,_,.cons r _,e=>by simp at e; subst e; exact⟨_,rfl,r⟩
 | _,_,i+1,x,.cons _ t,e=>by
  obtain ⟨u,h1,h2⟩:=aN.get (i:=i) (x:=x) t (by simpa using e)
  exact⟨u,by simpa using h1,h2⟩
theorem aN.set {x:V}{u:Value} (r:aY x u):∀ {xs:List V}{us:List Value} (i:Nat),aN xs us->aN (xs.set i x) (us.set i u)
 | _,_,_,.nil=>.nil
 | _,_,0,.cons _ t=>.cons r t
 | _,_,i+1,.cons q t=>.cons q (aN.set r i t)
theorem aN.append:∀ {xs ys:List V}{us ws:List Value},aN xs us->aN ys ws->aN (xs ++ ys) (us ++ ws)
 | _,_,_,_,.nil,s=>s
 | _,_,_,_,.cons r t,s=>.cons r (aN.append t s)
theorem aN.take:∀ {xs:List V}{us:List Value} (n:Nat),aN xs us->aN (xs.take n) (us.take n)
 | _,_,0,_=>.nil
 | _,_,_+1,.nil=>.nil
 | _,_,n+1,.cons r t=>.cons r (aN.take n t)
theorem aN.drop:∀ {xs:List V}{us:List Value} (n:Nat),aN xs us->aN (xs.drop n) (us.drop n)
 | _,_,0,r=>r
 | _,_,_+1,.nil=>.nil
 | _,_,n+1,.cons _ t=>aN.drop n t
noncomputable def lB:Option V->Option Value->Prop
 | some v,some u=>aY v u
 | none,none=>True
 | _,_=>False
noncomputable def KV {κ:Type}:List (κ × V)->List (κ × Value)->Prop:=Paired fun (p:κ × V) (q:κ × Value)=>p.1=q.1/\aY p.2 q.2
noncomputable def kV:aJ->V
 | .inl i=>.int i
 | .inr x=>.str x
inductive HO where
 | lst (xs:List V)
 | tup (xs:List V)
 | dK (kvs:List (aJ × V)) | dT (kvs:List (List aJ × V))
 | set (S:Int->Bool) (n:Nat)
 | ins (C dx:Addr) (fs:List (Str × V))
 | own (x:Addr)
 | xd (fs:List (Str × V))
 | met (f x:Addr)
 | rng (lo hi:Int)
 | frz (o:Obj) (u:HO)
 | tbl (ps:Array Value)
 | ext (φ:Heap->Prop)
noncomputable abbrev Hp:=Addr->Option HO
noncomputable def upd (H:Hp) (a:Addr) (o:HO):Hp:=fun b=>if b=a then some o else H b
theorem bM {H:Hp}{a:Addr}{o:HO}:upd H a o a=some o:=by unfold upd; rw [if_pos rfl]
theorem b7 {H:Hp}{a b:Addr}{o:HO} (h:b ≠ a):upd H a o b=H b:=by unfold upd; rw [if_neg h]
theorem ag7 {H:Hp}{a b:Addr}{o u:HO} (h:H a=some o) (h':H b=some u) (d:o ≠ u):a ≠ b:=by
 intro e; subst e; rw [h] at h'; exact d (be3 h')
theorem dU {H:Hp}{a b:Addr}{o:HO} (h:H a=some o) (h':H b=none):a ≠ b:=by
 intro e; subst e; rw [h] at h'; cases h'
noncomputable def jE (h:Heap) (a:Addr):Prop:=∀ o,h.get? a=some o->o.dict=none
theorem jE.new (h:Heap) (o:Obj) (d:o.dict=none) (s:o.isFreed=false:=by rfl):jE (h.push o) h.objs.size:=fun u e=>by
 rw [be1 h (o:=o) s] at e
 cases e; exact d
theorem jE.stay {h h':Heap}{a:Addr}{o:Obj} (n:jE h a) (e:h.get? a=some o) (e':h'.get? a=some o):jE h' a:=fun u hu=>by
 rw [e'] at hu; cases hu; exact n _ e
section
variable (P : Program) (w : World)
noncomputable def bY (H:Hp) (h:Heap) (a:Addr):HO->Prop
 | .lst xs=>xs.length<=sizeLine/\∃ (its:List Value) (n:Nat),aN xs its/\h.get? a=some { cls:=.type "list",data:=.seq its.toArray n }
 | .tup xs=>xs.length<=sizeLine/\∃ its:List Value,aN xs its/\IsTup h a its.toArray/\jE h a
 | .dK kvs=>kvs.length<=sizeLine/\(a == sysModules)=false/\∃ vs,KV kvs vs/\h.DictOf (eY P w) a vs
 | .dT kvs=>kvs.length<=sizeLine/\(a == sysModules)=false/\∃ xs:List (List aJ × Addr × Value),
   Paired (fun (p:List aJ × V) (q:List aJ × Addr × Value)=>p.1=q.1/\H q.2.1=some (.tup (p.1.map kV))/\aY p.2 q.2.2) kvs xs/\
   ∃ o es ep,h.get? a=some o/\o.ExactDict/\o.data = .dict es ep/\es.toList=xs.map (entryOfKey (tupleKind (eY P w)))/\(xs.map (·.1)).Nodup
 | .set S n=>h.SetOf (intKind P w) a S n
 | .ins C dx fs=>H dx=some (.own a)/\fs.length<=1000/\dx ≠ a/\h.get? a=some (PySem.W.instObj C dx)/\
   ∃ mA,h.Ns1 dx mA/\(∀ f,lB (fs.lookup f) (mA f))/\PySem.Within mA (fs.map (·.1))
 | .own _=>∃ o,h.get? a=some o
 | .xd fs=>∃ mA,h.Ns1 a mA/\∀ f,lB (fs.lookup f) (mA f)
 | .rng lo hi=>∃ t u v,h.get? a=some { cls:=.type "range",data:=.fields #[.int lo t,.int hi u,.int 1 v] }
 | .frz o u=>h.get? a=some o/\bY H h a u
 | .tbl ps=>h.get? a=some { cls:=.none,data:=.fields ps }
 | .met f x=>h.get? a=some (PySem.W.methodObj (.ref f) (.ref x))
 | .ext φ=>φ h/\(∃ o,h.get? a=some o)/\∀ h1 h2:Heap,φ h1->(∀ o,h1.get? a=some o->h2.get? a=some o)->φ h2
noncomputable def c8 (H:Hp) (h:Heap):Prop:=∀ a o,H a=some o->bY P w H h a o
end
section
variable {P : Program} {w : World} {H H' : Hp} {h h' : Heap} {a : Addr} {o : HO}
theorem bY.lt (x:bY P w H h a o):a < h.objs.size:=by
 cases o with
 | lst xs=>obtain ⟨_,_,_,_,e⟩:=x; exact bd5 e
 | tup xs=>obtain ⟨_,_,_,p,_⟩:=x; exact p.lt
 | dK kvs=>obtain ⟨_,_,_,_,o,_,_,e,_⟩:=x; exact bd5 e
 | dT kvs=>obtain ⟨_,_,_,_,o,_,_,e,_⟩:=x; exact bd5 e
 | set S n=>obtain ⟨o,_,_,_,e,_⟩:=x; exact bd5 e
 | ins C dx fs=>obtain ⟨_,_,_,e,_⟩:=x; exact bd5 e
 | own y=>obtain ⟨_,e⟩:=x; exact bd5 e
 | xd fs=>obtain ⟨_,⟨_,_,_,e,_⟩,_⟩:=x; exact bd5 e
 | rng lo hi=>obtain ⟨_,_,_,e⟩:=x; exact bd5 e
 | frz ob u=>obtain ⟨e,_⟩:=x; exact bd5 e
 | tbl ps=>exact bd5 (show h.get? a=some _ from x)
 | met f y=>exact bd5 (show h.get? a=some _ from x)
 | ext φ=>obtain ⟨_,⟨_,e⟩,_⟩:=x; exact bd5 e
theorem Paired.mapP {α β:Type}{F G:α->β->Prop}:∀ {l₁:List α}{l₂:List β},Paired F l₁ l₂->(∀ a b,F a b->G a b)->Paired G l₁ l₂
 | _,_,.nil,_=>.nil
 | _,_,.cons r t,f=>.cons (f _ _ r) (Paired.mapP t f)
theorem bY.stay (x:bY P w H h a o) (k:∀ b u,(b=a ∨ H b=some (.own a))->h.get? b=some u->h'.get? b=some u)
  (ho:∀ b,H b=some (.own a)->H' b=some (.own a)) (ht:∀ b xs,H b=some (.tup xs)->H' b=some (.tup xs)):bY P w H' h' a o:=by
 induction o with
 | lst xs=>obtain ⟨z,its,n,r,e⟩:=x; exact⟨z,its,n,r,k _ _ (.inl rfl) e⟩
 | tup xs=>obtain ⟨z,its,r,⟨ob,e,c⟩,nd⟩:=x; exact⟨z,its,r,⟨ob,k _ _ (.inl rfl) e,c⟩,nd.stay e (k _ _ (.inl rfl) e)⟩
 | dK kvs=>obtain ⟨z,y,vs,r,ob,es,ep,e,c⟩:=x; exact⟨z,y,vs,r,ob,es,ep,k _ _ (.inl rfl) e,c⟩
 | dT kvs=>
  obtain ⟨z,y,xs,r,ob,es,ep,e,c⟩:=x
  exact⟨z,y,xs,Paired.mapP r fun p q z=>⟨z.1,ht _ _ z.2.1,z.2.2⟩,ob,es,ep,k _ _ (.inl rfl) e,c⟩
 | set S n=>obtain ⟨ob,es,ep,t,e,c⟩:=x; exact⟨ob,es,ep,t,k _ _ (.inl rfl) e,c⟩
 | ins C dx fs=>
  obtain ⟨d,z,ne,e,mA,⟨od,es,ep,e2,c⟩,r⟩:=x
  exact⟨ho _ d,z,ne,k _ _ (.inl rfl) e,mA,⟨od,es,ep,k _ _ (.inr d) e2,c⟩,r⟩
 | own y=>obtain ⟨ob,e⟩:=x; exact⟨ob,k _ _ (.inl rfl) e⟩
 | xd fs=>obtain ⟨mA,⟨od,es,ep,e,c⟩,r⟩:=x; exact⟨mA,⟨od,es,ep,k _ _ (.inl rfl) e,c⟩,r⟩
 | rng lo hi=>obtain ⟨t,u,v,e⟩:=x; exact⟨t,u,v,k _ _ (.inl rfl) e⟩
 | frz ob u ih=>obtain ⟨e,q⟩:=x; exact⟨k _ _ (.inl rfl) e,ih q⟩
 | tbl ps=>
  have e:h.get? a=some { cls:=.none,data:=.fields ps }:=x
  show h'.get? a=some { cls:=.none,data:=.fields ps }
  exact k a _ (.inl rfl) e
 | met f y=>
  have e:h.get? a=some (PySem.W.methodObj (.ref f) (.ref y)):=x
  show h'.get? a=some (PySem.W.methodObj (.ref f) (.ref y))
  exact k a _ (.inl rfl) e
 | ext φ=>obtain ⟨p,⟨o,e⟩,st⟩:=x; exact⟨st _ _ p fun o q=>k _ _ (.inl rfl) q,⟨o,k _ _ (.inl rfl) e⟩,st⟩
theorem c8.lt (x:c8 P w H h) (e:H a=some o):a < h.objs.size:=(x a o e).lt
theorem c8.fresh (x:c8 P w H h) (e:h.objs.size<=a):H a=none:=by
 cases q:H a with
 | none=>rfl
 | some u=>exact absurd (bd2 (x.lt q) e) (bg6 _)
theorem c8.kept (x:c8 P w H h) (k:∀ b u,h.get? b=some u->h'.get? b=some u):c8 P w H h':=fun a o e=>
 (x a o e).stay (fun b u _ q=>k b u q) (fun _ q=>q) fun _ _ q=>q
theorem c8.laid (x:c8 P w H h) (k:∀ b u,h.get? b=some u->h'.get? b=some u) (hp:h.objs.size<=a) (new:bY P w (upd H a o) h' a o):c8 P w (upd H a o) h':=fun b u e=>by
 have hn:=x.fresh hp
 by_cases hb:b=a
 ·subst hb; rw [bM] at e; cases e; exact new
 ·rw [b7 hb] at e
  exact (x b u e).stay (fun c v _ q=>k c v q) (fun c q=>by rw [b7 (dU q hn)]; exact q) fun c xs q=>by rw [b7 (dU q hn)]; exact q
end
noncomputable def Rd (H:Hp) (a:Addr) (u:HO):Prop:=H a=some u ∨ ∃ o,H a=some (.frz o u)
theorem Rd.ok {P:Program}{w:World}{H:Hp}{h:Heap}{a:Addr}{u:HO} (r:Rd H a u) (x:c8 P w H h):bY P w H h a u:=by
 rcases r with r | ⟨o,r⟩
 ·exact x a u r
 ·obtain ⟨_,q⟩:=x a _ r
  exact q
noncomputable def nU:Option HO->Prop
 | some (.lst _)=>True
 | some (.dK _)=>True
 | some (.dT _)=>True
 | some (.set _ _)=>True
 | some (.ins _ _ _)=>True
 | some (.ext _)=>True
 | _=>False
section
variable {P : Program} {w : World} {H : Hp} {h h' : Heap} {x e : Addr} {o' : HO}
theorem c8.write (ok:c8 P w H h) (mu:nU (H x)) (he:e=x ∨ H e=some (.own x)) (k:∀ b u,b ≠ e->h.get? b=some u->h'.get? b=some u) (heo:∃ u,h'.get? e=some u)
  (new:bY P w (upd H x o') h' x o'):c8 P w (upd H x o') h':=fun b u q=>by
 have nown:∀ c y,H c=some (.own y)->c ≠ x:=fun c y r z=>by subst z; rw [r] at mu; exact mu
 have ntup:∀ c xs,H c=some (.tup xs)->c ≠ x:=fun c xs r z=>by subst z; rw [r] at mu; exact mu
 by_cases hb:b=x
 ·subst hb; rw [bM] at q; cases q; exact new
 ·rw [b7 hb] at q
  by_cases hbe:b=e
  ·have q':H b=some (.own x):=by
    rcases he with z | z
    ·exact absurd (hbe.trans z) hb
    ·rw [hbe]; exact z
   rw [q] at q'; cases q'
   obtain ⟨v,hv⟩:=heo
   exact⟨v,by rw [hbe]; exact hv⟩
  ·refine (ok b u q).stay (fun c v hc r=>k c v ?_ r) (fun c r=>by rw [b7 (nown c b r)]; exact r) fun c xs r=>by rw [b7 (ntup c xs r)]; exact r
   rcases hc with rfl | hc
   ·exact hbe
   ·rintro rfl
    rcases he with z | z
    ·exact nown c b hc z
    ·rw [hc] at z; cases z; exact hb rfl
end
structure Un (fs ex:List Addr) (H H':Hp) (h h':Heap):Prop where
 keep:∀ b o,h.get? b=some o->H b=none->b ∉ fs->b ∉ ex->h'.get? b=some o
 slot:∀ b o,h.get? b=some o->H b=none->b ∈ fs->b ∉ ex->∃ sl,h'.get? b=some { o with slots:=sl }
 free:∀ b o,h.get? b=some o->H b=none->b ∉ ex->H' b=none
 there:∀ b o,h.get? b=some o->b ∉ ex->∃ o',h'.get? b=some o'
 tups:∀ b xs,H b=some (.tup xs)->H' b=some (.tup xs)
 frzs:∀ b o u,H b=some (.frz o u)->H' b=some (.frz o u)
 tbls:∀ b ps,H b=some (.tbl ps)->∃ more,H' b=some (.tbl (ps ++ more))
section
variable {fs fs' ex ex' : List Addr} {H H1 H2 : Hp} {h h1 h2 h' : Heap} {a x e : Addr} {o : HO}
theorem Un.any (u:Un fs ex H H1 h h1) {b:Addr}{ob:Obj} (q:h.get? b=some ob) (n:H b=none) (hx:b ∉ ex):∃ sl,h1.get? b=some { ob with slots:=sl }:=by
 by_cases hb:b ∈ fs
 ·exact u.slot b ob q n hb hx
 ·exact⟨ob.slots,u.keep b ob q n hb hx⟩
theorem Un.kept (k:∀ b u,h.get? b=some u->h'.get? b=some u):Un fs ex H H h h':=
 ⟨fun b ob q _ _ _=>k b ob q,fun b ob q _ _ _=>⟨ob.slots,k b ob q⟩,fun _ _ _ n _=>n,fun b ob q _=>⟨ob,k b ob q⟩,fun _ _ q=>q,fun _ _ _ q=>q,fun _ ps q=>⟨#[],by rw [q]; simp⟩⟩
theorem Un.refl:Un fs ex H H h h:=Un.kept fun _ _ q=>q
theorem Un.laid (k:∀ b u,h.get? b=some u->h'.get? b=some u) (hp:h.objs.size<=a) (hn:H a=none):Un fs ex H (upd H a o) h h' where
 keep:=fun b u q _ _ _=>k b u q
 slot:=fun b u q _ _ _=>⟨u.slots,k b u q⟩
 free:=fun b u q n _=>by rw [b7 (bg0 (bd2 (bd5 q) hp))]; exact n
 there:=fun b u q _=>⟨u,k b u q⟩
 tups:=fun b xs q=>by rw [b7 (dU q hn)]; exact q
 frzs:=fun b u xs q=>by rw [b7 (dU q hn)]; exact q
 tbls:=fun b ps q=>⟨#[],by rw [b7 (dU q hn),q]; simp⟩
theorem Un.write (mu:nU (H x)) (he:e=x ∨ H e=some (.own x)) (k:∀ b u,b ≠ e->h.get? b=some u->h'.get? b=some u) (heo:∃ u,h'.get? e=some u):Un fs ex H (upd H x o) h h':=by
 have hx:∀ b,H b=none->b ≠ x:=fun b n z=>by subst z; rw [n] at mu; exact mu
 have hb:∀ b,H b=none->b ≠ e:=fun b n z=>by
  subst z
  rcases he with r | r
  ·exact hx b n r
  ·rw [n] at r; cases r
 have hm:∀ b u,H b=some u->¬ nU (some u)->b ≠ x:=fun b u q nm z=>by subst z; rw [q] at mu; exact nm mu
 refine⟨fun b u q n _ _=>k b u (hb b n) q,fun b u q n _ _=>⟨u.slots,k b u (hb b n) q⟩,fun b u q n _=>by rw [b7 (hx b n)]; exact n,fun b u q _=>?_,
  fun b xs q=>by rw [b7 (hm b _ q fun z=>z)]; exact q,fun b u xs q=>by rw [b7 (hm b _ q fun z=>z)]; exact q,fun b ps q=>⟨#[],by rw [b7 (hm b _ q fun z=>z),q]; simp⟩⟩
 by_cases hbe:b=e
 ·subst hbe; exact heo
 ·exact⟨u,k b u hbe q⟩
end
noncomputable def pX (h:Heap) (H:Hp):List Addr:=(List.range h.objs.size).filter fun a=>(H a).isSome
noncomputable def jF (h:Heap) (H:Hp):Heap:=PySem.W.hideAll h (pX h H)
theorem ag8 (h:Heap) (H:Hp):(jF h H).objs.size=h.objs.size:=PySem.W.hideAll_size _ _
theorem ag9 {h:Heap}{H:Hp}{b:Addr}{o:Obj} (e:h.get? b=some o) (n:H b=none):(jF h H).get? b=some o:=
 PySem.W.hideAll_get _ e fun hm=>by
  have q:(H b).isSome=true:=(bd7.mp hm).2
  rw [n] at q; simp at q
theorem ah0 {h:Heap}{H:Hp}{b:Addr}{o:Obj} (e:(jF h H).get? b=some o):h.get? b=some o/\H b=none:=by
 have e':h.get? b=some o:=PySem.W.of_hideAll (pX h H) e
 refine⟨e',?_⟩
 cases q:H b with
 | none=>rfl
 | some x=>
  have hm:b ∈ pX h H:=bd7.mpr ⟨bp2.mpr (bd5 e'),by simp [q]⟩
  have z:(jF h H).get? b=none:=PySem.W.hideAll_none (pX h H) hm
  rw [z] at e; cases e
noncomputable def nV (g h:Heap) (L:Addr):List (Addr × Obj):=(List.range h.objs.size).filterMap fun a=>if a=L ∨ (g.get? a).isSome=true then none else (h.get? a).map fun o=>(a,o)
theorem z9 {g h:Heap}{L a:Addr}{o:Obj} (h1:a ≠ L) (h2:g.get? a=none) (h3:h.get? a=some o):(a,o) ∈ nV g h L:=
 bp3.mpr ⟨a,bp2.mpr (bd5 h3),by simp [h1,h2,h3]⟩
theorem ah1 {g h:Heap}{L:Addr}{p:Addr × Obj} (hp:p ∈ nV g h L):p.1 ≠ L/\g.get? p.1=none/\h.get? p.1=some p.2:=by
 obtain ⟨b,_,e⟩:=bp3.mp hp
 split at e
 ·cases e
 ·rename_i hn
  cases q:h.get? b with
  | none=>rw [q] at e; simp at e
  | some u=>
   rw [q] at e
   simp only [Option.map_some,Option.some.injEq] at e
   subst e
   refine⟨fun z=>hn (.inl z),?_,q⟩
   show g.get? b=none
   cases r:g.get? b with
   | none=>rfl
   | some v=>exact (hn (.inr (by simp [r]))).elim
noncomputable def cW (g h:Heap) (L d:Addr):List (Addr × Obj):=(nV g h L).filter fun p=>decide (p.1 ≠ d)
theorem ah2 {g h:Heap}{L:Addr}:News g L h (nV g h L):=fun p hp=>let ⟨a,b,c⟩:=ah1 hp; ⟨c,a,b⟩
structure Mod (K:PySem.W.Frag) (mg:Str->Option Value) (base:Heap):Prop where
 kin:K.In base
 glob:base.Ns mainGlobals mg
 blt:∃ mb,base.Ns builtinsNs mb/\∀ x:Str,x ≠ "__name__"->mb x=bootBuiltins x
 nolimit:base.NoLimit
structure Cx where
 prog:Program
 w:World
 K:PySem.W.Frag
 mg:Str->Option Value
 base:Heap
 A:Around
 N:List Str
 s₀:Shared
 H₀:Hp
 env:Env
 outer:List Env
 stack:List Env
 ex:List Addr
 fn:Str->Bool
 calm:Bool
 pn:List (Addr × Obj)
 xe:Value->Shared->Prop
noncomputable def bV (l:List Env):List Addr:=l.filterMap (·.frame)
noncomputable abbrev Cx.fs (X:Cx):List Addr:=bV X.outer
noncomputable def gW (sc:Scope) (x:Str):Prop:=sc.names.lookup x=some .local ∨ sc.names.lookup x=some .cell ∨ sc.names.lookup x=some .free
noncomputable def gX (sc:Scope) (x:Str):Prop:=sc.names.lookup x=some .local ∨ sc.names.lookup x=some .cell
noncomputable def ah3 (env:Env) (h:Heap) (m:Str->Option Value) (x:Str) (u:Value):Prop:=
 (env.kindOf x=some .local/\m x=some u) ∨ ((env.kindOf x=some .cell ∨ env.kindOf x=some .free)/\∃ c,env.cells.lookup x=some c/\h.IsCell c (some u))
structure Cx.Ok (X:Cx):Prop where
 mod:Mod X.K X.mg X.base
 kind:X.env.scope.kind = .function
 glob:X.env.globals=mainGlobals
 blt:X.env.builtins=builtinsNs
 above:X.s₀.heap.objs.size<=X.env.locals
 inj:∀ x y c,X.env.cells.lookup x=some c->X.env.cells.lookup y=some c->x=y
 has:∀ x,(X.env.kindOf x=some .cell ∨ X.env.kindOf x=some .free)->∃ c,X.env.cells.lookup x=some c
 cab:∀ x c,X.fn x=true->X.env.cells.lookup x=some c->X.s₀.heap.objs.size<=c
 hd:X.calm=true->X.A.handled=none
 frames:X.A.frames=some X.stack
 stk:X.stack=X.outer ∨ (X.stack=X.env :: X.outer/\X.env.frame=some X.env.locals)
 exf:∀ b ∈ X.ex,b ≠ X.env.locals/\∀ x c,X.env.cells.lookup x=some c->c ≠ b
 bs:∀ b o,X.base.get? b=some o->X.s₀.heap.get? b=some o/\X.H₀ b=none
 bsz:X.base.objs.size<=X.s₀.heap.objs.size
 noex:∀ b o,X.base.get? b=some o->b ∉ X.ex
 exfs:∀ b ∈ X.ex,b ∉ X.fs
 funs:X.s₀.heap.FunFrames X.base X.outer
 frf:∀ b ∈ X.fs,X.H₀ b=none
structure a8 (X:Cx) (pins:List (Addr × Obj)) (σ:List (Option V)) (H:Hp) (s:Shared):Prop where
 ok:X.Ok
 os:s.os=X.s₀.os
 bare:AllBare s.gens
 base:Un X.fs X.ex X.H₀ H X.s₀.heap s.heap
 loc:∃ m,s.heap.Ns X.env.locals m/\∀ (i:Nat) (x:Str) (v:V),X.N[i]? = some x->σ[i]? = some (some v)->gW X.env.scope x->∃ u,aY v u/\ah3 X.env s.heap m x u
 cell:∀ x c,X.env.cells.lookup x=some c->∃ v,s.heap.IsCell c v
 free:H X.env.locals=none
 freeC:∀ x c,X.env.cells.lookup x=some c->H c=none
 pin:∀ p ∈ X.pn ++ pins,s.heap.get? p.1=some p.2/\H p.1=none/\p.1 ≠ X.env.locals/\p.1 ∉ X.fs/\∀ v,p.2.data ≠ .cell v
 hok:c8 X.prog X.w H s.heap
 len:σ.length=X.N.length
section
variable {X : Cx} {pins : List (Addr × Obj)} {σ : List (Option V)} {H H' : Hp} {s : Shared} {h' : Heap}
theorem Cx.Ok.nofr (ok:X.Ok) {b:Addr}{o:Obj} (e:X.base.get? b=some o):b ∉ X.fs:=fun hb=>by
 have:=(ok.funs.mem hb).1
 rw [e] at this; cases this
theorem a8.bs (I:a8 X pins σ H s):∀ b o,X.base.get? b=some o->s.heap.get? b=some o/\H b=none:=fun b o e=>
 ⟨I.base.keep b o (I.ok.bs b o e).1 (I.ok.bs b o e).2 (I.ok.nofr e) (I.ok.noex b o e),I.base.free b o (I.ok.bs b o e).1 (I.ok.bs b o e).2 (I.ok.noex b o e)⟩
theorem a8.bk (I:a8 X pins σ H s):∀ b o,X.base.get? b=some o->s.heap.get? b=some o:=fun b o e=>(I.bs b o e).1
theorem a8.mod (I:a8 X pins σ H s):Mod X.K X.mg X.base:=I.ok.mod
theorem a8.kIn (I:a8 X pins σ H s):X.K.In s.heap:=I.ok.mod.kin.keeps I.bk
theorem a8.fr (I:a8 X pins σ H s):∃ m,Fr X.base X.env.locals s.heap m:=
 let ⟨m,hn,_⟩:=I.loc
 ⟨m,hn,I.bk,bg5 I.ok.bsz I.ok.above⟩
theorem a8.lt (I:a8 X pins σ H s):X.env.locals < s.heap.objs.size:=let ⟨_,hn,_⟩:=I.loc; hn.lt
theorem a8.sz (I:a8 X pins σ H s):X.s₀.heap.objs.size<=s.heap.objs.size:=bg5 I.ok.above (bh9 I.lt)
theorem a8.nofs (I:a8 X pins σ H s) {a:Addr} (h:s.heap.objs.size<=a):a ∉ X.fs:=fun hb=>by
 obtain ⟨_,o,ho,_⟩:=I.ok.funs.mem hb
 exact absurd (bd2 (bd5 ho) (bg5 I.sz h)) (bg6 _)
theorem a8.cne (I:a8 X pins σ H s):∀ x c,X.env.cells.lookup x=some c->c ≠ X.env.locals:=fun x c e z=>by
 obtain ⟨v,o,ho,hd⟩:=I.cell x c e
 obtain ⟨m,⟨o',es,ep,ho',hd',_⟩,_⟩:=I.loc
 rw [z,ho'] at ho; cases ho; rw [hd'] at hd; cases hd
theorem a8.funs (I:a8 X pins σ H s):s.heap.FunFrames X.base X.outer:=by
 have all:∀ (l:List Env),(∀ b ∈ bV l,b ∈ X.fs)->X.s₀.heap.FunFrames X.base l->s.heap.FunFrames X.base l:=by
  intro l
  induction l with
  | nil=>intro _ _; trivial
  | cons env r ih=>
   intro hs hl
   obtain ⟨hk,⟨L,o,hf,hn,ho,hd⟩,hr⟩:=hl
   have hL:L ∈ X.fs:=hs L (by unfold bV; rw [List.filterMap_cons,hf]; exact bc6)
   obtain ⟨sl,e⟩:=I.base.slot L o ho (I.ok.frf L hL) hL fun z=>I.ok.exfs L z hL
   exact⟨hk,⟨L,_,hf,hn,e,hd⟩,ih (fun b hb=>hs b (by unfold bV; rw [List.filterMap_cons,hf]; exact bd4 _ hb)) hr⟩
 exact all X.outer (fun _ hb=>hb) I.ok.funs
theorem a8.stack (I:a8 X pins σ H s):s.heap.FunFrames X.base X.stack:=by
 rcases I.ok.stk with e | ⟨e,hf⟩
 ·rw [e]; exact I.funs
 ·rw [e]
  obtain ⟨m,hn,_⟩:=I.loc
  refine .cons (by rw [I.ok.kind]; decide) hf hn ?_ I.funs
  exact Heap.get?_none_of_le (bg5 I.ok.bsz I.ok.above)
theorem a8.stkSub (I:a8 X pins σ H s):∀ b ∈ bV X.stack,b ∈ X.env.locals :: X.fs:=fun b hb=>by
 rcases I.ok.stk with e | ⟨e,hf⟩
 ·rw [e] at hb; exact bd4 _ hb
 ·rw [e] at hb
  unfold bV at hb
  rw [List.filterMap_cons,hf] at hb
  exact hb
theorem a8.stkFree (I:a8 X pins σ H s):∀ b ∈ bV X.stack,H b=none:=fun b hb=>by
 rcases bd0.mp (I.stkSub b hb) with e | hb
 ·rw [e]; exact I.free
 ·obtain ⟨_,o,ho,_⟩:=I.ok.funs.mem hb
  exact I.base.free b o ho (I.ok.frf b hb) fun z=>I.ok.exfs b z hb
theorem a8.step {g':Array GenState}{t':Nat}{d':Drawn}{ch:List Addr} (I:a8 X pins σ H s)
  (hch:∀ b ∈ ch,(b ∈ X.ex ∨ X.s₀.heap.objs.size<=b)/\b ≠ X.env.locals/\(∀ x c,X.env.cells.lookup x=some c->c ≠ b)/\∀ p ∈ X.pn ++ pins,p.1 ≠ b)
  (keep:∀ b o,b ≠ X.env.locals->b ∉ X.fs->b ∉ ch->s.heap.get? b=some o->H b=none->h'.get? b=some o)
  (slot:∀ b o,b ≠ X.env.locals->b ∈ X.fs->b ∉ ch->s.heap.get? b=some o->H b=none->∃ sl,h'.get? b=some { o with slots:=sl }) (free:∀ b o,b ∉ ch->s.heap.get? b=some o->H b=none->H' b=none)
  (there:∀ b o,b ∉ ch->s.heap.get? b=some o->∃ o',h'.get? b=some o')
  (tups:∀ b xs,H b=some (.tup xs)->H' b=some (.tup xs)) (frzs:∀ b o u,H b=some (.frz o u)->H' b=some (.frz o u)) (tbls:∀ b ps,H b=some (.tbl ps)->∃ more,H' b=some (.tbl (ps ++ more)))
  (ns:∀ m,s.heap.Ns X.env.locals m->h'.Ns X.env.locals m) (hok:c8 X.prog X.w H' h') (hg:AllBare g') :
  a8 X pins σ H' { s with heap:=h',gens:=g',drawn:=d',toks:=t' }:=by
 have neL:∀ b o,X.s₀.heap.get? b=some o->b ≠ X.env.locals:=fun b o e=>bg0 (bd2 (bd5 e) I.ok.above)
 have neC:∀ b o,X.s₀.heap.get? b=some o->b ∉ X.ex->b ∉ ch:=fun b o e hx hb=>by
  rcases (hch b hb).1 with z | z
  ·exact hx z
  ·exact absurd (bd2 (bd5 e) z) (bg6 _)
 have cellK:∀ x c,X.env.cells.lookup x=some c->∀ v,s.heap.IsCell c v->h'.IsCell c v:=fun x c e v ⟨o,ho,hd⟩=>by
  have nch:c ∉ ch:=fun z=>(hch c z).2.2.1 x c e rfl
  by_cases hc:c ∈ X.fs
  ·obtain ⟨sl,q⟩:=slot c o (I.cne x c e) hc nch ho (I.freeC x c e)
   exact⟨_,q,hd⟩
  ·exact⟨o,keep c o (I.cne x c e) hc nch ho (I.freeC x c e),hd⟩
 refine⟨I.ok,I.os,hg,⟨fun b o e n hb hx=>?_,fun b o e n hb hx=>?_,fun b o e n hx=>?_,fun b o e hx=>?_,fun b xs e=>tups b xs (I.base.tups b xs e),fun b o xs e=>frzs b o xs (I.base.frzs b o xs e),fun b ps e=>?_⟩,?_,fun x c e=>?_,?_,fun x c e=>?_,fun p hp=>?_,hok,I.len⟩
 ·exact keep b o (neL b o e) hb (neC b o e hx) (I.base.keep b o e n hb hx) (I.base.free b o e n hx)
 ·obtain ⟨sl,e1⟩:=I.base.slot b o e n hb hx
  obtain ⟨sl',e2⟩:=slot b _ (neL b o e) hb (neC b o e hx) e1 (I.base.free b o e n hx)
  exact⟨sl',e2⟩
 ·obtain ⟨o',e1⟩:=I.base.there b o e hx
  exact free b o' (neC b o e hx) e1 (I.base.free b o e n hx)
 ·obtain ⟨o',e1⟩:=I.base.there b o e hx
  exact there b o' (neC b o e hx) e1
 ·obtain ⟨m1,e1⟩:=I.base.tbls b ps e
  obtain ⟨m2,e2⟩:=tbls b _ e1
  exact⟨m1 ++ m2,by rw [e2,Array.append_assoc]⟩
 ·obtain ⟨m,hn,hl⟩:=I.loc
  refine⟨m,ns m hn,fun i x v e1 e2 e3=>?_⟩
  obtain ⟨u,r,l⟩:=hl i x v e1 e2 e3
  refine⟨u,r,?_⟩
  rcases l with l | ⟨k,c,e,z⟩
  ·exact .inl l
  ·exact .inr ⟨k,c,e,cellK x c e _ z⟩
 ·obtain ⟨v,z⟩:=I.cell x c e
  exact⟨v,cellK x c e v z⟩
 ·obtain ⟨m,⟨o,_,_,ho,_⟩,_⟩:=I.loc
  exact free _ o (fun z=>(hch _ z).2.1 rfl) ho I.free
 ·obtain ⟨v,o,ho,hd⟩:=I.cell x c e
  exact free c o (fun z=>(hch c z).2.2.1 x c e rfl) ho (I.freeC x c e)
 ·obtain ⟨e,n,ne,nf,d⟩:=I.pin p hp
  have nch:p.1 ∉ ch:=fun z=>(hch p.1 z).2.2.2 p hp rfl
  exact⟨keep p.1 p.2 ne nf nch e n,free p.1 p.2 nch e n,ne,nf,d⟩
theorem a8.un {t':Nat} (I:a8 X pins σ H s) (u:Un X.fs [] H H' s.heap h') (hok:c8 X.prog X.w H' h'):a8 X pins σ H' { s with heap:=h',toks:=t' }:=by
 obtain ⟨m,⟨o,es,ep,ho,r⟩,_⟩:=id I.loc
 obtain ⟨sl,hL⟩:=u.any ho I.free (by simp)
 exact I.step (g':=s.gens) (d':=s.drawn) (ch:=[]) (fun _ z=>nomatch z) (fun b o _ hb _ e n=>u.keep b o e n hb (by simp)) (fun b o _ hb _ e n=>u.slot b o e n hb (by simp)) (fun b o _ e n=>u.free b o e n (by simp)) (fun b o _ e=>u.there b o e (by simp)) u.tups u.frzs u.tbls (fun m' hm=>by
  obtain ⟨o',es',ep',ho',r'⟩:=hm
  rw [ho] at ho'; cases ho'
  exact⟨_,es',ep',hL,r'⟩) hok I.bare
theorem a8.call {g':Array GenState}{t':Nat}{d':Drawn}{ch:List Addr} (I:a8 X pins σ H s) (u:Un (bV X.stack) ch H H' s.heap h') (hok:c8 X.prog X.w H' h') (hg:AllBare g')
  (hch:∀ b ∈ ch,(b ∈ X.ex ∨ X.s₀.heap.objs.size<=b)/\b ≠ X.env.locals/\(∀ x c,X.env.cells.lookup x=some c->c ≠ b)/\∀ p ∈ X.pn ++ pins,p.1 ≠ b) :
  a8 X pins σ H' { s with heap:=h',gens:=g',drawn:=d',toks:=t' }:=by
 obtain ⟨m,⟨o,es,ep,ho,r⟩,_⟩:=id I.loc
 obtain ⟨sl,hL⟩:=u.any ho I.free fun z=>(hch _ z).2.1 rfl
 exact I.step (ch:=ch) hch (fun b o hL hb hc e n=>u.keep b o e n (fun z=>(bd0.mp (I.stkSub b z)).elim hL hb) hc) (fun b o _ _ hc e n=>u.any e n hc) (fun b o hc e n=>u.free b o e n hc) (fun b o hc e=>u.there b o e hc) u.tups u.frzs u.tbls (fun m' hm=>by
  obtain ⟨o',es',ep',ho',r'⟩:=hm
  rw [ho] at ho'; cases ho'
  exact⟨_,es',ep',hL,r'⟩) hok hg
theorem a8.turned {t':Nat}{it:Addr} (I:a8 X pins σ H s) (k:∀ b o,b ≠ it->s.heap.get? b=some o->h'.get? b=some o) (hn:H it=none) (hL:it ≠ X.env.locals)
  (h1:it ∈ X.ex ∨ X.s₀.heap.objs.size<=it) (h2:∀ x c,X.env.cells.lookup x=some c->c ≠ it) (h3:∀ p ∈ X.pn ++ pins,p.1 ≠ it):a8 X pins σ H { s with heap:=h',toks:=t' }:=by
 have nit:∀ b u,H b=some u->b ≠ it:=fun b u e z=>by rw [z,hn] at e; cases e
 refine I.step (g':=s.gens) (d':=s.drawn) (ch:=[it]) (fun b hb=>?_) (fun b o _ _ hc e _=>k b o (fun z=>hc (by simp [z])) e) (fun b o _ _ hc e _=>⟨o.slots,k b o (fun z=>hc (by simp [z])) e⟩) (fun _ _ _ _ n=>n)
  (fun b o hc e=>⟨o,k b o (fun z=>hc (by simp [z])) e⟩) (fun _ _ e=>e) (fun _ _ _ e=>e) (fun b ps e=>⟨#[],by rw [e]; simp⟩) (fun m hm=>?_) (fun b u e=>?_) I.bare
 ·have e:b=it:=by simpa using hb
  subst e
  exact⟨h1,hL,h2,h3⟩
 ·obtain ⟨o,es,ep,ho,r⟩:=hm
  exact⟨o,es,ep,k _ o (Ne.symm hL) ho,r⟩
 ·refine (I.hok b u e).stay (fun c v hc q=>k c v ?_ q) (fun _ q=>q) fun _ _ q=>q
  rcases hc with z | z
  ·rw [z]; exact nit b u e
  ·exact nit c _ z
theorem a8.tok (I:a8 X pins σ H s) (t:Nat):a8 X pins σ H { s with toks:=t }:=I.un (h':=s.heap) (t':=t) Un.refl I.hok
theorem a8.kept {t':Nat} (I:a8 X pins σ H s) (k:∀ b u,s.heap.get? b=some u->h'.get? b=some u):a8 X pins σ H { s with heap:=h',toks:=t' }:=I.un (Un.kept k) (I.hok.kept k)
theorem a8.laid {a:Addr}{o:HO}{t':Nat} (I:a8 X pins σ H s) (k:∀ b u,s.heap.get? b=some u->h'.get? b=some u) (hp:s.heap.objs.size<=a) (new:bY X.prog X.w (upd H a o) h' a o) :
  a8 X pins σ (upd H a o) { s with heap:=h',toks:=t' }:=I.un (Un.laid k hp (I.hok.fresh hp)) (I.hok.laid k hp new)
theorem a8.write {x e:Addr}{o:HO}{t':Nat} (I:a8 X pins σ H s) (mu:nU (H x)) (he:e=x ∨ H e=some (.own x)) (k:∀ b u,b ≠ e->s.heap.get? b=some u->h'.get? b=some u) (heo:∃ u,h'.get? e=some u)
  (new:bY X.prog X.w (upd H x o) h' x o):a8 X pins σ (upd H x o) { s with heap:=h',toks:=t' }:=I.un (Un.write mu he k heo) (I.hok.write mu he k heo new)
theorem a8.weak {σ':List (Option V)} (I:a8 X pins σ H s) (hl:σ'.length=σ.length) (w:∀ (i:Nat) v,σ'[i]? = some (some v)->σ[i]? = some (some v)):a8 X pins σ' H s:=
 ⟨I.ok,I.os,I.bare,I.base,let ⟨m,hn,hl'⟩:=I.loc; ⟨m,hn,fun i x v e1 e2 e3=>hl' i x v e1 (w i v e2) e3⟩,I.cell,I.free,I.freeC,I.pin,I.hok,hl.trans I.len⟩
theorem a8.pins_of {pins':List (Addr × Obj)} (I:a8 X pins σ H s) (h:∀ p ∈ pins',s.heap.get? p.1=some p.2/\H p.1=none/\p.1 ≠ X.env.locals/\p.1 ∉ X.fs/\∀ v,p.2.data ≠ .cell v):a8 X pins' σ H s:=
 ⟨I.ok,I.os,I.bare,I.base,I.loc,I.cell,I.free,I.freeC,fun p hp=>(bc9.mp hp).elim (fun z=>I.pin p (bf7 _ z)) (h p),I.hok,I.len⟩
theorem tT {N:List Str} (hN:N.Nodup) {i j:Nat}{x:Str} (a:N[i]? = some x) (b:N[j]? = some x):i=j:=by
 obtain ⟨h1,e1⟩:=bc4.mp a
 obtain ⟨h2,e2⟩:=bc4.mp b
 exact (List.getElem_inj hN).mp (e1.trans e2.symm)
theorem tU {M:Model}{A:Around}{E:Value->Shared->Prop}{i:Nat}{x:Str}{v:V}{u:Value}{Q:Unit->Shared->Prop} (I:a8 X pins σ H s) (hN:X.N.Nodup) (hi:X.N[i]? = some x) (hx:gX X.env.scope x) (r:aY v u)
  (h:∀ s',a8 X pins (σ.set i (some v)) H s'->(∃ a,Heap.SameBut a s.heap s'.heap/\(a=X.env.locals ∨ X.env.cells.lookup x=some a))->Q () s') (hf:X.fn x=true ∨ X.env.scope.names.lookup x=some .local:=by first | exact .inl rfl | exact .inr rfl | assumption):wpAny M A (storeName X.env x u) Q E s:=by
 obtain ⟨m,hn,hl⟩:=id I.loc
 have hcls:(X.env.scope.kind == .class || (X.env.scope.kind == .module && X.env.locals != X.env.globals))=false:=by rw [I.ok.kind]; rfl
 have hiσ:i < σ.length:=by rw [I.len]; exact (bc4.mp hi).1
 have cne:=I.cne
 have tracked:∀ {a:Addr}{h':Heap},(∃ o,s.heap.get? a=some o/\H a=none)->Heap.SameBut a s.heap h'->c8 X.prog X.w H h':=fun {a h'} ha hs b ob e=>by
  obtain ⟨_,_,hfree⟩:=ha
  refine (I.hok b ob e).stay (fun c w' hc q=>(hs.2 c ?_).trans q) (fun _ q=>q) fun _ _ q=>q
  rintro rfl
  rcases hc with rfl | hc
  ·rw [hfree] at e; cases e
  ·rw [hfree] at hc; cases hc
 rcases hx with hk | hk
 ·refine wpAny_storeName_local hk hn (fun h' hn' hs=>?_) hcls
  obtain ⟨oL,_,_,hoL,_⟩:=id hn
  refine h _ ⟨I.ok,I.os,I.bare,⟨fun b o e n hb hx=>?_,fun b o e n hb hx=>?_,I.base.free,fun b o e hx=>?_,I.base.tups,I.base.frzs,I.base.tbls⟩,⟨_,hn',fun j y v' e1 e2 e3=>?_⟩,fun y c e=>?_,I.free,I.freeC,fun p hp=>?_,tracked ⟨oL,hoL,I.free⟩ hs,by simpa using I.len⟩ ⟨_,hs,.inl rfl⟩
  ·exact (hs.2 b (bg0 (bd2 (bd5 e) I.ok.above))).trans (I.base.keep b o e n hb hx)
  ·obtain ⟨sl,e1⟩:=I.base.slot b o e n hb hx
   exact⟨sl,(hs.2 b (bg0 (bd2 (bd5 e) I.ok.above))).trans e1⟩
  ·obtain ⟨o',e1⟩:=I.base.there b o e hx
   exact⟨o',(hs.2 b (bg0 (bd2 (bd5 e) I.ok.above))).trans e1⟩
  ·by_cases hj:j=i
   ·subst hj
    rw [hi] at e1; cases e1
    rw [bh1 hiσ] at e2
    cases e2
    exact⟨u,r,.inl ⟨hk,by simp⟩⟩
   ·rw [be7 (Ne.symm hj)] at e2
    obtain ⟨u',r',q⟩:=hl j y v' e1 e2 e3
    refine⟨u',r',?_⟩
    rcases q with ⟨k,e⟩ | ⟨k,c,e,z⟩
    ·refine .inl ⟨k,?_⟩
     have:y ≠ x:=fun e=>hj (tT hN e1 (e ▸ hi))
     simp [this,e]
    ·exact .inr ⟨k,c,e,z.sameBut hs (cne y c e)⟩
  ·obtain ⟨w',z⟩:=I.cell y c e
   exact⟨w',z.sameBut hs (cne y c e)⟩
  ·obtain ⟨e,n,ne,nf,d⟩:=I.pin p hp
   exact⟨(hs.2 p.1 ne).trans e,n,ne,nf,d⟩
 ·have hfn:X.fn x=true:=by
   rcases hf with z | z
   ·exact z
   ·rw [z] at hk; cases hk
  obtain ⟨c,hc⟩:=I.ok.has x (.inl hk)
  obtain ⟨w',z⟩:=I.cell x c hc
  refine wpAny_storeName_cell I.ok.kind hk hc z (fun h' hc' hs=>?_)
  obtain ⟨oc,hoc,hocd⟩:=id z
  refine h { s with heap:=h' } ⟨I.ok,I.os,I.bare,⟨fun b o e n hb hx=>?_,fun b o e n hb hx=>?_,I.base.free,fun b o e hx=>?_,I.base.tups,I.base.frzs,I.base.tbls⟩,⟨m,hn.sameBut hs (Ne.symm (cne x c hc)),fun j y v' e1 e2 e3=>?_⟩,fun y c' e=>?_,I.free,I.freeC,fun p hp=>?_,tracked ⟨oc,hoc,I.freeC x c hc⟩ hs,by simpa using I.len⟩ ⟨c,hs,.inr hc⟩
  ·exact (hs.2 b (bg0 (bd2 (bd5 e) (I.ok.cab x c hfn hc)))).trans (I.base.keep b o e n hb hx)
  ·obtain ⟨sl,e1⟩:=I.base.slot b o e n hb hx
   exact⟨sl,(hs.2 b (bg0 (bd2 (bd5 e) (I.ok.cab x c hfn hc)))).trans e1⟩
  ·obtain ⟨o',e1⟩:=I.base.there b o e hx
   exact⟨o',(hs.2 b (bg0 (bd2 (bd5 e) (I.ok.cab x c hfn hc)))).trans e1⟩
  ·by_cases hj:j=i
   ·subst hj
    rw [hi] at e1; cases e1
    rw [bh1 hiσ] at e2
    cases e2
    exact⟨u,r,.inr ⟨.inl hk,c,hc,hc'⟩⟩
   ·rw [be7 (Ne.symm hj)] at e2
    obtain ⟨u',r',q⟩:=hl j y v' e1 e2 e3
    refine⟨u',r',?_⟩
    rcases q with q | ⟨k,c',e,z'⟩
    ·exact .inl q
    ·refine .inr ⟨k,c',e,z'.sameBut hs ?_⟩
     rintro rfl
     exact hj (tT hN e1 (I.ok.inj _ _ _ e hc ▸ hi))
  ·by_cases hcc:c'=c
   ·subst hcc; exact⟨_,hc'⟩
   ·obtain ⟨w2,z2⟩:=I.cell y c' e
    exact⟨w2,z2.sameBut hs hcc⟩
  ·obtain ⟨e,n,ne,nf,d⟩:=I.pin p hp
   refine⟨(hs.2 p.1 ?_).trans e,n,ne,nf,d⟩
   intro q
   rw [q,hoc] at e
   have q':oc=p.2:=be3 e
   exact d w' (by rw [<- q']; exact hocd)
theorem pY {M:Model}{A:Around}{E:Value->Shared->Prop}{i:Nat}{x:Str}{v:V}{u:Value}{Q:Unit->Shared->Prop} (I:a8 X pins σ H s) (hN:X.N.Nodup) (hi:X.N[i]? = some x) (hx:gX X.env.scope x) (r:aY v u)
  (h:∀ s',a8 X pins (σ.set i (some v)) H s'->Q () s') (hf:X.fn x=true ∨ X.env.scope.names.lookup x=some .local:=by first | exact .inl rfl | exact .inr rfl | assumption):wpAny M A (storeName X.env x u) Q E s:=
 tU I hN hi hx r (fun s' I' _=>h s' I') hf
theorem a8.call' {s':Shared}{ch:List Addr} (I:a8 X pins σ H s) (ho:s'.os=s.os) (u:Un (bV X.stack) ch H H' s.heap s'.heap) (hok:c8 X.prog X.w H' s'.heap) (hg:AllBare s'.gens)
  (hch:∀ b ∈ ch,(b ∈ X.ex ∨ X.s₀.heap.objs.size<=b)/\b ≠ X.env.locals/\(∀ x c,X.env.cells.lookup x=some c->c ≠ b)/\∀ p ∈ X.pn ++ pins,p.1 ≠ b):a8 X pins σ H' s':=by
 obtain ⟨h',g',d',t',o'⟩:=s'
 have e:o'=s.os:=ho
 subst e
 exact I.call (g':=g') (t':=t') (d':=d') u hok hg hch
end
noncomputable abbrev XK:=Value->Option Addr->Hp->Prop
noncomputable abbrev St:=List (Option V)
noncomputable abbrev VK:=V->Hp->Prop
noncomputable abbrev TE:=St->Hp->VK->Prop
noncomputable abbrev TT:=St->Hp->(Bool->Hp->Prop)->Prop
noncomputable abbrev TA:=St->Hp->(List V->Hp->Prop)->Prop
structure dH where
 nx:St->Hp->Prop
 rt:VK
 bk:St->Hp->Prop:=fun _ _=>False
 ct:St->Hp->Prop:=fun _ _=>False
noncomputable abbrev TS:=dH->St->Hp->Prop
noncomputable def EP (X:Cx) (pins:List (Addr × Obj)) (σ:St) (Q:VK) (u:Value) (s':Shared):Prop:=∃ v H',a8 X pins σ H' s'/\aY v u/\Q v H'
noncomputable def TP (X:Cx) (pins:List (Addr × Obj)) (σ:St) (Q:Bool->Hp->Prop) (b:Bool) (s':Shared):Prop:=∃ H',a8 X pins σ H' s'/\Q b H'
noncomputable def AP (X:Cx) (pins:List (Addr × Obj)) (σ:St) (Q:List V->Hp->Prop) (us:List Value) (s':Shared):Prop:=∃ vs H',a8 X pins σ H' s'/\aN vs us/\Q vs H'
noncomputable def SP (X:Cx) (pins:List (Addr × Obj)) (D:dH) (f:Flow) (s':Shared):Prop:=
 match f with
 | .next=>∃ σ' H',a8 X pins σ' H' s'/\D.nx σ' H'
 | .brk=>∃ σ' H',a8 X pins σ' H' s'/\D.bk σ' H'
 | .cont=>∃ σ' H',a8 X pins σ' H' s'/\D.ct σ' H'
 | .ret u=>∃ v σ' H',a8 X pins σ' H' s'/\aY v u/\D.rt v H'
noncomputable def PE (X:Cx) (e:Expr) (t:TE):Prop:=
 ∀ (pins:List (Addr × Obj)) (s:Shared) (σ:St) (H:Hp) (Q:VK),a8 X pins σ H s->t σ H Q->wpAny (model X.prog X.w) X.A (eval e X.env) (EP X pins σ Q) X.xe s
noncomputable def PT (X:Cx) (e:Expr) (t:TT):Prop:=
 ∀ (pins:List (Addr × Obj)) (s:Shared) (σ:St) (H:Hp) (Q:Bool->Hp->Prop),a8 X pins σ H s->t σ H Q->wpAny (model X.prog X.w) X.A (isTrue e X.env (eval e X.env)) (TP X pins σ Q) X.xe s
noncomputable def PW (X:Cx) (e:Expr) (t:TT):Prop:=
 ∀ (whole:Sem Value) (pins:List (Addr × Obj)) (s:Shared) (σ:St) (H:Hp) (Q:Bool->Hp->Prop),a8 X pins σ H s->t σ H Q->wpAny (model X.prog X.w) X.A (isTrue e X.env whole) (TP X pins σ Q) X.xe s
theorem PW.pt {X:Cx}{e:Expr}{t:TT} (h:PW X e t):PT X e t:=h _
noncomputable def PA (X:Cx) (es:List Expr) (t:TA):Prop:=
 ∀ (pos:Pos) (pins:List (Addr × Obj)) (s:Shared) (σ:St) (H:Hp) (Q:List V->Hp->Prop),a8 X pins σ H s->t σ H Q->wpAny (model X.prog X.w) X.A (spliced (backTo pos (starEach es X.env))) (AP X pins σ Q) X.xe s
noncomputable def PS (X:Cx) (st:Stmt) (t:TS):Prop:=
 ∀ (pins:List (Addr × Obj)) (s:Shared) (σ:St) (H:Hp) (D:dH),a8 X pins σ H s->t D σ H->wpAny (model X.prog X.w) X.A (exec st X.env) (SP X pins D) X.xe s
noncomputable def e8 (X:Cx) (st:List Stmt) (t:TS):Prop:=
 ∀ (pins:List (Addr × Obj)) (s:Shared) (σ:St) (H:Hp) (D:dH),a8 X pins σ H s->t D σ H->wpAny (model X.prog X.w) X.A (execs st X.env) (SP X pins D) X.xe s
theorem aQ {α:Type}{t:Sem α}{Q Q':α->Shared->Prop}{M:Model}{A:Around}{E:Value->Shared->Prop}{s:Shared} (h:wpAny M A t Q E s) (hQ:∀ a s,Q a s->Q' a s):wpAny M A t Q' E s:=bj6 h hQ fun _ _ x=>x
section
variable {X : Cx}
theorem bin {a b:Expr}{ta tb:TE} (ha:PE X a ta) (hb:PE X b tb) {pins:List (Addr × Obj)}{s:Shared}{σ:St}{H:Hp}{R:V->V->Hp->Prop} (I:a8 X pins σ H s) (h:ta σ H fun x H1=>tb σ H1 fun y H2=>R x y H2)
  {α:Type}{Q:α->Shared->Prop}{f:Value->Value->Sem α}
  (hf:∀ v u s2 x y H2,a8 X pins σ H2 s2->aY x v->aY y u->R x y H2->wpAny (model X.prog X.w) X.A (f v u) Q X.xe s2) :
  wpAny (model X.prog X.w) X.A (eval a X.env) (fun v s₁=>wpAny (model X.prog X.w) X.A (eval b X.env) (fun u s₂=>wpAny (model X.prog X.w) X.A (f v u) Q X.xe s₂) X.xe s₁) X.xe s:=by
 refine aQ (ha pins s σ H _ I h) fun v s1 ⟨x,H1,I1,r1,q1⟩=>?_
 refine aQ (hb pins s1 σ H1 _ I1 q1) fun u s2 ⟨y,H2,I2,r2,q2⟩=>?_
 exact hf v u s2 x y H2 I2 r1 r2 q2
noncomputable def iQ (i:Nat):TE:=fun σ H Q=>∃ v,σ[i]? = some (some v)/\Q v H
noncomputable def tC (v:V):TE:=fun _ H Q=>Q v H
theorem jG {i:Nat}{x:Str}{pos:Pos} (hN:X.N[i]? = some x) (hv:gW X.env.scope x) (hd:(x == ("__debug__" : Str))=false:=by decide) (hcd:(x == ("__classdict__" : Str))=false:=by decide):PE X (.Name x pos) (iQ i):=by
 intro pins s σ H Q I h
 obtain ⟨v,e,h⟩:=h
 obtain ⟨m,hn,hl⟩:=I.loc
 obtain ⟨u,r,l⟩:=hl i x v hN e hv
 have fin:EP X pins σ Q u s:=⟨v,H,I,r,h⟩
 rcases l with ⟨hk,hm⟩ | ⟨hk,c,hc,hcell⟩
 ·exact wpAny_Name (wpAny_loadName_local I.ok.kind hk hn hm fin) hd
 ·rcases hk with hk | hk
  ·exact wpAny_Name (wpAny_loadName_cell I.ok.kind hk hc hcell fin) hd
  ·exact wpAny_Name (wpAny_loadName_free I.ok.kind hk hc hcell fin hcd) hd
theorem lC {i j pos}:PE X (.Constant (.int i) j pos) (tC (.int i)):=fun _ _ _ H _ I h=>wpAny_Constant_int ⟨.int i,H,I.tok _,⟨_,rfl⟩,h⟩
theorem zA {b j pos}:PE X (.Constant (.bool b) j pos) (tC (.bl b)):=fun _ _ _ H _ I h=>Constant_bool ⟨.bl b,H,I,rfl,h⟩
theorem ah4 {j pos}:PE X (.Constant .none j pos) (tC .non):=fun _ _ _ H _ I h=>Constant_none ⟨.non,H,I,rfl,h⟩
theorem ah5 {x j pos}:PE X (.Constant (.str x) j pos) (tC (.str x)):=fun _ _ _ H _ I h=>Calls.Constant_str ⟨.str x,H,I.tok _,⟨_,rfl⟩,h⟩
noncomputable def Gl (X:Cx) (x:Str):Prop:=X.env.kindOf x=some .globalImplicit
theorem nW {E:Value->Shared->Prop}{pins:List (Addr × Obj)}{s:Shared}{σ:St}{H:Hp}{x:Str}{u:Value}{pos:Pos}{Q:Value->Shared->Prop} (I:a8 X pins σ H s) (hg:Gl X x) (hm:X.mg x=some u) (h:Q u s)
  (hd:(x == ("__debug__" : Str))=false:=by decide):wpAny (model X.prog X.w) X.A (eval (.Name x pos) X.env) Q E s:=
 Calls.Name_function_global I.ok.kind hg (Calls.loadGlobal_global (by rw [I.ok.glob]; exact I.mod.glob.keeps I.bk) hm h) hd
theorem jH {E:Value->Shared->Prop}{pins:List (Addr × Obj)}{s:Shared}{σ:St}{H:Hp}{x:Str}{u:Value}{pos:Pos}{Q:Value->Shared->Prop} (I:a8 X pins σ H s) (hg:Gl X x) (hm:X.mg x=none) (hv:bootBuiltins x=some u) (h:Q u s)
  (hn:x ≠ "__name__":=by decide) (hd:(x == ("__debug__" : Str))=false:=by decide):wpAny (model X.prog X.w) X.A (eval (.Name x pos) X.env) Q E s:=by
 obtain ⟨mb,h1,h2⟩:=I.mod.blt
 exact Calls.Name_function_global I.ok.kind hg (Calls.loadGlobal_builtin (by rw [I.ok.glob]; exact I.mod.glob.keeps I.bk) hm (by rw [I.ok.blt]; exact h1.keeps I.bk) ((h2 x hn).trans hv) h) hd
theorem ah6 {x:Str}{v:V}{u:Value}{pos:Pos} (hg:Gl X x) (hm:X.mg x=some u) (r:aY v u) (hd:(x == ("__debug__" : Str))=false:=by decide):PE X (.Name x pos) (tC v):=
 fun _ _ _ H _ I h=>nW I hg hm ⟨v,H,I,r,h⟩ hd
theorem zB {x:Str}{v:V}{u:Value}{pos:Pos} (hg:Gl X x) (hm:X.mg x=none) (hv:bootBuiltins x=some u) (r:aY v u) (hn:x ≠ "__name__":=by decide) (hd:(x == ("__debug__" : Str))=false:=by decide):PE X (.Name x pos) (tC v):=
 fun _ _ _ H _ I h=>jH I hg hm hv ⟨v,H,I,r,h⟩ hn hd
variable {a b : Expr} {ta tb : TE} {pos : Pos}
noncomputable def PC (X:Cx) (op:CmpOp) (a b:Expr) (t:TE):Prop:=
 ∀ (pins:List (Addr × Obj)) (s:Shared) (σ:St) (H:Hp) (Q:VK),a8 X pins σ H s->t σ H Q->
  wpAny (model X.prog X.w) X.A (eval a X.env) (fun v s₁=>wpAny (model X.prog X.w) X.A (eval b X.env) (fun u s₂=>wpAny (model X.prog X.w) X.A (compareOp op v u) (EP X pins σ Q) X.xe s₂) X.xe s₁) X.xe s
noncomputable def tB (t:TE):TT:=fun σ H Q=>t σ H fun x H1=>∃ c,x = .bl c/\Q c H1
theorem zC {op:CmpOp}{t:TE} (h:PC X op a b t) (h1:behindInMarks op b=false:=by first | exact nobehind _ (by decide) (by decide) | rfl):PT X (.Compare a [op] [b] pos) (tB t):=by
 intro pins s σ H Q I hw
 refine wpAny_isTrue_Compare1 (aQ (h pins s σ H _ I hw) fun v s1 h1=>aQ h1 fun u s2 h2=>aQ h2 fun c s3 ⟨x,H1,I1,r1,q1⟩=>?_) h1
 obtain ⟨d,rfl,q⟩:=q1
 cases r1
 exact bl0 ⟨H1,I1,q⟩
theorem ah7 {e:Expr}{t:TE} (h:PE X e t) (he:∀ whole,isTrue e X.env whole=(do let v <- whole; standAt e.pos; holding [v] (truthy v)):=by intro _; rfl):PT X e (tB t):=by
 intro pins s σ H Q I hw
 refine isTrue_plain (aQ (h pins s σ H _ I hw) fun v s1 ⟨x,H1,I1,r1,q1⟩=>?_) (he _)
 obtain ⟨d,rfl,q⟩:=q1
 cases r1
 exact bl0 ⟨H1,I1,q⟩
variable {tA tB' : TT} {cW : List Expr}
noncomputable def zD (t u:TT):TT:=fun σ H Q=>t σ H fun c H1=>if c=true then u σ H1 Q else Q false H1
noncomputable def zE (t u:TT):TT:=fun σ H Q=>t σ H fun c H1=>if c=true then Q true H1 else u σ H1 Q
noncomputable def zF (t:TT):TT:=fun σ H Q=>t σ H fun c H1=>Q (!c) H1
theorem ah8 (ha:PT X a tA):PW X (.BoolOp .And [a] pos) tA:=by
 intro wh pins s σ H Q I h
 refine isTrue_and (aQ (ha pins s σ H Q I h) fun c s1 e=>?_)
 cases c with
 | true=>exact isTrue_and_nil e
 | false=>exact e
theorem ah9 (ha:PT X a tA):PW X (.BoolOp .Or [a] pos) tA:=by
 intro wh pins s σ H Q I h
 refine isTrue_or (aQ (ha pins s σ H Q I h) fun c s1 e=>?_)
 cases c with
 | false=>exact isTrue_or_nil e
 | true=>exact e
theorem ai0 (ha:PT X a tA) (hb:PW X (.BoolOp .And (b :: cW) pos) tB'):PW X (.BoolOp .And (a :: b :: cW) pos) (zD tA tB'):=by
 intro wh pins s σ H Q I h
 refine isTrue_and (aQ (ha pins s σ H _ I h) fun c s1 ⟨H1,I1,q1⟩=>?_)
 cases c with
 | true=>exact hb wh pins s1 σ H1 Q I1 q1
 | false=>exact⟨H1,I1,q1⟩
theorem ai1 (ha:PT X a tA) (hb:PW X (.BoolOp .Or (b :: cW) pos) tB'):PW X (.BoolOp .Or (a :: b :: cW) pos) (zE tA tB'):=by
 intro wh pins s σ H Q I h
 refine isTrue_or (aQ (ha pins s σ H _ I h) fun c s1 ⟨H1,I1,q1⟩=>?_)
 cases c with
 | true=>exact⟨H1,I1,q1⟩
 | false=>exact hb wh pins s1 σ H1 Q I1 q1
theorem ai2 (ha:PT X a tA):PT X (.UnaryOp .Not a pos) (zF tA):=by
 intro pins s σ H Q I h
 exact isTrue_not (ha pins s σ H (fun c H1=>Q (!c) H1) I h)
noncomputable def zG (ta tb:TE):TE:=fun σ H Q=>ta σ H fun x H1=>∃ c,x = .bl c/\if c=true then tb σ H1 Q else Q (.bl false) H1
noncomputable def zH (ta tb:TE):TE:=fun σ H Q=>ta σ H fun x H1=>∃ c,x = .bl c/\if c=true then Q (.bl true) H1 else tb σ H1 Q
noncomputable def zI (ta:TE):TE:=fun σ H Q=>ta σ H fun x H1=>∃ c,x = .bl c/\Q (.bl (!c)) H1
theorem ai3 {op}{t:TE} (h:PE X a t):PE X (.BoolOp op [a] pos) t:=fun pins s σ H Q I hw=>BoolOp_one (h pins s σ H Q I hw)
theorem ai4 (ha:PE X a ta) (hb:PE X (.BoolOp .And (b :: cW) pos) tb):PE X (.BoolOp .And (a :: b :: cW) pos) (zG ta tb):=by
 intro pins s σ H Q I h
 refine BoolOp_and (aQ (ha pins s σ H _ I h) fun v s1 ⟨x,H1,I1,r1,q1⟩=>?_)
 obtain ⟨c,rfl,q1⟩:=q1
 cases r1
 refine bl0 ?_
 cases c with
 | true=>exact hb pins s1 σ H1 Q I1 q1
 | false=>exact⟨.bl false,H1,I1,rfl,q1⟩
theorem ai5 (ha:PE X a ta) (hb:PE X (.BoolOp .Or (b :: cW) pos) tb):PE X (.BoolOp .Or (a :: b :: cW) pos) (zH ta tb):=by
 intro pins s σ H Q I h
 refine BoolOp_or (aQ (ha pins s σ H _ I h) fun v s1 ⟨x,H1,I1,r1,q1⟩=>?_)
 obtain ⟨c,rfl,q1⟩:=q1
 cases r1
 refine bl0 ?_
 cases c with
 | false=>exact hb pins s1 σ H1 Q I1 q1
 | true=>exact⟨.bl true,H1,I1,rfl,q1⟩
theorem ai6 (ha:PE X a ta):PE X (.UnaryOp .Not a pos) (zI ta):=by
 intro pins s σ H Q I h
 refine UnaryOp_ (aQ (ha pins s σ H _ I h) fun v s1 ⟨x,H1,I1,r1,q1⟩=>?_)
 obtain ⟨c,rfl,q1⟩:=q1
 cases r1
 exact not_of (bl0 ⟨.bl (!c),H1,I1,rfl,q1⟩)
end
noncomputable def aM (K:PySem.W.Frag) (H:Hp) (a:Addr) (xs:List V):Prop:=
 Rd H a (.lst xs) ∨
  ∃ (o:Obj) (its:Array Value) (n:Nat),K.lookup a=some o/\o.cls = .type "list"/\o.dict=none/\o.data = .seq its n/\its.size<=sizeLine/\aN xs its.toList
noncomputable def aR (K:PySem.W.Frag) (H:Hp) (a:Addr) (xs:List V):Prop:=
 Rd H a (.tup xs) ∨
  ∃ (o:Obj) (its:Array Value) (n:Nat),K.lookup a=some o/\o.cls = .type "tuple"/\o.data = .seq its n/\its.size<=sizeLine/\aN xs its.toList
noncomputable def ai7:Value->Option V
 | .none=>some .non
 | .bool b=>some (.bl b)
 | .int i _=>some (.int i)
 | .str x _=>some (.str x)
 | .bytes b _=>some (.byt b)
 | .float b _=>some (.flt b)
 | .ref a=>some (.ref a)
 | .type n=>some (.ty n)
 | _=>none
theorem aY.abs {x:V}{u:Value} (r:aY x u):ai7 u=some x:=by
 cases x with
 | non=>cases r; rfl
 | bl _=>cases r; rfl
 | int _=>obtain ⟨t,rfl⟩:=r; rfl
 | str _=>obtain ⟨t,rfl⟩:=r; rfl
 | byt _=>obtain ⟨t,rfl⟩:=r; rfl
 | flt _=>obtain ⟨t,rfl⟩:=r; rfl
 | ref _=>cases r; rfl
 | ty _=>cases r; rfl
theorem aY.inj {x y:V}{u:Value} (r:aY x u) (q:aY y u):x=y:=be3 (r.abs.symm.trans q.abs)
theorem aN.inj:∀ {xs ys:List V}{us:List Value},aN xs us->aN ys us->xs=ys
 | _,_,_,.nil,.nil=>rfl
 | _,_,_,.cons r t,.cons r' t'=>by rw [r.inj r',aN.inj t t']
section
variable {X : Cx} {pins : List (Addr × Obj)} {σ : St} {H : Hp} {s : Shared} {a : Addr} {xs ys : List V}
theorem aM.of {K:PySem.W.Frag} (h:H a=some (.lst xs)):aM K H a xs:=.inl (.inl h)
theorem aR.of {K:PySem.W.Frag} (h:H a=some (.tup xs)):aR K H a xs:=.inl (.inl h)
theorem a8.list (I:a8 X pins σ H s) (h:aM X.K H a xs):∃ its:List Value,aN xs its/\PlainL s.heap a its.toArray/\xs.length<=sizeLine:=by
 rcases h with h | ⟨o,its,n,hk,hc,hd,hs,hz,r⟩
 ·obtain ⟨z,its,n,r,e⟩:=h.ok I.hok
  exact⟨its,r,⟨_,n,e,rfl,rfl,rfl⟩,z⟩
 ·refine⟨its.toList,r,⟨o,n,I.kIn a o hk,hc,hd,by simpa using hs⟩,?_⟩
  have e:=r.length
  simp only [Array.length_toList] at e
  omega
theorem a8.tuple (I:a8 X pins σ H s) (h:aR X.K H a xs):∃ its:List Value,aN xs its/\IsTup s.heap a its.toArray/\xs.length<=sizeLine:=by
 rcases h with h | ⟨o,its,n,hk,hc,hs,hz,r⟩
 ·obtain ⟨z,its,r,p,_⟩:=h.ok I.hok
  exact⟨its,r,p,z⟩
 ·refine⟨its.toList,r,⟨o,I.kIn a o hk,hc,n,by simpa using hs⟩,?_⟩
  have e:=r.length
  simp only [Array.length_toList] at e
  omega
theorem a8.list_inj (I:a8 X pins σ H s) (h:aM X.K H a xs) (h':aM X.K H a ys):xs=ys:=by
 obtain ⟨its,r,⟨o,n,e,_,_,d⟩,_⟩:=I.list h
 obtain ⟨its',r',⟨o',n',e',_,_,d'⟩,_⟩:=I.list h'
 rw [e] at e'; cases e'
 rw [d] at d'
 injection d' with d1 _
 have:its=its':=by simpa using congrArg Array.toList d1
 subst this
 exact r.inj r'
theorem a8.tuple_inj (I:a8 X pins σ H s) (h:aR X.K H a xs) (h':aR X.K H a ys):xs=ys:=by
 obtain ⟨its,r,⟨o,e,_,n,d⟩,_⟩:=I.tuple h
 obtain ⟨its',r',⟨o',e',_,n',d'⟩,_⟩:=I.tuple h'
 rw [e] at e'; cases e'
 rw [d] at d'
 injection d' with d1 _
 have:its=its':=by simpa using congrArg Array.toList d1
 subst this
 exact r.inj r'
end
noncomputable abbrev Cx.wish (X:Cx) (E:Value->Shared->Prop):Cx:={ X with xe:=E }
noncomputable abbrev Cx.nox (X:Cx):Cx:=X.wish fun _ _=>False
theorem Cx.Ok.wish {X:Cx} (ok:X.Ok) (E:Value->Shared->Prop):(X.wish E).Ok:=
 ⟨ok.mod,ok.kind,ok.glob,ok.blt,ok.above,ok.inj,ok.has,ok.cab,ok.hd,ok.frames,ok.stk,ok.exf,ok.bs,ok.bsz,ok.noex,ok.exfs,ok.funs,ok.frf⟩
theorem Cx.Ok.unwish {X:Cx}{E:Value->Shared->Prop} (ok:(X.wish E).Ok):X.Ok:=
 ⟨ok.mod,ok.kind,ok.glob,ok.blt,ok.above,ok.inj,ok.has,ok.cab,ok.hd,ok.frames,ok.stk,ok.exf,ok.bs,ok.bsz,ok.noex,ok.exfs,ok.funs,ok.frf⟩
section
variable {X : Cx} {pins : List (Addr × Obj)} {σ : St} {H : Hp} {s : Shared} {E : Value → Shared → Prop}
theorem a8.wish (I:a8 X pins σ H s) (E:Value->Shared->Prop):a8 (X.wish E) pins σ H s:=⟨I.ok.wish E,I.os,I.bare,I.base,I.loc,I.cell,I.free,I.freeC,I.pin,I.hok,I.len⟩
theorem a8.unwish (I:a8 (X.wish E) pins σ H s):a8 X pins σ H s:=⟨I.ok.unwish,I.os,I.bare,I.base,I.loc,I.cell,I.free,I.freeC,I.pin,I.hok,I.len⟩
theorem SP.unwish {D:dH}{f:Flow}{s':Shared} (h:SP (X.wish E) pins D f s'):SP X pins D f s':=by
 cases f with
 | next=>obtain ⟨σ',H',I,q⟩:=h; exact⟨σ',H',I.unwish,q⟩
 | brk=>obtain ⟨σ',H',I,q⟩:=h; exact⟨σ',H',I.unwish,q⟩
 | cont=>obtain ⟨σ',H',I,q⟩:=h; exact⟨σ',H',I.unwish,q⟩
 | ret u=>obtain ⟨v,σ',H',I,r,q⟩:=h; exact⟨v,σ',H',I.unwish,r,q⟩
theorem e8.nox {st:List Stmt}{t:TS} (h:e8 X.nox st t):e8 X st t:=fun pins s σ H D I hw=>
 bj6 (h pins s σ H D (I.wish _) hw) (fun _ _ q=>q.unwish) fun _ _ z=>False.elim z
end
section
variable {X : Cx} {st : Stmt} {cW : List Stmt} {t u : TS} {e : Expr} {te : TE} {pos : Pos}
noncomputable def zJ:TS:=fun D σ H=>D.nx σ H
noncomputable def zK (t u:TS):TS:=fun D σ H=>t { D with nx:=u D } σ H
theorem ai8:e8 X [] zJ:=fun _ _ σ H _ I h=>wpAny_execs_nil ⟨σ,H,I,h⟩
theorem lD (h1:PS X st t) (h2:e8 X cW u):e8 X (st :: cW) (zK t u):=by
 intro pins s σ H D I h
 refine wpAny_execs_cons (aQ (h1 pins s σ H { D with nx:=u D } I h) fun f s1 q=>?_)
 cases f with
 | next=>
  obtain ⟨σ',H',I',q⟩:=q
  exact h2 pins s1 σ' H' D I' q
 | ret v=>exact q
 | brk=>exact q
 | cont=>exact q
theorem lE (h1:PS X st t):e8 X [st] t:=by
 intro pins s σ H D I h
 refine wpAny_execs_cons (aQ (h1 pins s σ H D I h) fun f s1 q=>?_)
 cases f with
 | next=>exact wpAny_execs_nil q
 | ret v=>exact q
 | brk=>exact q
 | cont=>exact q
theorem a8.quiet {pins:List (Addr × Obj)}{σ:St}{H:Hp}{s:Shared} (I:a8 X pins σ H s):interactive X.env=false:=by simp [interactive,I.ok.kind]
noncomputable def pZ (te:TE):TS:=fun D σ H=>te σ H fun _ H1=>D.nx σ H1
theorem lF (he:PE X e te) (hs:swapsWith e none pos.line X.env=pure false:=by rfl):PS X (.Expr e pos) (pZ te):=by
 intro pins s σ H D I h
 exact wpAny_Expr_any (aQ (he pins s σ H _ I h) fun v s1 ⟨x,H1,I1,r1,q1⟩=>⟨σ,H1,I1,q1⟩) I.quiet hs
noncomputable def tV (te:TE):TS:=fun D σ H=>te σ H D.rt
theorem mE (he:PE X e te):PS X (.Return (some e) pos) (tV te):=by
 intro pins s σ H D I h
 exact wpAny_Return_some (aQ (he pins s σ H _ I h) fun v s1 ⟨x,H1,I1,r1,q1⟩=>⟨x,σ,H1,I1,r1,q1⟩)
noncomputable def zL (c:TT) (t u:TS):TS:=fun D σ H=>c σ H fun b H1=>if b=true then t D σ H1 else u D σ H1
theorem ai9 {c:Expr}{a b:List Stmt}{tc:TT} (hc:PT X c tc) (ha:e8 X a t) (hb:e8 X b u):PS X (.If c a b pos) (zL tc t u):=by
 intro pins s σ H D I h
 refine wpAny_If (aQ (hc pins s σ H _ I h) fun d s1 ⟨H1,I1,q1⟩=>?_)
 cases d with
 | true=>exact ha pins s1 σ H1 D I1 q1
 | false=>exact hb pins s1 σ H1 D I1 q1
noncomputable def aj0:TS:=fun _ _ _=>False
theorem aj1:PS X st aj0:=fun _ _ _ _ _ _ h=>h.elim
end
noncomputable abbrev TG:=V->St->Hp->(St->Hp->Prop)->Prop
noncomputable abbrev lG:=List V->St->Hp->(St->Hp->Prop)->Prop
noncomputable def PG (X:Cx) (target:Expr) (t:TG):Prop:=
 ∀ (pins:List (Addr × Obj)) (s:Shared) (σ:St) (H:Hp) (v:V) (u:Value) (Q:St->Hp->Prop),a8 X pins σ H s->aY v u->t v σ H Q->
  wpAny (model X.prog X.w) X.A (assign target X.env u) (fun _ s'=>∃ σ' H',a8 X pins σ' H' s'/\Q σ' H') X.xe s
noncomputable def qA (X:Cx) (ts:List Expr) (t:lG):Prop:=
 ∀ (pins:List (Addr × Obj)) (s:Shared) (σ:St) (H:Hp) (vs:List V) (us:List Value) (Q:St->Hp->Prop),a8 X pins σ H s->aN vs us->t vs σ H Q->
  wpAny (model X.prog X.w) X.A (assignInOrder ((assignEach ts X.env).map (·.2)) us) (fun _ s'=>∃ σ' H',a8 X pins σ' H' s'/\Q σ' H') X.xe s
noncomputable abbrev tW:=V->V->V->Hp->(Hp->Prop)->Prop
noncomputable def zM (X:Cx) (t:tW):Prop:=
 ∀ (pins:List (Addr × Obj)) (s:Shared) (σ:St) (H:Hp) (o i v:V) (ov iv u:Value) (Q:Hp->Prop),a8 X pins σ H s->aY o ov->aY i iv->aY v u->t o i v H Q->
  wpAny (model X.prog X.w) X.A (setItem ov iv u) (fun _ s'=>∃ H',a8 X pins σ H' s'/\Q H') X.xe s
section
variable {X : Cx} {pos : Pos}
noncomputable def cG (i:Nat):TG:=fun v σ H Q=>Q (σ.set i (some v)) H
theorem eC {i:Nat}{x:Str} (hN:X.N.Nodup) (hi:X.N[i]? = some x) (hx:gX X.env.scope x) (hf:X.fn x=true ∨ X.env.scope.names.lookup x=some .local:=by first | exact .inl rfl | exact .inr rfl | assumption):PG X (.Name x pos) (cG i):=by
 intro pins s σ H v u Q I r h
 exact wpAny_assign_Name (pY I hN hi hx r (fun s' I'=>⟨_,H,I',h⟩) hf)
noncomputable def jI:lG:=fun vs σ H Q=>vs = []/\Q σ H
noncomputable def eN (t:TG) (u:lG):lG:=fun vs σ H Q=>∃ v r,vs=v :: r/\t v σ H fun σ' H'=>u r σ' H' Q
theorem lH:qA X [] jI:=by
 intro pins s σ H vs us Q I r h
 obtain ⟨e,h⟩:=h
 subst e
 cases r
 exact assignInOrder_nil ⟨σ,H,I,h⟩
theorem gB {e:Expr}{es:List Expr}{t:TG}{u:lG} (h1:PG X e t) (h2:qA X es u)
  (hs:(assignEach (e :: es) X.env).map (·.2)=assign e X.env :: (assignEach es X.env).map (·.2):=by rfl):qA X (e :: es) (eN t u):=by
 intro pins s σ H vs us Q I r h
 obtain ⟨v,vr,e1,h⟩:=h
 subst e1
 cases r with
 | cons r rr=>
  rw [hs]
  refine assignInOrder_cons (aQ (h1 pins s σ H _ _ _ I r h) fun _ s1 ⟨σ1,H1,I1,q1⟩=>?_)
  exact h2 pins s1 σ1 H1 _ _ Q I1 rr q1
noncomputable def jJ (K:PySem.W.Frag) (n:Nat) (t:lG):TG:=fun v σ H Q=>∃ a xs,v = .ref a/\aR K H a xs/\xs.length=n/\t xs σ H Q
theorem lI {es:List Expr}{k:Nat}{t:lG}{n:Nat} (hc:X.calm=true) (h:qA X es t)
  (hn:(assignEach es X.env).length=n:=by rfl) (hst:(assignEach es X.env).findIdx? (·.1)=none:=by rfl):PG X (.Tuple es k pos) (jJ X.K n t):=by
 intro pins s σ H v u Q I r hw
 obtain ⟨a,xs,e1,hq,hl,hw⟩:=hw
 subst e1
 cases r
 obtain ⟨its,rv,ht,hz⟩:=I.tuple hq
 refine assign_Tuple_tuple (I.ok.hd hc) ht (by simp [hn,<- hl,rv.length]) hst fun h' hx=>?_
 have I1:a8 X pins σ H { s with heap:=h' }:=I.kept (t':=s.toks) fun b o e=>hx b o (bg0 (bd5 e)) e
 exact h pins _ σ H xs _ Q I1 (by simpa using rv) hw
noncomputable def tX (to ti:TE) (t:tW):TG:=fun v σ H Q=>to σ H fun o H1=>ti σ H1 fun i H2=>t o i v H2 fun H3=>Q σ H3
theorem aj2 {o i:Expr}{to ti:TE}{t:tW} (ho:PE X o to) (hi:PE X i ti) (hs:zM X t)
  (ha:∀ v,assign (.Subscript o i pos) X.env v=(do
   let ov <- holding [v] (eval o X.env)
   let iv <- holding [v,ov] (eval i X.env)
   standAt pos
   holding [v,ov,iv] (setItem ov iv v)
   release [v,ov,iv] []):=by intro _; rfl):PG X (.Subscript o i pos) (tX to ti t):=by
 intro pins s σ H v u Q I r h
 rw [ha]
 refine bb5 (bm2 (aQ (ho pins s σ H _ I h) fun ov s1 ⟨x,H1,I1,r1,q1⟩=>?_))
 refine bb5 (bm2 (aQ (hi pins s1 σ H1 _ I1 q1) fun iv s2 ⟨y,H2,I2,r2,q2⟩=>?_))
 refine bb5 (wpAny_standAt (bb5 (bm2 (aQ (hs pins s2 σ H2 x y v ov iv u _ I2 r1 r2 r q2) fun _ s3 ⟨H3,I3,q3⟩=>?_))))
 exact wpAny_release ⟨σ,H3,I3,q3⟩
noncomputable def jK (te:TE) (g:TG):TS:=fun D σ H=>te σ H fun x H1=>g x σ H1 D.nx
theorem zN {tg e:Expr}{te:TE}{g:TG} (he:PE X e te) (hg:PG X tg g) (hs:swapsWithSole [tg] e pos.line X.env=pure false:=by rfl) (hw:swappedStores [tg] e X.env=pure none:=by rfl)
  (h1:(assignEach [tg] X.env).map (·.2) = [assign tg X.env]:=by rfl):PS X (.Assign [tg] e pos) (jK te g):=by
 intro pins s σ H D I h
 refine wpAny_Assign_stores (aQ (he pins s σ H _ I h) fun v s1 ⟨x,H1,I1,r1,q1⟩=>?_) hs hw
 rw [h1]
 exact aQ (hg pins s1 σ H1 x v _ I1 r1 q1) fun _ s2 q=>q
theorem tY {i:Nat}{x:Str}{e:Expr}{te:TE}{pos':Pos} (hN:X.N.Nodup) (hi:X.N[i]? = some x) (hx:gX X.env.scope x) (he:PE X e te) (hs:swapsWith e (some (.Name x pos')) pos.line X.env=pure false:=by rfl) (hf:X.fn x=true ∨ X.env.scope.names.lookup x=some .local:=by first | exact .inl rfl | exact .inr rfl | assumption) :
  PS X (.Assign [.Name x pos'] e pos) (jK te (cG i)):=by
 intro pins s σ H D I h
 refine wpAny_Assign_Name (aQ (he pins s σ H _ I h) fun v s1 ⟨y,H1,I1,r1,q1⟩=>?_) hs
 exact pY I1 hN hi hx r1 (fun s2 I2=>⟨_,H1,I2,q1⟩) hf
end
section
variable {X : Cx} {pos : Pos}
noncomputable def zO (c:TT) (tb:TS):TS:=fun D σ H=>∃ W:Nat->St->Hp->Prop,(∃ m,W m σ H)/\∀ m σ H,W m σ H->
 c σ H fun b H1=>if b=true then ∃ N:St->Hp->Prop,(∀ σ' H',N σ' H'->∃ m',m' < m/\W m' σ' H')/\tb { D with nx:=N,ct:=N,bk:=D.nx } σ H1 else D.nx σ H1
theorem aj3 {c:Expr}{body:List Stmt}{tc:TT}{tb:TS} (hp:PassesOwn (model X.prog X.w) X.A X.env X.xe) (hc:PT X c tc) (hb:e8 X body tb):PS X (.While c body [] pos) (zO tc tb):=by
 intro pins s σ H D I h
 obtain ⟨W,⟨m0,w0⟩,turn⟩:=h
 refine wpAny_While (codeAny_whileLoop (fun n s'=>∃ σ' H',a8 X pins σ' H' s'/\W n σ' H') ?_ m0 ⟨σ,H,I,w0⟩)
 rintro n s1 ⟨σ1,H1,I1,w1⟩
 refine bp7 hp (aQ (hc pins s1 σ1 H1 _ I1 (turn n σ1 H1 w1)) fun b s2 ⟨H2,I2,q2⟩=>?_)
 cases b with
 | true=>
  obtain ⟨N,hN,q2⟩:=q2
  rw [if_pos rfl]
  refine bp7 hp (aQ (hb pins s2 σ1 H2 _ I2 q2) fun f s3 q3=>?_)
  cases f with
  | next=>
   obtain ⟨σ3,H3,I3,n3⟩:=q3
   obtain ⟨m',hm,w3⟩:=hN σ3 H3 n3
   exact⟨m',hm,σ3,H3,I3,w3⟩
  | cont=>
   obtain ⟨σ3,H3,I3,n3⟩:=q3
   obtain ⟨m',hm,w3⟩:=hN σ3 H3 n3
   exact⟨m',hm,σ3,H3,I3,w3⟩
  | brk=>exact q3
  | ret v=>exact q3
 | false=>
  rw [if_neg bd9]
  exact wpAny_execs_nil ⟨σ1,H2,I2,q2⟩
end
structure It where
 go:Nat->Hp->Prop
 yld:Nat->Hp->V->Hp->Prop
 stop:Nat->Hp->Prop
noncomputable def gY (X:Cx) (pins:List (Addr × Obj)) (H:Hp) (b:Addr):Prop:=
 H b=none/\b ≠ X.env.locals/\b ∉ X.fs/\(b ∈ X.ex ∨ X.s₀.heap.objs.size<=b)/\(∀ x c,X.env.cells.lookup x=some c->c ≠ b)/\∀ p ∈ X.pn ++ pins,p.1 ≠ b
theorem a8.fpOk {X:Cx}{pins:List (Addr × Obj)}{σ:St}{H H':Hp}{s:Shared}{b:Addr} (I:a8 X pins σ H s) (hb:s.heap.objs.size<=b) (hn:H' b=none):gY X pins H' b:=by
 refine⟨hn,bl7 (bd2 I.lt hb),I.nofs hb,.inr (bg5 I.sz hb),fun x c e z=>?_,fun p hp z=>?_⟩
 ·obtain ⟨v,q⟩:=I.cell x c e
  exact absurd (bd2 q.lt (by rw [z]; exact hb)) (bg6 _)
 ·exact absurd (bd2 (bd5 (I.pin p hp).1) (by rw [z]; exact hb)) (bg6 _)
structure jL (P:Program) (w:World) (K:PySem.W.Frag) (tg:Expr) (J:It) (fp:List Addr) (it:Addr) (tn:Nat->Heap->Prop):Prop where
 mem:it ∈ fp
 obj:∀ i h,tn i h->∀ b ∈ fp,∃ o,h.get? b=some o/\∀ v,o.data ≠ .cell v
 keep:∀ i h h',tn i h->(∀ b ∈ fp,∀ o,h.get? b=some o->h'.get? b=some o)->tn i h'
 item:∀ (X:Cx),X.prog=P->X.w=w->X.K=K->X.calm=true->∀ (i:Nat) (pins:List (Addr × Obj)) (s:Shared) (σ:St) (H:Hp) (E:Value->Shared->Prop),a8 X pins σ H s->(∀ b ∈ fp,gY X pins H b)->tn i s.heap->J.go i H->
  wpAny (model P w) X.A (pyNext (.ref it)) (fun r s1=>∃ u,r=some u/\
   wpAny (model P w) X.A (letOwnedTupleGo tg (.ref it) u) (fun _ s2=>∃ x H',a8 X pins σ H' s2/\aY x u/\J.yld i H x H'/\tn (i+1) s2.heap/\∀ b ∈ fp,H' b=none) E s1) E s
 done:∀ (X:Cx),X.prog=P->X.w=w->X.K=K->X.calm=true->∀ (i:Nat) (pins:List (Addr × Obj)) (s:Shared) (σ:St) (H:Hp) (E:Value->Shared->Prop),a8 X pins σ H s->(∀ b ∈ fp,gY X pins H b)->tn i s.heap->J.stop i H->
  wpAny (model P w) X.A (pyNext (.ref it)) (fun r s1=>r=none/\a8 X pins σ H s1) E s
 self:∀ (A:Around) (i:Nat) (s:Shared) (Q:Value->Shared->Prop) (E:Value->Shared->Prop),tn i s.heap->Q (.ref it) s->wpAny (model P w) A (pyIter (.ref it)) Q E s
noncomputable abbrev TI:=St->Hp->(It->Hp->Prop)->Prop
noncomputable def zP (X:Cx) (pins:List (Addr × Obj)) (σ:St) (tg:Expr) (R:It->Hp->Prop) (itv:Value) (s2:Shared):Prop:=
 ∃ (it:Addr) (fp:List Addr) (tn:Nat->Heap->Prop) (J:It) (H':Hp),itv = .ref it/\a8 X pins σ H' s2/\jL X.prog X.w X.K tg J fp it tn/\tn 0 s2.heap/\(∀ b ∈ fp,gY X pins H' b)/\R J H'
noncomputable def PI (X:Cx) (tg iter:Expr) (wi:TI):Prop:=
 ∀ (pins:List (Addr × Obj)) (s:Shared) (σ:St) (H:Hp) (R:It->Hp->Prop),a8 X pins σ H s->wi σ H R->
  wpAny (model X.prog X.w) X.A (eval iter X.env) (fun v s1=>wpAny (model X.prog X.w) X.A (pyIter v) (zP X pins σ tg R) X.xe s1) X.xe s
theorem qB {M:Model}{A:Around}{E:Value->Shared->Prop}{s:Shared}{tg:Expr}{it:Addr}{u:Value}{o:Obj}{n:String}{vs:Array Value}{Q:Unit->Shared->Prop} (ho:s.heap.get? it=some o) (hc:o.cls = .type n) (hd:o.data = .fields vs)
    (hn : ["enumerate","zip","dict_itemiterator","dict_reverseitemiterator","odict_iterator","itertools.zip_longest","itertools.pairwise"].contains n=false) (hQ:Q () s):wpAny M A (letOwnedTupleGo tg (.ref it) u) Q E s:=by
  unfold letOwnedTupleGo
  cases tg <;> first
    | exact bc8 hQ
    | (cases u <;> first
        | exact bc8 hQ
        | (refine bb5 (wpAny_load ho ?_)
           rw [hc,hd]
           show wpAny M A (if (["enumerate","zip","dict_itemiterator","dict_reverseitemiterator","odict_iterator","itertools.zip_longest","itertools.pairwise"].contains n && vs[0]? == some (rawInt _))=true then _ else _) Q E s
           rw [if_neg (by intro h; rw [hn,Bool.false_and] at h; cases h)]
           exact bc8 hQ))
noncomputable def mF (K:PySem.W.Frag) (a:Addr):It:=
 ⟨fun i H=>∃ xs x,aM K H a xs/\xs[i]? = some x,fun i H x H'=>H'=H/\∀ xs,aM K H a xs->xs[i]? = some x,fun i H=>∃ xs,aM K H a xs/\xs.length<=i⟩
noncomputable def kF (K:PySem.W.Frag) (a:Addr):It:=
 ⟨fun i H=>∃ xs x,aR K H a xs/\xs[i]? = some x,fun i H x H'=>H'=H/\∀ xs,aR K H a xs->xs[i]? = some x,fun i H=>∃ xs,aR K H a xs/\xs.length<=i⟩
noncomputable def nX (lo:Int) (n:Nat):It:=⟨fun i _=>i < n,fun i H x H'=>H'=H/\x = .int (lo+i),fun i _=>n<=i⟩
theorem aj4 {P:Program}{w:World}{K:PySem.W.Frag}{tg:Expr} (a it:Addr):jL P w K tg (mF K a) [it] it (fun i h=>h.IsListIter it a i) where
 mem:=by simp
 obj:=fun i h st b hb=>by
  have e:b=it:=by simpa using hb
  subst e
  obtain ⟨o,e,c,d⟩:=st
  exact⟨o,e,fun v z=>by rw [d] at z; cases z⟩
 keep:=fun i h h' st k=>st.at fun o e=>k it (by simp) o e
 item:=by
  intro X hP hw hK hc i pins s σ H E I hf st hg
  subst hP hw hK
  obtain ⟨xs,x,hq,hx⟩:=hg
  obtain ⟨its,rv,p,hz⟩:=I.list hq
  obtain ⟨u,hu,ru⟩:=rv.get hx
  obtain ⟨f0,f1,f2,f3,f4,f5⟩:=hf it (by simp)
  refine wpAny_pyNext_list_item st p.isList (x:=u) (by simpa using hu) fun h' st' sb=>?_
  have I1:a8 X pins σ H { s with heap:=h' }:=I.turned (t':=s.toks) (fun b o hb e=>(sb.2 b hb).trans e) f0 f1 f3 f4 f5
  obtain ⟨o,e,c,d⟩:=id st'
  exact⟨u,rfl,qB (s:={ s with heap:=h' }) e c d (by decide) ⟨x,H,I1,ru,⟨rfl,fun ys hy=>by rw [I.list_inj hy hq]; exact hx⟩,st',fun b hb=>(hf b hb).1⟩⟩
 done:=by
  intro X hP hw hK hc i pins s σ H E I hf st hg
  subst hP hw hK
  obtain ⟨xs,hq,hx⟩:=hg
  obtain ⟨its,rv,p,hz⟩:=I.list hq
  obtain ⟨f0,f1,f2,f3,f4,f5⟩:=hf it (by simp)
  have hl:=rv.length
  exact wpAny_pyNext_list_end (I.ok.hd hc) st p.isList (by simp; omega) fun h' eb=>⟨rfl,I.turned (t':=s.toks) (fun b o hb e=>eb b o hb e) f0 f1 f3 f4 f5⟩
 self:=fun _ _ _ _ _ st h=>wpAny_pyIter_listiter st h
theorem zQ {P:Program}{w:World}{K:PySem.W.Frag}{tg:Expr} (a it:Addr):jL P w K tg (kF K a) [it] it (fun i h=>h.IsTupleIter it a i) where
 mem:=by simp
 obj:=fun i h st b hb=>by
  have e:b=it:=by simpa using hb
  subst e
  obtain ⟨o,e,c,d⟩:=st
  exact⟨o,e,fun v z=>by rw [d] at z; cases z⟩
 keep:=fun i h h' st k=>st.at fun o e=>k it (by simp) o e
 item:=by
  intro X hP hw hK hc i pins s σ H E I hf st hg
  subst hP hw hK
  obtain ⟨xs,x,hq,hx⟩:=hg
  obtain ⟨its,rv,p,hz⟩:=I.tuple hq
  obtain ⟨u,hu,ru⟩:=rv.get hx
  obtain ⟨f0,f1,f2,f3,f4,f5⟩:=hf it (by simp)
  refine wpAny_pyNext_tuple_item st (show s.heap.IsTuple a its.toArray from p) (x:=u) (by simpa using hu) fun h' st' sb=>?_
  have I1:a8 X pins σ H { s with heap:=h' }:=I.turned (t':=s.toks) (fun b o hb e=>(sb.2 b hb).trans e) f0 f1 f3 f4 f5
  obtain ⟨o,e,c,d⟩:=id st'
  exact⟨u,rfl,qB (s:={ s with heap:=h' }) e c d (by decide) ⟨x,H,I1,ru,⟨rfl,fun ys hy=>by rw [I.tuple_inj hy hq]; exact hx⟩,st',fun b hb=>(hf b hb).1⟩⟩
 done:=by
  intro X hP hw hK hc i pins s σ H E I hf st hg
  subst hP hw hK
  obtain ⟨xs,hq,hx⟩:=hg
  obtain ⟨its,rv,p,hz⟩:=I.tuple hq
  obtain ⟨f0,f1,f2,f3,f4,f5⟩:=hf it (by simp)
  have hl:=rv.length
  exact wpAny_pyNext_tuple_end (I.ok.hd hc) st (show s.heap.IsTuple a its.toArray from p) (by simp; omega) fun h' eb=>⟨rfl,I.turned (t':=s.toks) (fun b o hb e=>eb b o hb e) f0 f1 f3 f4 f5⟩
 self:=fun _ _ _ _ _ st h=>wpAny_pyIter_tupleiter st h
theorem aj5 {P:Program}{w:World}{K:PySem.W.Frag}{tg:Expr} (it:Addr) (lo:Int) (n:Nat):jL P w K tg (nX lo n) [it] it (fun i h=>IsRangeIter h it (lo+(i:Nat) * 1) ((n:Int) - (i:Nat)) 1) where
 mem:=by simp
 obj:=fun i h st b hb=>by
  have e:b=it:=by simpa using hb
  subst e
  exact⟨_,st,fun v z=>by
   have z':Data.fields _=Data.cell v:=z
   cases z'⟩
 keep:=fun i h h' st k=>k it (by simp) _ st
 item:=by
  intro X hP hw hK hc i pins s σ H E I hf st hg
  subst hP hw hK
  obtain ⟨f0,f1,f2,f3,f4,f5⟩:=hf it (by simp)
  have W:=Walks.range (prog:=X.prog) (w:=X.w) (I.ok.hd hc) it lo 1 n
  refine W.item i s _ _ hg st fun v h' tk hv st' kk=>?_
  obtain ⟨t,rfl⟩:=hv
  have I1:a8 X pins σ H { s with heap:=h',toks:=tk }:=I.turned (fun b o hb e=>kk b o (by simpa using hb) e) f0 f1 f3 f4 f5
  refine⟨_,rfl,qB (s:={ s with heap:=h',toks:=tk }) (n:="range_iterator") st' rfl rfl (by decide) ⟨.int (lo+i),H,I1,⟨t,?_⟩,⟨rfl,rfl⟩,st',fun b hb=>(hf b hb).1⟩⟩
  rw [Int.mul_one]
 done:=by
  intro X hP hw hK hc i pins s σ H E I hf st hg
  subst hP hw hK
  obtain ⟨f0,f1,f2,f3,f4,f5⟩:=hf it (by simp)
  exact wpAny_pyNext_range_end (I.ok.hd hc) st (by have:n<=i:=hg; omega) fun h' eb=>⟨rfl,I.turned (t':=s.toks) (fun b o hb e=>eb b o hb e) f0 f1 f3 f4 f5⟩
 self:=fun _ _ _ _ _ st h=>wpAny_pyIter_rangeiter st h
section
variable {X : Cx} {tg : Expr}
noncomputable def aj6 (K:PySem.W.Frag) (tl:TE):TI:=fun σ H R=>tl σ H fun x H1=>∃ a,x = .ref a/\(∃ xs,aR K H1 a xs)/\R (kF K a) H1
theorem qD {l:Expr}{tl:TE} (hl:PE X l tl):PI X tg l (aj6 X.K tl):=by
 intro pins s σ H R I h
 refine aQ (hl pins s σ H _ I h) fun v s1 ⟨x,H1,I1,r1,q1⟩=>?_
 obtain ⟨a,e,⟨xs,hq⟩,q⟩:=q1
 subst e
 cases r1
 obtain ⟨its,rv,p,hz⟩:=I1.tuple hq
 refine wpAny_pyIter_tuple (show s1.heap.IsTuple a its.toArray from p) ?_
 refine⟨s1.heap.objs.size,[s1.heap.objs.size],_,_,H1,rfl,I1.kept (t':=s1.toks) fun b o e=>bb7 _ e,zQ a _,⟨_,be1 _ rfl,rfl,rfl⟩,fun b hb=>?_,q⟩
 have e:b=s1.heap.objs.size:=by simpa using hb
 subst e
 exact I1.fpOk (bc5 _) (I1.hok.fresh (bc5 _))
theorem zR {pins:List (Addr × Obj)}{σ:St}{H:Hp}{s:Shared}{R:It->Hp->Prop}{E:Value->Shared->Prop}{lo hi:Int}{t u v:Tok}{tk:Nat} (I:a8 X pins σ H s) (h1 : -(2 ^ 62)<=lo) (h2:lo < 2 ^ 62) (h3 : -(2 ^ 62)<=hi) (h4:hi < 2 ^ 62)
  (q:R (nX lo (hi - lo).toNat) H):wpAny (model X.prog X.w) X.A (pyIter (.ref s.heap.objs.size)) (zP X pins σ tg R) E { s with heap:=s.heap.push { cls:=.type "range",data:=.fields #[.int lo t,.int hi u,.int 1 v] },toks:=tk }:=by
 refine wpAny_pyIter_range (IsRange.new ..) (small_one h1 h2 h3 h4) ?_
 have I1:a8 X pins σ H { s with heap:=s.heap.push { cls:=.type "range",data:=.fields #[.int lo t,.int hi u,.int 1 v] },toks:=tk }:=I.kept fun b o e=>bb7 _ e
 refine⟨(s.heap.push { cls:=.type "range",data:=.fields #[.int lo t,.int hi u,.int 1 v] }).objs.size,[(s.heap.push { cls:=.type "range",data:=.fields #[.int lo t,.int hi u,.int 1 v] }).objs.size],_,_,H,rfl,
  I1.kept (t':=tk) fun b o e=>bb7 _ e,aj5 _ lo (hi - lo).toNat,?_,fun b hb=>?_,q⟩
 ·have e1:lo+((0:Nat):Int) * 1=lo:=by simp
  have e2:(((hi - lo).toNat:Nat):Int) - ((0:Nat):Int)=Builtin.Range.rangeSize lo hi 1:=by rw [rangeSize_one]; split <;> omega
  show IsRangeIter _ _ (lo+((0:Nat):Int) * 1) ((((hi - lo).toNat:Nat):Int) - ((0:Nat):Int)) 1
  rw [e1,e2]
  exact be1 _ rfl
 ·have e:b=(s.heap.push { cls:=.type "range",data:=.fields #[.int lo t,.int hi u,.int 1 v] }).objs.size:=by simpa using hb
  subst e
  exact I1.fpOk (bc5 _) (I1.hok.fresh (bc5 _))
noncomputable def zT (ta:TA):TI:=fun σ H R=>ta σ H fun vs H1=>∃ j:Int,vs = [.int j]/\-(2 ^ 62)<=j/\j < 2 ^ 62/\R (nX 0 j.toNat) H1
noncomputable def zU (ta:TA):TI:=fun σ H R=>ta σ H fun vs H1=>∃ i j:Int,vs = [.int i,.int j]/\(-(2 ^ 62)<=i/\i < 2 ^ 62/\-(2 ^ 62)<=j/\j < 2 ^ 62)/\R (nX i (j - i).toNat) H1
theorem aj7 {a:Expr}{ta:TA}{p pos:Pos} (hg:Gl X "range") (hm:X.mg "range" = none) (ha:PA X [a] ta) (hs:starEach [a] X.env = [(false,eval a X.env)]:=by rfl):PI X tg (.Call (.Name "range" p) [a] [] pos) (zT ta):=by
 intro pins s σ H R I h
 refine Call_ (jH I hg hm boot_range (bi3 (aQ (ha pos pins s σ H _ I h) fun us s1 ⟨vs,H1,I1,r1,q1⟩=>?_) hs rfl))
 obtain ⟨j,e,q1,q2,q⟩:=q1
 subst e
 cases r1 with
 | cons r rr=>
  cases rr
  obtain ⟨t,rfl⟩:=r
  exact call_range_1 (zR I1 (by omega) (by omega) q1 q2 (by simpa using q))
theorem aj8 {a b:Expr}{ta:TA}{p pos:Pos} (hg:Gl X "range") (hm:X.mg "range" = none) (ha:PA X [a,b] ta) (hs:starEach [a,b] X.env = [(false,eval a X.env),(false,eval b X.env)]:=by rfl) (hs2:starEach [b] X.env = [(false,eval b X.env)]:=by rfl) :
  PI X tg (.Call (.Name "range" p) [a,b] [] pos) (zU ta):=by
 intro pins s σ H R I h
 refine Call_ (jH I hg hm boot_range (bi3 (aQ (ha pos pins s σ H _ I h) fun us s1 ⟨vs,H1,I1,r1,q1⟩=>?_) (by rw [hs,hs2]) (by rw [hs2]; rfl)))
 obtain ⟨i,j,e,⟨q1,q2,q3,q4⟩,q⟩:=q1
 subst e
 cases r1 with
 | cons r rr=>
  cases rr with
  | cons r' rr=>
   cases rr
   obtain ⟨t,rfl⟩:=r
   obtain ⟨t',rfl⟩:=r'
   exact call_range_2 (zR I1 q1 q2 q3 q4 q)
noncomputable def zV (wi:TI) (g:TG) (tb:TS):TS:=fun D σ H=>wi σ H fun J H1=>∃ W:Nat->Nat->St->Hp->Prop,(∃ m,W 0 m σ H1)/\∀ i m σ H,W i m σ H->
 (J.stop i H/\D.nx σ H) ∨ (J.go i H/\∃ N:St->Hp->Prop,(∀ σ' H',N σ' H'->∃ m',m' < m/\W (i+1) m' σ' H')/\∀ x H',J.yld i H x H'->g x σ H' fun σ2 H2=>tb { D with nx:=N,ct:=N,bk:=D.nx } σ2 H2)
noncomputable def nY (fp:List Addr) (h:Heap):List (Addr × Obj):=fp.filterMap fun b=>(h.get? b).map fun o=>(b,o)
theorem qE {fp:List Addr}{h:Heap}{b:Addr}{o:Obj} (hb:b ∈ fp) (e:h.get? b=some o):(b,o) ∈ nY fp h:=bp3.mpr ⟨b,hb,by rw [e]; rfl⟩
theorem aj9 {fp:List Addr}{h:Heap}{p:Addr × Obj} (hp:p ∈ nY fp h):p.1 ∈ fp/\h.get? p.1=some p.2:=by
 obtain ⟨b,hb,e⟩:=bp3.mp hp
 cases q:h.get? b with
 | none=>rw [q] at e; cases e
 | some o=>
  rw [q] at e
  have e':(b,o)=p:=be3 e
  subst e'
  exact⟨hb,q⟩
theorem a8.pinned {pins:List (Addr × Obj)}{σ:St}{H:Hp}{s:Shared}{fp:List Addr} (I:a8 X pins σ H s) (hf:∀ b ∈ fp,gY X pins H b) (ho:∀ b ∈ fp,∃ o,s.heap.get? b=some o/\∀ v,o.data ≠ .cell v):a8 X (pins ++ nY fp s.heap) σ H s:=
 I.pins_of fun p hp=>(bc9.mp hp).elim (fun z=>I.pin p (bf2 _ z)) fun z=>by
  obtain ⟨hb,e⟩:=aj9 z
  obtain ⟨f0,f1,f2,_⟩:=hf p.1 hb
  obtain ⟨o,e',d⟩:=ho p.1 hb
  rw [e] at e'; cases e'
  exact⟨e,f0,f1,f2,d⟩
theorem a8.unpinned {pins pl:List (Addr × Obj)}{σ:St}{H:Hp}{s:Shared} (I:a8 X (pins ++ pl) σ H s):a8 X pins σ H s:=I.pins_of fun p hp=>I.pin p (bf2 _ (bf7 _ hp))
theorem tZ {iter:Expr}{body:List Stmt}{wi:TI}{g:TG}{tb:TS}{pos:Pos} (hp:PassesOwn (model X.prog X.w) X.A X.env X.xe) (hc:X.calm=true) (hi:PI X tg iter wi) (hg:PG X tg g) (hb:e8 X body tb)
  (hs:∀ x,foldedSetIterable iter X.env x=pure x:=by intro _; rfl):PS X (.For tg iter body [] pos) (zV wi g tb):=by
 intro pins s σ H D I h
 refine wpAny_For (aQ (hi pins s σ H _ I h) fun v s1 h1=>aQ h1 fun itv s2 h2=>?_) hs
 obtain ⟨it,fp,tn,J,H2,e,I2,T,st2,f2,W,⟨m0,w0⟩,turn⟩:=h2
 subst e
 have stat:∀ {H':Hp},(∀ b ∈ fp,H' b=none)->∀ b ∈ fp,gY X pins H' b:=fun hn b hb=>⟨hn b hb,(f2 b hb).2⟩
 refine codeAny_forLoop_any (fun n s'=>∃ i σ' H',a8 X pins σ' H' s'/\tn i s'.heap/\(∀ b ∈ fp,H' b=none)/\W i n σ' H') ?_ m0 ⟨0,σ,H2,I2,st2,fun b hb=>(f2 b hb).1,w0⟩
 rintro n s3 ⟨i,σ3,H3,I3,st3,fr3,w3⟩
 rcases turn i n σ3 H3 w3 with ⟨stop,qn⟩ | ⟨go,N,hN,step⟩
 ·refine bp7 hp (aQ (T.done X rfl rfl rfl hc i pins s3 σ3 H3 X.xe I3 (stat fr3) st3 stop) fun r s4 ⟨hr,I4⟩=>?_)
  subst hr
  exact wpAny_execs_nil ⟨σ3,H3,I4,qn⟩
 ·refine bp7 hp (aQ (T.item X rfl rfl rfl hc i pins s3 σ3 H3 X.xe I3 (stat fr3) st3 go) fun r s4 ⟨u,hr,h4⟩=>?_)
  subst hr
  refine bp7 hp (aQ h4 fun _ s5 ⟨x,H5,I5,r5,y5,st5,fr5⟩=>?_)
  have I5':=I5.pinned (stat fr5) (T.obj _ _ st5)
  refine bp7 hp (aQ (hg _ s5 σ3 H5 x u _ I5' r5 (step x H5 y5)) fun _ s6 ⟨σ6,H6,I6,q6⟩=>?_)
  refine bp7 hp (aQ (hb _ s6 σ6 H6 _ I6 q6) fun f s7 q7=>?_)
  have again:∀ {σ7:St}{H7:Hp},a8 X (pins ++ nY fp s5.heap) σ7 H7 s7->N σ7 H7->∃ m,m < n/\∃ i σ' H',a8 X pins σ' H' s7/\tn i s7.heap/\(∀ b ∈ fp,H' b=none)/\W i m σ' H':=fun {σ7 H7} I7 n7=>by
   obtain ⟨m',hm,w7⟩:=hN σ7 H7 n7
   refine⟨m',hm,i+1,σ7,H7,I7.unpinned,T.keep _ _ _ st5 fun b hb o e=>(I7.pin (b,o) (bf2 _ (bf2 _ (qE hb e)))).1,fun b hb=>?_,w7⟩
   obtain ⟨o,e,d⟩:=T.obj _ _ st5 b hb
   exact (I7.pin (b,o) (bf2 _ (bf2 _ (qE hb e)))).2.1
  cases f with
  | next=>obtain ⟨σ7,H7,I7,n7⟩:=q7; exact again I7 n7
  | cont=>obtain ⟨σ7,H7,I7,n7⟩:=q7; exact again I7 n7
  | brk=>obtain ⟨σ7,H7,I7,q7⟩:=q7; exact⟨σ7,H7,I7.unpinned,q7⟩
  | ret v=>obtain ⟨x7,σ7,H7,I7,r7,q7⟩:=q7; exact⟨x7,σ7,H7,I7.unpinned,r7,q7⟩
end
theorem ba8 {K:PySem.W.Frag}{a:Addr}{xs:List V}{g:TG}{tb:TS}{D:dH}{σ:St}{H:Hp} (Pv:Nat->St->Hp->Prop) (h0:Pv 0 σ H) (hl:∀ i σ H,i<=xs.length->Pv i σ H->aM K H a xs)
  (hs:∀ i x σ H,xs[i]? = some x->Pv i σ H->g x σ H fun σ2 H2=>tb { D with nx:=Pv (i+1),ct:=Pv (i+1),bk:=D.nx } σ2 H2) (hd:∀ σ H,Pv xs.length σ H->D.nx σ H) :
  ∃ W:Nat->Nat->St->Hp->Prop,(∃ m,W 0 m σ H)/\∀ i m σ H,W i m σ H->
   ((mF K a).stop i H/\D.nx σ H) ∨ ((mF K a).go i H/\∃ N:St->Hp->Prop,(∀ σ' H',N σ' H'->∃ m',m' < m/\W (i+1) m' σ' H')/\∀ x H',(mF K a).yld i H x H'->g x σ H' fun σ2 H2=>tb { D with nx:=N,ct:=N,bk:=D.nx } σ2 H2):=by
 refine⟨fun i m σ H=>m=xs.length - i/\i<=xs.length/\Pv i σ H,⟨xs.length,by simp,bg8 _,h0⟩,?_⟩
 rintro i m σ H ⟨rfl,hi,p⟩
 have q:=hl i σ H hi p
 by_cases hlt:i < xs.length
 ·refine .inr ⟨⟨xs,xs[i],q,by simp [hlt]⟩,Pv (i+1),fun σ' H' p'=>⟨xs.length - (i+1),by omega,rfl,hlt,p'⟩,fun x H' y=>?_⟩
  obtain ⟨e,y⟩:=y
  subst e
  exact hs i x σ _ (y xs q) p
 ·have e:i=xs.length:=by omega
  subst e
  exact .inl ⟨⟨xs,q,bc5 _⟩,hd σ H p⟩
theorem zW {K:PySem.W.Frag}{a:Addr}{xs:List V}{g:TG}{tb:TS}{D:dH}{σ:St}{H:Hp} (Pv:Nat->St->Hp->Prop) (h0:Pv 0 σ H) (hl:∀ i σ H,i<=xs.length->Pv i σ H->aR K H a xs)
  (hs:∀ i x σ H,xs[i]? = some x->Pv i σ H->g x σ H fun σ2 H2=>tb { D with nx:=Pv (i+1),ct:=Pv (i+1),bk:=D.nx } σ2 H2) (hd:∀ σ H,Pv xs.length σ H->D.nx σ H) :
  ∃ W:Nat->Nat->St->Hp->Prop,(∃ m,W 0 m σ H)/\∀ i m σ H,W i m σ H->
   ((kF K a).stop i H/\D.nx σ H) ∨ ((kF K a).go i H/\∃ N:St->Hp->Prop,(∀ σ' H',N σ' H'->∃ m',m' < m/\W (i+1) m' σ' H')/\∀ x H',(kF K a).yld i H x H'->g x σ H' fun σ2 H2=>tb { D with nx:=N,ct:=N,bk:=D.nx } σ2 H2):=by
 refine⟨fun i m σ H=>m=xs.length - i/\i<=xs.length/\Pv i σ H,⟨xs.length,by simp,bg8 _,h0⟩,?_⟩
 rintro i m σ H ⟨rfl,hi,p⟩
 have q:=hl i σ H hi p
 by_cases hlt:i < xs.length
 ·refine .inr ⟨⟨xs,xs[i],q,by simp [hlt]⟩,Pv (i+1),fun σ' H' p'=>⟨xs.length - (i+1),by omega,rfl,hlt,p'⟩,fun x H' y=>?_⟩
  obtain ⟨e,y⟩:=y
  subst e
  exact hs i x σ _ (y xs q) p
 ·have e:i=xs.length:=by omega
  subst e
  exact .inl ⟨⟨xs,q,bc5 _⟩,hd σ H p⟩
noncomputable abbrev R2:=V->V->Hp->VK->Prop
noncomputable def cQ (X:Cx) (f:Value->Value->Sem Value) (r:R2):Prop:=
 ∀ (pins:List (Addr × Obj)) (s:Shared) (σ:St) (H:Hp) (x y:V) (v u:Value) (Q:VK),a8 X pins σ H s->aY x v->aY y u->r x y H Q->
  wpAny (model X.prog X.w) X.A (f v u) (EP X pins σ Q) X.xe s
noncomputable def u0 (X:Cx) (f:Value->Sem Value) (r:V->Hp->VK->Prop):Prop:=
 ∀ (pins:List (Addr × Obj)) (s:Shared) (σ:St) (H:Hp) (x:V) (v:Value) (Q:VK),a8 X pins σ H s->aY x v->r x H Q->
  wpAny (model X.prog X.w) X.A (f v) (EP X pins σ Q) X.xe s
noncomputable def cX (X:Cx) (f:Value) (r:List V->Hp->VK->Prop):Prop:=
 ∀ (pins:List (Addr × Obj)) (s:Shared) (σ:St) (H:Hp) (xs:List V) (us:List Value) (Q:VK),a8 X pins σ H s->aN xs us->r xs H Q->
  wpAny (model X.prog X.w) X.A (call f us) (EP X pins σ Q) X.xe s
noncomputable def ak0 (X:Cx) (r:V->Hp->(Bool->Hp->Prop)->Prop):Prop:=
 ∀ (pins:List (Addr × Obj)) (s:Shared) (σ:St) (H:Hp) (x:V) (v:Value) (Q:Bool->Hp->Prop),a8 X pins σ H s->aY x v->r x H Q->
  wpAny (model X.prog X.w) X.A (truthy v) (TP X pins σ Q) X.xe s
noncomputable def nZ (r:R2) (ta tb:TE):TE:=fun σ H Q=>ta σ H fun x H1=>tb σ H1 fun y H2=>r x y H2 Q
noncomputable def tUn (r:V->Hp->VK->Prop) (ta:TE):TE:=fun σ H Q=>ta σ H fun x H1=>r x H1 Q
noncomputable def rI (C:Int->Int->Prop) (g:Int->Int->V):R2:=fun x y H Q=>∃ i j,x = .int i/\y = .int j/\C i j/\Q (g i j) H
noncomputable def iR (g:Int->Int->V):R2:=fun x y H Q=>∃ i j,x = .int i/\y = .int j/\Q (g i j) H
noncomputable def rU (g:Int->V):V->Hp->VK->Prop:=fun x H Q=>∃ i,x = .int i/\Q (g i) H
section
variable {X : Cx} {a b c : Expr} {ta tb tc : TE} {pos : Pos}
theorem u3 (ha:PE X a ta) (hb:PE X b tb) {pins:List (Addr × Obj)}{s:Shared}{σ:St}{H:Hp}{R:V->V->Hp->Prop} (I:a8 X pins σ H s)
  (h:ta σ H fun x H1=>tb σ H1 fun y H2=>R x y H2) {Q:Value->Shared->Prop}{f:Value->Value->Sem Value}
  (hf:∀ v u s2 x y H2,a8 X pins σ H2 s2->aY x v->aY y u->R x y H2->wpAny (model X.prog X.w) X.A (f v u) Q X.xe s2) :
  wpAny (model X.prog X.w) X.A (eval a X.env) (fun v s₁=>wpAny (model X.prog X.w) X.A (eval b X.env) (fun u s₂=>wpAny (model X.prog X.w) X.A (f v u) Q X.xe s₂) X.xe s₁) X.xe s:=by
 refine aQ (ha pins s σ H _ I h) fun v s1 ⟨x,H1,I1,r1,q1⟩=>?_
 refine aQ (hb pins s1 σ H1 _ I1 q1) fun u s2 ⟨y,H2,I2,r2,q2⟩=>?_
 exact hf v u s2 x y H2 I2 r1 r2 q2
theorem ak1 {op:Operator}{r:R2} (ho:cQ X (binaryOp op) r) (ha:PE X a ta) (hb:PE X b tb):PE X (.BinOp a op b pos) (nZ r ta tb):=by
 intro pins s σ H Q I h
 exact wpAny_BinOp (u3 ha hb I h fun v u s2 x y H2 I2 rx ry q=>ho pins s2 σ H2 x y v u Q I2 rx ry q)
theorem ak2 {op:UnaryOp}{r:V->Hp->VK->Prop} (ho:u0 X (unaryOp op) r) (ha:PE X a ta):PE X (.UnaryOp op a pos) (tUn r ta):=by
 intro pins s σ H Q I h
 exact UnaryOp_ (aQ (ha pins s σ H _ I h) fun v s1 ⟨x,H1,I1,r1,q1⟩=>ho pins s1 σ H1 x v Q I1 r1 q1)
theorem qF {f:Value->Value->Sem Value}{C:Int->Int->Prop}{g:Int->Int->Int}
  (rule:∀ (i j:Int) (t u:Tok) (s:Shared) (Q:Value->Shared->Prop) (E:Value->Shared->Prop),C i j->Q (.int (g i j) s.toks) { s with toks:=s.toks+1 }->wpAny (model X.prog X.w) X.A (f (.int i t) (.int j u)) Q E s) :
  cQ X f (rI C fun i j=>.int (g i j)):=by
 intro pins s σ H x y v u Q I rx ry h
 obtain ⟨i,j,rfl,rfl,hc,q⟩:=h
 obtain ⟨t,rfl⟩:=rx
 obtain ⟨t',rfl⟩:=ry
 exact rule i j t t' s _ _ hc ⟨.int (g i j),H,I.tok _,⟨_,rfl⟩,q⟩
theorem zX {f:Value->Value->Sem Value}{g:Int->Int->Int}
  (rule:∀ (i j:Int) (t u:Tok) (s:Shared) (Q:Value->Shared->Prop) (E:Value->Shared->Prop),Q (.int (g i j) s.toks) { s with toks:=s.toks+1 }->wpAny (model X.prog X.w) X.A (f (.int i t) (.int j u)) Q E s) :
  cQ X f (iR fun i j=>.int (g i j)):=by
 intro pins s σ H x y v u Q I rx ry h
 obtain ⟨i,j,rfl,rfl,q⟩:=h
 obtain ⟨t,rfl⟩:=rx
 obtain ⟨t',rfl⟩:=ry
 exact rule i j t t' s _ _ ⟨.int (g i j),H,I.tok _,⟨_,rfl⟩,q⟩
theorem qG {f:Value->Value->Sem Value}{g:Int->Int->Bool}
  (rule:∀ (i j:Int) (t u:Tok) (s:Shared) (Q:Value->Shared->Prop) (E:Value->Shared->Prop),Q (.bool (g i j)) s->wpAny (model X.prog X.w) X.A (f (.int i t) (.int j u)) Q E s) :
  cQ X f (iR fun i j=>.bl (g i j)):=by
 intro pins s σ H x y v u Q I rx ry h
 obtain ⟨i,j,rfl,rfl,q⟩:=h
 obtain ⟨t,rfl⟩:=rx
 obtain ⟨t',rfl⟩:=ry
 exact rule i j t t' s _ _ ⟨.bl (g i j),H,I,rfl,q⟩
noncomputable def u4 (i j:Int):Prop:=0 < j/\j < 1073741824
noncomputable def u5 (i j:Int):Prop:=0<=j/\j<=1000000/\i.natAbs < 2 ^ 64
noncomputable def o0 (i j:Int):Prop:=(-(2 ^ 64) < i/\i < 2 ^ 64) ∨ (-(2 ^ 64) < j/\j < 2 ^ 64)
theorem o0.ok {i j:Int} (h:o0 i j):IntMulOk i j:=by
 rcases h with ⟨h1,h2⟩ | ⟨h1,h2⟩
 ·exact .of_left (intBits_le_64 h1 h2)
 ·exact .of_right (intBits_le_64 h1 h2)
theorem ak3:cQ X (binaryOp .Add) (iR fun i j=>.int (i+j)):=zX fun _ _ _ _ _ _ _ q=>add_int q
theorem ak4:cQ X (binaryOp .Sub) (iR fun i j=>.int (i - j)):=zX fun _ _ _ _ _ _ _ q=>sub_int q
theorem ak5:cQ X (binaryOp .Mult) (rI o0 fun i j=>.int (i * j)):=qF fun _ _ _ _ _ _ _ hc q=>mul_int q hc.ok
theorem ak6:cQ X (binaryOp .FloorDiv) (rI u4 fun i j=>.int (i / j)):=qF fun i j _ _ _ _ _ hc q=>by
 have h1:(0:Int) < j:=hc.1
 have h2:j < 1073741824:=hc.2
 exact floordiv_int (by omega) (by rw [Int.fdiv_eq_ediv_of_nonneg i (by omega)]; exact q) (.inl (PyProof.noPylong_small (by omega)))
theorem ak7:cQ X (binaryOp .Mod) (rI (fun _ j=>0 < j) fun i j=>.int (i % j)):=qF fun i j _ _ _ _ _ hc q=>by
 have h1:(0:Int) < j:=hc
 exact mod_int' (by omega) (by rw [Int.fmod_eq_emod_of_nonneg i (by omega)]; exact q)
theorem ak8:cQ X (binaryOp .Pow) (rI u5 fun i j=>.int (i ^ j.toNat)):=qF fun _ _ _ _ _ _ _ hc q=>pow_int_small hc.1 hc.2.1 hc.2.2 q
theorem unI {f:Value->Sem Value}{g:Int->Int}
  (rule:∀ (i:Int) (t:Tok) (s:Shared) (Q:Value->Shared->Prop) (E:Value->Shared->Prop),Q (.int (g i) s.toks) { s with toks:=s.toks+1 }->wpAny (model X.prog X.w) X.A (f (.int i t)) Q E s) :
  u0 X f (rU fun i=>.int (g i)):=by
 intro pins s σ H x v Q I rx h
 obtain ⟨i,rfl,q⟩:=h
 obtain ⟨t,rfl⟩:=rx
 exact rule i t s _ _ ⟨.int (g i),H,I.tok _,⟨_,rfl⟩,q⟩
theorem ak9:u0 X (unaryOp .USub) (rU fun i=>.int (-i)):=unI fun _ _ _ _ _ q=>neg_int q
end
noncomputable def zY:V->V->Bool
 | .non,.non=>true | .non,.int _=>true | .int _,.non=>true | .non,.bl _=>true | .bl _,.non=>true | .non,.str _=>true | .str _,.non=>true
 | .int _,.int _=>true | .bl _,.bl _=>true | .str _,.str _=>true | .byt _,.byt _=>true
 | .int _,.str _=>true | .str _,.int _=>true | .bl _,.str _=>true | .str _,.bl _=>true
 | _,_=>false
noncomputable def u6:R2:=fun x y H Q=>zY x y=true/\Q (.bl (decide (x=y))) H
noncomputable def u7:R2:=fun x y H Q=>zY x y=true/\Q (.bl (!decide (x=y))) H
theorem zZ {i j:Int}:decide (V.int i=V.int j)=(i == j):=by
 rw [bk3]
 simp
theorem A0 {i j:Bool}:decide (V.bl i=V.bl j)=(i == j):=by
 rw [bk3]
 simp
theorem A1 {i j:Str}:decide (V.str i=V.str j)=(i == j):=by
 rw [bk3]
 simp
theorem A2 {i j:Array UInt8}:decide (V.byt i=V.byt j)=(i.toList == j.toList):=by
 rw [bk3]
 cases i
 cases j
 simp
section
variable {X : Cx} {a b c : Expr} {ta tb tc : TE} {pos : Pos}
theorem cC {pins:List (Addr × Obj)}{σ:St}{H:Hp}{s:Shared}{Q:VK}{k k':Bool} (I:a8 X pins σ H s) (q:Q (.bl k) H) (e:k=k'):EP X pins σ Q (.bool k') s:=by
 subst e
 exact⟨.bl k,H,I,rfl,q⟩
theorem u8:cQ X (compareOp .Eq) u6:=by
 intro pins s σ H x y v u Q I rx ry h
 obtain ⟨hs,q⟩:=h
 cases x with
 | non=>
  cases rx
  cases y with
  | non=>cases ry; exact PySem.EqNone.eq_none_none (cC I q (by simp))
  | bl j=>cases ry; exact PySem.EqNone.eq_none_bool (cC I q (by simp))
  | int j=>obtain ⟨t',rfl⟩:=ry; exact PySem.EqNone.eq_none_int (cC I q (by simp))
  | str j=>obtain ⟨t',rfl⟩:=ry; exact PySem.EqNone.eq_none_str (cC I q (by simp))
  | _=>exact absurd (show false=true from hs) bd9
 | bl i=>
  cases rx
  cases y with
  | non=>cases ry; exact PySem.EqNone.eq_bool_none (cC I q (by simp))
  | bl j=>cases ry; exact eq_bool (cC I q A0)
  | str j=>obtain ⟨t',rfl⟩:=ry; exact PySem.EqMixed.eq_bool_str (cC I q (by simp))
  | _=>exact absurd (show false=true from hs) bd9
 | int i=>
  obtain ⟨t,rfl⟩:=rx
  cases y with
  | non=>cases ry; exact PySem.EqNone.eq_int_none (cC I q (by simp))
  | int j=>obtain ⟨t',rfl⟩:=ry; exact eq_int (cC I q zZ)
  | str j=>obtain ⟨t',rfl⟩:=ry; exact PySem.EqMixed.eq_int_str (cC I q (by simp))
  | _=>exact absurd (show false=true from hs) bd9
 | str i=>
  obtain ⟨t,rfl⟩:=rx
  cases y with
  | non=>cases ry; exact PySem.EqNone.eq_str_none (cC I q (by simp))
  | bl j=>cases ry; exact PySem.EqMixed.eq_str_bool (cC I q (by simp))
  | int j=>obtain ⟨t',rfl⟩:=ry; exact PySem.EqMixed.eq_str_int (cC I q (by simp))
  | str j=>obtain ⟨t',rfl⟩:=ry; exact eq_str (cC I q A1)
  | _=>exact absurd (show false=true from hs) bd9
 | byt i=>
  obtain ⟨t,rfl⟩:=rx
  cases y with
  | byt j=>obtain ⟨t',rfl⟩:=ry; exact PySem.W.eq_bytes (cC I q A2)
  | _=>exact absurd (show false=true from hs) bd9
 | _=>cases y <;> exact absurd (show false=true from hs) bd9
theorem A3:cQ X (compareOp .NotEq) u7:=by
 intro pins s σ H x y v u Q I rx ry h
 obtain ⟨hs,q⟩:=h
 cases x with
 | non=>
  cases rx
  cases y with
  | non=>cases ry; exact PySem.EqNone.ne_none_none (cC I q (by simp))
  | bl j=>cases ry; exact PySem.EqNone.ne_none_bool (cC I q (by simp))
  | int j=>obtain ⟨t',rfl⟩:=ry; exact PySem.EqNone.ne_none_int (cC I q (by simp))
  | str j=>obtain ⟨t',rfl⟩:=ry; exact PySem.EqNone.ne_none_str (cC I q (by simp))
  | _=>exact absurd (show false=true from hs) bd9
 | bl i=>
  cases rx
  cases y with
  | non=>cases ry; exact PySem.EqNone.ne_bool_none (cC I q (by simp))
  | bl j=>cases ry; exact ne_bool (cC I q (congrArg not A0))
  | str j=>obtain ⟨t',rfl⟩:=ry; exact PySem.EqMixed.ne_bool_str (cC I q (by simp))
  | _=>exact absurd (show false=true from hs) bd9
 | int i=>
  obtain ⟨t,rfl⟩:=rx
  cases y with
  | non=>cases ry; exact PySem.EqNone.ne_int_none (cC I q (by simp))
  | int j=>obtain ⟨t',rfl⟩:=ry; exact ne_int (cC I q (congrArg not zZ))
  | str j=>obtain ⟨t',rfl⟩:=ry; exact PySem.EqMixed.ne_int_str (cC I q (by simp))
  | _=>exact absurd (show false=true from hs) bd9
 | str i=>
  obtain ⟨t,rfl⟩:=rx
  cases y with
  | non=>cases ry; exact PySem.EqNone.ne_str_none (cC I q (by simp))
  | bl j=>cases ry; exact PySem.EqMixed.ne_str_bool (cC I q (by simp))
  | int j=>obtain ⟨t',rfl⟩:=ry; exact PySem.EqMixed.ne_str_int (cC I q (by simp))
  | str j=>obtain ⟨t',rfl⟩:=ry; exact ne_str (cC I q (congrArg not A1))
  | _=>exact absurd (show false=true from hs) bd9
 | byt i=>
  obtain ⟨t,rfl⟩:=rx
  cases y with
  | byt j=>obtain ⟨t',rfl⟩:=ry; exact PySem.W.ne_bytes (cC I q (congrArg not A2))
  | _=>exact absurd (show false=true from hs) bd9
 | _=>cases y <;> exact absurd (show false=true from hs) bd9
theorem qH:cQ X (compareOp .Lt) (iR fun i j=>.bl (decide (i < j))):=qG fun _ _ _ _ _ _ _ q=>lt_int q
theorem A4:cQ X (compareOp .LtE) (iR fun i j=>.bl (decide (i<=j))):=qG fun _ _ _ _ _ _ _ q=>le_int q
theorem A5:cQ X (compareOp .Gt) (iR fun i j=>.bl (decide (j < i))):=qG fun _ _ _ _ _ _ _ q=>gt_int q
theorem A6:cQ X (compareOp .GtE) (iR fun i j=>.bl (decide (j<=i))):=qG fun _ _ _ _ _ _ _ q=>ge_int q
theorem al0:cQ X (compareOp .Is) (fun x y H Q=>y = .non/\Q (.bl (decide (x = .non))) H):=by
 intro pins s σ H x y v u Q I rx ry h
 obtain ⟨rfl,q⟩:=h
 cases ry
 refine is_none_gen (cC I q ?_)
 cases x <;> first
  | (cases rx; rfl)
  | (obtain ⟨t,rfl⟩:=rx; rfl)
theorem eO (b:Expr) {op:CmpOp} (h:op ≠ .In:=by decide) (h2:op ≠ .NotIn:=by decide):behindInMarks op b=false:=by
 have e1:(op == CmpOp.In)=false:=by cases op <;> first | rfl | exact absurd rfl h
 have e2:(op == CmpOp.NotIn)=false:=by cases op <;> first | rfl | exact absurd rfl h2
 cases b <;> simp [behindInMarks,e1,e2]
theorem u9 {op:CmpOp}{r:R2} (ho:cQ X (compareOp op) r) (ha:PE X a ta) (hb:PE X b tb) (hm:behindInMarks op b=false):PE X (.Compare a [op] [b] pos) (nZ r ta tb):=by
 intro pins s σ H Q I h
 exact wpAny_Compare1 (u3 ha hb I h fun v u s2 x y H2 I2 rx ry q=>ho pins s2 σ H2 x y v u Q I2 rx ry q) hm
noncomputable def al1 (t:TE):TT:=fun σ H Q=>t σ H fun x H'=>∃ k,x = .bl k/\Q k H'
theorem al2 {op:CmpOp}{r:R2} (ho:cQ X (compareOp op) r) (ha:PE X a ta) (hb:PE X b tb) (hm:behindInMarks op b=false):PT X (.Compare a [op] [b] pos) (al1 (nZ r ta tb)):=by
 intro pins s σ H Q I h
 refine wpAny_isTrue_Compare1 (aQ (ha pins s σ H _ I h) fun v s1 ⟨x,H1,I1,r1,q1⟩=>aQ (hb pins s1 σ H1 _ I1 q1) fun u s2 ⟨y,H2,I2,r2,q2⟩=>
  aQ (ho pins s2 σ H2 x y v u _ I2 r1 r2 q2) fun c s3 ⟨z,H3,I3,r3,k,e,q3⟩=>?_) hm
 subst e
 cases r3
 exact bl0 ⟨H3,I3,q3⟩
noncomputable def uA (K:PySem.W.Frag) (x:V) (H:Hp) (k:Bool):Prop:=
 match x with
 | .non=>k=false
 | .bl b=>k=b
 | .int i=>k=(i != 0)
 | .str y=>y.length<=sizeLine/\k=((y.length:Int) != 0)
 | .byt y=>y.size<=sizeLine/\k=((y.size:Int) != 0)
 | .ref p=>(∃ xs,aM K H p xs/\k = !xs.isEmpty) ∨ (∃ xs,aR K H p xs/\k = !xs.isEmpty) ∨ ∃ kvs,H p=some (.dK kvs)/\k = !kvs.isEmpty
 | _=>False
theorem al3 {κ:Type}{kvs:List (κ × V)}{vs:List (κ × Value)} (r:KV kvs vs):(!vs.isEmpty) = !kvs.isEmpty:=by
 cases r <;> rfl
theorem A7 {xs:List V}{its:List Value} (r:aN xs its):(!its.toArray.isEmpty) = !xs.isEmpty:=by
 cases r <;> simp
theorem mG:(sizeLine:Nat) < 2 ^ 63:=by rw [sizeLine_eq]; decide
theorem al4:ak0 X (fun x H Q=>∃ k,uA X.K x H k/\Q k H):=by
 intro pins s σ H x v Q I rx h
 obtain ⟨k,e,q⟩:=h
 have hl:=mG
 have hs:sizeLine=16777216:=sizeLine_eq
 cases x with
 | non=>
  cases rx
  have e':k=false:=e
  subst e'
  exact truthy_none ⟨H,I,q⟩
 | bl b=>
  cases rx
  have e':k=b:=e
  subst e'
  exact bl0 ⟨H,I,q⟩
 | int i=>
  obtain ⟨t,rfl⟩:=rx
  have e':k=(i != 0):=e
  subst e'
  exact PySem.P.truthy_int ⟨H,I,q⟩
 | str y=>
  obtain ⟨t,rfl⟩:=rx
  obtain ⟨hy,e'⟩:y.length<=sizeLine/\k=((y.length:Int) != 0):=e
  subst e'
  exact PySem.P.truthy_str (by omega) ⟨H,I.tok _,q⟩
 | byt y=>
  obtain ⟨t,rfl⟩:=rx
  obtain ⟨hy,e'⟩:y.size<=sizeLine/\k=((y.size:Int) != 0):=e
  subst e'
  exact PySem.W.truthy_bytes (by omega) ⟨H,I.tok _,q⟩
 | ref p=>
  cases rx
  have e':(∃ xs,aM X.K H p xs/\k = !xs.isEmpty) ∨ (∃ xs,aR X.K H p xs/\k = !xs.isEmpty) ∨ ∃ kvs,H p=some (.dK kvs)/\k = !kvs.isEmpty:=e
  rcases e' with ⟨xs,hx,e'⟩ | ⟨xs,hx,e'⟩ | ⟨kvs,hx,e'⟩
  ·subst e'
   obtain ⟨its,r,pl,hz⟩:=I.list hx
   have hlen:=r.length
   exact wpAny_truthy_list pl.isList (by simp only [bb6]; omega) ⟨H,I.tok _,by rw [A7 r]; exact q⟩
  ·subst e'
   obtain ⟨its,r,pl,hz⟩:=I.tuple hx
   have hlen:=r.length
   exact truthy_tuple pl (by simp only [bb6]; omega) ⟨H,I.tok _,by rw [A7 r]; exact q⟩
  ·subst e'
   obtain ⟨hz,hS,vs,r,m⟩:kvs.length<=sizeLine/\(p == sysModules)=false/\∃ vs,KV kvs vs/\s.heap.DictOf (eY X.prog X.w) p vs:=I.hok p _ hx
   have hlen:kvs.length=vs.length:=Paired.length r
   exact wpAny_truthy_dict hS m (by omega) ⟨H,I.tok _,by rw [al3 r]; exact q⟩
 | _=>exact (show False from e).elim
theorem al5 (ha:PE X a ta) (he:∀ whole,isTrue a X.env whole=(do let v <- whole; standAt a.pos; holding [v] (truthy v))) :
  PT X a (fun σ H Q=>ta σ H fun x H'=>∃ k,uA X.K x H' k/\Q k H'):=by
 intro pins s σ H Q I h
 exact isTrue_plain (aQ (ha pins s σ H _ I h) fun v s1 ⟨x,H1,I1,r1,q1⟩=>al4 pins s1 σ H1 x v Q I1 r1 q1) (he _)
theorem gN {x:V}{us:List Value} (r:aN [x] us):∃ u,us = [u]/\aY x u:=by
 cases r with
 | cons r1 r2=>cases r2; exact⟨_,rfl,r1⟩
theorem o4 {x y:V}{us:List Value} (r:aN [x,y] us):∃ u w',us = [u,w']/\aY x u/\aY y w':=by
 cases r with
 | cons r1 r2=>
  cases r2 with
  | cons r3 r4=>cases r4; exact⟨_,_,rfl,r1,r3⟩
theorem al6 (hc:X.calm=true):cX X (.builtin "max") (fun xs H Q=>∃ i j,xs = [.int i,.int j]/\Q (.int (if j > i then j else i)) H):=by
 intro pins s σ H xs us Q I r h
 obtain ⟨i,j,rfl,q⟩:=h
 obtain ⟨u,w',rfl,⟨t,rfl⟩,⟨t',rfl⟩⟩:=o4 r
 refine max_two_ints (I.ok.hd hc) fun h' tk k=>⟨_,H,I.kept k,?_,q⟩
 by_cases hj:j > i
 ·rw [if_pos hj,if_pos hj]; exact⟨_,rfl⟩
 ·rw [if_neg hj,if_neg hj]; exact⟨_,rfl⟩
theorem al7 (hc:X.calm=true):cX X (.builtin "min") (fun xs H Q=>∃ i j,xs = [.int i,.int j]/\Q (.int (if j < i then j else i)) H):=by
 intro pins s σ H xs us Q I r h
 obtain ⟨i,j,rfl,q⟩:=h
 obtain ⟨u,w',rfl,⟨t,rfl⟩,⟨t',rfl⟩⟩:=o4 r
 refine min_two_ints (I.ok.hd hc) fun h' tk k=>⟨_,H,I.kept k,?_,q⟩
 by_cases hj:j < i
 ·rw [if_pos hj,if_pos hj]; exact⟨_,rfl⟩
 ·rw [if_neg hj,if_neg hj]; exact⟨_,rfl⟩
theorem al8:cX X (.type "int") (fun xs H Q=>(∃ i,xs = [.int i]/\Q (.int i) H) ∨ ∃ k,xs = [.bl k]/\Q (.int (if k then 1 else 0)) H):=by
 intro pins s σ H xs us Q I r h
 rcases h with ⟨i,rfl,q⟩ | ⟨k,rfl,q⟩
 ·obtain ⟨u,rfl,t,rfl⟩:=gN r
  exact call_int_int ⟨.int i,H,I,⟨_,rfl⟩,q⟩
 ·obtain ⟨u,rfl,r1⟩:=gN r
  cases r1
  exact call_int_bool ⟨.int (if k then 1 else 0),H,I.tok _,⟨_,rfl⟩,q⟩
end
structure uB (h:Heap) (x dx C:Addr) (mA:Str->Option Value):Prop where
 obj:h.get? x=some (PySem.W.instObj C dx)
 ns:h.Ns1 dx mA
 ne:dx ≠ x
theorem al9 {h:Heap}{dx:Addr}{mA:Str->Option Value} (n:h.Ns1 dx mA):∃ od,h.get? dx=some od/\∀ name,PySem.W.lookIn name od=some (mA name):=by
 obtain ⟨o,es,ep,ho,hd,hk,_,hm⟩:=n
 refine⟨o,ho,fun name=>?_⟩
 have e:=hm name
 unfold nsFind findBy at e
 rw [<- Array.find?_toList] at e
 unfold PySem.W.lookIn
 rw [hd]
 dsimp only
 split
 ·rename_i y q
  rw [q] at e
  exact congrArg some e
 ·rename_i q
  rw [q] at e
  have a:es.toList.any (·.refKey)=false:=by
   rw [List.any_eq_false]
   intro y hy
   obtain ⟨z,t,hkey⟩:=hk y (Array.mem_toList_iff.mp hy)
   simp [DictEntry.refKey,hkey]
  have a' : ¬ es.toList.any (·.refKey)=true:=by rw [a]; exact bd9
  rw [if_neg a']
  exact congrArg some e
theorem uB.look {h:Heap}{x dx C:Addr}{mA:Str->Option Value} (I:uB h x dx C mA):∃ od,PySem.W.InstAt h x (PySem.W.instObj C dx) C (some od)/\∀ name,PySem.W.lookIn name od=some (mA name):=
 let ⟨od,ho,hl⟩:=al9 I.ns
 ⟨od,⟨I.obj,rfl,rfl,ho⟩,hl⟩
section
variable {P : Program} {w : World} {H H' : Hp} {h h' : Heap} {a C dx : Addr} {fs fs' : List (Str × V)}
theorem am0 (hok:c8 P w H h) (e:H a=some (.ins C dx fs)):∃ mA,uB h a dx C mA/\(∀ f,lB (fs.lookup f) (mA f))/\PySem.Within mA (fs.map (·.1))/\fs.length<=1000/\H dx=some (.own a):=by
 obtain ⟨d,z,ne,ob,mA,n,r,q⟩:=(show bY P w H h a (.ins C dx fs) from hok a _ e)
 exact⟨mA,⟨ob,n,ne⟩,r,q,z,d⟩
end
structure uC (K:PySem.W.Frag) (C:Addr):Prop where
 pg:PySem.W.plainGet K C Str.empty=true
 hd:PySem.W.hasDictIn K C=true
 po:PySem.W.plainOver K C=true
 sa:PySem.W.findIn K (.ref C) "__setattr__" = some (some (.builtin "object.__setattr__"))
theorem uC.get {K:PySem.W.Frag}{C:Addr} (c:uC K C) (f:Str):PySem.W.plainGet K C f=true:=c.pg
section
variable {X : Cx} {pins : List (Addr × Obj)} {σ : St} {H : Hp} {s : Shared} {A : Around} {E : Value → Shared → Prop} {Q : Value → Shared → Prop} {c : Value} {b : Bool}
inductive gC (K:PySem.W.Frag) (H:Hp):V->Value->Prop where
 | non:gC K H .non (.type "NoneType")
 | bl (x:Bool):gC K H (.bl x) (.type "bool")
 | int (i:Int):gC K H (.int i) (.type "int")
 | str (x:Str):gC K H (.str x) (.type "str")
 | flt (x:UInt64):gC K H (.flt x) (.type "float")
 | lst {a:Addr}{xs:List V} (e:H a=some (.lst xs)):gC K H (.ref a) (.type "list")
 | frz {a:Addr}{o:Obj}{xs:List V} (e:H a=some (.frz o (.lst xs))):gC K H (.ref a) (.type "list")
 | tup {a:Addr}{xs:List V} (e:H a=some (.tup xs)):gC K H (.ref a) (.type "tuple")
 | dK {a:Addr}{kvs:List (aJ × V)} (e:H a=some (.dK kvs)):gC K H (.ref a) (.type "dict")
 | dT {a:Addr}{kvs:List (List aJ × V)} (e:H a=some (.dT kvs)):gC K H (.ref a) (.type "dict")
 | ins {a C dx:Addr}{fs:List (Str × V)} (e:H a=some (.ins C dx fs)) (cl:uC K C) (ha:PySem.W.findIn K (.ref C) "__class__" = some (some (.builtin "object.__class__")))
   (hn:PySem.W.specialIn K (.builtin "object.__class__") "__get__" = some (some (.builtin "getset_descriptor.__get__"))) (htk:PySem.W.takesIn K (.builtin "object.__class__")=some true)
   (hm:PySem.W.mroIn K C (.type "object")=some true):gC K H (.ref a) (.ref C)
theorem am1 {x:V}{u t:Value} (I:a8 X pins σ H s) (rx:aY x u) (ty:gC X.K H x t) (e:PySem.W.kitOne X.K t c=some b) (h:∀ tk,Q (.bool b) { s with toks:=tk }) :
  wpAny (model X.prog X.w) A (call (.builtin "isinstance") [u,c]) Q E s:=by
 cases ty with
 | non=>cases (show u=Value.none from rx); exact bh7 PySem.W.kitx_none I.kIn bq2 e (fun z=>nomatch z) h
 | bl y=>cases (show u=Value.bool y from rx); exact bh7 PySem.W.kitx_bool I.kIn bq2 e (fun z=>nomatch z) h
 | int i=>obtain ⟨t,q⟩:=(show ∃ t,u=Value.int i t from rx); cases q; exact bh7 PySem.W.kitx_int I.kIn bq2 e (fun z=>nomatch z) h
 | str y=>obtain ⟨t,q⟩:=(show ∃ t,u=Value.str y t from rx); cases q; exact bh7 PySem.W.kitx_str I.kIn bq2 e (fun z=>nomatch z) h
 | flt y=>obtain ⟨t,q⟩:=(show ∃ t,u=Value.float y t from rx); cases q; exact bh7 PySem.W.kitx_float I.kIn bq2 e (fun z=>nomatch z) h
 | @lst a xs ea=>
  cases (show u=Value.ref a from rx)
  obtain ⟨_,_,n,_,h1⟩:=(show bY X.prog X.w H s.heap a (.lst xs) from I.hok a _ ea)
  exact bh7 PySem.W.kitx_list I.kIn ⟨_,h1,rfl⟩ e (fun z=>nomatch z) h
 | @frz a ob xs ea=>
  cases (show u=Value.ref a from rx)
  obtain ⟨_,_,_,n,_,h1⟩:=(show bY X.prog X.w H s.heap a (.frz ob (.lst xs)) from I.hok a _ ea)
  exact bh7 PySem.W.kitx_list I.kIn ⟨_,h1,rfl⟩ e (fun z=>nomatch z) h
 | @tup a xs ea=>
  cases (show u=Value.ref a from rx)
  obtain ⟨_,_,_,p,_⟩:=(show bY X.prog X.w H s.heap a (.tup xs) from I.hok a _ ea)
  obtain ⟨o,h1,h2,_⟩:=p
  exact bh7 PySem.W.kitx_tuple I.kIn ⟨o,h1,h2⟩ e (fun z=>nomatch z) h
 | @dK a kvs ea=>
  cases (show u=Value.ref a from rx)
  obtain ⟨_,_,vs,_,p⟩:=(show bY X.prog X.w H s.heap a (.dK kvs) from I.hok a _ ea)
  obtain ⟨o,es,ep,h1,h2,_⟩:=p
  exact bh7 PySem.W.kitx_dict I.kIn ⟨o,h1,h2.1⟩ e (fun z=>nomatch z) h
 | @dT a kvs ea=>
  cases (show u=Value.ref a from rx)
  obtain ⟨_,_,xs,_,o,es,ep,h1,h2,_⟩:=(show bY X.prog X.w H s.heap a (.dT kvs) from I.hok a _ ea)
  exact bh7 PySem.W.kitx_dict I.kIn ⟨o,h1,h2.1⟩ e (fun z=>nomatch z) h
 | @ins a C dx fs ea cl ha hn htk hm=>
  cases (show u=Value.ref a from rx)
  obtain ⟨mA,O,_⟩:=am0 I.hok ea
  obtain ⟨od,J,_⟩:=O.look
  exact bh7 (PySem.W.kitx_own (cl.get _) cl.hd ha hn htk hm) I.kIn J e (fun z=>nomatch z) h
end
structure cH (k:Nat) (A:Around):Prop where
 hd:A.handled=none
 dp:A.depth+3 * k+5 < recursionLimit
 un:A.units+16 * k+200 < cLine
theorem cH.mono {j k:Nat}{A:Around} (r:cH k A) (h:j<=k):cH j A:=⟨r.hd,by have:=r.dp; omega,by have:=r.un; omega⟩
theorem cH.deeper {k:Nat}{A:Around} (r:cH (k+1) A) (env:Env):cH k (A.deeper env):=
 ⟨r.hd,by have:=r.dp; show A.depth+1+3 * k+5 < _; omega,by have:=r.un; show A.units+3+16 * k+200 < _; omega⟩
theorem cH.depth {k:Nat}{A:Around} (r:cH k A):A.depth < recursionLimit:=by have:=r.dp; omega
theorem cH.units {k:Nat}{A:Around} (r:cH k A):A.units+64 < cLine:=by have:=r.un; omega
noncomputable def kG:TA:=fun _ H Q=>Q [] H
noncomputable def iS (ta:TE) (tr:TA):TA:=fun σ H Q=>ta σ H fun x H1=>tr σ H1 fun xs H2=>Q (x :: xs) H2
section
variable {X : Cx} {e : Expr} {es : List Expr} {te : TE} {t : TA} {pos : Pos}
theorem dO:PA X [] kG:=fun _ _ _ _ H Q I h=>Calls.spliced_nil ⟨[],H,I,.nil,h⟩
theorem cY (ha:PE X e te) (hr:PA X es t) (hs:starEach (e :: es) X.env=(false,eval e X.env) :: starEach es X.env:=by rfl):PA X (e :: es) (iS te t):=by
 intro pos pins s σ H Q I h
 rw [hs]
 show wpAny _ _ (spliced ((false,eval e X.env) :: backTo pos (starEach es X.env))) _ _ s
 refine Calls.spliced_cons (aQ (ha pins s σ H _ I h) fun u s1 ⟨x,H1,I1,r1,q1⟩=>?_)
 exact aQ (hr pos pins s1 σ H1 _ I1 q1) fun us s2 ⟨xs,H2,I2,r2,q2⟩=>⟨x :: xs,H2,I2,.cons r1 r2,q2⟩
noncomputable def uD (t:TA):TE:=fun σ H Q=>t σ H fun xs H1=>xs.length<=sizeLine/\∀ p,H1 p=none->Q (.ref p) (upd H1 p (.tup xs))
noncomputable def uE (t:TA):TE:=fun σ H Q=>t σ H fun xs H1=>xs.length<=sizeLine/\∀ p,H1 p=none->Q (.ref p) (upd H1 p (.lst xs))
theorem A8 {x1} (h:PA X es t):PE X (.Tuple es x1 pos) (uD t):=by
 intro pins s σ H Q I hq
 refine wpAny_Tuple_spliced (aQ (h pos pins s σ H _ I hq) fun us s1 ⟨xs,H1,I1,r,z,q⟩=>⟨by rw [<- r.length]; exact z,?_⟩)
 have hf:H1 s1.heap.objs.size=none:=I1.hok.fresh (bc5 _)
 refine⟨.ref s1.heap.objs.size,upd H1 s1.heap.objs.size (.tup xs),I1.laid (t':=s1.toks) (fun b u e=>bb7 _ e) (bc5 _) ?_,rfl,q _ hf⟩
 exact⟨z,us,r,⟨_,be1 _ rfl,rfl,_,rfl⟩,jE.new _ _ rfl⟩
theorem qI (h:PA X es t):PE X (.List es pos) (uE t):=by
 intro pins s σ H Q I hq
 refine wpAny_List_spliced (aQ (h pos pins s σ H _ I hq) fun us s1 ⟨xs,H1,I1,r,z,q⟩=>⟨by rw [<- r.length]; exact z,?_⟩)
 have hf:H1 s1.heap.objs.size=none:=I1.hok.fresh (bc5 _)
 refine⟨.ref s1.heap.objs.size,upd H1 s1.heap.objs.size (.lst xs),I1.laid (t':=s1.toks) (fun b u e=>bb7 _ e) (bc5 _) ?_,rfl,q _ hf⟩
 exact⟨z,us,0,r,be1 _ rfl⟩
end
noncomputable abbrev Sp:=List V->Hp->VK->XK->Prop
noncomputable abbrev gZ:=List Env->Hp->Shared->XK->Value->Shared->Prop
structure qJ (P:Program) (w:World) (K:PySem.W.Frag) (mg:Str->Option Value) (base:Heap) (A:Around) (outer:List Env) (s:Shared) (H:Hp):Prop where
 frames:A.frames=some outer
 mod:Mod K mg base
 bs:∀ b o,base.get? b=some o->s.heap.get? b=some o/\H b=none
 bsz:base.objs.size<=s.heap.objs.size
 funs:s.heap.FunFrames base outer
 frf:∀ b ∈ bV outer,H b=none
 hok:c8 P w H s.heap
 bare:AllBare s.gens
noncomputable def CE (outer:List Env) (P:Program) (w:World) (H:Hp) (s:Shared) (Q:VK) (u:Value) (s':Shared):Prop:=
 ∃ v H',s'.os=s.os/\AllBare s'.gens/\Un (bV outer) [] H H' s.heap s'.heap/\c8 P w H' s'.heap/\aY v u/\Q v H'
noncomputable def CR (CX:gZ) (outer:List Env) (P:Program) (w:World) (H:Hp) (s:Shared) (Q:VK) (E:XK) (r:Result) (s':Shared):Prop:=
 match r with
 | .ok (.ret u)=>CE outer P w H s Q u s'
 | .ok _=>False
 | .error e=>CX outer H s E e s'
structure cZ (P:Program) (w:World) (K:PySem.W.Frag) (mg:Str->Option Value) (base:Heap) (CX:gZ) (k:Nat) (f:Addr) (fd:FuncData) (ps:List Str) (sp:Sp):Prop where
 len:∀ vs H Q E,sp vs H Q E->vs.length=ps.length
 run:∀ (A:Around) (outer:List Env) (s:Shared) (H:Hp) (args:Args) (us:List Value) (vs:List V) (Q:VK) (E:XK),cH k A->qJ P w K mg base A outer s H->BindsTo s fd args (ps.zip us)->aN vs us->sp vs H Q E->
  codeAny (model P w) A (.call (.ref f) args) (CR CX outer P w H s Q E) s
theorem cZ.imp {P:Program}{w:World}{K:PySem.W.Frag}{mg:Str->Option Value}{base:Heap}{CX:gZ}{k:Nat}{f:Addr}{fd:FuncData}{ps:List Str}{sp sp':Sp} (F:cZ P w K mg base CX k f fd ps sp)
  (h:∀ vs H Q E,sp' vs H Q E->sp vs H Q E):cZ P w K mg base CX k f fd ps sp':=
 ⟨fun vs H Q E q=>F.len vs H Q E (h _ _ _ _ q),fun A outer s H args us vs Q E hr he hb hv hs=>F.run A outer s H args us vs Q E hr he hb hv (h _ _ _ _ hs)⟩
section
variable {X : Cx} {pins : List (Addr × Obj)} {σ : St} {H : Hp} {s s' : Shared}
theorem a8.env0 (I:a8 X pins σ H s):qJ X.prog X.w X.K X.mg X.base X.A X.stack s H:=
 ⟨I.ok.frames,I.ok.mod,I.bs,bg5 I.ok.bsz I.sz,I.stack,I.stkFree,I.hok,I.bare⟩
theorem a8.after {Q:VK}{u:Value} (I:a8 X pins σ H s) (h:CE X.stack X.prog X.w H s Q u s'):EP X pins σ Q u s':=by
 obtain ⟨v,H',os,bare,un,hok,r,q⟩:=h
 obtain ⟨hh,g,d,t,os'⟩:=s'
 obtain rfl:os'=s.os:=os
 exact⟨v,H',I.call (h':=hh) (g':=g) (d':=d) (t':=t) (ch:=[]) un hok bare (fun b z=>absurd z (by simp)),r,q⟩
end
noncomputable def uF (sp:Sp) (dvs:List V) (E:XK) (t:TA):TE:=fun σ H Q=>t σ H fun vs H1=>sp (vs ++ dvs) H1 Q E
noncomputable def i9 (K:PySem.W.Frag) (fd:FuncData) (ps:List Str) (ds:List Value):Prop:=
 ∀ (s:Shared) (us:List Value),K.In s.heap->(us ++ ds).length=ps.length->BindsTo s fd ⟨us,[]⟩ (ps.zip (us ++ ds))
theorem i9.all {K:PySem.W.Frag}{fd:FuncData}{ps:List Str} (h:∀ us:List Value,us.length=ps.length->bindArgs fd ⟨us,[]⟩=pure (ps.zip us)):i9 K fd ps []:=fun s us _ hl=>by
 rw [bj0] at hl ⊢
 exact .of_eq (h us hl)
noncomputable def o7 (CX:gZ) (X:Cx) (E:XK):Prop:=∀ (pins:List (Addr × Obj)) (σ:St) (H:Hp) (s:Shared) (e:Value) (s':Shared),a8 X pins σ H s->CX X.stack H s E e s'->X.xe e s'
section
variable {X : Cx} {CX : gZ} {k : Nat} {f C : Addr} {fd : FuncData} {ps : List Str} {sp : Sp} {dvs : List V} {ds : List Value} {E : XK} {x m : Str} {p pos apos : Pos} {e o : Expr} {es : List Expr} {ta : TE} {t : TA}
theorem am2 {pins:List (Addr × Obj)}{σ:St}{H:Hp}{s:Shared}{Q:VK}{us:List Value}{vs:List V} (F:cZ X.prog X.w X.K X.mg X.base CX k f fd ps sp) (hr:cH k X.A) (hb:i9 X.K fd ps ds) (hd:aN dvs ds) (hx:o7 CX X E)
  (I:a8 X pins σ H s) (r:aN vs us) (h:sp (vs ++ dvs) H Q E):wpAny (model X.prog X.w) X.A (call (.ref f) us) (EP X pins σ Q) X.xe s:=by
 have r2:aN (vs ++ dvs) (us ++ ds):=r.append hd
 have hl:(us ++ ds).length=ps.length:=by rw [<- r2.length]; exact F.len _ _ _ _ h
 refine wpAny_call (codeAny_mono (F.run X.A X.stack s H ⟨us,[]⟩ (us ++ ds) (vs ++ dvs) Q E hr I.env0 (hb s us I.kIn hl) r2 h) fun r s' hq=>?_)
 cases r with
 | error e=>exact hx pins σ H s e s' I hq
 | ok fl=>
  cases fl with
  | ret u=>exact I.after hq
  | next=>exact False.elim hq
  | brk=>exact False.elim hq
  | cont=>exact False.elim hq
theorem uG (F:cZ X.prog X.w X.K X.mg X.base CX k f fd ps sp) (hr:cH k X.A) (hg:Gl X x) (hm:X.mg x=some (.ref f)) (hk:PySem.W.keepIn X.K (.ref f)=true) (hb:i9 X.K fd ps ds) (hd:aN dvs ds) (hx:o7 CX X E)
  (ha:PA X (e :: es) t) (hdb:(x == ("__debug__" : Str))=false:=by decide) (he:starEach (e :: es) X.env=(false,eval e X.env) :: starEach es X.env:=by rfl) (hpl:(backTo pos (starEach es X.env)).any (·.1)=false:=by rfl) :
  PE X (.Call (.Name x p) (e :: es) [] pos) (uF sp dvs E t):=by
 intro pins s σ H Q I h
 refine wpAny_Call_Name_kw (nW I hg hm ?_ hdb)
 refine PySem.W.callWith_K (h₀:=X.base) I.ok.mod.kin hk (aQ (ha pos pins s σ H _ I h) fun us s1 ⟨vs,H1,I1,r,q⟩=>⟨I1.kIn,?_⟩) he hpl
 exact am2 F hr hb hd hx I1 r q
end
noncomputable def PK (X:Cx) (kws:List Keyword) (t:TA):Prop:=
 ∀ (pos:Pos) (pins:List (Addr × Obj)) (s:Shared) (σ:St) (H:Hp) (Q:List V->Hp->Prop),a8 X pins σ H s->t σ H Q->wpAny (model X.prog X.w) X.A (evalAll ((backToKw pos (keywordEach kws X.env)).map (·.2))) (AP X pins σ Q) X.xe s
structure FnScope (N P:List Str) (sc:Scope):Prop where
 kind:sc.kind = .function
 co:sc.isCoroutine=false
 gen:sc.isGenerator=false
 nd:N.Nodup
 pre:N.take P.length=P
 par:∀ x ∈ P,sc.names.lookup x=some .local ∨ sc.names.lookup x=some .cell
 nofree:∀ y ∈ sc.names,y.2 ≠ .free
theorem A9 {kindOf:Str->Option NameKind}{x:Str}:∀ {binds:List (Str × Value)}{m:Str->Option Value},(∀ v,(x,v) ∉ binds)->bindL kindOf binds m x=m x
 | [],_,_=>rfl
 | (n,v) :: r,m,h=>by
  unfold bindL
  rw [A9 fun w hw=>h w (bd4 _ hw)]
  split
  ·have:x ≠ n:=by rintro rfl; exact h v bc6
   simp [this]
  ·rfl
theorem B0 {kindOf:Str->Option NameKind}{x:Str}:∀ {binds:List (Str × Value)}{m:Str->Option Value},(∀ v,(x,v) ∉ binds)->bindC kindOf binds m x=m x
 | [],_,_=>rfl
 | (n,v) :: r,m,h=>by
  unfold bindC
  rw [B0 fun w hw=>h w (bd4 _ hw)]
  split
  ·rfl
  ·have:x ≠ n:=by rintro rfl; exact h v bc6
   simp [this]
theorem B1 {kindOf:Str->Option NameKind}{x:Str}{v:Value}:∀ {P:List Str}{vs:List Value}{i:Nat}{m:Str->Option Value},P.Nodup->P[i]? = some x->vs[i]? = some v->kindOf x=some .local->
  bindL kindOf (P.zip vs) m x=some v
 | [],_,_,_,_,h,_,_=>by simp at h
 | _ :: _,[],_,_,_,_,h,_=>by simp at h
 | p :: P,w :: vs,0,m,nd,h1,h2,hk=>by
  simp at h1 h2; subst h1; subst h2
  show bindL kindOf ((p,w) :: P.zip vs) m p=_
  unfold bindL
  rw [A9 fun v hv=>(bk4.mp nd).1 (List.of_mem_zip hv).1,if_pos hk]
  simp
 | p :: P,w :: vs,i+1,m,nd,h1,h2,hk=>by
  show bindL kindOf ((p,w) :: P.zip vs) m x=_
  unfold bindL
  exact B1 (i:=i) (bk4.mp nd).2 (by simpa using h1) (by simpa using h2) hk
theorem B2 {kindOf:Str->Option NameKind}{x:Str}{v:Value}:∀ {P:List Str}{vs:List Value}{i:Nat}{m:Str->Option Value},P.Nodup->P[i]? = some x->vs[i]? = some v->kindOf x ≠ some .local->
  bindC kindOf (P.zip vs) m x=some v
 | [],_,_,_,_,h,_,_=>by simp at h
 | _ :: _,[],_,_,_,_,h,_=>by simp at h
 | p :: P,w :: vs,0,m,nd,h1,h2,hk=>by
  simp at h1 h2; subst h1; subst h2
  show bindC kindOf ((p,w) :: P.zip vs) m p=_
  unfold bindC
  rw [B0 fun v hv=>(bk4.mp nd).1 (List.of_mem_zip hv).1,if_neg hk]
  simp
 | p :: P,w :: vs,i+1,m,nd,h1,h2,hk=>by
  show bindC kindOf ((p,w) :: P.zip vs) m x=_
  unfold bindC
  exact B2 (i:=i) (bk4.mp nd).2 (by simpa using h1) (by simpa using h2) hk
noncomputable def start (N:List Str) (vs:List V):St:=vs.map some ++ List.replicate (N.length - vs.length) none
noncomputable def dP (CX:gZ) (P:Program) (w:World) (K:PySem.W.Frag) (mg:Str->Option Value) (base:Heap) (N:List Str) (qual:Str) (scope:Scope) (f:Addr) (cd:Value) (A:Around) (outer:List Env) (s:Shared) (H:Hp) (E:XK):Cx where
 prog:=P
 w:=w
 K:=K
 mg:=mg
 base:=base
 A:=A.deeper (envOfC qual scope s.heap.objs.size f cd)
 N:=N
 s₀:=s
 H₀:=H
 env:=envOfC qual scope s.heap.objs.size f cd
 outer:=outer
 stack:=envOfC qual scope s.heap.objs.size f cd :: outer
 ex:=[]
 calm:=true
 fn:=fun _=>true
 pn:=[]
 xe:=fun e s'=>wpAny (model P w) (A.deeper (envOfC qual scope s.heap.objs.size f cd)) (leaving (envOfC qual scope s.heap.objs.size f cd) e) (fun _ s''=>CX outer H s E e s'') (fun e' s''=>CX outer H s E e' s'') s'
theorem B3 {sc:Scope}{n:Nat}{x:Str} (h:sc.names.lookup x=some .cell):∃ c,(cellsFrom n sc.names []).lookup x=some c:=by
 have q:=PySem.W.cellsFrom_some sc.names n [] (.inl h)
 exact Option.isSome_iff_exists.mp q
theorem am3 {CX:gZ}{P:Program}{w:World}{K:PySem.W.Frag}{mg:Str->Option Value}{base:Heap}{N ps:List Str}{qual:Str}{scope:Scope}{f:Addr}{cd:Value}{A:Around}{outer:List Env}{s s1:Shared}{H:Hp}{E:XK}{us:List Value}{vs:List V}
  (S:FnScope N ps scope) (hd:A.handled=none) (e0:qJ P w K mg base A outer s H) (hl:vs.length=ps.length) (r:aN vs us)
  (x:InCallC s s.heap.objs.size (bindL (envOfC qual scope s.heap.objs.size f cd).kindOf (ps.zip us) fun _=>none) (cellsFrom (s.heap.objs.size+1) scope.names []) (bindC (envOfC qual scope s.heap.objs.size f cd).kindOf (ps.zip us) fun _=>none) s1) :
  a8 (dP CX P w K mg base N qual scope f cd A outer s H E) [] (start N vs) H s1:=by
 have hpl:ps.length<=N.length:=by have:=congrArg List.length S.pre; rw [bj2] at this; omega
 obtain ⟨h1,tk,rfl,hk⟩:=x.done
 have noA:∀ b:Addr,b ∉ (dP CX P w K mg base N qual scope f cd A outer s H E).ex:=fun b z=>absurd (show b ∈ ([]:List Addr) from z) (by simp)
 refine⟨⟨e0.mod,S.kind,rfl,rfl,bc5 _,fun y z c h1 h2=>?_,fun y hy=>?_,fun y c _ h=>?_,fun _=>hd,Around.frames_deeper e0.frames,.inr ⟨rfl,rfl⟩,fun b z=>absurd z (noA b),e0.bs,e0.bsz,fun b _ _=>noA b,fun b z=>absurd z (noA b),e0.funs,e0.frf⟩,
  rfl,e0.bare,Un.kept hk,⟨_,x.toInCall.ns,fun i y v h1 h2 h3=>?_⟩,fun y c h=>⟨_,x.cell y c h⟩,e0.hok.fresh (bc5 _),fun y c h=>?_,fun p hp=>absurd (show p ∈ ([]:List (Addr × Obj)) from hp) (by simp),e0.hok.kept hk,?_⟩
 ·exact name_of_addr x.apart (bg9 h1) (bg9 h2)
 ·have hy:scope.names.lookup y=some .cell ∨ scope.names.lookup y=some .free:=hy
  rcases hy with hy | hy
  ·exact B3 hy
  ·exact absurd rfl (S.nofree _ (bg9 hy))
 ·exact bh9 (x.above y c (bg9 h))
 ·have hi:i < vs.length:=by
   unfold start at h2
   by_cases hi:i < vs.length
   ·exact hi
   ·rw [bm3 (by simpa using hi)] at h2
    rw [List.getElem?_replicate] at h2
    split at h2 <;> cases h2
  have ha:vs[i]? = some v:=by
   unfold start at h2
   rw [bf3 (by simpa using hi),bd1] at h2
   cases e:vs[i]? with
   | none=>rw [e] at h2; cases h2
   | some a=>rw [e] at h2; cases h2; rfl
  obtain ⟨u,hu,rv⟩:=r.get ha
  have hp:ps[i]? = some y:=by
   rw [<- S.pre,List.getElem?_take_of_lt (by omega)]; exact h1
  have ndP:ps.Nodup:=by rw [<- S.pre]; exact S.nd.sublist (List.take_sublist _ _)
  refine⟨u,rv,?_⟩
  rcases S.par y (bc2 hp) with k | k
  ·exact .inl ⟨k,B1 ndP hp hu k⟩
  ·obtain ⟨c,e⟩:=B3 (n:=s.heap.objs.size+1) k
   refine .inr ⟨.inl k,c,e,?_⟩
   have q:=x.cell y c e
   rw [B2 ndP hp hu (by show scope.names.lookup y ≠ _; rw [k]; decide)] at q
   exact q
 ·exact e0.hok.fresh (bh9 (x.above y c (bg9 h)))
 ·unfold start
  show _=N.length
  rw [bd3,bb8,bl4]
  omega
theorem B4 {CX:gZ}{P:Program}{w:World}{K:PySem.W.Frag}{mg:Str->Option Value}{base:Heap}{k:Nat}{f:Addr}{name qual:Str}{params:Arguments}{body:List Stmt}{scope:Scope}{dV kV doc pm cdv ct oc:Value}{an od:Option Addr}
  {osl:Array (Option Value)}{N ps:List Str}{sp:Sp} (lk:K.lookup f=some ⟨oc,od,.func (PySem.W.fnOf name qual params body scope dV kV doc pm an cdv ct),osl⟩) (hcd:PySem.W.codeIn K cdv qual=true) (S:FnScope N ps scope)
  (len:∀ vs H Q E,sp vs H Q E->vs.length=ps.length)
  (hbody:∀ (A:Around) (outer:List Env) (s:Shared) (H:Hp) (vs:List V) (Q:VK) (E:XK),cH k (A.deeper (envOfC qual scope s.heap.objs.size f cdv))->sp vs H Q E->
   ∃ t,e8 (dP CX P w K mg base N qual scope f cdv A outer s H E) body t/\t { nx:=fun _ H'=>Q .non H',rt:=Q } (start N vs) H) :
  cZ P w K mg base CX (k+1) f (PySem.W.fnOf name qual params body scope dV kV doc pm an cdv ct) ps sp:=by
 refine⟨len,fun A outer s H args us vs Q E hr e0 hb r hsp=>?_⟩
 have hl:=len _ _ _ _ hsp
 have KX:K.In s.heap:=e0.mod.kin.keeps fun b o e=>(e0.bs b o e).1
 have lim:s.heap.NoLimit:=e0.mod.nolimit.keeps fun b o e=>(e0.bs b o e).1
 have hkind:∀ y ∈ ps.zip us,scope.names.lookup y.1=some .local ∨ (scope.names.lookup y.1=some .cell/\((cellsFrom (s.heap.objs.size+1) scope.names []).lookup y.1).isSome=true):=fun ⟨n,v⟩ hy=>by
  rcases S.par n (List.of_mem_zip hy).1 with q | q
  ·exact .inl q
  ·exact .inr ⟨q,PySem.W.cellsFrom_some _ _ _ (.inl q)⟩
 refine codeAny_call_function hr.depth (KX _ _ lk) rfl S.co S.gen rfl (PySem.W.codeRec_of KX hcd) (hb _ _ _ _ ?_)
 refine wpAny_newFunctionEnv_cells S.kind hkind fun env he s1 x=>?_
 subst he
 refine⟨lim.keeps x.toInCall.keep,codeAny_func ?_⟩
 obtain ⟨t,ht,hq⟩:=hbody A outer s H vs Q E (hr.deeper _) hsp
 have I:a8 (dP CX P w K mg base N qual scope f cdv A outer s H E) [] (start N vs) H s1:=am3 S hr.hd e0 hl r x
 refine bj6 (ht [] s1 (start N vs) H _ I hq) (fun fl s' hs=>?_) fun e s' hs=>hs
 have fin:∀ {σ':St}{H':Hp}{v:V}{u:Value},a8 (dP CX P w K mg base N qual scope f cdv A outer s H E) [] σ' H' s'->aY v u->Q v H'->CE outer P w H s Q u s':=
  fun {σ' H' v u} J rv q=>⟨v,H',J.os,J.bare,J.base,J.hok,rv,q⟩
 cases fl with
 | ret u=>
  obtain ⟨v,σ',H',J,rv,q⟩:=hs
  exact fin J rv q
 | next=>
  obtain ⟨σ',H',J,q⟩:=hs
  exact fin (v:=V.non) (u:=Value.none) J rfl q
 | brk=>
  obtain ⟨_,_,_,q⟩:=hs
  exact False.elim q
 | cont=>
  obtain ⟨_,_,_,q⟩:=hs
  exact False.elim q
section
variable {X : Cx} {x : Str} {p pos : Pos} {e : Expr} {es : List Expr} {t : TA} {id T : String} {r : List V → Hp → VK → Prop}
noncomputable def uH (r:List V->Hp->VK->Prop) (t:TA):TE:=fun σ H Q=>t σ H fun vs H1=>r vs H1 Q
theorem o8 (hc:cX X (.builtin id) r) (hg:Gl X x) (hm:X.mg x=none) (hv:bootBuiltins x=some (.builtin id)) (ha:PA X (e :: es) t) (hn:x ≠ "__name__":=by decide) (hdb:(x == ("__debug__" : Str))=false:=by decide)
  (he:starEach (e :: es) X.env=(false,eval e X.env) :: starEach es X.env:=by rfl) (hpl:(backTo pos (starEach es X.env)).any (·.1)=false:=by rfl):PE X (.Call (.Name x p) (e :: es) [] pos) (uH r t):=by
 intro pins s σ H Q I h
 refine wpAny_Call_Name_kw (jH I hg hm hv ?_ hn hdb)
 exact PyProof.Rows.callWith_builtin1 (aQ (ha pos pins s σ H _ I h) fun us s1 ⟨vs,H1,I1,r1,q1⟩=>hc pins s1 σ H1 vs us Q I1 r1 q1) he hpl
theorem B5 (hc:cX X (.type T) r) (hg:Gl X x) (hm:X.mg x=none) (hv:bootBuiltins x=some (.type T)) (ha:PA X (e :: es) t) (hn:x ≠ "__name__":=by decide) (hdb:(x == ("__debug__" : Str))=false:=by decide)
  (he:starEach (e :: es) X.env=(false,eval e X.env) :: starEach es X.env:=by rfl) (hpl:(backTo pos (starEach es X.env)).any (·.1)=false:=by rfl):PE X (.Call (.Name x p) (e :: es) [] pos) (uH r t):=by
 intro pins s σ H Q I h
 refine wpAny_Call_Name_kw (jH I hg hm hv ?_ hn hdb)
 exact bi3 (aQ (ha pos pins s σ H _ I h) fun us s1 ⟨vs,H1,I1,r1,q1⟩=>hc pins s1 σ H1 vs us Q I1 r1 q1) he hpl
end
end L2
namespace HT
open PySem PyProof.Rows
noncomputable def fM:List Int->List Int->Bool
 | [],[]=>false
 | [],_ :: _=>true
 | _ :: _,[]=>false
 | x :: xs,y :: ys=>if x=y then fM xs ys else decide (x < y)
theorem o9 (x y:Int) (xs ys:List Int):fM (x :: xs) (y :: ys)=if x=y then fM xs ys else decide (x < y):=rfl
section
variable {prog : Program} {w : World} {A : Around} {E : Value → Shared → Prop} {s : Shared}
noncomputable def aW (n d:Nat):Option Int->Nat
 | none=>d
 | some v=>if v < 0 then (v+(n:Int)).toNat else min v.toNat n
theorem am4 (n d:Nat):aW n d none=d:=rfl
theorem am5 (n d k:Nat):aW n d (some (k:Int))=min k n:=by
 show (if (k:Int) < 0 then ((k:Int)+(n:Int)).toNat else min (k:Int).toNat n)=min k n
 rw [if_neg (by omega),be5]
theorem am6 (n d:Nat) (hd:d<=n) (o:Option Int):aW n d o<=n:=by
 cases o with
 | none=>exact hd
 | some v=>
  show (if v < 0 then (v+(n:Int)).toNat else min v.toNat n)<=n
  by_cases hv:v < 0
  ·rw [if_pos hv]; omega
  ·rw [if_neg hv]; exact Nat.min_le_right _ _
theorem B6 (v:Int) (n d:Nat):(if v < 0 then max (v+(n:Int)) 0 else min v (n:Int))=((aW n d (some v):Nat):Int):=by
 show (if v < 0 then max (v+(n:Int)) 0 else min v (n:Int))=(((if v < 0 then (v+(n:Int)).toNat else min v.toNat n):Nat):Int)
 by_cases hv:v < 0
 ·simp only [if_pos hv]; omega
 ·simp only [if_neg hv]; omega
theorem am7 (lo hi:Option Int) (n:Nat):Builtin.Slice.sliceAdjust lo hi 1 (n:Int)=(((aW n 0 lo:Nat):Int),((aW n n hi:Nat):Int)):=by
 have h1 : ¬ ((1:Int) < 0):=by omega
 unfold Builtin.Slice.sliceAdjust
 simp only [h1,bi5]
 refine Prod.ext ?_ ?_
 ·cases lo with
  | none=>rfl
  | some v=>exact B6 v n 0
 ·cases hi with
  | none=>rfl
  | some v=>exact B6 v n n
theorem am8 (i j:Nat):Builtin.Slice.slicePlaces (i:Int) (j:Int) 1=j - i:=by
 unfold Builtin.Slice.slicePlaces
 have h1:(1:Int) > 0:=by omega
 simp only [h1,if_true,Int.ediv_one]
 split <;> omega
theorem B7 {v:Value}{o:Option Int}{Q:Option Int->Shared->Prop} (p:IsPart v o) (h:Q o s):wpAny (model prog w) A (Builtin.Slice.slicePartIndex v) Q E s:=by
 cases p with
 | none=>exact slicePart_none h
 | int i t=>exact slicePart_int h
theorem B8 {sl:Addr}{vl vu:Value}{lo hi:Option Int}{n:Nat}{Q:Int × Int × Nat->Shared->Prop} (hs:s.heap.IsSliceOf sl vl vu .none) (pl:IsPart vl lo) (pu:IsPart vu hi)
  (h:Q (((aW n 0 lo:Nat):Int),1,aW n n hi - aW n 0 lo) s):wpAny (model prog w) A (Builtin.Slice.sliceApplied (.ref sl) (pure (n:Int))) Q E s:=by
 obtain ⟨os,hos,hcs,hds⟩:=id hs
 unfold Builtin.Slice.sliceApplied Builtin.Slice.sliceFields
 refine bb5 (bb5 (bl1 hos hds (x:=vl) rfl (bb5 (bl1 hos hds (x:=vu) rfl (bb5 (bl1 hos hds (x:=.none) rfl (bc8 ?_)))))))
 refine bb5 (slicePart_none ?_)
 show wpAny _ _ (if ((1:Int) == 0)=true then _ else _) _ _ s
 rw [if_neg (by decide)]
 refine bb5 (B7 pl (bb5 (B7 pu (bb5 (bc8 ?_)))))
 show wpAny _ _ (match Builtin.Slice.sliceAdjust lo hi 1 (n:Int) with | (lo,hi)=>pure (lo,(1:Int),Builtin.Slice.slicePlaces lo hi 1)) _ _ s
 rw [am7 lo hi n]
 show wpAny _ _ (pure (((aW n 0 lo:Nat):Int),(1:Int),Builtin.Slice.slicePlaces ((aW n 0 lo:Nat):Int) ((aW n n hi:Nat):Int) 1)) _ _ s
 rw [am8]
 exact bc8 h
theorem am9 (xs:Array Value) (i k:Nat):((List.range k).filterMap fun (m:Nat)=>xs[((i:Int)+(m:Int) * 1).toNat]?).toArray=((xs.toList.drop i).take k).toArray:=by
 have e:(fun (m:Nat)=>xs[((i:Int)+(m:Int) * 1).toNat]?)=fun m=>xs[i+m]?:=by
  funext m
  have:((i:Int)+(m:Int) * 1).toNat=i+m:=by omega
  rw [this]
 rw [e]
 have:=pick_run xs i k
 rw [List.filterMap_map] at this
 have e2:((fun x=>xs[x]?) ∘ fun x=>i+x)=fun m=>xs[i+m]?:=rfl
 rw [e2] at this
 rw [this]
theorem an0 {t sl:Addr}{items:Array Value}{vl vu:Value}{lo hi:Option Int}{Q:Value->Shared->Prop} (ht:IsTup s.heap t items) (hs:s.heap.IsSliceOf sl vl vu .none) (pl:IsPart vl lo) (pu:IsPart vu hi)
  (hw : ¬ (aW items.size 0 lo=0/\aW items.size items.size hi=items.size))
  (h:Q (.ref s.heap.objs.size) { s with heap:=s.heap.push { cls:=.type "tuple",data:=.seq ((items.toList.drop (aW items.size 0 lo)).take (aW items.size items.size hi - aW items.size 0 lo)).toArray } })
  (hsz:items.size<=sizeLine):wpAny (model prog w) A (getItem (.ref t) (.ref sl)) Q E s:=by
 have htake:sizeOk (.seq ((items.toList.drop (aW items.size 0 lo)).take (aW items.size items.size hi - aW items.size 0 lo)).toArray):=by
  show ((items.toList.drop (aW items.size 0 lo)).take (aW items.size items.size hi - aW items.size 0 lo)).toArray.size<=sizeLine
  rw [bb6,bj2,bk5,Array.length_toList]
  omega
 have hj:aW items.size items.size hi<=items.size:=am6 _ _ (bc5 _) hi
 obtain ⟨os,hos,hcs,hds⟩:=id hs
 have hTs:s.TypeIs (.ref sl) "slice":=⟨os,hos,hcs⟩
 unfold getItem
 try with_reducible refine bm2 ?_
 first | refine bb5 (bc8 ?_) | skip
 refine bb5 (wpAny_sequenceKey ht.typeIs (by decide) ?_)
 refine bb5 (bj9 (name:=Str.ofString "__getitem__") ht.typeIs bn0
  (bk6 bn0 ht.typeIs entry_tuple_getitem ?_ (args_tuple_getitem _ _)))
 show wpAny _ _ (Builtin.Tuple.tupleItemsOf (.ref t) >>= _) _ _ s
 refine bb5 (tupleItemsOf_ ht ?_)
 refine bb5 (wpAny_typeOf hTs ?_)
 rw [if_pos (by decide)]
 refine bb5 (B8 hs pl pu ?_)
 have hno : ¬ ((((aW items.size 0 lo:Nat):Int) == 0 && (1:Int) == 1 && (aW items.size items.size hi - aW items.size 0 lo) == items.size)=true):=by
  intro q
  rw [bg2,bg2] at q
  have q1:((aW items.size 0 lo:Nat):Int)=0:=eq_of_beq q.1.1
  have q2:aW items.size items.size hi - aW items.size 0 lo=items.size:=eq_of_beq q.2
  exact hw ⟨by omega,by omega⟩
 show wpAny _ _ (if (((aW items.size 0 lo:Nat):Int) == 0 && (1:Int) == 1 && (aW items.size items.size hi - aW items.size 0 lo) == items.size)=true then _ else _) _ _ s
 rw [if_neg hno,am9]
 first
  | exact bb5 (m:=Builtin.Tuple.tupleExact _) (bi8 (bc8 ⟨_,rfl,bc8 h⟩) htake)
  | exact bb5 (m:=Builtin.Tuple.tupleExact _) (bi8 (bb5 (bc8 (bc8 ⟨_,rfl,bc8 h⟩))) htake)
  | exact bb5 (bb5 (m:=Builtin.Tuple.tupleExact _) (bi8 (bc8 (bc8 ⟨_,rfl,bc8 h⟩)) htake))
  | exact bb5 (bb5 (m:=Builtin.Tuple.tupleExact _) (bi8 (bc8 ⟨_,rfl,bc8 h⟩) htake))
end
end HT
namespace L2
open PySem PySem.Spec PyProof.Rows
noncomputable abbrev TO:=St->Hp->(Option Int->Hp->Prop)->Prop
noncomputable def PO (X:Cx) (e:Option Expr) (t:TO):Prop:=
 ∀ (pins:List (Addr × Obj)) (s:Shared) (σ:St) (H:Hp) (Q:Option Int->Hp->Prop),a8 X pins σ H s->t σ H Q->
  wpAny (model X.prog X.w) X.A (evalPart e X.env) (fun u s'=>∃ o H',a8 X pins σ H' s'/\IsPart u o/\Q o H') X.xe s
noncomputable def an1:TO:=fun _ H Q=>Q none H
noncomputable def an2 (t:TE):TO:=fun σ H Q=>t σ H fun x H1=>∃ i,x = .int i/\Q (some i) H1
theorem qK {ns:List Int}:∀ {us:List Value},aN (ns.map V.int) us->IntsAre us ns:=by
 induction ns with
 | nil=>intro us r; rw [List.map_nil] at r; cases r; exact .nil
 | cons n ns ih=>
  intro us r
  rw [bi1] at r
  cases r with
  | cons r1 r2=>
   obtain ⟨t,e⟩:=r1
   subst e
   exact .cons n t (ih r2)
section
variable {X : Cx} {e : Expr} {te : TE} {lo hi : Option Expr} {tl th : TO} {pos p2 : Pos}
theorem uI:PO X none an1:=by
 intro pins s σ H Q I h
 rw [evalPart_none]
 exact bc8 ⟨none,H,I,.none,h⟩
theorem uJ (h:PE X e te):PO X (some e) (an2 te):=by
 intro pins s σ H Q I hw
 rw [evalPart_some]
 refine aQ (h pins s σ H _ I hw) fun u s1 ⟨x,H1,I1,r1,q1⟩=>?_
 obtain ⟨i,rfl,q⟩:=q1
 obtain ⟨t,rfl⟩:=r1
 exact⟨some i,H1,I1,.int i t,q⟩
noncomputable def kH (X:Cx) (r:V->Option Int->Option Int->Hp->VK->Prop):Prop:=
 ∀ (pins:List (Addr × Obj)) (s:Shared) (σ:St) (H:Hp) (x:V) (v vl vu:Value) (lo hi:Option Int) (sl:Addr) (Q:VK),a8 X pins σ H s->aY x v->s.heap.IsSliceOf sl vl vu .none->IsPart vl lo->IsPart vu hi->r x lo hi H Q->
  ∃ T id,typeLookup (.type T) "__getitem__" = pure (some (.builtin id))/\s.TypeIs v T/\wpAny (model X.prog X.w) X.A (getItem v (.ref sl)) (EP X pins σ Q) X.xe s
theorem kH.or {r r':V->Option Int->Option Int->Hp->VK->Prop} (h:kH X r) (h':kH X r'):kH X (fun x lo hi H Q=>r x lo hi H Q ∨ r' x lo hi H Q):=by
 intro pins s σ H x v vl vu lo hi sl Q I rx hs pl pu q
 rcases q with q | q
 ·exact h pins s σ H x v vl vu lo hi sl Q I rx hs pl pu q
 ·exact h' pins s σ H x v vl vu lo hi sl Q I rx hs pl pu q
noncomputable def tSl (r:V->Option Int->Option Int->Hp->VK->Prop) (te:TE) (tl th:TO):TE:=fun σ H Q=>te σ H fun x H1=>tl σ H1 fun l H2=>th σ H2 fun u H3=>r x l u H3 Q
theorem uK {r:V->Option Int->Option Int->Hp->VK->Prop} (hr:kH X r) (he:PE X e te) (hl:PO X lo tl) (hu:PO X hi th):PE X (.Subscript e (.Slice lo hi none p2) pos) (tSl r te tl th):=by
 intro pins s σ H Q I h
 refine Subscript_ (aQ (he pins s σ H _ I h) fun v s1 ⟨x,H1,I1,r1,q1⟩=>?_)
 refine wpAny_Slice (aQ (hl pins s1 σ H1 _ I1 q1) fun vl s2 ⟨l,H2,I2,pl,q2⟩=>aQ (hu pins s2 σ H2 _ I2 q2) fun vu s3 ⟨u,H3,I3,pu,q3⟩=>?_)
 rw [evalPart_none]
 refine bc8 ?_
 have I4:a8 X pins σ H3 { s3 with heap:=s3.heap.push { cls:=.type "slice",data:=.fields #[vl,vu,.none] } }:=I3.kept (t':=s3.toks) fun b ob q=>bb7 _ q
 obtain ⟨T,id,hT,ht,hg⟩:=hr pins { s3 with heap:=s3.heap.push { cls:=.type "slice",data:=.fields #[vl,vu,.none] } } σ H3 x v vl vu l u s3.heap.objs.size Q I4 r1 (Heap.IsSliceOf.new ..) pl pu q3
 show wpAny (model X.prog X.w) X.A (subscriptTail e (.Slice lo hi none p2) v (.ref s3.heap.objs.size)) (EP X pins σ Q) X.xe { s3 with heap:=s3.heap.push { cls:=.type "slice",data:=.fields #[vl,vu,.none] } }
 exact tail_any (ops:=[.ref s3.heap.objs.size,v]) ht hT hg (by with_unfolding_all rfl)
noncomputable def eQ (xs:List V) (lo hi:Option Int):List V:=(xs.drop (HT.aW xs.length 0 lo)).take (HT.aW xs.length xs.length hi - HT.aW xs.length 0 lo)
theorem B9 (xs:List V) (lo hi:Option Int):(eQ xs lo hi).length<=xs.length:=by
 unfold eQ
 rw [bj2,bk5]
 omega
noncomputable def an3 (K:PySem.W.Frag):V->Option Int->Option Int->Hp->VK->Prop:=fun x lo hi H Q=>∃ a xs,x = .ref a/\aR K H a xs/\
 ¬ (HT.aW xs.length 0 lo=0/\HT.aW xs.length xs.length hi=xs.length)/\∀ p,H p=none->Q (.ref p) (upd H p (.tup (eQ xs lo hi)))
theorem an4:kH X (an3 X.K):=by
 intro pins s σ H x v vl vu lo hi sl Q I rx hs pl pu h
 obtain ⟨a,xs,rfl,hx,hw,q⟩:=h
 cases rx
 obtain ⟨its,r,ht,hz⟩:=I.tuple hx
 have hlen:its.toArray.size=xs.length:=by rw [bb6]; exact r.length.symm
 refine⟨"tuple",_,PyProof.Rows.slot_tuple_getitem.lookup,ht.typeIs,?_⟩
 refine HT.an0 ht hs pl pu (by rw [hlen]; exact hw) ?_ (by rw [hlen]; exact hz)
 rw [hlen]
 refine⟨.ref s.heap.objs.size,_,I.laid (t':=s.toks) (o:=.tup (eQ xs lo hi)) (fun b ob q=>bb7 _ q) (bc5 _) ?_,rfl,q _ (I.hok.fresh (bc5 _))⟩
 exact⟨bg5 (B9 xs lo hi) hz,_,(r.drop (HT.aW xs.length 0 lo)).take (HT.aW xs.length xs.length hi - HT.aW xs.length 0 lo),IsTup.new _ _,jE.new _ _ rfl⟩
end
noncomputable def gD (n:Nat) (i:Int):Option Nat:=if 0<=i then (if i < n then some i.toNat else none) else if -(n:Int)<=i then some (i+n).toNat else none
noncomputable def atI {α:Type} (xs:List α) (i:Int):Option α:=(gD xs.length i).bind fun j=>xs[j]?
theorem C0 {n:Nat}{i:Int}{j:Nat} (h:gD n i=some j):seqIndex? i n=some j/\j < n/\-(n:Int)<=i/\i < n:=by
 unfold gD at h
 by_cases h0:0<=i
 ·rw [if_pos h0] at h
  by_cases h1:i < n
  ·rw [if_pos h1] at h
   have e:i.toNat=j:=be3 h
   exact⟨by rw [seqIndex_of h0 h1,e],by omega,by omega,h1⟩
  ·rw [if_neg h1] at h; cases h
 ·rw [if_neg h0] at h
  by_cases h1 : -(n:Int)<=i
  ·rw [if_pos h1] at h
   have e:(i+n).toNat=j:=be3 h
   exact⟨by rw [seqIndex_neg (by omega) h1,e],by omega,h1,by omega⟩
  ·rw [if_neg h1] at h; cases h
theorem uL {α:Type}{xs:List α}{i:Int}{v:α} (h:atI xs i=some v):∃ j,seqIndex? i xs.length=some j/\xs[j]? = some v/\j < xs.length/\-(xs.length:Int)<=i/\i < xs.length:=by
 unfold atI at h
 cases e:gD xs.length i with
 | none=>rw [e] at h; cases h
 | some j=>
  rw [e] at h
  obtain ⟨h1,h2,h3,h4⟩:=C0 e
  exact⟨j,h1,h,h2,h3,h4⟩
theorem jM {α:Type}{xs:List α}{j:Nat}{v:α} (h:xs[j]? = some v):atI xs (j:Int)=some v:=by
 have hj:j < xs.length:=(bc4.mp h).1
 have e:gD xs.length (j:Int)=some j:=by
  unfold gD
  rw [if_pos (by omega),if_pos (by omega)]; simp
 unfold atI; rw [e]; exact h
noncomputable def C1 (b:Expr):Prop:=∀ o i,subscripted b false o i=operate [o,i] (getItem o i)
noncomputable def jN (X:Cx) (r:R2):Prop:=
 ∀ (value slice:Expr) (pins:List (Addr × Obj)) (s:Shared) (σ:St) (H:Hp) (x y:V) (v u:Value) (Q:VK),a8 X pins σ H s->aY x v->aY y u->r x y H Q->
  subscripted slice false v u=operate [v,u] (getItem v u)->wpAny (model X.prog X.w) X.A (subscriptTail value slice v u) (EP X pins σ Q) X.xe s
noncomputable def C2 (X:Cx) (id:String) (r:V->List V->Hp->VK->Prop):Prop:=
 ∀ (pins:List (Addr × Obj)) (s:Shared) (σ:St) (H:Hp) (x:V) (xs:List V) (v:Value) (us:List Value) (Q:VK),a8 X pins σ H s->aY x v->aN xs us->r x xs H Q->
  wpAny (model X.prog X.w) X.A (call (.builtin id) (v :: us)) (EP X pins σ Q) X.xe s
section
variable {X : Cx} {a b : Expr} {ta tb : TE} {pos : Pos}
theorem jN.or {r r':R2} (h:jN X r) (h':jN X r'):jN X (fun x y H Q=>r x y H Q ∨ r' x y H Q):=by
 intro value slice pins s σ H x y v u Q I rx ry q hs
 rcases q with q | q
 ·exact h value slice pins s σ H x y v u Q I rx ry q hs
 ·exact h' value slice pins s σ H x y v u Q I rx ry q hs
theorem jO {r:R2} (hr:jN X r) (ha:PE X a ta) (hb:PE X b tb) (hs:C1 b):PE X (.Subscript a b pos) (nZ r ta tb):=by
 intro pins s σ H Q I h
 exact Subscript_ (u3 ha hb I h fun v u s2 x y H2 I2 rx ry q=>hr a b pins s2 σ H2 x y v u Q I2 rx ry q (hs _ _))
noncomputable def C3 (K:PySem.W.Frag):R2:=fun x y H Q=>∃ p xs i v,x = .ref p/\y = .int i/\aM K H p xs/\atI xs i=some v/\Q v H
noncomputable def C4 (K:PySem.W.Frag):R2:=fun x y H Q=>∃ p xs i v,x = .ref p/\y = .int i/\aR K H p xs/\atI xs i=some v/\Q v H
noncomputable def C5:R2:=fun x y H Q=>∃ z i c,x = .str z/\y = .int i/\z.length<=sizeLine/\atI z.cps.toList i=some c/\Q (.str ⟨#[c]⟩) H
theorem oA:jN X (C3 X.K):=by
 intro value slice pins s σ H x y v u Q I rx ry h hs
 obtain ⟨p,xs,i,z,rfl,rfl,hq,he,q⟩:=h
 cases rx
 obtain ⟨t,rfl⟩:=ry
 obtain ⟨its,r,pl,hz⟩:=I.list hq
 obtain ⟨j,h1,h2,h3,h4,h5⟩:=uL he
 obtain ⟨w,ew,rw'⟩:=r.get h2
 have hl:=r.length
 have hn:=mG
 have fin:EP X pins σ Q w s:=⟨z,H,I,rw',q⟩
 by_cases h0:0<=i
 ·have hj:i.toNat=j:=by
   rw [seqIndex_of h0 h5] at h1
   exact be3 h1
  exact item_listR pl.isList h0 (by omega) (by rw [hj]; simpa using ew) fin hs
 ·have hj:(i+(its.toArray.size:Int)).toNat=j:=by
   rw [seqIndex_neg (by omega) h4] at h1
   rw [bb6,<- hl]
   exact be3 h1
  exact subscriptTail_builtinR (x:=w) pl.isList.typeIs slot_list_getitem.lookup
   (wpAny_getItem_list_neg (Q:=fun r s'=>r=w/\EP X pins σ Q r s') pl.isList (by omega) (by rw [bb6] <;> omega) (by omega) (by rw [hj]; simpa using ew) ⟨rfl,fin⟩) hs
theorem oB:jN X (C4 X.K):=by
 intro value slice pins s σ H x y v u Q I rx ry h hs
 obtain ⟨p,xs,i,z,rfl,rfl,hq,he,q⟩:=h
 cases rx
 obtain ⟨t,rfl⟩:=ry
 obtain ⟨its,r,pl,hz⟩:=I.tuple hq
 obtain ⟨j,h1,h2,h3,h4,h5⟩:=uL he
 obtain ⟨w,ew,rw'⟩:=r.get h2
 have hl:=r.length
 have hn:=mG
 have fin:EP X pins σ Q w s:=⟨z,H,I,rw',q⟩
 exact subscriptTail_builtinR (x:=w) pl.typeIs slot_tuple_getitem.lookup
  (getItem_tuple (j:=j) (Q:=fun r s'=>r=w/\EP X pins σ Q r s') pl (by omega) (by omega) (by rw [bb6,<- hl]; exact h1) (by simpa using ew) ⟨rfl,fin⟩) hs
theorem an5:jN X C5:=by
 intro value slice pins s σ H x y v u Q I rx ry h hs
 obtain ⟨z,i,c,rfl,rfl,hz,he,q⟩:=h
 obtain ⟨t,rfl⟩:=rx
 obtain ⟨t',rfl⟩:=ry
 obtain ⟨j,h1,h2,h3,h4,h5⟩:=uL he
 have hl:z.cps.toList.length=z.length:=by simp [Str.length]
 rw [hl] at h1 h4 h5
 have hn:=mG
 exact tail_any (typeIs_str s z t) slot_str_getitem.lookup (getItem_str (c:=c) (by
  have e1:decide (i < -(2 ^ 63:Int))=false:=bc3 (by omega)
  have e2:decide (i >= 2 ^ 63)=false:=bc3 (by omega)
  rw [e1,e2,Bool.or_false]) (by rw [h1]; simpa using h2) ⟨.str ⟨#[c]⟩,H,I.tok _,⟨_,rfl⟩,q⟩) hs
noncomputable def C6 (K:PySem.W.Frag):R2:=fun x y H Q=>C3 K x y H Q ∨ C4 K x y H Q ∨ C5 x y H Q
theorem an6:jN X (C6 X.K):=oA.or (oB.or an5)
theorem an7 (its:List Value) (n j:Nat) (u:Value):Obj.mapSeq (·.setIfInBounds j u) { cls:=.type "list",data:=.seq its.toArray n }={ cls:=.type "list",data:=.seq (its.set j u).toArray n }:=by
 simp [Obj.mapSeq]
theorem a8.lst {pins:List (Addr × Obj)}{σ:St}{H:Hp}{s:Shared}{p:Addr}{xs:List V} (I:a8 X pins σ H s) (h:H p=some (.lst xs)) :
  ∃ (its:List Value) (n:Nat),aN xs its/\s.heap.get? p=some { cls:=.type "list",data:=.seq its.toArray n }/\xs.length<=sizeLine:=by
 obtain ⟨z,its,n,r,e⟩:=I.hok p _ h
 exact⟨its,n,r,e,z⟩
theorem a8.lstUpd {pins:List (Addr × Obj)}{σ:St}{H:Hp}{s:Shared}{p:Addr}{xs ys:List V}{its its':List Value}{n n':Nat}{f:Obj->Obj} (I:a8 X pins σ H s) (h:H p=some (.lst xs))
  (ho:s.heap.get? p=some { cls:=.type "list",data:=.seq its.toArray n }) (hf:f { cls:=.type "list",data:=.seq its.toArray n }={ cls:=.type "list",data:=.seq its'.toArray n' }) (r:aN ys its') (hz:ys.length<=sizeLine) (t:Nat) :
  a8 X pins σ (upd H p (.lst ys)) { s with heap:=s.heap.update p f,toks:=t }:=by
 have e:(s.heap.update p f).get? p=some { cls:=.type "list",data:=.seq its'.toArray n' }:=by
  rw [Heap.get?_update_self f ho (by rw [hf] <;> rfl),hf]
 refine I.write (x:=p) (e:=p) (by rw [h]; trivial) (.inl rfl) (fun b u hb q=>(Heap.get?_update_other _ _ (Ne.symm hb)).trans q) ⟨_,e⟩ ?_
 exact⟨hz,its',n',r,e⟩
noncomputable def uM:V->V->V->Hp->(Hp->Prop)->Prop:=fun o i v H Q=>∃ p xs k j,o = .ref p/\i = .int k/\H p=some (.lst xs)/\gD xs.length k=some j/\Q (upd H p (.lst (xs.set j v)))
theorem an8:zM X uM:=by
 intro pins s σ H o i v ov iv u Q I ro ri rv h
 obtain ⟨p,xs,k,j,rfl,rfl,hp,hj,q⟩:=h
 cases ro
 obtain ⟨t,rfl⟩:=ri
 obtain ⟨its,n,r,ho,hz⟩:=I.lst hp
 obtain ⟨h1,h2,h3,h4⟩:=C0 hj
 have hl:=r.length
 have hn:=mG
 have I':a8 X pins σ (upd H p (.lst (xs.set j v))) { s with heap:=s.heap.update p (Obj.mapSeq (·.setIfInBounds j u)) }:=
  I.lstUpd hp ho (an7 its n j u) (r.set rv j) (by rw [bg1]; exact hz) s.toks
 by_cases h0:0<=k
 ·have hk:k.toNat=j:=by
   rw [seqIndex_of h0 h4] at h1
   exact be3 h1
  exact PySem.W.ki_setAt ho h0 (by omega) (by rw [bb6,<- hl]; exact h4) (by rw [hk]; exact⟨_,I',q⟩)
 ·have hk:(k+(its.toArray.size:Int)).toNat=j:=by
   rw [seqIndex_neg (by omega) h3] at h1
   rw [bb6,<- hl]
   exact be3 h1
  exact PySem.W.ki_setBack ho (by omega) (by rw [bb6,<- hl]; exact h3) (by omega) (by rw [hk]; exact⟨_,I',q⟩)
theorem an9 (lo hi:Option Int) (n:Nat):(sliceBounds lo hi none n).1=((HT.aW n 0 lo:Nat):Int)/\(sliceBounds lo hi none n).2.1=((HT.aW n n hi:Nat):Int)/\(sliceBounds lo hi none n).2.2=1:=by
 refine⟨?_,?_,rfl⟩
 ·cases lo with
  | none=>simp [sliceBounds,HT.aW]
  | some i=>
   simp only [sliceBounds,HT.aW,Option.getD_none,show (1:Int) > 0 by decide,if_true]
   by_cases h:i < 0
   ·simp only [h,if_true] <;> omega
   ·simp only [h,bi5] <;> omega
 ·cases hi with
  | none=>simp [sliceBounds,HT.aW]
  | some i=>
   simp only [sliceBounds,HT.aW,Option.getD_none,show (1:Int) > 0 by decide,if_true]
   by_cases h:i < 0
   ·simp only [h,if_true] <;> omega
   ·simp only [h,bi5] <;> omega
theorem ao0 (its:List Value) (lo hi:Option Int):slicePick its.toArray lo hi none=((its.drop (HT.aW its.length 0 lo)).take (HT.aW its.length its.length hi - HT.aW its.length 0 lo)).toArray:=by
 obtain ⟨h1,h2,h3⟩:=an9 lo hi its.toArray.size
 unfold slicePick
 rw [h1,h2,h3]
 simp only [sliceRange_one,pick_run,bb6] <;> rfl
noncomputable def ao1 (K:PySem.W.Frag):V->Option Int->Option Int->Hp->VK->Prop:=fun x lo hi H Q=>∃ a xs,x = .ref a/\aM K H a xs/\∀ p,H p=none->Q (.ref p) (upd H p (.lst (eQ xs lo hi)))
theorem C7:kH X (ao1 X.K):=by
 intro pins s σ H x v vl vu lo hi sl Q I rx hs pl pu h
 obtain ⟨a,xs,rfl,hx,q⟩:=h
 cases rx
 obtain ⟨its,r,ht,hz⟩:=I.list hx
 have hlen:=r.length
 refine⟨"list",_,slot_list_getitem.lookup,ht.isList.typeIs,?_⟩
 refine wpAny_getItem_list_slice ht.isList hs pl pu .none (by simp) ?_ (by rw [bb6] <;> omega)
 rw [ao0,<- hlen]
 refine⟨.ref s.heap.objs.size,_,I.laid (t':=s.toks) (o:=.lst (eQ xs lo hi)) (fun b ob q=>bb7 _ q) (bc5 _) ?_,rfl,q _ (I.hok.fresh (bc5 _))⟩
 exact⟨bg5 (B9 xs lo hi) hz,_,0,(r.drop (HT.aW xs.length 0 lo)).take (HT.aW xs.length xs.length hi - HT.aW xs.length 0 lo),be1 _ rfl⟩
noncomputable def jP:V->Bool
 | .non=>true
 | .bl _=>true
 | .int _=>true
 | .str _=>true
 | _=>false
noncomputable def iA:V->V->Bool
 | .non,.non=>true
 | .bl a,.bl b=>a == b
 | .bl a,.int b=>(if a then 1 else 0) == b
 | .int a,.bl b=>a == (if b then 1 else 0)
 | .int a,.int b=>a == b
 | .str a,.str b=>a == b
 | _,_=>false
theorem ao2 {A:Around}{s:Shared}{y x:V}{u v:Value} (ry:aY y u) (rx:aY x v) (fy:jP y=true) (fx:jP x=true):SeqAt.EqAt A s u v (iA y x):=by
 cases y with
 | non=>
  cases ry
  cases x with
  | non=>cases rx; exact SeqAt.EqAt.same _
  | bl b=>cases rx; exact SeqAt.EqAt.none_bool b
  | int b=>obtain ⟨t,rfl⟩:=rx; exact SeqAt.EqAt.none_int b t
  | str b=>obtain ⟨t,rfl⟩:=rx; exact SeqAt.EqAt.none_str b t
  | _=>exact absurd (show false=true from fx) bd9
 | bl a=>
  cases ry
  cases x with
  | non=>cases rx; exact SeqAt.EqAt.bool_none a
  | bl b=>cases rx; exact SeqAt.EqAt.bool_bool a b
  | int b=>obtain ⟨t,rfl⟩:=rx; exact SeqAt.EqAt.bool_int a b t
  | str b=>obtain ⟨t,rfl⟩:=rx; exact SeqAt.EqAt.bool_str a b t
  | _=>exact absurd (show false=true from fx) bd9
 | int a=>
  obtain ⟨t',rfl⟩:=ry
  cases x with
  | non=>cases rx; exact SeqAt.EqAt.int_none a t'
  | bl b=>cases rx; exact SeqAt.EqAt.int_bool a t' b
  | int b=>obtain ⟨t,rfl⟩:=rx; exact SeqAt.EqAt.int_int a t' b t
  | str b=>obtain ⟨t,rfl⟩:=rx; exact SeqAt.EqAt.int_str a t' b t
  | _=>exact absurd (show false=true from fx) bd9
 | str a=>
  obtain ⟨t',rfl⟩:=ry
  cases x with
  | non=>cases rx; exact SeqAt.EqAt.str_none a t'
  | bl b=>cases rx; exact SeqAt.EqAt.str_bool a t' b
  | int b=>obtain ⟨t,rfl⟩:=rx; exact SeqAt.EqAt.str_int a t' b t
  | str b=>obtain ⟨t,rfl⟩:=rx; exact SeqAt.EqAt.str_str a t' b t
  | _=>exact absurd (show false=true from fx) bd9
 | _=>exact absurd (show false=true from fy) bd9
noncomputable def jQ (x:V) (u:Value):Bool:=match u with
 | .none=>iA .non x
 | .bool b=>iA (.bl b) x
 | .int i _=>iA (.int i) x
 | .str z _=>iA (.str z) x
 | _=>false
theorem C8 {x y:V}{u:Value} (r:aY y u) (f:jP y=true):jQ x u=iA y x:=by
 cases y with
 | non=>cases r; rfl
 | bl b=>cases r; rfl
 | int i=>obtain ⟨t,rfl⟩:=r; rfl
 | str z=>obtain ⟨t,rfl⟩:=r; rfl
 | _=>exact absurd (show false=true from f) bd9
theorem uN {x:V}:∀ {xs:List V}{us:List Value},aN xs us->xs.all jP=true->us.any (jQ x)=xs.any fun y=>iA y x
 | _,_,.nil,_=>rfl
 | y :: xs,u :: us,.cons r t,f=>by
  rw [List.all_cons,bg2] at f
  rw [bo9,bo9,C8 r f.1,uN t f.2]
theorem uO {A:Around}{s:Shared}{x:V}{v:Value} (rx:aY x v) (fx:jP x=true):∀ {xs:List V}{us:List Value},aN xs us->xs.all jP=true->∀ u ∈ us,SeqAt.EqAt A s u v (jQ x u)
 | _,_,.nil,_=>fun u hu=>by cases hu
 | y :: xs,u :: us,.cons r t,f=>fun u' hu=>by
  rw [List.all_cons,bg2] at f
  rcases bd0.mp hu with rfl | hu
  ·rw [C8 r f.1]; exact ao2 r rx f.1 fx
  ·exact uO rx fx t f.2 u' hu
noncomputable def oC (x:V) (xs:List V):Bool:=xs.any fun y=>iA y x
noncomputable def C9 (K:PySem.W.Frag) (neg:Bool):R2:=fun x y H Q=>∃ p xs,y = .ref p/\(aM K H p xs ∨ aR K H p xs)/\jP x=true/\xs.all jP=true/\Q (.bl (if neg then !oC x xs else oC x xs)) H
theorem ao3:cQ X (compareOp .NotIn) (C9 X.K true):=by
 intro pins s σ H x y v u Q I rx ry h
 obtain ⟨p,xs,rfl,hq,fx,fs,q⟩:=h
 cases ry
 rcases hq with hq | hq
 ·obtain ⟨its,r,pl,hz⟩:=I.list hq
  refine SeqAt.notIn_listAt (jQ x) pl.isList (fun w hw=>uO rx fx r fs w (by simpa using hw)) ⟨.bl _,H,I,rfl,?_⟩
  rw [show its.toArray.any (jQ x)=its.any (jQ x) by simp,uN r fs]
  exact q
 ·obtain ⟨its,r,pl,hz⟩:=I.tuple hq
  refine SeqAt.notIn_tupleAt (jQ x) pl (fun w hw=>uO rx fx r fs w (by simpa using hw)) ⟨.bl _,H,I,rfl,?_⟩
  rw [show its.toArray.any (jQ x)=its.any (jQ x) by simp,uN r fs]
  exact q
theorem ao4:cX X (.builtin "len") (fun xs H Q=>∃ p ys,xs = [.ref p]/\(aM X.K H p ys ∨ aR X.K H p ys)/\Q (.int ys.length) H):=by
 intro pins s σ H xs us Q I r h
 obtain ⟨p,ys,rfl,hq,q⟩:=h
 obtain ⟨u,rfl,rx⟩:=gN r
 cases rx
 have hn:=mG
 rcases hq with hq | hq
 ·obtain ⟨its,r',pl,hz⟩:=I.list hq
  have hlen:=r'.length
  exact Calls.call_len_list pl.isList (by simp only [bb6] <;> omega) ⟨.int ys.length,H,I.tok _,⟨s.toks+1,by rw [bb6,hlen]⟩,q⟩
 ·obtain ⟨its,r',pl,hz⟩:=I.tuple hq
  have hlen:=r'.length
  exact len_tuple pl (by simp only [bb6] <;> omega) ⟨.int ys.length,H,I.tok _,⟨s.toks+1,by rw [bb6,hlen]⟩,q⟩
theorem cX.or {f:Value}{r r':List V->Hp->VK->Prop} (h:cX X f r) (h':cX X f r'):cX X f (fun xs H Q=>r xs H Q ∨ r' xs H Q):=by
 intro pins s σ H xs us Q I rs q
 rcases q with q | q
 ·exact h pins s σ H xs us Q I rs q
 ·exact h' pins s σ H xs us Q I rs q
theorem ao5:cX X (.type "list") (fun xs H Q=>∃ p ys,xs = [.ref p]/\(aM X.K H p ys ∨ aR X.K H p ys)/\∀ l,H l=none->Q (.ref l) (upd H l (.lst ys))):=by
 intro pins s σ H xs us Q I r h
 obtain ⟨p,ys,rfl,hq,q⟩:=h
 obtain ⟨u,rfl,rx⟩:=gN r
 cases rx
 have fin:∀ (its:List Value),aN ys its->ys.length<=sizeLine->∀ (h':Heap) (c':Nat),(∀ b o',s.heap.get? b=some o'->h'.get? b=some o')->
   h'.get? s.heap.objs.size=some { cls:=.type "list",dict:=none,data:=.seq its.toArray c',slots:=#[] }->EP X pins σ Q (.ref s.heap.objs.size) { s with heap:=h' }:=fun its r' hz h' c' kp e=>
  ⟨.ref s.heap.objs.size,_,I.laid (t':=s.toks) kp (bc5 _) (show bY X.prog X.w _ h' _ (.lst ys) from ⟨hz,its,c',r',e⟩),rfl,q _ (I.hok.fresh (bc5 _))⟩
 rcases hq with hq | hq
 ·obtain ⟨its,r',pl,hz⟩:=I.list hq
  have hlen:=r'.length
  obtain ⟨o,ho,hc,n,hd⟩:=pl.isList
  exact call_list_seq p (.inl rfl) ho hc hd (fun h' c' kp e=>fin its r' hz h' c' kp e) (by simp only [bb6] <;> omega)
 ·obtain ⟨its,r',pl,hz⟩:=I.tuple hq
  have hlen:=r'.length
  obtain ⟨o,ho,hc,n,hd⟩:=pl
  exact call_list_seq p (.inr rfl) ho hc hd (fun h' c' kp e=>fin its r' hz h' c' kp e) (by simp only [bb6] <;> omega)
theorem ao6:cX X (.type "tuple") (fun xs H Q=>∃ p ys,xs = [.ref p]/\((aM X.K H p ys/\∀ l,H l=none->Q (.ref l) (upd H l (.tup ys))) ∨ (aR X.K H p ys/\Q (.ref p) H))):=by
 intro pins s σ H xs us Q I r h
 obtain ⟨p,ys,rfl,h⟩:=h
 obtain ⟨u,rfl,rx⟩:=gN r
 cases rx
 rcases h with ⟨hq,q⟩ | ⟨hq,q⟩
 ·obtain ⟨its,r',pl,hz⟩:=I.list hq
  have hlen:=r'.length
  refine call_tuple_list pl.isList (fun h' kp=>?_) (by simp only [bb6] <;> omega)
  have I1:a8 X pins σ H { s with heap:=h' }:=I.kept (t':=s.toks) kp
  have I2:a8 X pins σ (upd H h'.objs.size (.tup ys)) { s with heap:=h'.push { cls:=.type "tuple",data:=.seq its.toArray } }:=
   I1.laid (t':=s.toks) (fun b o e=>bb7 _ e) (bc5 _) (show bY X.prog X.w _ _ _ (.tup ys) from ⟨hz,its,r',IsTup.new _ _,jE.new _ _ rfl⟩)
  exact⟨.ref h'.objs.size,_,I2,rfl,q _ (I1.hok.fresh (bc5 _))⟩
 ·obtain ⟨its,r',pl,hz⟩:=I.tuple hq
  exact call_tuple_same pl ⟨.ref p,H,I,rfl,q⟩
noncomputable def hG (K:PySem.W.Frag) (T:String) (x:V) (H:Hp):Prop:=match x with
 | .str _=>T="str"
 | .int _=>T="int"
 | .ref p=>(T="list"/\∃ xs,aM K H p xs) ∨ (T="tuple"/\∃ o,K.lookup p=some o/\o.cls = .type "tuple"/\o.dict=none) ∨
   (T="dict"/\((∃ kvs,H p=some (.dK kvs)) ∨ ∃ kvs,H p=some (.dT kvs))) ∨ (T="set"/\∃ S n,H p=some (.set S n))
 | _=>False
theorem E1 {pins:List (Addr × Obj)}{σ:St}{H:Hp}{s:Shared}{T:String}{x:V}{v:Value} (I:a8 X pins σ H s) (r:aY x v) (ty:hG X.K T x H) :
  s.TypeIs v T/\∀ a,v = .ref a->∃ ob,s.heap.get? a=some ob/\ob.dict=none:=by
 cases x with
 | str z=>
  obtain ⟨t,rfl⟩:=r
  cases (show T="str" from ty)
  exact⟨typeIs_str s z t,fun _ e=>nomatch e⟩
 | int i=>
  obtain ⟨t,rfl⟩:=r
  cases (show T="int" from ty)
  exact⟨typeIs_int s i t,fun _ e=>nomatch e⟩
 | ref p=>
  cases r
  rcases ty with ⟨rfl,xs,hq⟩ | ⟨rfl,o,hk,hc,hd⟩ | ⟨rfl,hk⟩ | ⟨rfl,S,n,hk⟩
  ·obtain ⟨its,_,pl,_⟩:=I.list hq
   refine⟨pl.isList.typeIs,fun a e=>?_⟩
   cases e
   obtain ⟨o,n,e,c,hd,_⟩:=pl
   exact⟨o,e,hd⟩
  ·refine⟨⟨o,I.kIn p o hk,hc⟩,fun a e=>?_⟩
   cases e
   exact⟨o,I.kIn _ o hk,hd⟩
  ·have z:∃ o,s.heap.get? p=some o/\o.ExactDict:=by
    rcases hk with ⟨kvs,hk⟩ | ⟨kvs,hk⟩
    ·obtain ⟨_,_,_,_,o,_,_,e,ex,_⟩:=I.hok p _ hk
     exact⟨o,e,ex⟩
    ·obtain ⟨_,_,_,_,o,_,_,e,ex,_⟩:=I.hok p _ hk
     exact⟨o,e,ex⟩
   obtain ⟨o,e,ex⟩:=z
   refine⟨⟨o,e,ex.1⟩,fun a e2=>?_⟩
   cases e2
   exact⟨o,e,ex.2.1⟩
  ·obtain ⟨o,_,_,_,e,ex,_⟩:=I.hok p _ hk
   refine⟨⟨o,e,ex.1⟩,fun a e2=>?_⟩
   cases e2
   exact⟨o,e,ex.2.1⟩
 | _=>exact False.elim ty
noncomputable def E2 (K:PySem.W.Frag) (T:String) (r:V->List V->Hp->VK->Prop) (to:TE):TE:=fun σ H Q=>to σ H fun x H1=>hG K T x H1/\r x [] H1 Q
noncomputable def qL (K:PySem.W.Frag) (T:String) (r:V->List V->Hp->VK->Prop) (to:TE) (t:TA):TE:=fun σ H Q=>to σ H fun x H1=>hG K T x H1/\t σ H1 fun xs H2=>r x xs H2 Q
variable {o e : Expr} {es : List Expr} {to : TE} {t : TA} {name : Str} {apos cpos : Pos} {T id : String} {r : V → List V → Hp → VK → Prop}
theorem ao7 (pa:PlainAttrs T) (slot:Slot T name id) (hty:typeOf (.builtin id)=pure (.type "method_descriptor")) (hm:C2 X id r) (ho:PE X o to)
  (hbase:attributeBase o name X.env (eval o X.env)=eval o X.env:=by rfl) (hline:(apos.endLine == cpos.line)=true:=by rfl):PE X (.Call (.Attribute o name apos) [] [] cpos) (E2 X.K T r to):=by
 intro pins s σ H Q I h
 refine wpAny_Call_method0_late hbase hline (aQ (ho pins s σ H _ I h) fun v s1 ⟨x,H1,I1,r1,ty,q1⟩=>?_)
 obtain ⟨h1,h2⟩:=E1 I1 r1 ty
 exact⟨T,id,pa,slot,hty,h1,h2,Calls.callWith_builtin rfl (PySem.evalArgs_none (hm pins s1 σ H1 x [] v [] Q I1 r1 .nil q1))⟩
theorem lJ (pa:PlainAttrs T) (slot:Slot T name id) (hty:typeOf (.builtin id)=pure (.type "method_descriptor")) (hm:C2 X id r) (ho:PE X o to) (ha:PA X (e :: es) t)
  (hbase:attributeBase o name X.env (eval o X.env)=eval o X.env:=by rfl)
  (hfew:((backTo cpos (starEach (e :: es) X.env)).all (fun x=>!x.1) && (backToKw cpos (keywordEach [] X.env)).all (fun x=>x.1.isSome)
   && decide ((e :: es).length+([]:List Keyword).length+(if ([]:List Keyword).isEmpty then 0 else 1) < 30))=true:=by rfl)
  (hline:(apos.endLine == cpos.line)=true:=by rfl) (hs:starEach (e :: es) X.env=(false,eval e X.env) :: starEach es X.env:=by rfl) (hplain:(backTo cpos (starEach es X.env)).any (·.1)=false:=by rfl) :
  PE X (.Call (.Attribute o name apos) (e :: es) [] cpos) (qL X.K T r to t):=by
 intro pins s σ H Q I h
 refine wpAny_Call_method_late hbase hfew hline rfl (aQ (ho pins s σ H _ I h) fun v s1 ⟨x,H1,I1,r1,ty,q1⟩=>?_)
 obtain ⟨h1,h2⟩:=E1 I1 r1 ty
 refine⟨T,id,pa,slot,hty,h1,h2,?_⟩
 have hA:=ha cpos pins s1 σ H1 _ I1 q1
 rw [hs] at hA ⊢
 refine Calls.callWith_builtin (by show (false || (backTo cpos (starEach es X.env)).any (·.1))=false; rw [hplain] <;> rfl) (Calls.evalArgs_plain ?_)
 exact aQ hA fun us s2 ⟨vs,H2,I2,r2,q2⟩=>hm pins s2 σ H2 x vs v us Q I2 r1 r2 q2
end
noncomputable def mH (X:Cx) (id:String) (r:V->List V->Hp->VK->Prop):Prop:=
 ∀ (pins:List (Addr × Obj)) (s:Shared) (σ:St) (H:Hp) (x:V) (xs:List V) (v:Value) (us:List Value) (Q:VK),a8 X pins σ H s->aY x v->aN xs us->r x xs H Q->
  wpAny (model X.prog X.w) X.A (call (.builtin id) (v :: us)) (EP X pins σ Q) X.xe s
theorem aN.one {x:V}{us:List Value} (h:aN [x] us):∃ u,us = [u]/\aY x u:=by
 cases h with
 | cons r t=>
  cases t
  exact⟨_,rfl,r⟩
theorem aN.two {x y:V}{us:List Value} (h:aN [x,y] us):∃ u v,us = [u,v]/\aY x u/\aY y v:=by
 cases h with
 | cons r t=>
  cases t with
  | cons q t=>
   cases t
   exact⟨_,_,rfl,r,q⟩
theorem aN.zero:∀ {us:List Value},aN [] us->us = []
 | _,.nil=>rfl
theorem aN.dropLast {xs:List V}{us:List Value} (h:aN xs us):aN xs.dropLast us.dropLast:=by
 induction h with
 | nil=>exact .nil
 | cons r t ih=>
  cases t with
  | nil=>exact .nil
  | cons q t'=>exact .cons r ih
theorem aN.rep {xs:List V}{us:List Value} (h:aN xs us):∀ k:Nat,aN (List.replicate k xs).flatten (List.replicate k us).flatten
 | 0=>.nil
 | k+1=>by
  rw [bg4,bg4,bl2,bl2]
  exact aN.append h (aN.rep h k)
theorem ao8 {α:Type} (l:List α):l.eraseIdx (l.length - 1)=l.dropLast:=by
 induction l with
 | nil=>rfl
 | cons a r ih=>
  cases r with
  | nil=>rfl
  | cons b r=>
   have e:(a :: b :: r).length - 1=((b :: r).length - 1)+1:=by
    have h1:(a :: b :: r).length=r.length+2:=rfl
    have h2:(b :: r).length=r.length+1:=rfl
    omega
   rw [e,List.eraseIdx_cons_succ,ih]
   all_goals rfl
theorem E3 (its:List Value):∀ (k:Nat) (acc:List Value),
  List.foldl (fun x1 x2=>x1 ++ x2) acc.toArray (List.replicate k its.toArray)=(acc ++ (List.replicate k its).flatten).toArray
 | 0,acc=>by simp
 | k+1,acc=>by
  have e:acc.toArray ++ its.toArray=(acc ++ its).toArray:=by simp
  have e2:(acc ++ its) ++ (List.replicate k its).flatten=acc ++ (List.replicate (k+1) its).flatten:=by
   rw [bg4,bl2,List.append_assoc]
  rw [<- e2,<- E3 its k (acc ++ its),<- e,bg4,List.foldl_cons]
section
variable {X : Cx} {pins : List (Addr × Obj)} {σ : St} {H : Hp} {s : Shared} {l b : Addr} {xs ys zs : List V}
theorem a8.lset {its its':List Value}{n:Nat}{f:Array Value->Array Value}{t':Nat} (I:a8 X pins σ H s) (hH:H l=some (.lst xs))
  (e:s.heap.get? l=some { cls:=.type "list",data:=.seq its.toArray n }) (hf:f its.toArray=its'.toArray) (hv:aN ys its') (hz:ys.length<=sizeLine) :
  a8 X pins σ (upd H l (.lst ys)) { s with heap:=s.heap.update l (Obj.mapSeq f),toks:=t' }:=by
 have q:=PySem.IsL.update e f
 rw [hf] at q
 refine I.write (x:=l) (e:=l) (by rw [hH]; exact trivial) (.inl rfl) (fun b' u hb hu=>(Heap.get?_update_other s.heap (Obj.mapSeq f) (Ne.symm hb)).trans hu) ⟨_,q⟩ ?_
 exact⟨hz,its',_,hv,q⟩
theorem a8.lnew {its:List Value}{t':Nat} (I:a8 X pins σ H s) (hv:aN ys its) (hz:ys.length<=sizeLine) :
  a8 X pins σ (upd H s.heap.objs.size (.lst ys)) { s with heap:=s.heap.push { cls:=.type "list",data:=.seq its.toArray },toks:=t' }:=
 I.laid (fun _ _ q=>bb7 _ q) (bc5 _) ⟨hz,its,0,hv,be1 _ rfl⟩
theorem a8.fresh (I:a8 X pins σ H s):H s.heap.objs.size=none:=I.hok.fresh (bc5 _)
theorem a8.lstM (I:a8 X pins σ H s) (hH:H l=some (.lst xs)):xs.length<=sizeLine/\∃ (its:List Value) (n:Nat),aN xs its/\xs.length=its.length/\s.heap.get? l=some { cls:=.type "list",data:=.seq its.toArray n }:=by
 obtain ⟨z,its,n,r,e⟩:=I.hok l _ hH
 exact⟨z,its,n,r,r.length,e⟩
theorem uP {n:Nat} (h:n<=sizeLine):Builtin.List.listTooLong n=false:=by
 unfold Builtin.List.listTooLong
 exact bc3 (by omega)
end
section
variable {X : Cx}
noncomputable def E4:V->List V->Hp->VK->Prop:=fun x vs H Q=>∃ l xs y,x = .ref l/\vs = [y]/\H l=some (.lst xs)/\xs.length < sizeLine/\Q .non (upd H l (.lst (xs ++ [y])))
theorem mI:mH X "list.append" E4:=by
 intro pins s σ H x vs v us Q I rx rv h
 obtain ⟨l,xs,y,rfl,rfl,hH,hz,q⟩:=h
 cases rx
 obtain ⟨u,rfl,ru⟩:=rv.one
 obtain ⟨z,its,n,r,hl,e⟩:=I.lstM hH
 refine call_meets F.slot_list_append ⟨_,e,rfl⟩ F.entry_list_append (F.args_list_append_2 _ _) (PySem.list_append l its.toArray n u (by rw [bb6]; omega)) ⟨e,?_⟩
 refine⟨.non,_,I.lset (its':=its ++ [u]) hH e (by simp) (r.append (.cons ru .nil)) ?_,rfl,q⟩
 rw [bd3,bf6]
 omega
noncomputable def E5:V->List V->Hp->VK->Prop:=fun x vs H Q=>∃ l b xs zs,x = .ref l/\vs = [.ref b]/\H l=some (.lst xs)/\H b=some (.lst zs)/\xs.length+zs.length<=sizeLine/\Q .non (upd H l (.lst (xs ++ zs)))
theorem ao9:mH X "list.extend" E5:=by
 intro pins s σ H x vs v us Q I rx rv h
 obtain ⟨l,b,xs,zs,rfl,rfl,hH,hB,hz,q⟩:=h
 cases rx
 obtain ⟨u,rfl,ru⟩:=rv.one
 cases ru
 obtain ⟨z,its,n,r,hl,e⟩:=I.lstM hH
 obtain ⟨z2,its2,n2,r2,hl2,e2⟩:=I.lstM hB
 have hsz:its.toArray.size+its2.toArray.size<=sizeLine:=by rw [bb6,bb6]; omega
 have hlong : ¬ (!its.toArray.isEmpty && Builtin.List.listTooLong (its.toArray.size+its2.toArray.size))=true:=by
  rw [uP hsz,bm4]
  exact bd9
 refine call_meets F.slot_list_extend ⟨_,e,rfl⟩ F.entry_list_extend (F.args_list_extend_2 _ _)
  (AutoSeq1.list_extend_list_list_0 l its.toArray n b its2.toArray n2 hlong (by rw [bb6]; omega) (by omega)) ⟨e,e2,?_⟩
 refine⟨.non,_,I.lset (its':=its ++ its2) hH e (by simp) (r.append r2) ?_,rfl,q⟩
 rw [bd3]
 omega
noncomputable def E6:V->List V->Hp->VK->Prop:=fun x vs H Q=>∃ l xs y,x = .ref l/\vs = []/\H l=some (.lst xs)/\xs[xs.length - 1]? = some y/\Q y (upd H l (.lst xs.dropLast))
theorem ap0:mH X "list.pop" E6:=by
 intro pins s σ H x vs v us Q I rx rv h
 obtain ⟨l,xs,y,rfl,rfl,hH,hy,q⟩:=h
 cases rx
 have hus:=rv.zero
 subst hus
 obtain ⟨z,its,n,r,hl,e⟩:=I.lstM hH
 obtain ⟨u,hu,ru⟩:=r.get hy
 have hy':its.toArray[its.toArray.size - 1]? = some u:=by
  show its.toArray[its.length - 1]? = some u
  rw [<- Array.getElem?_toList,<- hl]
  exact hu
 refine call_meets F.slot_list_pop ⟨_,e,rfl⟩ F.entry_list_pop (F.args_list_pop_1 _) (MeetsSeq.list_pop_last l its.toArray n u hy' (by rw [bb6]; omega)) ⟨e,?_⟩
 refine⟨y,_,I.lset (its':=its.dropLast) hH e ?_ r.dropLast ?_,ru,q⟩
 ·show its.toArray.eraseIdxIfInBounds (its.toArray.size - 1)=its.dropLast.toArray
  rw [bb6,List.eraseIdxIfInBounds_toArray,ao8]
 ·rw [List.length_dropLast]
  omega
noncomputable def E7:R2:=fun x y H Q=>∃ l b xs zs,x = .ref l/\y = .ref b/\H l=some (.lst xs)/\H b=some (.lst zs)/\xs.length+zs.length<=sizeLine/\∀ p,H p=none->Q (.ref p) (upd H p (.lst (xs ++ zs)))
theorem ap1:cQ X (binaryOp .Add) E7:=by
 intro pins s σ H x y v u Q I rx ry h
 obtain ⟨l,b,xs,zs,rfl,rfl,hH,hB,hz,q⟩:=h
 cases rx
 cases ry
 obtain ⟨z,its,n,r,hl,e⟩:=I.lstM hH
 obtain ⟨z2,its2,n2,r2,hl2,e2⟩:=I.lstM hB
 refine PySem.P.add_list e e2 ?_ (by rw [bb6,bb6]; omega)
 have ea:its.toArray ++ its2.toArray=(its ++ its2).toArray:=by simp
 rw [ea]
 exact⟨.ref _,_,I.lnew (t':=s.toks) (r.append r2) (by rw [bd3]; omega),rfl,q _ I.fresh⟩
noncomputable def E8:R2:=fun x y H Q=>∃ l k xs,x = .ref l/\y = .int k/\H l=some (.lst xs)/\-(2 ^ 63)<=k/\k < 2 ^ 63/\xs.length * k.toNat<=sizeLine/\
 ∀ p,H p=none->Q (.ref p) (upd H p (.lst (List.replicate k.toNat xs).flatten))
theorem ap2 {α:Type} (xs:List α) (k:Nat):(List.replicate k xs).flatten.length=k * xs.length:=by
 induction k with
 | zero=>simp
 | succ k ih=>rw [bg4,bl2,bd3,ih,Nat.succ_mul,Nat.add_comm]
theorem ap3:cQ X (binaryOp .Mult) E8:=by
 intro pins s σ H x y v u Q I rx ry h
 obtain ⟨l,k,xs,rfl,rfl,hH,h1,h2,hz,q⟩:=h
 cases rx
 obtain ⟨t,rfl⟩:=ry
 obtain ⟨z,its,n,r,hl,e⟩:=I.lstM hH
 have hlen:its.toArray.size * k.toNat<=sizeLine:=by rw [bb6,<- hl]; exact hz
 have hcap : ¬ its.toArray.size * k.toNat > (2 ^ 63 - 1) / 8:=by
  have:(sizeLine:Nat)<=(2 ^ 63 - 1) / 8:=by decide
  omega
 have hfit : ¬ (!Builtin.List.listFitsIndex k)=true:=by
  rw [fitsIndex_both h1 h2]
  exact bd9
 have hlong : ¬ Builtin.List.listTooLong (its.toArray.size * k.toNat)=true:=by
  rw [uP hlen]
  exact bd9
 have hnew:List.foldl (fun x1 x2=>x1 ++ x2) #[] (List.replicate (if its.toArray.isEmpty=true then 0 else k.toNat) its.toArray)=(List.replicate k.toNat its).flatten.toArray:=by
  have f0:∀ m:Nat,List.foldl (fun x1 x2=>x1 ++ x2) #[] (List.replicate m its.toArray)=(List.replicate m its).flatten.toArray:=fun m=>by
   have:=E3 its m []
   rw [List.nil_append] at this
   exact this
  rw [f0]
  cases its with
  | nil=>simp
  | cons a r'=>rw [if_neg (by simp)]
 refine wpAny_binaryOp_repeat_ref (T:="list") (U:="int") (by decide) ⟨_,e,rfl⟩ (fun s'=>typeIs_int s' k t) noFill_list_mul F.fills_int_mul F.slot_int_rmul repeat_list F.slot_int_index.lookup
  (call_meets F.slot_int_rmul (typeIs_int s k t) F.entry_int_rmul (F.args_int_rmul_2 _ _) (int___rmul___int_list k t l its.toArray n)
   ⟨e,rfl,⟨_,e,rfl⟩,call_meets F.slot_list_mul ⟨_,e,rfl⟩ F.entry_list_mul (F.args_list_mul_2 _ _) (AutoListH.list___mul___list_int_3 l its.toArray n k t hfit hcap hlong) ⟨e,?_⟩⟩)
 rw [hnew]
 exact⟨.ref _,_,I.lnew (t':=s.toks) (r.rep k.toNat) (by rw [ap2,Nat.mul_comm]; exact hz),rfl,q _ I.fresh⟩
end
section
variable {κ : Type} [DecidableEq κ]
noncomputable def fN (kvs:List (κ × V)) (k:κ):Option V:=(kvs.find? fun kv=>decide (kv.1=k)).map (·.2)
noncomputable def eD (kvs:List (κ × V)) (k:κ) (v:V):List (κ × V):=
 if (kvs.any fun kv=>decide (kv.1=k))=true then kvs.map (fun kv=>if kv.1=k then (kv.1,v) else kv) else kvs ++ [(k,v)]
theorem uQ {p:κ × V}{r:List (κ × V)}{k:κ} (e:p.1=k):fN (p :: r) k=some p.2:=by simp [fN,bl8,e]
theorem uR {p:κ × V}{r:List (κ × V)}{k:κ} (e : ¬ p.1=k):fN (p :: r) k=fN r k:=by simp [fN,bl8,e]
theorem E9 (k:κ):∀ kvs:List (κ × V),(kvs.any fun kv=>decide (kv.1=k))=(fN kvs k).isSome
 | []=>rfl
 | p :: r=>by
  rw [bo9]
  by_cases e:p.1=k
  ·simp only [uQ e,bc0 e,Bool.true_or,Option.isSome_some]
  ·rw [uR e,bc3 e,Bool.false_or]; exact E9 k r
theorem uS (kvs:List (κ × V)) (k:κ) (v:V):(eD kvs k v).length<=kvs.length+1:=by
 unfold eD
 split
 ·rw [bb8]; omega
 ·rw [bd3,be6,List.length_nil]; omega
theorem lB.isSome_eq {o:Option V}{u:Option Value} (r:lB o u):o.isSome=u.isSome:=by
 cases o with
 | none=>cases u with
  | none=>rfl
  | some _=>exact (show False from r).elim
 | some _=>cases u with
  | none=>exact (show False from r).elim
  | some _=>rfl
theorem KV.val {kvs:List (κ × V)}{vs:List (κ × Value)} (r:KV kvs vs) (k:κ):lB (fN kvs k) (valueAt vs k):=by
 unfold KV at r
 induction r with
 | nil=>exact bq2
 | @cons p q ps qs h t ih=>
  obtain ⟨h1,h2⟩:=h
  by_cases e:p.1=k
  ·have e':q.1=k:=h1.symm.trans e
   have b:valueAt (q :: qs) k=some q.2:=by simp [valueAt,bl8,e']
   rw [uQ e,b]; exact h2
  ·have e' : ¬ q.1=k:=fun z=>e (h1.trans z)
   have b:valueAt (q :: qs) k=valueAt qs k:=by simp [valueAt,bl8,e']
   rw [uR e,b]; exact ih
theorem KV.any {kvs:List (κ × V)}{vs:List (κ × Value)} (r:KV kvs vs) (k:κ):(kvs.any fun kv=>decide (kv.1=k))=vs.any fun kv=>decide (kv.1=k):=by
 unfold KV at r
 induction r with
 | nil=>rfl
 | cons h t ih=>rw [bo9,bo9,ih,h.1]
theorem KV.repl {kvs:List (κ × V)}{vs:List (κ × Value)} (r:KV kvs vs) (k:κ) {y:V}{u:Value} (ry:aY y u) :
  KV (kvs.map fun kv=>if kv.1=k then (kv.1,y) else kv) (vs.map fun kv=>if kv.1=k then (kv.1,u) else kv):=by
 unfold KV at r ⊢
 induction r with
 | nil=>exact .nil
 | @cons p q ps qs h t ih=>
  rw [bi1,bi1]
  refine .cons ?_ ih
  obtain ⟨h1,h2⟩:=h
  by_cases e:p.1=k
  ·rw [if_pos e,if_pos (h1.symm.trans e)]; exact⟨h1,ry⟩
  ·rw [if_neg e,if_neg (fun z=>e (h1.trans z))]; exact⟨h1,h2⟩
theorem KV.put {kvs:List (κ × V)}{vs:List (κ × Value)} (r:KV kvs vs) (k:κ) {y:V}{u:Value} (ry:aY y u):KV (eD kvs k y) (stored vs k u):=by
 unfold eD stored
 rw [r.any k]
 by_cases e:(vs.any fun kv=>decide (kv.1=k))=true
 ·rw [if_pos e,if_pos e]; exact r.repl k ry
 ·rw [if_neg e,if_neg e]; exact Paired.snoc r ⟨rfl,ry⟩
theorem KV.length {kvs:List (κ × V)}{vs:List (κ × Value)} (r:KV kvs vs):kvs.length=vs.length:=Paired.length r
end
theorem oD {P:Program}{w:World}{k:aJ}{u:Value} (r:aY (kV k) u):(eY P w).is k u=true:=by
 cases k with
 | inl i=>obtain ⟨t,e⟩:=(show ∃ t,u=Value.int i t from r); subst e; exact ag5 P w i t
 | inr x=>obtain ⟨t,e⟩:=(show ∃ t,u=Value.str x t from r); subst e; exact ag6 P w x t
theorem F0 {P:Program}{w:World}:∀ {ks:List aJ}{us:List Value},aN (ks.map kV) us->ItemsAre (eY P w) ks us
 | [],_,r=>by rw [List.map_nil] at r; cases r; exact .nil
 | k :: ks,_,r=>by
  rw [bi1] at r
  cases r with
  | cons h t=>exact .cons (oD h) (F0 t)
noncomputable abbrev KT (H:Hp):List (List aJ × V)->List (List aJ × Addr × Value)->Prop:=Paired fun p q=>p.1=q.1/\H q.2.1=some (.tup (p.1.map kV))/\aY p.2 q.2.2
theorem KT.val {H:Hp}{kvs:List (List aJ × V)}{xs:List (List aJ × Addr × Value)} (r:KT H kvs xs) (k:List aJ):lB (fN kvs k) ((atKey xs k).map (·.2)):=by
 induction r with
 | nil=>exact bq2
 | @cons p q ps qs h t ih=>
  obtain ⟨h1,_,h2⟩:=h
  by_cases e:p.1=k
  ·have e':q.1=k:=h1.symm.trans e
   have b:atKey (q :: qs) k=some q.2:=by simp [atKey,bl8,e']
   rw [uQ e,b]; exact h2
  ·have e' : ¬ q.1=k:=fun z=>e (h1.trans z)
   have b:atKey (q :: qs) k=atKey qs k:=by simp [atKey,bl8,e']
   rw [uR e,b]; exact ih
theorem KT.repl {H:Hp}{kvs:List (List aJ × V)}{xs:List (List aJ × Addr × Value)} (r:KT H kvs xs) (k:List aJ) {y:V}{u:Value} (ry:aY y u) :
  KT H (kvs.map fun kv=>if kv.1=k then (kv.1,y) else kv) (xs.map (putAt k u)):=by
 induction r with
 | nil=>exact .nil
 | @cons p q ps qs h t ih=>
  rw [bi1,bi1]
  refine .cons ?_ ih
  obtain ⟨h1,h2,h3⟩:=h
  unfold putAt
  by_cases e:p.1=k
  ·rw [if_pos e,if_pos (h1.symm.trans e)]; exact⟨h1,h2,ry⟩
  ·rw [if_neg e,if_neg (fun z=>e (h1.trans z))]; exact⟨h1,h2,h3⟩
theorem KT.put {H:Hp}{kvs:List (List aJ × V)}{xs:List (List aJ × Addr × Value)} (r:KT H kvs xs) (k:List aJ) {b:Addr}{y:V}{u:Value} (hb:H b=some (.tup (k.map kV))) (ry:aY y u) :
  KT H (eD kvs k y) (storedH xs k b u):=by
 have e:(kvs.any fun kv=>decide (kv.1=k))=(atKey xs k).isSome:=by
  rw [E9,(r.val k).isSome_eq,Option.isSome_map]
 unfold eD storedH
 rw [e]
 by_cases q:(atKey xs k).isSome=true
 ·rw [if_pos q,if_pos q]; exact r.repl k ry
 ·rw [if_neg q,if_neg q]; exact Paired.snoc r ⟨rfl,hb,ry⟩
theorem KT.keeps {H H':Hp}{kvs:List (List aJ × V)}{xs:List (List aJ × Addr × Value)} (r:KT H kvs xs) (ht:∀ b ys,H b=some (.tup ys)->H' b=some (.tup ys)):KT H' kvs xs:=
 Paired.mapP r fun _ _ z=>⟨z.1,ht _ _ z.2.1,z.2.2⟩
section
variable {P : Program} {w : World} {H : Hp} {h : Heap} {a : Addr}
theorem F1 {u:HO} (ok:c8 P w H h) (e:Rd H a u):bY P w H h a u:=e.ok ok
theorem qM {kvs:List (aJ × V)} (ok:c8 P w H h) (e:Rd H a (.dK kvs)):kvs.length<=sizeLine/\(a == sysModules)=false/\∃ vs,KV kvs vs/\h.DictOf (eY P w) a vs:=
 show bY P w H h a (.dK kvs) from F1 ok e
theorem F3 {kvs:List (aJ × V)} (ok:c8 P w H h) (e:H a=some (.dK kvs)):kvs.length<=sizeLine/\(a == sysModules)=false/\∃ vs,KV kvs vs/\h.DictOf (eY P w) a vs:=qM ok (.inl e)
theorem qN {ks:List aJ} (ok:c8 P w H h) (e:H a=some (.tup (ks.map kV))):(tupleKind (eY P w)).is h ks a:=by
 obtain ⟨_,its,r,⟨o,h1,h2,n,h3⟩,_⟩:=(show bY P w H h a (.tup (ks.map kV)) from ok a _ e)
 exact⟨o,its.toArray,n,h1,h2,h3,by simpa using F0 r⟩
theorem uT {kvs:List (List aJ × V)} (ok:c8 P w H h) (e:Rd H a (.dT kvs)):kvs.length<=sizeLine/\(a == sysModules)=false/\
  ∃ xs,KT H kvs xs/\h.DictOfH (tupleKind (eY P w)) a xs:=by
 obtain ⟨z,y,xs,r,o,es,ep,h1,h2,h3,h4,h5⟩:=(show bY P w H h a (.dT kvs) from F1 ok e)
 refine⟨z,y,xs,r,o,es,ep,h1,h2,h3,h4,fun x hx=>?_,h5⟩
 have all:∀ {l:List (List aJ × V)}{m:List (List aJ × Addr × Value)},KT H l m->∀ x ∈ m,(tupleKind (eY P w)).is h x.1 x.2.1:=by
  intro l m q
  induction q with
  | nil=>intro x hx; exact nomatch hx
  | @cons p q ps qs hq t ih=>
   intro x hx
   rcases bd0.mp hx with e | hx
   ·subst e
    exact qN ok (by rw [<- hq.1]; exact hq.2.1)
   ·exact ih x hx
 exact all r x hx
theorem ap4 {kvs:List (List aJ × V)} (ok:c8 P w H h) (e:H a=some (.dT kvs)):kvs.length<=sizeLine/\(a == sysModules)=false/\
  ∃ xs,KT H kvs xs/\h.DictOfH (tupleKind (eY P w)) a xs:=uT ok (.inl e)
end
noncomputable def iB (H:Hp) (a:Addr) (y:V) (r:Option V):Prop:=
 (∃ kvs k,Rd H a (.dK kvs)/\y=kV k/\r=fN kvs k) ∨ ∃ kvs k b,Rd H a (.dT kvs)/\y = .ref b/\H b=some (.tup (k.map kV))/\r=fN kvs k
noncomputable def oE (H:Hp) (a:Addr) (y v:V) (H':Hp):Prop:=
 (∃ kvs k,H a=some (.dK kvs)/\y=kV k/\kvs.length < sizeLine/\H'=upd H a (.dK (eD kvs k v))) ∨
 ∃ kvs k b,H a=some (.dT kvs)/\y = .ref b/\H b=some (.tup (k.map kV))/\kvs.length < sizeLine/\H'=upd H a (.dT (eD kvs k v))
theorem iB.k {H:Hp}{a:Addr}{kvs:List (aJ × V)}{k:aJ} (e:H a=some (.dK kvs)):iB H a (kV k) (fN kvs k):=.inl ⟨kvs,k,.inl e,rfl,rfl⟩
theorem iB.t {H:Hp}{a b:Addr}{kvs:List (List aJ × V)}{k:List aJ} (e:H a=some (.dT kvs)) (eb:H b=some (.tup (k.map kV))):iB H a (.ref b) (fN kvs k):=.inr ⟨kvs,k,b,.inl e,rfl,eb,rfl⟩
theorem oE.k {H:Hp}{a:Addr}{kvs:List (aJ × V)}{k:aJ}{v:V} (e:H a=some (.dK kvs)) (hl:kvs.length < sizeLine):oE H a (kV k) v (upd H a (.dK (eD kvs k v))):=.inl ⟨kvs,k,e,rfl,hl,rfl⟩
section
variable {X : Cx} {pins : List (Addr × Obj)} {σ : St} {H : Hp} {s : Shared} {a : Addr} {y v : V} {u r : Value} {o : Option V} {A : Around} {E : Value → Shared → Prop}
theorem a8.big (I:a8 X pins σ H s):sysModules < s.heap.objs.size:=by
 have h:mainGlobals < s.heap.objs.size:=(I.mod.glob.keeps I.bk).lt
 exact Nat.lt_trans (by decide) h
theorem ap5 {Q:Value->Shared->Prop} (hu:A.units+1 < cLine) (I:a8 X pins σ H s) (g:iB H a y o) (ry:aY y u) (h:∀ s',a8 X pins σ H s'->Q (.bool o.isSome) s') :
  wpAny (model X.prog X.w) A (compareOp .In u (.ref a)) Q E s:=by
 rcases g with ⟨kvs,k,e,ey,l⟩ | ⟨kvs,k,b,e,ey,eb,l⟩
 ·subst ey
  obtain ⟨z,hd,vs,rel,dd⟩:=qM I.hok e
  refine wpAny_in_of (oD ry) hd dd.mapOf ?_
  rw [<- (rel.val k).isSome_eq,<- l]
  exact h _ (I.tok _)
 ·subst ey
  cases (show u=Value.ref b from ry)
  obtain ⟨z,hd,xs,rel,dd⟩:=uT I.hok e
  refine wpAny_in_heap (tupleKind_room_in1 hu) (qN I.hok eb) hd dd ?_
  have q:=(rel.val k).isSome_eq
  rw [Option.isSome_map] at q
  rw [<- q,<- l]
  exact h _ (I.tok _)
theorem ap6 {Q:Value->Shared->Prop} (hu:A.units+1 < cLine) (I:a8 X pins σ H s) (g:iB H a y o) (ry:aY y u) (h:∀ s',a8 X pins σ H s'->Q (.bool (!o.isSome)) s') :
  wpAny (model X.prog X.w) A (compareOp .NotIn u (.ref a)) Q E s:=by
 rcases g with ⟨kvs,k,e,ey,l⟩ | ⟨kvs,k,b,e,ey,eb,l⟩
 ·subst ey
  obtain ⟨z,hd,vs,rel,dd⟩:=qM I.hok e
  refine wpAny_notIn_of (oD ry) hd dd.mapOf ?_
  rw [<- (rel.val k).isSome_eq,<- l]
  exact h _ (I.tok _)
 ·subst ey
  cases (show u=Value.ref b from ry)
  obtain ⟨z,hd,xs,rel,dd⟩:=uT I.hok e
  refine wpAny_notIn_heap (tupleKind_room_in1 hu) (qN I.hok eb) hd dd ?_
  have q:=(rel.val k).isSome_eq
  rw [Option.isSome_map] at q
  rw [<- q,<- l]
  exact h _ (I.tok _)
theorem uU {h':Heap}{t':Nat}{ob:HO} (I:a8 X pins σ H s) (mu:nU (H a)) (hs:Heap.SameBut a s.heap h') (he:∃ q,h'.get? a=some q) (new:bY X.prog X.w (upd H a ob) h' a ob) :
  a8 X pins σ (upd H a ob) { s with heap:=h',toks:=t' }:=
 I.write (x:=a) (e:=a) mu (.inl rfl) (fun b q hb z=>(hs.2 b hb).trans z) he new
theorem F4 {P:Program}{w:World}{H':Hp}{h':Heap}{kvs:List (aJ × V)}{vs:List (aJ × Value)} (z:kvs.length<=sizeLine) (hd:(a == sysModules)=false) (rel:KV kvs vs) (dd:h'.DictOf (eY P w) a vs) :
  bY P w H' h' a (.dK kvs):=⟨z,hd,vs,rel,dd⟩
theorem ap7 {H':Hp}{Q:Unit->Shared->Prop} (hu:A.units+1 < cLine) (I:a8 X pins σ H s) (g:oE H a y v H') (ry:aY y u) (rv:aY v r) (h:∀ s',a8 X pins σ H' s'->Q () s') :
  wpAny (model X.prog X.w) A (setItem (.ref a) u r) Q E s:=by
 rcases g with ⟨kvs,k,e,ey,l,eH⟩ | ⟨kvs,k,b,e,ey,eb,l,eH⟩
 ·subst ey eH
  obtain ⟨z,hd,vs,rel,dd⟩:=F3 I.hok e
  have hz:vs.length<=sizeLine:=by rw [<- rel.length]; exact z
  have hl:(eD kvs k v).length<=sizeLine:=by have:=uS kvs k v; omega
  refine wpAny_setItem_pairs (hsz:=hz) (oD ry) dd fun h' dd' hs=>h _ ?_
  have he:∃ q,h'.get? a=some q:=let ⟨q,_,_,hq,_⟩:=dd'; ⟨q,hq⟩
  exact uU I (by rw [e]; exact bq2) hs he (F4 hl hd (rel.put k rv) dd')
 ·subst ey eH
  cases (show u=Value.ref b from ry)
  obtain ⟨z,hd,xs,rel,dd⟩:=ap4 I.hok e
  have hz:xs.length<=sizeLine:=by rw [<- Paired.length rel]; exact z
  have hl:(eD kvs k v).length<=sizeLine:=by have:=uS kvs k v; omega
  refine wpAny_setItem_heap (hsz:=hz) (tupleKind_room_in1 hu) (qN I.hok eb) dd fun h' dd' hs=>h _ ?_
  obtain ⟨q,es,ep,hq,h2,h3,h4,_,h5⟩:=dd'
  refine uU I (by rw [e]; exact bq2) hs ⟨q,hq⟩ ⟨hl,hd,_,(rel.put k eb rv).keeps fun c ys ec=>?_,q,es,ep,hq,h2,h3,h4,h5⟩
  rw [b7 (ag7 ec e (fun z=>nomatch z))]
  exact ec
end
section
variable {X : Cx} {pins : List (Addr × Obj)} {σ : St} {H : Hp} {s : Shared} {a : Addr} {kvs : List (aJ × V)} {k : aJ} {u : Value} {A : Around} {E : Value → Shared → Prop}
theorem ap8 {Q:Value->Shared->Prop} (I:a8 X pins σ H s) (e:Rd H a (.dK kvs)) (h:∀ t s',a8 X pins σ H s'->Q (.int kvs.length t) s'):wpAny (model X.prog X.w) A (call (.builtin "len") [.ref a]) Q E s:=by
 obtain ⟨z,hd,vs,rel,dd⟩:=qM I.hok e
 refine call_len_dict hd dd (by rw [<- rel.length]; rw [sizeLine_eq] at z; omega) ?_
 rw [<- rel.length]
 exact h _ _ (I.tok _)
end
noncomputable def F5 (ty td:TE):TE:=fun σ H Q=>ty σ H fun y H1=>td σ H1 fun x H2=>∃ a o,x = .ref a/\iB H2 a y o/\Q (.bl o.isSome) H2
noncomputable def F6 (ty td:TE):TE:=fun σ H Q=>ty σ H fun y H1=>td σ H1 fun x H2=>∃ a o,x = .ref a/\iB H2 a y o/\Q (.bl (!o.isSome)) H2
noncomputable def F7 (td ty tv:TE):TS:=fun D σ H=>tv σ H fun v H1=>td σ H1 fun x H2=>ty σ H2 fun y H3=>∃ a H4,x = .ref a/\oE H3 a y v H4/\D.nx σ H4
section
variable {X : Cx} {o i e value : Expr} {pos pos' tpos : Pos} {td ty tv : TE}
theorem ap9 (hu:X.A.units+1 < cLine) (hi:PE X i ty) (ho:PE X o td):PC X .In i o (F5 ty td):=by
 intro pins s σ H Q I h
 refine aQ (hi pins s σ H _ I h) fun iv s1 ⟨y,H1,I1,ry,q1⟩=>aQ (ho pins s1 σ H1 _ I1 q1) fun u s2 ⟨x,H2,I2,rx,a,ov,ex,g,q2⟩=>?_
 subst ex
 obtain rfl:u=Value.ref a:=rx
 exact ap5 hu I2 g ry fun s3 I3=>⟨.bl ov.isSome,H2,I3,rfl,q2⟩
theorem aq0 (hu:X.A.units+1 < cLine) (hi:PE X i ty) (ho:PE X o td):PC X .NotIn i o (F6 ty td):=by
 intro pins s σ H Q I h
 refine aQ (hi pins s σ H _ I h) fun iv s1 ⟨y,H1,I1,ry,q1⟩=>aQ (ho pins s1 σ H1 _ I1 q1) fun u s2 ⟨x,H2,I2,rx,a,ov,ex,g,q2⟩=>?_
 subst ex
 obtain rfl:u=Value.ref a:=rx
 exact ap6 hu I2 g ry fun s3 I3=>⟨.bl (!ov.isSome),H2,I3,rfl,q2⟩
theorem aq1 (hu:X.A.units+1 < cLine) (ho:PE X o td) (hi:PE X i ty) (hv:PE X value tv) (hs:swapsWith value (some (.Subscript o i pos')) pos.line X.env=pure false) :
  PS X (.Assign [.Subscript o i pos'] value pos) (F7 td ty tv):=by
 intro pins s σ H D I h
 refine wpAny_Assign_Subscript (aQ (hv pins s σ H _ I h) fun r s1 ⟨v,H1,I1,rv,q1⟩=>aQ (ho pins s1 σ H1 _ I1 q1) fun u s2 ⟨x,H2,I2,rx,q2⟩=>aQ (hi pins s2 σ H2 _ I2 q2) fun iv s3 ⟨y,H3,I3,ry,a,H4,ex,g,q3⟩=>?_) hs
 subst ex
 obtain rfl:u=Value.ref a:=rx
 exact ap7 hu I3 g ry rv fun s4 I4=>⟨σ,H4,I4,q3⟩
end
theorem F8 {P:Program}{w:World}{H:Hp} (h:Heap) (hb:sysModules < h.objs.size):bY P w H (h.push { cls:=.type "dict",data:=.dict #[] }) h.objs.size (.dK []):=
 ⟨bg8 _,beq_eq_false_iff_ne.mpr (Ne.symm (bg0 hb)),[],.nil,Heap.DictOf.new h⟩
noncomputable def F9:TE:=fun _ H Q=>∀ p,H p=none->Q (.ref p) (upd H p (.dK []))
section
variable {X : Cx} {pos : Pos}
theorem aq2:PE X (.Dict [] [] pos) F9:=fun pins s σ H Q I h=>
 wpAny_Dict_empty ⟨.ref s.heap.objs.size,_,I.laid (a:=s.heap.objs.size) (o:=.dK []) (t':=s.toks) (fun _ _ q=>bb7 _ q) (bc5 _) (F8 s.heap I.big),rfl,h _ (I.hok.fresh (bc5 _))⟩
end
noncomputable def uV:List (TE × TE)->St->Hp->(List (V × V)->Hp->Prop)->Prop
 | [],_,H,Q=>Q [] H
 | (tk,tv) :: r,σ,H,Q=>tk σ H fun x H1=>tv σ H1 fun y H2=>uV r σ H2 fun ps H3=>Q ((x,y) :: ps) H3
noncomputable abbrev VV:List (V × V)->List (Value × Value)->Prop:=Paired fun p q=>aY p.1 q.1/\aY p.2 q.2
noncomputable def qO (X:Cx) (pos:Pos) (keys:List (Option Expr)) (values:List Expr) (trs:List (TE × TE)):Prop:=
 ∀ (pins:List (Addr × Obj)) (s:Shared) (σ:St) (H:Hp) (Q:List (V × V)->Hp->Prop),a8 X pins σ H s->uV trs σ H Q->
  wpAny (model X.prog X.w) X.A (evalPairs (pairTrees keys values X.env pos)) (fun vs s'=>∃ ps H',a8 X pins σ H' s'/\VV ps vs/\Q ps H') X.xe s
theorem aq3 {X:Cx}{pos:Pos}:qO X pos [] [] []:=fun pins s σ H Q I h=>pairTrees_nil_walk ⟨[],H,I,.nil,h⟩
theorem aq4 {X:Cx}{pos:Pos}{k v:Expr}{ks:List (Option Expr)}{vs:List Expr}{tk tv:TE}{trs:List (TE × TE)} (hk:PE X k tk) (hv:PE X v tv) (hr:qO X pos ks vs trs) :
  qO X pos (some k :: ks) (v :: vs) ((tk,tv) :: trs):=fun pins s σ H Q I h=>
 pairTrees_cons_walk (aQ (hk pins s σ H _ I h) fun u s1 ⟨x,H1,I1,rx,q1⟩=>aQ (hv pins s1 σ H1 _ I1 q1) fun w2 s2 ⟨y,H2,I2,ry,q2⟩=>
  aQ (hr pins s2 σ H2 _ I2 q2) fun ws s3 ⟨ps,H3,I3,rel,q3⟩=>⟨(x,y) :: ps,H3,I3,.cons ⟨rx,ry⟩ rel,q3⟩)
noncomputable def mJ (kvs more:List (aJ × V)):List (aJ × V):=more.foldl (fun acc kv=>eD acc kv.1 kv.2) kvs
theorem KV.merge:∀ {more:List (aJ × V)}{rs:List (aJ × Value)}{kvs:List (aJ × V)}{vs:List (aJ × Value)},KV more rs->KV kvs vs->KV (mJ kvs more) (merged vs rs):=by
 intro more rs kvs vs r
 unfold KV at r
 induction r generalizing kvs vs with
 | nil=>intro q; exact q
 | @cons p q ps qs h t ih=>
  intro r0
  have e:KV (eD kvs p.1 p.2) (stored vs q.1 q.2):=by
   have:=r0.put p.1 h.2
   rw [<- h.1]; exact this
  exact ih e
theorem G0:∀ (more kvs:List (aJ × V)),(mJ kvs more).length<=kvs.length+more.length
 | [],kvs=>by show kvs.length<=kvs.length+0; omega
 | p :: r,kvs=>by
  have h1:=G0 r (eD kvs p.1 p.2)
  have h2:=uS kvs p.1 p.2
  show (mJ (eD kvs p.1 p.2) r).length<=_
  rw [be6]; omega
theorem G1 {P:Program}{w:World}:∀ {kvs:List (aJ × V)}{ws:List (Value × Value)},VV (kvs.map fun kv=>(kV kv.1,kv.2)) ws->∃ rs,Carries (eY P w) ws rs/\KV kvs rs
 | [],_,r=>by rw [List.map_nil] at r; cases r; exact⟨[],bq2,.nil⟩
 | p :: kvs,_,r=>by
  rw [bi1] at r
  cases r with
  | @cons a b as bs h t=>
   obtain ⟨rs,c,q⟩:=G1 (P:=P) (w:=w) t
   obtain ⟨b1,b2⟩:=b
   exact⟨(p.1,b2) :: rs,⟨oD h.1,rfl,c⟩,.cons ⟨rfl,h.2⟩ q⟩
noncomputable def G2 (trs:List (TE × TE)):TE:=fun σ H Q=>∀ p,H p=none->uV trs σ (upd H p (.dK [])) fun ps H2=>H2 p=some (.dK [])/\∃ kvs:List (aJ × V),ps=kvs.map (fun kv=>(kV kv.1,kv.2))/\kvs.length<=15/\Q (.ref p) (upd H2 p (.dK (mJ [] kvs)))
theorem aq5 {X:Cx}{pos:Pos}{keys:List (Option Expr)}{values:List Expr}{trs:List (TE × TE)} (h:qO X pos keys values trs) (hall:keys.all (·.isSome)=true) (hl:keys.length=values.length) (h0:keys ≠ [])
  (h15:keys.length<=15):PE X (.Dict keys values pos) (G2 trs):=by
 intro pins s σ H Q I q
 have hn:=I.hok.fresh (bc5 s.heap.objs.size)
 have I1:=I.laid (a:=s.heap.objs.size) (o:=.dK []) (h':=s.heap.push { cls:=.type "dict",data:=.dict #[] }) (t':=s.toks) (fun _ _ q=>bb7 _ q) (bc5 _) (F8 s.heap I.big)
 refine wpAny_Dict_walk (knd:=eY X.prog X.w) hall hl h0 h15 (aQ (h pins _ σ _ _ I1 (q _ hn)) fun ws s2 ⟨ps,H2,I2,rel,e,kvs,ep,lk,q2⟩=>?_)
 subst ep
 obtain ⟨rs,c,rk⟩:=G1 (P:=X.prog) (w:=X.w) rel
 obtain ⟨z,hd,vs0,r0,dd⟩:=F3 I2.hok e
 cases r0
 refine⟨rs,c,dd,fun h' dd' hs=>⟨.ref s.heap.objs.size,_,?_,rfl,q2⟩⟩
 have hz:(mJ [] kvs).length<=sizeLine:=by
  have h1:=G0 kvs []
  rw [List.length_nil] at h1
  rw [sizeLine_eq]; omega
 have he:∃ q,h'.get? s.heap.objs.size=some q:=let ⟨q,_,_,hq,_⟩:=dd'; ⟨q,hq⟩
 exact uU I2 (by rw [e]; exact bq2) hs he (F4 hz hd (rk.merge .nil) dd')
structure M2 (X:Cx) (o:Expr) (m:Str) (apos:Pos) (e f:Expr) (cpos:Pos):Prop where
 base:attributeBase o m X.env (eval o X.env)=eval o X.env
 few:((backTo cpos (starEach [e,f] X.env)).all (fun x=>!x.1) && (backToKw cpos (keywordEach [] X.env)).all (fun x=>x.1.isSome)
  && decide (([e,f]:List Expr).length+([]:List Keyword).length+(if ([]:List Keyword).isEmpty then 0 else 1) < 30))=true
 line:(apos.endLine == cpos.line)=true
 trees:backTo cpos (starEach [e,f] X.env) = [(false,eval e X.env),(false,eval f X.env)]
end L2
namespace Att
open PySem PySem.W PySem.Calls PyProof.Rows
theorem aq6 {P:Params}{h:Heap}:∀ (ns:List Int) (vs:List Value),WellAll P h vs (ns.map WData.int)->IntsAre vs ns:=by
 intro ns
 induction ns with
 | nil=>
  intro vs w
  rw [List.map_nil] at w
  cases w
  exact .nil
 | cons n ns ih=>
  intro vs w
  rw [bi1] at w
  cases w with
  | cons a b=>
   cases a
   exact .cons _ _ (ih _ b)
theorem G3 {l:OpenLaw}{n:Nat} (hn:l.most=some n) {P:Params}{h:Heap}{args:List WData}{vals:List Value}
  (hpre:l.row.toRowW.claim.pre args=true) (hwl:WellAll P h vals args) :
  ∃ a vs ns,vals = [Value.ref a]/\args = [WData.list (ns.map WData.int)]/\h.get? a=some { cls:=.type "list",data:=.seq vs.toArray }/\IntsAre vs ns/\ns.length<=n:=by
 have hsh:WShape.hasAll [] args [.list .int]=true:=(pre_splitW hpre).1
 have hc:l.pre.holds [] { args:=args }=true:=(pre_splitW hpre).2
 obtain ⟨d,r,rfl,h1,h2⟩:=hasAllW_cons hsh
 obtain rfl:=hasAllW_nil h2
 obtain ⟨xs,rfl,h3⟩:=hasW_list h1
 obtain ⟨ns,rfl⟩:=items_int h3
 have hlen:ns.length<=n:=by
  unfold OpenLaw.pre at hc
  have h4:(WTm.not (.lt (.lit (.int (n:Int))) (.len (.arg 0)))).holds [] { args:=[.list (ns.map .int)] }=true:=by
   have h4:=(holds_andW hc).1
   rw [hn] at h4
   exact h4
  have h5:=condW_of h4 (w_not (w_lt w_lit (w_len_list (w_arg rfl))))
  rw [bb8] at h5
  refine bp0 fun q=>?_
  have q':(n:Int) < ((ns.length:Nat):Int):=by omega
  first
   | (rw [bc0 q'] at h5; exact absurd h5 (by decide))
   | (simp at h5; omega)
 cases hwl with
 | cons w1 w2=>
  cases w2
  cases w1 with
  | list ho hall=>exact⟨_,_,ns,rfl,rfl,ho,aq6 ns _ hall,hlen⟩
theorem G4 (l:OpenLaw) (args:List WData):l.row.toRowW.claim.post args (.bool true) args=true:=
 postW_of (r:=l.row.toRowW) (X:=(true == true))
  (show WShape.has [] (.bool true) .bool=true by first | rfl | decide | simp [WShape.has,WShape.arms,WShape.armsAll])
  (show (WTm.eq .res (.lit (.bool true))).value [] { args:=args,res:=some (.bool true),after:=args }=some (.bool (true == true)) from w_eq_bool (w_res rfl) w_lit) rfl
theorem ba9 {l:OpenLaw}{n:Nat}{q:Program}{loose:List Str}{XP:(Str->Option Value)->Heap->Prop}{YP:World->Heap->Prop}{d:DefRec}{x:Str}
  (hn:l.most=some n) (hdf:d.params.defaults = [])
  (hbind:∀ pm cd doc v:Value,bindArgs (docDef d.name d.params d.body d.scope pm cd doc) ⟨[v],[]⟩=pure [(x,v)])
  (hx:d.scope.names.lookup x=some .local ∨ d.scope.names.lookup x=some .cell)
  (hk:d.scope.kind = .function) (hco:d.scope.isCoroutine=false) (hgen:d.scope.isGenerator=false)
  (body:∀ (w:World) (s₀ s₁ s:Shared) (mg mb:Str->Option Value) (fa:Addr) (o:Obj) (pm cd doc:Value) (a:Addr) (vs:List Value) (ns:List Int),
   Ground q loose [] XP w s₀ mg mb s₁.heap->YP w s₁.heap->
   s₁.heap.get? fa=some o->o.data = .func (docDef d.name d.params d.body d.scope pm cd doc)->s₁.heap.CodeRec cd d.name->mg d.name=some (.ref fa)->
   s₁.heap.get? a=some { cls:=.type "list",data:=.seq vs.toArray }->IntsAre vs ns->ns.length<=n->
   s.gens = #[]->s.os=s₁.os->
   Fr s₁.heap s₁.heap.objs.size s.heap (bindL (envOfC d.name d.scope s₁.heap.objs.size fa cd).kindOf [(x,.ref a)] fun _=>none)->
   Cl s₁.heap.objs.size (cellsFrom (s₁.heap.objs.size+1) d.scope.names []) s.heap (bindC (envOfC d.name d.scope s₁.heap.objs.size fa cd).kindOf [(x,.ref a)] fun _=>none)->
   wpAny (model l.prog w) (callerA.deeper (envOfC d.name d.scope s₁.heap.objs.size fa cd)) (execs d.body (envOfC d.name d.scope s₁.heap.objs.size fa cd))
    (fun f s'=>f = .ret (.bool true)/\OldK s₁.heap s'.heap/\s'.os=s₁.os/\AllBare s'.gens) (fun _ _=>False) s) :
  WalkO q loose XP YP l.row.toRowW d [] (fun f vs=>PySem.call f vs):=by
 intro w s₀ s₁ mg mb G Y fa o pm cd doc dV kV ho hd hcd hD hmg hg args vals as hpre hlay hrd hwl hlo
 obtain rfl:dV = .none:=Dflts.none hD hdf
 obtain rfl:kV = .none:=Dflts.noKw hD
 obtain ⟨a,vs,ns,rfl,rfl,hobj,hints,hlen⟩:=G3 hn hpre hwl
 refine enter_call ?_
 refine call_cells_ret (o:=o) (by rw [depth_caller]; decide) ho (fd_plain hd) G.T.nolimit hcd (hbind pm cd doc (.ref a)) (fun y hy=>?_) (fun h₁ tk F X=>?_) hco hgen hk
 ·obtain rfl:y=(x,Value.ref a):=bc1.mp hy
  rcases hx with e | e
  ·exact .inl e
  ·exact .inr ⟨e,cellsFrom_some _ _ _ (.inl e)⟩
 ·refine bj6 (body w s₀ s₁ { s₁ with heap:=h₁,toks:=tk } mg mb fa o pm cd doc a vs ns G Y ho (fd_plain hd) hcd hmg hobj hints hlen hg rfl F X) (fun f s' hq=>?_) (fun _ _ hq=>hq)
  obtain ⟨rfl,h2,h3,h4⟩:=hq
  exact⟨.inl ⟨.bool true,.bool true,[],rfl,fun _=>rfl,.bool true,G4 l _,fun _=>⟨bo3,fun _ hm=>(nomatch hm)⟩⟩,h2,h3,h4⟩
theorem aq7 {l:OpenLaw}{n:Nat}{q:Program}{loose:List Str}{XP:(Str->Option Value)->Heap->Prop}{YP:World->Heap->Prop}{d:DefRec}
  (hn:l.most=some n) (hdf:d.params.defaults = [])
  (call:∀ (w:World) (s₀ s₁:Shared) (mg mb:Str->Option Value) (fa:Addr) (o:Obj) (pm cd doc:Value) (a:Addr) (vs:List Value) (ns:List Int),
   Ground q loose [] XP w s₀ mg mb s₁.heap->YP w s₁.heap->
   s₁.heap.get? fa=some o->o.data = .func (docDef d.name d.params d.body d.scope pm cd doc)->s₁.heap.CodeRec cd d.name->mg d.name=some (.ref fa)->
   s₁.heap.get? a=some { cls:=.type "list",data:=.seq vs.toArray }->IntsAre vs ns->ns.length<=n->s₁.gens = #[]->
   codeAny (model l.prog w) callerA (.call (.ref fa) ⟨[.ref a],[]⟩) (fun r s'=>r = .ok (.ret (.bool true))/\OldK s₁.heap s'.heap/\s'.os=s₁.os/\AllBare s'.gens) s₁) :
  WalkO q loose XP YP l.row.toRowW d [] (fun f vs=>PySem.call f vs):=by
 intro w s₀ s₁ mg mb G Y fa o pm cd doc dV kV ho hd hcd hD hmg hg args vals as hpre hlay hrd hwl hlo
 obtain rfl:dV = .none:=Dflts.none hD hdf
 obtain rfl:kV = .none:=Dflts.noKw hD
 obtain ⟨a,vs,ns,rfl,rfl,hobj,hints,hlen⟩:=G3 hn hpre hwl
 refine enter_call (codeAny_mono (call w s₀ s₁ mg mb fa o pm cd doc a vs ns G Y ho (fd_plain hd) hcd hmg hobj hints hlen hg) fun r s' hq=>?_)
 obtain ⟨rfl,h2,h3,h4⟩:=hq
 exact⟨.inl ⟨.bool true,.bool true,[],rfl,fun _=>rfl,.bool true,G4 l _,fun _=>⟨bo3,fun _ hm=>(nomatch hm)⟩⟩,h2,h3,h4⟩
section
variable {prog : Program} {w : World} {A : Around} {E : Value → Shared → Prop} {s : Shared} {K : Frag}
noncomputable def bb0 (h:Heap) (L d:Addr):List (Addr × Obj):=(List.range h.objs.size).filterMap fun a=>if a=L ∨ a=d then none else (h.get? a).map fun o=>(a,o)
end
end Att
namespace L2
open PySem PySem.Spec PyProof.Rows
theorem qP:∀ {vs:List Value}{ns:List Int},IntsAre vs ns->aN (ns.map V.int) vs
 | _,_,.nil=>.nil
 | _,_,.cons n t h=>.cons ⟨t,rfl⟩ (qP h)
noncomputable def qQ (H:Hp):Prop:=∀ b,H b=none ∨ ∃ o xs,H b=some (.frz o (.lst xs))
theorem aq8 {P:Program}{w:World}{K:PySem.W.Frag}{mg mb:Str->Option Value}{CX:gZ}{k:Nat}{fa a:Addr}{fd:FuncData}{x:Str}{sp:Sp}{s₁:Shared}{vs:List Value}{ns:List Int}
  (KX:K.In s₁.heap) (hns:s₁.heap.Ns mainGlobals mg) (hb:s₁.heap.Ns builtinsNs mb) (hbb:∀ x:Str,x ≠ "__name__"->mb x=bootBuiltins x) (hlim:s₁.heap.NoLimit) (hg:s₁.gens = #[])
  (ha:s₁.heap.get? a=some { cls:=.type "list",data:=.seq vs.toArray }) (hi:IntsAre vs ns) (hl:ns.length<=sizeLine) (hr:cH k callerA)
  (F:∀ base:Heap,K.In base->base.Ns mainGlobals mg->cZ P w K mg base CX k fa fd [x] sp) (hbind:∀ (s:Shared) (u:Value),BindsTo s fd ⟨[u],[]⟩ [(x,u)])
  (hsp:∀ H:Hp,qQ H->aM K H a (ns.map V.int)->sp [.ref a] H (fun v _=>v = .bl true) fun _ _ _=>False)
  (hCX:∀ H e s',CX [] H s₁ (fun _ _ _=>False) e s'->False) :
  codeAny (model P w) callerA (.call (.ref fa) ⟨[.ref a],[]⟩) (fun r s'=>r = .ok (.ret (.bool true))/\OldK s₁.heap s'.heap/\s'.os=s₁.os/\AllBare s'.gens) s₁:=by
 have rv:=qP hi
 have lenV:=hi.length
 have core:∀ H:Hp,qQ H->aM K H a (ns.map V.int)->c8 P w H s₁.heap->(∀ b,H b ≠ none->b=a)->(H a ≠ none->K.lookup a=none)->
   codeAny (model P w) callerA (.call (.ref fa) ⟨[.ref a],[]⟩) (fun r s'=>r = .ok (.ret (.bool true))/\OldK s₁.heap s'.heap/\s'.os=s₁.os/\AllBare s'.gens) s₁:=by
  intro H hO hS hok hA hK
  have base_of:∀ {b:Addr}{o:Obj},s₁.heap.get? b=some o->H b=none->(jF s₁.heap H).get? b=some o:=fun e n=>ag9 e n
  have noA:∀ {b:Addr}{o:Obj}{es:Array DictEntry}{ep:Nat},s₁.heap.get? b=some o->o.data = .dict es ep->H b=none:=fun {b o es ep} e d=>by
   cases q:H b with
   | none=>rfl
   | some u=>
    have e':b=a:=hA b (by rw [q]; simp)
    subst e'
    rw [ha] at e; cases e
    have d':Data.seq vs.toArray _=Data.dict es ep:=d
    cases d'
  have nsK:∀ {b:Addr}{m:Str->Option Value},s₁.heap.Ns b m->(jF s₁.heap H).Ns b m:=fun {b m} ⟨o,es,ep,e,d,r⟩=>⟨o,es,ep,base_of e (noA e d),d,r⟩
  have hKb:K.In (jF s₁.heap H):=fun b o e=>base_of (KX b o e) (by
   cases q:H b with
   | none=>rfl
   | some u=>
    have e':b=a:=hA b (by rw [q]; simp)
    subst e'
    rw [hK (by rw [q]; simp)] at e; cases e)
  have hM:Mod K mg (jF s₁.heap H):=⟨hKb,nsK hns,⟨mb,nsK hb,hbb⟩,let ⟨mc,h1,h2⟩:=hlim; ⟨mc,nsK h1,h2⟩⟩
  have e0:qJ P w K mg (jF s₁.heap H) callerA [] s₁ H:=⟨rfl,hM,fun b o e=>ah0 e,Nat.le_of_eq (ag8 _ _),trivial,fun b hb=>absurd (show b ∈ ([]:List Addr) from hb) (by simp),hok,.of_eq hg⟩
  refine codeAny_mono ((F _ hKb (nsK hns)).run callerA [] s₁ H ⟨[.ref a],[]⟩ [.ref a] [.ref a] _ _ hr e0 (hbind s₁ (.ref a)) (.cons rfl .nil) (hsp H hO hS)) fun r s' h=>?_
  cases r with
  | error e=>exact (hCX H e s' h).elim
  | ok fl=>
   cases fl with
   | next=>exact False.elim h
   | brk=>exact False.elim h
   | cont=>exact False.elim h
   | ret u=>
    obtain ⟨v,H',os,bare,un,hok',r',q⟩:=h
    have q':v = .bl true:=q
    subst q'
    obtain rfl:u=Value.bool true:=r'
    refine⟨rfl,OldK.of_keep fun b o e=>?_,os,bare⟩
    cases q:H b with
    | none=>exact un.keep b o e q (by intro z; exact absurd (show b ∈ ([]:List Addr) from z) (by simp)) (by simp)
    | some u=>
     rcases hO b with z | ⟨ob,xs,z⟩
     ·rw [q] at z; cases z
     ·have z2:=un.frzs b ob _ z
      obtain ⟨e1,_⟩:=hok b _ z
      obtain ⟨e2,_⟩:=hok' b _ z2
      rw [e] at e1; cases e1
      exact e2
 cases hk:K.lookup a with
 | some o=>
  have e:=KX a o hk
  rw [ha] at e
  cases e
  refine core (fun _=>none) (fun _=>.inl rfl) (.inr ⟨_,vs.toArray,_,hk,rfl,rfl,rfl,by rw [bb6,lenV]; exact hl,by simpa using rv⟩) (fun b u z=>by have z':(none:Option HO)=some u:=z; cases z') (fun b z=>absurd rfl z) fun z=>absurd rfl z
 | none=>
  refine core (fun b=>if b=a then some (.frz { cls:=.type "list",data:=.seq vs.toArray } (.lst (ns.map V.int))) else none) (fun b=>?_) (.inl (.inr ⟨{ cls:=.type "list",data:=.seq vs.toArray },if_pos rfl⟩)) (fun b u z=>?_) (fun b z=>?_) fun _=>hk
  ·by_cases hb:b=a
   ·exact .inr ⟨_,_,if_pos hb⟩
   ·exact .inl (if_neg hb)
  ·by_cases hb:b=a
   ·have z':=(if_pos hb).symm.trans z
    cases z'
    subst hb
    exact⟨ha,by rw [bb8]; exact hl,vs,_,rv,ha⟩
   ·have z':=(if_neg hb).symm.trans z
    cases z'
  ·by_cases hb:b=a
   ·exact hb
   ·exact absurd (if_neg hb) z
theorem aq9 {l:PySem.W.OpenLaw}{n k:Nat}{q:Program}{loose:List Str}{XP:(Str->Option Value)->Heap->Prop}{YP:World->Heap->Prop}{d:DefRec}{K:Params->PySem.W.Frag}{CX:World->gZ}{sp:World->Sp}{x:Str}
  (hn:l.most=some n) (hn2:n<=sizeLine) (hdf:d.params.defaults = []) (hr:cH k callerA)
  (hY:∀ (w:World) (h:Heap),YP w h->(K w.params).In h)
  (F:∀ (w:World) (mg:Str->Option Value) (fa:Addr) (h:Heap),(K w.params).In h->h.Ns mainGlobals mg->mg d.name=some (.ref fa)->
   ∃ fd:FuncData,(∀ (s:Shared) (u:Value),BindsTo s fd ⟨[u],[]⟩ [(x,u)])/\
    ∀ base:Heap,(K w.params).In base->base.Ns mainGlobals mg->cZ l.prog w (K w.params) mg base (CX w) k fa fd [x] (sp w))
  (hsp:∀ (w:World) (H:Hp) (a:Addr) (ns:List Int),ns.length<=n->qQ H->aM (K w.params) H a (ns.map V.int)->sp w [.ref a] H (fun v _=>v = .bl true) fun _ _ _=>False)
  (hCX:∀ (w:World) (H:Hp) (s:Shared) (e:Value) (s':Shared),CX w [] H s (fun _ _ _=>False) e s'->False) :
  PySem.W.WalkO q loose XP YP l.row.toRowW d [] (fun f vs=>PySem.call f vs):=by
 refine Att.aq7 hn hdf fun w s₀ s₁ mg mb fa o pm cd doc a vs ns G Y ho hd hcd hmg hobj hints hlen hg=>?_
 have KX:=hY w _ Y
 obtain ⟨fd,hb,hF⟩:=F w mg fa _ KX G.T.g hmg
 exact aq8 KX G.T.g G.T.b G.T.builtins G.T.nolimit hg hobj hints (bg5 hlen hn2) hr hF hb (fun H hO hS=>hsp w H a ns hlen hO hS) fun H e s'=>hCX w H s₁ e s'
noncomputable def jR (s:Stmt):Arguments:=match s with
 | .FunctionDef _ a _ _ _ _ _ _ _ _=>a
 | _=>{ posonlyargs:=[],args:=[],vararg:=none,kwonlyargs:=[],kw_defaults:=[],kwarg:=none,defaults:=[] }
noncomputable def eZ (s:Stmt):List Stmt:=match s with
 | .FunctionDef _ _ b _ _ _ _ _ _ _=>b
 | _=>[]
noncomputable def aZ (s:Stmt):Scope:=match s with
 | .FunctionDef _ _ _ _ _ _ sc _ _ _=>sc
 | _=>{ kind:=.function,names:=[],isGenerator:=false,isCoroutine:=false }
noncomputable abbrev dW:gZ:=fun _ _ _ _ _ _=>False
noncomputable abbrev E0:XK:=fun _ _ _=>False
theorem ar0 {X:Cx}:o7 dW X E0:=fun _ _ _ _ _ _ _ h=>h.elim
structure fA (K:PySem.W.Frag) (x qual:Str) (st:Stmt) (f:Addr) (fd:FuncData):Prop where
 ex:∃ (oc:Value) (od:Option Addr) (kV doc pm:Value) (an:Option Addr) (cdv ct:Value) (osl:Array (Option Value)),
  fd=PySem.W.fnOf x qual (jR st) (eZ st) (aZ st) .none kV doc pm an cdv ct/\K.lookup f=some ⟨oc,od,.func fd,osl⟩/\PySem.W.codeIn K cdv qual=true
 kp:PySem.W.keepIn K (.ref f)=true
section
variable {P : Program} {w : World} {K : PySem.W.Frag} {mg : Str → Option Value} {base : Heap}
theorem fA.ok {x qual:Str}{st:Stmt}{f:Addr}{fd:FuncData}{N ps:List Str}{k:Nat}{sp:Sp} (F:fA K x qual st f fd) (S:FnScope N ps (aZ st)) (len:∀ vs H Q E,sp vs H Q E->vs.length=ps.length)
  (hbody:∀ (cdv:Value) (A:Around) (outer:List Env) (s:Shared) (H:Hp) (vs:List V) (Q:VK) (E:XK),cH k (A.deeper (envOfC qual (aZ st) s.heap.objs.size f cdv))->sp vs H Q E->
   ∃ t,e8 (dP dW P w K mg base N qual (aZ st) f cdv A outer s H E).nox (eZ st) t/\t { nx:=fun _ H'=>Q .non H',rt:=Q } (start N vs) H):cZ P w K mg base dW (k+1) f fd ps sp:=by
 obtain ⟨oc,od,kV,doc,pm,an,cdv,ct,osl,rfl,lk,hcd⟩:=F.ex
 refine B4 lk hcd S len fun A outer s H vs Q E hr hsp=>?_
 obtain ⟨t,h,q⟩:=hbody cdv A outer s H vs Q E hr hsp
 exact⟨t,h.nox,q⟩
theorem fA.binds {x qual:Str}{st:Stmt}{f:Addr}{fd:FuncData}{ps:List Str} (F:fA K x qual st f fd)
  (h:∀ (kV doc pm:Value) (an:Option Addr) (cdv ct:Value) (us:List Value),us.length=ps.length->bindArgs (PySem.W.fnOf x qual (jR st) (eZ st) (aZ st) .none kV doc pm an cdv ct) ⟨us,[]⟩=pure (ps.zip us)):i9 K fd ps []:=by
 obtain ⟨oc,od,kV,doc,pm,an,cdv,ct,osl,rfl,lk,hcd⟩:=F.ex
 exact .all (h kV doc pm an cdv ct)
theorem ar1 {x qual:Str}{st:Stmt}{f:Addr}{oc:Value}{od an:Option Addr}{osl:Array (Option Value)}{kV doc pm cdv ct:Value} (l:K.lookup f=some ⟨oc,od,.func (PySem.W.fnOf x qual (jR st) (eZ st) (aZ st) .none kV doc pm an cdv ct),osl⟩)
  (c:PySem.W.codeIn K cdv qual=true) (k:PySem.W.keepIn K (.ref f)=true):fA K x qual st f (PySem.W.fnOf x qual (jR st) (eZ st) (aZ st) .none kV doc pm an cdv ct):=⟨⟨oc,od,kV,doc,pm,an,cdv,ct,osl,rfl,l,c⟩,k⟩
end
theorem uW {A:Around}{k:Nat} (hr:cH k A):A.units+1 < cLine:=Nat.lt_of_le_of_lt (Nat.add_le_add_left (by decide:1<=64) _) hr.units
theorem oF {n:Nat} (h:n<=1000):n < sizeLine:=Nat.lt_of_le_of_lt h (by decide)
section
variable {X : Cx}
theorem pv (i:Nat) {x:Str}{pos:Pos} (hN:X.N[i]? = some x:=by rfl) (hv:gW X.env.scope x:=by first | exact Or.inl rfl | exact Or.inr (Or.inl rfl) | exact Or.inr (Or.inr rfl)) (hd:(x == ("__debug__" : Str))=false:=by decide)
  (hcd:(x == ("__classdict__" : Str))=false:=by decide):PE X (.Name x pos) (iQ i):=jG hN hv hd hcd
theorem ar2:cX X (.builtin "len") (fun xs H Q=>∃ a kvs,xs = [V.ref a]/\H a=some (.dK kvs)/\Q (.int kvs.length) H):=by
 intro pins s σ H xs us Q I r h
 obtain ⟨a,kvs,rfl,ha,q⟩:=h
 obtain ⟨u,rfl,ru⟩:=gN r
 cases ru
 exact ap8 I (.inl ha) fun t s' I'=>⟨.int kvs.length,H,I',⟨t,rfl⟩,q⟩
end
theorem bB {A B:Prop} (h:B):if false=true then A else B:=by
 rw [if_neg bd9]
 exact h
theorem bD {A B:Prop} (h:A):if true=true then A else B:=by
 rw [if_pos rfl]
 exact h
noncomputable def aD (H H':Hp):Prop:=∀ b o,H b=some o->H' b=some o
theorem aD.refl (H:Hp):aD H H:=fun _ _ h=>h
theorem aD.trans {H H1 H2:Hp} (a:aD H H1) (b:aD H1 H2):aD H H2:=fun c o h=>b c o (a c o h)
theorem aD.free {H H':Hp} (e:aD H H') {l:Addr} (h:H' l=Option.none):H l=Option.none:=by
 cases q:H l with
 | none=>rfl
 | some o=>
  rw [e l o q] at h
  cases h
theorem aD.seq {K:PySem.W.Frag}{H H':Hp}{a:Addr}{xs:List V} (e:aD H H') (h:aM K H a xs):aM K H' a xs:=by
 rcases h with (h | ⟨o,h⟩) | h
 ·exact .inl (.inl (e _ _ h))
 ·exact .inl (.inr ⟨o,e _ _ h⟩)
 ·exact .inr h
noncomputable def eR (cells:List (Str × Addr)):List (Str × NameKind)->List (Str × Addr)->List (Str × Addr)
 | [],cs=>cs
 | (n,k) :: r,cs=>eR cells r (if k == .free then (n,(cells.lookup n).getD 0) :: cs else cs)
theorem uX {env:Env}:∀ (ns:List (Str × NameKind)) (cs:List (Str × Addr)),(∀ x ∈ ns,x.2 = .free->∃ c,env.cells.lookup x.1=some c)->
  (forIn ns cs (fun (x:Str × NameKind) r=>(match x with
   | (name,kind)=>if (kind == .free)=true then (do let y <- cellOf env name; pure (ForInStep.yield ((name,y) :: r))) else pure (ForInStep.yield r)):_->_->Sem _))=(pure (eR env.cells ns cs):Sem (List (Str × Addr)))
 | [],cs,_=>by rw [List.forIn_nil]; rfl
 | (n,k) :: r,cs,h=>by
  rw [List.forIn_cons]
  have hr:∀ x ∈ r,x.2 = .free->∃ c,env.cells.lookup x.1=some c:=fun x hx=>h x (bd4 _ hx)
  cases hk:(k == NameKind.free) with
  | true=>
   have e:k = .free:=by simpa using hk
   obtain ⟨c,hc⟩:=h (n,k) bc6 e
   simp only [hk,if_true]
   have e1:cellOf env n=pure c:=by unfold cellOf; rw [hc]
   rw [e1]
   show ((pure c >>= fun y=>pure (ForInStep.yield ((n,y) :: cs))) >>= _:Sem _)=_
   rw [pure_bind,pure_bind]
   have:=uX (env:=env) r ((n,c) :: cs) hr
   refine this.trans ?_
   unfold eR
   simp only [hk,if_true,hc,Option.getD_some]
   cases r <;> rfl
  | false=>
   simp only [hk,be9,bi5]
   rw [pure_bind]
   have:=uX (env:=env) r cs hr
   refine this.trans ?_
   conv=>rhs; unfold eR
   simp only [hk,be9,bi5]
theorem qR {scope:Scope}{env:Env} (h:∀ x ∈ scope.names,x.2 = .free->∃ c,env.cells.lookup x.1=some c):closureFor scope env=pure (eR env.cells scope.names []):=by
 have e:=uX (env:=env) scope.names [] h
 unfold closureFor
 rw [show (pure (eR env.cells scope.names []):Sem (List (Str × Addr)))=(pure (eR env.cells scope.names []) >>= pure) by rw [pure_bind]]
 rw [<- e]
theorem qS {cells:List (Str × Addr)}:∀ (ns:List (Str × NameKind)) (cs:List (Str × Addr)) {x:Str}{c:Addr},(∀ y ∈ ns,y.2 = .free->∃ c,cells.lookup y.1=some c)->
  (∀ x c,cs.lookup x=some c->cells.lookup x=some c)->(eR cells ns cs).lookup x=some c->cells.lookup x=some c
 | [],cs,x,c,_,hc,h=>hc x c h
 | (n,k) :: r,cs,x,c,hn,hc,h=>by
  unfold eR at h
  have hr:∀ y ∈ r,y.2 = .free->∃ c,cells.lookup y.1=some c:=fun y hy=>hn y (bd4 _ hy)
  cases hk:(k == NameKind.free) with
  | false=>
   simp only [hk,be9,bi5] at h
   exact qS r cs hr hc h
  | true=>
   simp only [hk,if_true] at h
   refine qS r _ hr (fun y d e=>?_) h
   obtain ⟨c0,h0⟩:=hn (n,k) bc6 (by simpa using hk)
   have h0:cells.lookup n=some c0:=h0
   rw [h0] at e
   rw [bh8] at e
   by_cases hyn:y=n
   ·subst hyn
    simp only [bk7,Option.getD_some] at e
    rw [h0]; exact e
   ·have:(y == n)=false:=beq_eq_false_iff_ne.mpr hyn
    simp only [this] at e
    exact hc y d e
theorem uY {cells:List (Str × Addr)}:∀ (ns:List (Str × NameKind)) (cs:List (Str × Addr)) {x:Str},((x,NameKind.free) ∈ ns ∨ ∃ c,cs.lookup x=some c)->∃ c,(eR cells ns cs).lookup x=some c
 | [],cs,x,h=>by
  rcases h with h | h
  ·simp at h
  ·exact h
 | (n,k) :: r,cs,x,h=>by
  unfold eR
  refine uY r _ ?_
  rcases h with h | ⟨c,h⟩
  ·rcases bd0.mp h with e | e
   ·cases e
    exact .inr ⟨_,by simp [bh8]; rfl⟩
   ·exact .inl e
  ·right
   cases hk:(k == NameKind.free) with
   | false=>exact⟨c,by simpa [hk] using h⟩
   | true=>
    simp only [if_true]
    rw [bh8]
    by_cases hxn:(x == n)=true
    ·simp only [hxn]; exact⟨_,rfl⟩
    ·simp only [bm5.mpr hxn]; exact⟨c,h⟩
theorem qT {env:Env}:∀ {names:List (Str × NameKind)}{x:Str}{k:NameKind},(names.map fun (n,k)=>if (k == NameKind.free && env.scope.kind == .function && env.kindOf n == some .cell) then (n,NameKind.cell) else (n,k)).lookup x=some k->
  names.lookup x=some k ∨ (names.lookup x=some .free/\k = .cell)
 | [],_,_,h=>by simp at h
 | (n,q) :: r,x,k,h=>by
  have ih:=@qT env r x k
  rw [bi1] at h
  by_cases hx:(x == n)=true
  ·have e:x=n:=by simpa using hx
   subst e
   by_cases hc:(q == NameKind.free && env.scope.kind == .function && env.kindOf x == some .cell)=true
   ·simp only [hc,if_true,bh8,bk7] at h
    have hq:q = .free:=by simp at hc; exact hc.1.1
    exact .inr ⟨by simp [bh8,hq],(be3 h).symm⟩
   ·simp only [hc,be9,bi5,bh8,bk7] at h
    exact .inl (by simp [bh8]; exact be3 h)
  ·have hx':(x == n)=false:=bm5.mpr hx
   have h':(r.map fun (n,k)=>if (k == NameKind.free && env.scope.kind == .function && env.kindOf n == some .cell) then (n,NameKind.cell) else (n,k)).lookup x=some k:=by
    by_cases hc:(q == NameKind.free && env.scope.kind == .function && env.kindOf n == some .cell)=true
    ·simp only [hc,if_true,bh8,hx'] at h; exact h
    ·simp only [hc,be9,bi5,bh8,hx'] at h; exact h
   simp only [bh8,hx']
   exact ih h'
noncomputable def gE (fr:List (Option Nat)) (σ:St):St:=fr.map fun o=>o.bind fun j=>(σ[j]?).join
noncomputable def Wk (σ₁ σ₂:St):Prop:=σ₁.length=σ₂.length/\∀ (i:Nat) v,σ₁[i]? = some (some v)->σ₂[i]? = some (some v)
theorem Wk.refl (σ:St):Wk σ σ:=⟨rfl,fun _ _ h=>h⟩
theorem Wk.set {σ τ:St}{i:Nat}{v:V} (h:Wk σ τ) (hi:σ[i]? = some none):Wk σ (τ.set i (some v)):=by
 refine⟨by rw [bg1]; exact h.1,fun j w e=>?_⟩
 by_cases hj:j=i
 ·subst hj; rw [hi] at e; cases e
 ·rw [be7 (Ne.symm hj)]; exact h.2 j w e
theorem jS:∀ (ns:List (Str × NameKind)) (n:Nat) (cs:List (Str × Addr)),cellsFrom n ns cs=cellsFrom n ns [] ++ cs
 | [],_,_=>rfl
 | (x,k) :: r,n,cs=>by
  unfold cellsFrom
  split
  ·rw [jS r (n+1) ((x,n) :: cs),jS r (n+1) [(x,n)]]; simp
  ·exact jS r n cs
theorem uZ:∀ (ns:List (Str × NameKind)) (n:Nat) {x:Str}{c:Addr},(x,c) ∈ cellsFrom n ns []->(x,NameKind.cell) ∈ ns
 | [],_,_,_,h=>by simp [cellsFrom] at h
 | (y,k) :: r,n,x,c,h=>by
  unfold cellsFrom at h
  split at h
  ·rename_i hk
   rw [jS] at h
   rcases bc9.mp h with z | z
   ·exact bd4 _ (uZ r _ z)
   ·rw [bc1] at z
    cases z
    have:k = .cell:=by simpa using hk
    rw [this]; exact bc6
  ·exact bd4 _ (uZ r _ h)
theorem qU:∀ (ns:List (Str × NameKind)) (n:Nat) {x:Str},(x,NameKind.cell) ∈ ns->∃ c,(x,c) ∈ cellsFrom n ns []
 | (y,k) :: r,n,x,h=>by
  unfold cellsFrom
  rcases bd0.mp h with z | z
  ·cases z
   rw [if_pos (by rfl),jS]
   exact⟨n,bf2 _ (by simp)⟩
  ·split
   ·obtain ⟨c,hc⟩:=qU r (n+1) z
    rw [jS]
    exact⟨c,bf7 _ hc⟩
   ·exact qU r n z
theorem v0 {α:Type}:∀ {l:List (Str × α)}{x:Str}{c:α},(x,c) ∈ l->∃ d,l.lookup x=some d
 | (y,v) :: r,x,c,h=>by
  rw [bh8]
  cases hb:x == y with
  | true=>exact⟨v,rfl⟩
  | false=>
   rcases bd0.mp h with z | z
   ·cases z; simp at hb
   ·exact v0 z
theorem qV {α:Type}{x:Str}:∀ (l r:List (Str × α)),(l ++ r).lookup x=(match l.lookup x with | some v=>some v | none=>r.lookup x)
 | [],_=>rfl
 | (y,v) :: l,r=>by
  rw [List.cons_append,bh8,bh8]
  cases hb:x == y with
  | true=>rfl
  | false=>exact qV l r
noncomputable def hJ (X:Cx) (scope:Scope) (C:Addr):List (Str × Addr):=cellsFrom (C+1) scope.names (eR X.env.cells scope.names [])
theorem lK {X:Cx}{scope:Scope}{C:Addr}{x:Str}{c:Addr} (h:(hJ X scope C).lookup x=some c) :
  (x,c) ∈ cellsFrom (C+1) scope.names [] ∨ ((∀ d,(x,d) ∉ cellsFrom (C+1) scope.names [])/\(eR X.env.cells scope.names []).lookup x=some c):=by
 unfold hJ at h
 rw [jS,qV] at h
 cases e:(cellsFrom (C+1) scope.names []).lookup x with
 | some v=>rw [e] at h; cases h; exact .inl (bg9 e)
 | none=>
  rw [e] at h
  refine .inr ⟨fun d hd=>?_,h⟩
  obtain ⟨d',z⟩:=v0 hd
  rw [e] at z; cases z
theorem ar3 {X:Cx}{scope:Scope}{C:Addr}{x:Str}{c:Addr} (hn:(x,NameKind.cell) ∉ scope.names) (h:(eR X.env.cells scope.names []).lookup x=some c):(hJ X scope C).lookup x=some c:=by
 unfold hJ
 rw [jS,qV]
 cases e:(cellsFrom (C+1) scope.names []).lookup x with
 | some v=>exact absurd (uZ _ _ (bg9 e)) hn
 | none=>exact h
theorem G5 {X:Cx}{scope:Scope}{C:Addr}{x:Str} (h:(x,NameKind.cell) ∈ scope.names ∨ ∃ c,(eR X.env.cells scope.names []).lookup x=some c):∃ c,(hJ X scope C).lookup x=some c:=by
 unfold hJ
 rw [jS,qV]
 cases e:(cellsFrom (C+1) scope.names []).lookup x with
 | some v=>exact⟨v,rfl⟩
 | none=>
  rcases h with h | h
  ·obtain ⟨c,hc⟩:=qU scope.names (C+1) h
   obtain ⟨d,hd⟩:=v0 hc
   rw [e] at hd; cases hd
  ·exact h
noncomputable def bI (X:Cx) (scope:Scope) (N:List Str) (s:Shared) (H:Hp) (C:Addr) (fp:List Addr) (E:Value->Shared->Prop):Cx:=
 { X with N:=N,s₀:=s,H₀:=H,env:=compEnvC scope (hJ X scope C) C X.env,outer:=X.stack,ex:=fp,fn:=fun x=>scope.names.lookup x == some .cell,pn:=[],xe:=E }
structure cI (X:Cx) (scope:Scope) (N:List Str) (fr:List (Option Nat)):Prop where
 kind:scope.kind = .function
 own:∀ y ∈ scope.names,y.2 = .cell->scope.names.lookup y.1=some .cell
 names:∀ y ∈ scope.names,y.2 = .local->scope.names.lookup y.1=some .local
 free:∀ y ∈ scope.names,y.2 = .free->X.env.scope.names.lookup y.1=some .cell ∨ X.env.scope.names.lookup y.1=some .free
 len:fr.length=N.length
 from_:∀ (i j:Nat),fr[i]? = some (some j)->∃ x,N[i]? = some x/\X.N[j]? = some x/\scope.names.lookup x=some .free
section
variable {X : Cx} {pins : List (Addr × Obj)} {σ : St} {H : Hp} {s : Shared} {scope : Scope} {N : List Str} {fr : List (Option Nat)}
theorem cI.cells (S:cI X scope N fr) (I:a8 X pins σ H s):∀ y ∈ scope.names,y.2 = .free->∃ c,X.env.cells.lookup y.1=some c:=fun y hy hk=>I.ok.has y.1 (S.free y hy hk)
theorem ar4 {C D:Addr}{fp:List Addr}{E:Value->Shared->Prop}{h1:Heap}{tk:Nat}{m:Str->Option Value} (S:cI X scope N fr) (I:a8 X pins σ H s)
  (hf:∀ b ∈ fp,gY X pins H b) (hfl:∀ b ∈ fp,b < s.heap.objs.size) (hD:s.heap.objs.size<=D) (hC:s.heap.objs.size<=C) (hDC:D < C)
  (old:∀ b o,s.heap.get? b=some o->h1.get? b=some o) (hns:h1.Ns C m) (hacc:h1.get? D=some { cls:=.type "list",data:=.seq #[] 0 }) (hco:CellsOk h1 (C+1) (cellsFrom (C+1) scope.names [])) :
  a8 (bI X scope N s H C fp E) [] (gE fr σ) (upd H D (.lst [])) { s with heap:=h1,toks:=tk }:=by
 have hHD:H D=none:=I.hok.fresh hD
 have cl:=S.cells I
 have cs:∀ {x:Str}{c:Addr},(eR X.env.cells scope.names []).lookup x=some c->X.env.cells.lookup x=some c:=fun {x c} h=>qS scope.names [] cl (fun _ _ z=>by simp at z) h
 have clt:∀ {x:Str}{c:Addr},X.env.cells.lookup x=some c->c < s.heap.objs.size:=fun {x c} h=>by obtain ⟨v,z⟩:=I.cell x c h; exact z.lt
 have nge:∀ {x:Str}{c:Addr},(x,c) ∈ cellsFrom (C+1) scope.names []->C < c:=fun {x c} h=>(hco.empty x c h).2
 refine⟨⟨I.ok.mod,?_,I.ok.glob,I.ok.blt,hC,?_,?_,?_,I.ok.hd,I.ok.frames,.inl rfl,?_,I.bs,bg5 I.ok.bsz I.sz,?_,?_,I.stack,I.stkFree⟩,rfl,I.bare,Un.laid old hD hHD,⟨m,hns,?_⟩,?_,?_,?_,fun p hp=>absurd (show p ∈ ([]:List (Addr × Obj)) from hp) (by simp),?_,?_⟩
 ·exact S.kind
 ·intro x y c h1 h2
  rcases lK h1 with a | ⟨_,a⟩ <;> rcases lK h2 with b | ⟨_,b⟩
  ·exact name_of_addr hco.apart a b
  ·exact absurd (bd2 (Nat.lt_trans (nge a) (clt (cs b))) hC) (bg6 _)
  ·exact absurd (bd2 (Nat.lt_trans (nge b) (clt (cs a))) hC) (bg6 _)
  ·exact I.ok.inj x y c (cs a) (cs b)
 ·intro x hx
  have hx:(relabel scope X.env).names.lookup x=some .cell ∨ (relabel scope X.env).names.lookup x=some .free:=hx
  have fin:(x,NameKind.free) ∈ scope.names->∃ c,(hJ X scope C).lookup x=some c:=fun z=>G5 (.inr (uY scope.names [] (.inl z)))
  rcases hx with hx | hx
  ·rcases qT hx with z | z
   ·exact G5 (.inl (bg9 z))
   ·exact fin (bg9 z.1)
  ·rcases qT hx with z | z
   ·exact fin (bg9 z)
   ·exact absurd z.2 (by decide)
 ·intro x c hx h
  have hx:(scope.names.lookup x == some NameKind.cell)=true:=hx
  have hx:scope.names.lookup x=some .cell:=by simpa using hx
  rcases lK h with a | ⟨a,_⟩
  ·exact bg5 hC (bh9 (nge a))
  ·obtain ⟨d,hd⟩:=qU scope.names (C+1) (bg9 hx)
   exact absurd hd (a d)
 ·intro b hb
  refine⟨bg0 (bd2 (hfl b hb) hC),fun x c e=>?_⟩
  rcases lK e with a | ⟨_,a⟩
  ·exact bl7 (Nat.lt_trans (bd2 (hfl b hb) hC) (nge a))
  ·exact (hf b hb).2.2.2.2.1 x c (cs a)
 ·intro b o e hb
  rcases (hf b hb).2.2.2.1 with z | z
  ·exact I.ok.noex b o e z
  ·exact absurd (bd2 (bd5 e) (bg5 I.ok.bsz z)) (bg6 _)
 ·intro b hb z
  rcases bd0.mp (I.stkSub b z) with e | e
  ·exact (hf b hb).2.1 e
  ·exact (hf b hb).2.2.1 e
 ·intro i x v e1 e2 e3
  have e2:(fr.map fun o=>o.bind fun j=>(σ[j]?).join)[i]? = some (some v):=e2
  rw [bd1] at e2
  cases ef:fr[i]? with
  | none=>rw [ef] at e2; cases e2
  | some o=>
   rw [ef] at e2
   cases o with
   | none=>cases e2
   | some j=>
    have e2:some ((σ[j]?).join)=some (some v):=e2
    have ej:σ[j]? = some (some v):=by
     cases q:σ[j]? with
     | none=>rw [q] at e2; cases e2
     | some w=>rw [q] at e2; cases w with
      | none=>cases e2
      | some w=>cases e2; rfl
    obtain ⟨y,a1,a2,a4⟩:=S.from_ i j ef
    have e1:N[i]? = some x:=e1
    rw [e1] at a1
    cases a1
    have a3:(x,NameKind.free) ∈ scope.names:=bg9 a4
    have vis:gW X.env.scope x:=(S.free _ a3 rfl).elim (fun z=>.inr (.inl z)) fun z=>.inr (.inr z)
    obtain ⟨m0,hn0,hl0⟩:=I.loc
    obtain ⟨u,r,l⟩:=hl0 j x v a2 ej vis
    refine⟨u,r,.inr ⟨?_,?_⟩⟩
    ·have e3:(relabel scope X.env).names.lookup x=some .local ∨ (relabel scope X.env).names.lookup x=some .cell ∨ (relabel scope X.env).names.lookup x=some .free:=e3
     rcases e3 with z | z | z
     ·rcases qT z with y | y
      ·rw [a4] at y; cases y
      ·exact absurd y.2 (by decide)
     ·exact .inl z
     ·exact .inr z
    ·obtain ⟨c,hc⟩:=uY (cells:=X.env.cells) scope.names [] (x:=x) (.inl a3)
     refine⟨c,ar3 (fun z=>by have:=S.own _ z rfl; rw [a4] at this; cases this) hc,?_⟩
     have hc':=cs hc
     have S1:=S.free (x,.free) a3 rfl
     rcases l with ⟨k,_⟩ | ⟨_,c2,hc2,z⟩
     ·have k:X.env.scope.names.lookup x=some .local:=k
      rcases S1 with q | q <;> (have q:X.env.scope.names.lookup x=_:=q; rw [k] at q; cases q)
     ·rw [hc'] at hc2; cases hc2
      obtain ⟨oc,ho,hd⟩:=z
      exact⟨oc,old c oc ho,hd⟩
 ·intro x c e
  rcases lK e with a | ⟨_,a⟩
  ·exact⟨_,(hco.empty x c a).1⟩
  ·obtain ⟨v,oc,ho,hd⟩:=I.cell x c (cs a)
   exact⟨v,oc,old c oc ho,hd⟩
 ·show upd H D (.lst []) C=none
  rw [b7 (bl7 hDC)]; exact I.hok.fresh hC
 ·intro x c e
  show upd H D (.lst []) c=none
  rcases lK e with a | ⟨_,a⟩
  ·rw [b7 (bl7 (Nat.lt_trans hDC (nge a)))]; exact I.hok.fresh (bg5 hC (bh9 (nge a)))
  ·have q:=cs a
   rw [b7 (bg0 (bd2 (clt q) hD))]
   exact I.freeC x c q
 ·exact I.hok.laid old hD ⟨bg8 _,[],0,.nil,hacc⟩
 ·show (gE fr σ).length=N.length
  unfold gE; rw [bb8]; exact S.len
end
noncomputable def kI (X:Cx) (ifs:List Expr) (t:TT):Prop:=
 ∀ (pins:List (Addr × Obj)) (s:Shared) (σ:St) (H:Hp) (Q:Bool->Hp->Prop),a8 X pins σ H s->t σ H Q->
  wpAny (model X.prog X.w) X.A (forIn ifs true fun c r=>if r=true then do let ok <- isTrue c X.env (eval c X.env); pure (ForInStep.yield ok) else pure (ForInStep.yield r)) (TP X pins σ Q) X.xe s
noncomputable def v3:TT:=fun _ H Q=>Q true H
theorem oG {X:Cx}:kI X [] v3:=fun _ _ _ H _ I h=>wpAny_tests_nil ⟨H,I,h⟩
theorem v4 {X:Cx}{c:Expr}{t:TT} (h:PT X c t):kI X [c] t:=fun pins s σ H Q I hq=>wpAny_tests_one (h pins s σ H Q I hq)
section
variable {prog : Program} {w : World} {A : Around}
noncomputable def v9 (prog:Program) (w:World) (A:Around) (elt tg:Expr) (ifs:List Expr) (it acc:Value) (env:Env) (lost:Value->Shared->Prop) (stop next:Shared->Prop) (s:Shared):Prop:=
 let M:=model prog w
 let tests:Sem Bool:=forIn ifs true fun c r=>if r=true then do let ok <- isTrue c env (eval c env); pure (ForInStep.yield ok) else pure (ForInStep.yield r)
 let put:Shared->Prop:=wpAny M A (eval elt env) (fun x=>wpAny M A (call (.builtin "list.append") [acc,x]) (fun _=>next) lost) lost
 let taken:Value->Shared->Prop:=fun v=>wpAny M A (letOwnedTupleGo tg it v) (fun _=>wpAny M A (assign tg env v) (fun _=>wpAny M A tests (fun ok s'=>if ok=true then put s' else next s') lost) lost) lost
 wpAny M A (pyNext it) (fun r s'=>match r with
  | none=>stop s'
  | some v=>taken v s') lost s
theorem ar5 {R:Result->Shared->Prop}{s:Shared}{elt tg iter:Expr}{ifs:List Expr}{scope:Scope}{pos:Pos}{it acc:Value}{env:Env} (I:Nat->Shared->Prop)
  (turn:∀ n s,I n s->v9 prog w A elt tg ifs it acc env (notedBy (model prog w) A env fun e=>R (.error e)) (R (.ok .next)) (fun s'=>∃ m,m < n/\I m s') s) (n:Nat) (h:I n s) :
  codeAny (model prog w) A (.compLoop (.ListComp elt [⟨tg,iter,ifs,0⟩] scope pos) 0 it acc env) R s:=by
 apply codeAny_loop rfl I _ n h
 intro k s1 h1
 change wpAny _ A ((compTurn _ 0 it acc env).onRaise (fun x=>do noteFrame x env; theTreesLotGoes x)) _ _ s1
 apply wpAny_noted
 rw [compTurn_list]
 have t:=turn k s1 h1
 unfold v9 at t
 apply bb5
 apply wpAny_standAt
 apply bb5
 refine bj6 t (fun r s2 h2=>?_) fun _ _ z=>z
 cases r with
 | none=>exact bc8 h2
 | some v=>
  apply bb5
  refine bj6 h2 (fun _ s3 h3=>?_) fun _ _ z=>z
  apply bb5
  refine bj6 h3 (fun _ s4 h4=>?_) fun _ _ z=>z
  apply bb5
  refine bj6 h4 (fun ok s5 h5=>?_) fun _ _ z=>z
  cases ok with
  | false=>exact bc8 ⟨rfl,h5⟩
  | true=>
   apply bb5
   apply bb5
   refine bj6 h5 (fun x s6 h6=>?_) fun _ _ z=>z
   apply bb5
   exact bj6 h6 (fun _ s7 h7=>bc8 (bc8 ⟨rfl,h7⟩)) fun _ _ z=>z
end
noncomputable def oH (g:TG) (tc:TT) (te:TE) (σ0:St) (J:It) (D:Addr) (Q:VK) (W:Nat->Nat->List V->Hp->Prop):Prop:=
 ∀ i m acc H',W i m acc H'->H' D=some (.lst acc)/\((J.stop i H'/\Q (.ref D) H') ∨ (J.go i H'/\∀ x H2,J.yld i H' x H2->g x σ0 H2 fun σ2 H3=>Wk σ0 σ2/\tc σ2 H3 fun b H4=>
  if b=true then te σ2 H4 fun v H5=>H5 D=some (.lst acc)/\acc.length < sizeLine/\∃ m',m' < m/\W (i+1) m' (acc ++ [v]) (upd H5 D (.lst (acc ++ [v]))) else ∃ m',m' < m/\W (i+1) m' acc H4))
noncomputable def G6 (wi:TI) (fr:List (Option Nat)) (g:TG) (tc:TT) (te:TE):TE:=fun σ H Q=>wi σ H fun J H1=>∀ D,H1 D=none->
 ∃ W:Nat->Nat->List V->Hp->Prop,(∃ m,W 0 m [] (upd H1 D (.lst [])))/\oH g tc te (gE fr σ) J D Q W
section
variable {M : Model} {A : Around} {E : Value → Shared → Prop} {s : Shared}
theorem ar6 {scope:Scope}{globals:Addr}{cl:List (Str × Addr)}{qual:Str}{func:Option Addr}{code:Value}{builtins:Addr}{outer:Env}{Q:Env->Shared->Prop}
  (hQ:∀ h',h'.Ns s.heap.objs.size (fun _=>none)->(∀ b o,s.heap.get? b=some o->h'.get? b=some o)->CellsOk h' (s.heap.objs.size+1) (cellsFrom (s.heap.objs.size+1) scope.names [])->
   Q (newEnv scope s.heap.objs.size globals (cellsFrom (s.heap.objs.size+1) scope.names cl) qual func code (some outer) builtins) { s with heap:=h' }) :
  wpAny M A (newFunctionEnv scope globals cl [] qual func code (some outer) builtins) Q E s:=by
 simp only [newFunctionEnv,Option.isSome_some,if_true]
 refine bb5 (wpAny_alloc ?_)
 refine bb5 (wpAny_layCells _ (fun name kind cells=>by cases hkc:kind == NameKind.cell <;> simp [hkc]) _ _ _ _ ?_)
 have ok:=cellsFrom_ok scope.names (s.heap.push { cls:=.type "dict",data:=.dict #[] }) (s.heap.objs.size+1) [] ⟨fun _ _ hm=>(nomatch hm),bo3⟩ (by rw [bq5]; exact bc5 _)
 rw [bq5] at ok
 rw [show ({ s with heap:=s.heap.push { cls:=.type "dict",data:=.dict #[] } }:Shared).heap.objs.size=s.heap.objs.size+1 from bq5 ..]
 rw [List.forIn_nil]
 refine bb5 (bc8 (bc8 (hQ _ ((Heap.Ns.new s.heap (.type "dict")).keeps (pushCells_keeps _ _)) (fun b o e=>pushCells_keeps _ _ b o (bb7 _ e)) ok)))
end
section
variable {X : Cx} {pins : List (Addr × Obj)} {σ : St} {H : Hp} {s : Shared} {scope : Scope} {N : List Str} {fr : List (Option Nat)} {tg iter elt : Expr} {ifs : List Expr} {pos : Pos} {wi : TI} {g : TG} {tc : TT} {te : TE}
structure mK (X:Cx) (scope:Scope) (N:List Str) (tg:Expr) (ifs:List Expr) (elt:Expr) (s:Shared) (H:Hp) (g:TG) (tc:TT) (te:TE):Prop where
 tg:∀ (C:Addr) (fp:List Addr),PG (bI X scope N s H C fp fun _ _=>False) tg g
 ifs:∀ (C:Addr) (fp:List Addr),kI (bI X scope N s H C fp fun _ _=>False) ifs tc
 elt:∀ (C:Addr) (fp:List Addr),PE (bI X scope N s H C fp fun _ _=>False) elt te
structure oI (X:Cx) (scope:Scope) (N:List Str) (tg:Expr) (ifs:List Expr) (elt:Expr) (g:TG) (tc:TT) (te:TE):Prop where
 tg:∀ (s:Shared) (H:Hp) (C:Addr) (fp:List Addr),PG (bI X scope N s H C fp fun _ _=>False) tg g
 ifs:∀ (s:Shared) (H:Hp) (C:Addr) (fp:List Addr),kI (bI X scope N s H C fp fun _ _=>False) ifs tc
 elt:∀ (s:Shared) (H:Hp) (C:Addr) (fp:List Addr),PE (bI X scope N s H C fp fun _ _=>False) elt te
theorem oI.at (B:oI X scope N tg ifs elt g tc te) (s:Shared) (H:Hp):mK X scope N tg ifs elt s H g tc te:=⟨B.tg s H,B.ifs s H,B.elt s H⟩
theorem ar7 {C:Addr}{fp:List Addr}{E:Value->Shared->Prop}{pins':List (Addr × Obj)}{σ':St}{H':Hp}{s':Shared} (I:a8 X pins σ H s) (hf:∀ b ∈ fp,gY X pins H b) (I':a8 (bI X scope N s H C fp E) pins' σ' H' s'):a8 X pins σ H' s':=
 I.call' (ch:=fp) I'.os I'.base I'.hok I'.bare fun b hb=>⟨(hf b hb).2.2.2.1,(hf b hb).2.1,(hf b hb).2.2.2.2.1,(hf b hb).2.2.2.2.2⟩
theorem qW {Rr:Value->Addr->Result->Shared->Prop}{J:It}{fp:List Addr}{it:Addr}{tn:Nat->Heap->Prop}{Q:VK}
  (hc:X.calm=true) (S:cI X scope N fr) (B:mK X scope N tg ifs elt s H g tc te) (I:a8 X pins σ H s) (T:jL X.prog X.w X.K tg J fp it tn) (hst:tn 0 s.heap) (hf:∀ b ∈ fp,gY X pins H b)
  (h:∀ D,H D=none->∃ W:Nat->Nat->List V->Hp->Prop,(∃ m,W 0 m [] (upd H D (.lst [])))/\oH g tc te (gE fr σ) J D Q W)
  (hend:∀ (D C:Addr) (s':Shared) (H':Hp) (m:Str->Option Value),s.heap.objs.size<=C->s.heap.objs.size<=D->a8 X pins σ H' s'->s'.heap.Ns C m->H' C=none->Q (.ref D) H'->Rr (.ref D) C (.ok .next) s') :
  wpAny (model X.prog X.w) X.A (newList []) (fun acc s₃=>wpAny (model X.prog X.w) X.A (newFunctionEnv scope X.env.globals (eR X.env.cells scope.names []) [] X.env.qual none .none (some X.env)) (fun cenv s₄=>
   codeAny (model X.prog X.w) X.A (.compStart (.ListComp elt [⟨tg,iter,ifs,0⟩] scope pos) 0 (.ref it) acc { cenv with scope:=relabel scope X.env }) (Rr acc cenv.locals) s₄) X.xe s₃) X.xe s:=by
 refine bi8 (ar6 (fun h₁ hns₁ keep₁ hco₁=>?_))
 dsimp only at hns₁ keep₁ hco₁ ⊢
 generalize hH2:s.heap.push { cls:=.type "list",dict:=none,data:=.seq ([]:List Value).toArray }=H2 at hns₁ keep₁ hco₁ ⊢
 have hC:H2.objs.size=s.heap.objs.size+1:=by rw [<- hH2,bq5]
 have hDC:s.heap.objs.size < H2.objs.size:=by rw [hC]; exact Nat.lt_succ_self _
 have hCle:s.heap.objs.size<=H2.objs.size:=by rw [hC]; exact Nat.le_succ _
 have old:∀ b o,s.heap.get? b=some o->h₁.get? b=some o:=fun b o e=>keep₁ b o (hH2 ▸ bb7 _ e)
 have hacc:h₁.get? s.heap.objs.size=some { cls:=.type "list",data:=.seq #[] 0 }:=keep₁ _ _ (hH2 ▸ be1 _ rfl)
 have hfl:∀ b ∈ fp,b < s.heap.objs.size:=fun b hb=>by obtain ⟨o,e,_⟩:=T.obj _ _ hst b hb; exact bd5 e
 obtain ⟨W,⟨m0,w0⟩,turn⟩:=h s.heap.objs.size (I.hok.fresh (bc5 _))
 have st1:tn 0 h₁:=T.keep _ _ _ hst fun b _ o e=>old b o e
 have fr0:∀ b ∈ fp,upd H s.heap.objs.size (.lst []) b=none:=fun b hb=>by rw [b7 (bg0 (hfl b hb))]; exact (hf b hb).1
 have stat:∀ {H':Hp},(∀ b ∈ fp,H' b=none)->∀ b ∈ fp,gY (bI X scope N s H H2.objs.size fp fun _ _=>False) [] H' b:=fun {H'} hn b hb=>by
  have f:=hf b hb
  refine⟨hn b hb,bg0 (bd2 (hfl b hb) hCle),fun z=>?_,.inl hb,fun x c e=>(lK e).elim (fun z=>bl7 (Nat.lt_trans (bd2 (hfl b hb) hCle) (hco₁.empty x c z).2)) fun z=>f.2.2.2.2.1 x c (qS scope.names [] (S.cells I) (fun _ _ z=>by simp at z) z.2),fun p hp=>absurd (show p ∈ ([]:List (Addr × Obj)) from hp) (by simp)⟩
  rcases bd0.mp (I.stkSub b z) with e | e
  ·exact f.2.1 e
  ·exact f.2.2.1 e
 generalize hX:bI X scope N s H H2.objs.size fp (fun _ _=>False)=Y at stat
 have I0:a8 Y [] (gE fr σ) (upd H s.heap.objs.size (.lst [])) { s with heap:=h₁ }:=hX ▸ ar4 S I hf hfl (bc5 _) hCle hDC old hns₁ hacc hco₁
 have bt:PG Y tg g:=hX ▸ B.tg H2.objs.size fp
 have bi:kI Y ifs tc:=hX ▸ B.ifs H2.objs.size fp
 have be:PE Y elt te:=hX ▸ B.elt H2.objs.size fp
 have eP:Y.prog=X.prog:=by rw [<- hX]; rfl
 have ew:Y.w=X.w:=by rw [<- hX]; rfl
 have eK:Y.K=X.K:=by rw [<- hX]; rfl
 have eA:Y.A=X.A:=by rw [<- hX]; rfl
 have eE:Y.env=compEnvC scope (hJ X scope H2.objs.size) H2.objs.size X.env:=by rw [<- hX]; rfl
 have eX:Y.xe=fun _ _=>False:=by rw [<- hX]; rfl
 have ec:Y.calm=true:=by rw [<- hX]; exact hc
 have never:∀ {E:Value->Shared->Prop} (e:Value) (s':Shared),Y.xe e s'->E e s':=fun {E} e s' z=>by rw [eX] at z; exact z.elim
 have out:∀ {pins' σ' H' s'},a8 Y pins' σ' H' s'->a8 X pins σ H' s':=fun {_ _ _ _} I'=>ar7 (C:=H2.objs.size) (E:=fun _ _=>False) (scope:=scope) (N:=N) I hf (hX ▸ I')
 have loop:codeAny (model X.prog X.w) X.A (.compLoop (.ListComp elt [⟨tg,iter,ifs,0⟩] scope pos) 0 (.ref it) (.ref s.heap.objs.size) (compEnvC scope (hJ X scope H2.objs.size) H2.objs.size X.env))
   (Rr (.ref s.heap.objs.size) H2.objs.size) { s with heap:=h₁ }:=by
  refine ar5 (fun n s'=>∃ i acc H',a8 Y [] (gE fr σ) H' s'/\tn i s'.heap/\(∀ b ∈ fp,H' b=none)/\W i n acc H') ?_ m0 ⟨0,[],_,I0,st1,fr0,w0⟩
  rintro n s3 ⟨i,acc,H3,I3,st3,fr3,w3⟩
  unfold v9
  dsimp only
  obtain ⟨hD3,step⟩:=turn i n acc H3 w3
  rcases step with ⟨stop,qn⟩ | ⟨go,step⟩
  ·have z:=T.done Y eP ew eK ec i [] s3 _ H3 (notedBy (model X.prog X.w) X.A (compEnvC scope (hJ X scope H2.objs.size) H2.objs.size X.env) fun e s'=>Rr (.ref s.heap.objs.size) H2.objs.size (.error e) s') I3 (stat fr3) st3 stop
   rw [eA] at z
   refine aQ z fun r s4 ⟨hr,I4⟩=>?_
   subst hr
   obtain ⟨m4,hn4,_⟩:=I4.loc
   rw [eE] at hn4
   have f4:=I4.free
   rw [eE] at f4
   exact hend _ _ s4 H3 m4 hCle (bc5 _) (out I4) hn4 f4 qn
  ·have z:=T.item Y eP ew eK ec i [] s3 _ H3 (notedBy (model X.prog X.w) X.A (compEnvC scope (hJ X scope H2.objs.size) H2.objs.size X.env) fun e s'=>Rr (.ref s.heap.objs.size) H2.objs.size (.error e) s') I3 (stat fr3) st3 go
   rw [eA] at z
   refine aQ z fun r s4 ⟨u,hr,h4⟩=>?_
   subst hr
   refine aQ h4 fun _ s5 ⟨x,H5,I5,r5,y5,st5,fr5⟩=>?_
   have I5':=I5.pinned (stat fr5) (T.obj _ _ st5)
   have q1:=bt _ s5 _ H5 x u _ I5' r5 (step x H5 y5)
   rw [eP,ew,eA,eE] at q1
   refine bj6 q1 (fun _ s6 ⟨σ6,H6,I6,wk,q6⟩=>?_) never
   have q2:=bi _ s6 σ6 H6 _ I6 q6
   rw [eP,ew,eA,eE] at q2
   refine bj6 q2 (fun b s7 ⟨H7,I7,q7⟩=>?_) never
   have again:∀ {H8:Hp}{s8:Shared}{acc':List V},a8 Y ([] ++ nY fp s5.heap) σ6 H8 s8->(∃ m',m' < n/\W (i+1) m' acc' H8)->∃ m,m < n/\∃ i acc H',a8 Y [] (gE fr σ) H' s8/\tn i s8.heap/\(∀ b ∈ fp,H' b=none)/\W i m acc H':=fun {H8 s8 acc'} I8 n8=>by
    obtain ⟨m',hm,w8⟩:=n8
    refine⟨m',hm,i+1,acc',H8,(I8.unpinned).weak wk.1 wk.2,T.keep _ _ _ st5 fun b hb o e=>(I8.pin (b,o) (bf2 _ (bf2 _ (qE hb e)))).1,fun b hb=>?_,w8⟩
    obtain ⟨o,e,d⟩:=T.obj _ _ st5 b hb
    exact (I8.pin (b,o) (bf2 _ (bf2 _ (qE hb e)))).2.1
   cases b with
   | false=>
    rw [if_neg bd9] at q7 ⊢
    exact again I7 q7
   | true=>
    rw [if_pos rfl] at q7 ⊢
    have q3:=be _ s7 σ6 H7 _ I7 q7
    rw [eP,ew,eA,eE] at q3
    refine bj6 q3 (fun v s8 ⟨y,H8,I8,r8,hD8,hz8,q8⟩=>?_) never
    have q4:=mI _ s8 σ6 H8 (.ref s.heap.objs.size) [y] (.ref s.heap.objs.size) [v] (fun _ H9=>∃ m',m' < n/\W (i+1) m' (acc ++ [y]) H9) I8 rfl (.cons r8 .nil) ⟨_,_,_,rfl,rfl,hD8,hz8,q8⟩
    rw [eP,ew,eA] at q4
    exact bj6 q4 (fun _ s9 ⟨_,H9,I9,_,q9⟩=>again I9 q9) never
 exact codeAny_compStart_list loop (T.self _ 0 _ _ _ st1 loop)
end
section
variable {X : Cx} {scope : Scope} {N : List Str} {fr : List (Option Nat)} {tg iter elt : Expr} {ifs : List Expr} {pos : Pos} {wi : TI} {g : TG} {tc : TT} {te : TE}
theorem a8.drop {pins:List (Addr × Obj)}{σ:St}{H H':Hp}{s s':Shared}{C:Addr}{h':Heap} (I0:a8 X pins σ H s) (hC:s.heap.objs.size<=C) {σ':St} (I:a8 X pins σ' H' s') (hn:H' C=none) (sb:Heap.SameBut C s'.heap h'):a8 X pins σ' H' { s' with heap:=h' }:=by
 refine I.turned (t':=s'.toks) (it:=C) (fun b o hb e=>(sb.2 b hb).trans e) hn (bl7 (bd2 I0.lt hC)) (.inr (bg5 I0.sz hC)) (fun x c e z=>?_) fun p hp z=>?_
 ·obtain ⟨v,q⟩:=I0.cell x c e
  exact absurd (bd2 q.lt (by rw [z]; exact hC)) (bg6 _)
 ·exact absurd (bd2 (bd5 (I0.pin p hp).1) (by rw [z]; exact hC)) (bg6 _)
theorem G7 (hc:X.calm=true) (S:cI X scope N fr) (hi:PI X tg iter wi) (B:oI X scope N tg ifs elt g tc te)
  (hs:∀ x,foldedSetIterable iter X.env x=pure x:=by intro _; rfl):PE X (.ListComp elt [⟨tg,iter,ifs,0⟩] scope pos) (G6 wi fr g tc te):=by
 intro pins s σ H Q I h
 rw [eval_ListComp]
 refine wpAny_comprehension_free (use:=none) rfl hs (qR (S.cells I)) S.kind S.names (aQ (hi pins s σ H _ I h) fun v s1 h1=>aQ h1 fun itv s2 h2=>?_)
 obtain ⟨it,fp,tn,J,H2,e,I2,T,st2,f2,hW⟩:=h2
 subst e
 refine qW (Rr:=fun acc C=>compPost (model X.prog X.w) X.A X.xe none (EP X pins σ Q) acc C) hc S (B.at _ _) I2 T st2 f2 hW ?_
 intro D C s' H' m hC hD I' hns hHC q
 exact⟨m,hns,fun h' sb=>⟨.ref D,H',I2.drop hC I' hHC sb,rfl,q⟩⟩
theorem G8 {i:Nat}{x:Str}{px spos:Pos} (hc:X.calm=true) (S:cI X scope N fr) (hi:PI X tg iter wi) (B:oI X scope N tg ifs elt g tc te) (hN:X.N.Nodup) (hix:X.N[i]? = some x) (hx:X.env.scope.names.lookup x=some .local)
  (hsw:swapsWith (.ListComp elt [⟨tg,iter,ifs,0⟩] scope pos) (some (.Name x px)) spos.line X.env=pure true) (hs:∀ x,foldedSetIterable iter X.env x=pure x:=by intro _; rfl) :
  PS X (.Assign [.Name x px] (.ListComp elt [⟨tg,iter,ifs,0⟩] scope pos) spos) (jK (G6 wi fr g tc te) (cG i)):=by
 intro pins s σ H D I h
 rw [exec_Assign_Name_used _ _ _ _ hsw]
 refine bb5 (wpAny_standAt (bb5 ?_))
 show wpAny _ _ (do let _ <- comprehension (.ListComp elt [⟨tg,iter,ifs,0⟩] scope pos) scope X.env _ (newList []) false (eval iter X.env) (some (assign (.Name x px) X.env))) _ _ s
 refine bb5 (bj6 (wpAny_comprehension_free (Q:=fun _ s'=>SP X pins D .next s') (use:=some (assign (.Name x px) X.env)) rfl hs (qR (S.cells I)) S.kind S.names (aQ (hi pins s σ H _ I h) fun v s1 h1=>aQ h1 fun itv s2 h2=>?_))
  (fun _ s' hq=>bc8 (bc8 hq)) fun _ _ e=>e)
 obtain ⟨it,fp,tn,J,H2,e,I2,T,st2,f2,hW⟩:=h2
 subst e
 refine qW (Rr:=fun acc C=>compPost (model X.prog X.w) X.A X.xe (some (assign (.Name x px) X.env)) (fun _ s'=>SP X pins D .next s') acc C) hc S (B.at _ _) I2 T st2 f2 hW ?_
 intro D' C s' H' m hC hD I' hns hHC q
 refine wpAny_assign_Name (tU I' hN hix (.inl hx) (v:=.ref D') rfl (fun s'' I'' sb=>?_) (.inr hx))
 obtain ⟨a,sb,ha⟩:=sb
 have hCa:C ≠ a:=by
  rcases ha with z | z
  ·rw [z]; exact bl7 (bd2 I2.lt hC)
  ·intro e; subst e
   obtain ⟨v,q⟩:=I2.cell x _ z
   exact absurd (bd2 q.lt hC) (bg6 _)
 exact⟨m,hns.sameBut sb hCa,fun h' sb'=>⟨_,H',I2.drop hC I'' hHC sb',q⟩⟩
variable {gh : Hp → TG} {tch : Hp → TT} {teh : Hp → TE}
noncomputable def vA (wi:TI) (fr:List (Option Nat)) (gh:Hp->TG) (tch:Hp->TT) (teh:Hp->TE):TE:=fun σ H Q=>wi σ H fun J H1=>∀ D,H1 D=none->
 ∃ W:Nat->Nat->List V->Hp->Prop,(∃ m,W 0 m [] (upd H1 D (.lst [])))/\oH (gh H1) (tch H1) (teh H1) (gE fr σ) J D Q W
theorem qX (hc:X.calm=true) (S:cI X scope N fr) (hi:PI X tg iter wi) (B:∀ (s:Shared) (H:Hp),mK X scope N tg ifs elt s H (gh H) (tch H) (teh H))
  (hs:∀ x,foldedSetIterable iter X.env x=pure x:=by intro _; rfl):PE X (.ListComp elt [⟨tg,iter,ifs,0⟩] scope pos) (vA wi fr gh tch teh):=by
 intro pins s σ H Q I h
 rw [eval_ListComp]
 refine wpAny_comprehension_free (use:=none) rfl hs (qR (S.cells I)) S.kind S.names (aQ (hi pins s σ H _ I h) fun v s1 h1=>aQ h1 fun itv s2 h2=>?_)
 obtain ⟨it,fp,tn,J,H2,e,I2,T,st2,f2,hW⟩:=h2
 subst e
 refine qW (Rr:=fun acc C=>compPost (model X.prog X.w) X.A X.xe none (EP X pins σ Q) acc C) hc S (B _ _) I2 T st2 f2 hW ?_
 intro D C s' H' m hC hD I' hns hHC q
 exact⟨m,hns,fun h' sb=>⟨.ref D,H',I2.drop hC I' hHC sb,rfl,q⟩⟩
theorem qY {i:Nat}{x:Str}{px spos:Pos} (hc:X.calm=true) (S:cI X scope N fr) (hi:PI X tg iter wi) (B:∀ (s:Shared) (H:Hp),mK X scope N tg ifs elt s H (gh H) (tch H) (teh H)) (hN:X.N.Nodup) (hix:X.N[i]? = some x) (hx:X.env.scope.names.lookup x=some .local)
  (hsw:swapsWith (.ListComp elt [⟨tg,iter,ifs,0⟩] scope pos) (some (.Name x px)) spos.line X.env=pure true) (hs:∀ x,foldedSetIterable iter X.env x=pure x:=by intro _; rfl) :
  PS X (.Assign [.Name x px] (.ListComp elt [⟨tg,iter,ifs,0⟩] scope pos) spos) (jK (vA wi fr gh tch teh) (cG i)):=by
 intro pins s σ H D I h
 rw [exec_Assign_Name_used _ _ _ _ hsw]
 refine bb5 (wpAny_standAt (bb5 ?_))
 show wpAny _ _ (do let _ <- comprehension (.ListComp elt [⟨tg,iter,ifs,0⟩] scope pos) scope X.env _ (newList []) false (eval iter X.env) (some (assign (.Name x px) X.env))) _ _ s
 refine bb5 (bj6 (wpAny_comprehension_free (Q:=fun _ s'=>SP X pins D .next s') (use:=some (assign (.Name x px) X.env)) rfl hs (qR (S.cells I)) S.kind S.names (aQ (hi pins s σ H _ I h) fun v s1 h1=>aQ h1 fun itv s2 h2=>?_))
  (fun _ s' hq=>bc8 (bc8 hq)) fun _ _ e=>e)
 obtain ⟨it,fp,tn,J,H2,e,I2,T,st2,f2,hW⟩:=h2
 subst e
 refine qW (Rr:=fun acc C=>compPost (model X.prog X.w) X.A X.xe (some (assign (.Name x px) X.env)) (fun _ s'=>SP X pins D .next s') acc C) hc S (B _ _) I2 T st2 f2 hW ?_
 intro D' C s' H' m hC hD I' hns hHC q
 refine wpAny_assign_Name (tU I' hN hix (.inl hx) (v:=.ref D') rfl (fun s'' I'' sb=>?_) (.inr hx))
 obtain ⟨a,sb,ha⟩:=sb
 have hCa:C ≠ a:=by
  rcases ha with z | z
  ·rw [z]; exact bl7 (bd2 I2.lt hC)
  ·intro e; subst e
   obtain ⟨v,q⟩:=I2.cell x _ z
   exact absurd (bd2 q.lt hC) (bg6 _)
 exact⟨m,hns.sameBut sb hCa,fun h' sb'=>⟨_,H',I2.drop hC I'' hHC sb',q⟩⟩
end
theorem bK {H:Hp}{p:Addr} (h:H p=none) (o:HO):aD H (upd H p o):=fun b u q=>by rw [b7 (dU q h)]; exact q
theorem aD.tup {K:PySem.W.Frag}{H H':Hp}{a:Addr}{xs:List V} (e:aD H H') (h:aR K H a xs):aR K H' a xs:=by
 rcases h with (h | ⟨o,h⟩) | h
 ·exact .inl (.inl (e _ _ h))
 ·exact .inl (.inr ⟨o,e _ _ h⟩)
 ·exact .inr h
structure G9 (H:Hp) (J:It) (xs:List V):Prop where
 go:∀ i H',aD H H'->i < xs.length->J.go i H'
 yld:∀ i H' x H2,aD H H'->J.yld i H' x H2->i < xs.length->xs[i]? = some x/\H2=H'
 stop:∀ H',aD H H'->J.stop xs.length H'
theorem J0 {K:PySem.W.Frag}{H:Hp}{a:Addr}{xs:List V} (h:aR K H a xs):G9 H (kF K a) xs:=
 ⟨fun i H' e hi=>⟨xs,xs[i],e.tup h,by simp [hi]⟩,fun i H' x H2 e y hi=>⟨y.2 xs (e.tup h),y.1⟩,fun H' e=>⟨xs,e.tup h,bc5 _⟩⟩
noncomputable def jT (lo:Int) (n:Nat):List V:=(List.range n).map fun (i:Nat)=>V.int (lo+(i:Int))
theorem vB (lo:Int) (n:Nat):(jT lo n).length=n:=by unfold jT; rw [bb8,List.length_range]
noncomputable def CW (H1:Hp) (D:Addr) (n:Nat) (Pv:Nat->List V->Hp->Prop):Nat->Nat->List V->Hp->Prop:=fun i m acc H'=>m=n - i/\i<=n/\acc.length<=i/\aD H1 H'/\H' D=some (.lst acc)/\Pv i acc H'
noncomputable def vC (H1:Hp) (D:Addr) (n:Nat) (Pv:Nat->List V->Hp->Prop) (i:Nat) (acc:List V) (v:V) (H5:Hp):Prop:=H5 D=some (.lst acc)/\acc.length < sizeLine/\∃ m',m' < n - i/\CW H1 D n Pv (i+1) m' (acc ++ [v]) (upd H5 D (.lst (acc ++ [v])))
noncomputable def J1 (H1:Hp) (D:Addr) (n:Nat) (Pv:Nat->List V->Hp->Prop) (i:Nat) (acc:List V) (H4:Hp):Prop:=∃ m',m' < n - i/\CW H1 D n Pv (i+1) m' acc H4
structure qZ (H1:Hp) (D:Addr) (n i:Nat) (acc:List V) (H':Hp):Prop where
 lt:i < n
 few:acc.length<=i
 sz:n<=sizeLine
 same:aD H1 H'
 new:H1 D=none
 acc:H' D=some (.lst acc)
theorem qZ.yes {H1:Hp}{D:Addr}{n i:Nat}{acc:List V}{H' H5:Hp}{Pv:Nat->List V->Hp->Prop}{v:V} (c:qZ H1 D n i acc H') (s:aD H' H5) (p:Pv (i+1) (acc ++ [v]) (upd H5 D (.lst (acc ++ [v])))):vC H1 D n Pv i acc v H5:=by
 refine⟨s _ _ c.acc,Nat.lt_of_le_of_lt c.few (bd2 c.lt c.sz),_,?_,rfl,c.lt,?_,fun b o e=>?_,bM,p⟩
 ·have:=c.lt; omega
 ·rw [bd3,bf6]; exact Nat.succ_le_succ c.few
 ·rw [b7 (dU e c.new)]; exact s _ _ (c.same _ _ e)
theorem J2 {H1:Hp}{J:It}{xs:List V}{g:TG}{tc:TT}{te:TE}{σ0:St}{Q:VK} (O:G9 H1 J xs) (Pv:Nat->List V->Hp->Prop) (hn:xs.length<=sizeLine)
  (h0:∀ D,H1 D=none->Pv 0 [] (upd H1 D (.lst [])))
  (hs:∀ i x acc D H',xs[i]? = some x->qZ H1 D xs.length i acc H'->Pv i acc H'->g x σ0 H' fun σ2 H3=>Wk σ0 σ2/\tc σ2 H3 fun b H4=>
   if b=true then te σ2 H4 fun v H5=>vC H1 D xs.length Pv i acc v H5 else J1 H1 D xs.length Pv i acc H4)
  (hd:∀ D acc H',H1 D=none->aD H1 H'->H' D=some (.lst acc)->acc.length<=xs.length->Pv xs.length acc H'->Q (.ref D) H') :
  ∀ D,H1 D=none->∃ W:Nat->Nat->List V->Hp->Prop,(∃ m,W 0 m [] (upd H1 D (.lst [])))/\oH g tc te σ0 J D Q W:=by
 intro D hD
 refine⟨CW H1 D xs.length Pv,⟨xs.length,rfl,bg8 _,bc5 _,bK hD _,bM,h0 D hD⟩,?_⟩
 rintro i m acc H' ⟨rfl,hi,ha,sm,hDa,p⟩
 refine⟨hDa,?_⟩
 by_cases hlt:i < xs.length
 ·refine .inr ⟨O.go i H' sm hlt,fun x H2 y=>?_⟩
  obtain ⟨hx,e⟩:=O.yld i H' x H2 sm y hlt
  subst e
  exact hs i x acc D H2 hx ⟨hlt,ha,hn,sm,hD,hDa⟩ p
 ·have e:i=xs.length:=by omega
  subst e
  exact .inl ⟨O.stop H' sm,hd D acc H' hD sm hDa ha p⟩
end L2
namespace Srt
open PySem PySem.W PyProof.Rows
noncomputable abbrev G (p:Array Nat) (i:Nat):Nat:=p.getD i 0
theorem oJ {p q:Array Nat}{i j:Nat} (h:p[i]? = q[j]?):G p i=G q j:=by
 unfold G; rw [bo7,bo7,h]
theorem vD {p:Array Nat}{i j:Nat} (hj:j<=p.size) (k:Nat):G (kas_rev p i j) k=if i<=k/\k < j then G p (i+j - 1 - k) else G p k:=by
 have e:=getElem?_mirror_all (i:=i) hj k
 unfold kas_rev
 by_cases h1:i<=k/\k < j
 ·rw [if_pos h1] at e ⊢; exact oJ e
 ·rw [if_neg h1] at e ⊢; exact oJ e
theorem ar8 {p:Array Nat}{src d:Nat} (hs:src < p.size) (hd:d<=src) (k:Nat):G (bubble p src d) k=if k=src - d then G p src else if src - d < k/\k<=src then G p (k - 1) else G p k:=by
 have e:=getElem?_bubble hs d hd k
 by_cases h1:k=src - d
 ·rw [if_pos h1] at e ⊢; exact oJ e
 ·rw [if_neg h1] at e ⊢
  by_cases h2:src - d < k/\k<=src
  ·rw [if_pos h2] at e ⊢; exact oJ e
  ·rw [if_neg h2] at e ⊢; exact oJ e
noncomputable def PP (n:Nat) (p:Array Nat):Prop:=p.toList.Perm (List.range n)
theorem PP.size {n:Nat}{p:Array Nat} (h:PP n p):p.size=n:=by
 have:=h.length_eq
 rw [List.length_range] at this
 simpa using this
theorem PP.lt {n:Nat}{p:Array Nat} (h:PP n p) {k:Nat} (hk:k < n):G p k < n:=by
 have hs:=h.size
 have hk':k < p.toList.length:=by simpa [hs] using hk
 have e:G p k=p.toList[k]:=by
  unfold G; rw [bo7]; simp [hs,hk]
 have m:p.toList[k] ∈ p.toList:=List.getElem_mem hk'
 rw [e]
 exact bp2.mp (h.mem_iff.mp m)
theorem PP.of {n:Nat}{p q:Array Nat} (h:PP n p) (e:q.Perm p):PP n q:=(Array.perm_iff_toList_perm.mp e).trans h
theorem PP.rev {n:Nat}{p:Array Nat} (h:PP n p) (i j:Nat):PP n (kas_rev p i j):=h.of (mirror_perm _ _ _ _)
theorem PP.bub {n:Nat}{p:Array Nat} (h:PP n p) (i j:Nat):PP n (bubble p i j):=h.of (bubble_perm _ _ _)
structure vE (c:Nat->Nat->Bool):Prop where
 asym:∀ {i j},c i j=true->c j i=false
 ntr:∀ {i j k},c i j=false->c j k=false->c i k=false
section
variable {c : Nat → Nat → Bool} (O : vE c)
noncomputable def Le (c:Nat->Nat->Bool) (i j:Nat):Prop:=c j i=false
include O
theorem le_refl (i:Nat):Le c i i:=by
 unfold Le
 cases h:c i i with
 | false=>rfl
 | true=>have:=O.asym h; rw [h] at this; exact this
theorem le_trans {i j k:Nat} (h1:Le c i j) (h2:Le c j k):Le c i k:=O.ntr h2 h1
theorem r6 {i j:Nat} (h:c i j=true):Le c i j:=O.asym h
omit O
noncomputable def gF (c:Nat->Nat->Bool) (p:Array Nat) (n:Nat):Prop:=∀ a b,a<=b->b < n->Le c (G p a) (G p b)
noncomputable def kJ (c:Nat->Nat->Bool) (p:Array Nat) (n:Nat):Prop:=∀ a b,a<=b->b < n->Le c (G p b) (G p a)
include O
theorem ar9 {p:Array Nat}{n:Nat} (h:gF c p n) (h1:1<=n) (hl:Le c (G p (n - 1)) (G p n)):gF c p (n+1):=fun a b hab hb=>by
 by_cases hbn:b < n
 ·exact h a b hab hbn
 ·have e:b=n:=by omega
  subst e
  by_cases han:a=b
  ·subst han; exact le_refl O _
  ·exact le_trans O (h a (b - 1) (by omega) (by omega)) hl
theorem r9 {p:Array Nat}{n:Nat} (h:kJ c p n) (h1:1<=n) (hl:Le c (G p n) (G p (n - 1))):kJ c p (n+1):=fun a b hab hb=>by
 by_cases hbn:b < n
 ·exact h a b hab hbn
 ·have e:b=n:=by omega
  subst e
  by_cases han:a=b
  ·subst han; exact le_refl O _
  ·exact le_trans O hl (h a (b - 1) (by omega) (by omega))
omit O
noncomputable def cJ {α:Type} (n:Nat) (c:Nat->Nat->Bool) (R:α->Prop):KasT α->Prop
 | .ret a=>R a
 | .ask i j k=>i < n/\j < n/\cJ n c R (k (c i j))
theorem cJ.mono {α:Type}{n:Nat}{R R':α->Prop} (h:∀ a,R a->R' a):∀ (t:KasT α),cJ n c R t->cJ n c R' t
 | .ret a,q=>h a q
 | .ask i j k,q=>⟨q.1,q.2.1,cJ.mono h (k (c i j)) q.2.2⟩
theorem cJ.bind {α β:Type}{n:Nat}{R:α->Prop}{R':β->Prop}{f:α->KasT β} (h:∀ a,R a->cJ n c R' (f a)):∀ (t:KasT α),cJ n c R t->cJ n c R' (t.bind f)
 | .ret a,q=>h a q
 | .ask i j k,q=>⟨q.1,q.2.1,cJ.bind h (k (c i j)) q.2.2⟩
theorem cJ.run {α:Type}{n:Nat}{R:α->Prop}{I:Shared->Prop}{cmp:Nat->Nat->(Bool->Shared->Prop)->Shared->Prop}{Q:α->Shared->Prop}
  (hc:∀ i j C s,i < n->j < n->I s->(∀ s',I s'->C (c i j) s')->cmp i j C s) (hQ:∀ a s,R a->I s->Q a s):∀ (t:KasT α) (s:Shared),I s->cJ n c R t->t.kasWp cmp Q s
 | .ret a,s,hI,q=>hQ a s q hI
 | .ask i j k,s,hI,q=>hc i j _ s q.1 q.2.1 hI fun s' hI'=>cJ.run hc hQ (k (c i j)) s' hI' q.2.2
include O
theorem vF {n:Nat}{p:Array Nat} (hp:PP n p):∀ (f m:Nat),1<=m->m+f<=n->gF c p m->cJ n c (fun r=>m<=r/\r<=m+f/\gF c p r/\(r < m+f->c (G p r) (G p (r - 1))=true)) (kas_asc p f m)
 | 0,m,_,_,h=>⟨bc5 _,bc5 _,h,fun z=>absurd z (bg6 _)⟩
 | f+1,m,h1,h2,h=>by
  refine⟨hp.lt (by omega),hp.lt (by omega),?_⟩
  by_cases hc:c (p.getD m 0) (p.getD (m - 1) 0)=true
  ·simp only [hc,if_true]
   exact⟨bc5 _,by omega,h,fun _=>hc⟩
  ·have hc':c (p.getD m 0) (p.getD (m - 1) 0)=false:=bm5.mpr hc
   simp only [hc',be9,bi5]
   refine cJ.mono (fun r q=>⟨by omega,by omega,q.2.2.1,fun z=>q.2.2.2 (by omega)⟩) _ (vF hp f (m+1) (by omega) (by omega) (ar9 O h h1 hc'))
omit O
noncomputable def lN (c:Nat->Nat->Bool) (i j:Nat):Prop:=Le c i j/\Le c j i
include O
theorem vG {p q:Array Nat}{n:Nat} (h:kJ c p n) (e:∀ k,k < n->lN c (G q k) (G p k)):kJ c q n:=fun a b hab hb=>
 le_trans O (e b hb).1 (le_trans O (h a b hab hb) (e a (by omega)).2)
theorem J3 {n m i:Nat}{p:Array Nat} (hp:PP n p) (hm:m<=n) (h:∀ a,i<=a->a < m->lN c (G p a) (G p (m - 1))):∀ k,lN c (G (kas_rev p i m) k) (G p k):=fun k=>by
 rw [vD (by rw [hp.size]; exact hm)]
 by_cases hk:i<=k/\k < m
 ·rw [if_pos hk]
  have h1:=h (i+m - 1 - k) (by omega) (by omega)
  have h2:=h k hk.1 hk.2
  exact⟨le_trans O h1.1 h2.2,le_trans O h2.1 h1.2⟩
 ·rw [if_neg hk]; exact⟨le_refl O _,le_refl O _⟩
omit O
noncomputable def DI (c:Nat->Nat->Bool) (n:Nat) (p:Array Nat) (m q:Nat):Prop:=PP n p/\1<=m/\m<=n/\kJ c p m/\q+1<=m/\∀ a,m - (q+1)<=a->a < m->lN c (G p a) (G p (m - 1))
include O
theorem J4 {n m q:Nat}{p:Array Nat} (h:DI c n p m q):PP n (kas_rev p (m - (q+1)) m)/\∀ k,lN c (G (kas_rev p (m - (q+1)) m) k) (G p k):=
 ⟨h.1.rev _ _,J3 O h.1 h.2.2.1 h.2.2.2.2.2⟩
theorem rA {n:Nat}:∀ (f:Nat) (p:Array Nat) (m q:Nat),m+f<=n->DI c n p m q->cJ n c (fun r=>DI c n r.1 r.2.1 r.2.2) (kas_desc f p m q)
 | 0,p,m,q,_,h=>h
 | f+1,p,m,q,hf,h=>by
  have hp:=h.1
  have h1:=h.2.1
  refine⟨hp.lt (by omega),hp.lt (by omega),?_⟩
  by_cases hc:c (p.getD m 0) (p.getD (m - 1) 0)=true
  ·simp only [hc,if_true]
   have dn:kJ c p (m+1):=r9 O h.2.2.2.1 h1 (r6 O hc)
   by_cases hq:q > 0
   ·simp only [hq,if_true]
    obtain ⟨pr,er⟩:=J4 O h
    refine rA f _ (m+1) 0 (by omega) ⟨pr,by omega,by omega,vG O dn fun k _=>er k,by omega,fun a h1 h2=>?_⟩
    have e:a=m+1 - 1:=by omega
    rw [e]; exact⟨le_refl O _,le_refl O _⟩
   ·simp only [hq,bi5]
    refine rA f p (m+1) 0 (by omega) ⟨hp,by omega,by omega,dn,by omega,fun a h1 h2=>?_⟩
    have e:a=m+1 - 1:=by omega
    rw [e]; exact⟨le_refl O _,le_refl O _⟩
  ·have hc':c (p.getD m 0) (p.getD (m - 1) 0)=false:=bm5.mpr hc
   simp only [hc',be9,bi5]
   refine⟨hp.lt (by omega),hp.lt (by omega),?_⟩
   by_cases hd:c (p.getD (m - 1) 0) (p.getD m 0)=true
   ·simp only [hd,if_true]
    exact h
   ·have hd':c (p.getD (m - 1) 0) (p.getD m 0)=false:=bm5.mpr hd
    simp only [hd',be9,bi5]
    have ee:lN c (G p (m - 1)) (G p m):=⟨hc',hd'⟩
    refine rA f p (m+1) (q+1) (by omega) ⟨hp,by omega,by omega,r9 O h.2.2.2.1 h1 ee.2,by have:=h.2.2.2.2.1; omega,fun a h1 h2=>?_⟩
    rw [Nat.add_sub_cancel]
    by_cases ha:a=m
    ·rw [ha]; exact⟨le_refl O _,le_refl O _⟩
    ·have z:=h.2.2.2.2.2 a (by omega) (by omega)
     exact⟨le_trans O z.1 ee.1,le_trans O ee.2 z.2⟩
omit O
noncomputable def CI (c:Nat->Nat->Bool) (n:Nat) (r:Nat × Array Nat):Prop:=PP n r.2/\1<=r.1/\r.1<=n/\gF c r.2 r.1
include O
theorem J5 {n m:Nat}{p:Array Nat} (hp:PP n p) (h1:1<=m) (hm:m<=n) (h:kJ c p m):cJ n c (CI c n) (kas_tail3 m n p):=by
 have ha:gF c (kas_rev p 0 m) m:=fun a b hab hb=>by
  rw [vD (by rw [hp.size]; exact hm),vD (by rw [hp.size]; exact hm),if_pos ⟨bg8 _,by omega⟩,if_pos ⟨bg8 _,hb⟩]
  exact h _ _ (by omega) (by omega)
 refine cJ.bind (R:=fun r=>m<=r/\r<=m+(n - m)/\gF c (kas_rev p 0 m) r/\_) (fun r q=>?_) _ (vF O (hp.rev 0 m) (n - m) m h1 (by omega) ha)
 exact⟨hp.rev _ _,by have:=q.1; omega,by have:=q.2.1; omega,q.2.2.1⟩
theorem J6 {n m:Nat}{p:Array Nat} (hp:PP n p) (h1:1<=m) (hm:m+1<=n) (h:kJ c p (m+1)):cJ n c (CI c n) (kas_descPart m n p):=by
 refine cJ.bind (R:=fun r=>DI c n r.1 r.2.1 r.2.2) (fun r q=>?_) _ (rA O (n - (m+1)) p (m+1) 0 (by omega) ⟨hp,by omega,hm,h,by omega,fun a h1 h2=>?_⟩)
 ·by_cases hq:r.2.2 > 0
  ·rw [if_pos hq]
   obtain ⟨pr,er⟩:=J4 O q
   exact J5 O pr q.2.1 q.2.2.1 (vG O q.2.2.2.1 fun k _=>er k)
  ·rw [if_neg hq]
   exact J5 O q.1 q.2.1 q.2.2.1 q.2.2.2.1
 ·have e:a=m+1 - 1:=by omega
  rw [e]; exact⟨le_refl O _,le_refl O _⟩
theorem as0 {n:Nat}{p:Array Nat} (hp:PP n p) (hn:1<=n):cJ n c (CI c n) (kas_count n p):=by
 have a1:gF c p 1:=fun a b hab hb=>by
  have e1:a=0:=by omega
  have e2:b=0:=by omega
  rw [e1,e2]; exact le_refl O _
 refine cJ.bind (R:=fun r=>1<=r/\r<=1+(n - 1)/\gF c p r/\(r < 1+(n - 1)->c (G p r) (G p (r - 1))=true)) (fun m q=>?_) _ (vF O hp (n - 1) 1 (bc5 _) (by omega) a1)
 obtain ⟨q1,q2,q3,q4⟩:=q
 by_cases hm:(m == n)=true
 ·rw [if_pos hm]
  exact⟨hp,q1,by omega,q3⟩
 ·rw [if_neg hm]
  have hne:m ≠ n:=by simpa using hm
  have hc:=q4 (by omega)
  by_cases h1:m > 1
  ·rw [if_pos h1]
   refine⟨hp.lt (by omega),hp.lt (by omega),?_⟩
   by_cases hd:c (p.getD 0 0) (p.getD (m - 1) 0)=true
   ·simp only [hd,if_true]
    exact⟨hp,q1,by omega,q3⟩
   ·have hd':c (p.getD 0 0) (p.getD (m - 1) 0)=false:=bm5.mpr hd
    simp only [hd',be9,bi5]
    have eq:∀ a,0<=a->a < m->lN c (G p a) (G p (m - 1)):=fun a _ ha=>⟨q3 a (m - 1) (by omega) (by omega),le_trans O hd' (q3 0 a (bg8 _) ha)⟩
    have er:=J3 O hp (by omega:m<=n) eq
    refine J6 O (hp.rev 0 m) q1 (by omega) (vG O (p:=p) ?_ fun k _=>er k)
    refine r9 O (fun a b hab hb=>?_) q1 (r6 O hc)
    exact le_trans O (eq b (bg8 _) hb).1 (eq a (bg8 _) (by omega)).2
  ·rw [if_neg h1]
   have e:m=1:=by omega
   subst e
   refine J6 O hp (bc5 _) (by omega) (r9 O (fun a b hab hb=>?_) (bc5 _) (r6 O hc))
   have e1:a=0:=by omega
   have e2:b=0:=by omega
   rw [e1,e2]; exact le_refl O _
theorem vH {n k:Nat}{p:Array Nat} (hp:PP n p) (hk:k < n) (ha:gF c p k):∀ (f l r:Nat),l<=r->r<=k->r - l<=f->(∀ a,a < l->Le c (G p a) (G p k))->(∀ a,r<=a->a < k->Le c (G p k) (G p a))->
  cJ n c (fun l=>l<=k/\(∀ a,a < l->Le c (G p a) (G p k))/\∀ a,l<=a->a < k->Le c (G p k) (G p a)) (kas_place p k f l r)
 | 0,l,r,h1,h2,h3,hl,hr=>⟨by omega,hl,fun a h4 h5=>hr a (by omega) h5⟩
 | f+1,l,r,h1,h2,h3,hl,hr=>by
  unfold kas_place
  by_cases hlr:l >= r
  ·rw [if_pos hlr]
   exact⟨by omega,hl,fun a h4 h5=>hr a (by omega) h5⟩
  ·rw [if_neg hlr]
   refine⟨hp.lt hk,hp.lt (by omega),?_⟩
   by_cases hc:c (p.getD k 0) (p.getD ((l+r) / 2) 0)=true
   ·simp only [hc,if_true]
    exact vH hp hk ha f l ((l+r) / 2) (by omega) (by omega) (by omega) hl fun a h4 h5=>le_trans O (r6 O hc) (ha _ _ h4 h5)
   ·have hc':c (p.getD k 0) (p.getD ((l+r) / 2) 0)=false:=bm5.mpr hc
    simp only [hc',be9,bi5]
    exact vH hp hk ha f ((l+r) / 2+1) r (by omega) h2 (by omega) (fun a h4=>le_trans O (ha a ((l+r) / 2) (by omega) (by omega)) hc') hr
theorem J7 {n:Nat}:∀ (f:Nat) (p:Array Nat) (k:Nat),PP n p->k+f<=n->gF c p k->cJ n c (fun q=>PP n q/\gF c q (k+f)) (kas_bin f p k)
 | 0,p,k,hp,_,h=>⟨hp,h⟩
 | f+1,p,k,hp,hk,h=>by
  refine cJ.bind (R:=fun l=>l<=k/\(∀ a,a < l->Le c (G p a) (G p k))/\∀ a,l<=a->a < k->Le c (G p k) (G p a)) (fun l q=>?_) _ (vH O hp (by omega) h k 0 k (bg8 _) (bc5 _) (by omega) (fun a z=>absurd z (Nat.not_lt_zero _)) fun a h1 h2=>absurd h2 (by omega))
  obtain ⟨q1,q2,q3⟩:=q
  have e:∀ a,G (bubble p k (k - l)) a=if a=l then G p k else if l < a/\a<=k then G p (a - 1) else G p a:=fun a=>by
   rw [ar8 (by rw [hp.size]; omega) (by omega),show k - (k - l)=l by omega]
  refine cJ.mono (fun r z=>⟨z.1,by rw [show k+(f+1)=k+1+f by omega]; exact z.2⟩) _ (J7 f _ (k+1) (hp.bub _ _) (by omega) fun a b hab hb=>?_)
  rw [e,e]
  by_cases ha:a=l
  ·rw [if_pos ha]
   by_cases hb':b=l
   ·rw [if_pos hb']; exact le_refl O _
   ·rw [if_neg hb',if_pos (by omega)]; exact q3 _ (by omega) (by omega)
  ·rw [if_neg ha]
   by_cases ha2:l < a/\a<=k
   ·rw [if_pos ha2,if_neg (by omega),if_pos (by omega)]
    exact h _ _ (by omega) (by omega)
   ·rw [if_neg ha2]
    by_cases hb':b=l
    ·rw [if_pos hb']; exact q2 a (by omega)
    ·rw [if_neg hb']
     by_cases hb2:l < b/\b<=k
     ·rw [if_pos hb2]; exact h _ _ (by omega) (by omega)
     ·rw [if_neg hb2]; exact h _ _ hab (by omega)
theorem as1 {n:Nat} (hn:1<=n):cJ n c (fun q=>PP n q/\gF c q n) (kas_sort n):=by
 have hp:PP n (List.toArray (List.range n)):=by unfold PP; simp
 refine cJ.bind (R:=CI c n) (fun r q=>?_) _ (as0 O hp hn)
 obtain ⟨q1,q2,q3,q4⟩:=q
 by_cases h:r.1 < n
 ·rw [if_pos h]
  have e:max r.1 1=r.1:=by omega
  rw [e]
  exact cJ.mono (fun p z=>⟨z.1,by rw [show r.1+(n - r.1)=n by omega] at z; exact z.2⟩) _ (J7 O (n - r.1) r.2 r.1 q1 (by omega) q4)
 ·rw [if_neg h]
  have e:r.1=n:=by omega
  exact⟨q1,by rw [e] at q4; exact q4⟩
end
end Srt
namespace L2
open PySem PySem.Spec PyProof.Rows
theorem bY.there {P:Program}{w:World}{H:Hp}{h:Heap}{a:Addr}{o:HO} (x:bY P w H h a o):∃ u,h.get? a=some u:=by
 cases o with
 | lst xs=>obtain ⟨_,_,_,_,e⟩:=x; exact⟨_,e⟩
 | tup xs=>obtain ⟨_,_,_,⟨o,e,_⟩,_⟩:=x; exact⟨_,e⟩
 | dK kvs=>obtain ⟨_,_,_,_,o,_,_,e,_⟩:=x; exact⟨_,e⟩
 | dT kvs=>obtain ⟨_,_,_,_,o,_,_,e,_⟩:=x; exact⟨_,e⟩
 | set S n=>obtain ⟨o,_,_,_,e,_⟩:=x; exact⟨_,e⟩
 | ins C dx fs=>obtain ⟨_,_,_,e,_⟩:=x; exact⟨_,e⟩
 | own y=>exact x
 | xd fs=>obtain ⟨_,⟨_,_,_,e,_⟩,_⟩:=x; exact⟨_,e⟩
 | rng lo hi=>obtain ⟨_,_,_,e⟩:=x; exact⟨_,e⟩
 | frz ob u=>obtain ⟨e,_⟩:=x; exact⟨_,e⟩
 | tbl ps=>exact⟨_,(show h.get? a=some _ from x)⟩
 | met f y=>exact⟨_,(show h.get? a=some _ from x)⟩
 | ext φ=>obtain ⟨_,z,_⟩:=x; exact z
section
variable {X : Cx} {pins : List (Addr × Obj)} {σ : St} {H : Hp} {s : Shared} {h' : Heap} {a : Addr} {o : HO} {t' : Nat}
theorem a8.laidF (I:a8 X pins σ H s) (hn:s.heap.get? a=none) (k:∀ b u,b ≠ X.env.locals->s.heap.get? b=some u->h'.get? b=some u) (ns:∀ m,s.heap.Ns X.env.locals m->h'.Ns X.env.locals m)
  (new:bY X.prog X.w (upd H a o) h' a o):H a=none/\a8 X pins σ (upd H a o) { s with heap:=h',toks:=t' }:=by
 have hHn:H a=none:=by
  cases q:H a with
  | none=>rfl
  | some u=>obtain ⟨z,e⟩:=(I.hok a u q).there; rw [hn] at e; cases e
 have ne:∀ b u,s.heap.get? b=some u->b ≠ a:=fun b u e z=>by rw [z,hn] at e; cases e
 have hL:=I.free
 refine⟨hHn,I.step (g':=s.gens) (d':=s.drawn) (ch:=[]) (fun _ z=>nomatch z) (fun b o' h1 _ _ e _=>k b o' h1 e) (fun b o' h1 _ _ e _=>⟨o'.slots,k b o' h1 e⟩) (fun b o' _ e n=>by rw [b7 (ne b o' e)]; exact n) (fun b o' _ e=>?_)
  (fun b xs q=>by rw [b7 (dU q hHn)]; exact q) (fun b u xs q=>by rw [b7 (dU q hHn)]; exact q) (fun b ps q=>⟨#[],by rw [b7 (dU q hHn),q]; simp⟩) ns (fun b u q=>?_) I.bare⟩
 ·by_cases hb:b=X.env.locals
  ·obtain ⟨m,hm,_⟩:=I.loc
   obtain ⟨o2,_,_,e2,_⟩:=ns m hm
   exact⟨o2,by rw [hb]; exact e2⟩
  ·exact⟨o',k b o' hb e⟩
 ·by_cases hb:b=a
  ·subst hb; rw [bM] at q; cases q; exact new
  ·rw [b7 hb] at q
   refine (I.hok b u q).stay (fun c v hc e=>k c v ?_ e) (fun c e=>by rw [b7 (dU e hHn)]; exact e) fun c xs e=>by rw [b7 (dU e hHn)]; exact e
   rcases hc with z | z
   ·rw [z]; intro y; rw [y,hL] at q; cases q
   ·intro y; rw [y,hL] at z; cases z
theorem a8.newsAll (I:a8 X pins σ H s) {news:List (Addr × Obj)}{m:Str->Option Value} (hs:∀ p ∈ nV X.base s.heap X.env.locals,p ∈ news) (F:Fr X.base X.env.locals h' m) (N:News X.base X.env.locals h' news) :
  ∀ b o,b ≠ X.env.locals->s.heap.get? b=some o->h'.get? b=some o:=fun b o h1 e=>by
 cases q:X.base.get? b with
 | some u=>
  have:=I.bk b u q
  rw [e] at this; cases this
  exact F.keep b _ q
 | none=>exact (N (b,o) (hs _ (z9 h1 q e))).1
end
theorem as2 {α:Type}{d:α} (l:List α) {p:List Nat} (h:p.Perm (List.range l.length)):(p.map fun i=>l.getD i d).Perm l:=by
 have e:(List.range l.length).map (fun i=>l.getD i d)=l:=by
  apply List.ext_getElem
  ·simp
  ·intro i h1 h2
   simp at h1
   simp [h1]
 have:=h.map fun i=>l.getD i d
 rw [e] at this
 exact this
theorem vI:∀ {xs:List V}{us:List Value} (i:Nat),i < xs.length->aN xs us->aY (xs.getD i .non) (us.getD i Value.none)
 | _,_,_,h,.nil=>by simp at h
 | _,_,0,_,.cons r _=>by simpa using r
 | _,_,i+1,h,.cons _ t=>by
  have:=vI i (by simpa using h) t
  simpa using this
theorem J8 {xs:List V}{us:List Value} (r:aN xs us):∀ {p:List Nat},(∀ i ∈ p,i < xs.length)->aN (p.map fun i=>xs.getD i .non) (p.map fun i=>us.getD i Value.none)
 | [],_=>.nil
 | i :: p,h=>.cons (vI i (h i bc6) r) (J8 r fun j hj=>h j (bd4 _ hj))
theorem K0 {α:Type}:∀ l:List α,(l.zip l).map (·.2)=l
 | []=>rfl
 | a :: l=>by
  show a :: ((l.zip l).map (·.2))=a :: l
  rw [K0 l]
theorem as3 {prog:Program}{w:World}{A:Around}{E:Value->Shared->Prop}{s:Shared}{a:Addr}{vs:List Value}{n:Nat}{P:PySem.Fin->Shared->Prop} (e:s.heap.get? a=some (seqObj "list" vs.toArray n)) (few:vs.length < 2)
  (q:P (.done (.ret .none)) { s with heap:=sortedHeap s.heap a vs vs.toArray }):wpAny (model prog w) A (Builtin.«list.sort» ⟨[.ref a],[]⟩) P E s:=by
 have big:vs.length<=sizeLine:=bg5 (bh9 few) (by decide)
 have la:=bd5 e
 have c:vs.toArray.size < 2:=by simpa using few
 have same:(arrOf (SortSt.mk' general' (vs.toArray.zip vs.toArray) #[] 7 none)).map (·.2)=vs.toArray:=by
  change (vs.toArray.zip vs.toArray).map (·.2)=vs.toArray
  apply Array.ext'
  simpa using K0 vs
 obtain ⟨k,ek⟩:∃ k,(s.heap.update a (Obj.mapSeq fun _=>#[])).get? a=some (seqObj "list" #[] k):=⟨_,get?_update_seq e fun _=>#[]⟩
 have there:(((s.heap.update a (Obj.mapSeq fun _=>#[])).push (seqObj "tuple" vs.toArray 0)).push (seqObj "list" #[] 0)).get? a=some (seqObj "list" #[] k):=
  bb7 _ (bb7 _ ek)
 rw [list_sort_plain]
 apply bb5
 apply listItems_at e rfl
 apply bb5
 refine listUpdate_at e rfl ?_ (by simpa using big) (bg8 _)
 apply bb5
 apply seqEpoch_at ek rfl
 apply bb5
 refine wpAny_newTuple ?_ big
 apply bb5
 refine wpAny_newList ?_ (bg8 _)
 apply bm2
 simp only [c,if_true,StateT.run_pure]
 apply bb5
 apply bc8
 apply bb5
 apply bc8
 apply bb5
 apply seqEpoch_at there rfl
 apply bb5
 refine listUpdate_at there rfl ?_ (bg8 _) (by rw [same,bb6]; exact Nat.le_succ_of_le big)
 rw [same]
 simp only [bne_self_eq_false,be9,bi5]
 exact bc8 q
theorem as4 {prog:Program}{w:World}{A:Around}{E:Value->Shared->Prop}{s:Shared}{l:Addr}{vs:List Value}{Q:Value->Shared->Prop} (hl:s.heap.IsList l vs.toArray) (few:vs.length < 2)
  (q:Q (.ref (s.heap.objs.size+1)) { s with heap:=sortedAll s.heap vs vs.toArray }):wpAny (model prog w) A (call (.builtin "sorted") [.ref l]) Q E s:=by
 have big:vs.length<=sizeLine:=bg5 (bh9 few) (by decide)
 apply Calls.call_function_entry kind_sorted plain_sorted entry_sorted (args_sorted1 _)
 simp only [Builtin.«sorted»]
 apply bb5 (m:=checkCount "sorted" 1 1 _)
 apply bc8
 apply bb5
 refine collect_list hl ?_ big
 apply bb5
 refine wpAny_newList ?_ big
 have one:((s.heap.push (seqObj "list" #[] 0)).update s.heap.objs.size (Obj.mapSeq (· ++ vs.toArray))).objs.size=s.heap.objs.size+1:=(Heap.size_update _ _ _).trans (size_push' _ _)
 have at1:(((s.heap.push (seqObj "list" #[] 0)).update s.heap.objs.size (Obj.mapSeq (· ++ vs.toArray))).push (seqObj "list" vs.toArray 0)).get? (s.heap.objs.size+1)=some (seqObj "list" vs.toArray 0):=one ▸ be1 _ rfl
 change wpAny _ _ _ _ _ { s with heap:=((s.heap.push (seqObj "list" #[] 0)).update s.heap.objs.size (Obj.mapSeq (· ++ vs.toArray))).push (seqObj "list" vs.toArray 0) }
 rw [one]
 apply bb5
 apply bm2
 refine bk6 slot_list_sort ⟨_,at1,rfl⟩ entry_list_sort ?_ (args_list_sort _)
 refine as3 at1 few ⟨_,rfl,?_⟩
 exact bc8 ⟨_,rfl,q⟩
noncomputable def K1 (K:PySem.W.Frag):List V->Hp->VK->Prop:=fun xs H Q=>∃ a ns,xs = [.ref a]/\aM K H a (ns.map V.int)/\ns.length < 64/\∀ l (ms:List Int),H l=none->ms.Perm ns->ms.Pairwise (· <= ·)->Q (.ref l) (upd H l (.lst (ms.map V.int)))
theorem as5 {X:Cx}:cX X (.builtin "sorted") (K1 X.K):=by
 intro pins s σ H xs us Q I r h
 obtain ⟨a,ns,rfl,hs,h64,q⟩:=h
 obtain ⟨u,rfl,ru⟩:=gN r
 cases ru
 obtain ⟨its,rv,p,hz⟩:=I.list hs
 have hl:=rv.length
 rw [bb8] at hl
 refine sorted_ints p.isList (qK rv) (by omega) fun out ns' a1 a2 a3=>?_
 obtain ⟨e,he⟩:=sortedAll_at s.heap its out
 have hn:s.heap.objs.size<=s.heap.objs.size+1:=Nat.le_succ _
 have hlen:ns'.length=ns.length:=a2.length_eq
 refine⟨.ref (s.heap.objs.size+1),upd H (s.heap.objs.size+1) (.lst (ns'.map V.int)),I.laid (t':=s.toks) (fun _ _=>sortedAll_old) hn ⟨?_,out.toList,e,qP a1,by simpa using he⟩,rfl,q _ ns' (I.hok.fresh hn) a2 a3⟩
 rw [bb8,hlen]
 exact bh9 (oF (by omega))
theorem K2:∀ {a b:List Int},HT.fM a b=true->HT.fM b a=false
 | [],[],h=>by cases h
 | [],_ :: _,_=>rfl
 | _ :: _,[],h=>by cases h
 | x :: xs,y :: ys,h=>by
  rw [HT.o9] at h ⊢
  by_cases e:x=y
  ·rw [if_pos e] at h; rw [if_pos e.symm]; exact K2 h
  ·rw [if_neg e] at h; rw [if_neg (Ne.symm e)]
   have:=bi0 h
   exact bc3 (by omega)
theorem K3:∀ {a b c:List Int},HT.fM a b=false->HT.fM b c=false->HT.fM a c=false
 | [],[],c,_,h=>h
 | [],_ :: _,_,h,_=>by cases h
 | _ :: _,[],[],_,_=>rfl
 | _ :: _,[],_ :: _,_,h=>by cases h
 | _ :: _,_ :: _,[],_,_=>rfl
 | x :: xs,y :: ys,z :: zs,h1,h2=>by
  rw [HT.o9] at h1 h2 ⊢
  by_cases e1:x=y
  ·rw [if_pos e1] at h1
   by_cases e2:y=z
   ·rw [if_pos e2] at h2; rw [if_pos (e1.trans e2)]; exact K3 h1 h2
   ·rw [if_neg e2] at h2; rw [if_neg (by rw [e1]; exact e2)]; rw [e1]; exact h2
  ·rw [if_neg e1] at h1
   have k1:=of_decide_eq_false h1
   by_cases e2:y=z
   ·rw [<- e2,if_neg e1]; exact h1
   ·rw [if_neg e2] at h2
    have k2:=of_decide_eq_false h2
    rw [if_neg (by omega)]
    exact bc3 (by omega)
section
variable {prog : Program} {w : World} {A : Around} {s : Shared} {Q : Bool → Shared → Prop}
theorem K4:∀ {us ws:List Value}{xs ys:List Int} (i:Nat),IntsAre us xs->IntsAre ws ys->Q (HT.fM xs ys) s->PySem.W.KatLex prog w A true (decide (us.length < ws.length)) Q (us.zip ws) i s
 | _,_,_,_,_,.nil,.nil,h=>h
 | _,_,_,_,_,.nil,.cons _ _ _,h=>h
 | _,_,_,_,_,.cons _ _ _,.nil,h=>h
 | _,_,_,_,i,.cons (vs:=us) x t hx,.cons (vs:=ws) y u hy,h=>by
  refine PySem.W.kat_cons (wpAny_eqBool_int ?_)
  rw [HT.o9] at h
  by_cases e:x=y
  ·rw [if_pos e] at h
   have eb:(x == y)=true:=by simpa using e
   rw [eb]
   refine PySem.W.kat_yes ?_
   have e2:decide ((Value.int x t :: us).length < (Value.int y u :: ws).length)=decide (us.length < ws.length):=by simp
   rw [e2]
   exact K4 (i+1) hx hy h
  ·rw [if_neg e] at h
   have eb:(x == y)=false:=by simpa using e
   rw [eb]
   refine PySem.W.kat_no ?_
   cases hi:(true && i == 0) with
   | true=>exact PySem.W.kat_lt_int h
   | false=>exact PySem.W.kat_one _ _ (lt_int h)
end
noncomputable def K5 (K:PySem.W.Frag):List V->Hp->VK->Prop:=fun xs H Q=>∃ (a:Addr) (ys:List V) (key:V->List Int),xs = [.ref a]/\aM K H a ys/\ys.length < 64/\(∀ y ∈ ys,∃ b,y = .ref b/\aR K H b ((key y).map V.int)/\key y ≠ [])/\
 ∀ l (zs:List V),H l=none->zs.Perm ys->zs.Pairwise (fun u v=>HT.fM (key v) (key u)=false)->Q (.ref l) (upd H l (.lst zs))
theorem as6 {c:Nat->Nat->Bool}{R:V->V->Prop}{ys:List V}{p:Array Nat}{n:Nat} (hp:Srt.PP n p) (ha:Srt.gF c p n) (hR:∀ i j,Srt.Le c i j->R (ys.getD i .non) (ys.getD j .non)) :
  (p.toList.map fun i=>ys.getD i .non).Pairwise R:=by
 rw [bl3,List.pairwise_iff_getElem]
 intro i j hi hj hij
 have hs:=hp.size
 have h1:i < n:=by rw [<- hs]; simpa using hi
 have h2:j < n:=by rw [<- hs]; simpa using hj
 have q:=ha i j (bh9 hij) h2
 have e:∀ k (hk:k < p.toList.length),Srt.G p k=p.toList[k]:=fun k hk=>by
  have hk':k < p.size:=by simpa using hk
  unfold Srt.G; rw [bo7]; simp [hk']
 rw [e i hi,e j hj] at q
 exact hR _ _ q
theorem as7 {X:Cx}:cX X (.builtin "sorted") (K5 X.K):=by
 intro pins s σ H xs us Q I r h
 obtain ⟨a,ys,key,rfl,hs,h64,hk,q⟩:=h
 obtain ⟨u,rfl,ru⟩:=gN r
 cases ru
 obtain ⟨its,rv,p,hz⟩:=I.list hs
 have hl:=rv.length
 by_cases h2:its.length < 2
 ·
  refine as4 p.isList h2 ?_
  obtain ⟨e,he⟩:=sortedAll_at s.heap its its.toArray
  have hn:s.heap.objs.size<=s.heap.objs.size+1:=Nat.le_succ _
  refine⟨.ref (s.heap.objs.size+1),upd H (s.heap.objs.size+1) (.lst ys),I.laid (t':=s.toks) (fun _ _=>sortedAll_old) hn ⟨hz,its,e,rv,he⟩,rfl,q _ ys (I.hok.fresh hn) (List.Perm.refl _) ?_⟩
  match ys,hl with
  | [],_=>exact bo3
  | [_],_=>exact be8 _ _
  | _ :: _ :: _,hl=>simp at hl; omega
 ·obtain ⟨m,F⟩:=I.fr
  have hL:∀ {b:Addr}{k:List Int},aR X.K H b (k.map V.int)->b ≠ X.env.locals:=fun {b k} z e=>by
   obtain ⟨its',_,⟨ob,e1,c1,_⟩,_⟩:=I.tuple z
   obtain ⟨m',⟨o',es',ep',e2,d2,_⟩,_⟩:=I.loc
   rcases z with (z | ⟨_,z⟩) | ⟨o3,its3,n3,z3,zc,zd,_⟩
   ·rw [e,I.free] at z; cases z
   ·rw [e,I.free] at z; cases z
   ·have:=I.kIn b o3 z3
    rw [e,e2] at this
    cases this
    rw [d2] at zd; cases zd
  refine PySem.W.kat_sorted F (ah2 (g:=X.base) (h:=s.heap) (L:=X.env.locals)) p.isList (by omega) (by omega) fun D e1 h' F' N' hD=>?_
  have keep:=I.newsAll (fun p hp=>bd4 _ hp) F' N'
  have look:∀ i,i < ys.length->∃ (b:Addr) (ob:Obj) (us:List Value) (n:Nat),its.getD i Value.none = .ref b/\h'.get? b=some ob/\ob.cls = .type "tuple"/\ob.data = .seq us.toArray n/\IntsAre us (key (ys.getD i .non))/\key (ys.getD i .non) ≠ []:=fun i hi=>by
   have hy:ys.getD i .non ∈ ys:=by
    rw [bc7,bb9 hi]; exact List.getElem_mem hi
   obtain ⟨b,eb,sq,ne⟩:=hk _ hy
   have rr:=vI i hi rv
   rw [eb] at rr
   have rr:its.getD i Value.none = .ref b:=rr
   obtain ⟨us,ru,⟨ob,e1,c1,n1,d1⟩,_⟩:=I.tuple sq
   exact⟨b,ob,us,n1,rr,keep b ob (hL sq) e1,c1,d1,qK ru,ne⟩
  have firsts:∀ {xs:List V}{vs:List Value},aN xs vs->(∀ y ∈ xs,∃ b,y = .ref b/\aR X.K H b ((key y).map V.int)/\key y ≠ [])->∃ fs:List Value,PySem.W.KatTups h' vs fs/\fs.length=vs.length/\∀ v ∈ fs,∃ i t,v=Value.int i t:=by
   intro xs vs r
   induction r with
   | nil=>intro _; exact⟨[],PySem.W.KatTups.nil,rfl,fun _ z=>nomatch z⟩
   | @cons x v xs vs rx rt ih=>
    intro hh
    obtain ⟨fs,t1,t2,t3⟩:=ih fun y hy=>hh y (bd4 _ hy)
    obtain ⟨b,eb,sq,ne⟩:=hh x bc6
    subst eb
    cases rx
    obtain ⟨us,ru,⟨ob,e1,c1,n1,d1⟩,_⟩:=I.tuple sq
    have ia:=qK ru
    generalize key (V.ref b)=kk at ia ne
    cases ia with
    | nil=>exact absurd rfl ne
    | @cons n t vs0 ns0 ht=>
     exact⟨Value.int n t :: fs,PySem.W.KatTups.cons (keep b ob (hL sq) e1) c1 d1 (by simp) t1,by simp [t2],fun v hv=>(bd0.mp hv).elim (fun z=>⟨n,t,z⟩) (t3 v)⟩
  obtain ⟨fs,t1,t2,t3⟩:=firsts rv hk
  refine PySem.W.kat_kind (T:=.type "int") t1 (by omega) (fun v hv=>?_) (by decide) ?_
  ·obtain ⟨i,t,rfl⟩:=t3 v hv
   exact PySem.W.Looks.now
  let c:Nat->Nat->Bool:=fun i j=>HT.fM (key (ys.getD i .non)) (key (ys.getD j .non))
  have O:Srt.vE c:=⟨fun h=>K2 h,fun h1 h2=>K3 h1 h2⟩
  have ok:=Srt.as1 (n:=its.length) O (by omega)
  refine Srt.cJ.run (I:=fun s'=>s'={ s with heap:=h' }) (fun i j C s' hi hj hI hC=>?_) (fun pa s' hR hI=>?_) _ _ rfl ok
  ·subst hI
   obtain ⟨b1,o1,u1,n1,g1,g2,_,g4,g5,_⟩:=look i (by omega)
   obtain ⟨b2,o2,u2,n2,k1,k2,_,k4,k5,_⟩:=look j (by omega)
   show wpAny _ _ (keyLt' (tuples' (Value.type "int" != Value.type "tuple")) (its.getD i Value.none) (its.getD j Value.none)) _ _ _
   rw [g1,k1]
   have eT:(Value.type "int" != Value.type "tuple")=true:=by decide
   rw [eT]
   refine PySem.W.kat_lt g2 g4 k2 k4 ?_
   have:=K4 (prog:=X.prog) (w:=X.w) (A:=X.A.in1.in1) (s:={ s with heap:=h' }) (Q:=C) 0 g5 k5 (hC _ rfl)
   simpa using this
  ·subst hI
   obtain ⟨hp,hasc⟩:=hR
   refine PySem.W.KasFin.intro F' N' (PySem.W.UpdF.head fun p hp=>bg0 (hD p hp)) fun h2 cc F2 N2=>?_
   have keep2:=I.newsAll (fun p hp=>bd4 _ hp) F2 N2
   have hDn:s.heap.get? D=none:=by
    cases z:s.heap.get? D with
    | none=>rfl
    | some o=>
     obtain ⟨_,n1,n2⟩:=N2 (D,_) bc6
     exact absurd (hD _ (z9 n1 n2 z)) (bg6 _)
   have hpl:∀ i ∈ pa.toList,i < ys.length:=fun i hi=>by
    have:=bp2.mp (hp.mem_iff.mp hi); omega
   have hp':pa.toList.Perm (List.range ys.length):=by rw [hl]; exact hp
   have pm:=as2 (d:=V.non) ys hp'
   obtain ⟨hDo,hDL,hDb⟩:=N2 (D,_) bc6
   obtain ⟨hHD,I2⟩:=I.laidF (t':=s.toks) (a:=D) (o:=.lst (pa.toList.map fun i=>ys.getD i .non)) hDn keep2 (fun m' hm'=>by
     have e:m'=m:=funext fun nm=>Heap.Ns.agree hm' F.ns nm
     rw [e]; exact F2.ns) ⟨by rw [pm.length_eq]; exact hz,_,cc,J8 rv hpl,hDo⟩
   exact⟨.ref D,_,I2,rfl,q D _ hHD pm (as6 hp hasc fun i j hle=>hle)⟩
end L2
namespace Raw
open PySem PySem.W PySem.Calls PyProof.Rows
noncomputable def hV (h:Heap) (d:Addr) (es:Array DictEntry) (ep:Nat):Prop:=∃ o,h.get? d=some o/\o.ExactDict/\o.data = .dict es ep
theorem hV.ty {s:Shared}{d:Addr}{es:Array DictEntry}{ep:Nat} (x:hV s.heap d es ep):s.TypeIs (.ref d) "dict":=x.elim fun o y=>⟨o,y.1,y.2.1.1⟩
theorem hV.lt {h:Heap}{d:Addr}{es:Array DictEntry}{ep:Nat} (x:hV h d es ep):d < h.objs.size:=x.elim fun _ y=>bd5 y.1
theorem hV.keep {h h':Heap}{d:Addr}{es:Array DictEntry}{ep:Nat} (x:hV h d es ep) (k:∀ o,h.get? d=some o->h'.get? d=some o):hV h' d es ep:=x.elim fun o y=>⟨o,k o y.1,y.2⟩
section
variable {prog : Program} {w : World} {A : Around} {E : Value → Shared → Prop} {s : Shared} {d it : Addr} {es : Array DictEntry} {ep i : Nat}
theorem made (far:(d == sysModules)=false) (x:hV s.heap d es ep) {Q:Value->Shared->Prop}
  (q:Q (.ref s.heap.objs.size) { s with heap:=s.heap.push { cls:=.type "dict_keyiterator",data:=.fields #[.ref d,.int 0 0,.int es.size 0,.int ep 0] } }):wpAny (model prog w) A (pyIter (.ref d)) Q E s:=by
 have T:=x.ty
 obtain ⟨o,e1,e2,e3⟩:=x
 apply wpAny_pyIter_slot T PySem.F.slot_dict_iter
 apply bk6 PySem.F.slot_dict_iter T PySem.F.entry_dict_iter _ (PySem.F.args_dict_iter_1 _)
 simp only [Builtin.«dict.__iter__»,Builtin.Dict.dictSlotNone]
 apply bb5
 apply bb5
 apply wpAny_notOrdered_dict T
 apply bc8
 change wpAny _ _ (Builtin.Dict.showsAll d >>= _) _ _ s
 have far':Builtin.Dict.showsAll d=pure ():=by
  unfold Builtin.Dict.showsAll
  simp only [far,be9,bi5]
 rw [far',pure_bind]
 apply bb5
 apply wpAny_dictEntries e1 e3
 apply bb5
 apply wpAny_dictEpoch e1 e3
 apply bb5
 refine bi8 (bc8 ?_)
 refine⟨.ref s.heap.objs.size,rfl,"dict_keyiterator",_,⟨_,be1 _ rfl,rfl⟩,PySem.F.slot_dict_keyiterator_next.lookup,?_⟩
 simpa only [rawInt] using q
theorem turn (hh:A.handled=none) (hi:s.heap.IsKeyIter it d i es.size ep) (x:hV s.heap d es ep) {Q:Option Value->Shared->Prop}
  (yes:∀ (lt:i < es.size) h',h'.IsKeyIter it d (i+1) es.size ep->Heap.SameBut it s.heap h'->Q (some es[i].key) { s with heap:=h' })
  (no:es.size<=i->∀ h',Heap.ExtBut it s.heap h'->Q none { s with heap:=h' }):wpAny (model prog w) A (pyNext (.ref it)) Q E s:=by
 have T:=hi.typeIs
 obtain ⟨oi,f1,f2,f3⟩:=hi
 obtain ⟨o,e1,e2,e3⟩:=x
 have slot:=PySem.F.slot_dict_keyiterator_next
 have plain:Builtin.Dict_items.ownsTuple "dict_keyiterator" = false:=by decide
 have isref:(Value.ref d == Value.none)=false:=rfl
 have nn : ¬ (i:Int) < 0:=by omega
 unfold pyNext
 apply bb5
 apply wpAny_attempt
 apply bj9 (name:=Str.ofString "__next__") T slot
 apply bk6 slot T PySem.F.entry_dict_keyiterator_next _ (PySem.F.args_dict_keyiterator_next_1 _)
 apply bb5
 apply bc8
 apply bb5
 apply bb5
 apply bb5
 first
  | apply wpAny_typeNameOfWhole_keyiter T
  | apply wpAny_typeNameOf_keyiter T
 apply bc8
 apply bb5
 apply wpAny_fieldsOf f1 f3
 simp only [plain,be9,bi5]
 change wpAny _ _ (if (Value.ref d == Value.none)=true then _ else _) _ _ s
 have adr:Builtin.Dict_items.addrOf (Value.ref d)=pure d:=rfl
 simp only [isref,be9,bi5,adr,pure_bind]
 apply bb5
 apply wpAny_dictEntries e1 e3
 simp only [bne_self_eq_false,be9,bi5]
 apply bb5
 apply wpAny_dictEpoch e1 e3
 simp only [bne_self_eq_false,be9,bi5]
 apply bc8
 simp only [nn,bi5,be5]
 by_cases lt:i < es.size
 ·simp only [Array.getElem?_eq_getElem lt]
  apply bb5
  apply bb5
  first
   | apply wpAny_typeNameOfWhole_keyiter T
   | apply wpAny_typeNameOf_keyiter T
  apply bc8
  apply bb5
  apply wpAny_isOneOf_keyiter T
  change wpAny _ _ (setField (.ref it) 1 (rawInt ((i:Int)+1)) >>= _) _ _ s
  apply bb5
  refine wpAny_setField f1 f3 (by simp) ?_
  have again:(s.heap.update it (Obj.mapFields (·.setIfInBounds 1 (rawInt ((i:Int)+1))))).IsKeyIter it d (i+1) es.size ep:=by
   refine⟨_,Heap.get?_update_self _ f1 (Obj.isFreed_of_fields (Obj.data_mapFields f3 _)),?_,?_⟩
   ·rw [Obj.cls_mapFields]; exact f2
   ·rw [Obj.data_mapFields f3]; simp [rawInt]
  apply bb5
  apply bm2
  apply bb5
  refine wpAny_isOneOf_keyiter (s:={ s with heap:=s.heap.update it (Obj.mapFields (·.setIfInBounds 1 (rawInt ((i:Int)+1)))) }) again.typeIs ?_
  change wpAny _ _ (pure es[i].key) _ _ _
  apply bc8
  apply bc8
  exact⟨es[i].key,rfl,bc8 (yes lt _ again (Heap.SameBut.update ..))⟩
 ·have ge:es.size<=i:=bp0 lt
  simp only [Array.getElem?_eq_none ge]
  apply bb5
  apply bb5
  first
   | apply wpAny_typeNameOfWhole_keyiter T
   | apply wpAny_typeNameOf_keyiter T
  apply bc8
  change wpAny _ _ (setField (.ref it) 0 .none >>= _) _ _ s
  apply bb5
  refine wpAny_setField f1 f3 (by simp) ?_
  apply bb5
  simp only [newExc,newTuple]
  apply bb5
  refine bi8 ?_ (by size_fits)
  apply bb5
  refine wpAny_of_eq (a:=Value.none) (by first | rfl | (simp only [firstArgMember]; rfl)) ?_
  refine bi8 ?_ (by size_fits)
  unfold raiseNew
  apply bb5
  apply wpAny_handled
  have quiet:A.in1.handled=none:=hh
  rw [quiet]
  refine wpAny_throw ?_
  apply bb5
  refine wpAny_isInstance (T:="StopIteration") (b:=true) ⟨_,be1 _ rfl,rfl⟩ isSubtype_stop ?_
  exact bc8 (no ge _ (((Heap.SameBut.update ..).extBut.push _).push _))
theorem as8 (hh:A.handled=none) (ne:d ≠ it):Walks prog w A it [it,d] [it] es.size (fun i v=>∃ lt:i < es.size,es[i].key=v) (fun i h=>h.IsKeyIter it d i es.size ep/\hV h d es ep) where
 sub:=by intro b hb; rw [bc1.mp hb]; exact bc6
 frame:=by
  intro i h h' st hk
  exact⟨st.1.at (hk it bc6),st.2.keep (hk d (bd4 _ bc6))⟩
 item:=by
  intro i s Q E lt st hQ
  refine turn hh st.1 st.2 (fun lt' h' again sb=>?_) fun ge=>absurd lt (Nat.not_lt.mpr ge)
  exact hQ _ h' s.toks ⟨lt',rfl⟩ ⟨again,st.2.keep fun o e=>sb.extBut d o ne e⟩ fun b o hb e=>sb.extBut b o (fun z=>hb (bc1.mpr z)) e
 done:=by
  intro s Q E st hQ
  refine turn hh st.1 st.2 (fun lt=>absurd lt (bg6 _)) fun _ h' eb=>?_
  exact hQ h' s.toks fun b o hb e=>eb b o (fun z=>hb (bc1.mpr z)) e
 self:=by intro i s Q E st hQ; exact wpAny_pyIter_keyiter st.1 hQ
theorem as9 (far:(d == sysModules)=false):KdlSrc prog w "dict" d d es.size (fun i v=>∃ lt:i < es.size,es[i].key=v) (fun h=>hV h d es ep) where
 type:=fun _ x=>x.ty
 there:=fun _ x=>⟨x.lt,x.lt⟩
 keep:=fun _ _ x k=>x.keep (k d (.inl rfl))
 notList:=by decide
 notTuple:=by decide
 hint:=fun _ _ _ _ x q=>kdl_hint_dict x.ty q
 iter:=fun _ _ hh x=>⟨_,_,fun _ _ q=>made far x q,as8 hh (bg0 x.lt),⟨_,be1 _ rfl,rfl,rfl⟩,x.keep fun o e=>bb7 _ e⟩
end
end Raw
namespace L2
open PySem PySem.Spec PyProof.Rows
section
variable {X : Cx} {pins : List (Addr × Obj)} {σ : St} {H : Hp} {s : Shared} {a : Addr}
theorem at0 {kvs:List (aJ × V)} (I:a8 X pins σ H s) (h:H a=some (.dK kvs)):∃ es ep,Raw.hV s.heap a es ep/\(a == sysModules)=false/\aN (kvs.map fun p=>kV p.1) (es.toList.map (·.key))/\kvs.length<=sizeLine:=by
 obtain ⟨z,far,vs,rel,o,es,ep,e1,e2,e3,kk,pr,nd⟩:=(show bY X.prog X.w H s.heap a (.dK kvs) from I.hok a _ h)
 refine⟨es,ep,⟨o,e1,e2,e3⟩,far,?_,z⟩
 clear z far e1 e2 e3 kk nd h
 generalize es.toList=l at pr
 induction pr generalizing kvs with
 | nil=>cases rel; exact .nil
 | @cons e k es' kvs' h1 h2 _ ih=>
  cases rel with
  | @cons p q ps qs r rs=>
   refine .cons ?_ (ih rs)
   obtain ⟨r1,_⟩:=r
   show aY (kV p.1) e.key
   rw [r1]
   rcases iP h1 with ⟨n,t,e4,e5⟩ | ⟨x,t,e4,e5⟩
   ·rw [e4,e5]; exact⟨t,rfl⟩
   ·rw [e4,e5]; exact⟨t,rfl⟩
theorem at2 {es:Array DictEntry}{acc:Array Value} (h:ItemsOf (fun i v=>∃ lt:i < es.size,es[i].key=v) acc es.size):acc.toList=es.toList.map (·.key):=by
 apply List.ext_getElem?
 intro j
 have h1:=h.1
 by_cases hj:j < es.size
 ·have hj':j < acc.size:=by rw [h1]; exact hj
  obtain ⟨_,e⟩:=h.2 j acc[j] (by simp [hj'])
  rw [bd1]
  simp [hj,hj',e]
 ·have hj' : ¬ j < acc.size:=by rw [h1]; exact hj
  rw [bd1]
  simp [bp0 hj,bp0 hj']
end
section
variable {X : Cx}
theorem at3:cX X (.builtin "isinstance") (fun xs H Q=>∃ x t n b,xs = [x,.ty n]/\gC X.K H x t/\PySem.W.kitOne X.K t (.type n)=some b/\Q (.bl b) H):=by
 intro pins s σ H xs us Q I r h
 obtain ⟨x,t,n,b,rfl,ty,e,q⟩:=h
 obtain ⟨u,u',rfl,ru,ru'⟩:=o4 r
 cases ru'
 exact am1 I ru ty e fun tk=>⟨.bl b,H,I.tok tk,rfl,q⟩
end
noncomputable def K6 (outer:List (Str × NameKind)) (XN:List Str) (names:List (Str × NameKind)) (N:List Str) (fr:List (Option Nat)):Bool:=
 names.all (fun y=>!(y.2 == .cell) || names.lookup y.1 == some .cell) && names.all (fun y=>!(y.2 == .local) || names.lookup y.1 == some .local) &&
 names.all (fun y=>!(y.2 == .free) || (outer.lookup y.1 == some .cell || outer.lookup y.1 == some .free)) && fr.length == N.length &&
 (fr.zip N).all (fun p=>match p.1 with
  | none=>true
  | some j=>XN[j]? == some p.2 && names.lookup p.2 == some .free)
theorem cI.of {X:Cx}{scope:Scope}{N:List Str}{fr:List (Option Nat)} (hk:scope.kind = .function) (h:K6 X.env.scope.names X.N scope.names N fr=true):cI X scope N fr:=by
 unfold K6 at h
 simp only [bg2] at h
 obtain ⟨⟨⟨⟨h1,h2⟩,h3⟩,h4⟩,h5⟩:=h
 refine⟨hk,fun y hy e=>?_,fun y hy e=>?_,fun y hy e=>?_,by simpa using h4,fun i j e=>?_⟩
 ·have:=bk8.mp h1 y hy
  rw [e] at this; simpa using this
 ·have:=bk8.mp h2 y hy
  rw [e] at this; simpa using this
 ·have:=bk8.mp h3 y hy
  rw [e] at this; simpa using this
 ·have hl:fr.length=N.length:=by simpa using h4
  have hi:i < fr.length:=(bc4.mp e).1
  have m:(some j,N[i]'(by omega)) ∈ fr.zip N:=by
   have:(fr.zip N)[i]? = some (some j,N[i]'(by omega)):=by
    rw [List.getElem?_zip_eq_some]
    exact⟨e,by simp⟩
   exact bc2 this
  have:=bk8.mp h5 _ m
  simp only [bg2,beq_iff_eq] at this
  exact⟨N[i]'(by omega),by simp,this.1,this.2⟩
theorem K7 {n:Option V}{r:St}{v:V}:Wk (none :: r) (some v :: r):=(Wk.refl (none :: r)).set (i:=0) rfl
noncomputable def oK (H:Hp) (ys:List V) (ls:List (Int × Int)):Prop:=Paired (fun y l=>∃ b,y = .ref b/\H b=some (.tup [.int l.1,.int l.2])) ys ls
structure K8 (H:Hp) (v:V) (ws:List Int) (ls:List (Int × Int)):Prop where
 at_:∃ a p q ys,v = .ref a/\H a=some (.tup [.ref p,.ref q])/\H p=some (.tup (ws.map V.int))/\H q=some (.tup ys)/\oK H ys ls
theorem oK.get {H:Hp}:∀ {ys:List V}{ls:List (Int × Int)}{i:Nat}{y:V},oK H ys ls->ys[i]? = some y->∃ l b,ls[i]? = some l/\y = .ref b/\H b=some (.tup [.int l.1,.int l.2])
 | _,_,_,_,.nil,e=>by simp at e
 | _,_,0,_,.cons (b:=l) ⟨b,h1,h2⟩ _,e=>by simp at e; subst e; exact⟨l,b,rfl,h1,h2⟩
 | _,_,i+1,_,.cons _ t,e=>by
  obtain ⟨l,b,h1,h2⟩:=oK.get (i:=i) t (by simpa using e)
  exact⟨l,b,by simpa using h1,h2⟩
noncomputable def aO (ls:List (Int × Int)) (k:Int):List Int:=ls.flatMap fun l=>(if l.1=k then [l.2] else []) ++ (if l.2=k then [l.1] else [])
theorem at5 (ls:List (Int × Int)) (l:Int × Int) (k:Int):aO (ls ++ [l]) k=aO ls k ++ ((if l.1=k then [l.2] else []) ++ (if l.2=k then [l.1] else [])):=by
 unfold aO; rw [List.flatMap_append]; simp
theorem K9 {ls:List (Int × Int)}{i:Nat}{l:Int × Int} (h:ls[i]? = some l) (k:Int):aO (ls.take (i+1)) k=aO (ls.take i) k ++ ((if l.1=k then [l.2] else []) ++ (if l.2=k then [l.1] else [])):=by
 rw [bf8,h]; exact at5 _ _ _
structure iC (H H':Hp) (r:Addr) (bs:List Addr) (f:Nat->List Int):Prop where
 new:H r=none
 news:∀ b ∈ bs,H b=none/\b ≠ r
 nd:bs.Nodup
 row:H' r=some (.lst (bs.map V.ref))
 rows:∀ (k:Nat) (b:Addr),bs[k]? = some b->H' b=some (.lst ((f k).map V.int))
 same:aD H H'
theorem iC.congr {H H':Hp}{r:Addr}{bs:List Addr}{f g:Nat->List Int} (h:iC H H' r bs f) (e:∀ k,k < bs.length->f k=g k):iC H H' r bs g:=
 ⟨h.new,h.news,h.nd,h.row,fun k b hb=>by rw [<- e k (bc4.mp hb).1]; exact h.rows k b hb,h.same⟩
theorem iC.app {H H':Hp}{r:Addr}{bs:List Addr}{f:Nat->List Int} (h:iC H H' r bs f) {k:Nat}{b:Addr} (hb:bs[k]? = some b) (x:Int) :
  iC H (upd H' b (.lst ((f k).map V.int ++ [V.int x]))) r bs (fun j=>if j=k then f j ++ [x] else f j):=by
 have hm:b ∈ bs:=bc2 hb
 refine⟨h.new,h.news,h.nd,by rw [b7 (Ne.symm (h.news b hm).2)]; exact h.row,fun j c hc=>?_,fun c o e=>by rw [b7 (dU e (h.news b hm).1)]; exact h.same c o e⟩
 by_cases hj:j=k
 ·subst hj
  rw [hb] at hc; cases hc
  rw [bM,if_pos rfl]; simp
 ·rw [if_neg hj]
  have ne:c ≠ b:=fun z=>by
   subst z
   obtain ⟨i1,e1⟩:=bc4.mp hb
   obtain ⟨i2,e2⟩:=bc4.mp hc
   refine hj (Nat.le_antisymm (bp0 fun z=>?_) (bp0 fun z=>?_))
   ·exact List.pairwise_iff_getElem.mp h.nd _ _ i1 i2 z (e1.trans e2.symm)
   ·exact List.pairwise_iff_getElem.mp h.nd _ _ i2 i1 z (e2.trans e1.symm)
  rw [b7 ne]; exact h.rows j c hc
theorem rB (ls:List (Int × Int)) (k:Int):(aO ls k).length<=2 * ls.length:=by
 induction ls with
 | nil=>exact bc5 _
 | cons l r ih=>
  have e:aO (l :: r) k=((if l.1=k then [l.2] else []) ++ (if l.2=k then [l.1] else [])) ++ aO r k:=rfl
  rw [e,bd3,bd3,be6]
  have h1:(if l.1=k then [l.2] else []).length<=1:=by split <;> simp
  have h2:(if l.2=k then [l.1] else []).length<=1:=by split <;> simp
  omega
theorem mL {α:Type}{xs:List α}{i:Int}{v:α} (h0:0<=i) (h:xs[i.toNat]? = some v):atI xs i=some v:=by
 have:=jM h
 rwa [show ((i.toNat:Nat):Int)=i by omega] at this
theorem hZ {n:Nat} (h:n<=16000000):n < sizeLine:=by rw [sizeLine_eq]; omega
theorem oM {σ:St}{H:Hp}{A B:Hp->Prop} (h:A H):v3 σ H fun b H4=>if b=true then A H4 else B H4:=by
 show if true=true then A H else B H
 rw [if_pos rfl]; exact h
theorem kK {K:PySem.W.Frag}{H:Hp}{p:Addr}{xs:List V} (h:aM K H p xs):hG K "list" (.ref p) H:=.inl ⟨rfl,xs,h⟩
theorem oN {l:Int × Int}{k x:Int}:x ∈ (if l.1=k then [l.2] else []) ++ (if l.2=k then [l.1] else []) ↔ (l.1=k/\x=l.2) ∨ (l.2=k/\x=l.1):=by
 rw [bc9]
 by_cases h1:l.1=k <;> by_cases h2:l.2=k <;> simp [h1,h2]
theorem dI {ls:List (Int × Int)}{k x:Int}:x ∈ aO ls k ↔ (k,x) ∈ ls ∨ (x,k) ∈ ls:=by
 unfold aO
 rw [List.mem_flatMap]
 constructor
 ·rintro ⟨l,hl,hx⟩
  rcases oN.mp hx with ⟨h1,h2⟩ | ⟨h1,h2⟩
  ·left; rw [<- h1,h2]; exact hl
  ·right; rw [<- h1,h2]; exact hl
 ·rintro (h | h)
  ·exact⟨_,h,oN.mpr (.inl ⟨rfl,rfl⟩)⟩
  ·exact⟨_,h,oN.mpr (.inr ⟨rfl,rfl⟩)⟩
theorem jU {ls:List (Int × Int)}{k x:Int} (h:x ∈ aO ls k):k ∈ aO ls x:=dI.mpr (dI.mp h).symm
end L2
namespace Zp
open PySem PyProof.Rows
section
variable {prog : Program} {w : World} {A : Around} {E : Value → Shared → Prop} {s : Shared}
theorem at6 {it t:Addr}{i:Nat}{items:Array Value}{x:Value}{Q:Value->Shared->Prop} (hi:s.heap.IsTupleIter it t i) (ht:s.heap.IsTuple t items) (hx:items[i]? = some x)
  (q:∀ h',h'.IsTupleIter it t (i+1)->Heap.SameBut it s.heap h'->Q x { s with heap:=h' }):wpAny (model prog w) A (Builtin.SmallTypes.nextOf (.ref it)) Q E s:=by
 have T:=hi.typeIs
 obtain ⟨o,e1,e2,e3⟩:=hi
 obtain ⟨u,f1,_,k,f3⟩:=ht
 have slot:=PySem.F.slot_tuple_iterator_next
 have isref:(Value.ref t == Value.none)=false:=rfl
 unfold Builtin.SmallTypes.nextOf
 apply bb5
 apply bj9 (name:=Str.ofString "__next__") T slot
 apply bk6 slot T PySem.F.entry_tuple_iterator_next _ (PySem.F.args_tuple_iterator_next_1 _)
 change wpAny _ _ (field (.ref it) 0 >>= _) _ _ s
 apply bb5
 refine bl1 e1 e3 (x:=.ref t) rfl ?_
 change wpAny _ _ (if (Value.ref t == Value.none)=true then _ else _) _ _ s
 simp only [isref,be9,bi5]
 change wpAny _ _ (field (.ref it) 1 >>= _) _ _ s
 apply bb5
 refine bl1 e1 e3 (x:=.int i 0) rfl ?_
 change wpAny _ _ (seqItems? (.ref t) >>= _) _ _ s
 apply bb5
 apply bp5 f1 f3
 simp only [be5,hx]
 apply bb5
 refine wpAny_setField e1 e3 (by simp) ?_
 apply bc8
 refine⟨x,rfl,bc8 (q _ ⟨_,Heap.get?_update_self _ e1 (Obj.isFreed_of_fields (Obj.data_mapFields e3 _)),?_,?_⟩ (Heap.SameBut.update ..))⟩
 ·rw [Obj.cls_mapFields]; exact e2
 ·rw [Obj.data_mapFields e3]; simp [rawInt]
theorem at7 {it t:Addr}{i:Nat}{items:Array Value}{Q:Value->Shared->Prop} (hh:A.handled=none) (hi:s.heap.IsTupleIter it t i) (ht:s.heap.IsTuple t items) (hx:items[i]? = none)
  (q:∀ h' e,Heap.ExtBut it s.heap h'->(∃ o,h'.get? e=some o/\o.cls = .type "StopIteration")->E (.ref e) { s with heap:=h' }):wpAny (model prog w) A (Builtin.SmallTypes.nextOf (.ref it)) Q E s:=by
 have T:=hi.typeIs
 obtain ⟨o,e1,e2,e3⟩:=hi
 obtain ⟨u,f1,_,k,f3⟩:=ht
 have slot:=PySem.F.slot_tuple_iterator_next
 have isref:(Value.ref t == Value.none)=false:=rfl
 unfold Builtin.SmallTypes.nextOf
 apply bb5
 apply bj9 (name:=Str.ofString "__next__") T slot
 apply bk6 slot T PySem.F.entry_tuple_iterator_next _ (PySem.F.args_tuple_iterator_next_1 _)
 change wpAny _ _ (field (.ref it) 0 >>= _) _ _ s
 apply bb5
 refine bl1 e1 e3 (x:=.ref t) rfl ?_
 change wpAny _ _ (if (Value.ref t == Value.none)=true then _ else _) _ _ s
 simp only [isref,be9,bi5]
 change wpAny _ _ (field (.ref it) 1 >>= _) _ _ s
 apply bb5
 refine bl1 e1 e3 (x:=.int i 0) rfl ?_
 change wpAny _ _ (seqItems? (.ref t) >>= _) _ _ s
 apply bb5
 apply bp5 f1 f3
 simp only [be5,hx]
 apply bb5
 apply wpAny_rule
 apply bb5
 refine wpAny_setField e1 e3 (by simp) ?_
 apply bb5
 simp only [newExc,newTuple]
 apply bb5
 refine bi8 ?_ (by size_fits)
 apply bb5
 refine wpAny_of_eq (a:=Value.none) (by first | rfl | (simp only [firstArgMember]; rfl)) ?_
 refine bi8 ?_ (by size_fits)
 unfold raiseNew
 apply bb5
 apply wpAny_handled
 have quiet:A.in1.handled=none:=hh
 rw [quiet]
 refine wpAny_throw ?_
 exact q _ _ (((Heap.SameBut.update ..).extBut.push _).push _) ⟨_,be1 _ rfl,rfl⟩
theorem at8 (hh:A.handled=none) (it t:Addr) (ne:t ≠ it) (items:Array Value):Draws prog w A it [it,t] items.size (fun i v=>items[i]? = some v) (fun i h=>h.IsTupleIter it t i/\h.IsTuple t items) where
 live:=fun _ _ st=>st.1.elim fun o y=>⟨o,y.1⟩
 frame:=fun _ _ _ st k=>⟨st.1.at fun o e=>k it bc6 o e,st.2.elim fun o y=>⟨o,k t (bd4 _ bc6) o y.1,y.2⟩⟩
 item:=fun i s Q E lt st q=>at6 st.1 st.2 (Array.getElem?_eq_getElem lt) fun h' again sb=>q _ h' s.toks (Array.getElem?_eq_getElem lt) ⟨again,st.2.elim fun o y=>⟨o,sb.extBut t o ne y.1,y.2⟩⟩ sb
 done:=fun s Q E st q=>at7 hh st.1 st.2 (Array.getElem?_eq_none (bc5 _)) q
end
structure Ap (z TI TO i1 i2:Addr) (fp1 fp2:List Addr):Prop where
 TIz:TI ≠ z
 TOz:TO ≠ z
 TITO:TI ≠ TO
 z1:z ∉ fp1
 z2:z ∉ fp2
 o1:TO ∉ fp1
 o2:TO ∉ fp2
 t1:TI ∉ fp1
 t2:TI ∉ fp2
 m1:i1 ∈ fp1
 m2:i2 ∈ fp2
 n1:i1 ∉ fp2
 n2:i2 ∉ fp1
structure vJ (z TI TO i1 i2:Addr) (St1 St2:Nat->Heap->Prop) (f0:Value) (i j:Nat) (h:Heap):Prop where
 zz:IsZip h z TI TO f0
 ti:IsPair h TI (.ref i1) (.ref i2)
 to_:∃ a b,IsPair h TO a b
 s1:St1 i h
 s2:St2 j h
section
variable {prog : Program} {w : World} {A : Around} {E : Value → Shared → Prop} {s : Shared} {z TI TO i1 i2 : Addr} {fp1 fp2 : List Addr} {n1 n2 : Nat} {P1 P2 : Nat → Value → Prop} {St1 St2 : Nat → Heap → Prop}
theorem mM (ap:Ap z TI TO i1 i2 fp1 fp2) {b:Addr} (h:b ∉ fp1):b ≠ i1:=fun e=>h (e ▸ ap.m1)
theorem rC (ap:Ap z TI TO i1 i2 fp1 fp2) {b:Addr} (h:b ∉ fp2):b ≠ i2:=fun e=>h (e ▸ ap.m2)
theorem item (D1:Draws prog w A.in1 i1 fp1 n1 P1 St1) (D2:Draws prog w A.in1 i2 fp2 n2 P2 St2) (ap:Ap z TI TO i1 i2 fp1 fp2) {i:Nat} (l1:i < n1) (l2:i < n2) (st:vJ z TI TO i1 i2 St1 St2 .none i i s.heap) {Q:Option Value->Shared->Prop}
  (q:∀ x y h' tk,P1 i x->P2 i y->vJ z TI TO i1 i2 St1 St2 (rawInt s.heap.objs.size) (i+1) (i+1) h'->IsPair h' s.heap.objs.size x y->(∀ c o,c ≠ z->c ≠ TO->c ≠ i1->c ≠ i2->s.heap.get? c=some o->h'.get? c=some o)->
   h'.objs.size=s.heap.objs.size+1->Q (some (.ref s.heap.objs.size)) { s with heap:=h',toks:=tk }):wpAny (model prog w) A (pyNext (.ref z)) Q E s:=by
 obtain ⟨hz,hti,⟨a,b,hto⟩,h1,h2⟩:=st
 have T:s.TypeIs (.ref z) "zip":=⟨_,hz,rfl⟩
 have slot:=PySem.F.slot_zip_next
 unfold pyNext
 apply bb5
 apply wpAny_attempt
 apply bj9 (name:=Str.ofString "__next__") T slot
 apply bk6 slot T PySem.F.entry_zip_next _ (PySem.F.args_zip_next_1 _)
 change wpAny _ _ (field (.ref z) 2 >>= _) _ _ _
 apply bb5
 refine bl1 hz rfl (x:=.bool false) rfl ?_
 change wpAny _ _ (field (.ref z) 3 >>= _) _ _ _
 apply bb5
 refine bl1 hz rfl (x:=.ref TI) rfl ?_
 apply bb5
 apply bp5 hti rfl
 change wpAny _ _ (Builtin.SmallTypes.ownedTupleIsFree (.ref z) >>= _) _ _ _
 apply bb5
 unfold Builtin.SmallTypes.ownedTupleIsFree
 apply bb5
 refine bl1 hz rfl (x:=.none) rfl (bc8 ?_)
 simp only [if_true]
 apply bb5
 apply wpAny_rule
 apply bb5
 refine bl1 hz rfl (x:=.ref TO) rfl ?_
 apply bb5
 refine bp6 hz (by simp) fun g1 hz1 sb1=>?_
 have k1:∀ c o,c ≠ z->s.heap.get? c=some o->g1.get? c=some o:=fun c o c1 e=>sb1.extBut c o c1 e
 apply bb5
 simp only [List.zipIdx_cons,List.zipIdx_nil,List.forIn_cons,List.forIn_nil]
 apply bb5
 apply bb5
 apply wpAny_onRaise
 change wpAny _ _ (Builtin.SmallTypes.nextOf (.ref i1) >>= _) _ _ _
 apply bb5
 refine D1.item i { s with heap:=g1 } _ _ l1 (D1.frame _ _ _ h1 fun c hc o e=>k1 c o (fun y=>ap.z1 (y ▸ hc)) e) fun x g2 tk2 px st1 sb2=>bc8 ?_
 have k2:∀ c o,c ≠ z->c ≠ i1->s.heap.get? c=some o->g2.get? c=some o:=fun c o c1 c2 e=>sb2.extBut c o c2 (k1 c o c1 e)
 have to2:IsPair g2 TO a b:=k2 _ _ ap.TOz (mM ap ap.o1) hto
 apply bb5
 apply bp5 to2 rfl
 apply bb5
 refine wpAny_updateSeq_pair to2 fun g3 to3 sb3=>?_
 have to3:IsPair g3 TO x b:=to3
 apply bb5
 apply wpAny_letGo
 apply bc8
 apply bb5
 apply bb5
 apply wpAny_onRaise
 change wpAny _ _ (Builtin.SmallTypes.nextOf (.ref i2) >>= _) _ _ _
 apply bb5
 have k3:∀ c o,c ≠ z->c ≠ i1->c ≠ TO->s.heap.get? c=some o->g3.get? c=some o:=fun c o c1 c2 c3 e=>sb3.extBut c o c3 (k2 c o c1 c2 e)
 refine D2.item i { s with heap:=g3,toks:=tk2 } _ _ l2 (D2.frame _ _ _ h2 fun c hc o e=>k3 c o (fun y=>ap.z2 (y ▸ hc)) (fun y=>ap.n1 (y ▸ hc)) (fun y=>ap.o2 (y ▸ hc)) e) fun y g4 tk4 py st2 sb4=>bc8 ?_
 have to4:IsPair g4 TO x b:=sb4.extBut _ _ (rC ap ap.o2) to3
 apply bb5
 apply bp5 to4 rfl
 apply bb5
 refine wpAny_updateSeq_pair to4 fun g5 to5 sb5=>?_
 have to5:IsPair g5 TO x y:=to5
 apply bb5
 apply wpAny_letGo
 apply bc8
 apply bc8
 apply bb5
 apply bp5 to5 rfl
 apply bb5
 refine wpAny_newTuple ?_ (by show 2<=sizeLine; decide)
 have size:g5.objs.size=s.heap.objs.size:=by rw [sb5.1,sb4.1,sb3.1,sb2.1,sb1.1]
 have k5:∀ c o,c ≠ z->c ≠ TO->c ≠ i1->c ≠ i2->s.heap.get? c=some o->g5.get? c=some o:=fun c o c1 c2 c3 c4 e=>sb5.extBut c o c2 (sb4.extBut c o c4 (k3 c o c1 c3 c2 e))
 have z5:IsZip g5 z TI TO .ellipsis:=sb5.extBut _ _ (Ne.symm ap.TOz) (sb4.extBut _ _ (rC ap ap.z2) (sb3.extBut _ _ (Ne.symm ap.TOz) (sb2.extBut _ _ (mM ap ap.z1) hz1)))
 change wpAny _ _ (Builtin.SmallTypes.ownedTupleHandOut (.ref z) (.ref g5.objs.size) >>= _) _ _ _
 apply bb5
 unfold Builtin.SmallTypes.ownedTupleHandOut
 apply bb5
 have z6:IsZip (g5.push { cls:=.type "tuple",data:=.seq #[x,y] }) z TI TO .ellipsis:=bb7 _ z5
 refine bp6 z6 (by simp) fun g7 z7 sb7=>?_
 have z7:IsZip g7 z TI TO (rawInt g5.objs.size):=z7
 refine bp6 z7 (by simp) fun g8 z8 sb8=>?_
 have z8:IsZip g8 z TI TO (rawInt g5.objs.size):=z8
 have zlt:z < g5.objs.size:=bd5 z5
 have up:∀ c o,c ≠ z->g5.get? c=some o->g8.get? c=some o:=fun c o c1 e=>sb8.extBut c o c1 (sb7.extBut c o c1 (bb7 _ e))
 have p8:IsPair g8 g5.objs.size x y:=sb8.extBut _ _ (bl7 zlt) (sb7.extBut _ _ (bl7 zlt) (be1 _ rfl))
 have s8:g8.objs.size=g5.objs.size+1:=by rw [sb8.1,sb7.1,bq5]
 have f1:St1 (i+1) g8:=D1.frame _ _ _ st1 fun c hc o e=>up c o (fun y=>ap.z1 (y ▸ hc)) (sb5.extBut c o (fun y=>ap.o1 (y ▸ hc)) (sb4.extBut c o (fun y=>ap.n2 (y ▸ hc)) (sb3.extBut c o (fun y=>ap.o1 (y ▸ hc)) e)))
 have f2:St2 (i+1) g8:=D2.frame _ _ _ st2 fun c hc o e=>up c o (fun y=>ap.z2 (y ▸ hc)) (sb5.extBut c o (fun y=>ap.o2 (y ▸ hc)) e)
 have ti8:IsPair g8 TI (.ref i1) (.ref i2):=up _ _ ap.TIz (k5 _ _ ap.TIz ap.TITO (mM ap ap.t1) (rC ap ap.t2) hti)
 rw [size] at z8 p8 s8
 apply bc8
 refine⟨_,rfl,bc8 ?_⟩
 change Q (some (.ref g5.objs.size)) _
 rw [size]
 exact q x y g8 tk4 px py ⟨z8,ti8,⟨x,y,up _ _ ap.TOz to5⟩,f1,f2⟩ p8 (fun c o c1 c2 c3 c4 e=>up c o c1 (k5 c o c1 c2 c3 c4 e)) s8
theorem fin (D1:Draws prog w A.in1 i1 fp1 n1 P1 St1) (D2:Draws prog w A.in1 i2 fp2 n2 P2 St2) (ap:Ap z TI TO i1 i2 fp1 fp2) {i:Nat} (le:i=n1 ∨ (i < n1/\i=n2)) (st:vJ z TI TO i1 i2 St1 St2 .none i i s.heap) {Q:Option Value->Shared->Prop}
  (q:∀ h' tk,(∀ c o,c ≠ z->c ≠ TO->c ≠ i1->c ≠ i2->s.heap.get? c=some o->h'.get? c=some o)->Q none { s with heap:=h',toks:=tk }):wpAny (model prog w) A (pyNext (.ref z)) Q E s:=by
 obtain ⟨hz,hti,⟨a,b,hto⟩,h1,h2⟩:=st
 have T:s.TypeIs (.ref z) "zip":=⟨_,hz,rfl⟩
 have slot:=PySem.F.slot_zip_next
 unfold pyNext
 apply bb5
 apply wpAny_attempt
 apply bj9 (name:=Str.ofString "__next__") T slot
 apply bk6 slot T PySem.F.entry_zip_next _ (PySem.F.args_zip_next_1 _)
 change wpAny _ _ (field (.ref z) 2 >>= _) _ _ _
 apply bb5
 refine bl1 hz rfl (x:=.bool false) rfl ?_
 change wpAny _ _ (field (.ref z) 3 >>= _) _ _ _
 apply bb5
 refine bl1 hz rfl (x:=.ref TI) rfl ?_
 apply bb5
 apply bp5 hti rfl
 change wpAny _ _ (Builtin.SmallTypes.ownedTupleIsFree (.ref z) >>= _) _ _ _
 apply bb5
 unfold Builtin.SmallTypes.ownedTupleIsFree
 apply bb5
 refine bl1 hz rfl (x:=.none) rfl (bc8 ?_)
 simp only [if_true]
 apply bb5
 apply wpAny_rule
 apply bb5
 refine bl1 hz rfl (x:=.ref TO) rfl ?_
 apply bb5
 refine bp6 hz (by simp) fun g1 hz1 sb1=>?_
 have k1:∀ c o,c ≠ z->s.heap.get? c=some o->g1.get? c=some o:=fun c o c1 e=>sb1.extBut c o c1 e
 apply bb5
 simp only [List.zipIdx_cons,List.zipIdx_nil,List.forIn_cons,List.forIn_nil]
 apply bb5
 apply bb5
 apply wpAny_onRaise
 change wpAny _ _ (Builtin.SmallTypes.nextOf (.ref i1) >>= _) _ _ _
 apply bb5
 have z1:IsZip g1 z TI TO .ellipsis:=hz1
 rcases le with rfl | ⟨lt,rfl⟩
 ·refine D1.done { s with heap:=g1 } _ _ (D1.frame _ _ _ h1 fun c hc o e=>k1 c o (fun y=>ap.z1 (y ▸ hc)) e) fun g2 e eb ex=>?_
  have z2:IsZip g2 z TI TO .ellipsis:=eb _ _ (mM ap ap.z1) z1
  refine bp6 z2 (by simp) fun g3 z3 sb3=>?_
  obtain ⟨oe,eo,co⟩:=ex
  have ne:e ≠ z:=fun y=>by
   rw [y,z2] at eo
   have:=be3 eo
   rw [<- this] at co; exact absurd (show Value.type "zip" = Value.type "StopIteration" from co) (by decide)
  apply bb5
  refine wpAny_isInstance (T:="StopIteration") (b:=true) ⟨oe,sb3.extBut _ _ ne eo,co⟩ isSubtype_stop ?_
  exact bc8 (q g3 s.toks fun c o c1 _ c3 _ e=>sb3.extBut c o c1 (eb c o c3 (k1 c o c1 e)))
 ·refine D1.item i { s with heap:=g1 } _ _ lt (D1.frame _ _ _ h1 fun c hc o e=>k1 c o (fun y=>ap.z1 (y ▸ hc)) e) fun x g2 tk2 px st1 sb2=>bc8 ?_
  have k2:∀ c o,c ≠ z->c ≠ i1->s.heap.get? c=some o->g2.get? c=some o:=fun c o c1 c2 e=>sb2.extBut c o c2 (k1 c o c1 e)
  have to2:IsPair g2 TO a b:=k2 _ _ ap.TOz (mM ap ap.o1) hto
  apply bb5
  apply bp5 to2 rfl
  apply bb5
  refine wpAny_updateSeq_pair to2 fun g3 to3 sb3=>?_
  apply bb5
  apply wpAny_letGo
  apply bc8
  apply bb5
  apply bb5
  apply wpAny_onRaise
  change wpAny _ _ (Builtin.SmallTypes.nextOf (.ref i2) >>= _) _ _ _
  apply bb5
  have k3:∀ c o,c ≠ z->c ≠ i1->c ≠ TO->s.heap.get? c=some o->g3.get? c=some o:=fun c o c1 c2 c3 e=>sb3.extBut c o c3 (k2 c o c1 c2 e)
  refine D2.done { s with heap:=g3,toks:=tk2 } _ _ (D2.frame _ _ _ h2 fun c hc o e=>k3 c o (fun y=>ap.z2 (y ▸ hc)) (fun y=>ap.n1 (y ▸ hc)) (fun y=>ap.o2 (y ▸ hc)) e) fun g4 e eb ex=>?_
  have z4:IsZip g4 z TI TO .ellipsis:=eb _ _ (rC ap ap.z2) (sb3.extBut _ _ (Ne.symm ap.TOz) (sb2.extBut _ _ (mM ap ap.z1) z1))
  refine bp6 z4 (by simp) fun g5 z5 sb5=>?_
  obtain ⟨oe,eo,co⟩:=ex
  have ne:e ≠ z:=fun y=>by
   rw [y,z4] at eo
   have:=be3 eo
   rw [<- this] at co; exact absurd (show Value.type "zip" = Value.type "StopIteration" from co) (by decide)
  apply bb5
  refine wpAny_isInstance (T:="StopIteration") (b:=true) ⟨oe,sb5.extBut _ _ ne eo,co⟩ isSubtype_stop ?_
  exact bc8 (q g5 tk2 fun c o c1 c2 c3 c4 e=>sb5.extBut c o c1 (eb c o c4 (k3 c o c1 c3 c2 e)))
end
noncomputable def gO (h:Heap) (t u:Addr):Heap:=
 ((((h.push { cls:=.type "tuple_iterator",data:=.fields #[.ref t,.int 0 0] }).push { cls:=.type "tuple_iterator",data:=.fields #[.ref u,.int 0 0] }).push { cls:=.type "tuple",data:=.seq #[.ref h.objs.size,.ref (h.objs.size+1)] }).push
  { cls:=.type "tuple",data:=.seq #[.none,.none] }).push { cls:=.type "zip",data:=.fields #[.none,.bool false,.bool false,.ref (h.objs.size+2),.ref (h.objs.size+3)] }
theorem at9 (t u:Addr) (xs ys:Array Value):Meets (Builtin.«zip.__new__» ⟨[.type "zip",.ref t,.ref u],[]⟩) (fun _ R s=>s.heap.IsTuple t xs/\s.heap.IsTuple u ys/\R (.ok (.ret (.ref (s.heap.objs.size+4)))) { s with heap:=gO s.heap t u }):=
 .of_wp fun prog w A R s h=>by
  obtain ⟨hp,g,d,tk,os⟩:=s
  obtain ⟨ht,hu,h⟩:=h
  have sub:=sub_zip
  have a1:Heap.IsTuple (Shared.heap ⟨hp,g,d,tk,os⟩) t xs:=ht
  have a2:Heap.IsTuple (Shared.heap ⟨hp.push { cls:=.type "tuple_iterator",data:=.fields #[.ref t,.int 0 0] },g,d,tk,os⟩) u ys:=hu.elim fun o y=>⟨o,bb7 _ y.1,y.2⟩
  wp_walk using wpAny_pyIter_tuple a1,wpAny_pyIter_tuple a2
  have e:∀ (o:Obj) (k:Heap),(k.push o).objs.size=k.objs.size+1:=fun o k=>bq5 ..
  refine⟨_,rfl,?_⟩
  simp only [gO,e] at h ⊢
  exact h
section
variable {prog : Program} {w : World} {A : Around} {E : Value → Shared → Prop} {s : Shared}
theorem au0 {t u:Addr}{xs ys:Array Value}{Q:Value->Shared->Prop} (ht:s.heap.IsTuple t xs) (hu:s.heap.IsTuple u ys)
  (q:∀ h',IsZip h' (s.heap.objs.size+4) (s.heap.objs.size+2) (s.heap.objs.size+3) .none->IsPair h' (s.heap.objs.size+2) (.ref s.heap.objs.size) (.ref (s.heap.objs.size+1))->
   IsPair h' (s.heap.objs.size+3) .none .none->h'.IsTupleIter s.heap.objs.size t 0->h'.IsTupleIter (s.heap.objs.size+1) u 0->(∀ c o,s.heap.get? c=some o->h'.get? c=some o)->Q (.ref (s.heap.objs.size+4)) { s with heap:=h' }) :
  wpAny (model prog w) A (call (.type "zip") [.ref t,.ref u]) Q E s:=by
 refine callType_new PySem.F.called_zip (by decide) (PySem.F.typeCall_zip_2 _ _) (PySem.F.newCall_zip_2 _ _) (fun obj=>PySem.F.args_object_init_3 obj _ _) PySem.F.entry_zip_new (at9 t u xs ys) ⟨ht,hu,?_⟩
 have e:∀ (o:Obj) (k:Heap),(k.push o).objs.size=k.objs.size+1:=fun o k=>bq5 ..
 have p0:∀ (k:Heap) (o:Obj) (m:Nat),o.isFreed=false->m=k.objs.size->(k.push o).get? m=some o:=fun k o m f z=>by rw [z]; exact be1 _ f
 have g0:(gO s.heap t u).get? s.heap.objs.size=some { cls:=.type "tuple_iterator",data:=.fields #[.ref t,.int 0 0] }:=by
  unfold gO
  exact bb7 _ (bb7 _ (bb7 _ (bb7 _ (p0 _ _ _ rfl rfl))))
 have g1:(gO s.heap t u).get? (s.heap.objs.size+1)=some { cls:=.type "tuple_iterator",data:=.fields #[.ref u,.int 0 0] }:=by
  unfold gO
  exact bb7 _ (bb7 _ (bb7 _ (p0 _ _ _ rfl (by simp only [e]))))
 have g2:(gO s.heap t u).get? (s.heap.objs.size+2)=some { cls:=.type "tuple",data:=.seq #[.ref s.heap.objs.size,.ref (s.heap.objs.size+1)] }:=by
  unfold gO
  exact bb7 _ (bb7 _ (p0 _ _ _ rfl (by simp only [e])))
 have g3:(gO s.heap t u).get? (s.heap.objs.size+3)=some { cls:=.type "tuple",data:=.seq #[.none,.none] }:=by
  unfold gO
  exact bb7 _ (p0 _ _ _ rfl (by simp only [e]))
 have g4:(gO s.heap t u).get? (s.heap.objs.size+4)=some { cls:=.type "zip",data:=.fields #[.none,.bool false,.bool false,.ref (s.heap.objs.size+2),.ref (s.heap.objs.size+3)] }:=by
  unfold gO
  exact p0 _ _ _ rfl (by simp only [e])
 refine⟨⟨_,g4,rfl⟩,q _ g4 g2 g3 ⟨_,g0,rfl,rfl⟩ ⟨_,g1,rfl,rfl⟩ fun c o z=>?_⟩
 unfold gO
 exact bb7 _ (bb7 _ (bb7 _ (bb7 _ (bb7 _ z))))
end
end Zp
namespace L2
open PySem PySem.Spec PyProof.Rows
noncomputable def vK (K:PySem.W.Frag) (a b:Addr):It:=
  ⟨fun i H=>∃ xs ys x y,aR K H a xs/\aR K H b ys/\xs[i]? = some x/\ys[i]? = some y,
   fun i H v H'=>∃ T x y,H T=none/\v = .ref T/\H'=upd H T (.tup [x,y])/\∀ xs ys,aR K H a xs->aR K H b ys->xs[i]? = some x/\ys[i]? = some y,
   fun i H=>∃ xs ys,aR K H a xs/\aR K H b ys/\(i=xs.length ∨ (i < xs.length/\i=ys.length))⟩
noncomputable def Sq (t:Bool) (K:PySem.W.Frag) (H:Hp) (a:Addr) (xs:List V):Prop:=match t with
 | true=>aR K H a xs
 | false=>aM K H a xs
noncomputable def gP (t:Bool) (h:Heap) (i a:Addr) (n:Nat):Prop:=match t with
 | true=>h.IsTupleIter i a n
 | false=>h.IsListIter i a n
noncomputable def L4 (t:Bool) (h:Heap) (a:Addr) (xs:Array Value):Prop:=match t with
 | true=>h.IsTuple a xs
 | false=>h.IsList a xs
theorem gP.at {h h':Heap}{i a:Addr}{n:Nat}:∀ {t:Bool},gP t h i a n->(∀ o,h.get? i=some o->h'.get? i=some o)->gP t h' i a n
 | true,x,k=>Heap.IsTupleIter.at x k
 | false,x,k=>Heap.IsListIter.at x k
theorem gP.ob {h:Heap}{i a:Addr}{n:Nat}:∀ {t:Bool},gP t h i a n->∃ o,h.get? i=some o/\∀ v,o.data ≠ .cell v
 | true,⟨o,f,_,d⟩=>⟨o,f,fun v q=>by rw [d] at q; cases q⟩
 | false,⟨o,f,_,d⟩=>⟨o,f,fun v q=>by rw [d] at q; cases q⟩
theorem gP.draws {prog:Program}{w:World}{A:Around}:∀ (t:Bool) (hh:A.handled=none) (it a:Addr) (ne:a ≠ it) (items:Array Value),Draws prog w A it [it,a] items.size (fun i v=>items[i]? = some v) (fun i h=>gP t h it a i/\L4 t h a items)
 | true,hh,it,a,ne,items=>Zp.at8 hh it a ne items
 | false,hh,it,a,ne,items=>Draws.list hh it a ne items
section
variable {X : Cx} {pins : List (Addr × Obj)} {σ : St} {H : Hp} {s : Shared} {a : Addr} {xs ys : List V}
theorem Sq.get (I:a8 X pins σ H s):∀ {t:Bool},Sq t X.K H a xs->∃ us,aN xs us/\L4 t s.heap a us.toArray
 | true,h=>by obtain ⟨us,r,p,_⟩:=I.tuple h; exact⟨us,r,p⟩
 | false,h=>by obtain ⟨us,r,p,_⟩:=I.list h; exact⟨us,r,p.isList⟩
theorem Sq.inj (I:a8 X pins σ H s):∀ {t:Bool},Sq t X.K H a xs->Sq t X.K H a ys->xs=ys
 | true,h,g=>I.tuple_inj h g
 | false,h,g=>I.list_inj h g
theorem Sq.off (I:a8 X pins σ H s) (he:H a=none) (hb:X.base.get? a=none):∀ {t:Bool},Sq t X.K H a xs->False
 | true,h=>by
  rcases h with (h | ⟨_,h⟩) | ⟨o,_,_,h,_⟩
  ·rw [he] at h; cases h
  ·rw [he] at h; cases h
  ·have:=I.ok.mod.kin a o h
   rw [hb] at this; cases this
 | false,h=>by
  rcases h with (h | ⟨_,h⟩) | ⟨o,_,_,h,_⟩
  ·rw [he] at h; cases h
  ·rw [he] at h; cases h
  ·have:=I.ok.mod.kin a o h
   rw [hb] at this; cases this
end
noncomputable def au1 (t1 t2:Bool) (K:PySem.W.Frag) (a b:Addr):It:=
  ⟨fun i H=>∃ xs ys x y,Sq t1 K H a xs/\Sq t2 K H b ys/\xs[i]? = some x/\ys[i]? = some y,
   fun i H v H'=>∃ T x y,H T=none/\v = .ref T/\H'=upd H T (.tup [x,y])/\∀ xs ys,Sq t1 K H a xs->Sq t2 K H b ys->xs[i]? = some x/\ys[i]? = some y,
   fun i H=>∃ xs ys,Sq t1 K H a xs/\Sq t2 K H b ys/\(i=xs.length ∨ (i < xs.length/\i=ys.length))⟩
structure vL (t1 t2:Bool) (z TI TO i1 i2 a b:Addr) (i:Nat) (h:Heap):Prop where
 zz:IsZip h z TI TO .none
 ti:IsPair h TI (.ref i1) (.ref i2)
 to_:∃ x y,IsPair h TO x y
 s1:gP t1 h i1 a i
 s2:gP t2 h i2 b i
theorem L5 (t1 t2:Bool) {P:Program}{w:World}{K:PySem.W.Frag}{elts:List Expr}{k:Nat}{pos:Pos} (a b z TI TO i1 i2:Addr) (d : [z,TI,TO,i1,i2].Nodup) :
  jL P w K (.Tuple elts k pos) (au1 t1 t2 K a b) [z,TI,TO,i1,i2] z (vL t1 t2 z TI TO i1 i2 a b):=by
 have nd:z ≠ TI/\z ≠ TO/\z ≠ i1/\z ≠ i2/\TI ≠ TO/\TI ≠ i1/\TI ≠ i2/\TO ≠ i1/\TO ≠ i2/\i1 ≠ i2:=by
  simp only [bk4,bd0,bf1,bj8,not_or] at d
  obtain ⟨⟨a1,a2,a3,a4⟩,⟨b1,b2,b3⟩,⟨c1,c2⟩,e1,_⟩:=d
  exact⟨a1,a2,a3,a4,b1,b2,b3,c1,c2,e1⟩
 obtain ⟨n1,n2,n3,n4,n5,n6,n7,n8,n9,n10⟩:=nd
 have offBase:∀ {X:Cx}{pins:List (Addr × Obj)}{σ:St}{H:Hp}{s:Shared},a8 X pins σ H s->(∀ c ∈ [z,TI,TO,i1,i2],gY X pins H c)->∀ c ∈ [z,TI,TO,i1,i2],X.base.get? c=none:=by
  intro X pins σ H s I hf c hc
  cases q:X.base.get? c with
  | none=>rfl
  | some o=>
   rcases (hf c hc).2.2.2.1 with h | h
   ·exact absurd h (I.ok.noex c o q)
   ·exact absurd (bd2 (bd5 q) (bg5 I.ok.bsz h)) (bg6 _)
 have off:∀ {t:Bool}{X:Cx}{pins:List (Addr × Obj)}{σ:St}{H:Hp}{s:Shared}{c:Addr}{zs:List V},a8 X pins σ H s->(∀ c ∈ [z,TI,TO,i1,i2],gY X pins H c)->Sq t X.K H c zs->c ∉ [z,TI,TO,i1,i2]:=by
  intro t X pins σ H s c zs I hf hc hm
  exact Sq.off I (hf c hm).1 (offBase I hf c hm) hc
 have ap:∀ {c e:Addr},c ∉ [z,TI,TO,i1,i2]->e ∉ [z,TI,TO,i1,i2]->Zp.Ap z TI TO i1 i2 [i1,c] [i2,e]:=fun {c e} hc he=>by
  simp only [bd0,bf1,bj8,not_or] at hc he
  obtain ⟨c1,c2,c3,c4,c5⟩:=hc
  obtain ⟨e1,e2,e3,e4,e5⟩:=he
  have two:∀ {q u v:Addr},q ≠ u->q ≠ v->q ∉ [u,v]:=fun {q u v} h1 h2 hm=>by
   simp only [bd0,bf1,bj8] at hm
   exact hm.elim h1 h2
  exact⟨n1.symm,n2.symm,n5,two n3 (Ne.symm c1),two n4 (Ne.symm e1),two n8 (Ne.symm c3),two n9 (Ne.symm e3),two n6 (Ne.symm c2),two n7 (Ne.symm e2),bc6,bc6,two n10 (Ne.symm e4),two n10.symm (Ne.symm c5)⟩
 refine⟨by simp,fun i h st c hc=>?_,fun i h h' st kp=>?_,?_,?_,fun A i s Q E st q=>wpAny_pyIter_zip st.zz q⟩
 ·simp only [bd0,bf1,bj8] at hc
  obtain ⟨x,y,to⟩:=st.to_
  rcases hc with rfl | rfl | rfl | rfl | rfl
  ·exact⟨_,st.zz,fun v q=>by cases q⟩
  ·exact⟨_,st.ti,fun v q=>by cases q⟩
  ·exact⟨_,to,fun v q=>by cases q⟩
  ·exact st.s1.ob
  ·exact st.s2.ob
 ·obtain ⟨x,y,to⟩:=st.to_
  exact⟨kp z (by simp) _ st.zz,kp TI (by simp) _ st.ti,⟨x,y,kp TO (by simp) _ to⟩,st.s1.at fun o e=>kp i1 (by simp) o e,st.s2.at fun o e=>kp i2 (by simp) o e⟩
 ·
  intro X hP hw hK hc i pins s σ H E I hf st hg
  subst hP hw hK
  obtain ⟨xs,ys,x,y,ha,hb,hx,hy⟩:=hg
  obtain ⟨us,ru,pu⟩:=Sq.get I ha
  obtain ⟨vs,rv,pv'⟩:=Sq.get I hb
  obtain ⟨ux,eux,rux⟩:=ru.get hx
  obtain ⟨vy,evy,rvy⟩:=rv.get hy
  have fa:=off I hf ha
  have fb:=off I hf hb
  have hh:X.A.in1.handled=none:=I.ok.hd hc
  have l1:i < us.toArray.size:=by simpa using (bc4.mp eux).1
  have l2:i < vs.toArray.size:=by simpa using (bc4.mp evy).1
  have fa':a ≠ i1:=fun q=>fa (by rw [q]; simp)
  have fb':b ≠ i2:=fun q=>fb (by rw [q]; simp)
  have D1:=gP.draws t1 (prog:=X.prog) (w:=X.w) hh i1 a fa' us.toArray
  have D2:=gP.draws t2 (prog:=X.prog) (w:=X.w) hh i2 b fb' vs.toArray
  refine Zp.item D1 D2 (ap fa fb) l1 l2 ⟨st.zz,st.ti,st.to_,⟨st.s1,pu⟩,⟨st.s2,pv'⟩⟩ fun p q h' tk hp hq st' pr kp sz=>⟨_,rfl,?_⟩
  obtain rfl:p=ux:=by
   have:us.toArray[i]? = some ux:=by simpa using eux
   rw [this] at hp; exact (be3 hp).symm
  obtain rfl:q=vy:=by
   have:vs.toArray[i]? = some vy:=by simpa using evy
   rw [this] at hq; exact (be3 hq).symm
  refine wpAny_letOwnedTupleGo_zip (s:={ s with heap:=h',toks:=tk }) st'.zz fun g zz sb=>?_
  have hzl:z < s.heap.objs.size:=bd5 st.zz
  have up:∀ c o,c ≠ z->c ≠ TO->c ≠ i1->c ≠ i2->s.heap.get? c=some o->g.get? c=some o:=fun c o c1 c2 c3 c4 e=>sb.extBut c o c1 (kp c o c1 c2 c3 c4 e)
  have hT:H s.heap.objs.size=none:=I.hok.fresh (bc5 _)
  have prG:IsPair g s.heap.objs.size p q:=sb.extBut _ _ (bl7 hzl) pr
  have fpn:∀ c u,H c=some u->c ∉ [z,TI,TO,i1,i2]:=fun c u e hm=>by rw [(hf c hm).1] at e; cases e
  have upH:∀ c o u,H c=some u->s.heap.get? c=some o->g.get? c=some o:=fun c o u e z=>by
   have:=fpn c u e
   simp only [bd0,bf1,bj8,not_or] at this
   exact up c o this.1 this.2.2.1 this.2.2.2.1 this.2.2.2.2 z
  have ns:∀ m,s.heap.Ns X.env.locals m->g.Ns X.env.locals m:=fun m hm=>by
   obtain ⟨o,es,ep,e1,e2⟩:=hm
   exact⟨o,es,ep,up _ o (Ne.symm (hf z (by simp)).2.1) (Ne.symm (hf TO (by simp)).2.1) (Ne.symm (hf i1 (by simp)).2.1) (Ne.symm (hf i2 (by simp)).2.1) e1,e2⟩
  have I2:a8 X pins σ (upd H s.heap.objs.size (.tup [x,y])) { s with heap:=g,toks:=tk }:=by
   refine I.step (g':=s.gens) (d':=s.drawn) (ch:=[z,TO,i1,i2]) (fun c hc'=>?_) (fun c o _ _ hc' e _=>?_) (fun c o _ _ hc' e _=>⟨o.slots,?_⟩) (fun c o _ e n=>?_) (fun c o hc' e=>⟨o,?_⟩)
    (fun c zs e=>by rw [b7 (dU e hT)]; exact e) (fun c u zs e=>by rw [b7 (dU e hT)]; exact e) (fun c ps e=>⟨#[],by rw [b7 (dU e hT),e]; simp⟩) ns (fun c u e=>?_) I.bare
   ·have hm:c ∈ [z,TI,TO,i1,i2]:=by
     simp only [bd0,bf1,bj8] at hc' ⊢
     rcases hc' with h | h | h | h <;> simp [h]
    exact⟨(hf c hm).2.2.2.1,(hf c hm).2.1,(hf c hm).2.2.2.2.1,(hf c hm).2.2.2.2.2⟩
   ·simp only [bd0,bf1,bj8,not_or] at hc'
    exact up c o hc'.1 hc'.2.1 hc'.2.2.1 hc'.2.2.2 e
   ·simp only [bd0,bf1,bj8,not_or] at hc'
    exact up c o hc'.1 hc'.2.1 hc'.2.2.1 hc'.2.2.2 e
   ·rw [b7 (bg0 (bd5 e))]; exact n
   ·simp only [bd0,bf1,bj8,not_or] at hc'
    exact up c o hc'.1 hc'.2.1 hc'.2.2.1 hc'.2.2.2 e
   ·by_cases hcT:c=s.heap.objs.size
    ·subst hcT
     rw [bM] at e; cases e
     exact⟨by show 2<=sizeLine; decide,[p,q],.cons rux (.cons rvy .nil),⟨_,prG,rfl,_,rfl⟩,fun u e=>by rw [prG] at e; cases e; rfl⟩
    ·rw [b7 hcT] at e
     refine (I.hok c u e).stay (fun c' o' hc2 q'=>?_) (fun c' q'=>by rw [b7 (dU q' hT)]; exact q') fun c' zs q'=>by rw [b7 (dU q' hT)]; exact q'
     rcases hc2 with rfl | hc2
     ·exact upH _ _ _ e q'
     ·exact upH _ _ _ hc2 q'
  obtain ⟨x',y',to'⟩:=st'.to_
  refine⟨.ref s.heap.objs.size,_,I2,rfl,⟨_,x,y,hT,rfl,rfl,fun xs' ys' ha' hb'=>?_⟩,⟨zz,sb.extBut _ _ n1.symm st'.ti,⟨x',y',sb.extBut _ _ n2.symm to'⟩,st'.s1.1.at fun o e=>sb.extBut _ o n3.symm e,st'.s2.1.at fun o e=>sb.extBut _ o n4.symm e⟩,fun c hc'=>?_⟩
  ·rw [Sq.inj I ha' ha,Sq.inj I hb' hb]; exact⟨hx,hy⟩
  ·obtain ⟨o,e,_⟩:∃ o,s.heap.get? c=some o/\True:=by
    simp only [bd0,bf1,bj8] at hc'
    obtain ⟨x2,y2,to2⟩:=st.to_
    obtain ⟨o1,f1,_⟩:=st.s1.ob
    obtain ⟨o2,f2,_⟩:=st.s2.ob
    rcases hc' with rfl | rfl | rfl | rfl | rfl
    ·exact⟨_,st.zz,trivial⟩
    ·exact⟨_,st.ti,trivial⟩
    ·exact⟨_,to2,trivial⟩
    ·exact⟨_,f1,trivial⟩
    ·exact⟨_,f2,trivial⟩
   rw [b7 (bg0 (bd5 e))]; exact (hf c hc').1
 ·
  intro X hP hw hK hc i pins s σ H E I hf st hg
  subst hP hw hK
  obtain ⟨xs,ys,ha,hb,hi⟩:=hg
  obtain ⟨us,ru,pu⟩:=Sq.get I ha
  obtain ⟨vs,rv,pv'⟩:=Sq.get I hb
  have fa:=off I hf ha
  have fb:=off I hf hb
  have hh:X.A.in1.handled=none:=I.ok.hd hc
  have fa':a ≠ i1:=fun q=>fa (by rw [q]; simp)
  have fb':b ≠ i2:=fun q=>fb (by rw [q]; simp)
  have D1:=gP.draws t1 (prog:=X.prog) (w:=X.w) hh i1 a fa' us.toArray
  have D2:=gP.draws t2 (prog:=X.prog) (w:=X.w) hh i2 b fb' vs.toArray
  have e1:=ru.length
  have e2:=rv.length
  refine Zp.fin D1 D2 (ap fa fb) (by simp only [bb6]; omega) ⟨st.zz,st.ti,st.to_,⟨st.s1,pu⟩,⟨st.s2,pv'⟩⟩ fun g tk kp=>⟨rfl,?_⟩
  have fpn:∀ c u,H c=some u->c ∉ [z,TI,TO,i1,i2]:=fun c u e hm=>by rw [(hf c hm).1] at e; cases e
  have upH:∀ c o u,H c=some u->s.heap.get? c=some o->g.get? c=some o:=fun c o u e z=>by
   have:=fpn c u e
   simp only [bd0,bf1,bj8,not_or] at this
   exact kp c o this.1 this.2.2.1 this.2.2.2.1 this.2.2.2.2 z
  have ns:∀ m,s.heap.Ns X.env.locals m->g.Ns X.env.locals m:=fun m hm=>by
   obtain ⟨o,es,ep,e1,e2⟩:=hm
   exact⟨o,es,ep,kp _ o (Ne.symm (hf z (by simp)).2.1) (Ne.symm (hf TO (by simp)).2.1) (Ne.symm (hf i1 (by simp)).2.1) (Ne.symm (hf i2 (by simp)).2.1) e1,e2⟩
  refine I.step (g':=s.gens) (d':=s.drawn) (ch:=[z,TO,i1,i2]) (fun c hc'=>?_) (fun c o _ _ hc' e _=>?_) (fun c o _ _ hc' e _=>⟨o.slots,?_⟩) (fun c o _ e n=>n) (fun c o hc' e=>⟨o,?_⟩)
   (fun c zs e=>e) (fun c u zs e=>e) (fun c ps e=>⟨#[],by rw [e]; simp⟩) ns (fun c u e=>?_) I.bare
  ·have hm:c ∈ [z,TI,TO,i1,i2]:=by
    simp only [bd0,bf1,bj8] at hc' ⊢
    rcases hc' with h | h | h | h <;> simp [h]
   exact⟨(hf c hm).2.2.2.1,(hf c hm).2.1,(hf c hm).2.2.2.2.1,(hf c hm).2.2.2.2.2⟩
  ·simp only [bd0,bf1,bj8,not_or] at hc'
   exact kp c o hc'.1 hc'.2.1 hc'.2.2.1 hc'.2.2.2 e
  ·simp only [bd0,bf1,bj8,not_or] at hc'
   exact kp c o hc'.1 hc'.2.1 hc'.2.2.1 hc'.2.2.2 e
  ·simp only [bd0,bf1,bj8,not_or] at hc'
   exact kp c o hc'.1 hc'.2.1 hc'.2.2.1 hc'.2.2.2 e
  ·refine (I.hok c u e).stay (fun c' o' hc2 q'=>?_) (fun _ q'=>q') fun _ _ q'=>q'
   rcases hc2 with rfl | hc2
   ·exact upH _ _ _ e q'
   ·exact upH _ _ _ hc2 q'
noncomputable abbrev au2:=vL true true
theorem au3 {P:Program}{w:World}{K:PySem.W.Frag}{elts:List Expr}{k:Nat}{pos:Pos} (a b z TI TO i1 i2:Addr) (d : [z,TI,TO,i1,i2].Nodup) :
  jL P w K (.Tuple elts k pos) (vK K a b) [z,TI,TO,i1,i2] z (au2 z TI TO i1 i2 a b):=L5 true true a b z TI TO i1 i2 d
section
variable {X : Cx}
noncomputable def au4 (K:PySem.W.Frag) (ta:TA):TI:=fun σ H R=>ta σ H fun vs H1=>∃ a b xs ys,vs = [.ref a,.ref b]/\aR K H1 a xs/\aR K H1 b ys/\R (vK K a b) H1
theorem au5 {elts:List Expr}{kt:Nat}{pt:Pos}{a b:Expr}{ta:TA}{p pos:Pos} (hg:Gl X "zip") (hm:X.mg "zip" = none) (ha:PA X [a,b] ta) (hs:starEach [a,b] X.env = [(false,eval a X.env),(false,eval b X.env)]:=by rfl) (hs2:starEach [b] X.env = [(false,eval b X.env)]:=by rfl) :
  PI X (.Tuple elts kt pt) (.Call (.Name "zip" p) [a,b] [] pos) (au4 X.K ta):=by
 intro pins s σ H R I h
 refine Call_ (jH I hg hm PyProof.Rows.boot_zip (bi3 (aQ (ha pos pins s σ H _ I h) fun us s1 ⟨vs,H1,I1,r1,q1⟩=>?_) (by rw [hs,hs2]) (by rw [hs2]; rfl)))
 obtain ⟨a',b',xs,ys,e,h1,h2,q⟩:=q1
 subst e
 cases r1 with
 | cons r rr=>
  cases rr with
  | cons r' rr=>
   cases rr
   cases r
   cases r'
   obtain ⟨us,_,p1,_⟩:=I1.tuple h1
   obtain ⟨ws,_,p2,_⟩:=I1.tuple h2
   refine Zp.au0 p1 p2 fun h' z ti to s1' s2' kp=>wpAny_pyIter_zip z ?_
   have fresh:∀ k,H1 (s1.heap.objs.size+k)=none:=fun k=>I1.hok.fresh (bj3 _ _)
   refine⟨s1.heap.objs.size+4,[s1.heap.objs.size+4,s1.heap.objs.size+2,s1.heap.objs.size+3,s1.heap.objs.size,s1.heap.objs.size+1],_,_,H1,rfl,I1.kept (t':=s1.toks) kp,
    au3 a' b' _ _ _ _ _ (by simp),⟨z,ti,⟨_,_,to⟩,s1',s2'⟩,fun c hc=>?_,q⟩
   simp only [bd0,bf1,bj8] at hc
   rcases hc with rfl | rfl | rfl | rfl | rfl
   ·exact I1.fpOk (bj3 _ _) (fresh 4)
   ·exact I1.fpOk (bj3 _ _) (fresh 2)
   ·exact I1.fpOk (bj3 _ _) (fresh 3)
   ·exact I1.fpOk (bc5 _) (fresh 0)
   ·exact I1.fpOk (bj3 _ _) (fresh 1)
theorem vM (hc:X.calm=true):cX X (.builtin "all") (fun xs H Q=>∃ (a:Addr) (bs:List Bool),xs = [.ref a]/\aM X.K H a (bs.map V.bl)/\Q (.bl (bs.all id)) H):=by
 intro pins s σ H xs us Q I r h
 obtain ⟨a,bs,rfl,hq,q⟩:=h
 obtain ⟨u,rfl,ru⟩:=gN r
 cases ru
 obtain ⟨its,rv,p,hz⟩:=I.list hq
 have hl:=rv.length
 rw [bb8] at hl
 have hlt:a < s.heap.objs.size:=by obtain ⟨o,e,_⟩:=p.isList; exact bd5 e
 refine call_all_walk (wpAny_pyIter_list p.isList ?_)
 have hh:X.A.in1.handled=none:=I.ok.hd hc
 refine⟨s.heap.objs.size,_,_,_,_,_,fun i=>bs.getD i false,rfl,Walks.list hh s.heap.objs.size a (bg0 hlt) its.toArray,⟨⟨_,be1 _ rfl,rfl,rfl⟩,p.isList.push _⟩,?_,fun h' tk kp=>?_⟩
 ·intro i v s' Q' E' hP hQ'
  have hi:its[i]? = some v:=by simpa using hP
  have hil:i < bs.length:=by rw [hl]; exact (bc4.mp hi).1
  obtain ⟨u,e1,e2⟩:=rv.get (i:=i) (x:=.bl bs[i]) (by simp [hil])
  rw [hi] at e1; cases e1
  cases e2
  have:bs.getD i false=bs[i]:=by rw [bc7,bb9 hil]; rfl
  have hQ2:Q' (bs.getD i false) s':=hQ'
  rw [this] at hQ2
  exact bl0 hQ2
 ·have all_eq:(List.range its.toArray.size).all (fun i=>bs.getD i false)=bs.all id:=by
   rw [bb6,<- hl]
   clear q rv hz hl hq hlt p hh kp
   induction bs with
   | nil=>rfl
   | cons b r ih=>
    rw [be6,List.range_succ_eq_map,List.all_cons,List.all_map,List.all_cons,<- ih]
    rfl
  rw [all_eq]
  refine⟨.bl (bs.all id),H,I.kept (t':=tk) (h':=h') fun b o e=>kp b o (fun z=>?_) (bb7 _ e),rfl,q⟩
  rw [bc1.mp z] at e
  exact absurd (bd5 e) (bg6 _)
end
structure vN (H:Hp) (J:It) (n:Nat) (R:Nat->V->Hp->Prop):Prop where
 go:∀ i H',aD H H'->i < n->J.go i H'
 yld:∀ i H' x H2,aD H H'->J.yld i H' x H2->i < n->aD H' H2/\R i x H2
 stop:∀ H',aD H H'->J.stop n H'
theorem vO {H1:Hp}{J:It}{n:Nat}{R:Nat->V->Hp->Prop}{g:TG}{tc:TT}{te:TE}{σ0:St}{Q:VK} (O:vN H1 J n R) (Pv:Nat->List V->Hp->Prop) (hn:n<=sizeLine)
  (h0:∀ D,H1 D=none->Pv 0 [] (upd H1 D (.lst [])))
  (mono:∀ i acc H' H2,aD H' H2->Pv i acc H'->Pv i acc H2)
  (hs:∀ i x acc D H',i < n->R i x H'->qZ H1 D n i acc H'->Pv i acc H'->g x σ0 H' fun σ2 H3=>Wk σ0 σ2/\tc σ2 H3 fun b H4=>
   if b=true then te σ2 H4 fun v H5=>vC H1 D n Pv i acc v H5 else J1 H1 D n Pv i acc H4)
  (hd:∀ D acc H',H1 D=none->aD H1 H'->H' D=some (.lst acc)->acc.length<=n->Pv n acc H'->Q (.ref D) H') :
  ∀ D,H1 D=none->∃ W:Nat->Nat->List V->Hp->Prop,(∃ m,W 0 m [] (upd H1 D (.lst [])))/\oH g tc te σ0 J D Q W:=by
 intro D hD
 refine⟨CW H1 D n Pv,⟨n,rfl,bg8 _,bc5 _,bK hD _,bM,h0 D hD⟩,?_⟩
 rintro i m acc H' ⟨rfl,hi,ha,sm,hDa,p⟩
 refine⟨hDa,?_⟩
 by_cases hlt:i < n
 ·refine .inr ⟨O.go i H' sm hlt,fun x H2 y=>?_⟩
  obtain ⟨s2,r2⟩:=O.yld i H' x H2 sm y hlt
  exact hs i x acc D H2 hlt r2 ⟨hlt,ha,hn,sm.trans s2,hD,s2 _ _ hDa⟩ (mono i acc H' H2 s2 p)
 ·have e:i=n:=by omega
  subst e
  exact .inl ⟨O.stop H' sm,hd D acc H' hD sm hDa ha p⟩
theorem L6 {K:PySem.W.Frag}{H:Hp}{a b:Addr}{xs ys:List V} (ha:aR K H a xs) (hb:aR K H b ys) (hl:ys.length<=xs.length) :
  vN H (vK K a b) ys.length (fun i v H2=>∃ T x y,v = .ref T/\H2 T=some (.tup [x,y])/\xs[i]? = some x/\ys[i]? = some y):=by
 refine⟨fun i H' sm hi=>⟨xs,ys,xs[i]'(by omega),ys[i],sm.tup ha,sm.tup hb,by simp,by simp⟩,fun i H' v H2 sm y hi=>?_,fun H' sm=>⟨xs,ys,sm.tup ha,sm.tup hb,by omega⟩⟩
 obtain ⟨T,x,y',hT,hv,e,hxy⟩:=y
 subst e
 obtain ⟨h1,h2⟩:=hxy xs ys (sm.tup ha) (sm.tup hb)
 exact⟨bK hT _,T,x,y',hv,bM,h1,h2⟩
end L2
namespace HT
open PySem PyProof.Rows
section
variable {prog : Program} {w : World} {A : Around} {E : Value → Shared → Prop} {s : Shared}
theorem au6 {t sl:Addr}{items:Array Value}{vl vu:Value}{lo hi:Option Int}{Q:Value->Shared->Prop} (ht:IsTup s.heap t items) (hs:s.heap.IsSliceOf sl vl vu .none) (pl:IsPart vl lo) (pu:IsPart vu hi)
  (h1:aW items.size 0 lo=0) (h2:aW items.size items.size hi=items.size) (h:Q (.ref t) s):wpAny (model prog w) A (getItem (.ref t) (.ref sl)) Q E s:=by
 obtain ⟨o,e1,e2,e3⟩:=id hs
 have T:s.TypeIs (.ref sl) "slice":=⟨o,e1,e2⟩
 unfold getItem
 try with_reducible refine bm2 ?_
 first | refine bb5 (bc8 ?_) | skip
 apply bb5
 apply wpAny_sequenceKey ht.typeIs (by decide)
 apply bb5
 apply bj9 (name:=Str.ofString "__getitem__") ht.typeIs bn0
 apply bk6 bn0 ht.typeIs entry_tuple_getitem _ (args_tuple_getitem _ _)
 change wpAny _ _ (Builtin.Tuple.tupleItemsOf (.ref t) >>= _) _ _ s
 apply bb5
 apply tupleItemsOf_ ht
 apply bb5
 apply wpAny_typeOf T
 rw [if_pos (by decide)]
 apply bb5
 apply B8 hs pl pu
 rw [h1,h2]
 have yes:((((0:Nat):Int) == 0 && (1:Int) == 1 && (items.size - 0) == items.size)=true):=by simp
 change wpAny _ _ (if ((((0:Nat):Int) == 0 && (1:Int) == 1 && (items.size - 0) == items.size)=true) then _ else _) _ _ s
 rw [if_pos yes]
 apply bb5
 unfold Builtin.Tuple.tupleIsExact
 apply bb5
 apply wpAny_typeOf ht.typeIs
 apply bc8
 change wpAny _ _ (rule "tuple.getitem.whole" >>= fun _=>ret (Value.ref t)) _ _ s
 apply bb5
 apply wpAny_rule
 exact bc8 ⟨_,rfl,bc8 h⟩
end
end HT
namespace L2
open PySem PySem.Spec PyProof.Rows
section
variable {X : Cx}
noncomputable def au7 (K:PySem.W.Frag):V->Option Int->Option Int->Hp->VK->Prop:=fun x lo hi H Q=>∃ a xs,x = .ref a/\aR K H a xs/\(∀ p,H p=none->Q (.ref p) (upd H p (.tup (eQ xs lo hi))))/\(eQ xs lo hi=xs->Q (.ref a) H)
theorem L7:kH X (au7 X.K):=by
 intro pins s σ H x v vl vu lo hi sl Q I rx hs pl pu h
 obtain ⟨a,xs,ex,hx,q1,q2⟩:=h
 by_cases hw:HT.aW xs.length 0 lo=0/\HT.aW xs.length xs.length hi=xs.length
 ·subst ex
  cases rx
  obtain ⟨its,r,ht,hz⟩:=I.tuple hx
  have hlen:its.toArray.size=xs.length:=by rw [bb6]; exact r.length.symm
  refine⟨"tuple",_,PyProof.Rows.slot_tuple_getitem.lookup,ht.typeIs,?_⟩
  refine HT.au6 ht hs pl pu (by rw [hlen]; exact hw.1) (by rw [hlen]; exact hw.2) ⟨.ref a,H,I,rfl,q2 ?_⟩
  unfold eQ
  rw [hw.1,hw.2]
  simp
 ·exact an4 pins s σ H x v vl vu lo hi sl Q I rx hs pl pu ⟨a,xs,ex,hx,hw,q1⟩
end
theorem vP (xs:List V):eQ xs (some 1) none=xs.drop 1:=by
 unfold eQ
 have e1:HT.aW xs.length 0 (some 1)=min 1 xs.length:=HT.am5 xs.length 0 1
 have e2:HT.aW xs.length xs.length none=xs.length:=rfl
 rw [e1,e2]
 cases xs with
 | nil=>rfl
 | cons x r=>
  have:min 1 (x :: r).length=1:=by simp
  rw [this]
  simp
noncomputable def vQ (K:PySem.W.Frag) (a b:Addr):It:=
  ⟨fun i H=>∃ xs ys x y,aM K H a xs/\aM K H b ys/\xs[i]? = some x/\ys[i]? = some y,
   fun i H v H'=>∃ T x y,H T=none/\v = .ref T/\H'=upd H T (.tup [x,y])/\∀ xs ys,aM K H a xs->aM K H b ys->xs[i]? = some x/\ys[i]? = some y,
   fun i H=>∃ xs ys,aM K H a xs/\aM K H b ys/\(i=xs.length ∨ (i < xs.length/\i=ys.length))⟩
noncomputable abbrev au8:=vL false false
theorem au9 {P:Program}{w:World}{K:PySem.W.Frag}{elts:List Expr}{k:Nat}{pos:Pos} (a b z TI TO i1 i2:Addr) (d : [z,TI,TO,i1,i2].Nodup) :
  jL P w K (.Tuple elts k pos) (vQ K a b) [z,TI,TO,i1,i2] z (au8 z TI TO i1 i2 a b):=L5 false false a b z TI TO i1 i2 d
section
variable {X : Cx}
noncomputable def av0 (K:PySem.W.Frag) (ta:TA):TI:=fun σ H R=>ta σ H fun vs H1=>∃ a b xs ys,vs = [.ref a,.ref b]/\aM K H1 a xs/\aM K H1 b ys/\R (vQ K a b) H1
theorem av1 {elts:List Expr}{kt:Nat}{pt:Pos}{a b:Expr}{ta:TA}{p pos:Pos} (hg:Gl X "zip") (hm:X.mg "zip" = none) (ha:PA X [a,b] ta) (hs:starEach [a,b] X.env = [(false,eval a X.env),(false,eval b X.env)]:=by rfl) (hs2:starEach [b] X.env = [(false,eval b X.env)]:=by rfl) :
  PI X (.Tuple elts kt pt) (.Call (.Name "zip" p) [a,b] [] pos) (av0 X.K ta):=by
 intro pins s σ H R I h
 refine Call_ (jH I hg hm PyProof.Rows.boot_zip (bi3 (aQ (ha pos pins s σ H _ I h) fun us s1 ⟨vs,H1,I1,r1,q1⟩=>?_) (by rw [hs,hs2]) (by rw [hs2]; rfl)))
 obtain ⟨a',b',xs,ys,e,h1,h2,q⟩:=q1
 subst e
 cases r1 with
 | cons r rr=>
  cases rr with
  | cons r' rr=>
   cases rr
   cases r
   cases r'
   obtain ⟨us,_,p1,_⟩:=I1.list h1
   obtain ⟨ws,_,p2,_⟩:=I1.list h2
   refine call_zip_2 p1.isList p2.isList fun h' z ti to s1' s2' _ kp=>wpAny_pyIter_zip z ?_
   have fresh:∀ k,H1 (s1.heap.objs.size+k)=none:=fun k=>I1.hok.fresh (bj3 _ _)
   refine⟨s1.heap.objs.size+4,[s1.heap.objs.size+4,s1.heap.objs.size+2,s1.heap.objs.size+3,s1.heap.objs.size,s1.heap.objs.size+1],_,_,H1,rfl,I1.kept (t':=s1.toks) kp,
    au9 a' b' _ _ _ _ _ (by simp),⟨z,ti,⟨_,_,to⟩,s1',s2'⟩,fun c hc=>?_,q⟩
   simp only [bd0,bf1,bj8] at hc
   rcases hc with rfl | rfl | rfl | rfl | rfl
   ·exact I1.fpOk (bj3 _ _) (fresh 4)
   ·exact I1.fpOk (bj3 _ _) (fresh 2)
   ·exact I1.fpOk (bj3 _ _) (fresh 3)
   ·exact I1.fpOk (bc5 _) (fresh 0)
   ·exact I1.fpOk (bj3 _ _) (fresh 1)
end
theorem av2 {K:PySem.W.Frag}{H:Hp}{a b:Addr}{xs ys:List V} (ha:aM K H a xs) (hb:aM K H b ys) (hl:ys.length<=xs.length) :
  vN H (vQ K a b) ys.length (fun i v H2=>∃ T x y,v = .ref T/\H2 T=some (.tup [x,y])/\xs[i]? = some x/\ys[i]? = some y):=by
 refine⟨fun i H' sm hi=>⟨xs,ys,xs[i]'(by omega),ys[i],sm.seq ha,sm.seq hb,by simp,by simp⟩,fun i H' v H2 sm y hi=>?_,fun H' sm=>⟨xs,ys,sm.seq ha,sm.seq hb,by omega⟩⟩
 obtain ⟨T,x,y',hT,hv,e,hxy⟩:=y
 subst e
 obtain ⟨h1,h2⟩:=hxy xs ys (sm.seq ha) (sm.seq hb)
 exact⟨bK hT _,T,x,y',hv,bM,h1,h2⟩
theorem av3 (l:Addr) (items:Array Value) (n:Nat) (b:Addr) (items2:Array Value) (n2:Nat) (dd:Option Addr) (ss:Array (Option Value)) (h0 : ¬(!items.isEmpty && Builtin.List.listTooLong (items.size+items2.size))=true) (h1:items.size<=sizeLine) (h2:items.size+items2.size<=sizeLine+1) :
  Meets (Builtin.«list.extend» ⟨[.ref l,.ref b],[]⟩) (fun _ R s=>s.heap.get? l=some { cls:=.type "list",dict:=none,data:=.seq items n,slots:=#[] }/\s.heap.get? b=some { cls:=.type "tuple",dict:=dd,data:=.seq items2 n2,slots:=ss }/\R (.ok (.ret Value.none)) { s with heap:=s.heap.update l (Obj.mapSeq fun x=>x ++ items2),toks:=s.toks }):=
 .of_wp fun prog w A R s h=>by
  obtain ⟨hp,g,d,tk,os⟩:=s; obtain ⟨hl,hb,h⟩:=h; have f2:=AutoSeq1.sub_tuple_tuple; have f3:=AutoSeq1.sub_list_list; have f4:=AutoSeq1.sub_tuple_list; have f5:=AutoSeq1.sub_list_tuple
  have hz':(items ++ items2).size<=sizeLine+1:=by rw [Array.size_append]; exact h2
  wp_walk using (wpAny_updateSeq hl rfl (hz:=h1) (_hz':=hz')),AutoSeq1.wpAny_loadPart' hl,AutoSeq1.wpAny_loadPart' hb
  exact⟨_,rfl,h⟩
noncomputable def L8 (K:PySem.W.Frag):V->List V->Hp->VK->Prop:=fun x vs H Q=>∃ (l b:Addr) (xs zs:List V),x = .ref l/\vs = [.ref b]/\H l=some (.lst xs)/\aR K H b zs/\xs.length+zs.length<=sizeLine/\Q .non (upd H l (.lst (xs ++ zs)))
theorem av4 {X:Cx}:mH X "list.extend" (L8 X.K):=by
 intro pins s σ H x vs v us Q I rx rv h
 obtain ⟨l,b,xs,zs,rfl,rfl,hH,hB,hz,q⟩:=h
 cases rx
 obtain ⟨u,rfl,ru⟩:=rv.one
 cases ru
 obtain ⟨z,its,n,r,hl,e⟩:=I.lstM hH
 obtain ⟨its2,r2,⟨⟨cls,dd,data,ss⟩,e2,hc,n2,hd⟩,z2⟩:=I.tuple hB
 cases hc
 cases hd
 have hl2:=r2.length
 have hsz:its.toArray.size+its2.toArray.size<=sizeLine:=by rw [bb6,bb6]; omega
 have hlong : ¬ (!its.toArray.isEmpty && Builtin.List.listTooLong (its.toArray.size+its2.toArray.size))=true:=by
  rw [uP hsz,bm4]
  exact bd9
 refine call_meets F.slot_list_extend ⟨_,e,rfl⟩ F.entry_list_extend (F.args_list_extend_2 _ _)
  (av3 l its.toArray n b its2.toArray n2 dd ss hlong (by rw [bb6]; omega) (by omega)) ⟨e,e2,?_⟩
 refine⟨.non,_,I.lset (its':=its ++ its2) hH e (by simp) (r.append r2) ?_,rfl,q⟩
 rw [bd3]
 omega
end L2
namespace PP
open PySem L2
inductive PV where
 | non | bl (b:Bool) | int (i:Int) | str (x:Str) | tup (xs:List PV) | lst (xs:List PV)
 | dK (kvs:List (aJ × PV)) | dT (kvs:List (List aJ × PV)) | scr (ns:List Int) | kt (xs:List PV) | exc (c:Str) | fK (kvs:List (aJ × PV)) | fT (kvs:List (List aJ × PV))
mutual
noncomputable def flat:PV->Bool
 | .tup xs=>flats xs
 | .lst _=>false
 | .dK _=>false
 | .dT _=>false
 | .non=>true
 | .bl _=>true
 | .int _=>true
 | .str _=>true
 | .scr _=>true
 | .kt xs=>flats xs
 | .exc _=>true
 | .fK _=>false
 | .fT _=>false
noncomputable def flats:List PV->Bool
 | []=>true
 | x :: r=>flat x && flats r
end
noncomputable def jV (K:PySem.W.Frag) (H:Hp) (a:Addr) (ns:List Int):Prop:=(∃ o,H a=some (.frz o (.lst (ns.map V.int)))) ∨
  ∃ (o:Obj) (its:Array Value) (n:Nat),K.lookup a=some o/\o.cls = .type "list"/\o.dict=none/\o.data = .seq its n/\its.size<=sizeLine/\aN (ns.map V.int) its.toList
noncomputable def mO (K:PySem.W.Frag) (a:Addr) (us:List V):Prop:=∃ (o:Obj) (its:Array Value) (n:Nat),K.lookup a=some o/\o.cls = .type "tuple"/\o.data = .seq its n/\its.size<=sizeLine/\aN us its.toList
mutual
inductive aI (K:PySem.W.Frag) (M:Addr->Prop) (H:Hp):V->PV->Prop
 | non:aI K M H .non .non
 | bl (b:Bool):aI K M H (.bl b) (.bl b)
 | int (i:Int):aI K M H (.int i) (.int i)
 | str (x:Str):aI K M H (.str x) (.str x)
 | tup {a:Addr}{us:List V}{xs:List PV}:H a=some (.tup us)->Reps K M H us xs->aI K M H (.ref a) (.tup xs)
 | lst {a:Addr}{us:List V}{xs:List PV}:M a->H a=some (.lst us)->Reps K M H us xs->aI K M H (.ref a) (.lst xs)
 | dK {a:Addr}{kvs:List (aJ × V)}{ps:List (aJ × PV)}:M a->H a=some (.dK kvs)->kvs.map (·.1)=ps.map (·.1)->Reps K M H (kvs.map (·.2)) (ps.map (·.2))->aI K M H (.ref a) (.dK ps)
 | dT {a:Addr}{kvs:List (List aJ × V)}{ps:List (List aJ × PV)}:M a->H a=some (.dT kvs)->kvs.map (·.1)=ps.map (·.1)->Reps K M H (kvs.map (·.2)) (ps.map (·.2))->aI K M H (.ref a) (.dT ps)
 | scr {a:Addr}{ns:List Int}:jV K H a ns->aI K M H (.ref a) (.scr ns)
 | kt {a:Addr}{us:List V}{xs:List PV}:mO K a us->Reps K M H us xs->aI K M H (.ref a) (.kt xs)
 | exc {a C:Addr}{o:Obj}{c:Str}:H a=some (.frz o (.own a))->PySem.W.nsIn K mainGlobals c=some (some (.ref C))->o.cls = .ref C->aI K M H (.ref a) (.exc c)
 | fK {a:Addr}{o:Obj}{kvs:List (aJ × V)}{ps:List (aJ × PV)}:H a=some (.frz o (.dK kvs))->kvs.map (·.1)=ps.map (·.1)->Reps K M H (kvs.map (·.2)) (ps.map (·.2))->aI K M H (.ref a) (.fK ps)
 | fT {a:Addr}{o:Obj}{kvs:List (List aJ × V)}{ps:List (List aJ × PV)}:H a=some (.frz o (.dT kvs))->kvs.map (·.1)=ps.map (·.1)->Reps K M H (kvs.map (·.2)) (ps.map (·.2))->aI K M H (.ref a) (.fT ps)
inductive Reps (K:PySem.W.Frag) (M:Addr->Prop) (H:Hp):List V->List PV->Prop
 | nil:Reps K M H [] []
 | cons {v:V}{x:PV}{vs:List V}{xs:List PV}:aI K M H v x->Reps K M H vs xs->Reps K M H (v :: vs) (x :: xs)
end
structure iD (M M':Addr->Prop) (H H':Hp):Prop where
 lst:∀ a us,M a->H a=some (.lst us)->M' a/\H' a=some (.lst us)
 dK:∀ a kvs,M a->H a=some (.dK kvs)->M' a/\H' a=some (.dK kvs)
 dT:∀ a kvs,M a->H a=some (.dT kvs)->M' a/\H' a=some (.dT kvs)
 tup:∀ a us,H a=some (.tup us)->H' a=some (.tup us)
 frz:∀ a o u,H a=some (.frz o u)->H' a=some (.frz o u)
theorem jV.keep {K:PySem.W.Frag}{H H':Hp}{a:Addr}{ns:List Int} (k:∀ a o u,H a=some (.frz o u)->H' a=some (.frz o u)) (h:jV K H a ns):jV K H' a ns:=
 h.elim (fun ⟨o,e⟩=>.inl ⟨o,k _ _ _ e⟩) .inr
mutual
theorem aI.keep {K:PySem.W.Frag}{M M':Addr->Prop}{H H':Hp} (k:iD M M' H H'):∀ {v:V}{x:PV},aI K M H v x->aI K M' H' v x
 | _,_,.non=>.non
 | _,_,.bl b=>.bl b
 | _,_,.int i=>.int i
 | _,_,.str x=>.str x
 | _,_,.tup h r=>.tup (k.tup _ _ h) (Reps.keep k r)
 | _,_,.lst m h r=>.lst (k.lst _ _ m h).1 (k.lst _ _ m h).2 (Reps.keep k r)
 | _,_,.dK m h e r=>.dK (k.dK _ _ m h).1 (k.dK _ _ m h).2 e (Reps.keep k r)
 | _,_,.dT m h e r=>.dT (k.dT _ _ m h).1 (k.dT _ _ m h).2 e (Reps.keep k r)
 | _,_,.scr h=>.scr (h.keep k.frz)
 | _,_,.kt h r=>.kt h (Reps.keep k r)
 | _,_,.exc h e c=>.exc (k.frz _ _ _ h) e c
 | _,_,.fK h e r=>.fK (k.frz _ _ _ h) e (Reps.keep k r)
 | _,_,.fT h e r=>.fT (k.frz _ _ _ h) e (Reps.keep k r)
theorem Reps.keep {K:PySem.W.Frag}{M M':Addr->Prop}{H H':Hp} (k:iD M M' H H'):∀ {vs:List V}{xs:List PV},Reps K M H vs xs->Reps K M' H' vs xs
 | _,_,.nil=>.nil
 | _,_,.cons r t=>.cons (aI.keep k r) (Reps.keep k t)
end
mutual
theorem aI.flat {K:PySem.W.Frag}{M M':Addr->Prop}{H:Hp}{v:V}{x:PV} (f:flat x=true) (r:aI K M H v x):aI K M' H v x:=by
 cases r with
 | non=>exact .non
 | bl b=>exact .bl b
 | int i=>exact .int i
 | str x=>exact .str x
 | tup h r=>exact .tup h (Reps.flat (by unfold PP.flat at f; exact f) r)
 | lst m h r=>unfold PP.flat at f; cases f
 | dK m h e r=>unfold PP.flat at f; cases f
 | dT m h e r=>unfold PP.flat at f; cases f
 | scr h=>exact .scr h
 | kt h r=>exact .kt h (Reps.flat (by unfold PP.flat at f; exact f) r)
 | exc h e c=>exact .exc h e c
 | fK h e r=>unfold PP.flat at f; cases f
 | fT h e r=>unfold PP.flat at f; cases f
theorem Reps.flat {K:PySem.W.Frag}{M M':Addr->Prop}{H:Hp}{vs:List V}{xs:List PV} (f:flats xs=true) (r:Reps K M H vs xs):Reps K M' H vs xs:=by
 cases r with
 | nil=>exact .nil
 | cons r t=>
  unfold PP.flats at f
  rw [bg2] at f
  exact .cons (aI.flat f.1 r) (Reps.flat f.2 t)
end
theorem iD.same {M M':Addr->Prop}{H H':Hp} (s:aD H H') (m:∀ a,M a->M' a):iD M M' H H':=
 ⟨fun a _ h e=>⟨m a h,s _ _ e⟩,fun a _ h e=>⟨m a h,s _ _ e⟩,fun a _ h e=>⟨m a h,s _ _ e⟩,fun _ _ e=>s _ _ e,fun _ _ _ e=>s _ _ e⟩
theorem aI.same {K:PySem.W.Frag}{M M':Addr->Prop}{H H':Hp}{v:V}{x:PV} (r:aI K M H v x) (s:aD H H') (m:∀ a,M a->M' a):aI K M' H' v x:=r.keep (.same s m)
theorem Reps.same {K:PySem.W.Frag}{M M':Addr->Prop}{H H':Hp}{v:List V}{x:List PV} (r:Reps K M H v x) (s:aD H H') (m:∀ a,M a->M' a):Reps K M' H' v x:=r.keep (.same s m)
noncomputable def jW:HO->Bool
 | .lst _=>true
 | .dK _=>true
 | .dT _=>true
 | _=>false
theorem iD.upd {M M':Addr->Prop}{H:Hp}{a:Addr}{o o':HO} (h:H a=some o') (mu:jW o'=true) (m:∀ b,M b->b ≠ a/\M' b):iD M M' H (upd H a o):=
 ⟨fun b _ hb e=>⟨(m b hb).2,by rw [b7 (m b hb).1]; exact e⟩,fun b _ hb e=>⟨(m b hb).2,by rw [b7 (m b hb).1]; exact e⟩,fun b _ hb e=>⟨(m b hb).2,by rw [b7 (m b hb).1]; exact e⟩,
  fun b _ e=>by rw [b7 (fun z=>by rw [z,h] at e; cases e; cases mu)]; exact e,
  fun b _ _ e=>by rw [b7 (fun z=>by rw [z,h] at e; cases e; cases mu)]; exact e⟩
theorem Reps.length {K:PySem.W.Frag}{M:Addr->Prop}{H:Hp}:∀ {vs:List V}{xs:List PV},Reps K M H vs xs->vs.length=xs.length
 | _,_,.nil=>rfl
 | _,_,.cons _ t=>congrArg (· + 1) t.length
theorem Reps.get {K:PySem.W.Frag}{M:Addr->Prop}{H:Hp}:∀ {vs:List V}{xs:List PV}{i:Nat}{v:V},Reps K M H vs xs->vs[i]? = some v->∃ x,xs[i]? = some x/\aI K M H v x
 | _,_,_,_,.nil,e=>by simp at e
 | _,_,0,_,.cons r _,e=>by simp at e; subst e; exact⟨_,rfl,r⟩
 | _,_,i+1,v,.cons _ t,e=>by
  rw [bk0] at e
  obtain ⟨x,h1,h2⟩:=t.get e
  exact⟨x,by rw [bk0]; exact h1,h2⟩
theorem Reps.at {K:PySem.W.Frag}{M:Addr->Prop}{H:Hp}:∀ {vs:List V}{xs:List PV}{i:Nat}{x:PV},Reps K M H vs xs->xs[i]? = some x->∃ v,vs[i]? = some v/\aI K M H v x
 | _,_,_,_,.nil,e=>by simp at e
 | _,_,0,_,.cons r _,e=>by simp at e; subst e; exact⟨_,rfl,r⟩
 | _,_,i+1,v,.cons _ t,e=>by
  rw [bk0] at e
  obtain ⟨x,h1,h2⟩:=t.at e
  exact⟨x,by rw [bk0]; exact h1,h2⟩
theorem Reps.append {K:PySem.W.Frag}{M:Addr->Prop}{H:Hp}:∀ {vs:List V}{xs:List PV}{us:List V}{ys:List PV},Reps K M H vs xs->Reps K M H us ys->Reps K M H (vs ++ us) (xs ++ ys)
 | _,_,_,_,.nil,s=>s
 | _,_,_,_,.cons r t,s=>.cons r (t.append s)
theorem Reps.set {K:PySem.W.Frag}{M:Addr->Prop}{H:Hp}{v:V}{x:PV} (q:aI K M H v x):∀ (i:Nat) {vs:List V}{xs:List PV},Reps K M H vs xs->Reps K M H (vs.set i v) (xs.set i x)
 | _,_,_,.nil=>.nil
 | 0,_,_,.cons r t=>.cons q t
 | i+1,_,_,.cons r t=>.cons r (Reps.set q i t)
theorem Reps.take {K:PySem.W.Frag}{M:Addr->Prop}{H:Hp}:∀ (n:Nat) {vs:List V}{xs:List PV},Reps K M H vs xs->Reps K M H (vs.take n) (xs.take n)
 | 0,_,_,_=>by simp; exact .nil
 | _+1,_,_,.nil=>.nil
 | n+1,_,_,.cons r t=>.cons r (Reps.take n t)
theorem Reps.drop {K:PySem.W.Frag}{M:Addr->Prop}{H:Hp}:∀ (n:Nat) {vs:List V}{xs:List PV},Reps K M H vs xs->Reps K M H (vs.drop n) (xs.drop n)
 | 0,_,_,r=>r
 | _+1,_,_,.nil=>.nil
 | n+1,_,_,.cons _ t=>Reps.drop n t
noncomputable abbrev intz (ns:List Int):List PV:=ns.map PV.int
theorem Reps.intz {K:PySem.W.Frag}{M:Addr->Prop}{H:Hp}:∀ (ns:List Int),Reps K M H (ns.map V.int) (intz ns)
 | []=>.nil
 | n :: r=>.cons (.int n) (Reps.intz r)
theorem Reps.ofInts {K:PySem.W.Frag}{M:Addr->Prop}{H:Hp}:∀ {ns:List Int}{us:List V},Reps K M H us (PP.intz ns)->us=ns.map V.int
 | [],_,.nil=>rfl
 | n :: r,_,.cons q t=>by
  cases q
  rw [Reps.ofInts t]; rfl
theorem eF:∀ (ns:List Int),flats (intz ns)=true
 | []=>rfl
 | n :: r=>by show (flat (.int n) && flats (intz r))=true; rw [eF r]; rfl
inductive Tg | rd | sh | nw | fr
inductive Slot | sh (g:Bool) (x:PV) | own (x:PV)
noncomputable def Slot.val:Slot->PV
 | .sh _ x=>x
 | .own x=>x
noncomputable def Slot.tag:Slot->Tg
 | .sh true _=>.nw
 | .sh false _=>.sh
 | .own _=>.rd
noncomputable abbrev bJ:=List (Option Slot)
noncomputable def Ms (H0:Hp) (W:Addr->Prop):Bool->Addr->Prop
 | false,a=>¬ W a
 | true,a=>¬ W a/\H0 a=none
noncomputable def Mg (H0:Hp) (W:Addr->Prop) (Hs:Hp):Tg->Addr->Prop
 | .rd,_=>True
 | .sh,a=>¬ W a
 | .nw,a=>¬ W a/\H0 a=none
 | .fr,a=>Hs a=none
noncomputable def iE (K:PySem.W.Frag) (M:Addr->Prop) (H:Hp) (a:Addr):PV->Prop
 | .lst xs=>∃ us,H a=some (.lst us)/\Reps K M H us xs
 | .dK ps=>∃ kvs,H a=some (.dK kvs)/\kvs.map (·.1)=ps.map (·.1)/\Reps K M H (kvs.map (·.2)) (ps.map (·.2))
 | .dT ps=>∃ kvs,H a=some (.dT kvs)/\kvs.map (·.1)=ps.map (·.1)/\Reps K M H (kvs.map (·.2)) (ps.map (·.2))
 | _=>False
noncomputable def L9 (K:PySem.W.Frag) (H0:Hp) (W:Addr->Prop) (H:Hp) (v:V):Slot->Prop
 | .sh g x=>aI K (Ms H0 W g) H v x
 | .own x=>∃ a,v = .ref a/\W a/\iE K (Ms H0 W true) H a x
structure PX (K:PySem.W.Frag) (H0:Hp) (W:Addr->Prop) (σ:St) (ρ:bJ) (H:Hp):Prop where
 len:ρ.length=σ.length
 same:aD H0 H
 wm:∀ a,W a->H0 a=none/\∃ o,H a=some o/\jW o=true
 sl:∀ (i:Nat) (m:Slot),ρ[i]? = some (some m)->∃ v,σ[i]? = some (some v)/\L9 K H0 W H v m
 dis:∀ (i j:Nat) (x y:PV) (a:Addr),ρ[i]? = some (some (.own x))->ρ[j]? = some (some (.own y))->σ[i]? = some (some (.ref a))->σ[j]? = some (some (.ref a))->i=j
theorem iE.keep {K:PySem.W.Frag}{M M':Addr->Prop}{H H':Hp}{a:Addr} (k:iD M M' H H') (ha:∀ o,H a=some o->H' a=some o):∀ {x:PV},iE K M H a x->iE K M' H' a x
 | .lst _,⟨us,e,r⟩=>⟨us,ha _ e,r.keep k⟩
 | .dK _,⟨us,e,q,r⟩=>⟨us,ha _ e,q,r.keep k⟩
 | .dT _,⟨us,e,q,r⟩=>⟨us,ha _ e,q,r.keep k⟩
theorem iE.at {K:PySem.W.Frag}{M:Addr->Prop}{H:Hp}{a:Addr}:∀ {x:PV},iE K M H a x->∃ o,H a=some o/\jW o=true
 | .lst _,⟨us,e,r⟩=>⟨_,e,rfl⟩
 | .dK _,⟨us,e,q,r⟩=>⟨_,e,rfl⟩
 | .dT _,⟨us,e,q,r⟩=>⟨_,e,rfl⟩
theorem iE.rep {K:PySem.W.Frag}{M M':Addr->Prop}{H:Hp}{a:Addr} (m:∀ b,M b->M' b) (ha:M' a):∀ {x:PV},iE K M H a x->aI K M' H (.ref a) x
 | .lst _,⟨us,e,r⟩=>.lst ha e (r.same (aD.refl _) m)
 | .dK _,⟨us,e,q,r⟩=>.dK ha e q (r.same (aD.refl _) m)
 | .dT _,⟨us,e,q,r⟩=>.dT ha e q (r.same (aD.refl _) m)
section
variable {K : PySem.W.Frag} {H0 : Hp} {W W' : Addr → Prop} {σ : St} {ρ : bJ} {H H' : Hp}
theorem PX.mono (p:PX K H0 W σ ρ H) (s:aD H H'):PX K H0 W σ ρ H':=by
 refine⟨p.len,p.same.trans s,fun a h=>⟨(p.wm a h).1,let ⟨o,e,m⟩:=(p.wm a h).2; ⟨o,s _ _ e,m⟩⟩,fun i m h=>?_,p.dis⟩
 obtain ⟨v,e,r⟩:=p.sl i m h
 refine⟨v,e,?_⟩
 cases m with
 | sh g x=>exact aI.same r s fun _ z=>z
 | own x=>
  obtain ⟨a,e1,e2,r⟩:=r
  exact⟨a,e1,e2,r.keep (.same s fun _ z=>z) fun _ z=>s _ _ z⟩
theorem PX.new (p:PX K H0 W σ ρ H) {a:Addr} (h:H a=none) : ¬ W a/\H0 a=none:=
 ⟨fun z=>(by obtain ⟨_,o,e,_⟩:=p.wm a z; rw [h] at e; cases e),p.same.free h⟩
theorem Mg.back {g:Tg}{H1:Hp} (s:aD H H1) {a:Addr} (h:Mg H0 W H1 g a):Mg H0 W H g a:=by
 cases g with
 | fr=>exact s.free h
 | rd=>exact h
 | sh=>exact h
 | nw=>exact h
end
noncomputable abbrev PK:=PV->Tg->Prop
noncomputable abbrev aF:=bJ->PK->Prop
noncomputable abbrev cN:=bJ->(Bool->Prop)->Prop
noncomputable abbrev cO:=bJ->(List (PV × Tg)->Prop)->Prop
inductive i3 (K:PySem.W.Frag) (H0:Hp) (W:Addr->Prop) (Hs H:Hp):List V->List (PV × Tg)->Prop
 | nil:i3 K H0 W Hs H [] []
 | cons {v:V}{x:PV}{g:Tg}{vs:List V}{xs:List (PV × Tg)}:aI K (Mg H0 W Hs g) H v x->i3 K H0 W Hs H vs xs->i3 K H0 W Hs H (v :: vs) ((x,g) :: xs)
noncomputable def rD (K:PySem.W.Frag) (H0:Hp) (W:Addr->Prop) (H:Hp) (Q:PK) (Q':VK):Prop:=∀ v H' x g,aD H H'->aI K (Mg H0 W H g) H' v x->Q x g->Q' v H'
noncomputable def LE (X:Cx) (t:aF):TE:=fun σ H Q'=>∃ (W:Addr->Prop) (ρ:bJ) (Q:PK),PX X.K X.H₀ W σ ρ H/\t ρ Q/\rD X.K X.H₀ W H Q Q'
noncomputable def LT (X:Cx) (t:cN):TT:=fun σ H Q'=>∃ (W:Addr->Prop) (ρ:bJ) (Q:Bool->Prop),PX X.K X.H₀ W σ ρ H/\t ρ Q/\∀ b H',aD H H'->Q b->Q' b H'
noncomputable def LA (X:Cx) (t:cO):TA:=fun σ H Q'=>∃ (W:Addr->Prop) (ρ:bJ) (Q:List (PV × Tg)->Prop),PX X.K X.H₀ W σ ρ H/\t ρ Q/\∀ vs H' xs,aD H H'->i3 X.K X.H₀ W H H' vs xs->Q xs->Q' vs H'
theorem i3.same {K:PySem.W.Frag}{H0:Hp}{W:Addr->Prop}{Hs Hs' H H':Hp} (s:aD H H') (b:aD Hs' Hs):∀ {vs:List V}{xs:List (PV × Tg)},i3 K H0 W Hs H vs xs->i3 K H0 W Hs' H' vs xs
 | _,_,.nil=>.nil
 | _,_,.cons r t=>.cons (r.same s fun _ z=>Mg.back b z) (t.same s b)
theorem i3.any {K:PySem.W.Frag}{H0:Hp}{W:Addr->Prop}{Hs H:Hp}:∀ {vs:List V}{xs:List (PV × Tg)},i3 K H0 W Hs H vs xs->Reps K (fun _=>True) H vs (xs.map (·.1))
 | _,_,.nil=>.nil
 | _,_,.cons r t=>.cons (r.same (aD.refl _) fun _ _=>trivial) t.any
noncomputable def Nw:Tg->PV->Prop
 | .fr,_=>True
 | .nw,_=>True
 | _,x=>flat x=true
noncomputable def jX (xs:List (PV × Tg)):Prop:=∀ p ∈ xs,Nw p.2 p.1
section
variable {K : PySem.W.Frag} {H0 Hs H : Hp} {W : Addr → Prop} {σ : St} {ρ : bJ}
theorem Nw.rep {g:Tg}{x:PV}{v:V} (px:PX K H0 W σ ρ Hs) (n:Nw g x) (r:aI K (Mg H0 W Hs g) H v x):aI K (Ms H0 W true) H v x:=by
 cases g with
 | fr=>exact r.same (aD.refl _) fun a z=>px.new z
 | nw=>exact r.same (aD.refl _) fun a z=>z
 | sh=>exact r.flat n
 | rd=>exact r.flat n
theorem jX.reps {vs:List V}:∀ {xs:List (PV × Tg)}{vs:List V},PX K H0 W σ ρ Hs->jX xs->i3 K H0 W Hs H vs xs->Reps K (Ms H0 W true) H vs (xs.map (·.1))
 | _,_,px,n,.nil=>.nil
 | _,_,px,n,.cons r t=>.cons (Nw.rep px (n _ bc6) r) (jX.reps (vs:=vs) px (fun p hp=>n p (bd4 _ hp)) t)
theorem M0 {v:V}{m:Slot} (r:L9 K H0 W H v m):aI K (Mg H0 W Hs m.tag) H v m.val:=by
 cases m with
 | sh g x=>
  cases g with
  | true=>exact aI.same r (aD.refl _) fun _ z=>z
  | false=>exact aI.same r (aD.refl _) fun _ z=>z
 | own x=>
  obtain ⟨a,rfl,_,r⟩:=r
  exact r.rep (fun _ _=>trivial) trivial
end
section
variable {X : Cx} {σ : St} {H : Hp} {Q' : VK} {ta tb : aF}
noncomputable def a5 (i:Nat):aF:=fun ρ Q=>∃ m,ρ[i]? = some (some m)/\Q m.val m.tag
noncomputable def qC (x:PV):aF:=fun _ Q=>Q x .fr
theorem av5 {i:Nat} (h:LE X (a5 i) σ H Q'):iQ i σ H Q':=by
 obtain ⟨W,ρ,Q,px,⟨m,e,q⟩,k⟩:=h
 obtain ⟨v,ev,r⟩:=px.sl i m e
 exact⟨v,ev,k v H _ _ (aD.refl _) (M0 r) q⟩
theorem rE {x:PV}{v:V} (hr:∀ M,aI X.K M H v x) (h:LE X (qC x) σ H Q'):tC v σ H Q':=by
 obtain ⟨W,ρ,Q,px,q,k⟩:=h
 exact k v H _ _ (aD.refl _) (hr _) q
noncomputable def eS (X:Cx) (R:PV->Tg->PV->Tg->PK->Prop) (r:R2):Prop:=∀ (W:Addr->Prop) (Hs H:Hp) (u v:V) (x y:PV) (g g':Tg) (Q:PK) (Q':VK),aD Hs H->
 (∀ a,Hs a=none->¬ W a/\X.H₀ a=none)->aI X.K (Mg X.H₀ W Hs g) H u x->aI X.K (Mg X.H₀ W Hs g') H v y->R x g y g' Q->(∀ w H' z gz,aD H H'->aI X.K (Mg X.H₀ W Hs gz) H' w z->Q z gz->Q' w H')->r u v H Q'
noncomputable def q2 (R:PV->Tg->PV->Tg->PK->Prop) (ta tb:aF):aF:=fun ρ Q=>ta ρ fun x g=>tb ρ fun y g'=>R x g y g' Q
theorem rF {R:PV->Tg->PV->Tg->PK->Prop}{r:R2} (c:eS X R r) (h:LE X (q2 R ta tb) σ H Q'):nZ r (LE X ta) (LE X tb) σ H Q':=by
 obtain ⟨W,ρ,Q,px,q,k⟩:=h
 refine⟨W,ρ,_,px,q,fun u H1 x g s1 r1 q1=>⟨W,ρ,_,px.mono s1,q1,fun v H2 y g' s2 r2 q2=>?_⟩⟩
 exact c W H H2 u v x y g g' Q Q' (s1.trans s2) (fun a z=>px.new z) (r1.same s2 fun _ z=>z) (r2.same (aD.refl _) fun _ z=>Mg.back s1 z) q2 fun w H' z gz s3 r3 q3=>k w H' z gz ((s1.trans s2).trans s3) r3 q3
noncomputable def RI (C:Int->Int->Prop) (f:Int->Int->PV):PV->Tg->PV->Tg->PK->Prop:=fun x _ y _ Q=>∃ i j,x = .int i/\y = .int j/\C i j/\Q (f i j) .fr
noncomputable def eG (f:Int->Int->PV):PV->Tg->PV->Tg->PK->Prop:=fun x _ y _ Q=>∃ i j,x = .int i/\y = .int j/\Q (f i j) .fr
theorem rG {C:Int->Int->Prop}{f:Int->Int->Int}:eS X (RI C fun i j=>.int (f i j)) (rI C fun i j=>.int (f i j)):=by
 rintro W Hs H u v x y g g' Q Q' s n r1 r2 ⟨i,j,rfl,rfl,c,q⟩ k
 cases r1; cases r2
 exact⟨i,j,rfl,rfl,c,k _ _ _ _ (aD.refl _) (.int _) q⟩
theorem M1 {f:Int->Int->Int}:eS X (eG fun i j=>.int (f i j)) (iR fun i j=>.int (f i j)):=by
 rintro W Hs H u v x y g g' Q Q' s n r1 r2 ⟨i,j,rfl,rfl,q⟩ k
 cases r1; cases r2
 exact⟨i,j,rfl,rfl,k _ _ _ _ (aD.refl _) (.int _) q⟩
theorem kL {f:Int->Int->Bool}:eS X (eG fun i j=>.bl (f i j)) (iR fun i j=>.bl (f i j)):=by
 rintro W Hs H u v x y g g' Q Q' s n r1 r2 ⟨i,j,rfl,rfl,q⟩ k
 cases r1; cases r2
 exact⟨i,j,rfl,rfl,k _ _ _ _ (aD.refl _) (.bl _) q⟩
noncomputable def lO (neg:Bool):PV->Tg->PV->Tg->PK->Prop:=fun x _ y _ Q=>(∃ i j,x = .int i/\y = .int j/\Q (.bl (if neg=true then !decide (i=j) else decide (i=j))) .fr) ∨ (∃ i j,x = .bl i/\y = .bl j/\Q (.bl (if neg=true then !decide (i=j) else decide (i=j))) .fr)
theorem M3 (i j:Int):decide (V.int i=V.int j)=decide (i=j):=by
 rw [bk3,bm6,bm6]; exact⟨fun z=>V.int.inj z,fun z=>congrArg V.int z⟩
theorem M4 (i j:Bool):decide (V.bl i=V.bl j)=decide (i=j):=by
 rw [bk3,bm6,bm6]; exact⟨fun z=>V.bl.inj z,fun z=>congrArg V.bl z⟩
theorem M5:eS X (lO false) u6:=by
 rintro W Hs H u v x y g g' Q Q' s n r1 r2 (⟨i,j,rfl,rfl,q⟩ | ⟨i,j,rfl,rfl,q⟩) k
 ·cases r1; cases r2
  exact⟨rfl,by rw [M3]; exact k _ _ _ _ (aD.refl _) (.bl _) q⟩
 ·cases r1; cases r2
  exact⟨rfl,by rw [M4]; exact k _ _ _ _ (aD.refl _) (.bl _) q⟩
theorem av6:eS X (lO true) u7:=by
 rintro W Hs H u v x y g g' Q Q' s n r1 r2 (⟨i,j,rfl,rfl,q⟩ | ⟨i,j,rfl,rfl,q⟩) k
 ·cases r1; cases r2
  exact⟨rfl,by rw [M3]; exact k _ _ _ _ (aD.refl _) (.bl _) q⟩
 ·cases r1; cases r2
  exact⟨rfl,by rw [M4]; exact k _ _ _ _ (aD.refl _) (.bl _) q⟩
noncomputable def b9 (t:aF):cN:=fun ρ Q=>t ρ fun x _=>∃ b,x = .bl b/\Q b
theorem rH {t:aF}{Q':Bool->Hp->Prop} (h:LT X (b9 t) σ H Q'):LE X t σ H fun x H'=>∃ k,x = .bl k/\Q' k H':=by
 obtain ⟨W,ρ,Q,px,q,k⟩:=h
 refine⟨W,ρ,_,px,q,?_⟩
 rintro v H1 x g s r ⟨b,rfl,q⟩
 cases r
 exact⟨b,rfl,k _ _ s q⟩
noncomputable def rJ (t u:cN):cN:=fun ρ Q=>t ρ fun c=>if c=true then u ρ Q else Q false
noncomputable def mP (t u:cN):cN:=fun ρ Q=>t ρ fun c=>if c=true then Q true else u ρ Q
noncomputable def lP (t:cN):cN:=fun ρ Q=>t ρ fun c=>Q (!c)
variable {t u : cN} {Qb : Bool → Hp → Prop}
theorem av7 (h:LT X (rJ t u) σ H Qb):zD (LT X t) (LT X u) σ H Qb:=by
 obtain ⟨W,ρ,Q,px,q,k⟩:=h
 refine⟨W,ρ,_,px,q,fun b H1 s1 q1=>?_⟩
 cases b with
 | true=>exact bD ⟨W,ρ,Q,px.mono s1,by simpa using q1,fun b H2 s2 q2=>k _ _ (s1.trans s2) q2⟩
 | false=>exact bB (k _ _ s1 (by simpa using q1))
theorem av8 (h:LT X (mP t u) σ H Qb):zE (LT X t) (LT X u) σ H Qb:=by
 obtain ⟨W,ρ,Q,px,q,k⟩:=h
 refine⟨W,ρ,_,px,q,fun b H1 s1 q1=>?_⟩
 cases b with
 | false=>exact bB ⟨W,ρ,Q,px.mono s1,by simpa using q1,fun b H2 s2 q2=>k _ _ (s1.trans s2) q2⟩
 | true=>exact bD (k _ _ s1 (by simpa using q1))
theorem av9 (h:LT X (lP t) σ H Qb):zF (LT X t) σ H Qb:=by
 obtain ⟨W,ρ,Q,px,q,k⟩:=h
 exact⟨W,ρ,_,px,q,fun b H1 s1 q1=>k _ _ s1 q1⟩
noncomputable def kM (ta tb:aF):aF:=fun ρ Q=>ta ρ fun x _=>∃ c,x = .bl c/\if c=true then tb ρ Q else Q (.bl false) .fr
noncomputable def rK (ta tb:aF):aF:=fun ρ Q=>ta ρ fun x _=>∃ c,x = .bl c/\if c=true then Q (.bl true) .fr else tb ρ Q
noncomputable def vR (ta:aF):aF:=fun ρ Q=>ta ρ fun x _=>∃ c,x = .bl c/\Q (.bl (!c)) .fr
theorem rD.back {K:PySem.W.Frag}{H0:Hp}{W:Addr->Prop}{H H1:Hp}{Q:PK} (k:rD K H0 W H Q Q') (s:aD H H1):rD K H0 W H1 Q Q':=fun v H' x g s' r q=>k v H' x g (s.trans s') (r.same (aD.refl _) fun _ z=>Mg.back s z) q
theorem aw0 (h:LE X (kM ta tb) σ H Q'):zG (LE X ta) (LE X tb) σ H Q':=by
 obtain ⟨W,ρ,Q,px,q,k⟩:=h
 refine⟨W,ρ,_,px,q,?_⟩
 rintro v H1 x g s1 r ⟨c,rfl,q⟩
 cases r
 refine⟨c,rfl,?_⟩
 cases c with
 | true=>exact bD ⟨W,ρ,Q,px.mono s1,by simpa using q,k.back s1⟩
 | false=>exact bB (k _ _ _ _ s1 (.bl _) (by simpa using q))
theorem aw1 (h:LE X (rK ta tb) σ H Q'):zH (LE X ta) (LE X tb) σ H Q':=by
 obtain ⟨W,ρ,Q,px,q,k⟩:=h
 refine⟨W,ρ,_,px,q,?_⟩
 rintro v H1 x g s1 r ⟨c,rfl,q⟩
 cases r
 refine⟨c,rfl,?_⟩
 cases c with
 | false=>exact bB ⟨W,ρ,Q,px.mono s1,by simpa using q,k.back s1⟩
 | true=>exact bD (k _ _ _ _ s1 (.bl _) (by simpa using q))
theorem aw2 (h:LE X (vR ta) σ H Q'):zI (LE X ta) σ H Q':=by
 obtain ⟨W,ρ,Q,px,q,k⟩:=h
 refine⟨W,ρ,_,px,q,?_⟩
 rintro v H1 x g s1 r ⟨c,rfl,q⟩
 cases r
 exact⟨c,rfl,k _ _ _ _ s1 (.bl _) q⟩
noncomputable def a9:cO:=fun _ Q=>Q []
noncomputable def a6 (te:aF) (tr:cO):cO:=fun ρ Q=>te ρ fun x g=>tr ρ fun xs=>Q ((x,g) :: xs)
variable {Qa : List V → Hp → Prop} {tr : cO}
theorem aw3 (h:LA X a9 σ H Qa):kG σ H Qa:=by
 obtain ⟨W,ρ,Q,px,q,k⟩:=h
 exact k _ _ _ (aD.refl _) .nil q
theorem aw4 (h:LA X (a6 ta tr) σ H Qa):iS (LE X ta) (LA X tr) σ H Qa:=by
 obtain ⟨W,ρ,Q,px,q,k⟩:=h
 refine⟨W,ρ,_,px,q,fun v H1 x g s1 r1 q1=>⟨W,ρ,_,px.mono s1,q1,fun vs H2 xs s2 r2 q2=>?_⟩⟩
 exact k _ _ _ (s1.trans s2) (.cons (r1.same s2 fun _ z=>z) (r2.same (aD.refl _) s1)) q2
noncomputable def vS (t:cO):aF:=fun ρ Q=>t ρ fun xs=>xs.length<=1000/\jX xs/\Q (.tup (xs.map (·.1))) .nw
noncomputable def dJ (t:cO):aF:=fun ρ Q=>t ρ fun xs=>xs.length<=1000/\flats (xs.map (·.1))=true/\Q (.tup (xs.map (·.1))) .fr
noncomputable def dL (t:cO):aF:=fun ρ Q=>t ρ fun xs=>xs.length<=1000/\flats (xs.map (·.1))=true/\Q (.lst (xs.map (·.1))) .fr
theorem i3.length {K:PySem.W.Frag}{H0:Hp}{W:Addr->Prop}{Hs H:Hp}:∀ {vs:List V}{xs:List (PV × Tg)},i3 K H0 W Hs H vs xs->vs.length=xs.length
 | _,_,.nil=>rfl
 | _,_,.cons _ t=>congrArg (· + 1) t.length
theorem oO {n:Nat} (h:n<=1000):n<=sizeLine:=bh9 (oF h)
theorem aw5 (h:LE X (vS tr) σ H Q'):uD (LA X tr) σ H Q':=by
 obtain ⟨W,ρ,Q,px,q,k⟩:=h
 refine⟨W,ρ,_,px,q,?_⟩
 rintro vs H1 xs s1 r ⟨hl,n,q⟩
 refine⟨by rw [r.length]; exact oO hl,fun p hp=>k _ _ _ .nw (s1.trans (bK hp _)) (.tup bM ?_) q⟩
 exact (jX.reps (vs:=vs) px n r).same (bK hp _) fun _ z=>z
theorem aw6 (h:LE X (dJ tr) σ H Q'):uD (LA X tr) σ H Q':=by
 obtain ⟨W,ρ,Q,px,q,k⟩:=h
 refine⟨W,ρ,_,px,q,?_⟩
 rintro vs H1 xs s1 r ⟨hl,n,q⟩
 refine⟨by rw [r.length]; exact oO hl,fun p hp=>k _ _ _ .fr (s1.trans (bK hp _)) (.tup bM ?_) q⟩
 exact (r.any.flat n).same (bK hp _) fun _ z=>z
theorem aw7 (h:LE X (dL tr) σ H Q'):uE (LA X tr) σ H Q':=by
 obtain ⟨W,ρ,Q,px,q,k⟩:=h
 refine⟨W,ρ,_,px,q,?_⟩
 rintro vs H1 xs s1 r ⟨hl,n,q⟩
 refine⟨by rw [r.length]; exact oO hl,fun p hp=>k _ _ _ .fr (s1.trans (bK hp _)) (.lst (s1.free hp) bM ?_) q⟩
 exact (r.any.flat n).same (bK hp _) fun _ z=>z
noncomputable def fO (X:Cx) (R:List PV->(PV->Prop)->Prop) (r:List V->Hp->VK->Prop):Prop:=∀ (H:Hp) (vs:List V) (xs:List PV) (Q:PV->Prop) (Q':VK),Reps X.K (fun _=>True) H vs xs->R xs Q->
 (∀ w H' z,aD H H'->aI X.K (fun a=>H a=none) H' w z->Q z->Q' w H')->r vs H Q'
noncomputable def aB (R:List PV->(PV->Prop)->Prop) (t:cO):aF:=fun ρ Q=>t ρ fun xs=>R (xs.map (·.1)) fun z=>Q z .fr
theorem M6 {R:List PV->(PV->Prop)->Prop}{r:List V->Hp->VK->Prop} (c:fO X R r) (h:LE X (aB R tr) σ H Q'):uH r (LA X tr) σ H Q':=by
 obtain ⟨W,ρ,Q,px,q,k⟩:=h
 refine⟨W,ρ,_,px,q,fun vs H1 xs s1 r1 q1=>c H1 vs _ _ Q' r1.any q1 fun w H' z s2 r2 q2=>k w H' z .fr (s1.trans s2) (r2.same (aD.refl _) fun _ z=>s1.free z) q2⟩
end
structure fB where
 nx:bJ->Prop
 rt:PV->Prop
 bk:bJ->Prop:=fun _=>False
 ct:bJ->Prop:=fun _=>False
noncomputable abbrev aK:=fB->bJ->Prop
noncomputable def Ev (W:Addr->Prop) (H:Hp) (W':Addr->Prop) (H':Hp):Prop:=∀ b o,H b=some o->¬ W b->H' b=some o/\¬ W' b
theorem Ev.trans {W W1 W2:Addr->Prop}{H H1 H2:Hp} (a:Ev W H W1 H1) (b:Ev W1 H1 W2 H2):Ev W H W2 H2:=fun c o h n=>let ⟨h1,n1⟩:=a c o h n; b c o h1 n1
theorem Ev.same {W:Addr->Prop}{H H':Hp} (s:aD H H'):Ev W H W H':=fun c o h n=>⟨s _ _ h,n⟩
theorem Ev.refl (W:Addr->Prop) (H:Hp):Ev W H W H:=Ev.same (aD.refl _)
structure oP (X:Cx) (W:Addr->Prop) (H:Hp) (D':fB) (D:dH):Prop where
 nx:∀ W' σ' H' ρ',Ev W H W' H'->PX X.K X.H₀ W' σ' ρ' H'->D'.nx ρ'->D.nx σ' H'
 rt:∀ v H' x,aD X.H₀ H'->aI X.K (fun a=>X.H₀ a=none) H' v x->D'.rt x->D.rt v H'
 bk:∀ W' σ' H' ρ',Ev W H W' H'->PX X.K X.H₀ W' σ' ρ' H'->D'.bk ρ'->D.bk σ' H'
 ct:∀ W' σ' H' ρ',Ev W H W' H'->PX X.K X.H₀ W' σ' ρ' H'->D'.ct ρ'->D.ct σ' H'
theorem oP.step {X:Cx}{W W1:Addr->Prop}{H H1:Hp}{D':fB}{D:dH} (k:oP X W H D' D) (e:Ev W H W1 H1):oP X W1 H1 D' D:=
 ⟨fun W' σ' H' ρ' e'=>k.nx W' σ' H' ρ' (e.trans e'),k.rt,fun W' σ' H' ρ' e'=>k.bk W' σ' H' ρ' (e.trans e'),fun W' σ' H' ρ' e'=>k.ct W' σ' H' ρ' (e.trans e')⟩
noncomputable def LS (X:Cx) (t:aK):TS:=fun D σ H=>∃ (W:Addr->Prop) (ρ:bJ) (D':fB),PX X.K X.H₀ W σ ρ H/\t D' ρ/\oP X W H D' D
theorem fC {α:Type}{l:List α}{i j:Nat}{a b:α} (h:(l.set i a)[j]? = some b):(j=i/\i < l.length/\b=a) ∨ (j ≠ i/\l[j]? = some b):=by
 by_cases e:j=i
 ·subst e
  have hl:j < (l.set j a).length:=(bc4.mp h).1
  rw [bg1] at hl
  rw [bh1 hl] at h
  exact .inl ⟨rfl,hl,(be3 h).symm⟩
 ·rw [be7 (Ne.symm e)] at h
  exact .inr ⟨e,h⟩
section
variable {K : PySem.W.Frag} {H0 : Hp} {W W' : Addr → Prop} {σ : St} {ρ : bJ} {H H' Hs : Hp}
theorem PX.setSh {i:Nat}{v:V}{g:Bool}{x:PV} (p:PX K H0 W σ ρ H) (r:aI K (Ms H0 W g) H v x):PX K H0 W (σ.set i (some v)) (ρ.set i (some (.sh g x))) H:=by
 refine⟨by rw [bg1,bg1]; exact p.len,p.same,p.wm,fun j m h=>?_,fun j k y z a h1 h2 h3 h4=>?_⟩
 ·rcases fC h with ⟨rfl,hl,e⟩ | ⟨hne,h⟩
  ·cases e
   rw [p.len] at hl
   exact⟨v,bh1 hl,r⟩
  ·obtain ⟨u,e,q⟩:=p.sl j m h
   exact⟨u,by rw [be7 (Ne.symm hne)]; exact e,q⟩
 ·rcases fC h1 with ⟨_,_,e⟩ | ⟨n1,h1⟩
  ·cases e
  ·rcases fC h2 with ⟨_,_,e⟩ | ⟨n2,h2⟩
   ·cases e
   ·rw [be7 (Ne.symm n1)] at h3
    rw [be7 (Ne.symm n2)] at h4
    exact p.dis j k y z a h1 h2 h3 h4
theorem PX.setNone {i:Nat}{o:Option V} (p:PX K H0 W σ ρ H):PX K H0 W (σ.set i o) (ρ.set i none) H:=by
 refine⟨by rw [bg1,bg1]; exact p.len,p.same,p.wm,fun j m h=>?_,fun j k y z a h1 h2 h3 h4=>?_⟩
 ·rcases fC h with ⟨rfl,hl,e⟩ | ⟨hne,h⟩
  ·cases e
  ·obtain ⟨u,e,q⟩:=p.sl j m h
   exact⟨u,by rw [be7 (Ne.symm hne)]; exact e,q⟩
 ·rcases fC h1 with ⟨_,_,e⟩ | ⟨n1,h1⟩
  ·cases e
  ·rcases fC h2 with ⟨_,_,e⟩ | ⟨n2,h2⟩
   ·cases e
   ·rw [be7 (Ne.symm n1)] at h3
    rw [be7 (Ne.symm n2)] at h4
    exact p.dis j k y z a h1 h2 h3 h4
noncomputable def mQ (W:Addr->Prop) (a:Addr):Addr->Prop:=fun b=>W b ∨ b=a
theorem vT {g:Bool}{a b:Addr} (n:b ≠ a) (h:Ms H0 W g b):Ms H0 (mQ W a) g b:=by
 cases g with
 | true=>exact⟨fun z=>z.elim h.1 n,h.2⟩
 | false=>exact fun z=>z.elim h n
theorem PX.setOwn {i:Nat}{a:Addr}{x:PV} (p:PX K H0 W σ ρ Hs) (s:aD Hs H) (ha:Hs a=none) (r:iE K (Ms H0 (mQ W a) true) H a x):PX K H0 (mQ W a) (σ.set i (some (.ref a))) (ρ.set i (some (.own x))) H:=by
 have old:∀ b o,Hs b=some o->b ≠ a:=fun b o e z=>by rw [z,ha] at e; cases e
 have kp:∀ g,iD (Ms H0 W g) (Ms H0 (mQ W a) g) Hs H:=fun g=>⟨fun b _ m e=>⟨vT (old _ _ e) m,s _ _ e⟩,fun b _ m e=>⟨vT (old _ _ e) m,s _ _ e⟩,fun b _ m e=>⟨vT (old _ _ e) m,s _ _ e⟩,fun _ _ e=>s _ _ e,fun _ _ _ e=>s _ _ e⟩
 have wa : ¬ W a:=(p.new ha).1
 refine⟨by rw [bg1,bg1]; exact p.len,p.same.trans s,fun b z=>?_,fun j m h=>?_,fun j k y z b h1 h2 h3 h4=>?_⟩
 ·rcases z with z | rfl
  ·obtain ⟨h1,o,h2,h3⟩:=p.wm b z
   exact⟨h1,o,s _ _ h2,h3⟩
  ·exact⟨(p.new ha).2,r.at⟩
 ·rcases fC h with ⟨rfl,hl,e⟩ | ⟨hne,h⟩
  ·cases e
   rw [p.len] at hl
   exact⟨_,bh1 hl,a,rfl,.inr rfl,r⟩
  ·obtain ⟨u,e,q⟩:=p.sl j m h
   refine⟨u,by rw [be7 (Ne.symm hne)]; exact e,?_⟩
   cases m with
   | sh g y=>exact aI.keep (kp g) q
   | own y=>
    obtain ⟨b,e1,e2,q⟩:=q
    exact⟨b,e1,.inl e2,q.keep (kp true) fun o z=>s _ _ z⟩
 ·have ne:∀ {j:Nat}{y:PV},ρ[j]? = some (some (.own y))->σ[j]? ≠ some (some (.ref a)):=fun {j y} h1 h2=>by
   obtain ⟨u,e,c,e1,e2,_⟩:=p.sl j _ h1
   rw [h2] at e
   cases e
   cases e1
   exact wa e2
  rcases fC h1 with ⟨e1,l1,_⟩ | ⟨n1,h1⟩
  ·rcases fC h2 with ⟨e2,_,_⟩ | ⟨n2,h2⟩
   ·rw [e1,e2]
   ·rw [e1,bh1 (by rw [<- p.len]; exact l1)] at h3
    rw [be7 (Ne.symm n2)] at h4
    cases h3
    exact absurd h4 (ne h2)
  ·rw [be7 (Ne.symm n1)] at h3
   rcases fC h2 with ⟨e2,l2,_⟩ | ⟨n2,h2⟩
   ·rw [e2,bh1 (by rw [<- p.len]; exact l2)] at h4
    cases h4
    exact absurd h3 (ne h1)
   ·rw [be7 (Ne.symm n2)] at h4
    exact p.dis j k y z b h1 h2 h3 h4
theorem Ev.own {a:Addr} (s:aD Hs H) (ha:Hs a=none):Ev W Hs (mQ W a) H:=fun b o e n=>⟨s _ _ e,fun z=>z.elim n fun z=>by rw [z,ha] at e; cases e⟩
theorem lQ {g:Bool}{a b:Addr} (wa:W a) (h:Ms H0 W g b):b ≠ a:=by
 cases g with
 | true=>exact fun z=>h.1 (by rw [z]; exact wa)
 | false=>exact fun z=>h (by rw [z]; exact wa)
theorem PX.updOwn {i:Nat}{a:Addr}{x y:PV}{o:HO} (p:PX K H0 W σ ρ H) (hi:ρ[i]? = some (some (.own x))) (ha:σ[i]? = some (some (.ref a))) (wa:W a) (mu:jW o=true) (r:iE K (Ms H0 W true) (upd H a o) a y) :
  PX K H0 W σ (ρ.set i (some (.own y))) (upd H a o):=by
 obtain ⟨w0,o',e',mu'⟩:=p.wm a wa
 have kp:∀ g,iD (Ms H0 W g) (Ms H0 W g) H (upd H a o):=fun g=>.upd e' mu' fun b m=>⟨lQ wa m,m⟩
 refine⟨by rw [bg1]; exact p.len,fun b u e=>by rw [b7 (fun z=>by rw [z,w0] at e; cases e)]; exact p.same _ _ e,fun b z=>?_,fun j m h=>?_,fun j k y' z b h1 h2 h3 h4=>?_⟩
 ·by_cases e:b=a
  ·subst e; exact⟨w0,o,bM,mu⟩
  ·obtain ⟨h1,o2,h2,h3⟩:=p.wm b z
   exact⟨h1,o2,by rw [b7 e]; exact h2,h3⟩
 ·rcases fC h with ⟨rfl,hl,e⟩ | ⟨hne,h⟩
  ·cases e
   exact⟨_,ha,a,rfl,wa,r⟩
  ·obtain ⟨u,e,q⟩:=p.sl j m h
   refine⟨u,e,?_⟩
   cases m with
   | sh g y=>exact aI.keep (kp g) q
   | own y=>
    obtain ⟨b,e1,e2,q⟩:=q
    have hb:b ≠ a:=fun z=>by
     subst e1
     rw [z] at e
     exact hne (p.dis j i _ _ a h hi e ha)
    exact⟨b,e1,e2,q.keep (kp true) fun o z=>by rw [b7 hb]; exact z⟩
 ·have g1:∃ y,ρ[j]? = some (some (.own y)):=by
   rcases fC h1 with ⟨e,_,_⟩ | ⟨_,h⟩
   ·exact⟨x,by rw [e]; exact hi⟩
   ·exact⟨_,h⟩
  have g2:∃ y,ρ[k]? = some (some (.own y)):=by
   rcases fC h2 with ⟨e,_,_⟩ | ⟨_,h⟩
   ·exact⟨x,by rw [e]; exact hi⟩
   ·exact⟨_,h⟩
  obtain ⟨y1,g1⟩:=g1
  obtain ⟨y2,g2⟩:=g2
  exact p.dis j k y1 y2 b g1 g2 h3 h4
theorem Ev.upd {a:Addr}{o:HO} (wa:W a):Ev W H W (upd H a o):=fun b u e n=>⟨by rw [b7 (fun z=>n (by rw [z]; exact wa))]; exact e,n⟩
noncomputable def oQ (W:Addr->Prop) (a:Addr):Addr->Prop:=fun b=>W b/\b ≠ a
theorem vU {g:Bool}{a b:Addr} (h:Ms H0 W g b):Ms H0 (oQ W a) g b:=by
 cases g with
 | true=>exact⟨fun z=>h.1 z.1,h.2⟩
 | false=>exact fun z=>h z.1
theorem PX.freeze {i:Nat}{a:Addr}{x:PV} (p:PX K H0 W σ ρ H) (hi:ρ[i]? = some (some (.own x))) (ha:σ[i]? = some (some (.ref a))):PX K H0 (oQ W a) σ (ρ.set i (some (.sh true x))) H:=by
 obtain ⟨v,ev,a',e1,wa,r⟩:=p.sl i _ hi
 rw [ha] at ev
 cases ev
 cases e1
 refine⟨by rw [bg1]; exact p.len,p.same,fun b z=>p.wm b z.1,fun j m h=>?_,fun j k y' z b h1 h2 h3 h4=>?_⟩
 ·rcases fC h with ⟨rfl,hl,e⟩ | ⟨hne,h⟩
  ·cases e
   exact⟨_,ha,r.rep (M':=Ms H0 (oQ W a) true) (fun b m=>vU (g:=true) m) (show Ms H0 (oQ W a) true a from ⟨fun z=>z.2 rfl,(p.wm a wa).1⟩)⟩
  ·obtain ⟨u,e,q⟩:=p.sl j m h
   refine⟨u,e,?_⟩
   cases m with
   | sh g y=>exact aI.same q (aD.refl _) fun _ m=>vU m
   | own y=>
    obtain ⟨b,e1,e2,q⟩:=q
    have hb:b ≠ a:=fun z=>by
     subst e1
     rw [z] at e
     exact hne (p.dis j i _ _ a h hi e ha)
    exact⟨b,e1,⟨e2,hb⟩,q.keep (.same (aD.refl _) fun _ m=>vU m) fun _ z=>z⟩
 ·rcases fC h1 with ⟨_,_,e⟩ | ⟨_,h1⟩
  ·cases e
  ·rcases fC h2 with ⟨_,_,e⟩ | ⟨_,h2⟩
   ·cases e
   ·exact p.dis j k _ _ b h1 h2 h3 h4
theorem Ev.off {a:Addr}:Ev W H (oQ W a) H:=fun b u e n=>⟨e,fun z=>n z.1⟩
end
section
variable {X : Cx} {σ : St} {H : Hp} {D : dH} {te : aF} {t u : aK}
noncomputable def cD:aK:=fun D ρ=>D.nx ρ
noncomputable def aE (t u:aK):aK:=fun D ρ=>t { D with nx:=u D } ρ
theorem aw8 (h:LS X cD D σ H):zJ D σ H:=by
 obtain ⟨W,ρ,D',px,q,k⟩:=h
 exact k.nx W σ H ρ (Ev.refl _ _) px q
theorem aw9 (h:LS X (aE t u) D σ H):zK (LS X t) (LS X u) D σ H:=by
 obtain ⟨W,ρ,D',px,q,k⟩:=h
 exact⟨W,ρ,_,px,q,fun W' σ' H' ρ' e px' q'=>⟨W',ρ',D',px',q',k.step e⟩,k.rt,k.bk,k.ct⟩
noncomputable def vV:Tg->PV->Bool
 | .fr,_=>true
 | .nw,_=>true
 | _,x=>flat x
noncomputable def vW:Tg->PV->Prop
 | .rd,x=>flat x=true
 | _,_=>True
theorem M7 {K:PySem.W.Frag}{H0 Hs H:Hp}{W:Addr->Prop}{σ:St}{ρ:bJ}{g:Tg}{x:PV}{v:V} (px:PX K H0 W σ ρ Hs) (n:vW g x) (r:aI K (Mg H0 W Hs g) H v x):aI K (Ms H0 W (vV g x)) H v x:=by
 cases g with
 | fr=>exact Nw.rep (g:=.fr) px trivial r
 | nw=>exact Nw.rep (g:=.nw) px trivial r
 | sh=>
  show aI K (Ms H0 W (flat x)) H v x
  cases e:flat x with
  | true=>exact r.flat e
  | false=>exact r.same (aD.refl _) fun _ z=>z
 | rd=>exact r.flat n
noncomputable def b6 (i:Nat) (te:aF):aK:=fun D ρ=>te ρ fun x g=>vW g x/\D.nx (ρ.set i (some (.sh (vV g x) x)))
theorem rL {i:Nat} (h:LS X (b6 i te) D σ H):jK (LE X te) (cG i) D σ H:=by
 obtain ⟨W,ρ,D',px,q,k⟩:=h
 refine⟨W,ρ,_,px,q,?_⟩
 rintro v H1 x g s r ⟨n,q⟩
 exact k.nx W _ H1 _ (Ev.same s) ((px.mono s).setSh (M7 px n r)) q
noncomputable def M9:PV->Bool
 | .lst xs=>flats xs
 | .dK ps=>flats (ps.map (·.2))
 | .dT ps=>flats (ps.map (·.2))
 | _=>false
theorem ax0 {K:PySem.W.Frag}{M:Addr->Prop}{H:Hp}{v:V}{x:PV} (r:aI K M H v x) (o:M9 x=true):∃ a,v = .ref a/\M a/\∀ M',iE K M' H a x:=by
 cases r with
 | lst m e r=>exact⟨_,rfl,m,fun _=>⟨_,e,r.flat o⟩⟩
 | dK m e q r=>exact⟨_,rfl,m,fun _=>⟨_,e,q,r.flat o⟩⟩
 | dT m e q r=>exact⟨_,rfl,m,fun _=>⟨_,e,q,r.flat o⟩⟩
 | _=>cases o
noncomputable def e9 (i:Nat) (te:aF):aK:=fun D ρ=>te ρ fun x g=>g = .fr/\M9 x=true/\D.nx (ρ.set i (some (.own x)))
theorem N0 {i:Nat} (h:LS X (e9 i te) D σ H):jK (LE X te) (cG i) D σ H:=by
 obtain ⟨W,ρ,D',px,q,k⟩:=h
 refine⟨W,ρ,_,px,q,?_⟩
 rintro v H1 x g s r ⟨rfl,o,q⟩
 obtain ⟨a,rfl,m,w⟩:=ax0 r o
 exact k.nx _ _ H1 _ (Ev.own s m) (px.setOwn s m (w _)) q
noncomputable def oR (i:Nat) (t:aK):aK:=fun D ρ=>∃ x,ρ[i]? = some (some (.own x))/\t D (ρ.set i (some (.sh true x)))
theorem ax1 {i:Nat} (h:LS X (oR i t) D σ H):LS X t D σ H:=by
 obtain ⟨W,ρ,D',px,⟨x,hi,q⟩,k⟩:=h
 obtain ⟨v,ev,a,rfl,wa,r⟩:=px.sl i _ hi
 exact⟨_,_,D',px.freeze hi ev,q,k.step Ev.off⟩
noncomputable def bG (te:aF):aK:=fun D ρ=>te ρ fun x g=>Nw g x/\D.rt x
theorem ax2 (h:LS X (bG te) D σ H):tV (LE X te) D σ H:=by
 obtain ⟨W,ρ,D',px,q,k⟩:=h
 refine⟨W,ρ,_,px,q,?_⟩
 rintro v H1 x g s r ⟨n,q⟩
 exact k.rt v H1 x (px.same.trans s) ((Nw.rep px n r).same (aD.refl _) fun _ z=>z.2) q
noncomputable def Slot.nw:Slot->Prop
 | .own _=>True
 | .sh true _=>True
 | .sh false x=>flat x=true
noncomputable def iT (i:Nat):aK:=fun D ρ=>∃ m,ρ[i]? = some (some m)/\m.nw/\D.rt m.val
theorem ax3 {i:Nat} (h:LS X (iT i) D σ H):tV (iQ i) D σ H:=by
 obtain ⟨W,ρ,D',px,⟨m,hi,n,q⟩,k⟩:=h
 obtain ⟨v,ev,r⟩:=px.sl i _ hi
 refine⟨v,ev,k.rt v H _ px.same ?_ q⟩
 cases m with
 | own x=>
  obtain ⟨a,rfl,wa,r⟩:=r
  exact r.rep (fun _ z=>z.2) (px.wm a wa).1
 | sh g x=>
  cases g with
  | true=>exact aI.same r (aD.refl _) fun _ z=>z.2
  | false=>exact aI.flat n r
noncomputable def cB (c:cN) (t u:aK):aK:=fun D ρ=>c ρ fun b=>if b=true then t D ρ else u D ρ
theorem ax4 {c:cN} (h:LS X (cB c t u) D σ H):zL (LT X c) (LS X t) (LS X u) D σ H:=by
 obtain ⟨W,ρ,D',px,q,k⟩:=h
 refine⟨W,ρ,_,px,q,fun b H1 s q1=>?_⟩
 cases b with
 | true=>exact bD ⟨W,ρ,D',px.mono s,by simpa using q1,k.step (Ev.same s)⟩
 | false=>exact bB ⟨W,ρ,D',px.mono s,by simpa using q1,k.step (Ev.same s)⟩
noncomputable def mR (c:cN) (tb:aK):aK:=fun D ρ=>∃ I:Nat->bJ->Prop,(∃ m,I m ρ)/\∀ m ρ',I m ρ'->c ρ' fun b=>if b=true then tb { D with nx:=fun ρ2=>∃ m',m' < m/\I m' ρ2,ct:=fun ρ2=>∃ m',m' < m/\I m' ρ2,bk:=D.nx } ρ' else D.nx ρ'
theorem ax5 {c:cN}{tb:aK} (h:LS X (mR c tb) D σ H):zO (LT X c) (LS X tb) D σ H:=by
 obtain ⟨W,ρ,D',px,⟨I,⟨m0,i0⟩,turn⟩,k⟩:=h
 refine⟨fun m σ2 H2=>∃ W2 ρ2,PX X.K X.H₀ W2 σ2 ρ2 H2/\Ev W H W2 H2/\I m ρ2,⟨m0,W,ρ,px,Ev.refl _ _,i0⟩,?_⟩
 rintro m σ2 H2 ⟨W2,ρ2,px2,e2,i2⟩
 refine⟨W2,ρ2,_,px2,turn m ρ2 i2,fun b H3 s3 q3=>?_⟩
 cases b with
 | true=>
  refine bD ⟨fun σ4 H4=>∃ W4 ρ4,PX X.K X.H₀ W4 σ4 ρ4 H4/\Ev W H W4 H4/\∃ m',m' < m/\I m' ρ4,fun σ4 H4 ⟨W4,ρ4,a,b,m',c,d⟩=>⟨m',c,W4,ρ4,a,b,d⟩,W2,ρ2,_,px2.mono s3,by simpa using q3,?_⟩
  have e3:Ev W H W2 H3:=e2.trans (Ev.same s3)
  exact⟨fun W' σ' H' ρ' e p q=>⟨W',ρ',p,e3.trans e,q⟩,k.rt,fun W' σ' H' ρ' e p q=>k.nx W' σ' H' ρ' (e3.trans e) p q,fun W' σ' H' ρ' e p q=>⟨W',ρ',p,e3.trans e,q⟩⟩
 | false=>exact bB (k.nx W2 σ2 H3 ρ2 (e2.trans (Ev.same s3)) (px2.mono s3) (by simpa using q3))
end
theorem lim {n:Nat} (h:n<=16000000):n<=sizeLine:=bh9 (hZ h)
theorem aI.sqT {K:PySem.W.Frag}{M:Addr->Prop}{H:Hp}{v:V}{xs:List PV} (r:aI K M H v (.tup xs)):∃ a us,v = .ref a/\H a=some (.tup us)/\Reps K M H us xs:=by
 cases r with
 | tup e r=>exact⟨_,_,rfl,e,r⟩
theorem aI.sqL {K:PySem.W.Frag}{M:Addr->Prop}{H:Hp}{v:V}{xs:List PV} (r:aI K M H v (.lst xs)):∃ a us,v = .ref a/\M a/\H a=some (.lst us)/\Reps K M H us xs:=by
 cases r with
 | lst m e r=>exact⟨_,_,rfl,m,e,r⟩
theorem jV.sqL {K:PySem.W.Frag}{H:Hp}{a:Addr}{ns:List Int} (h:jV K H a ns):aM K H a (ns.map V.int):=h.elim (fun z=>.inl (.inr z)) .inr
noncomputable def iU:PV->Option (List PV)
 | .tup xs=>some xs
 | .lst xs=>some xs
 | .scr ns=>some (intz ns)
 | .kt xs=>some xs
 | _=>none
theorem aI.seq {K:PySem.W.Frag}{M:Addr->Prop}{H:Hp}{v:V}{x:PV}{xs:List PV} (r:aI K M H v x) (e:iU x=some xs):∃ a us,v = .ref a/\(aM K H a us ∨ aR K H a us)/\Reps K M H us xs:=by
 cases r with
 | tup h r=>cases e; exact⟨_,_,rfl,.inr (aR.of h),r⟩
 | lst m h r=>cases e; exact⟨_,_,rfl,.inl (aM.of h),r⟩
 | scr h=>cases e; exact⟨_,_,rfl,.inl h.sqL,Reps.intz _⟩
 | kt h r=>cases e; exact⟨_,_,rfl,.inr (.inr h),r⟩
 | _=>cases e
section
variable {X : Cx} {σ : St} {H : Hp} {D : dH} {te ti to : aF} {t u : aK} {Q' : VK}
theorem _root_.PP.PX.updL {K:PySem.W.Frag}{H0:Hp}{W:Addr->Prop}{σ:St}{ρ:bJ}{H:Hp}{i:Nat}{a:Addr}{x:PV}{us:List V}{ys:List PV} (p:PX K H0 W σ ρ H) (hi:ρ[i]? = some (some (.own x))) (ha:σ[i]? = some (some (.ref a))) (wa:W a) (r:Reps K (Ms H0 W true) (upd H a (.lst us)) us ys) :
  PX K H0 W σ (ρ.set i (some (.own (.lst ys)))) (upd H a (.lst us)):=p.updOwn hi ha wa rfl (y:=.lst ys) ⟨us,bM,r⟩
noncomputable def i4 (i:Nat) (te:aF):aK:=fun D ρ=>∃ xs,ρ[i]? = some (some (.own (.lst xs)))/\te ρ fun x g=>Nw g x/\xs.length < 16000000/\D.nx (ρ.set i (some (.own (.lst (xs ++ [x])))))
theorem ax6 {i:Nat} (h:LS X (i4 i te) D σ H):pZ (qL X.K "list" E4 (iQ i) (iS (LE X te) kG)) D σ H:=by
 obtain ⟨W,ρ,D',px,⟨xs,hi,q⟩,k⟩:=h
 obtain ⟨v,ev,a,rfl,wa,us,ea,r⟩:=px.sl i _ hi
 refine⟨_,ev,kK (aM.of ea),W,ρ,_,px,q,?_⟩
 rintro w H1 x g s rx ⟨n,hl,q⟩
 have ea1:=s _ _ ea
 refine⟨a,us,w,rfl,rfl,ea1,hZ (by rw [r.length]; omega),?_⟩
 refine k.nx W σ _ _ ((Ev.same s).trans (Ev.upd wa)) ((px.mono s).updL hi ev wa ?_) q
 exact ((r.same s fun _ z=>z).append (.cons (Nw.rep px n rx) .nil)).keep (.upd ea1 rfl fun b m=>⟨lQ wa m,m⟩)
noncomputable def N1 (K:PySem.W.Frag):V->List V->Hp->VK->Prop:=fun x vs H Q=>E5 x vs H Q ∨ L8 K x vs H Q
noncomputable def vX (i:Nat) (te:aF):aK:=fun D ρ=>∃ xs,ρ[i]? = some (some (.own (.lst xs)))/\te ρ fun y g=>∃ ys,(y = .tup ys ∨ y = .lst ys)/\(Nw g y ∨ flats ys=true)/\xs.length+ys.length<=16000000/\D.nx (ρ.set i (some (.own (.lst (xs ++ ys)))))
theorem ax7 {i:Nat} (h:LS X (vX i te) D σ H):pZ (qL X.K "list" (N1 X.K) (iQ i) (iS (LE X te) kG)) D σ H:=by
 obtain ⟨W,ρ,D',px,⟨xs,hi,q⟩,k⟩:=h
 obtain ⟨v,ev,a,rfl,wa,us,ea,r⟩:=px.sl i _ hi
 refine⟨_,ev,kK (aM.of ea),W,ρ,_,px,q,?_⟩
 rintro w H1 y g s ry ⟨ys,hy,n,hl,q⟩
 have ea1:=s _ _ ea
 have key:∀ (zs:List V),Reps X.K (Ms X.H₀ W true) H1 zs ys->D.nx σ (upd H1 a (.lst (us ++ zs))):=fun zs rz=>by
  refine k.nx W σ _ _ ((Ev.same s).trans (Ev.upd wa)) ((px.mono s).updL hi ev wa ?_) q
  exact ((r.same s fun _ z=>z).append rz).keep (.upd ea1 rfl fun b m=>⟨lQ wa m,m⟩)
 have lr:=r.length
 rcases hy with rfl | rfl
 ·obtain ⟨b,zs,rfl,eb,rz⟩:=ry.sqT
  have lz:=rz.length
  refine .inr ⟨a,b,us,zs,rfl,rfl,ea1,aR.of eb,lim (by omega),key zs ?_⟩
  rcases n with n | n
  ·obtain ⟨b',zs',e1,e2,rz'⟩:=(Nw.rep px n ry).sqT
   cases e1; rw [eb] at e2; cases e2; exact rz'
  ·exact rz.flat n
 ·obtain ⟨b,zs,rfl,_,eb,rz⟩:=ry.sqL
  have lz:=rz.length
  refine .inl ⟨a,b,us,zs,rfl,rfl,ea1,eb,lim (by omega),key zs ?_⟩
  rcases n with n | n
  ·obtain ⟨b',zs',e1,_,e2,rz'⟩:=(Nw.rep px n ry).sqL
   cases e1; rw [eb] at e2; cases e2; exact rz'
  ·exact rz.flat n
noncomputable def lR (i:Nat) (tk te:aF):aK:=fun D ρ=>te ρ fun x g=>∃ xs,ρ[i]? = some (some (.own (.lst xs)))/\tk ρ fun y _=>∃ n j,y = .int n/\gD xs.length n=some j/\Nw g x/\D.nx (ρ.set i (some (.own (.lst (xs.set j x)))))
theorem ax8 {i:Nat}{tk:aF} (h:LS X (lR i tk te) D σ H):jK (LE X te) (tX (iQ i) (LE X tk) uM) D σ H:=by
 obtain ⟨W,ρ,D',px,q,k⟩:=h
 refine⟨W,ρ,_,px,q,?_⟩
 rintro w H1 x g s rx ⟨xs,hi,q1⟩
 obtain ⟨v,ev,a,rfl,wa,us,ea,r⟩:=(px.mono s).sl i _ hi
 refine⟨_,ev,W,ρ,_,px.mono s,q1,?_⟩
 rintro kv H2 y gy s2 ry ⟨n,j,rfl,hj,nw,q2⟩
 cases ry
 have ea2:=s2 _ _ ea
 refine⟨a,us,n,j,rfl,rfl,ea2,by rw [r.length]; exact hj,?_⟩
 refine k.nx W σ _ _ ((Ev.same (s.trans s2)).trans (Ev.upd wa)) ((px.mono (s.trans s2)).updL hi ev wa ?_) q2
 exact (Reps.set ((Nw.rep px nw rx).same s2 fun _ z=>z) j (r.same s2 fun _ z=>z)).keep (.upd ea2 rfl fun b m=>⟨lQ wa m,m⟩)
noncomputable def vY (i j:Nat):aK:=fun D ρ=>∃ xs y,ρ[i]? = some (some (.own (.lst (xs ++ [y]))))/\D.nx ((ρ.set i (some (.own (.lst xs)))).set j (some (.sh true y)))
theorem Reps.snoc_inv {K:PySem.W.Frag}{M:Addr->Prop}{H:Hp}{us:List V}{xs:List PV}{y:PV} (r:Reps K M H us (xs ++ [y])):∃ vs v,us=vs ++ [v]/\Reps K M H vs xs/\aI K M H v y:=by
 have l:=r.length
 have h1:=r.take xs.length
 have h2:=r.drop xs.length
 rw [List.take_left] at h1
 rw [List.drop_left] at h2
 generalize hd:us.drop xs.length=ds at h2
 cases h2 with
 | cons q t=>
  cases t
  exact⟨_,_,by rw [<- hd,List.take_append_drop],h1,q⟩
theorem ax9 {i j:Nat} (h:LS X (vY i j) D σ H):jK (E2 X.K "list" E6 (iQ i)) (cG j) D σ H:=by
 obtain ⟨W,ρ,D',px,⟨xs,y,hi,q⟩,k⟩:=h
 obtain ⟨v,ev,a,rfl,wa,us,ea,r⟩:=px.sl i _ hi
 obtain ⟨vs,w,rfl,r1,ry⟩:=r.snoc_inv
 refine⟨_,ev,kK (aM.of ea),a,_,w,rfl,rfl,ea,by simp,?_⟩
 rw [List.dropLast_concat]
 have kp:iD (Ms X.H₀ W true) (Ms X.H₀ W true) H (upd H a (.lst vs)):=.upd ea rfl fun b m=>⟨lQ wa m,m⟩
 exact k.nx W _ _ _ (Ev.upd wa) ((px.updL hi ev wa (r1.keep kp)).setSh (ry.keep kp)) q
end
theorem Reps.atI {K:PySem.W.Frag}{M:Addr->Prop}{H:Hp}{us:List V}{xs:List PV}{i:Int}{z:PV} (r:Reps K M H us xs) (h:L2.atI xs i=some z):∃ v,L2.atI us i=some v/\aI K M H v z:=by
 unfold L2.atI at h ⊢
 rw [r.length]
 cases e:gD xs.length i with
 | none=>rw [e] at h; cases h
 | some j=>rw [e] at h; exact r.at h
section
variable {X : Cx} {σ : St} {H : Hp} {Q' : VK} {ta tb te : aF} {tr : cO}
noncomputable def vZ:PV->Tg->PV->Tg->PK->Prop:=fun x g y _ Q=>∃ xs i z,iU x=some xs/\y = .int i/\L2.atI xs i=some z/\Q z g
theorem ay0:eS X vZ (C6 X.K):=by
 rintro W Hs H u v x y g g' Q Q' s n r1 r2 ⟨xs,i,z,e,rfl,hz,q⟩ k
 cases r2
 obtain ⟨a,us,rfl,hs,r⟩:=r1.seq e
 obtain ⟨v,hv,rv⟩:=r.atI hz
 rcases hs with hs | hs
 ·exact .inl ⟨a,us,i,v,rfl,rfl,hs,hv,k v H z g (aD.refl _) rv q⟩
 ·exact .inr (.inl ⟨a,us,i,v,rfl,rfl,hs,hv,k v H z g (aD.refl _) rv q⟩)
noncomputable def w4:PV->Option Nat
 | .tup xs=>some xs.length
 | .lst xs=>some xs.length
 | .scr ns=>some ns.length
 | .dK ps=>some ps.length
 | .kt xs=>some xs.length
 | _=>none
noncomputable def cP:List PV->(PV->Prop)->Prop:=fun xs Q=>∃ x n,xs = [x]/\w4 x=some n/\Q (.int n)
theorem Reps.one {K:PySem.W.Frag}{M:Addr->Prop}{H:Hp}{vs:List V}{x:PV} (r:Reps K M H vs [x]):∃ v,vs = [v]/\aI K M H v x:=by
 cases r with
 | cons r t=>cases t; exact⟨_,rfl,r⟩
theorem Reps.two {K:PySem.W.Frag}{M:Addr->Prop}{H:Hp}{vs:List V}{x y:PV} (r:Reps K M H vs [x,y]):∃ v w,vs = [v,w]/\aI K M H v x/\aI K M H w y:=by
 cases r with
 | cons r t=>
  obtain ⟨w,rfl,q⟩:=t.one
  exact⟨_,_,rfl,r,q⟩
theorem ay1:fO X cP (fun xs H Q=>(∃ p ys,xs = [.ref p]/\(aM X.K H p ys ∨ aR X.K H p ys)/\Q (.int ys.length) H) ∨ ∃ a kvs,xs = [V.ref a]/\H a=some (.dK kvs)/\Q (.int kvs.length) H):=by
 rintro H vs xs Q Q' r ⟨x,n,rfl,e,q⟩ k
 obtain ⟨v,rfl,r1⟩:=r.one
 have fin:∀ {m:Nat},m=n->Q' (.int m) H:=fun {m} z=>by rw [z]; exact k _ _ _ (aD.refl _) (.int _) q
 cases r1 with
 | tup h r2=>cases e; exact .inl ⟨_,_,rfl,.inr (aR.of h),fin r2.length⟩
 | lst m h r2=>cases e; exact .inl ⟨_,_,rfl,.inl (aM.of h),fin r2.length⟩
 | scr h=>cases e; exact .inl ⟨_,_,rfl,.inl h.sqL,fin (by rw [bb8])⟩
 | kt h r2=>cases e; exact .inl ⟨_,_,rfl,.inr (.inr h),fin r2.length⟩
 | dK m h e' r=>
  cases e
  refine .inr ⟨_,_,rfl,h,fin ?_⟩
  have:=congrArg List.length e'
  rw [bb8,bb8] at this
  exact this
 | _=>cases e
noncomputable def seqT:PV->Option (List PV)
 | .kt _=>none
 | x=>iU x
noncomputable def N3:List PV->(PV->Prop)->Prop:=fun xs Q=>∃ x ys,xs = [x]/\seqT x=some ys/\flats ys=true/\Q (.tup ys)
noncomputable def w5:List PV->(PV->Prop)->Prop:=fun xs Q=>∃ x ys,xs = [x]/\iU x=some ys/\flats ys=true/\Q (.lst ys)
theorem ay2:fO X (fun xs Q=>N3 xs Q/\∀ ns,xs ≠ [.scr ns]) (fun xs H Q=>∃ p ys,xs = [.ref p]/\((aM X.K H p ys/\∀ l,H l=none->Q (.ref l) (upd H l (.tup ys))) ∨ (aR X.K H p ys/\Q (.ref p) H))):=by
 rintro H vs xs Q Q' r ⟨⟨x,ys,rfl,e,f,q⟩,nsc⟩ k
 obtain ⟨v,rfl,r1⟩:=r.one
 cases r1 with
 | tup h r2=>cases e; exact⟨_,_,rfl,.inr ⟨aR.of h,k _ _ _ (aD.refl _) (.tup h (r2.flat f)) q⟩⟩
 | lst m h r2=>cases e; exact⟨_,_,rfl,.inl ⟨aM.of h,fun l hl=>k _ _ _ (bK hl _) (.tup bM ((r2.flat f).same (bK hl _) fun _ z=>z)) q⟩⟩
 | scr h=>exact absurd rfl (nsc _)
 | _=>cases e
theorem ay3:fO X w5 (fun xs H Q=>∃ p ys,xs = [.ref p]/\(aM X.K H p ys ∨ aR X.K H p ys)/\∀ l,H l=none->Q (.ref l) (upd H l (.lst ys))):=by
 rintro H vs xs Q Q' r ⟨x,ys,rfl,e,f,q⟩ k
 obtain ⟨v,rfl,r1⟩:=r.one
 obtain ⟨a,us,rfl,hs,r2⟩:=r1.seq e
 exact⟨_,_,rfl,hs,fun l hl=>k _ _ _ (bK hl _) (.lst hl bM ((r2.flat f).same (bK hl _) fun _ z=>z)) q⟩
noncomputable def rM:List PV->(PV->Prop)->Prop:=fun xs Q=>∃ ns,xs = [.lst (intz ns)]/\ns.length < 64/\∀ ms:List Int,ms.Perm ns->ms.Pairwise (· <= ·)->Q (.lst (intz ms))
theorem ay4:fO X rM (K1 X.K):=by
 rintro H vs xs Q Q' r ⟨ns,rfl,hl,q⟩ k
 obtain ⟨v,rfl,r1⟩:=r.one
 obtain ⟨a,us,rfl,_,h,r2⟩:=r1.sqL
 obtain rfl:=r2.ofInts
 exact⟨a,ns,rfl,aM.of h,hl,fun l ms hl' p o=>k _ _ _ (bK hl' _) (.lst hl' bM (Reps.intz ms)) (q ms p o)⟩
noncomputable def w6:List PV->(PV->Prop)->Prop:=fun xs Q=>∃ bs:List Bool,xs = [.lst (bs.map PV.bl)]/\Q (.bl (bs.all id))
theorem Reps.ofBls {K:PySem.W.Frag}{M:Addr->Prop}{H:Hp}:∀ {ns:List Bool}{us:List V},Reps K M H us (ns.map PV.bl)->us=ns.map V.bl
 | [],_,.nil=>rfl
 | n :: r,_,.cons q t=>by
  cases q
  rw [Reps.ofBls t]; rfl
theorem ay5:fO X w6 (fun xs H Q=>∃ (a:Addr) (bs:List Bool),xs = [.ref a]/\aM X.K H a (bs.map V.bl)/\Q (.bl (bs.all id)) H):=by
 rintro H vs xs Q Q' r ⟨bs,rfl,q⟩ k
 obtain ⟨v,rfl,r1⟩:=r.one
 obtain ⟨a,us,rfl,_,h,r2⟩:=r1.sqL
 obtain rfl:=r2.ofBls
 exact⟨a,bs,rfl,aM.of h,k _ _ _ (aD.refl _) (.bl _) q⟩
noncomputable def mS:List PV->(PV->Prop)->Prop:=fun xs Q=>∃ i j,xs = [.int i,.int j]/\Q (.int (if j < i then j else i))
noncomputable def kN:List PV->(PV->Prop)->Prop:=fun xs Q=>∃ i j,xs = [.int i,.int j]/\Q (.int (if j > i then j else i))
theorem ay6:fO X mS (fun xs H Q=>∃ i j,xs = [.int i,.int j]/\Q (.int (if j < i then j else i)) H):=by
 rintro H vs xs Q Q' r ⟨i,j,rfl,q⟩ k
 obtain ⟨v,w,rfl,r1,r2⟩:=r.two
 cases r1; cases r2
 exact⟨i,j,rfl,k _ _ _ (aD.refl _) (.int _) q⟩
theorem ay7:fO X kN (fun xs H Q=>∃ i j,xs = [.int i,.int j]/\Q (.int (if j > i then j else i)) H):=by
 rintro H vs xs Q Q' r ⟨i,j,rfl,q⟩ k
 obtain ⟨v,w,rfl,r1,r2⟩:=r.two
 cases r1; cases r2
 exact⟨i,j,rfl,k _ _ _ (aD.refl _) (.int _) q⟩
noncomputable abbrev bH:=List PV->(PV->Prop)->Prop
noncomputable def oS (K:PySem.W.Frag) (p:bH):Sp:=fun vs H Q _=>∃ xs Qp,Reps K (fun _=>True) H vs xs/\p xs Qp/\∀ v H' x,aD H H'->aI K (fun a=>H a=none) H' v x->Qp x->Q v H'
theorem ay8 {p:bH}{E:XK} (h:LE X (aB p tr) σ H Q'):uF (oS X.K p) [] E (LA X tr) σ H Q':=by
 obtain ⟨W,ρ,Q,px,q,k⟩:=h
 refine⟨W,ρ,_,px,q,fun vs H1 xs s1 r1 q1=>⟨_,_,by rw [bj0]; exact r1.any,q1,fun v H' x s2 r2 q2=>k v H' x .fr (s1.trans s2) (r2.same (aD.refl _) fun _ z=>s1.free z) q2⟩⟩
noncomputable def ay9:PV->Option Bool
 | .non=>some false
 | .bl b=>some b
 | .int i=>some (i != 0)
 | .tup xs=>some (!xs.isEmpty)
 | .lst xs=>some (!xs.isEmpty)
 | .dK ps=>some (!ps.isEmpty)
 | _=>none
noncomputable def mT (t:aF):cN:=fun ρ Q=>t ρ fun x _=>∃ b,ay9 x=some b/\Q b
theorem w9 {α β:Type}:∀ {l:List α}{m:List β},l.length=m.length->l.isEmpty=m.isEmpty
 | [],[],_=>rfl
 | _ :: _,_ :: _,_=>rfl
theorem az0 {t:aF}{Qb:Bool->Hp->Prop} (h:LT X (mT t) σ H Qb):LE X t σ H fun x H'=>∃ k,uA X.K x H' k/\Qb k H':=by
 obtain ⟨W,ρ,Q,px,q,k⟩:=h
 refine⟨W,ρ,_,px,q,?_⟩
 rintro v H1 x g s r ⟨b,e,q⟩
 refine⟨b,?_,k _ _ s q⟩
 cases r with
 | non=>cases e; rfl
 | bl b=>cases e; rfl
 | int i=>cases e; rfl
 | str x=>cases e
 | tup h r=>cases e; exact .inr (.inl ⟨_,aR.of h,by rw [w9 r.length]⟩)
 | lst m h r=>cases e; exact .inl ⟨_,aM.of h,by rw [w9 r.length]⟩
 | dK m h e' r=>
  cases e
  refine .inr (.inr ⟨_,h,?_⟩)
  have:=congrArg List.length e'
  rw [bb8,bb8] at this
  rw [w9 this]
 | dT m h e' r=>cases e
 | scr h=>cases e
 | kt h r=>cases e
 | exc h e' c=>cases e
 | fK h e' r=>cases e
 | fT h e' r=>cases e
noncomputable def wA:PV->Bool
 | .non=>true
 | _=>false
noncomputable def wB (neg:Bool):PV->Tg->PV->Tg->PK->Prop:=fun x _ y _ Q=>y = .non/\Q (.bl (if neg=true then !wA x else wA x)) .fr
theorem az1 {K:PySem.W.Frag}{M:Addr->Prop}{H:Hp}{v:V}{x:PV} (r:aI K M H v x):decide (v = .non)=wA x:=by
 cases r <;> rfl
theorem az2:eS X (wB false) (fun x y H Q=>y = .non/\Q (.bl (decide (x = .non))) H):=by
 rintro W Hs H u v x y g g' Q Q' s n r1 r2 ⟨rfl,q⟩ k
 cases r2
 exact⟨rfl,by rw [az1 r1]; exact k _ _ _ _ (aD.refl _) (.bl _) q⟩
end
structure rN (K:PySem.W.Frag) (H0:Hp) (W:Addr->Prop) (g:Bool) (H1:Hp) (J:It) (xs:List PV):Prop where
 go:∀ W' H' i,Ev W H1 W' H'->i < xs.length->J.go i H'
 yld:∀ W' H' i v H2,Ev W H1 W' H'->J.yld i H' v H2->i < xs.length->aD H' H2/\∃ x,xs[i]? = some x/\aI K (Ms H0 W' g) H2 v x
 stop:∀ W' H',Ev W H1 W' H'->J.stop xs.length H'
noncomputable abbrev fP:=bJ->(List PV->Bool->Prop)->Prop
noncomputable def LI (X:Cx) (t:fP):TI:=fun σ H R=>∃ (W:Addr->Prop) (ρ:bJ) (Q:List PV->Bool->Prop),PX X.K X.H₀ W σ ρ H/\t ρ Q/\∀ J H1 xs g,aD H H1->rN X.K X.H₀ W g H1 J xs->Q xs g->R J H1
theorem Ev.keep {H0:Hp}{W W':Addr->Prop}{H H':Hp}{g:Bool} (e:Ev W H W' H') (tw:∀ a,W a->∃ o,H a=some o/\jW o=true):iD (Ms H0 W g) (Ms H0 W' g) H H':=by
 have m:∀ {a:Addr}{o:HO},Ms H0 W g a->H a=some o->Ms H0 W' g a/\H' a=some o:=fun {a o} z h=>by
  cases g with
  | true=>
   obtain ⟨h1,h2⟩:=e a _ h z.1
   exact⟨⟨h2,z.2⟩,h1⟩
  | false=>
   obtain ⟨h1,h2⟩:=e a _ h z
   exact⟨h2,h1⟩
 refine⟨fun a _ z h=>m z h,fun a _ z h=>m z h,fun a _ z h=>m z h,fun a _ h=>(e a _ h fun z=>?_).1,fun a _ _ h=>(e a _ h fun z=>?_).1⟩
 ·obtain ⟨o,h',mu⟩:=tw a z; rw [h] at h'; cases h'; cases mu
 ·obtain ⟨o,h',mu⟩:=tw a z; rw [h] at h'; cases h'; cases mu
section
variable {X : Cx} {σ : St} {H : Hp} {te : aF} {tr : cO} {R : It → Hp → Prop}
noncomputable def N4 (K:PySem.W.Frag) (tl:TE):TI:=fun σ H R=>tl σ H fun x H1=>∃ a,x = .ref a/\((∃ xs,aM K H1 a xs/\R (mF K a) H1) ∨ (∃ xs,aR K H1 a xs/\R (kF K a) H1))
noncomputable def wC:Tg->List PV->Bool
 | .fr,_=>true
 | .nw,_=>true
 | _,xs=>flats xs
noncomputable def dM (te:aF):fP:=fun ρ Q=>te ρ fun x g=>∃ xs,iU x=some xs/\(g = .rd->flat x=true)/\Q xs (wC g xs)
theorem N5 {K:PySem.W.Frag}{H0:Hp}{W:Addr->Prop}{g:Bool}{H1:Hp}{a:Addr}{us:List V}{xs:List PV} (tw:∀ a,W a->∃ o,H1 a=some o/\jW o=true) (ha:∀ W' H',Ev W H1 W' H'->aM K H' a us) (r:Reps K (Ms H0 W g) H1 us xs):rN K H0 W g H1 (mF K a) xs:=by
 have lr:=r.length
 refine⟨fun W' H' i e hi=>⟨us,us[i]'(by omega),ha W' H' e,by simp⟩,fun W' H' i v H2 e y hi=>?_,fun W' H' e=>⟨us,ha W' H' e,by omega⟩⟩
 obtain ⟨rfl,y⟩:=y
 obtain ⟨x,hx,rx⟩:=r.get (y us (ha W' _ e))
 exact⟨aD.refl _,x,hx,rx.keep (e.keep tw)⟩
theorem N6 {K:PySem.W.Frag}{H0:Hp}{W:Addr->Prop}{g:Bool}{H1:Hp}{a:Addr}{us:List V}{xs:List PV} (tw:∀ a,W a->∃ o,H1 a=some o/\jW o=true) (ha:∀ W' H',Ev W H1 W' H'->aR K H' a us) (r:Reps K (Ms H0 W g) H1 us xs):rN K H0 W g H1 (kF K a) xs:=by
 have lr:=r.length
 refine⟨fun W' H' i e hi=>⟨us,us[i]'(by omega),ha W' H' e,by simp⟩,fun W' H' i v H2 e y hi=>?_,fun W' H' e=>⟨us,ha W' H' e,by omega⟩⟩
 obtain ⟨rfl,y⟩:=y
 obtain ⟨x,hx,rx⟩:=r.get (y us (ha W' _ e))
 exact⟨aD.refl _,x,hx,rx.keep (e.keep tw)⟩
theorem oT {K:PySem.W.Frag}{H0 Hs H:Hp}{W:Addr->Prop}{σ:St}{ρ:bJ}{g:Tg}{us:List V}{xs:List PV} (px:PX K H0 W σ ρ Hs) (hg:g = .rd->flats xs=true) (r:Reps K (Mg H0 W Hs g) H us xs):Reps K (Ms H0 W (wC g xs)) H us xs:=by
 cases g with
 | fr=>exact r.same (aD.refl _) fun _ z=>px.new z
 | nw=>exact r.same (aD.refl _) fun _ z=>z
 | sh=>
  show Reps K (Ms H0 W (flats xs)) H us xs
  cases e:flats xs with
  | true=>exact r.flat e
  | false=>exact r.same (aD.refl _) fun _ z=>z
 | rd=>exact r.flat (hg rfl)
theorem az3 (h:LI X (dM te) σ H R):N4 X.K (LE X te) σ H R:=by
 obtain ⟨W,ρ,Q,px,q,k⟩:=h
 refine⟨W,ρ,_,px,q,?_⟩
 rintro v H1 x g s r ⟨xs,e,hg,q⟩
 have px1:=px.mono s
 have tw:∀ a,W a->∃ o,H1 a=some o/\jW o=true:=fun a z=>(px1.wm a z).2
 cases r with
 | tup h r=>
  cases e
  refine⟨_,rfl,.inr ⟨_,aR.of h,k _ _ _ _ s (N6 tw (fun W' H' e=>aR.of (e _ _ h fun z=>?_).1) (oT px (fun z=>by have:=hg z; unfold flat at this; exact this) r)) q⟩⟩
  obtain ⟨o,h',mu⟩:=tw _ z; rw [h] at h'; cases h'; cases mu
 | @lst a us xs' m h r=>
  cases e
  have wa : ¬ W a:=by
   cases g with
   | fr=>exact (px.new m).1
   | nw=>exact m.1
   | sh=>exact m
   | rd=>have:=hg rfl; unfold flat at this; cases this
  exact⟨_,rfl,.inl ⟨_,aM.of h,k _ _ _ _ s (N5 tw (fun W' H' e=>aM.of (e _ _ h wa).1) (oT px (fun z=>by have:=hg z; unfold flat at this; cases this) r)) q⟩⟩
 | scr h=>
  cases e
  refine⟨_,rfl,.inl ⟨_,h.sqL,k _ _ _ _ s (N5 tw (fun W' H' e=>(jV.keep (fun a o u hz=>(e _ _ hz fun z=>?_).1) h).sqL) (oT (g:=g) px (fun z=>eF _) (Reps.intz _))) q⟩⟩
  obtain ⟨o,h',mu⟩:=tw _ z; rw [hz] at h'; cases h'; cases mu
 | kt h r=>
  cases e
  exact⟨_,rfl,.inr ⟨_,.inr h,k _ _ _ _ s (N6 tw (fun W' H' e=>.inr h) (oT px (fun z=>by have:=hg z; unfold flat at this; exact this) r)) q⟩⟩
 | _=>cases e
noncomputable def fD (lo:Int) (n:Nat):List PV:=(List.range n).map fun (i:Nat)=>PV.int (lo+(i:Int))
theorem fE (lo:Int) (n:Nat):(fD lo n).length=n:=by unfold fD; rw [bb8,List.length_range]
theorem wD {lo:Int}{n i:Nat} (h:i < n):(fD lo n)[i]? = some (.int (lo+i)):=by unfold fD; rw [bd1,List.getElem?_range h]; rfl
noncomputable def iV (te:aF):fP:=fun ρ Q=>te ρ fun x _=>∃ j:Int,x = .int j/\-1000000<=j/\j<=1000000/\Q (fD 0 j.toNat) true
noncomputable def rO (ta tb:aF):fP:=fun ρ Q=>ta ρ fun x _=>tb ρ fun y _=>∃ i j:Int,x = .int i/\y = .int j/\(-1000000<=i/\i<=1000000/\-1000000<=j/\j<=1000000)/\Q (fD i (j - i).toNat) true
theorem N7 {K:PySem.W.Frag}{H0:Hp}{W:Addr->Prop}{H1:Hp} (lo:Int) (n:Nat):rN K H0 W true H1 (nX lo n) (fD lo n):=by
 refine⟨fun W' H' i e hi=>by rw [fE] at hi; exact hi,fun W' H' i v H2 e y hi=>?_,fun W' H' e=>by show n<=(fD lo n).length; rw [fE]; exact bc5 _⟩
 rw [fE] at hi
 obtain ⟨rfl,rfl⟩:=y
 exact⟨aD.refl _,_,wD hi,.int _⟩
theorem az4 (h:LI X (iV te) σ H R):zT (iS (LE X te) kG) σ H R:=by
 obtain ⟨W,ρ,Q,px,q,k⟩:=h
 refine⟨W,ρ,_,px,q,?_⟩
 rintro v H1 x g s r ⟨j,rfl,h1,h2,q⟩
 cases r
 exact⟨j,rfl,by omega,by omega,k _ _ _ _ s (N7 0 j.toNat) q⟩
theorem az5 {ta tb:aF} (h:LI X (rO ta tb) σ H R):zU (iS (LE X ta) (iS (LE X tb) kG)) σ H R:=by
 obtain ⟨W,ρ,Q,px,q,k⟩:=h
 refine⟨W,ρ,_,px,q,fun v H1 x g s r q=>⟨W,ρ,_,px.mono s,q,?_⟩⟩
 rintro w H2 y g' s2 r2 ⟨i,j,rfl,rfl,h,q⟩
 cases r; cases r2
 exact⟨i,j,rfl,by omega,k _ _ _ _ (s.trans s2) (N7 i (j - i).toNat) q⟩
end
noncomputable abbrev iW:=PV->Bool->bJ->(bJ->Prop)->Prop
noncomputable def mU (K:PySem.W.Frag) (own:Nat->Prop) (p:iW) (t:TG):Prop:=∀ (H0:Hp) (W:Addr->Prop) (σ:St) (ρ:bJ) (H:Hp) (v:V) (x:PV) (g:Bool) (Q:bJ->Prop) (Q':St->Hp->Prop),
 PX K H0 W σ ρ H->aI K (Ms H0 W g) H v x->p x g ρ Q->(∀ σ' ρ',PX K H0 W σ' ρ' H->(∀ i,¬ own i->σ'[i]? = σ[i]?)->σ'.length=σ.length->Q ρ'->Q' σ' H)->t v σ H Q'
noncomputable def bZ (i:Nat):iW:=fun x g ρ Q=>Q (ρ.set i (some (.sh (g || flat x) x)))
theorem rP {K:PySem.W.Frag}{H0 H:Hp}{W:Addr->Prop}{v:V}{x:PV}{g:Bool} (r:aI K (Ms H0 W g) H v x):aI K (Ms H0 W (g || flat x)) H v x:=by
 cases g with
 | true=>exact r
 | false=>
  show aI K (Ms H0 W (flat x)) H v x
  cases e:flat x with
  | true=>exact r.flat e
  | false=>exact r
theorem mV (K:PySem.W.Frag) (i:Nat):mU K (· = i) (bZ i) (cG i):=by
 intro H0 W σ ρ H v x g Q Q' px r q k
 exact k _ _ (px.setSh (rP r)) (fun j hj=>by rw [be7 (Ne.symm hj)]) (bg1 ..) q
noncomputable def eI (i j:Nat):iW:=fun x g ρ Q=>∃ y z,x = .tup [y,z]/\Q ((ρ.set i (some (.sh (g || flat y) y))).set j (some (.sh (g || flat z) z)))
theorem oU (K:PySem.W.Frag) (i j:Nat):mU K (fun k=>k=i ∨ k=j) (eI i j) (jJ K 2 (eN (cG i) (eN (cG j) jI))):=by
 intro H0 W σ ρ H v x g Q Q' px r q k
 obtain ⟨y,z,rfl,q⟩:=q
 obtain ⟨a,us,rfl,h,r⟩:=r.sqT
 obtain ⟨u1,u2,rfl,r1,r2⟩:=r.two
 refine⟨a,_,rfl,aR.of h,rfl,u1,_,rfl,u2,_,rfl,rfl,k _ _ ((px.setSh (rP r1)).setSh (rP r2)) (fun k hk=>?_) (by rw [bg1,bg1]) q⟩
 rw [be7 (fun e=>hk (.inr e.symm)),be7 (fun e=>hk (.inl e.symm))]
section
variable {X : Cx} {σ : St} {H : Hp} {D : dH}
noncomputable def eJ (ti:fP) (p:iW) (tb:aK):aK:=fun D ρ=>ti ρ fun xs g=>∃ I:Nat->bJ->Prop,I 0 ρ/\(∀ i x ρ',xs[i]? = some x->I i ρ'->p x g ρ' fun ρ2=>tb { D with nx:=I (i+1),ct:=I (i+1),bk:=D.nx } ρ2)/\∀ ρ',I xs.length ρ'->D.nx ρ'
theorem az6 {ti:fP}{p:iW}{g:TG}{tb:aK}{own:Nat->Prop} (hg:mU X.K own p g) (h:LS X (eJ ti p tb) D σ H):zV (LI X ti) g (LS X tb) D σ H:=by
 obtain ⟨W,ρ,D',px,q,k⟩:=h
 refine⟨W,ρ,_,px,q,?_⟩
 rintro J H1 xs gb s it ⟨I,i0,turn,fin⟩
 refine⟨fun i m σ2 H2=>m=xs.length - i/\i<=xs.length/\∃ W2 ρ2,PX X.K X.H₀ W2 σ2 ρ2 H2/\Ev W H1 W2 H2/\I i ρ2,⟨xs.length,by omega,bg8 _,W,ρ,px.mono s,Ev.refl _ _,i0⟩,?_⟩
 rintro i m σ2 H2 ⟨rfl,hi,W2,ρ2,px2,e2,i2⟩
 have e0:Ev W H W2 H2:=(Ev.same s).trans e2
 by_cases hlt:i < xs.length
 ·refine .inr ⟨it.go W2 H2 i e2 hlt,fun σ3 H3=>∃ W3 ρ3,PX X.K X.H₀ W3 σ3 ρ3 H3/\Ev W H1 W3 H3/\I (i+1) ρ3,fun σ3 H3 ⟨W3,ρ3,a,b,c⟩=>⟨xs.length - (i+1),by omega,rfl,hlt,W3,ρ3,a,b,c⟩,fun v H3 y=>?_⟩
  obtain ⟨s3,x,hx,rx⟩:=it.yld W2 H2 i v H3 e2 y hlt
  refine hg X.H₀ W2 σ2 ρ2 H3 v x gb _ _ (px2.mono s3) rx (turn i x ρ2 hx i2) fun σ4 ρ4 px4 _ _ q4=>?_
  have e3:Ev W H1 W2 H3:=e2.trans (Ev.same s3)
  have e3':Ev W H W2 H3:=e0.trans (Ev.same s3)
  exact⟨W2,ρ4,_,px4,q4,fun W' σ' H' ρ' e p q=>⟨W',ρ',p,e3.trans e,q⟩,k.rt,fun W' σ' H' ρ' e p q=>k.nx W' σ' H' ρ' (e3'.trans e) p q,fun W' σ' H' ρ' e p q=>⟨W',ρ',p,e3.trans e,q⟩⟩
 ·have e:i=xs.length:=by omega
  subst e
  exact .inl ⟨it.stop W2 H2 e2,k.nx W2 σ2 H2 ρ2 e0 px2 (fin ρ2 i2)⟩
end
noncomputable def mW (fr:List (Option Nat)) (ρ:bJ):bJ:=fr.map fun o=>o.bind fun j=>(ρ[j]?).join.map fun m=>Slot.sh false m.val
noncomputable def lS (D:Addr):Addr->Prop:=fun a=>a=D
theorem az7 {K:PySem.W.Frag}{H0:Hp}{W:Addr->Prop}{σ:St}{ρ:bJ}{H1 H':Hp}{D:Addr}{acc:List V}{fr:List (Option Nat)} (px:PX K H0 W σ ρ H1) (hD:H1 D=none) (s:aD H1 H') (ha:H' D=some (.lst acc)) :
  PX K H1 (lS D) (gE fr σ) (mW fr ρ) H':=by
 have old:∀ {a:Addr}{o:HO},H1 a=some o->a ≠ D:=fun {a o} e z=>by rw [z,hD] at e; cases e
 refine⟨by unfold gE mW; rw [bb8,bb8],s,fun a z=>by cases z; exact⟨hD,_,ha,rfl⟩,fun i m h=>?_,fun i j x y a h1=>?_⟩
 ·unfold mW at h
  rw [bd1] at h
  cases ef:fr[i]? with
  | none=>rw [ef] at h; cases h
  | some o=>
   rw [ef] at h
   cases o with
   | none=>cases h
   | some j=>
    have h:some ((ρ[j]?).join.map fun m=>Slot.sh false m.val)=some (some m):=h
    cases er:ρ[j]? with
    | none=>rw [er] at h; cases h
    | some o=>
     rw [er] at h
     cases o with
     | none=>cases h
     | some m0=>
      cases h
      obtain ⟨v,ev,r⟩:=px.sl j m0 er
      refine⟨v,?_,?_⟩
      ·unfold gE
       rw [bd1,ef]
       show some ((σ[j]?).join)=_
       rw [ev]; rfl
      ·have r':aI K (fun _=>True) H1 v m0.val:=(M0 (Hs:=H1) r).same (aD.refl _) fun _ _=>trivial
       exact r'.keep ⟨fun a _ _ e=>⟨old e,s _ _ e⟩,fun a _ _ e=>⟨old e,s _ _ e⟩,fun a _ _ e=>⟨old e,s _ _ e⟩,fun _ _ e=>s _ _ e,fun _ _ _ e=>s _ _ e⟩
 ·unfold mW at h1
  rw [bd1] at h1
  cases ef:fr[i]? with
  | none=>rw [ef] at h1; cases h1
  | some o=>
   rw [ef] at h1
   cases o with
   | none=>cases h1
   | some j=>
    have h1:some ((ρ[j]?).join.map fun m=>Slot.sh false m.val)=some (some (Slot.own x)):=h1
    cases er:ρ[j]? with
    | none=>rw [er] at h1; cases h1
    | some o=>
     rw [er] at h1
     cases o with
     | none=>cases h1
     | some m0=>cases h1
section
variable {X : Cx} {σ : St} {H : Hp} {Q' : VK}
noncomputable abbrev _root_.L2.Cx.frm (X:Cx) (H1:Hp):Cx:={ X with H₀:=H1 }
noncomputable def cS (ti:fP) (fr:List (Option Nat)) (p:iW) (tc:cN) (te:aF):aF:=fun ρ Q=>ti ρ fun xs g=>xs.length<=16000000/\∃ I:Nat->List PV->Prop,I 0 []/\
 (∀ i x acc,xs[i]? = some x->I i acc->p x false (mW fr ρ) fun ρ2=>tc ρ2 fun b=>if b=true then te ρ2 fun y gy=>Nw gy y/\I (i+1) (acc ++ [y]) else I (i+1) acc)/\∀ acc,I xs.length acc->Q (.lst acc) .fr
theorem kO {ti:fP}{fr:List (Option Nat)}{p:iW}{g:TG}{tc:cN}{te:aF}{own:Nat->Prop} (hg:mU X.K own p g) (ho:∀ i,own i->fr[i]? = some none) (h:LE X (cS ti fr p tc te) σ H Q') :
  vA (LI X ti) fr (fun _=>g) (fun H1=>LT (X.frm H1) tc) (fun H1=>LE (X.frm H1) te) σ H Q':=by
 obtain ⟨W,ρ,Q,px,q,k⟩:=h
 refine⟨W,ρ,_,px,q,?_⟩
 rintro J H1 xs gb s it ⟨hl,I,i0,turn,fin⟩ D hD
 have px1:=px.mono s
 refine⟨fun i m acc H'=>m=xs.length - i/\i<=xs.length/\aD H1 H'/\H' D=some (.lst acc)/\∃ ys,Reps X.K (Ms H1 (lS D) true) H' acc ys/\ys.length<=i/\I i ys,⟨xs.length,by omega,bg8 _,bK hD _,bM,[],.nil,bc5 _,i0⟩,?_⟩
 rintro i m acc H' ⟨rfl,hi,sm,ha,ys,ry,hy,iy⟩
 refine⟨ha,?_⟩
 have ev:Ev W H1 (mQ W D) H':=Ev.own sm hD
 by_cases hlt:i < xs.length
 ·refine .inr ⟨it.go _ H' i ev hlt,fun v H2 y=>?_⟩
  obtain ⟨s2,x,hx,rx⟩:=it.yld _ H' i v H2 ev y hlt
  have ha2:=s2 _ _ ha
  have pxb:PX X.K H1 (lS D) (gE fr σ) (mW fr ρ) H2:=az7 px1 hD (sm.trans s2) ha2
  have rx':aI X.K (Ms H1 (lS D) false) H2 v x:=rx.same (aD.refl _) fun a z=>by
   cases gb with
   | true=>exact fun e=>z.1 (.inr e)
   | false=>exact fun e=>z (.inr e)
  refine hg H1 (lS D) _ _ H2 v x false _ _ pxb rx' (turn i x ys hx iy) fun σ2 ρ2 px2 hown hlen q2=>⟨⟨hlen.symm,fun j w e=>?_⟩,?_⟩
  ·by_cases oj:own j
   ·have:=ho j oj
    unfold gE at e
    rw [bd1,this] at e
    cases e
   ·rw [hown j oj]; exact e
  ·refine⟨lS D,ρ2,_,px2,q2,fun b H4 s4 q4=>?_⟩
   have ha4:=s4 _ _ ha2
   have sm4:=(sm.trans s2).trans s4
   cases b with
   | false=>
    refine bB ⟨xs.length - (i+1),by omega,rfl,hlt,sm4,ha4,ys,ry.same (s2.trans s4) fun _ z=>z,by omega,by simpa using q4⟩
   | true=>
    refine bD ⟨lS D,ρ2,_,px2.mono s4,by simpa using q4,?_⟩
    rintro w H5 y gy s5 ryy ⟨nw,q5⟩
    have ha5:=s5 _ _ ha4
    have lr:=ry.length
    refine⟨ha5,hZ (by omega),xs.length - (i+1),by omega,rfl,hlt,fun b o e=>?_,bM,ys ++ [y],?_,by rw [bd3,bf6]; omega,q5⟩
    ·rw [b7 (fun z=>by rw [z,hD] at e; cases e)]
     exact s5 _ _ (sm4 _ _ e)
    ·exact ((ry.same ((s2.trans s4).trans s5) fun _ z=>z).append (.cons (Nw.rep (px2.mono s4) nw ryy) .nil)).keep (.upd ha5 rfl fun b m=>⟨m.1,m⟩)
 ·have e:i=xs.length:=by omega
  subst e
  refine .inl ⟨it.stop _ H' ev,k _ H' _ .fr (s.trans sm) (.lst (s.free hD) ha (ry.same (aD.refl _) fun _ z=>s.free z.2)) (fin ys iy)⟩
noncomputable def dB:cN:=fun _ Q=>Q true
theorem az8 {Qb:Bool->Hp->Prop} (h:LT X dB σ H Qb):v3 σ H Qb:=by
 obtain ⟨W,ρ,Q,px,q,k⟩:=h
 exact k _ _ (aD.refl _) q
end
section
variable {κ : Type} [DecidableEq κ]
noncomputable def dA (ps:List (κ × PV)) (k:κ):Option PV:=(ps.find? fun p=>decide (p.1=k)).map (·.2)
noncomputable def fQ (ps:List (κ × PV)) (k:κ) (x:PV):List (κ × PV):=if (ps.any fun p=>decide (p.1=k))=true then ps.map (fun p=>if p.1=k then (p.1,x) else p) else ps ++ [(k,x)]
variable {K : PySem.W.Frag} {M : Addr → Prop} {H : Hp}
theorem jY (k:κ):∀ {kvs:List (κ × V)}{ps:List (κ × PV)},kvs.map (·.1)=ps.map (·.1)->Reps K M H (kvs.map (·.2)) (ps.map (·.2))->(dA ps k=none->fN kvs k=none)/\∀ x,dA ps k=some x->∃ v,fN kvs k=some v/\aI K M H v x
 | [],[],_,_=>⟨fun _=>rfl,fun x h=>by cases h⟩
 | [],_ :: _,e,_=>by cases e
 | _ :: _,[],e,_=>by cases e
 | (k1,v) :: kvs,(k2,x) :: ps,e,r=>by
  injection e with e1 e2
  have e1:k1=k2:=e1
  subst e1
  cases r with
  | cons r t=>
   obtain ⟨h1,h2⟩:=jY k e2 t
   unfold dA fN at h1 h2 ⊢
   by_cases e:k1=k
   ·simp only [bl8,e,decide_true,Option.map_some]
    exact⟨fun z=>(by cases z),fun y z=>(by cases z; exact⟨v,rfl,r⟩)⟩
   ·simp only [bl8,e,decide_false]
    exact⟨h1,h2⟩
theorem az9 (k:κ) {kvs:List (κ × V)}{ps:List (κ × PV)} (e:kvs.map (·.1)=ps.map (·.1)):(kvs.any fun p=>decide (p.1=k))=ps.any fun p=>decide (p.1=k):=by
 have h1:(kvs.any fun p=>decide (p.1=k))=(kvs.map (·.1)).any fun z=>decide (z=k):=by rw [List.any_map]; rfl
 have h2:(ps.any fun p=>decide (p.1=k))=(ps.map (·.1)).any fun z=>decide (z=k):=by rw [List.any_map]; rfl
 rw [h1,h2,e]
theorem N8 (k:κ) {w:V}{y:PV} (q:aI K M H w y):∀ {kvs:List (κ × V)}{ps:List (κ × PV)},kvs.map (·.1)=ps.map (·.1)->Reps K M H (kvs.map (·.2)) (ps.map (·.2))->
  (kvs.map fun kv=>if kv.1=k then (kv.1,w) else kv).map (·.1)=(ps.map fun kv=>if kv.1=k then (kv.1,y) else kv).map (·.1)/\Reps K M H ((kvs.map fun kv=>if kv.1=k then (kv.1,w) else kv).map (·.2)) ((ps.map fun kv=>if kv.1=k then (kv.1,y) else kv).map (·.2))
 | [],[],_,_=>⟨rfl,.nil⟩
 | [],_ :: _,e,_=>by cases e
 | _ :: _,[],e,_=>by cases e
 | (k1,v) :: kvs,(k2,x) :: ps,e,r=>by
  injection e with e1 e2
  have e1:k1=k2:=e1
  subst e1
  cases r with
  | cons r t=>
   obtain ⟨h1,h2⟩:=N8 k q e2 t
   by_cases e:k1=k
   ·simp only [bi1,e,if_true]
    exact⟨by rw [h1],.cons q h2⟩
   ·simp only [bi1,e,bi5]
    exact⟨by rw [h1],.cons r h2⟩
theorem aA0 (k:κ) {w:V}{y:PV} (q:aI K M H w y) {kvs:List (κ × V)}{ps:List (κ × PV)} (e:kvs.map (·.1)=ps.map (·.1)) (r:Reps K M H (kvs.map (·.2)) (ps.map (·.2))) :
  (eD kvs k w).map (·.1)=(fQ ps k y).map (·.1)/\Reps K M H ((eD kvs k w).map (·.2)) ((fQ ps k y).map (·.2)):=by
 unfold eD fQ
 rw [az9 k e]
 split
 ·exact N8 k q e r
 ·rw [bd8,bd8,bd8,bd8,e]
  exact⟨rfl,r.append (.cons q .nil)⟩
end
noncomputable def kP:aJ->PV
 | .inl i=>.int i
 | .inr x=>.str x
theorem wE {K:PySem.W.Frag}{M:Addr->Prop}{H:Hp}{v:V}{k:aJ} (r:aI K M H v (kP k)):v=kV k:=by
 cases k with
 | inl i=>cases r; rfl
 | inr x=>cases r; rfl
theorem N9 {K:PySem.W.Frag}{M:Addr->Prop}{H:Hp}:∀ {ks:List aJ}{us:List V},Reps K M H us (ks.map kP)->us=ks.map kV
 | [],_,.nil=>rfl
 | k :: r,_,.cons q t=>by rw [wE q,N9 t]; rfl
noncomputable def O0:PV->PV
 | .fK ps=>.dK ps
 | .fT ps=>.dT ps
 | x=>x
noncomputable def O1 (x y:PV) (o:Option PV):Prop:=(∃ ps k,O0 x = .dK ps/\y=kP k/\o=dA ps k) ∨ (∃ ps k,O0 x = .dT ps/\y = .tup (k.map kP)/\o=dA ps k)
theorem O3 {K:PySem.W.Frag}{M M2:Addr->Prop}{H:Hp}{v w:V}{x y:PV}{o:Option PV} (h:O1 x y o) (rx:aI K M H v x) (ry:aI K M2 H w y):∃ a o',v = .ref a/\iB H a w o'/\(o=none->o'=none)/\∀ z,o=some z->∃ u,o'=some u/\aI K M H u z:=by
 rcases h with ⟨ps,k,ex,rfl,rfl⟩ | ⟨ps,k,ex,rfl,rfl⟩
 ·obtain rfl:=wE ry
  cases rx with
  | dK m h e r=>cases ex; exact⟨_,_,rfl,iB.k h,(jY k e r).1,(jY k e r).2⟩
  | fK h e r=>cases ex; exact⟨_,_,rfl,.inl ⟨_,k,.inr ⟨_,h⟩,rfl,rfl⟩,(jY k e r).1,(jY k e r).2⟩
  | _=>cases ex
 ·obtain ⟨b,us,rfl,hb,rb⟩:=ry.sqT
  obtain rfl:=N9 rb
  cases rx with
  | dT m h e r=>cases ex; exact⟨_,_,rfl,iB.t h hb,(jY k e r).1,(jY k e r).2⟩
  | fT h e r=>cases ex; exact⟨_,_,rfl,.inr ⟨_,k,b,.inr ⟨_,h⟩,rfl,hb,rfl⟩,(jY k e r).1,(jY k e r).2⟩
  | _=>cases ex
section
variable {X : Cx} {σ : St} {H : Hp} {D : dH} {tk td te : aF} {Q' : VK}
noncomputable def lT (neg:Bool) (tk td:aF):aF:=fun ρ Q=>tk ρ fun y _=>td ρ fun x _=>∃ o,O1 x y o/\Q (.bl (if neg=true then !o.isSome else o.isSome)) .fr
theorem O4 {α β:Type}{o:Option α}{o':Option β}{P:β->α->Prop} (h1:o=none->o'=none) (h2:∀ z,o=some z->∃ u,o'=some u/\P u z):o'.isSome=o.isSome:=by
 cases o with
 | none=>rw [h1 rfl]; rfl
 | some z=>obtain ⟨u,e,_⟩:=h2 z rfl; rw [e]; rfl
theorem aA1 (h:LE X (lT false tk td) σ H Q'):F5 (LE X tk) (LE X td) σ H Q':=by
 obtain ⟨W,ρ,Q,px,q,k⟩:=h
 refine⟨W,ρ,_,px,q,fun w H1 y g s r q=>⟨W,ρ,_,px.mono s,q,?_⟩⟩
 rintro v H2 x g' s2 r2 ⟨o,ak,q⟩
 obtain ⟨a,o',rfl,dg,h1,h2⟩:=O3 ak r2 (r.same s2 fun _ z=>z)
 refine⟨a,o',rfl,dg,?_⟩
 rw [O4 h1 h2]
 exact k _ _ _ .fr (s.trans s2) (.bl _) q
theorem aA2 (h:LE X (lT true tk td) σ H Q'):F6 (LE X tk) (LE X td) σ H Q':=by
 obtain ⟨W,ρ,Q,px,q,k⟩:=h
 refine⟨W,ρ,_,px,q,fun w H1 y g s r q=>⟨W,ρ,_,px.mono s,q,?_⟩⟩
 rintro v H2 x g' s2 r2 ⟨o,ak,q⟩
 obtain ⟨a,o',rfl,dg,h1,h2⟩:=O3 ak r2 (r.same s2 fun _ z=>z)
 refine⟨a,o',rfl,dg,?_⟩
 rw [O4 h1 h2]
 exact k _ _ _ .fr (s.trans s2) (.bl _) q
theorem PX.updD {K:PySem.W.Frag}{H0:Hp}{W:Addr->Prop}{σ:St}{ρ:bJ}{H:Hp}{i:Nat}{a:Addr}{x:PV}{kvs:List (aJ × V)}{ps:List (aJ × PV)} (p:PX K H0 W σ ρ H) (hi:ρ[i]? = some (some (.own x))) (ha:σ[i]? = some (some (.ref a))) (wa:W a)
  (r:kvs.map (·.1)=ps.map (·.1)/\Reps K (Ms H0 W true) (upd H a (.dK kvs)) (kvs.map (·.2)) (ps.map (·.2))):PX K H0 W σ (ρ.set i (some (.own (.dK ps)))) (upd H a (.dK kvs)):=p.updOwn hi ha wa rfl (y:=.dK ps) ⟨kvs,bM,r⟩
theorem aA3 {κ α β:Type}{l:List (κ × α)}{m:List (κ × β)} (e:l.map (·.1)=m.map (·.1)):l.length=m.length:=by
 have:=congrArg List.length e
 rw [bb8,bb8] at this
 exact this
noncomputable def rQ (i:Nat) (tk te:aF):aK:=fun D ρ=>te ρ fun z g=>∃ ps,ρ[i]? = some (some (.own (.dK ps)))/\tk ρ fun y _=>∃ k,y=kP k/\Nw g z/\ps.length < 16000000/\D.nx (ρ.set i (some (.own (.dK (fQ ps k z)))))
theorem aA4 {i:Nat} (h:LS X (rQ i tk te) D σ H):F7 (iQ i) (LE X tk) (LE X te) D σ H:=by
 obtain ⟨W,ρ,D',px,q,k⟩:=h
 refine⟨W,ρ,_,px,q,?_⟩
 rintro w H1 z g s rz ⟨ps,hi,q⟩
 obtain ⟨v,ev,a,rfl,wa,kvs,ea,e1,r⟩:=(px.mono s).sl i _ hi
 refine⟨_,ev,W,ρ,_,px.mono s,q,?_⟩
 rintro kv H2 y g' s2 ry ⟨kk,rfl,nw,hl,q⟩
 obtain rfl:=wE ry
 have ea2:=s2 _ _ ea
 refine⟨a,_,rfl,oE.k ea2 (hZ (by rw [aA3 e1]; omega)),?_⟩
 refine k.nx W σ _ _ ((Ev.same (s.trans s2)).trans (Ev.upd wa)) ((px.mono (s.trans s2)).updD hi ev wa ?_) q
 obtain ⟨h1,h2⟩:=aA0 kk ((Nw.rep px nw rz).same s2 fun _ z=>z) e1 (r.same s2 fun _ z=>z)
 exact⟨h1,h2.keep (.upd ea2 rfl fun b m=>⟨lQ wa m,m⟩)⟩
theorem aA5 (h:LE X (qC (.dK [])) σ H Q'):F9 σ H Q':=by
 obtain ⟨W,ρ,Q,px,q,k⟩:=h
 exact fun p hp=>k _ _ _ .fr (bK hp _) (.dK hp bM rfl .nil) q
end
noncomputable def dQ:Nat->PV->PV->Bool
 | _,.non,.non=>true
 | _,.bl a,.bl b=>a == b
 | _,.int a,.int b=>a == b
 | _,.str a,.str b=>a == b
 | n+1,.tup xs,.tup ys=>(xs.zip ys).all (fun p=>dQ n p.1 p.2) && xs.length == ys.length
 | n+1,.lst xs,.lst ys=>(xs.zip ys).all (fun p=>dQ n p.1 p.2) && xs.length == ys.length
 | n+1,.kt xs,.kt ys=>(xs.zip ys).all (fun p=>dQ n p.1 p.2) && xs.length == ys.length
 | _,_,_=>false
noncomputable def gG:Nat->PV->PV->Bool
 | _,.non,.non=>true
 | _,.bl _,.bl _=>true
 | _,.int _,.int _=>true
 | _,.str _,.str _=>true
 | _,.non,.int _=>true
 | _,.int _,.non=>true
 | n+1,.tup xs,.tup ys=>(xs.zip ys).all (fun p=>gG n p.1 p.2)
 | n+1,.lst xs,.lst ys=>(xs.zip ys).all (fun p=>gG n p.1 p.2)
 | n+1,.kt xs,.kt ys=>(xs.zip ys).all (fun p=>gG n p.1 p.2)
 | _+1,.non,.tup _=>true
 | _+1,.tup _,.non=>true
 | _,_,_=>false
noncomputable def O5 (ta:aF):aF:=fun ρ Q=>ta ρ fun x _=>∃ i,x = .int i/\Q (.int (-i)) .fr
noncomputable def rR (neg:Bool):PV->Tg->PV->Tg->PK->Prop:=fun x _ y _ Q=>∃ i ns,x = .int i/\iU y=some (intz ns)/\Q (.bl (if neg=true then !decide (i ∈ ns) else decide (i ∈ ns))) .fr
noncomputable def O6:PV->Option String
 | .non=>some "NoneType"
 | .bl _=>some "bool"
 | .int _=>some "int"
 | .str _=>some "str"
 | .tup _=>some "tuple"
 | .kt _=>some "tuple"
 | .lst _=>some "list"
 | _=>none
noncomputable def lU (K:PySem.W.Frag) (n:String) (te:aF):aF:=fun ρ Q=>te ρ fun x _=>∃ T b,O6 x=some T/\PySem.W.kitOne K (.type T) (.type n)=some b/\Q (.bl b) .fr
noncomputable def wF (n:Nat) (neg:Bool):PV->Tg->PV->Tg->PK->Prop:=fun x _ y _ Q=>((∃ xs ys,x = .tup xs/\y = .tup ys) ∨ (∃ xs ys,x = .lst xs/\y = .lst ys))/\gG (n+1) x y=true/\Q (.bl (if neg=true then !dQ (n+1) x y else dQ (n+1) x y)) .fr
noncomputable abbrev mX:=bJ->(Option Int->Prop)->Prop
noncomputable def fF (xs:List PV) (lo hi:Option Int):List PV:=(xs.drop (HT.aW xs.length 0 lo)).take (HT.aW xs.length xs.length hi - HT.aW xs.length 0 lo)
noncomputable def aA6:PV->List PV->PV
 | .tup _,ys=>.tup ys
 | .kt _,ys=>.tup ys
 | _,ys=>.lst ys
noncomputable def kQ:mX:=fun _ Q=>Q none
noncomputable def iX (te:aF):mX:=fun ρ Q=>te ρ fun x _=>∃ i,x = .int i/\Q (some i)
noncomputable def jZ (te:aF) (tl th:mX):aF:=fun ρ Q=>te ρ fun x _=>tl ρ fun lo=>th ρ fun hi=>∃ xs,seqT x=some xs/\flats xs=true/\Q (aA6 x (fF xs lo hi)) .fr
noncomputable def gH (N:List Str) (xs:List PV):bJ:=xs.map (fun x=>some (.sh (flat x) x)) ++ List.replicate (N.length - xs.length) none
noncomputable abbrev bN (ta tb:aF):aF:=q2 (eG fun i j=>.int (i+j)) ta tb
noncomputable abbrev gQ (ta tb:aF):aF:=q2 (eG fun i j=>.int (i - j)) ta tb
noncomputable abbrev oV (ta tb:aF):aF:=q2 (RI o0 fun i j=>.int (i * j)) ta tb
noncomputable abbrev fR (ta tb:aF):aF:=q2 (RI u4 fun i j=>.int (i / j)) ta tb
noncomputable abbrev bT (ta tb:aF):aF:=q2 (RI (fun _ j=>0 < j) fun i j=>.int (i % j)) ta tb
noncomputable abbrev oW (ta tb:aF):aF:=q2 (RI u5 fun i j=>.int (i ^ j.toNat)) ta tb
noncomputable abbrev lV (ta tb:aF):aF:=q2 (eG fun i j=>.bl (decide (i < j))) ta tb
noncomputable abbrev kR (ta tb:aF):aF:=q2 (eG fun i j=>.bl (decide (i<=j))) ta tb
noncomputable abbrev lW (ta tb:aF):aF:=q2 (eG fun i j=>.bl (decide (j < i))) ta tb
noncomputable abbrev O7 (ta tb:aF):aF:=q2 (eG fun i j=>.bl (decide (j<=i))) ta tb
noncomputable abbrev iY (ta tb:aF):aF:=q2 (lO false) ta tb
noncomputable abbrev rS (ta tb:aF):aF:=q2 (lO true) ta tb
noncomputable abbrev O8 (ta tb:aF):aF:=q2 (wB false) ta tb
noncomputable abbrev aX (ta tb:aF):aF:=q2 vZ ta tb
noncomputable def iZ:List PV->(PV->Prop)->Prop:=fun xs Q=>N3 xs Q/\∀ ns,xs ≠ [.scr ns]
noncomputable def rT:aK:=fun _ _=>False
noncomputable def QE (X:Cx) (e:Expr) (t:aF):Prop:=PE X e (LE X t)
noncomputable def QT (X:Cx) (e:Expr) (t:cN):Prop:=PT X e (LT X t)
noncomputable def QW (X:Cx) (e:Expr) (t:cN):Prop:=PW X e (LT X t)
noncomputable def QA (X:Cx) (es:List Expr) (t:cO):Prop:=PA X es (LA X t)
noncomputable def QS (X:Cx) (st:Stmt) (t:aK):Prop:=PS X st (LS X t)
noncomputable def fG (X:Cx) (st:List Stmt) (t:aK):Prop:=e8 X st (LS X t)
noncomputable def QI (X:Cx) (tg iter:Expr) (t:fP):Prop:=PI X tg iter (LI X t)
section
variable {X : Cx}
theorem cE {e:Expr}{t t':TE} (h:PE X e t) (m:∀ σ H Q,t' σ H Q->t σ H Q):PE X e t':=fun pins s σ H Q I q=>h pins s σ H Q I (m σ H Q q)
theorem mY {e:Expr}{t t':TT} (h:PT X e t) (m:∀ σ H Q,t' σ H Q->t σ H Q):PT X e t':=fun pins s σ H Q I q=>h pins s σ H Q I (m σ H Q q)
theorem O9 {e:Expr}{t t':TT} (h:PW X e t) (m:∀ σ H Q,t' σ H Q->t σ H Q):PW X e t':=fun wh pins s σ H Q I q=>h wh pins s σ H Q I (m σ H Q q)
theorem P0 {e:List Expr}{t t':TA} (h:PA X e t) (m:∀ σ H Q,t' σ H Q->t σ H Q):PA X e t':=fun pos pins s σ H Q I q=>h pos pins s σ H Q I (m σ H Q q)
theorem dN {e:Stmt}{t t':TS} (h:PS X e t) (m:∀ D σ H,t' D σ H->t D σ H):PS X e t':=fun pins s σ H D I q=>h pins s σ H D I (m D σ H q)
theorem wG {e:List Stmt}{t t':TS} (h:e8 X e t) (m:∀ D σ H,t' D σ H->t D σ H):e8 X e t':=fun pins s σ H D I q=>h pins s σ H D I (m D σ H q)
theorem rV {tg e:Expr}{t t':TI} (h:PI X tg e t) (m:∀ σ H R,t' σ H R->t σ H R):PI X tg e t':=fun pins s σ H R I q=>h pins s σ H R I (m σ H R q)
variable {a b c e o : Expr} {es cW : List Expr} {ta tb te to tk : aF} {tr : cO} {tA tB' tc : cN} {pos p2 px : Pos} {st : Stmt} {sts : List Stmt} {t u : aK}
theorem qv (i:Nat) {x:Str}{pos:Pos} (hN:X.N[i]? = some x:=by rfl) (hv:gW X.env.scope x:=by first | exact Or.inl rfl | exact Or.inr (Or.inl rfl) | exact Or.inr (Or.inr rfl)) (hd:(x == ("__debug__" : Str))=false:=by decide)
  (hcd:(x == ("__classdict__" : Str))=false:=by decide):QE X (.Name x pos) (a5 i):=cE (jG hN hv hd hcd) fun _ _ _=>av5
theorem aC {i j}:QE X (.Constant (.int i) j pos) (qC (.int i)):=cE lC fun _ _ _=>rE fun _=>.int i
theorem gR {i j}:QE X (.Constant (.bool i) j pos) (qC (.bl i)):=cE zA fun _ _ _=>rE fun _=>.bl i
theorem mZ {j}:QE X (.Constant .none j pos) (qC .non):=cE ah4 fun _ _ _=>rE fun _=>.non
theorem wH {i j}:QE X (.Constant (.str i) j pos) (qC (.str i)):=cE ah5 fun _ _ _=>rE fun _=>.str i
theorem kS {op:Operator}{R:PV->Tg->PV->Tg->PK->Prop}{r:R2} (ho:cQ X (binaryOp op) r) (cv:eS X R r) (ha:QE X a ta) (hb:QE X b tb):QE X (.BinOp a op b pos) (q2 R ta tb):=cE (ak1 ho ha hb) fun _ _ _=>rF cv
theorem bW (ha:QE X a ta) (hb:QE X b tb):QE X (.BinOp a .Add b pos) (q2 (eG fun i j=>.int (i+j)) ta tb):=kS ak3 M1 ha hb
theorem gS (ha:QE X a ta) (hb:QE X b tb):QE X (.BinOp a .Sub b pos) (q2 (eG fun i j=>.int (i - j)) ta tb):=kS ak4 M1 ha hb
theorem oX (ha:QE X a ta) (hb:QE X b tb):QE X (.BinOp a .Mult b pos) (q2 (RI o0 fun i j=>.int (i * j)) ta tb):=kS ak5 rG ha hb
theorem gT (ha:QE X a ta) (hb:QE X b tb):QE X (.BinOp a .FloorDiv b pos) (q2 (RI u4 fun i j=>.int (i / j)) ta tb):=kS ak6 rG ha hb
theorem cL (ha:QE X a ta) (hb:QE X b tb):QE X (.BinOp a .Mod b pos) (q2 (RI (fun _ j=>0 < j) fun i j=>.int (i % j)) ta tb):=kS ak7 rG ha hb
theorem wI (ha:QE X a ta) (hb:QE X b tb):QE X (.BinOp a .Pow b pos) (q2 (RI u5 fun i j=>.int (i ^ j.toNat)) ta tb):=kS ak8 rG ha hb
theorem oY {op:CmpOp}{R:PV->Tg->PV->Tg->PK->Prop}{r:R2} (ho:cQ X (compareOp op) r) (cv:eS X R r) (ha:QE X a ta) (hb:QE X b tb) (hm:behindInMarks op b=false):QE X (.Compare a [op] [b] pos) (q2 R ta tb):=cE (u9 ho ha hb hm) fun _ _ _=>rF cv
theorem iF {op:CmpOp}{R:PV->Tg->PV->Tg->PK->Prop}{r:R2} (ho:cQ X (compareOp op) r) (cv:eS X R r) (ha:QE X a ta) (hb:QE X b tb) (hm:behindInMarks op b=false):QT X (.Compare a [op] [b] pos) (b9 (q2 R ta tb)):=mY (al2 ho ha hb hm) fun _ _ _ h=>rF cv (rH h)
theorem P3 (ha:QE X a ta) (hb:QE X b tb):QE X (.Compare a [.Lt] [b] pos) (q2 (eG fun i j=>.bl (decide (i < j))) ta tb):=oY qH kL ha hb (eO _)
theorem nA (ha:QE X a ta) (hb:QE X b tb):QE X (.Compare a [.LtE] [b] pos) (q2 (eG fun i j=>.bl (decide (i<=j))) ta tb):=oY A4 kL ha hb (eO _)
theorem aA7 (ha:QE X a ta) (hb:QE X b tb):QE X (.Compare a [.Gt] [b] pos) (q2 (eG fun i j=>.bl (decide (j < i))) ta tb):=oY A5 kL ha hb (eO _)
theorem aA8 (ha:QE X a ta) (hb:QE X b tb):QE X (.Compare a [.GtE] [b] pos) (q2 (eG fun i j=>.bl (decide (j<=i))) ta tb):=oY A6 kL ha hb (eO _)
theorem P4 (ha:QE X a ta) (hb:QE X b tb):QE X (.Compare a [.Eq] [b] pos) (q2 (lO false) ta tb):=oY u8 M5 ha hb (eO _)
theorem oZ (ha:QE X a ta) (hb:QE X b tb):QT X (.Compare a [.Lt] [b] pos) (b9 (q2 (eG fun i j=>.bl (decide (i < j))) ta tb)):=iF qH kL ha hb (eO _)
theorem aA9 (ha:QE X a ta) (hb:QE X b tb):QT X (.Compare a [.LtE] [b] pos) (b9 (q2 (eG fun i j=>.bl (decide (i<=j))) ta tb)):=iF A4 kL ha hb (eO _)
theorem p5 (ha:QE X a ta) (hb:QE X b tb):QT X (.Compare a [.Gt] [b] pos) (b9 (q2 (eG fun i j=>.bl (decide (j < i))) ta tb)):=iF A5 kL ha hb (eO _)
theorem aB0 (ha:QE X a ta) (hb:QE X b tb):QT X (.Compare a [.GtE] [b] pos) (b9 (q2 (eG fun i j=>.bl (decide (j<=i))) ta tb)):=iF A6 kL ha hb (eO _)
theorem kT (ha:QE X a ta) (hb:QE X b tb):QT X (.Compare a [.Eq] [b] pos) (b9 (q2 (lO false) ta tb)):=iF u8 M5 ha hb (eO _)
theorem rW (ha:QE X a ta) (hb:QE X b tb):QT X (.Compare a [.NotEq] [b] pos) (b9 (q2 (lO true) ta tb)):=iF A3 av6 ha hb (eO _)
theorem P5 (ha:QE X a ta) (hb:QE X b tb):QT X (.Compare a [.Is] [b] pos) (b9 (q2 (wB false) ta tb)):=iF al0 az2 ha hb (eO _)
theorem aB1 (hu:X.A.units+1 < cLine) (hk:QE X a tk) (hd:QE X b te) (hm:behindInMarks .In b=false:=by rfl):QT X (.Compare a [.In] [b] pos) (b9 (lT false tk te)):=mY (zC (ap9 hu hk hd) hm) fun _ _ _ h=>aA1 (rH h)
theorem P6 (hu:X.A.units+1 < cLine) (hk:QE X a tk) (hd:QE X b te) (hm:behindInMarks .NotIn b=false:=by rfl):QT X (.Compare a [.NotIn] [b] pos) (b9 (lT true tk te)):=mY (zC (aq0 hu hk hd) hm) fun _ _ _ h=>aA2 (rH h)
theorem lX (h:QE X e te) (he:∀ whole,isTrue e X.env whole=(do let v <- whole; standAt e.pos; holding [v] (truthy v)):=by intro _; rfl):QT X e (b9 te):=mY (ah7 h he) fun _ _ _ h=>rH h
theorem rX (h:QE X e te) (he:∀ whole,isTrue e X.env whole=(do let v <- whole; standAt e.pos; holding [v] (truthy v)):=by intro _; rfl):QT X e (mT te):=mY (al5 h he) fun _ _ _ h=>az0 h
theorem P7 (ha:QT X a tA):QW X (.BoolOp .And [a] pos) tA:=ah8 ha
theorem wJ (ha:QT X a tA):QW X (.BoolOp .Or [a] pos) tA:=ah9 ha
theorem P8 (ha:QT X a tA) (hb:QW X (.BoolOp .And (b :: cW) pos) tB'):QW X (.BoolOp .And (a :: b :: cW) pos) (rJ tA tB'):=O9 (ai0 ha hb) fun _ _ _=>av7
theorem rY (ha:QT X a tA) (hb:QW X (.BoolOp .Or (b :: cW) pos) tB'):QW X (.BoolOp .Or (a :: b :: cW) pos) (mP tA tB'):=O9 (ai1 ha hb) fun _ _ _=>av8
theorem p6 (h:QW X e tA):QT X e tA:=PW.pt h
theorem p7 (ha:QT X a tA):QT X (.UnaryOp .Not a pos) (lP tA):=mY (ai2 ha) fun _ _ _=>av9
theorem p9 {op} (h:QE X a ta):QE X (.BoolOp op [a] pos) ta:=ai3 h
theorem nB (ha:QE X a ta) (hb:QE X (.BoolOp .And (b :: cW) pos) tb):QE X (.BoolOp .And (a :: b :: cW) pos) (kM ta tb):=cE (ai4 ha hb) fun _ _ _=>aw0
theorem aB2 (ha:QE X a ta) (hb:QE X (.BoolOp .Or (b :: cW) pos) tb):QE X (.BoolOp .Or (a :: b :: cW) pos) (rK ta tb):=cE (ai5 ha hb) fun _ _ _=>aw1
theorem aB3 (ha:QE X a ta):QE X (.UnaryOp .Not a pos) (vR ta):=cE (ai6 ha) fun _ _ _=>aw2
theorem aA:QA X [] a9:=P0 dO fun _ _ _=>aw3
theorem a7 (ha:QE X e te) (hr:QA X es tr) (hs:starEach (e :: es) X.env=(false,eval e X.env) :: starEach es X.env:=by rfl):QA X (e :: es) (a6 te tr):=P0 (cY ha hr hs) fun _ _ _=>aw4
theorem eL {x1} (h:QA X es tr):QE X (.Tuple es x1 pos) (dJ tr):=cE (A8 h) fun _ _ _=>aw6
theorem aB4 {x1} (h:QA X es tr):QE X (.Tuple es x1 pos) (vS tr):=cE (A8 h) fun _ _ _=>aw5
theorem eU (h:QA X es tr):QE X (.List es pos) (dL tr):=cE (qI h) fun _ _ _=>aw7
theorem b5 (ha:QE X a ta) (hb:QE X b tb) (hs:C1 b:=by exact fun _ _=>rfl):QE X (.Subscript a b pos) (q2 vZ ta tb):=cE (jO an6 ha hb hs) fun _ _ _=>rF ay0
theorem aB5:QE X (.Dict [] [] pos) (qC (.dK [])):=cE aq2 fun _ _ _=>aA5
theorem k6 {x:Str}{id:String}{R:List PV->(PV->Prop)->Prop}{r:List V->Hp->VK->Prop} (hc:cX X (.builtin id) r) (cv:fO X R r) (hg:Gl X x) (hm:X.mg x=none) (hv:bootBuiltins x=some (.builtin id)) (ha:QA X (e :: es) tr) (hn:x ≠ "__name__":=by decide) (hdb:(x == ("__debug__" : Str))=false:=by decide)
  (he:starEach (e :: es) X.env=(false,eval e X.env) :: starEach es X.env:=by rfl) (hpl:(backTo pos (starEach es X.env)).any (·.1)=false:=by rfl):QE X (.Call (.Name x p2) (e :: es) [] pos) (aB R tr):=cE (o8 hc hg hm hv ha hn hdb he hpl) fun _ _ _=>M6 cv
theorem wK {x:Str}{T:String}{R:List PV->(PV->Prop)->Prop}{r:List V->Hp->VK->Prop} (hc:cX X (.type T) r) (cv:fO X R r) (hg:Gl X x) (hm:X.mg x=none) (hv:bootBuiltins x=some (.type T)) (ha:QA X (e :: es) tr) (hn:x ≠ "__name__":=by decide) (hdb:(x == ("__debug__" : Str))=false:=by decide)
  (he:starEach (e :: es) X.env=(false,eval e X.env) :: starEach es X.env:=by rfl) (hpl:(backTo pos (starEach es X.env)).any (·.1)=false:=by rfl):QE X (.Call (.Name x p2) (e :: es) [] pos) (aB R tr):=cE (B5 hc hg hm hv ha hn hdb he hpl) fun _ _ _=>M6 cv
theorem cM:fG X [] cD:=wG ai8 fun _ _ _=>aw8
theorem aG (h1:QS X st t) (h2:fG X sts u):fG X (st :: sts) (aE t u):=wG (lD h1 h2) fun _ _ _=>aw9
theorem aT (h1:QS X st t):fG X [st] t:=lE h1
theorem wL:QS X st rT:=dN aj1 fun _ _ _ ⟨_,_,_,_,h,_⟩=>h
theorem bA {i:Nat}{x:Str} (hN:X.N.Nodup) (he:QE X e te) (hi:X.N[i]? = some x:=by rfl) (hx:gX X.env.scope x:=by first | exact Or.inl rfl | exact Or.inr rfl) (hs:swapsWith e (some (.Name x p2)) pos.line X.env=pure false:=by rfl) (hf:X.fn x=true ∨ X.env.scope.names.lookup x=some .local:=by first | exact .inl rfl | exact .inr rfl) :
  QS X (.Assign [.Name x p2] e pos) (b6 i te):=dN (tY hN hi hx he hs hf) fun _ _ _=>rL
theorem fS {i:Nat}{x:Str} (hN:X.N.Nodup) (he:QE X e te) (hi:X.N[i]? = some x:=by rfl) (hx:gX X.env.scope x:=by first | exact Or.inl rfl | exact Or.inr rfl) (hs:swapsWith e (some (.Name x p2)) pos.line X.env=pure false:=by rfl) (hf:X.fn x=true ∨ X.env.scope.names.lookup x=some .local:=by first | exact .inl rfl | exact .inr rfl) :
  QS X (.Assign [.Name x p2] e pos) (e9 i te):=dN (tY hN hi hx he hs hf) fun _ _ _=>N0
theorem wM (i:Nat) (h:QS X st t):QS X st (oR i t):=dN h fun _ _ _=>ax1
theorem bQ (he:QE X e te):QS X (.Return (some e) pos) (bG te):=dN (mE he) fun _ _ _=>ax2
theorem nC (i:Nat) {x:Str} (hN:X.N[i]? = some x:=by rfl) (hv:gW X.env.scope x:=by first | exact Or.inl rfl | exact Or.inr (Or.inl rfl) | exact Or.inr (Or.inr rfl)) (hd:(x == ("__debug__" : Str))=false:=by decide) (hcd:(x == ("__classdict__" : Str))=false:=by decide) :
  QS X (.Return (some (.Name x p2)) pos) (iT i):=dN (mE (jG hN hv hd hcd)) fun _ _ _=>ax3
theorem cK {sa sb:List Stmt} (hc:QT X c tc) (ha:fG X sa t) (hb:fG X sb u):QS X (.If c sa sb pos) (cB tc t u):=dN (ai9 hc ha hb) fun _ _ _=>ax4
theorem rZ {body:List Stmt} (hp:PassesOwn (model X.prog X.w) X.A X.env X.xe) (hc:QT X c tc) (hb:fG X body t):QS X (.While c body [] pos) (mR tc t):=dN (aj3 hp hc hb) fun _ _ _=>ax5
theorem kU (i:Nat) {x:Str}{apos cpos xpos:Pos} (he:QE X e te) (hN:X.N[i]? = some x:=by rfl) (hv:gW X.env.scope x:=by first | exact Or.inl rfl | exact Or.inr (Or.inl rfl) | exact Or.inr (Or.inr rfl)) (hd:(x == ("__debug__" : Str))=false:=by decide) (hcd:(x == ("__classdict__" : Str))=false:=by decide)
  (hbase:attributeBase (.Name x xpos) "append" X.env (eval (.Name x xpos) X.env)=eval (.Name x xpos) X.env:=by rfl)
  (hfew:((backTo cpos (starEach [e] X.env)).all (fun x=>!x.1) && (backToKw cpos (keywordEach [] X.env)).all (fun x=>x.1.isSome) && decide (([e]:List Expr).length+([]:List Keyword).length+(if ([]:List Keyword).isEmpty then 0 else 1) < 30))=true:=by rfl)
  (hline:(apos.endLine == cpos.line)=true:=by rfl) (hs:starEach [e] X.env=(false,eval e X.env) :: starEach [] X.env:=by rfl) (hplain:(backTo cpos (starEach [] X.env)).any (·.1)=false:=by rfl)
  (hsw:swapsWith (.Call (.Attribute (.Name x xpos) "append" apos) [e] [] cpos) none pos.line X.env=pure false:=by rfl) :
  QS X (.Expr (.Call (.Attribute (.Name x xpos) "append" apos) [e] [] cpos) pos) (i4 i te):=
 dN (lF (lJ bi6 bn5 bn6 mI (jG hN hv hd hcd) (cY he dO hs) hbase hfew hline hs hplain) hsw) fun _ _ _=>ax6
theorem P9 {i:Nat}{x:Str}{xpos tpos:Pos} (hu:X.A.units+1 < cLine) (hk:QE X a tk) (he:QE X e te) (hN:X.N[i]? = some x:=by rfl) (hv:gW X.env.scope x:=by first | exact Or.inl rfl | exact Or.inr (Or.inl rfl) | exact Or.inr (Or.inr rfl)) (hd:(x == ("__debug__" : Str))=false:=by decide) (hcd:(x == ("__classdict__" : Str))=false:=by decide)
  (hs:swapsWith e (some (.Subscript (.Name x xpos) a tpos)) pos.line X.env=pure false:=by rfl):QS X (.Assign [.Subscript (.Name x xpos) a tpos] e pos) (rQ i tk te):=dN (aq1 hu (jG hN hv hd hcd) hk he hs) fun _ _ _=>aA4
theorem aB6 {tg l:Expr}{tl:TE} (hl:PE X l tl):PI X tg l (N4 X.K tl):=by
 intro pins s σ H R I h
 refine aQ (hl pins s σ H _ I h) fun v s1 ⟨x,H1,I1,r1,q1⟩=>?_
 obtain ⟨a,e,q⟩:=q1
 subst e
 cases r1
 rcases q with ⟨xs,hq,q⟩ | ⟨xs,hq,q⟩
 ·obtain ⟨its,rv,p,hz⟩:=I1.list hq
  refine wpAny_pyIter_list p.isList ?_
  refine⟨s1.heap.objs.size,[s1.heap.objs.size],_,_,H1,rfl,I1.kept (t':=s1.toks) fun b o e=>bb7 _ e,aj4 a _,⟨_,be1 _ rfl,rfl,rfl⟩,fun b hb=>?_,q⟩
  have e:b=s1.heap.objs.size:=by simpa using hb
  subst e
  exact I1.fpOk (bc5 _) (I1.hok.fresh (bc5 _))
 ·obtain ⟨its,rv,p,hz⟩:=I1.tuple hq
  refine wpAny_pyIter_tuple (show s1.heap.IsTuple a its.toArray from p) ?_
  refine⟨s1.heap.objs.size,[s1.heap.objs.size],_,_,H1,rfl,I1.kept (t':=s1.toks) fun b o e=>bb7 _ e,zQ a _,⟨_,be1 _ rfl,rfl,rfl⟩,fun b hb=>?_,q⟩
  have e:b=s1.heap.objs.size:=by simpa using hb
  subst e
  exact I1.fpOk (bc5 _) (I1.hok.fresh (bc5 _))
theorem eB {tg l:Expr} (hl:QE X l te):QI X tg l (dM te):=rV (aB6 hl) fun _ _ _=>az3
theorem kW {tg:Expr} (hg:Gl X "range") (hm:X.mg "range" = none) (ha:QE X a ta) (hs:starEach [a] X.env = [(false,eval a X.env)]:=by rfl):QI X tg (.Call (.Name "range" p2) [a] [] pos) (iV ta):=rV (aj7 hg hm (cY ha dO hs) hs) fun _ _ _=>az4
theorem Q0 {tg:Expr} (hg:Gl X "range") (hm:X.mg "range" = none) (ha:QE X a ta) (hb:QE X b tb) (hs:starEach [a,b] X.env = [(false,eval a X.env),(false,eval b X.env)]:=by rfl) (hs2:starEach [b] X.env = [(false,eval b X.env)]:=by rfl) :
  QI X tg (.Call (.Name "range" p2) [a,b] [] pos) (rO ta tb):=rV (aj8 hg hm (cY ha (cY hb dO hs2) (by rw [hs,hs2])) hs hs2) fun _ _ _=>az5
theorem Q2 {tg:Expr}{body:List Stmt}{ti:fP}{p:iW}{g:TG}{own:Nat->Prop} (hp:PassesOwn (model X.prog X.w) X.A X.env X.xe) (hc:X.calm=true) (hi:QI X tg e ti) (hg:PG X tg g) (ht:mU X.K own p g) (hb:fG X body t)
  (hs:∀ x,foldedSetIterable e X.env x=pure x:=by intro _; rfl):QS X (.For tg e body [] pos) (eJ ti p t):=dN (tZ hp hc hi hg hb hs) fun _ _ _=>az6 ht
end
section
variable {X : Cx} {pins : List (Addr × Obj)} {σ : St} {H : Hp} {s : Shared} {K : PySem.W.Frag} {M M' : Addr → Prop}
theorem mO.inj {a:Addr}{us ws:List V} (h:mO K a us) (h':mO K a ws):us=ws:=by
 obtain ⟨o,its,n,e1,_,e2,_,v⟩:=h
 obtain ⟨o',its',n',e1',_,e2',_,v'⟩:=h'
 rw [e1] at e1'; cases e1'
 rw [e2] at e2'; cases e2'
 exact v.inj v'
theorem Reps.self_of {n:Nat} (ih:∀ {v:V}{x y:PV},aI K M H v x->aI K M' H v y->gG n x y=true->dQ n x y=true):∀ {vs:List V}{xs ys:List PV},Reps K M H vs xs->Reps K M' H vs ys->((xs.zip ys).all fun p=>gG n p.1 p.2)=true->(((xs.zip ys).all fun p=>dQ n p.1 p.2) && xs.length == ys.length)=true
 | _,_,_,.nil,.nil,_=>rfl
 | _,_,_,.cons r t,.cons r' t',o=>by
  simp only [List.zip_cons_cons,List.all_cons,bg2] at o
  have h1:=ih r r' o.1
  have h2:=Reps.self_of ih t t' o.2
  simp only [List.zip_cons_cons,List.all_cons,h1,Bool.true_and,be6] at h2 ⊢
  rw [<- h2]
  congr 1
  simp
theorem aI.self:∀ (n:Nat) {v:V}{x y:PV},aI K M H v x->aI K M' H v y->gG n x y=true->dQ n x y=true:=by
 intro n
 induction n with
 | zero=>
  intro v x y r r' o
  cases r with
  | non=>cases r'; rfl
  | bl b=>cases r'; exact bk7 b
  | int i=>cases r'; exact bk7 i
  | str z=>cases r'; exact bk7 z
  | _=>cases o
 | succ n ih=>
  intro v x y r r' o
  cases r with
  | non=>cases r'; rfl
  | bl b=>cases r'; exact bk7 b
  | int i=>cases r'; exact bk7 i
  | str z=>cases r'; exact bk7 z
  | tup h rr=>
   cases r' with
   | tup h' rr'=>rw [h] at h'; cases h'; exact Reps.self_of ih rr rr' o
   | _=>cases o
  | lst _ h rr=>
   cases r' with
   | lst _ h' rr'=>rw [h] at h'; cases h'; exact Reps.self_of ih rr rr' o
   | _=>cases o
  | kt h rr=>
   cases r' with
   | kt h' rr'=>cases mO.inj h h'; exact Reps.self_of ih rr rr' o
   | _=>cases o
  | _=>cases o
theorem Reps.self (n:Nat) {vs:List V}{xs ys:List PV} (r:Reps K M H vs xs) (r':Reps K M' H vs ys) (o:((xs.zip ys).all fun p=>gG n p.1 p.2)=true):(((xs.zip ys).all fun p=>dQ n p.1 p.2) && xs.length == ys.length)=true:=Reps.self_of (aI.self n) r r' o
theorem k7 (n:Nat) (xs ys:List PV):(List.range (min xs.length ys.length)).all (fun j=>dQ n (xs.getD j .non) (ys.getD j .non))=(xs.zip ys).all fun p=>dQ n p.1 p.2:=by
 rw [bk3]
 simp only [bk8,bp2]
 constructor
 ·intro h p hp
  obtain ⟨j,hj,e⟩:=List.getElem_of_mem hp
  have hj':j < min xs.length ys.length:=by simpa using hj
  have:=h j hj'
  rw [List.getElem_zip] at e
  subst e
  have h1:j < xs.length:=by omega
  have h2:j < ys.length:=by omega
  simpa [bc7,h1,h2] using this
 ·intro h j hj
  have h1:j < xs.length:=by omega
  have h2:j < ys.length:=by omega
  have hz:j < (xs.zip ys).length:=by simp; omega
  have:=h _ (List.getElem_mem hz)
  rw [List.getElem_zip] at this
  simpa [bc7,h1,h2] using this
theorem aB7 (I:a8 X pins σ H s):∀ (n:Nat) {A:Around}{v w:V}{x y:PV}{a b:Value},A.units+n < cLine->aI X.K M H v x->aI X.K M' H w y->aY v a->aY w b->gG n x y=true->SeqAt.EqAt A s a b (dQ n x y):=by
 intro n
 induction n with
 | zero=>
  intro A v w x y a b hu rx ry ra rb o
  cases rx with
  | non=>
   cases ra
   cases ry with
   | non=>cases rb; exact SeqAt.EqAt.same _
   | int i=>obtain ⟨t',rfl⟩:=rb; exact SeqAt.EqAt.none_int _ _
   | _=>cases o
  | bl i=>
   cases ra
   cases ry with
   | bl j=>cases rb; exact SeqAt.EqAt.bool_bool _ _
   | _=>cases o
  | int i=>
   obtain ⟨t,rfl⟩:=ra
   cases ry with
   | int j=>obtain ⟨t',rfl⟩:=rb; exact SeqAt.EqAt.int_int _ _ _ _
   | non=>cases rb; exact SeqAt.EqAt.int_none _ _
   | _=>cases o
  | str i=>
   obtain ⟨t,rfl⟩:=ra
   cases ry with
   | str j=>obtain ⟨t',rfl⟩:=rb; exact SeqAt.EqAt.str_str _ _ _ _
   | _=>cases o
  | _=>cases o
 | succ n ih=>
  intro A v w x y a b hu rx ry ra rb o
  have items:∀ {us ws:List V}{xs ys:List PV}{its its2:List Value},Reps X.K M H us xs->Reps X.K M' H ws ys->aN us its->aN ws its2->((xs.zip ys).all fun p=>gG n p.1 p.2)=true->
    ∀ j (h1:j < its.toArray.size) (h2:j < its2.toArray.size),SeqAt.EqAt A.in1 s its.toArray[j] its2.toArray[j] (dQ n (xs.getD j .non) (ys.getD j .non)):=fun {us ws xs ys its its2} r1 r2 v1 v2 ok j h1 h2=>by
   have l1:=v1.length
   have l2:=v2.length
   have m1:=r1.length
   have m2:=r2.length
   have k1:j < its.length:=by simpa using h1
   have k2:j < its2.length:=by simpa using h2
   have j1:j < us.length:=by omega
   have j2:j < ws.length:=by omega
   have i1:j < xs.length:=by omega
   have i2:j < ys.length:=by omega
   obtain ⟨u,hu',ru⟩:=v1.get (bb9 j1)
   obtain ⟨u2,hu2',ru2⟩:=v2.get (bb9 j2)
   obtain ⟨x,hx,rx⟩:=r1.get (bb9 j1)
   obtain ⟨y,hy,ry⟩:=r2.get (bb9 j2)
   have e1:its.toArray[j]=u:=by
    rw [bb9 k1] at hu'
    simpa using hu'
   have e2:its2.toArray[j]=u2:=by
    rw [bb9 k2] at hu2'
    simpa using hu2'
   have ok':gG n x y=true:=by
    rw [bk8] at ok
    have hz:j < (xs.zip ys).length:=by simp; omega
    have:=ok _ (List.getElem_mem hz)
    rw [List.getElem_zip] at this
    rw [bb9 i1] at hx
    rw [bb9 i2] at hy
    cases hx; cases hy
    exact this
   rw [e1,e2]
   have g1:xs.getD j .non=x:=by rw [bc7,hx]; rfl
   have g2:ys.getD j .non=y:=by rw [bc7,hy]; rfl
   rw [g1,g2]
   exact ih (by show A.units+1+n < cLine; omega) rx ry ru ru2 ok'
  have huA:A.units < cLine:=by omega
  cases rx with
  | @kt p us xs h1 r1=>
   obtain ⟨its,v1,p1,_⟩:=I.tuple (.inr h1)
   cases (show a=Value.ref p from ra)
   cases ry with
   | @kt p2 ws ys h2 r2=>
    obtain ⟨its2,v2,p2',_⟩:=I.tuple (.inr h2)
    cases (show b=Value.ref p2 from rb)
    by_cases e:p=p2
    ·subst e
     have:=aI.self (K:=X.K) (M:=M) (M':=M') (n+1) (.kt h1 r1) (.kt h2 r2) o
     rw [this]
     exact SeqAt.EqAt.same _
    ·have:=SeqAt.RcAt.tuples p1 p2' huA (items r1 r2 v1 v2 o)
     refine .of_refs e ?_
     have l1:=v1.length
     have l2:=v2.length
     have m1:=r1.length
     have m2:=r2.length
     rw [bb6,bb6,<- l1,<- l2,m1,m2,k7] at this
     exact this
   | _=>cases o
  | @tup p us xs h1 r1=>
   obtain ⟨its,v1,p1,_⟩:=I.tuple (aR.of (K:=X.K) h1)
   cases (show a=Value.ref p from ra)
   cases ry with
   | @tup p2 ws ys h2 r2=>
    obtain ⟨its2,v2,p2',_⟩:=I.tuple (aR.of (K:=X.K) h2)
    cases (show b=Value.ref p2 from rb)
    by_cases e:p=p2
    ·subst e
     have:=aI.self (K:=X.K) (M:=M) (M':=M') (n+1) (.tup h1 r1) (.tup h2 r2) o
     rw [this]
     exact SeqAt.EqAt.same _
    ·have:=SeqAt.RcAt.tuples p1 p2' huA (items r1 r2 v1 v2 o)
     refine .of_refs e ?_
     have l1:=v1.length
     have l2:=v2.length
     have m1:=r1.length
     have m2:=r2.length
     rw [bb6,bb6,<- l1,<- l2,m1,m2,k7] at this
     exact this
   | non=>cases rb; exact SeqAt.EqAt.tuple_none p1 huA
   | _=>cases o
  | @lst p us xs _ h1 r1=>
   obtain ⟨its,v1,p1,_⟩:=I.list (aM.of (K:=X.K) h1)
   cases (show a=Value.ref p from ra)
   cases ry with
   | @lst p2 ws ys _ h2 r2=>
    obtain ⟨its2,v2,p2',_⟩:=I.list (aM.of (K:=X.K) h2)
    cases (show b=Value.ref p2 from rb)
    have l1:=v1.length
    have l2:=v2.length
    have m1:=r1.length
    have m2:=r2.length
    by_cases e:p=p2
    ·subst e
     rw [h1] at h2; cases h2
     have:=Reps.self n r1 r2 o
     show SeqAt.EqAt A s _ _ ((xs.zip ys).all (fun p=>dQ n p.1 p.2) && xs.length == ys.length)
     rw [this]
     exact SeqAt.EqAt.same _
    ·refine .of_refs e ?_
     by_cases hl:xs.length=ys.length
     ·have:=SeqAt.RcAt.lists p1.isList p2'.isList (by rw [bb6,bb6]; omega) huA (items r1 r2 v1 v2 o)
      have hm:min xs.length ys.length=its.length:=by omega
      rw [bb6,<- hm,k7] at this
      show SeqAt.RcAt A s _ _ ((xs.zip ys).all (fun p=>dQ n p.1 p.2) && xs.length == ys.length)
      rw [show (xs.length == ys.length)=true by simpa using hl,Bool.and_true]
      exact this
     ·have:=SeqAt.RcAt.lists_lengths (A:=A) p1.isList p2'.isList (by rw [bb6,bb6]; simp; omega) huA
      show SeqAt.RcAt A s _ _ ((xs.zip ys).all (fun p=>dQ n p.1 p.2) && xs.length == ys.length)
      rw [show (xs.length == ys.length)=false by simpa using hl,bm4]
      exact this
   | _=>cases o
  | non=>
   cases ra
   cases ry with
   | non=>cases rb; exact SeqAt.EqAt.same _
   | int i=>obtain ⟨t',rfl⟩:=rb; exact SeqAt.EqAt.none_int _ _
   | @tup p2 ws ys h2 r2=>
    obtain ⟨its2,v2,p2',_⟩:=I.tuple (aR.of (K:=X.K) h2)
    cases (show b=Value.ref p2 from rb)
    exact SeqAt.EqAt.none_tuple p2' huA
   | _=>cases o
  | bl i=>
   cases ra
   cases ry with
   | bl j=>cases rb; exact SeqAt.EqAt.bool_bool _ _
   | _=>cases o
  | int i=>
   obtain ⟨t,rfl⟩:=ra
   cases ry with
   | int j=>obtain ⟨t',rfl⟩:=rb; exact SeqAt.EqAt.int_int _ _ _ _
   | non=>cases rb; exact SeqAt.EqAt.int_none _ _
   | _=>cases o
  | str i=>
   obtain ⟨t,rfl⟩:=ra
   cases ry with
   | str j=>obtain ⟨t',rfl⟩:=rb; exact SeqAt.EqAt.str_str _ _ _ _
   | _=>cases o
  | _=>cases o
end
structure Bt (mg:Str->Option Value):Prop where
 len:mg "len" = none
 range:mg "range" = none
 tuple:mg "tuple" = none
 list:mg "list" = none
 sorted:mg "sorted" = none
 all:mg "all" = none
 any:mg "any" = none
 zip:mg "zip" = none
 min:mg "min" = none
 max:mg "max" = none
 sum:mg "sum" = none
 isinst:mg "isinstance" = none
 int:mg "int" = none
 bool:mg "bool" = none
 enum:mg "enumerate" = none
section
variable {X : Cx} {a b c e o : Expr} {es cW : List Expr} {ta tb te to tk : aF} {tr : cO} {tA tB' tc : cN} {pos p2 px : Pos} {st : Stmt} {sts : List Stmt} {t u : aK}
theorem dC (B:Bt X.mg) (ha:QA X [e] tr) (hg:Gl X "len":=by rfl) (he:starEach [e] X.env=(false,eval e X.env) :: starEach [] X.env:=by rfl) (hpl:(backTo pos (starEach [] X.env)).any (·.1)=false:=by rfl):QE X (.Call (.Name "len" p2) [e] [] pos) (aB cP tr):=
 k6 (ao4.or ar2) ay1 hg B.len PySem.boot_len ha (he:=he) (hpl:=hpl)
theorem k8 (B:Bt X.mg) (ha:QA X [e] tr) (hg:Gl X "tuple":=by rfl) (he:starEach [e] X.env=(false,eval e X.env) :: starEach [] X.env:=by rfl) (hpl:(backTo pos (starEach [] X.env)).any (·.1)=false:=by rfl):QE X (.Call (.Name "tuple" p2) [e] [] pos) (aB iZ tr):=
 wK ao6 ay2 hg B.tuple PyProof.Rows.boot_tuple ha (he:=he) (hpl:=hpl)
theorem aB8 (B:Bt X.mg) (ha:QA X [e] tr) (hg:Gl X "list":=by rfl) (he:starEach [e] X.env=(false,eval e X.env) :: starEach [] X.env:=by rfl) (hpl:(backTo pos (starEach [] X.env)).any (·.1)=false:=by rfl):QE X (.Call (.Name "list" p2) [e] [] pos) (aB w5 tr):=
 wK ao5 ay3 hg B.list PyProof.Rows.boot_list ha (he:=he) (hpl:=hpl)
theorem Q3 (B:Bt X.mg) (ha:QA X [e] tr) (hg:Gl X "sorted":=by rfl) (he:starEach [e] X.env=(false,eval e X.env) :: starEach [] X.env:=by rfl) (hpl:(backTo pos (starEach [] X.env)).any (·.1)=false:=by rfl):QE X (.Call (.Name "sorted" p2) [e] [] pos) (aB rM tr):=
 k6 as5 ay4 hg B.sorted PyProof.Rows.boot_sorted ha (he:=he) (hpl:=hpl)
theorem aB9 (B:Bt X.mg) (hc:X.calm=true) (ha:QA X [e] tr) (hg:Gl X "all":=by rfl) (he:starEach [e] X.env=(false,eval e X.env) :: starEach [] X.env:=by rfl) (hpl:(backTo pos (starEach [] X.env)).any (·.1)=false:=by rfl):QE X (.Call (.Name "all" p2) [e] [] pos) (aB w6 tr):=
 k6 (vM hc) ay5 hg B.all PyProof.Rows.boot_all ha (he:=he) (hpl:=hpl)
theorem sA (B:Bt X.mg) (hc:X.calm=true) (ha:QA X [a,b] tr) (hg:Gl X "min":=by rfl) (he:starEach [a,b] X.env=(false,eval a X.env) :: starEach [b] X.env:=by rfl) (hpl:(backTo pos (starEach [b] X.env)).any (·.1)=false:=by rfl):QE X (.Call (.Name "min" p2) [a,b] [] pos) (aB mS tr):=
 k6 (al7 hc) ay6 hg B.min PyProof.Rows.boot_min ha (he:=he) (hpl:=hpl)
theorem nD (B:Bt X.mg) (hc:X.calm=true) (ha:QA X [a,b] tr) (hg:Gl X "max":=by rfl) (he:starEach [a,b] X.env=(false,eval a X.env) :: starEach [b] X.env:=by rfl) (hpl:(backTo pos (starEach [b] X.env)).any (·.1)=false:=by rfl):QE X (.Call (.Name "max" p2) [a,b] [] pos) (aB kN tr):=
 k6 (al6 hc) ay7 hg B.max PyProof.Rows.boot_max ha (he:=he) (hpl:=hpl)
theorem aC0 (ha:QE X a ta):QE X (.UnaryOp .USub a pos) (O5 ta):=cE (ak2 ak9 ha) fun σ H Q' h=>by
 obtain ⟨W,ρ,Q,px,q,k⟩:=h
 refine⟨W,ρ,_,px,q,?_⟩
 rintro v H1 x g s r ⟨i,rfl,q⟩
 cases r
 exact⟨i,rfl,k _ _ _ .fr s (.int _) q⟩
theorem Q4 (x:Int):∀ (xs:List Int),oC (.int x) (xs.map V.int)=decide (x ∈ xs)
 | []=>by simp [oC]
 | y :: r=>by
  have ih:=Q4 x r
  unfold oC at ih ⊢
  rw [bi1,bo9,ih]
  by_cases e:y=x
  ·subst e; simp [iA]
  ·have:iA (.int y) (.int x)=false:=by simpa [iA] using e
   rw [this,Bool.false_or,bk3]
   simp [Ne.symm e]
theorem Q5:∀ (xs:List Int),(xs.map V.int).all jP=true
 | []=>rfl
 | _ :: r=>by rw [bi1,List.all_cons,Q5 r]; rfl
theorem aC1 (neg:Bool):eS X (rR neg) (C9 X.K neg):=by
 rintro W Hs H u v x y g g' Q Q' s n r1 r2 ⟨i,ns,rfl,e,q⟩ k
 cases r1
 obtain ⟨a,us,rfl,hs,r⟩:=r2.seq e
 obtain rfl:=r.ofInts
 refine⟨a,_,rfl,hs,rfl,Q5 ns,?_⟩
 have:=k _ _ _ .fr (aD.refl _) (.bl _) q
 rw [Q4]
 cases neg <;> exact this
theorem Q6 (ha:QE X a ta) (hb:QE X b tb) (hm:behindInMarks .NotIn b=false:=by rfl):QT X (.Compare a [.NotIn] [b] pos) (b9 (q2 (rR true) ta tb)):=iF ao3 (aC1 true) ha hb hm
theorem aI.kt_ {K:PySem.W.Frag}{M:Addr->Prop}{H:Hp}{v:V}{xs:List PV} (r:aI K M H v (.kt xs)):∃ a us,v = .ref a/\mO K a us/\Reps K M H us xs:=by
 cases r with
 | kt h r=>exact⟨_,_,rfl,h,r⟩
noncomputable def Q7 (K:PySem.W.Frag) (H:Hp) (x:V) (t:Value):Prop:=gC K H x t ∨ ∃ a us,x = .ref a/\aR K H a us/\t = .type "tuple"
theorem aC2:cX X (.builtin "isinstance") (fun xs H Q=>∃ x t n b,xs = [x,.ty n]/\Q7 X.K H x t/\PySem.W.kitOne X.K t (.type n)=some b/\Q (.bl b) H):=by
 intro pins s σ H xs us Q I r h
 obtain ⟨x,t,n,b,rfl,ty,e,q⟩:=h
 rcases ty with ty | ⟨a,ws,rfl,hs,rfl⟩
 ·exact at3 pins s σ H _ us Q I r ⟨x,t,n,b,rfl,ty,e,q⟩
 obtain ⟨u,u',rfl,ru,ru'⟩:=o4 r
 cases ru'
 cases (show u=Value.ref a from ru)
 obtain ⟨its,_,⟨o,h1,h2,_⟩,_⟩:=I.tuple hs
 exact bh7 PySem.W.kitx_tuple I.kIn ⟨o,h1,h2⟩ e (fun z=>nomatch z) fun tk=>⟨.bl b,H,I.tok tk,rfl,q⟩
theorem aC3 {K:PySem.W.Frag}{M:Addr->Prop}{H:Hp}{v:V}{x:PV}{T:String} (r:aI K M H v x) (e:O6 x=some T):Q7 K H v (.type T):=by
 cases r with
 | non=>cases e; exact .inl .non
 | bl b=>cases e; exact .inl (.bl b)
 | int i=>cases e; exact .inl (.int i)
 | str i=>cases e; exact .inl (.str i)
 | tup h _=>cases e; exact .inl (.tup h)
 | lst _ h _=>cases e; exact .inl (.lst h)
 | kt h _=>cases e; exact .inr ⟨_,_,rfl,.inr h,rfl⟩
 | _=>cases e
theorem wN {x:Str}{n:String} (B:Bt X.mg) (hn:bootBuiltins x=some (.type n)) (hm:X.mg x=none) (ha:QE X a ta) (hg:Gl X "isinstance":=by rfl) (hgx:Gl X x:=by rfl) (hx:x ≠ "__name__":=by decide) (hdx:(x == ("__debug__" : Str))=false:=by decide)
  (he:starEach [a,.Name x px] X.env=(false,eval a X.env) :: starEach [.Name x px] X.env:=by rfl) (he2:starEach [.Name x px] X.env=(false,eval (.Name x px) X.env) :: starEach [] X.env:=by rfl) (hpl:(backTo pos (starEach [.Name x px] X.env)).any (·.1)=false:=by rfl):QE X (.Call (.Name "isinstance" p2) [a,.Name x px] [] pos) (lU X.K n ta):=
 cE (o8 aC2 hg B.isinst PyProof.Rows.boot_isinstance (cY ha (cY (zB (v:=.ty n) hgx hm hn rfl hx hdx) dO he2) he) (he:=he) (hpl:=hpl)) fun σ H Q' h=>by
  obtain ⟨W,ρ,Q,px,q,k⟩:=h
  refine⟨W,ρ,_,px,q,?_⟩
  rintro v H1 x g s r ⟨T,b,e,kt,q⟩
  exact⟨v,_,n,b,rfl,aC3 r e,kt,k _ _ _ .fr s (.bl _) q⟩
theorem aC4 (B:Bt X.mg) (ha:QE X a ta) (hg:Gl X "isinstance":=by rfl) (hgx:Gl X "int":=by rfl)
  (he:starEach [a,.Name "int" px] X.env=(false,eval a X.env) :: starEach [.Name "int" px] X.env:=by rfl) (he2:starEach [.Name "int" px] X.env=(false,eval (.Name "int" px) X.env) :: starEach [] X.env:=by rfl) (hpl:(backTo pos (starEach [.Name "int" px] X.env)).any (·.1)=false:=by rfl):QE X (.Call (.Name "isinstance" p2) [a,.Name "int" px] [] pos) (lU X.K "int" ta):=wN B PyProof.Rows.boot_int B.int ha (hg:=hg) (hgx:=hgx) (he:=he) (he2:=he2) (hpl:=hpl)
theorem aC5 (B:Bt X.mg) (ha:QE X a ta) (hg:Gl X "isinstance":=by rfl) (hgx:Gl X "bool":=by rfl)
  (he:starEach [a,.Name "bool" px] X.env=(false,eval a X.env) :: starEach [.Name "bool" px] X.env:=by rfl) (he2:starEach [.Name "bool" px] X.env=(false,eval (.Name "bool" px) X.env) :: starEach [] X.env:=by rfl) (hpl:(backTo pos (starEach [.Name "bool" px] X.env)).any (·.1)=false:=by rfl):QE X (.Call (.Name "isinstance" p2) [a,.Name "bool" px] [] pos) (lU X.K "bool" ta):=wN B PyProof.Rows.boot_bool B.bool ha (hg:=hg) (hgx:=hgx) (he:=he) (he2:=he2) (hpl:=hpl)
theorem aC6 (B:Bt X.mg) (ha:QE X a ta) (hg:Gl X "isinstance":=by rfl) (hgx:Gl X "tuple":=by rfl)
  (he:starEach [a,.Name "tuple" px] X.env=(false,eval a X.env) :: starEach [.Name "tuple" px] X.env:=by rfl) (he2:starEach [.Name "tuple" px] X.env=(false,eval (.Name "tuple" px) X.env) :: starEach [] X.env:=by rfl) (hpl:(backTo pos (starEach [.Name "tuple" px] X.env)).any (·.1)=false:=by rfl):QE X (.Call (.Name "isinstance" p2) [a,.Name "tuple" px] [] pos) (lU X.K "tuple" ta):=wN B PyProof.Rows.boot_tuple B.tuple ha (hg:=hg) (hgx:=hgx) (he:=he) (he2:=he2) (hpl:=hpl)
noncomputable def wO (K:PySem.W.Frag) (n:Nat) (neg:Bool):R2:=fun v w H Q=>∃ x y,aI K (fun _=>True) H v x/\aI K (fun _=>True) H w y/\((∃ xs ys,x = .tup xs/\y = .tup ys) ∨ (∃ xs ys,x = .lst xs/\y = .lst ys) ∨ (∃ xs ys,x = .kt xs/\y = .kt ys))/\gG (n+1) x y=true/\Q (.bl (if neg=true then !dQ (n+1) x y else dQ (n+1) x y)) H
theorem nE {pins:List (Addr × Obj)}{σ:St}{H:Hp}{s:Shared}{M M':Addr->Prop} (I:a8 X pins σ H s) {n:Nat}{A:Around} (hu:A.units+(n+1) < cLine) {us ws:List V}{xs ys:List PV}{its its2:List Value} (r1:Reps X.K M H us xs) (r2:Reps X.K M' H ws ys) (v1:aN us its) (v2:aN ws its2)
  (ok:((xs.zip ys).all fun p=>gG n p.1 p.2)=true):∀ j (h1:j < its.toArray.size) (h2:j < its2.toArray.size),SeqAt.EqAt A.in1 s its.toArray[j] its2.toArray[j] (dQ n (xs.getD j .non) (ys.getD j .non)):=by
 intro j h1 h2
 have l1:=v1.length
 have l2:=v2.length
 have m1:=r1.length
 have m2:=r2.length
 have k1:j < its.length:=by simpa using h1
 have k2:j < its2.length:=by simpa using h2
 have j1:j < us.length:=by omega
 have j2:j < ws.length:=by omega
 have i1:j < xs.length:=by omega
 have i2:j < ys.length:=by omega
 obtain ⟨u,hu',ru⟩:=v1.get (bb9 j1)
 obtain ⟨u2,hu2',ru2⟩:=v2.get (bb9 j2)
 obtain ⟨x,hx,rx⟩:=r1.get (bb9 j1)
 obtain ⟨y,hy,ry⟩:=r2.get (bb9 j2)
 have e1:its.toArray[j]=u:=by
  rw [bb9 k1] at hu'
  simpa using hu'
 have e2:its2.toArray[j]=u2:=by
  rw [bb9 k2] at hu2'
  simpa using hu2'
 have ok':gG n x y=true:=by
  rw [bk8] at ok
  have hz:j < (xs.zip ys).length:=by simp; omega
  have:=ok _ (List.getElem_mem hz)
  rw [List.getElem_zip] at this
  rw [bb9 i1] at hx
  rw [bb9 i2] at hy
  cases hx; cases hy
  exact this
 rw [e1,e2]
 have g1:xs.getD j .non=x:=by rw [bc7,hx]; rfl
 have g2:ys.getD j .non=y:=by rw [bc7,hy]; rfl
 rw [g1,g2]
 exact aB7 I n (by show A.units+1+n < cLine; omega) rx ry ru ru2 ok'
theorem bb1 (n:Nat) (hu:X.A.units+(n+1) < cLine):cQ X (compareOp .Eq) (wO X.K n false):=by
 intro pins s σ H v w a b Q I ra rb h
 obtain ⟨x,y,rx,ry,kd,o,q⟩:=h
 have hu0:X.A.units < cLine:=by omega
 rcases kd with ⟨xs,ys,rfl,rfl⟩ | ⟨xs,ys,rfl,rfl⟩ | ⟨xs,ys,rfl,rfl⟩
 ·obtain ⟨p,us,rfl,h1,r1⟩:=rx.sqT
  obtain ⟨p2,ws,rfl,h2,r2⟩:=ry.sqT
  cases ra; cases rb
  obtain ⟨its,v1,p1,_⟩:=I.tuple (aR.of (K:=X.K) h1)
  obtain ⟨its2,v2,p2',_⟩:=I.tuple (aR.of (K:=X.K) h2)
  have l1:=v1.length
  have l2:=v2.length
  have m1:=r1.length
  have m2:=r2.length
  have:=SeqAt.RcAt.tuples p1 p2' hu0 (nE I hu r1 r2 v1 v2 o)
  rw [bb6,bb6,<- l1,<- l2,m1,m2,k7] at this
  exact this _ _ _ _ ⟨.bl _,H,I,rfl,q⟩
 ·obtain ⟨p,us,rfl,_,h1,r1⟩:=rx.sqL
  obtain ⟨p2,ws,rfl,_,h2,r2⟩:=ry.sqL
  cases ra; cases rb
  obtain ⟨its,v1,p1,_⟩:=I.list (aM.of (K:=X.K) h1)
  obtain ⟨its2,v2,p2',_⟩:=I.list (aM.of (K:=X.K) h2)
  have l1:=v1.length
  have l2:=v2.length
  have m1:=r1.length
  have m2:=r2.length
  have q:Q (.bl ((xs.zip ys).all (fun p=>dQ n p.1 p.2) && xs.length == ys.length)) H:=q
  by_cases hl:xs.length=ys.length
  ·have:=SeqAt.RcAt.lists p1.isList p2'.isList (by rw [bb6,bb6]; omega) hu0 (nE I hu r1 r2 v1 v2 o)
   have hm:min xs.length ys.length=its.length:=by omega
   rw [bb6,<- hm,k7] at this
   rw [show (xs.length == ys.length)=true by simpa using hl,Bool.and_true] at q
   exact this _ _ _ _ ⟨.bl _,H,I,rfl,q⟩
  ·have:=SeqAt.RcAt.lists_lengths (A:=X.A) p1.isList p2'.isList (by rw [bb6,bb6]; simp; omega) hu0
   rw [show (xs.length == ys.length)=false by simpa using hl,bm4] at q
   exact this _ _ _ _ ⟨.bl _,H,I,rfl,q⟩
 ·obtain ⟨p,us,rfl,h1,r1⟩:=rx.kt_
  obtain ⟨p2,ws,rfl,h2,r2⟩:=ry.kt_
  cases ra; cases rb
  obtain ⟨its,v1,p1,_⟩:=I.tuple (.inr h1)
  obtain ⟨its2,v2,p2',_⟩:=I.tuple (.inr h2)
  have l1:=v1.length
  have l2:=v2.length
  have m1:=r1.length
  have m2:=r2.length
  have:=SeqAt.RcAt.tuples p1 p2' hu0 (nE I hu r1 r2 v1 v2 o)
  rw [bb6,bb6,<- l1,<- l2,m1,m2,k7] at this
  exact this _ _ _ _ ⟨.bl _,H,I,rfl,q⟩
theorem aC7 (n:Nat) (hu:X.A.units+(n+1) < cLine):cQ X (compareOp .NotEq) (wO X.K n true):=by
 intro pins s σ H v w a b Q I ra rb h
 obtain ⟨x,y,rx,ry,kd,o,q⟩:=h
 have hu0:X.A.units < cLine:=by omega
 rcases kd with ⟨xs,ys,rfl,rfl⟩ | ⟨xs,ys,rfl,rfl⟩ | ⟨xs,ys,rfl,rfl⟩
 ·obtain ⟨p,us,rfl,h1,r1⟩:=rx.sqT
  obtain ⟨p2,ws,rfl,h2,r2⟩:=ry.sqT
  cases ra; cases rb
  obtain ⟨its,v1,p1,_⟩:=I.tuple (aR.of (K:=X.K) h1)
  obtain ⟨its2,v2,p2',_⟩:=I.tuple (aR.of (K:=X.K) h2)
  have l1:=v1.length
  have l2:=v2.length
  have m1:=r1.length
  have m2:=r2.length
  have:=SeqAt.RcNeAt.tuples p1 p2' hu0 (nE I hu r1 r2 v1 v2 o)
  rw [bb6,bb6,<- l1,<- l2,m1,m2,k7] at this
  exact this _ _ _ _ ⟨.bl _,H,I,rfl,q⟩
 ·obtain ⟨p,us,rfl,_,h1,r1⟩:=rx.sqL
  obtain ⟨p2,ws,rfl,_,h2,r2⟩:=ry.sqL
  cases ra; cases rb
  obtain ⟨its,v1,p1,_⟩:=I.list (aM.of (K:=X.K) h1)
  obtain ⟨its2,v2,p2',_⟩:=I.list (aM.of (K:=X.K) h2)
  have l1:=v1.length
  have l2:=v2.length
  have m1:=r1.length
  have m2:=r2.length
  have q:Q (.bl (!((xs.zip ys).all (fun p=>dQ n p.1 p.2) && xs.length == ys.length))) H:=q
  by_cases hl:xs.length=ys.length
  ·have:=SeqAt.RcNeAt.lists p1.isList p2'.isList (by rw [bb6,bb6]; omega) hu0 (nE I hu r1 r2 v1 v2 o)
   have hm:min xs.length ys.length=its.length:=by omega
   rw [bb6,<- hm,k7] at this
   rw [show (xs.length == ys.length)=true by simpa using hl,Bool.and_true] at q
   exact this _ _ _ _ ⟨.bl _,H,I,rfl,q⟩
  ·have:=SeqAt.RcNeAt.lists_lengths (A:=X.A) p1.isList p2'.isList (by rw [bb6,bb6]; simp; omega) hu0
   rw [show (xs.length == ys.length)=false by simpa using hl,bm4] at q
   exact this _ _ _ _ ⟨.bl _,H,I,rfl,q⟩
 ·obtain ⟨p,us,rfl,h1,r1⟩:=rx.kt_
  obtain ⟨p2,ws,rfl,h2,r2⟩:=ry.kt_
  cases ra; cases rb
  obtain ⟨its,v1,p1,_⟩:=I.tuple (.inr h1)
  obtain ⟨its2,v2,p2',_⟩:=I.tuple (.inr h2)
  have l1:=v1.length
  have l2:=v2.length
  have m1:=r1.length
  have m2:=r2.length
  have:=SeqAt.RcNeAt.tuples p1 p2' hu0 (nE I hu r1 r2 v1 v2 o)
  rw [bb6,bb6,<- l1,<- l2,m1,m2,k7] at this
  exact this _ _ _ _ ⟨.bl _,H,I,rfl,q⟩
theorem aC8 {n:Nat}{neg:Bool}:eS X (wF n neg) (wO X.K n neg):=by
 rintro W Hs H u v x y g g' Q Q' s n r1 r2 ⟨kd,o,q⟩ k
 exact⟨x,y,r1.same (aD.refl _) fun _ _=>trivial,r2.same (aD.refl _) fun _ _=>trivial,kd.elim .inl fun z=>.inr (.inl z),o,k _ _ _ .fr (aD.refl _) (.bl _) q⟩
theorem aC9 (hu:X.A.units+3 < cLine) (ha:QE X a ta) (hb:QE X b tb):QT X (.Compare a [.NotEq] [b] pos) (b9 (q2 (wF 2 true) ta tb)):=iF (aC7 2 hu) aC8 ha hb (eO _)
end
end PP
namespace PP
open PySem L2 PyProof.Rows
noncomputable def LO (X:Cx) (t:mX):TO:=fun σ H Q'=>∃ (W:Addr->Prop) (ρ:bJ) (Q:Option Int->Prop),PX X.K X.H₀ W σ ρ H/\t ρ Q/\∀ o H',aD H H'->Q o->Q' o H'
noncomputable def QO (X:Cx) (e:Option Expr) (t:mX):Prop:=PO X e (LO X t)
theorem Reps.cut {K:PySem.W.Frag}{M:Addr->Prop}{H:Hp}{us:List V}{xs:List PV} (r:Reps K M H us xs) (lo hi:Option Int):Reps K M H (eQ us lo hi) (fF xs lo hi):=by
 unfold eQ fF
 rw [r.length]
 exact (r.drop _).take _
section
variable {X : Cx} {a b c e o : Expr} {es cW : List Expr} {ta tb te to tk : aF} {tr : cO} {tA tB' tc : cN} {pos p2 px : Pos} {st : Stmt} {sts : List Stmt} {t u : aK}
theorem nF:QO X none kQ:=fun pins s σ H Q I h=>uI pins s σ H Q I (by
 obtain ⟨W,ρ,Q1,px,q,k⟩:=h
 exact k _ _ (aD.refl _) q)
theorem kX (h:QE X e te):QO X (some e) (iX te):=fun pins s σ H Q I hq=>uJ h pins s σ H Q I (by
 obtain ⟨W,ρ,Q1,px,q,k⟩:=hq
 refine⟨W,ρ,_,px,q,?_⟩
 rintro v H1 x g s r ⟨i,rfl,q⟩
 cases r
 exact⟨i,rfl,k _ _ s q⟩)
theorem lY {lo hi:Option Expr}{tl th:mX}{sp:Pos} (he:QE X e te) (hl:QO X lo tl) (hh:QO X hi th):QE X (.Subscript e (.Slice lo hi none sp) pos) (jZ te tl th):=cE (uK (C7.or L7) he hl hh) fun σ H Q' h=>by
 obtain ⟨W,ρ,Q,px,q,k⟩:=h
 refine⟨W,ρ,_,px,q,fun v H1 x g s1 r1 q1=>⟨W,ρ,_,px.mono s1,q1,fun lo H2 s2 q2=>⟨W,ρ,_,px.mono (s1.trans s2),q2,?_⟩⟩⟩
 rintro hi H3 s3 ⟨xs,e,f,q3⟩
 have S:=(s1.trans s2).trans s3
 have r3:=r1.same (M':=Mg X.H₀ W H g) (s2.trans s3) fun _ z=>z
 cases r3 with
 | tup h r=>
  cases e
  refine .inr ⟨_,_,rfl,aR.of h,fun p hp=>k _ _ _ .fr (S.trans (bK hp _)) (.tup bM (((r.flat f).cut lo hi).same (bK hp _) fun _ z=>z)) q3,fun ec=>k _ _ _ .fr S (.tup h ?_) q3⟩
  have:=(r.flat (M':=Mg X.H₀ W H .fr) f).cut lo hi
  rw [ec] at this
  exact this
 | lst m h r=>
  cases e
  exact .inl ⟨_,_,rfl,aM.of h,fun p hp=>k _ _ _ .fr (S.trans (bK hp _)) (.lst (S.free hp) bM (((r.flat f).cut lo hi).same (bK hp _) fun _ z=>z)) q3⟩
 | scr h=>
  cases e
  exact .inl ⟨_,_,rfl,h.sqL,fun p hp=>k _ _ _ .fr (S.trans (bK hp _)) (.lst (S.free hp) bM (((Reps.intz _).cut lo hi).same (bK hp _) fun _ z=>z)) q3⟩
 | _=>cases e
structure Df (P:Program) (w:World) (K:PySem.W.Frag) (mg:Str->Option Value) (base:Heap) (k:Nat) (x:Str) (ps:List Str) (p:bH):Prop where
 ex:∃ f fd,cZ P w K mg base dW k f fd ps (oS K p)/\i9 K fd ps []/\PySem.W.keepIn K (.ref f)=true/\mg x=some (.ref f)
theorem b4 {k j:Nat}{x:Str}{ps:List Str}{p:bH} (d:Df X.prog X.w X.K X.mg X.base k x ps p) (hr:cH j X.A) (ha:QA X (e :: es) tr) (hkj:k<=j:=by decide) (hg:Gl X x:=by rfl) (hdb:(x == ("__debug__" : Str))=false:=by decide)
  (he:starEach (e :: es) X.env=(false,eval e X.env) :: starEach es X.env:=by rfl) (hpl:(backTo pos (starEach es X.env)).any (·.1)=false:=by rfl):QE X (.Call (.Name x p2) (e :: es) [] pos) (aB p tr):=by
 obtain ⟨f,fd,F,b,kp,m⟩:=d.ex
 exact cE (uG F (hr.mono hkj) hg m kp b .nil ar0 ha hdb he hpl) fun _ _ _=>ay8
theorem wP {K:PySem.W.Frag}{H:Hp}{N:List Str}{vs:List V}{xs:List PV} (r:Reps K (fun _=>True) H vs xs):PX K H (fun _=>False) (L2.start N vs) (gH N xs) H:=by
 have lr:=r.length
 have own:∀ {i:Nat}{m:Slot},(gH N xs)[i]? = some (some m)->∃ x,xs[i]? = some x/\m = .sh (flat x) x:=fun {i m} h=>by
  unfold gH at h
  by_cases hi:i < xs.length
  ·rw [bf3 (by simpa using hi),bd1] at h
   rw [bb9 hi] at h ⊢
   cases h
   exact⟨_,rfl,rfl⟩
  ·rw [bm3 (by simpa using hi),List.getElem?_replicate] at h
   split at h <;> cases h
 refine⟨by unfold L2.start gH; simp [lr],aD.refl _,fun a z=>z.elim,fun i m h=>?_,fun i j x y a h1=>?_⟩
 ·obtain ⟨x,hx,rfl⟩:=own h
  obtain ⟨v,hv,rx⟩:=r.at hx
  refine⟨v,?_,rP (g:=false) (rx.same (aD.refl _) fun _ _ z=>z)⟩
  have hi:i < vs.length:=(bc4.mp hv).1
  unfold L2.start
  rw [bf3 (by simpa using hi),bd1,hv]; rfl
 ·obtain ⟨x,_,e⟩:=own h1
  cases e
theorem Df.of {P:Program}{w:World}{K:PySem.W.Frag}{mg:Str->Option Value}{base:Heap}{k:Nat}{x:Str}{ps N:List Str}{p:bH}{st:Stmt}{f:Addr}{fd:FuncData} (F:fA K x x st f fd) (m:mg x=some (.ref f)) (S:FnScope N ps (aZ st))
  (hb:∀ (kV doc pm:Value) (an:Option Addr) (cdv ct:Value) (us:List Value),us.length=ps.length->bindArgs (PySem.W.fnOf x x (jR st) (eZ st) (aZ st) .none kV doc pm an cdv ct) ⟨us,[]⟩=pure (ps.zip us))
  (len:∀ xs Q,p xs Q->xs.length=ps.length)
  (body:∀ (cdv:Value) (A:Around) (outer:List Env) (s:Shared) (H:Hp) (E:XK),cH k (A.deeper (envOfC x (aZ st) s.heap.objs.size f cdv))->
   ∃ t,fG (dP dW P w K mg base N x (aZ st) f cdv A outer s H E).nox (eZ st) t/\∀ xs Q,p xs Q->t { nx:=fun _=>Q .non,rt:=Q } (gH N xs)):Df P w K mg base (k+1) x ps p:=by
 refine⟨f,fd,F.ok S (fun vs H Q E h=>?_) (fun cdv A outer s H vs Q E hr h=>?_),F.binds hb,F.kp,m⟩
 ·obtain ⟨xs,Qp,r,q,_⟩:=h
  rw [r.length]; exact len xs Qp q
 ·obtain ⟨xs,Qp,r,q,k⟩:=h
  obtain ⟨t,ht,hq⟩:=body cdv A outer s H E hr
  refine⟨_,ht,fun _=>False,gH N xs,_,wP r,hq xs Qp q,?_,?_,?_,?_⟩
  ·exact fun W' σ' H' ρ' e px q=>k _ _ _ px.same .non q
  ·exact fun v H' x s r q=>k _ _ _ s r q
  ·exact fun W' σ' H' ρ' e px q=>q
  ·exact fun W' σ' H' ρ' e px q=>q
theorem i5 (i:Nat) {x:Str}{tp:Pos}{body:List Stmt}{ti:fP} (hN:X.N.Nodup) (hi:QI X (.Name x tp) e ti) (hb:fG X body t) (hx:X.N[i]? = some x:=by rfl) (hl:gX X.env.scope x:=by first | exact Or.inl rfl | exact Or.inr rfl) (hf:X.fn x=true ∨ X.env.scope.names.lookup x=some .local:=by first | exact .inl rfl | exact .inr rfl)
  (hp:PassesOwn (model X.prog X.w) X.A X.env X.xe:=by exact bp9) (hc:X.calm=true:=by rfl) (hs:∀ x,foldedSetIterable e X.env x=pure x:=by intro _; rfl):QS X (.For (.Name x tp) e body [] pos) (eJ ti (bZ i) t):=
 Q2 hp hc hi (eC hN hx hl hf) (mV _ i) hb hs
theorem Q8 (i j:Nat) {x y:Str}{tp xp yp:Pos}{kt:Nat}{body:List Stmt}{ti:fP} (hN:X.N.Nodup) (hi:QI X (.Tuple [.Name x xp,.Name y yp] kt tp) e ti) (hb:fG X body t) (hx:X.N[i]? = some x:=by rfl) (hy:X.N[j]? = some y:=by rfl) (hlx:gX X.env.scope x:=by first | exact Or.inl rfl | exact Or.inr rfl) (hly:gX X.env.scope y:=by first | exact Or.inl rfl | exact Or.inr rfl)
  (hfx:X.fn x=true ∨ X.env.scope.names.lookup x=some .local:=by first | exact .inl rfl | exact .inr rfl) (hfy:X.fn y=true ∨ X.env.scope.names.lookup y=some .local:=by first | exact .inl rfl | exact .inr rfl)
  (hp:PassesOwn (model X.prog X.w) X.A X.env X.xe:=by exact bp9) (hc:X.calm=true:=by rfl) (hs:∀ x,foldedSetIterable e X.env x=pure x:=by intro _; rfl):QS X (.For (.Tuple [.Name x xp,.Name y yp] kt tp) e body [] pos) (eJ ti (eI i j) t):=
 Q2 hp hc hi (lI hc (gB (eC hN hx hlx hfx) (gB (eC hN hy hly hfy) lH))) (oU _ i j) hb hs
noncomputable abbrev c9:Value->Shared->Prop:=fun _ _=>False
section
variable {scope : Scope} {N : List Str} {fr : List (Option Nat)} {x y : Str} {tp xp yp : Pos} {kt : Nat} {iter elt : Expr} {ti : fP}
theorem pA {ifs:List Expr}{tcs:cN} (he:∀ (s:Shared) (H:Hp) (C:Addr) (fp:List Addr),QE (bI X scope N s H C fp c9) elt te) (hi:∀ (s:Shared) (H:Hp) (C:Addr) (fp:List Addr),kI (bI X scope N s H C fp c9) ifs (LT (bI X scope N s H C fp c9) tcs))
  (hN:N.Nodup) (h0:N[0]? = some x) (hl:∀ (s:Shared) (H:Hp) (C:Addr) (fp:List Addr),(bI X scope N s H C fp c9).env.scope.names.lookup x=some .local) (s:Shared) (H:Hp) :
  mK X scope N (.Name x tp) ifs elt s H (cG 0) (LT (X.frm H) tcs) (LE (X.frm H) te):=
 ⟨fun C fp=>eC (X:=bI X scope N s H C fp c9) hN h0 (.inl (hl s H C fp)) (.inr (hl s H C fp)),fun C fp=>hi s H C fp,fun C fp=>he s H C fp⟩
theorem pB {Y:Cx}:kI Y [] (LT Y dB):=fun pins s σ H Q I h=>oG pins s σ H Q I (az8 h)
theorem pC (hi:QI X (.Name x tp) iter ti) (he:∀ (s:Shared) (H:Hp) (C:Addr) (fp:List Addr),QE (bI X scope N s H C fp c9) elt te)
  (hc:X.calm=true:=by rfl) (S:cI X scope N fr:=by exact cI.of rfl rfl) (hN:N.Nodup:=by decide +kernel) (h0:N[0]? = some x:=by rfl) (hl:∀ (s:Shared) (H:Hp) (C:Addr) (fp:List Addr),(bI X scope N s H C fp c9).env.scope.names.lookup x=some .local:=by intro _ _ _ _; rfl) (hf:fr[0]? = some none:=by rfl)
  (hs:∀ x,foldedSetIterable iter X.env x=pure x:=by intro _; rfl):QE X (.ListComp elt [⟨.Name x tp,iter,[],0⟩] scope pos) (cS ti fr (bZ 0) dB te):=
 cE (qX (gh:=fun _=>cG 0) (tch:=fun H=>LT (X.frm H) dB) (teh:=fun H=>LE (X.frm H) te) hc S hi (pA he (fun _ _ _ _=>pB) hN h0 hl) hs) fun _ _ _=>kO (mV _ 0) (fun i e=>by subst e; exact hf)
theorem wQ {c:Expr}{tcs:cN} (hi:QI X (.Name x tp) iter ti) (ht:∀ (s:Shared) (H:Hp) (C:Addr) (fp:List Addr),QT (bI X scope N s H C fp c9) c tcs) (he:∀ (s:Shared) (H:Hp) (C:Addr) (fp:List Addr),QE (bI X scope N s H C fp c9) elt te)
  (hc:X.calm=true:=by rfl) (S:cI X scope N fr:=by exact cI.of rfl rfl) (hN:N.Nodup:=by decide +kernel) (h0:N[0]? = some x:=by rfl) (hl:∀ (s:Shared) (H:Hp) (C:Addr) (fp:List Addr),(bI X scope N s H C fp c9).env.scope.names.lookup x=some .local:=by intro _ _ _ _; rfl) (hf:fr[0]? = some none:=by rfl)
  (hs:∀ x,foldedSetIterable iter X.env x=pure x:=by intro _; rfl):QE X (.ListComp elt [⟨.Name x tp,iter,[c],0⟩] scope pos) (cS ti fr (bZ 0) tcs te):=
 cE (qX (gh:=fun _=>cG 0) (tch:=fun H=>LT (X.frm H) tcs) (teh:=fun H=>LE (X.frm H) te) hc S hi (pA he (fun s H C fp=>v4 (ht s H C fp)) hN h0 hl) hs) fun _ _ _=>kO (mV _ 0) (fun i e=>by subst e; exact hf)
theorem Q9 {i:Nat}{z:Str}{zp:Pos} (nd:X.N.Nodup) (hi:QI X (.Name x tp) iter ti) (he:∀ (s:Shared) (H:Hp) (C:Addr) (fp:List Addr),QE (bI X scope N s H C fp c9) elt te)
  (hz:X.N[i]? = some z:=by rfl) (hzl:X.env.scope.names.lookup z=some .local:=by rfl) (hsw:swapsWith (.ListComp elt [⟨.Name x tp,iter,[],0⟩] scope p2) (some (.Name z zp)) pos.line X.env=pure true:=by rfl)
  (hc:X.calm=true:=by rfl) (S:cI X scope N fr:=by exact cI.of rfl rfl) (hN:N.Nodup:=by decide +kernel) (h0:N[0]? = some x:=by rfl) (hl:∀ (s:Shared) (H:Hp) (C:Addr) (fp:List Addr),(bI X scope N s H C fp c9).env.scope.names.lookup x=some .local:=by intro _ _ _ _; rfl) (hf:fr[0]? = some none:=by rfl)
  (hs:∀ x,foldedSetIterable iter X.env x=pure x:=by intro _; rfl):QS X (.Assign [.Name z zp] (.ListComp elt [⟨.Name x tp,iter,[],0⟩] scope p2) pos) (b6 i (cS ti fr (bZ 0) dB te)):=
 dN (qY (gh:=fun _=>cG 0) (tch:=fun H=>LT (X.frm H) dB) (teh:=fun H=>LE (X.frm H) te) hc S hi (pA he (fun _ _ _ _=>pB) hN h0 hl) nd hz hzl hsw hs) fun D σ H h=>kO (mV _ 0) (fun i e=>by subst e; exact hf) (rL h)
theorem aD0 {c:Expr}{tcs:cN}{i:Nat}{z:Str}{zp:Pos} (nd:X.N.Nodup) (hi:QI X (.Name x tp) iter ti) (ht:∀ (s:Shared) (H:Hp) (C:Addr) (fp:List Addr),QT (bI X scope N s H C fp c9) c tcs) (he:∀ (s:Shared) (H:Hp) (C:Addr) (fp:List Addr),QE (bI X scope N s H C fp c9) elt te)
  (hz:X.N[i]? = some z:=by rfl) (hzl:X.env.scope.names.lookup z=some .local:=by rfl) (hsw:swapsWith (.ListComp elt [⟨.Name x tp,iter,[c],0⟩] scope p2) (some (.Name z zp)) pos.line X.env=pure true:=by rfl)
  (hc:X.calm=true:=by rfl) (S:cI X scope N fr:=by exact cI.of rfl rfl) (hN:N.Nodup:=by decide +kernel) (h0:N[0]? = some x:=by rfl) (hl:∀ (s:Shared) (H:Hp) (C:Addr) (fp:List Addr),(bI X scope N s H C fp c9).env.scope.names.lookup x=some .local:=by intro _ _ _ _; rfl) (hf:fr[0]? = some none:=by rfl)
  (hs:∀ x,foldedSetIterable iter X.env x=pure x:=by intro _; rfl):QS X (.Assign [.Name z zp] (.ListComp elt [⟨.Name x tp,iter,[c],0⟩] scope p2) pos) (b6 i (cS ti fr (bZ 0) tcs te)):=
 dN (qY (gh:=fun _=>cG 0) (tch:=fun H=>LT (X.frm H) tcs) (teh:=fun H=>LE (X.frm H) te) hc S hi (pA he (fun s H C fp=>v4 (ht s H C fp)) hN h0 hl) nd hz hzl hsw hs) fun D σ H h=>kO (mV _ 0) (fun i e=>by subst e; exact hf) (rL h)
theorem aD1 {i:Nat}{z:Str}{zp:Pos} (nd:X.N.Nodup) (hi:QI X (.Name x tp) iter ti) (he:∀ (s:Shared) (H:Hp) (C:Addr) (fp:List Addr),QE (bI X scope N s H C fp c9) elt te)
  (hz:X.N[i]? = some z:=by rfl) (hzl:X.env.scope.names.lookup z=some .local:=by rfl) (hsw:swapsWith (.ListComp elt [⟨.Name x tp,iter,[],0⟩] scope p2) (some (.Name z zp)) pos.line X.env=pure true:=by rfl)
  (hc:X.calm=true:=by rfl) (S:cI X scope N fr:=by exact cI.of rfl rfl) (hN:N.Nodup:=by decide +kernel) (h0:N[0]? = some x:=by rfl) (hl:∀ (s:Shared) (H:Hp) (C:Addr) (fp:List Addr),(bI X scope N s H C fp c9).env.scope.names.lookup x=some .local:=by intro _ _ _ _; rfl) (hf:fr[0]? = some none:=by rfl)
  (hs:∀ x,foldedSetIterable iter X.env x=pure x:=by intro _; rfl):QS X (.Assign [.Name z zp] (.ListComp elt [⟨.Name x tp,iter,[],0⟩] scope p2) pos) (e9 i (cS ti fr (bZ 0) dB te)):=
 dN (qY (gh:=fun _=>cG 0) (tch:=fun H=>LT (X.frm H) dB) (teh:=fun H=>LE (X.frm H) te) hc S hi (pA he (fun _ _ _ _=>pB) hN h0 hl) nd hz hzl hsw hs) fun D σ H h=>kO (mV _ 0) (fun i e=>by subst e; exact hf) (N0 h)
end
theorem aD2:mH X "list.extend" (N1 X.K):=fun pins s σ H x xs v us Q I rx rs h=>h.elim (ao9 pins s σ H x xs v us Q I rx rs) (av4 pins s σ H x xs v us Q I rx rs)
theorem aD3 (i:Nat) {x:Str}{apos cpos xpos:Pos} (he:QE X e te) (hN:X.N[i]? = some x:=by rfl) (hv:gW X.env.scope x:=by first | exact Or.inl rfl | exact Or.inr (Or.inl rfl) | exact Or.inr (Or.inr rfl)) (hd:(x == ("__debug__" : Str))=false:=by decide) (hcd:(x == ("__classdict__" : Str))=false:=by decide)
  (hbase:attributeBase (.Name x xpos) "extend" X.env (eval (.Name x xpos) X.env)=eval (.Name x xpos) X.env:=by rfl)
  (hfew:((backTo cpos (starEach [e] X.env)).all (fun x=>!x.1) && (backToKw cpos (keywordEach [] X.env)).all (fun x=>x.1.isSome) && decide (([e]:List Expr).length+([]:List Keyword).length+(if ([]:List Keyword).isEmpty then 0 else 1) < 30))=true:=by rfl)
  (hline:(apos.endLine == cpos.line)=true:=by rfl) (hs:starEach [e] X.env=(false,eval e X.env) :: starEach [] X.env:=by rfl) (hplain:(backTo cpos (starEach [] X.env)).any (·.1)=false:=by rfl)
  (hsw:swapsWith (.Call (.Attribute (.Name x xpos) "extend" apos) [e] [] cpos) none pos.line X.env=pure false:=by rfl) :
  QS X (.Expr (.Call (.Attribute (.Name x xpos) "extend" apos) [e] [] cpos) pos) (vX i te):=
 dN (lF (lJ bi6 PySem.F.slot_list_extend PySem.F.type_list_extend aD2 (jG hN hv hd hcd) (cY he dO hs) hbase hfew hline hs hplain) hsw) fun _ _ _=>ax7
theorem pD {i:Nat}{x:Str}{xpos tpos:Pos} (hk:QE X a tk) (he:QE X e te) (hN:X.N[i]? = some x:=by rfl) (hv:gW X.env.scope x:=by first | exact Or.inl rfl | exact Or.inr (Or.inl rfl) | exact Or.inr (Or.inr rfl)) (hd:(x == ("__debug__" : Str))=false:=by decide) (hcd:(x == ("__classdict__" : Str))=false:=by decide)
  (hp:∀ (tx:TE) (tg:TE),PE X (.Name x xpos) tx->PE X a tg->PG X (.Subscript (.Name x xpos) a tpos) (tX tx tg uM):=by intro _ _ h1 h2; exact aj2 h1 h2 an8)
  (hs:swapsWithSole [.Subscript (.Name x xpos) a tpos] e pos.line X.env=pure false:=by rfl) (hw:swappedStores [.Subscript (.Name x xpos) a tpos] e X.env=pure none:=by rfl) :
  QS X (.Assign [.Subscript (.Name x xpos) a tpos] e pos) (lR i tk te):=dN (zN he (hp _ _ (jG hN hv hd hcd) hk) hs hw) fun _ _ _=>ax8
end
end PP
namespace SO
open PySem PyProof.Rows
variable {rk : Keyed → Int}
section
variable {κ : SortKind} {a0 : Array Keyed} {pd : Array (Nat × Nat × Nat)} {st : SortSt} {prog : Program} {w : World} {A : Around} {E : Value → Shared → Prop} {s : Shared} {Ok : Keyed → Prop}
noncomputable abbrev DS:=Option (Option Nat) × Nat × Nat
end
noncomputable abbrev LS:=Option (Array Keyed) × Array Keyed × Nat × Nat × Nat × Nat × Nat
noncomputable abbrev LO:=Option (Array Keyed) × Array Keyed × Nat × Nat × Nat
variable {rk : Keyed → Int} {xs ys o : List Keyed} {i j : Nat}
variable {rk : Keyed → Int} {xs ys o : List Keyed} {i j : Nat}
variable {rk : Keyed → Int}
noncomputable def Ch:Nat->List (Nat × Nat)->Nat->Prop
 | a,[],b=>a=b
 | a,(p,n) :: r,b=>p=a/\0 < n/\Ch (a+n) r b
variable {rk : Keyed → Int} {κ : SortKind} {a0 : Array Keyed} {pd : Array (Nat × Nat × Nat)} {st : SortSt} {prog : Program} {w : World} {A : Around} {E : Value → Shared → Prop} {s : Shared} {Ok : Keyed → Prop}
end SO
namespace L2
open PySem PySem.Spec PyProof.Rows
theorem bY.at {P:Program}{w:World}{H:Hp}{h:Heap}{a:Addr}{o:HO} (x:bY P w H h a o):∃ ob,h.get? a=some ob:=by
 cases o with
 | lst xs=>obtain ⟨_,_,_,_,e⟩:=x; exact⟨_,e⟩
 | tup xs=>obtain ⟨_,_,_,⟨_,e,_⟩,_⟩:=x; exact⟨_,e⟩
 | dK kvs=>obtain ⟨_,_,_,_,_,_,_,e,_⟩:=x; exact⟨_,e⟩
 | dT kvs=>obtain ⟨_,_,_,_,_,_,_,e,_⟩:=x; exact⟨_,e⟩
 | set S n=>obtain ⟨_,_,_,_,e,_⟩:=x; exact⟨_,e⟩
 | ins C dx fs=>obtain ⟨_,_,_,e,_⟩:=x; exact⟨_,e⟩
 | own y=>exact x
 | xd fs=>obtain ⟨_,⟨_,_,_,e,_⟩,_⟩:=x; exact⟨_,e⟩
 | rng lo hi=>obtain ⟨_,_,_,e⟩:=x; exact⟨_,e⟩
 | frz ob u=>obtain ⟨e,_⟩:=x; exact⟨_,e⟩
 | tbl ps=>exact⟨_,x⟩
 | met f y=>exact⟨_,x⟩
 | ext φ=>exact x.2.1
structure lZ (P:Program) (w:World) (outer:List Env) (H:Hp) (s:Shared) (H':Hp) (B:Heap) (a C:Addr) (s':Shared):Prop where
 os:s'.os=s.os
 bare:AllBare s'.gens
 un:Un (bV outer) [] H H' s.heap s'.heap
 hok:c8 P w H' s'.heap
 fly:∃ a0,Heap.FlyingW B outer a (.ref C) a0 s'.heap
 b0:∀ b o,s.heap.get? b=some o->b ∉ bV outer->∃ o',B.get? b=some o'
 b1:∀ b o,s.heap.get? b=some o->H b=none->b ∉ bV outer->B.get? b=some o
 b2:∀ b u o,H' b=some u->s'.heap.get? b=some o->B.get? b=some o
noncomputable def eM (P:Program) (w:World):gZ:=fun outer H s E e s'=>∃ (H':Hp) (B:Heap) (a C:Addr),e = .ref a/\lZ P w outer H s H' B a C s'/\E (.ref C) none H'
section
variable {P : Program} {w : World} {outer : List Env} {H H' : Hp} {s s' : Shared} {B h2 : Heap} {a C : Addr}
theorem lZ.fresh (f:lZ P w outer H s H' B a C s'):H' a=none:=by
 cases q:H' a with
 | none=>rfl
 | some u=>
  obtain ⟨ob,e⟩:=(f.hok a u q).at
  have z:=f.b2 a u ob q e
  obtain ⟨_,_,n,_⟩:=f.fly
  rw [n] at z; cases z
theorem lZ.hok2 (f:lZ P w outer H s H' B a C s') (k:B.StaysIn h2):c8 P w H' h2:=fun b u e=>
 (f.hok b u e).stay (fun c v hc q=>by
  rcases hc with z | z
  ·subst z; exact k _ _ (f.b2 _ _ _ e q)
  ·exact k _ _ (f.b2 _ _ _ z q)) (fun _ q=>q) fun _ _ q=>q
end
section
variable {P : Program} {w : World} {K : PySem.W.Frag} {mg : Str → Option Value} {base : Heap} {N : List Str} {qual : Str} {scope : Scope} {f : Addr} {cd : Value} {A : Around} {outer : List Env} {s₀ : Shared} {H₀ : Hp} {E₀ E₁ : XK}
theorem sB {pins:List (Addr × Obj)}{σ:St}{H:Hp}{s:Shared} (I:a8 (dP (eM P w) P w K mg base N qual scope f cd A outer s₀ H₀ E₀) pins σ H s) {b:Addr}{o:Obj} (e:s₀.heap.get? b=some o) (n:b ∉ bV outer) :
  b ∉ bV (envOfC qual scope s₀.heap.objs.size f cd :: outer):=fun z=>by
 rcases bd0.mp (I.stkSub b z) with y | y
 ·have l:=bd5 e
  have y:b=s₀.heap.objs.size:=y
  exact absurd l (by rw [y]; exact bg6 _)
 ·exact n y
theorem aD4 (hE:∀ c d H',E₁ c d H'->E₀ c d H'):o7 (eM P w) (dP (eM P w) P w K mg base N qual scope f cd A outer s₀ H₀ E₀) E₁:=by
 intro pins σ H s e s' I hx
 obtain ⟨H',B,a,C,e1,fl,q⟩:=hx
 subst e1
 have I':=I.call' fl.os fl.un fl.hok fl.bare (ch:=[]) (fun b z=>absurd z (by simp))
 obtain ⟨a0,fly⟩:=fl.fly
 refine wpAny_leaves_onW I.ok.frames rfl fly fun h' fly' up=>?_
 have slot:∀ b o,s₀.heap.get? b=some o->b ∈ bV outer->∃ sl,h'.get? b=some { o with slots:=sl }:=fun b o e hb=>by
  obtain ⟨sl,e1⟩:=I'.base.slot b o e (I.ok.frf b hb) hb (fun z=>nomatch z)
  obtain ⟨_,o2,e2,nf⟩:=I.ok.funs.mem hb
  rw [show (dP (eM P w) P w K mg base N qual scope f cd A outer s₀ H₀ E₀).s₀=s₀ from rfl,e] at e2
  cases e2
  obtain ⟨sl',e3⟩:=up b _ e1 nf
  exact⟨sl',e3⟩
 have old:∀ b o,s₀.heap.get? b=some o->H₀ b=none->b ∉ bV outer->B.get? b=some o:=fun b o e n hb=>
  fl.b1 b o (I.base.keep b o e n hb (fun z=>nomatch z)) (I.base.free b o e n (fun z=>nomatch z)) (sB I e hb)
 have old0:∀ b o,s₀.heap.get? b=some o->b ∉ bV outer->∃ o',B.get? b=some o':=fun b o e hb=>by
  obtain ⟨o1,e1⟩:=I.base.there b o e (fun z=>nomatch z)
  exact fl.b0 b o1 e1 (sB I e hb)
 refine⟨H',B,a,C,rfl,⟨I'.os,I'.bare,⟨fun b o e n hb _=>fly'.1 _ _ (old b o e n hb),fun b o e n hb _=>slot b o e hb,fun b o e n hx=>I'.base.free b o e n hx,fun b o e _=>?_,I'.base.tups,I'.base.frzs,I'.base.tbls⟩,fl.hok2 fly'.1,⟨a0,fly'⟩,old0,old,fun b u o e h=>?_⟩,hE _ _ _ q⟩
 ·by_cases hb:b ∈ bV outer
  ·obtain ⟨sl,e1⟩:=slot b o e hb
   exact⟨_,e1⟩
  ·obtain ⟨o',e1⟩:=old0 b o e hb
   exact⟨o',fly'.1 _ _ e1⟩
 ·obtain ⟨ob,e1⟩:=(fl.hok b u e).at
  have e2:=fl.b2 b u ob e e1
  have e3:=fly'.1 _ _ e2
  have h:h'.get? b=some o:=h
  rw [h] at e3; cases e3; exact e2
theorem aD5 {pins:List (Addr × Obj)}{σ:St}{H:Hp}{s:Shared}{h':Heap}{e C:Addr}{args:List Value} (I:a8 (dP (eM P w) P w K mg base N qual scope f cd A outer s₀ H₀ E₀) pins σ H s) (mx:Heap.MadeExcOf s.heap h' e (.ref C) args) (q:E₀ (.ref C) none H) :
  (dP (eM P w) P w K mg base N qual scope f cd A outer s₀ H₀ E₀).xe (.ref e) { s with heap:=h' }:=by
 have tr:∀ b u,H b=some u->b ∉ bV (envOfC qual scope s₀.heap.objs.size f cd :: outer):=fun b u z n=>by
  rw [I.stkFree b n] at z; cases z
 have inB:∀ b o,s.heap.get? b=some o->b ∉ bV (envOfC qual scope s₀.heap.objs.size f cd :: outer)->(PySem.W.hideAll s.heap (bV (envOfC qual scope s₀.heap.objs.size f cd :: outer))).get? b=some o:=fun b o z n=>PySem.W.hideAll_get _ z n
 refine wpAny_leaves_madeW (base:=PySem.W.hideAll s.heap (bV (envOfC qual scope s₀.heap.objs.size f cd :: outer))) I.ok.frames rfl (fun b o z=>PySem.W.of_hideAll _ z) (PySem.W.funFrames_hide I.stack fun env he b hb=>bp3.mpr ⟨env,he,hb⟩) mx fun h'' t fly _ _ up=>?_
 have slot:∀ b o,s₀.heap.get? b=some o->b ∈ bV outer->∃ sl,h''.get? b=some { o with slots:=sl }:=fun b o e hb=>by
  obtain ⟨sl,e1⟩:=I.base.slot b o e (I.ok.frf b hb) hb (fun z=>nomatch z)
  obtain ⟨_,o2,e2,nf⟩:=I.ok.funs.mem hb
  rw [show (dP (eM P w) P w K mg base N qual scope f cd A outer s₀ H₀ E₀).s₀=s₀ from rfl,e] at e2
  cases e2
  obtain ⟨sl',e3⟩:=up b _ (mx.keeps _ _ e1) nf
  exact⟨sl',e3⟩
 have old:∀ b o,s₀.heap.get? b=some o->H₀ b=none->b ∉ bV outer->(PySem.W.hideAll s.heap (bV (envOfC qual scope s₀.heap.objs.size f cd :: outer))).get? b=some o:=fun b o e n hb=>
  inB b o (I.base.keep b o e n hb (fun z=>nomatch z)) (sB I e hb)
 have old0:∀ b o,s₀.heap.get? b=some o->b ∉ bV outer->∃ o',(PySem.W.hideAll s.heap (bV (envOfC qual scope s₀.heap.objs.size f cd :: outer))).get? b=some o':=fun b o e hb=>by
  obtain ⟨o1,e1⟩:=I.base.there b o e (fun z=>nomatch z)
  exact⟨o1,inB b o1 e1 (sB I e hb)⟩
 refine⟨H,_,e,C,rfl,⟨I.os,I.bare,⟨fun b o e n hb _=>fly.1 _ _ (old b o e n hb),fun b o e n hb _=>slot b o e hb,fun b o e n hx=>I.base.free b o e n hx,fun b o e _=>?_,I.base.tups,I.base.frzs,I.base.tbls⟩,fun b u z=>?_,⟨_,fly⟩,old0,old,fun b u o z h=>?_⟩,q⟩
 ·by_cases hb:b ∈ bV outer
  ·obtain ⟨sl,e1⟩:=slot b o e hb
   exact⟨_,e1⟩
  ·obtain ⟨o',e1⟩:=old0 b o e hb
   exact⟨o',fly.1 _ _ e1⟩
 ·refine (I.hok b u z).stay (fun c v hc y=>?_) (fun _ y=>y) fun _ _ y=>y
  rcases hc with z' | z'
  ·subst z'; exact fly.1 _ _ (inB _ _ y (tr _ _ z))
  ·exact fly.1 _ _ (inB _ _ y (tr _ _ z'))
 ·obtain ⟨ob,e1⟩:=(I.hok b u z).at
  have e2:=inB b ob e1 (tr b u z)
  have e3:=fly.1 _ _ e2
  have h:h''.get? b=some o:=h
  rw [h] at e3; cases e3; exact e2
end
structure nG (X:Cx) (E:XK):Prop where
 pass:o7 (eM X.prog X.w) X E
 made:∀ (pins:List (Addr × Obj)) (σ:St) (H:Hp) (s:Shared) (h':Heap) (e C:Addr) (args:List Value),a8 X pins σ H s->Heap.MadeExcOf s.heap h' e (.ref C) args->E (.ref C) none H->X.xe (.ref e) { s with heap:=h' }
 own:PassesOwn (model X.prog X.w) X.A X.env X.xe
theorem aD6 {P:Program}{w:World}{K:PySem.W.Frag}{mg:Str->Option Value}{base:Heap}{N:List Str}{qual:Str}{scope:Scope}{f:Addr}{cd:Value}{A:Around}{outer:List Env}{s₀:Shared}{H₀:Hp}{E₀ E₁:XK} (hE:∀ c d H',E₁ c d H'->E₀ c d H') :
  nG (dP (eM P w) P w K mg base N qual scope f cd A outer s₀ H₀ E₀) E₁:=
 ⟨aD4 hE,fun _ _ _ _ _ _ _ _ I mx q=>aD5 I mx (hE _ _ _ q),PassesOwn.leaving⟩
noncomputable def R3 (E:XK) (C:Addr) (t:TA):TS:=fun _ σ H=>t σ H fun vs H1=>vs.length<=sizeLine/\E (.ref C) none H1
theorem aD7 {X:Cx}{E:XK}{x:Str}{C:Addr}{bm:List Value}{B newId initId:String}{np cpos pos:Pos}{e:Expr}{es:List Expr}{t:TA} (hX:nG X E) (hc:X.calm=true) (O:OwnCls x C bm newId X.mg X.base) (FB:ExcBaseFacts B newId initId bm) (ha:PA X (e :: es) t) (hg:Gl X x)
  (hd:(x == ("__debug__" : Str))=false:=by decide) (he:starEach (e :: es) X.env=(false,eval e X.env) :: starEach es X.env:=by rfl) (hpl:(backTo cpos (starEach es X.env)).any (·.1)=false:=by rfl) :
  PS X (.Raise (some (.Call (.Name x np) (e :: es) [] cpos)) none pos) (R3 E C t):=by
 intro pins s σ H D I h
 obtain ⟨tl,Na,nm,qn,bs,hx,sn,sub,ab,col,dd,k0,k1,k2,k3,k5,mN,hC,hN,hni,T⟩:=O.obj
 refine wpAny_Raise_call_subT (nm:=nm) (q:=qn) (N:=Na) (bs:=bs) (bm:=tl) (hdct:=hx) (sn:=sn) (sub:=sub) (ab:=ab) (col:=col) (dd:=dd) (k0:=k0) (k1:=k1) (k2:=k2) (k3:=k3) (k5:=k5) FB (C:=C) (mN:=mN) (T.hasType FB.hasBase) (I.ok.hd hc) (by rw [he]; show (false || (backTo cpos (starEach es X.env)).any (·.1))=false; rw [hpl]; rfl) hni (nW I hg O.bound ⟨rfl,?_⟩ hd)
 have h1:=ha cpos pins s σ H _ I h
 rw [he] at h1 ⊢
 refine Calls.evalArgs_plain (bj6 h1 (fun us s2 h2=>?_) fun _ _ y=>y)
 obtain ⟨vs,H2,I2,r,hl,q⟩:=h2
 have r:aN vs us:=r
 exact⟨rfl,by show us.length<=sizeLine; rw [<- r.length]; exact hl,I2.bk _ _ hC,hN.keeps I2.bk,T.keeps I2.bk,fun h' e' mx=>hX.made pins σ H2 s2 h' e' C _ I2 mx q⟩
theorem fA.okX {P:Program}{w:World}{K:PySem.W.Frag}{mg:Str->Option Value}{base:Heap}{x qual:Str}{st:Stmt}{f:Addr}{fd:FuncData}{N ps:List Str}{k:Nat}{sp:Sp} (F:fA K x qual st f fd) (S:FnScope N ps (aZ st)) (len:∀ vs H Q E,sp vs H Q E->vs.length=ps.length)
  (hbody:∀ (cdv:Value) (A:Around) (outer:List Env) (s:Shared) (H:Hp) (vs:List V) (Q:VK) (E:XK),cH k (A.deeper (envOfC qual (aZ st) s.heap.objs.size f cdv))->sp vs H Q E->
   ∃ t,e8 (dP (eM P w) P w K mg base N qual (aZ st) f cdv A outer s H E) (eZ st) t/\t { nx:=fun _ H'=>Q .non H',rt:=Q } (start N vs) H):cZ P w K mg base (eM P w) (k+1) f fd ps sp:=by
 obtain ⟨oc,od,kV,doc,pm,an,cdv,ct,osl,rfl,lk,hcd⟩:=F.ex
 exact B4 lk hcd S len fun A outer s H vs Q E hr hsp=>hbody cdv A outer s H vs Q E hr hsp
section
variable {X : Cx} {pins : List (Addr × Obj)} {σ : St} {H H1 H' : Hp} {s s1 s' : Shared} {B h2 : Heap} {a C : Addr}
theorem R4 {oe:Obj} (I:a8 X pins σ H1 s1) (fl:lZ X.prog X.w X.stack H1 s1 H' B a C s') (st:B.StaysIn h2) (up:s'.heap.UpToSlots h2) (he:h2.get? a=some oe) :
  a8 X pins σ (upd H' a (.frz oe (.own a))) { s' with heap:=h2 }:=by
 obtain ⟨a0,fly⟩:=fl.fly
 have na:B.get? a=none:=fly.2.1
 have nf:a ∉ bV X.stack:=fun z=>by
  obtain ⟨_,o,e,d⟩:=fly.2.2.1.mem z
  obtain ⟨o2,vs,e2,_,d2,_⟩:=fly.first
  rw [e] at e2; cases e2
  exact d vs d2
 have nb:∀ b o,s1.heap.get? b=some o->b ≠ a:=fun b o e z=>by
  subst z
  obtain ⟨o',e'⟩:=fl.b0 _ o e nf
  rw [na] at e'; cases e'
 have nt:∀ b u,H' b=some u->b ≠ a:=fun b u e z=>by
  subst z; rw [fl.fresh] at e; cases e
 have off:∀ b,b ≠ X.env.locals->b ∉ X.fs->b ∉ bV X.stack:=fun b n1 n2 z=>(bd0.mp (I.stkSub b z)).elim n1 n2
 have slot:∀ b o,s1.heap.get? b=some o->b ∈ bV X.stack->∃ sl,h2.get? b=some { o with slots:=sl }:=fun b o e hb=>by
  obtain ⟨sl,e1⟩:=fl.un.any e (I.stkFree b hb) (fun z=>nomatch z)
  obtain ⟨_,o2,e2,d⟩:=I.stack.mem hb
  rw [e] at e2; cases e2
  obtain ⟨sl',e3⟩:=up b _ e1 d
  exact⟨sl',e3⟩
 have ns:∀ m,s1.heap.Ns X.env.locals m->h2.Ns X.env.locals m:=fun m hm=>by
  obtain ⟨o,es,ep,e,r⟩:=hm
  obtain ⟨sl,e1⟩:=fl.un.any e I.free (fun z=>nomatch z)
  exact up.ns ⟨_,es,ep,e1,r⟩
 have hok:c8 X.prog X.w (upd H' a (.frz oe (.own a))) h2:=fun b u e=>by
  by_cases hb:b=a
  ·subst hb; rw [bM] at e; cases e; exact⟨he,_,he⟩
  ·rw [b7 hb] at e
   exact (fl.hok2 st b u e).stay (fun _ _ _ q=>q) (fun c q=>by rw [b7 (nt c _ q)]; exact q) fun c xs q=>by rw [b7 (nt c _ q)]; exact q
 have bare:=fl.bare
 have un:=fl.un
 have b0:=fl.b0
 have b1:=fl.b1
 have os:=fl.os
 clear fl fly up
 obtain ⟨hh,g,d,t,os'⟩:=s'
 obtain rfl:os'=s1.os:=os
 show a8 X pins σ _ { s1 with heap:=h2,gens:=g,drawn:=d,toks:=t }
 refine I.step (h':=h2) (g':=g) (d':=d) (t':=t) (ch:=[]) (fun _ z=>nomatch z) (fun b o n1 n2 _ e n=>st _ _ (b1 b o e n (off b n1 n2))) (fun b o n1 hb _ e n=>?_) (fun b o _ e n=>by rw [b7 (nb b o e)]; exact un.free b o e n (fun z=>nomatch z)) (fun b o _ e=>?_)
  (fun b xs q=>by rw [b7 (nt b _ (un.tups b xs q))]; exact un.tups b xs q) (fun b o u q=>by rw [b7 (nt b _ (un.frzs b o u q))]; exact un.frzs b o u q) (fun b ps q=>by
   obtain ⟨more,q'⟩:=un.tbls b ps q
   exact⟨more,by rw [b7 (nt b _ q')]; exact q'⟩) ns hok bare
 ·by_cases hs:b ∈ bV X.stack
  ·exact slot b o e hs
  ·exact⟨o.slots,st _ _ (b1 b o e n hs)⟩
 ·by_cases hb:b ∈ bV X.stack
  ·obtain ⟨sl,e1⟩:=slot b o e hb
   exact⟨_,e1⟩
  ·obtain ⟨o',e1⟩:=b0 b o e hb
   exact⟨o',st _ _ e1⟩
noncomputable abbrev Cx.suite (X:Cx) (a:Addr):Cx:={ X with A:=X.A.mark (some (.ref a)),calm:=false,xe:=fun _ _=>False }
theorem Cx.Ok.suite {X:Cx} (ok:X.Ok) (a:Addr):(X.suite a).Ok:=
 ⟨ok.mod,ok.kind,ok.glob,ok.blt,ok.above,ok.inj,ok.has,ok.cab,fun z=>Bool.noConfusion z,ok.frames,ok.stk,ok.exf,ok.bs,ok.bsz,ok.noex,ok.exfs,ok.funs,ok.frf⟩
theorem a8.suite (I:a8 X pins σ H s) (a:Addr):a8 (X.suite a) pins σ H s:=⟨I.ok.suite a,I.os,I.bare,I.base,I.loc,I.cell,I.free,I.freeC,I.pin,I.hok,I.len⟩
theorem a8.unsuite (I:a8 (X.suite a) pins σ H s) (ok:X.Ok):a8 X pins σ H s:=⟨ok,I.os,I.bare,I.base,I.loc,I.cell,I.free,I.freeC,I.pin,I.hok,I.len⟩
theorem sC {M:Model}{A:Around}{E:Value->Shared->Prop}{i:Nat}{x:Str}{pos:Pos}{Q:Unit->Shared->Prop} (I:a8 X pins σ H s) (hN:X.N.Nodup) (hi:X.N[i]? = some x) (hk:X.env.scope.names.lookup x=some .local)
  (h:∀ s',a8 X pins (σ.set i none) H s'->Q () s'):wpAny M A (do bindName X.env x .none; unbindBehindTheSuite X.env x pos) Q E s:=by
 obtain ⟨m,hn,hl⟩:=id I.loc
 obtain ⟨oL,_,_,hoL,_⟩:=id hn
 have ab:∀ b o,X.s₀.heap.get? b=some o->b ≠ X.env.locals:=fun b o e=>bg0 (bd2 (bd5 e) I.ok.above)
 refine wpAny_nameGoes_keeps hk hn (by rw [I.ok.kind]; rfl) fun h' v hn' hs=>?_
 refine h _ ⟨I.ok,I.os,I.bare,⟨fun b o e n hb hx=>(hs.2 b (ab b o e)).trans (I.base.keep b o e n hb hx),fun b o e n hb hx=>?_,I.base.free,fun b o e hx=>?_,I.base.tups,I.base.frzs,I.base.tbls⟩,⟨_,hn',fun j y v' e1 e2 e3=>?_⟩,fun y c e=>?_,I.free,I.freeC,fun p hp=>?_,fun b u e=>?_,by simpa using I.len⟩
 ·obtain ⟨sl,e1⟩:=I.base.slot b o e n hb hx
  exact⟨sl,(hs.2 b (ab b o e)).trans e1⟩
 ·obtain ⟨o',e1⟩:=I.base.there b o e hx
  exact⟨o',(hs.2 b (ab b o e)).trans e1⟩
 ·by_cases hj:j=i
  ·subst hj
   have hjl:j < σ.length:=by rw [I.len]; exact (bc4.mp hi).1
   rw [bh1 hjl] at e2
   cases e2
  ·rw [be7 (Ne.symm hj)] at e2
   obtain ⟨u',r',q⟩:=hl j y v' e1 e2 e3
   refine⟨u',r',?_⟩
   rcases q with ⟨k,e⟩ | ⟨k,c,e,z⟩
   ·have ny:y ≠ x:=fun z=>hj (tT hN e1 (z ▸ hi))
    exact .inl ⟨k,by simp [ny,e]⟩
   ·exact .inr ⟨k,c,e,z.sameBut hs (I.cne y c e)⟩
 ·obtain ⟨w',z⟩:=I.cell y c e
  exact⟨w',z.sameBut hs (I.cne y c e)⟩
 ·obtain ⟨e,n,ne,nf,d⟩:=I.pin p hp
  exact⟨(hs.2 p.1 ne).trans e,n,ne,nf,d⟩
 ·refine (I.hok b u e).stay (fun c v hc q=>(hs.2 c fun z=>?_).trans q) (fun _ q=>q) fun _ _ q=>q
  subst z
  rcases hc with z | z
  ·subst z; rw [I.free] at e; cases e
  ·rw [I.free] at z; cases z
theorem aD8 {M:Model}{A:Around}{E:Value->Shared->Prop}{K:PySem.W.Frag}{e C D:Addr}{oe:Obj}{Q:Bool->Shared->Prop} (k:K.In s.heap) (he:s.heap.get? e=some oe) (hc:oe.cls = .ref C) (h1:(PySem.W.clsIn K D).isSome=true) (h2:PySem.W.typeIn K (.ref D)=some (.type "type"))
  (h3:PySem.W.subIn K (.ref D) (.type "BaseException")=some true) (h4:PySem.W.subIn K (.ref C) (.ref D)=some true) (hq:Q true s):wpAny M A (excMatches (.ref e) (.ref D)) Q E s:=by
 obtain ⟨h,g,d,t,os⟩:=s
 have k:K.In h:=k
 have he:h.get? e=some oe:=he
 have l1:PySem.W.Looks M h (isType (.ref D)) true:=by
  unfold PySem.W.clsIn at h1
  split at h1
  ·rename_i c' d' cd' sl' ho
   intro A' Q' E' s' kk q
   unfold isType loadHead
   exact bb5 (wpAny_loadPart (kk _ _ (k _ _ ho)) (bc8 q))
  ·cases h1
 have l2:PySem.W.Looks M h (typeOf (.ref D)) (.type "type"):=PySem.W.looks_typeIn k h2
 have l3:PySem.W.Looks M h (isSubtype (.ref D) (.type "BaseException")) true:=PySem.W.looks_subIn k h3
 have l4:PySem.W.Looks M h (isSubtype (.ref C) (.ref D)) true:=PySem.W.looks_subIn k h4
 have l5:PySem.W.Looks M h (typeOf (.ref e)) (.ref C):=hc ▸ (PySem.W.Looks.ld he).andThen .now
 have l6:PySem.W.Looks M h (isInstance (.ref D) (.type "tuple")) false:=l2.andThen (PySem.W.Looks.of_pure tc_notTuple)
 have l7:PySem.W.Looks M h (isExcClass (.ref D)) true:=by
  unfold isExcClass
  exact l1.andThen (by simpa using l3)
 have f:=tc_notTuple
 unfold excMatches
 repeat (first | exact hq | (with_reducible refine l2.at ?_) | (with_reducible refine l7.at ?_) | (with_reducible refine l1.at ?_) | (with_reducible refine l3.at ?_) | (with_reducible refine l5.at ?_) | (with_reducible refine l4.at ?_) | wp_step)
end
noncomputable def wR (D:dH) (i:Nat):dH:={ nx:=fun σ H=>D.nx (σ.set i none) H,rt:=D.rt,bk:=fun σ H=>D.bk (σ.set i none) H,ct:=fun σ H=>D.ct (σ.set i none) H }
section
variable {X : Cx} {pins : List (Addr × Obj)} {σ : St} {H H1 H' : Hp} {s s1 s' : Shared} {B : Heap} {a C Ch : Addr} {i : Nat} {x n : Str} {np pos hpos : Pos} {b₀ : Stmt} {suite : List Stmt} {ts : TS} {D : dH} {cW : List ExceptHandler}
structure wS (K:PySem.W.Frag) (Ch:Addr):Prop where
 c1:(PySem.W.clsIn K Ch).isSome=true
 c2:PySem.W.typeIn K (.ref Ch)=some (.type "type")
 c3:PySem.W.subIn K (.ref Ch) (.type "BaseException")=some true
theorem aD9 (I:a8 X pins σ H1 s1) (fl:lZ X.prog X.w X.stack H1 s1 H' B a C s') (hstk:X.stack=X.env :: X.outer/\X.env.frame=some X.env.locals) (hg:Gl X x) (hm:X.mg x=some (.ref Ch)) (ct:wS X.K Ch) (sub:PySem.W.subIn X.K (.ref C) (.ref Ch)=some true)
  (hN:X.N.Nodup) (hi:X.N[i]? = some n) (hl:X.env.scope.names.lookup n=some .local) (hs:e8 (X.suite a) (b₀ :: suite) ts) (q:∀ oe:Obj,oe.cls = .ref C->ts (wR D i) (σ.set i (some (.ref a))) (upd H' a (.frz oe (.own a)))) (hd:(x == ("__debug__" : Str))=false) :
  wpAny (model X.prog X.w) X.A (noteFrame (.ref a) X.env) (fun _ s₂=>wpAny (model X.prog X.w) X.A (setFlight (.ref a) none) (fun _ s₃=>wpAny (model X.prog X.w) X.A (handleBy (.ref a) X.env (.ExceptHandler (some (.Name x np)) (some n) (b₀ :: suite) hpos :: cW)) (SP X pins D) X.xe s₃) X.xe s₂) X.xe s':=by
 obtain ⟨a0,fly⟩:=fl.fly
 rw [hstk.1] at fly
 refine wpAny_looks_onW (outer:=X.outer) (L:=X.env.locals) (by rw [I.ok.frames,hstk.1]) hstk.2 fly fun h4 held up4=>wpAny_landsW held fun h5 fly5 up5=>?_
 obtain ⟨o5,v5,e5,c5,_⟩:=fly5.first
 have I5:=R4 I fl fly5.1 (up4.trans up5) e5
 refine wpAny_handleBy_cons (codeAny_handlers_test (nW (I5.suite a) hg hm ?_ hd)) (by intro z; cases z)
 refine aD8 I5.kIn e5 c5 ct.c1 ct.c2 ct.c3 sub ?_
 show codeAny (model X.prog X.w) (X.A.mark (some (.ref a))) (.handlers (.ref a) [.ExceptHandler none (some n) (b₀ :: suite) hpos] X.env) _ _
 refine codeAny_handlers_suite_as (lands_againW fly5 fun h6 fly6 up6=>?_)
 obtain ⟨o6,v6,e6,c6,_⟩:=fly6.first
 have I6:=R4 I fl fly6.1 ((up4.trans up5).trans up6) e6
 refine pY I6 hN hi (.inl hl) (v:=.ref a) rfl (fun s7 I7=>?_) (.inr hl)
 refine bj6 (hs pins s7 _ _ (wR D i) (I7.suite a) (q o6 c6)) (fun f s8 h8=>?_) fun _ _ z=>z.elim
 show wpAny (model X.prog X.w) X.A (do bindName X.env n .none; unbindBehindTheSuite X.env n hpos) (fun _ s9=>SP X pins D f s9) X.xe s8
 cases f with
 | next=>obtain ⟨σ',H',J,q⟩:=h8; exact sC (J.unsuite I.ok) hN hi hl fun s9 J9=>⟨_,_,J9,q⟩
 | brk=>obtain ⟨σ',H',J,q⟩:=h8; exact sC (J.unsuite I.ok) hN hi hl fun s9 J9=>⟨_,_,J9,q⟩
 | cont=>obtain ⟨σ',H',J,q⟩:=h8; exact sC (J.unsuite I.ok) hN hi hl fun s9 J9=>⟨_,_,J9,q⟩
 | ret u=>obtain ⟨v,σ',H',J,r,q⟩:=h8; exact sC (J.unsuite I.ok) hN hi hl fun s9 J9=>⟨v,_,_,J9,r,q⟩
end
noncomputable abbrev TB:=dH->XK->St->Hp->Prop
noncomputable def XB (X:Cx) (pins:List (Addr × Obj)) (σ:St) (Ex:XK):Value->Shared->Prop:=fun e s'=>∃ H1 s1,a8 X pins σ H1 s1/\eM X.prog X.w X.stack H1 s1 Ex e s'
noncomputable def PB (X:Cx) (sts:List Stmt) (t:TB):Prop:=
 ∀ (pins:List (Addr × Obj)) (s:Shared) (σ:St) (H:Hp) (D:dH) (Ex:XK),a8 X pins σ H s->t D Ex σ H->wpAny (model X.prog X.w) X.A (execs sts X.env) (SP X pins D) (XB X pins σ Ex) s
section
variable {X : Cx} {k : Nat} {f Ch : Addr} {fd : FuncData} {ps : List Str} {sp : Sp} {x n : Str} {p cp pos np hpos : Pos} {e c : Expr} {es : List Expr} {t : TA} {tb ub : TB} {tc : TT} {sa sb body : List Stmt} {i : Nat} {b₀ : Stmt} {suite : List Stmt} {ts : TS}
noncomputable def R5 (K:PySem.W.Frag) (Ch:Addr) (i:Nat) (tb:TB) (ts:TS):TS:=fun D σ H=>
 tb D (fun c _ H'=>∀ (a C:Addr) (oe:Obj),c = .ref C->H' a=none->oe.cls = .ref C->PySem.W.subIn K (.ref C) (.ref Ch)=some true/\ts (wR D i) (σ.set i (some (.ref a))) (upd H' a (.frz oe (.own a)))) σ H
theorem aE0 (hstk:X.stack=X.env :: X.outer/\X.env.frame=some X.env.locals) (hb:PB X body tb) (hg:Gl X x) (hm:X.mg x=some (.ref Ch)) (ct:wS X.K Ch) (hN:X.N.Nodup) (hi:X.N[i]? = some n) (hl:X.env.scope.names.lookup n=some .local) (hs:∀ a,e8 (X.suite a) (b₀ :: suite) ts)
  (hd:(x == ("__debug__" : Str))=false:=by decide):PS X (.Try body [.ExceptHandler (some (.Name x np)) (some n) (b₀ :: suite) hpos] [] [] pos) (R5 X.K Ch i tb ts):=by
 intro pins s σ H D I h
 refine wpAny_Try_except (bj6 (hb pins s σ H D _ I h) (fun fl s1 q=>?_) (fun ev s1 q=>?_))
 ·cases fl with
  | next=>exact wpAny_execs_nil q
  | _=>exact q
 ·obtain ⟨H1,s2,I1,H',B,a,C,e1,fl,q⟩:=q
  subst e1
  obtain ⟨a0,fly⟩:=fl.fly
  obtain ⟨o5,_,_,c5,_⟩:=fly.first
  exact aD9 I1 fl hstk hg hm ct (q a C o5 rfl fl.fresh c5).1 hN hi hl (hs a) (fun oe hc=>(q a C oe rfl fl.fresh hc).2) hd
end
end L2
namespace L2
open PySem PySem.Spec PyProof.Rows PySem.Calls Builtin Builtin.ObjectAttr Builtin.Getset_descriptor
structure j3 (K:PySem.W.Frag) (D:Addr):Prop where
 cls:(PySem.W.clsIn K D).isSome=true
 ga:PySem.W.findIn K (.ref D) "__getattribute__" = some (some (.builtin "BaseException.__getattribute__"))
 gt:PySem.W.findIn K (.ref D) "__getattr__" = some none
 fc:PySem.W.findIn K (.ref D) "__class__" = some (some (.builtin "object.__class__"))
 fg:PySem.W.specialIn K (.builtin "object.__class__") "__get__" = some (some (.builtin "getset_descriptor.__get__"))
 ft:PySem.W.takesIn K (.builtin "object.__class__")=some true
 ob:PySem.W.mroIn K D (.type "object")=some true
 be:PySem.W.mroIn K D (.type "BaseException")=some true
noncomputable def kY (h:Heap) (x D:Addr):Prop:=∃ ox:Obj,h.get? x=some ox/\ox.cls = .ref D
theorem kY.type {h:Heap}{x D:Addr}{M:Model} (I:kY h x D):PySem.W.Looks M h (typeOf (.ref x)) (.ref D):=by
 obtain ⟨ox,e,c⟩:=I
 exact c ▸ (PySem.W.Looks.ld e).andThen .now
section
variable {prog : Program} {w : World} {A : Around} {E : Value → Shared → Prop} {K : PySem.W.Frag} {x D : Addr} {h : Heap} {g : Array GenState} {d : Drawn} {t : Nat} {os : OsState}
theorem aE1 {M:Model} (F:j3 K D) (k:K.In h):PySem.W.Looks M h (find (.ref x) (.ref D) "__class__") (.bind (.builtin "getset_descriptor.__get__") (.builtin "object.__class__")):=by
 have L1:=PySem.W.looks_findIn (M:=M) k F.fc
 have L2:=PySem.W.looks_specialIn (M:=M) k F.fg
 have L3:=PySem.W.looks_takesIn (M:=M) k F.ft
 unfold find
 refine L1.andThen (PySem.W.Looks.andThen (a:=some (Value.builtin "getset_descriptor.__get__")) L2 ?_)
 refine PySem.W.Looks.andThen (a:=some (Value.builtin "getset_descriptor.__get__",Value.builtin "object.__class__")) ?_ (PySem.W.Looks.tag .now)
 unfold dataDescriptor?
 exact L3.andThen .now
theorem aE2 {tp:Value}{R:Result->Shared->Prop} (F:j3 K D) (k:K.In h) (I:kY h x D) (hq:R (.ok (.ret (.ref D))) ⟨h,g,d,t,os⟩):codeAny (model prog w) A (.call (.builtin "getset_descriptor.__get__") ⟨[.builtin "object.__class__",.ref x,tp],[]⟩) R ⟨h,g,d,t,os⟩:=by
 have L0:=I.type (M:=model prog w)
 have L1:=PySem.W.looks_mroIn (M:=model prog w) k F.ob
 refine codeAny_call_builtin PySem.W.KF.slot_gs.plain PySem.W.KF.entry_gs (PySem.W.KF.slot_gs.check _ _ _ _ _ _ _ _ PySem.W.KF.type_class (PySem.W.KF.args_gs _ _ _) ?_)
 unfold Builtin.«getset_descriptor.__get__» descrGet; rw [PySem.W.dga_obj]
 refine bb5 (bc8 ?_); unfold descrGetter descrCheckInstance descrNameAndClass isInstance
 simp only [PySem.W.KF.owner_class]
 repeat lk
 refine⟨Code.quiet_builtin _ (by decide +kernel),codeAny_builtin PySem.W.KF.entry_class ?_⟩; unfold Builtin.«object.__class__» shownTypeOf
 repeat lk
 exact hq
theorem aE3 {M:Model}{nameV:Value}{Q:Unit->Shared->Prop} (F:j3 K D) (k:K.In h) (I:kY h x D) (hq:Q () ⟨h,g,d,t,os⟩):wpAny M A (checkBuiltinCall "BaseException.__getattribute__" ⟨[.ref x,nameV],[]⟩) Q E ⟨h,g,d,t,os⟩:=by
 have kd:builtinKind "BaseException.__getattribute__" = some .slot:=by decide +kernel
 have sp:splitId "BaseException.__getattribute__" = some ("BaseException","__getattribute__"):=by decide +kernel
 have L:PySem.W.Looks M h (isInstance (.ref x) (.type "BaseException")) true:=(I.type (M:=M)).andThen (PySem.W.looks_mroIn k F.be)
 have ha:=PySem.F.args_bexc_ga (.ref x) nameV
 simp only [checkBuiltinCall,kd,sp]
 refine bb5 (L.at ?_)
 repeat (any_goals (first | assumption | wp_step))
theorem aE4 {tk:Tok}{Q:Fin->Shared->Prop} (F:j3 K D) (k:K.In h) (I:kY h x D) (hq:Q (.done (.ret (.ref D))) ⟨h,g,d,t,os⟩):wpAny (model prog w) A (Builtin.«object.__getattribute__» ⟨[.ref x,.str "__class__" tk],[]⟩) Q E ⟨h,g,d,t,os⟩:=by
 have L0:=I.type (M:=model prog w)
 have L1:=aE1 (M:=model prog w) F k (x:=x)
 refine bb5 (bc8 (bb5 (bc8 (bb5 (L0.at (bb5 (L1.at ?_)))))))
 show wpAny _ _ (holding [_] (call _ _) >>= ret) _ _ _
 exact bb5 (bm2 (wpAny_call (aE2 F k I (bc8 hq))))
theorem aE5 {tk:Tok}{R:Result->Shared->Prop} (F:j3 K D) (k:K.In h) (I:kY h x D) (hq:R (.ok (.ret (.ref D))) ⟨h,g,d,t,os⟩):codeAny (model prog w) A (.call (.builtin "BaseException.__getattribute__") ⟨[.ref x,.str "__class__" tk],[]⟩) R ⟨h,g,d,t,os⟩:=
 codeAny_call_builtin PySem.F.excAttr_ValueError.ga.plain PySem.F.entry_bexc_ga (aE3 F k I (aE4 F k I hq))
theorem aE6 {Q:Option Value->Shared->Prop} (F:j3 K D) (k:K.In h) (I:kY h x D) (hq:Q (some (.ref D)) ⟨h,g,d,t+1,os⟩):wpAny (model prog w) A (getAttr? (.ref x) "__class__") Q E ⟨h,g,d,t,os⟩:=by
 have L0:=I.type (M:=model prog w)
 have L1:=PySem.W.looks_findIn (M:=model prog w) k F.ga
 have L2:=PySem.W.looks_findIn (M:=model prog w) k F.gt
 have f3:=PySem.F.excAttr_ValueError.ga.bind (.ref x)
 unfold getAttr? getAttrBy? getAttrBy
 refine bb5 (wpAny_mkText (bb5 (wpAny_attempt (bm2 (bb5 (L0.at (bb5 (L1.at ?_))))))))
 have nx:(onTheHeap (Value.ref D) && Value.builtin "BaseException.__getattribute__" == Value.builtin "object.__getattribute__")=false:=by
  rw [show (Value.builtin "BaseException.__getattribute__" == Value.builtin "object.__getattribute__")=false by decide +kernel,bm4]
 dsimp only
 rw [if_neg (by rw [nx]; decide)]
 unfold getAttrByItsOwn hookBefore
 repeat (any_goals (first | assumption | (with_reducible refine L2.at ?_) | wp_step))
 exact aE5 F k I (PySem.W.handed_on rfl (bc8 hq))
end
theorem aE7 {K:PySem.W.Frag}{x D:Addr} (F:j3 K D):PySem.W.KitX K (.ref x) (.ref D) (fun h=>kY h x D) where
 ty:=fun _ _ _ I=>I.type
 it:=fun M h k _=>by
  have z:=F.cls
  unfold PySem.W.clsIn at z
  split at z
  ·rename_i c' d' cd' sl' ho
   intro A' Q' E' s' kk q
   unfold isType loadHead
   exact bb5 (wpAny_loadPart (kk _ _ (k _ _ ho)) (bc8 q))
  ·cases z
 ne:=fun h tp dd its n sl k htp=>by
  have z:=F.cls
  refine bm5.mpr fun q=>?_
  obtain rfl:D=tp:=Value.ref.inj (beq_iff_eq.mp q)
  unfold PySem.W.clsIn at z
  split at z
  ·rename_i ho
   have y:=(k _ _ ho).symm.trans htp
   cases y
  ·cases z
 ca:=fun {_ _ _ _ _ s} k I q=>by
  obtain ⟨h,g,d,t,os⟩:=s
  exact aE6 F k I q
end L2
namespace L2
open PySem PySem.Spec PyProof.Rows
section
variable {X : Cx}
noncomputable def R6:V->List V->Hp->VK->Prop:=fun x vs H Q=>∃ l xs y,∃ k:Nat,x = .ref l/\vs = [.int k,y]/\H l=some (.lst xs)/\k<=xs.length/\xs.length < sizeLine/\Q .non (upd H l (.lst (xs.take k ++ y :: xs.drop k)))
theorem aE8:mH X "list.insert" R6:=by
 intro pins s σ H x vs v us Q I rx rv h
 obtain ⟨l,xs,y,k,rfl,rfl,hH,hk,hz,q⟩:=h
 obtain ⟨u1,u2,rfl,⟨t,rfl⟩,r2⟩:=rv.two
 obtain rfl:v=Value.ref l:=rx
 obtain ⟨z,its,n,r,hl,e⟩:=I.lstM hH
 have hs:sizeLine=16777216:=sizeLine_eq
 obtain ⟨x,hx⟩:∃ x:Int,x=(k:Int):=⟨_,rfl⟩
 rw [<- hx]
 have hf : ¬(!Builtin.List.listFitsIndex x)=true:=by
  have h1:Builtin.List.listFitsIndex x=true:=by
   unfold Builtin.List.listFitsIndex
   rw [bg2]
   exact⟨bc0 (by omega),bc0 (by omega)⟩
  rw [h1]; exact bd9
 have hz2:its.toArray.size<=sizeLine:=by rw [bb6]; omega
 refine call_meets PySem.F.slot_list_insert ⟨_,e,rfl⟩ PySem.F.entry_list_insert (PySem.F.args_list_insert_3 _ _ _) (AutoSeq1.list_insert_list_int_val_1 l its.toArray n x t u2 hf hz2) ⟨e,.non,_,?_,rfl,q⟩
 refine I.lset (its':=its.take k ++ u2 :: its.drop k) hH e ?_ ((r.take k).append (.cons r2 (r.drop k))) ?_
 ·have e1:(if x < 0 then (x+(its.toArray.size:Int)).toNat else min x.toNat its.toArray.size)=k:=by
   rw [if_neg (by omega),bb6]
   omega
  dsimp only
  rw [e1]
  apply Array.toList_inj.mp
  simp only [Array.toList_append,Array.toList_push,Array.toList_extract,List.extract_eq_drop_take]
  simp
  rw [bf5 (by rw [bk5]; omega)]
 ·rw [bd3,be6,bj2,bk5]
  omega
end
end L2
namespace Core
open PySem L2 PP
noncomputable def iG (ns:List Int):Bool:=((ns.zip (ns.drop 1)).map fun p=>decide (p.1 < p.2)).all id
theorem sD {α β:Type}{l:List α}{f:α->β}{i:Nat}{x:α} (h:l[i]? = some x):(l.take (i+1)).map f=(l.take i).map f ++ [f x]:=by
 rw [bf8,h]; simp
theorem gI:∀ {ns:List Int},iG ns=true->ns.Pairwise (· < ·)
 | [],_=>.nil
 | [x],_=>be8 _ _
 | x :: y :: r,h=>by
  have e:iG (x :: y :: r)=(decide (x < y) && iG (y :: r)):=rfl
  rw [e,bg2] at h
  have ih:=gI h.2
  refine bk2.mpr ⟨fun z hz=>?_,ih⟩
  rcases bd0.mp hz with rfl | hz
  ·exact bi0 h.1
  ·exact Int.lt_trans (bi0 h.1) (List.rel_of_pairwise_cons ih hz)
theorem wT:∀ {ns:List Int},ns.Pairwise (· < ·)->iG ns=true
 | [],_=>rfl
 | [x],_=>rfl
 | x :: y :: r,h=>by
  have e:iG (x :: y :: r)=(decide (x < y) && iG (y :: r)):=rfl
  have h':=bk2.mp h
  rw [e,wT h'.2,Bool.and_true]
  exact bc0 (h'.1 y bc6)
noncomputable def kin (ws:List Int) (ls:List (Int × Int)) (S:List Int) (h:Int):Bool:=!decide (h ∈ S) && decide (ws.getD h.toNat 0<=(((aO ls h).filter fun x=>decide (x ∈ S)).length:Int))
noncomputable def nextOf (ws:List Int) (ls:List (Int × Int)) (S:List Int):List Int:=((List.range ws.length).map fun (i:Nat)=>(i:Int)).filter (kin ws ls S)
noncomputable def pE (ws:List Int) (ls:List (Int × Int)) (S:List Int):Nat->List Int
 | 0=>S
 | k+1=>pE ws ls S k ++ nextOf ws ls (pE ws ls S k)
noncomputable def R7 (ws:List Int) (S:List Int):Nat:=(((List.range ws.length).map fun (i:Nat)=>(i:Int)).filter fun x=>!decide (x ∈ S)).length
theorem R8 {α:Type} (p q:α->Bool) (h:∀ x,q x=true->p x=false):∀ L:List α,(L.filter fun x=>!p x && !q x).length+(L.filter q).length=(L.filter fun x=>!p x).length
 | []=>rfl
 | x :: r=>by
  have ih:=R8 p q h r
  cases e1:p x with
  | true=>
   have e2:q x=false:=by
    cases e:q x with
    | false=>rfl
    | true=>have:=h x e; rw [e1] at this; cases this
   simp only [bn2,e1,e2,Bool.not_true,Bool.false_and,be9,bi5]
   exact ih
  | false=>
   cases e2:q x with
   | true=>
    simp only [bn2,e1,e2,Bool.not_true,Bool.not_false,bm4,be9,bi5,if_true,be6]
    omega
   | false=>
    simp only [bn2,e1,e2,Bool.not_false,Bool.and_true,be9,bi5,if_true,be6]
    omega
theorem aE9 {ws:List Int}{ls:List (Int × Int)}{S:List Int}{x:Int} (h:kin ws ls S x=true):decide (x ∈ S)=false:=by
 unfold kin at h
 cases e:decide (x ∈ S) with
 | false=>rfl
 | true=>rw [e] at h; cases h
noncomputable def after (ws:List Int) (ls:List (Int × Int)) (S:List Int) (m:Nat):List (List Int):=(List.range m).map fun k=>nextOf ws ls (pE ws ls S k)
theorem aF0 {ws ns:List Int} (hu:ns.Pairwise (· < ·)) (hin:∀ x ∈ ns,0<=x/\x < (ws.length:Int)):ns.length+R7 ws ns<=ws.length:=by
 have nd:ns.Nodup:=hu.imp fun h=>bm7 h
 have sub:ns ⊆ ((List.range ws.length).map fun (i:Nat)=>(i:Int)).filter fun x=>decide (x ∈ ns):=fun x hx=>by
  refine bd7.mpr ⟨bd6.mpr ⟨x.toNat,bp2.mpr ?_,?_⟩,bc0 hx⟩
  ·have:=hin x hx; omega
  ·have:=hin x hx; omega
 have h1:=nd.length_le_of_subset sub
 have h2:=R8 (fun _=>false) (fun x=>decide (x ∈ ns)) (fun _ _=>rfl) ((List.range ws.length).map fun (i:Nat)=>(i:Int))
 have h3:(((List.range ws.length).map fun (i:Nat)=>(i:Int)).filter fun x=>!false && !decide (x ∈ ns)).length=R7 ws ns:=rfl
 have h4:(((List.range ws.length).map fun (i:Nat)=>(i:Int)).filter fun x=>!false).length<=ws.length:=by
  refine bg5 (bg7 _ _) ?_
  rw [bb8,List.length_range]; exact bc5 _
 rw [h3] at h2
 omega
noncomputable def dH (ws:List Int) (ls:List (Int × Int)) (ns:List Int) (m:Nat):Prop:=(∀ k < m,nextOf ws ls (pE ws ls ns k) ≠ [])/\nextOf ws ls (pE ws ls ns m) = []
theorem j4 {ns:List Int}{i:Nat}{x:PV} (h:(intz ns)[i]? = some x):∃ n,x = .int n/\ns[i]? = some n:=by
 rw [bd1] at h
 cases e:ns[i]? with
 | none=>rw [e] at h; cases h
 | some n=>rw [e] at h; exact⟨n,(be3 h).symm,rfl⟩
theorem j5 {lo:Int}{n i:Nat}{x:PV} (h:(fD lo n)[i]? = some x):x = .int (lo+i)/\i < n:=by
 have hi:i < n:=by
  have:=(bc4.mp h).1
  rwa [fE] at this
 rw [wD hi] at h
 exact⟨(be3 h).symm,hi⟩
noncomputable def rng (n:Nat):List Int:=(List.range n).map fun (i:Nat)=>(i:Int)
theorem dX (n:Nat):(rng n).length=n:=by unfold rng; rw [bb8,List.length_range]
theorem wU {n i:Nat} (h:i < n):(rng n)[i]? = some (i:Int):=by unfold rng; rw [bd1,List.getElem?_range h]; rfl
theorem cT {n:Nat}{x:Int}:x ∈ rng n ↔ 0<=x/\x < (n:Int):=by
 unfold rng
 rw [bd6]
 constructor
 ·rintro ⟨i,hi,rfl⟩
  have:=bp2.mp hi
  omega
 ·intro h
  exact⟨x.toNat,bp2.mpr (by omega),by omega⟩
theorem pF {α:Type}{l:List α}{p:α->Bool}{i:Nat}{x:α} (h:l[i]? = some x):(l.take (i+1)).filter p=(l.take i).filter p ++ (if p x=true then [x] else []):=by
 rw [bf8,h,List.filter_append]
 congr 1
 cases e:p x <;> simp [e]
theorem fU (a b:List Int):intz (a ++ b)=intz a ++ intz b:=bd8
theorem bO (a:List Int):(intz a).length=a.length:=bb8 _
noncomputable def bF (ws:List Int) (ls:List (Int × Int)):PV:=.tup [.tup (intz ws),.tup (ls.map fun l=>.tup [.int l.1,.int l.2])]
structure Wb (ws:List Int) (ls:List (Int × Int)):Prop where
 few:ws.length<=40
 most:ls.length<=1700
 links:∀ l ∈ ls,(0<=l.1/\l.1 < ws.length)/\0<=l.2/\l.2 < ws.length
noncomputable def dR (x:PV) (ns:List Int):Prop:=x = .tup (intz ns) ∨ x = .lst (intz ns)
theorem dR.seq {x:PV}{ns:List Int} (h:dR x ns):iU x=some (intz ns):=by rcases h with rfl | rfl <;> rfl
theorem dR.seqT {x:PV}{ns:List Int} (h:dR x ns):seqT x=some (intz ns):=by rcases h with rfl | rfl <;> rfl
theorem fH:∀ (ls:List (Int × Int)),flats (ls.map fun l=>PV.tup [.int l.1,.int l.2])=true
 | []=>rfl
 | l :: r=>by
  show (flat (.tup [.int l.1,.int l.2]) && flats (r.map fun l=>PV.tup [.int l.1,.int l.2]))=true
  rw [fH r]; rfl
theorem wV (ws:List Int) (ls:List (Int × Int)):flat (bF ws ls)=true:=by
 show flats [.tup (intz ws),.tup (ls.map fun l=>PV.tup [.int l.1,.int l.2])]=true
 show (flat (.tup (intz ws)) && (flat (.tup (ls.map fun l=>PV.tup [.int l.1,.int l.2])) && true))=true
 show (flats (intz ws) && (flats (ls.map fun l=>PV.tup [.int l.1,.int l.2]) && true))=true
 rw [eF,fH]; rfl
noncomputable def gJ:bH:=fun xs Q=>∃ ws ls,xs = [bF ws ls]/\Q (.int ws.length)
noncomputable def R9:aK:=(bG (aB cP (a6 (aX (a5 0) (qC (.int 0))) a9)))
noncomputable abbrev cF (t:aK) (N:List Str) (p:bH):Prop:=∀ xs Q,p xs Q->t { nx:=fun _=>Q .non,rt:=Q } (gH N xs)
theorem aF1:cF R9 ["web"] gJ:=by
 rintro xs Q ⟨ws,ls,rfl,q⟩
 refine⟨_,rfl,_,_,_,rfl,rfl,rfl,_,_,rfl,rfl,trivial,?_⟩
 rw [bO]; exact q
noncomputable def wW:bH:=fun xs Q=>∃ x ns,xs = [x]/\dR x ns/\ns.length<=1000/\Q (.bl (iG ns))
noncomputable def inB (n:Nat) (x:Int):Bool:=decide (0<=x) && decide (x < (n:Int))
noncomputable def sE:bH:=fun xs Q=>∃ ws ls n,xs = [bF ws ls,.int n]/\Q (.bl (inB ws.length n))
noncomputable def S0:aK:=(bG (kM (O7 (a5 1) (qC (.int 0))) (lV (a5 1) (aB gJ (a6 (a5 0) a9)))))
theorem aF2:cF S0 ["web","number"] sE:=by
 rintro xs Q ⟨ws,ls,n,rfl,q⟩
 refine⟨_,rfl,_,_,rfl,rfl,_,rfl,?_⟩
 unfold inB at q
 by_cases h:(0:Int)<=n
 ·rw [bc0 h] at q ⊢
  refine bD ⟨_,rfl,_,rfl,ws,ls,rfl,_,_,rfl,rfl,trivial,?_⟩
  simpa using q
 ·rw [bc3 h] at q ⊢
  exact bB ⟨trivial,by simpa using q⟩
noncomputable def bE (n:Nat) (ns:List Int):Bool:=iG ns && (ns.map (inB n)).all id
noncomputable def sF:bH:=fun xs Q=>∃ ws ls x ns,xs = [bF ws ls,x]/\dR x ns/\ns.length<=1000/\Q (.bl (bE ws.length ns))
noncomputable def S2:aK:=(bG (kM (aB wW (a6 (a5 1) a9)) (aB w6 (a6 (cS (dM (a5 1)) [none,some 0] (bZ 0) dB (aB sE (a6 (a5 1) (a6 (a5 0) a9)))) a9))))
theorem sG {x:PV}{ns:List Int} (h:dR x ns):(Slot.sh (flat x) x).tag = .rd->flat x=true:=by
 cases flat x <;> intro z <;> cases z
theorem aF3:cF S2 ["web","numbers"] sF:=by
 rintro xs Q ⟨ws,ls,x,ns,rfl,hx,hl,q⟩
 refine⟨_,rfl,x,ns,rfl,hx,hl,_,rfl,?_⟩
 unfold bE at q
 cases h:iG ns with
 | false=>rw [h] at q; exact bB ⟨trivial,q⟩
 | true=>
  rw [h] at q
  refine bD ⟨_,rfl,_,hx.seq,sG hx,by rw [bO]; omega,fun i acc=>acc=(((ns.take i).map (inB ws.length)).map PV.bl),rfl,?_,?_⟩
  ·rintro i y acc hy rfl
   obtain ⟨n,rfl,hn⟩:=j4 hy
   have tk:((ns.take (i+1)).map (inB ws.length)).map PV.bl=((ns.take i).map (inB ws.length)).map PV.bl ++ [PV.bl (inB ws.length n)]:=by rw [sD hn,bd8]; rfl
   exact⟨_,rfl,_,rfl,ws,ls,n,rfl,trivial,tk.symm⟩
  ·rintro acc rfl
   rw [bO,bj4]
   exact⟨_,rfl,trivial,by simpa using q⟩
theorem dR.noscr {x:PV}{ns:List Int} (h:dR x ns):∀ ms,([x]:List PV) ≠ [.scr ms]:=by
 rcases h with rfl | rfl <;> intro ms z <;> cases z
structure DS (ps:List (aJ × PV)) (S:List Int):Prop where
 has:∀ i:Int,(dA ps (Sum.inl i:aJ)).isSome=decide (i ∈ S)
 len:ps.length<=S.length
 fl:flats (ps.map (·.2))=true
theorem DS.nil:DS [] []:=⟨fun i=>rfl,bc5 _,rfl⟩
section
variable {κ : Type} [DecidableEq κ]
theorem k9 {p:κ × PV}{r:List (κ × PV)}{k:κ} (e:p.1=k):dA (p :: r) k=some p.2:=by simp [dA,bl8,e]
theorem kA {p:κ × PV}{r:List (κ × PV)}{k:κ} (e : ¬ p.1=k):dA (p :: r) k=dA r k:=by simp [dA,bl8,e]
theorem sH (k:κ):∀ kvs:List (κ × PV),(kvs.any fun kv=>decide (kv.1=k))=(dA kvs k).isSome
 | []=>rfl
 | p :: r=>by
  rw [bo9]
  by_cases e:p.1=k
  ·simp only [k9 e,bc0 e,Bool.true_or,Option.isSome_some]
  ·rw [kA e,bc3 e,Bool.false_or]; exact sH k r
theorem S3 (k j:κ) (y:PV):∀ kvs:List (κ × PV),dA (kvs.map fun kv=>if kv.1=k then (kv.1,y) else kv) j=(dA kvs j).map fun x=>if j=k then y else x
 | []=>rfl
 | p :: r=>by
  have ih:=S3 k j y r
  rw [bi1]
  by_cases h:p.1=k
  ·rw [if_pos h]
   by_cases e:p.1=j
   ·rw [k9 (p:=(p.1,y)) e,k9 e,Option.map_some,if_pos (e.symm.trans h)]
   ·rw [kA (p:=(p.1,y)) e,kA e,ih]
  ·rw [if_neg h]
   by_cases e:p.1=j
   ·rw [k9 (p:=p) e,k9 e,Option.map_some,if_neg (fun z=>h (e.trans z))]
   ·rw [kA (p:=p) e,kA e,ih]
theorem S4 (k j:κ) (y:PV):∀ kvs:List (κ × PV),dA kvs k=none->dA (kvs ++ [(k,y)]) j=if j=k then some y else dA kvs j
 | [],_=>by
  by_cases e:k=j
  ·rw [if_pos e.symm]; exact k9 (p:=(k,y)) e
  ·rw [if_neg (fun z=>e z.symm)]; exact kA (p:=(k,y)) e
 | p :: r,hn=>by
  rw [List.cons_append]
  have hk : ¬ p.1=k:=fun z=>by rw [k9 z] at hn; cases hn
  rw [kA hk] at hn
  have ih:=S4 k j y r hn
  by_cases e:p.1=j
  ·rw [k9 e,k9 e,if_neg (fun z=>hk (e.trans z))]
  ·rw [kA e,kA e,ih]
theorem aF4 (kvs:List (κ × PV)) (k j:κ) (y:PV):dA (fQ kvs k y) j=if j=k then some y else dA kvs j:=by
 unfold fQ
 by_cases a:(kvs.any fun kv=>decide (kv.1=k))=true
 ·rw [if_pos a,S3]
  rw [sH] at a
  by_cases e:j=k
  ·obtain ⟨x,hx⟩:=Option.isSome_iff_exists.mp a
   rw [if_pos e,e,hx,Option.map_some,if_pos rfl]
  ·rw [if_neg e]
   cases dA kvs j with
   | none=>rfl
   | some x=>rw [Option.map_some,if_neg e]
 ·rw [if_neg a]
  refine S4 k j y kvs ?_
  rw [sH] at a
  cases q:dA kvs k with
  | none=>rfl
  | some x=>rw [q] at a; exact (a rfl).elim
theorem aF5 (kvs:List (κ × PV)) (k:κ) (v:PV):(fQ kvs k v).length<=kvs.length+1:=by
 unfold fQ
 split
 ·rw [bb8]; omega
 ·rw [bd3,be6,List.length_nil]; omega
end
theorem S5:∀ (xs:List PV),flats xs=true ↔ ∀ x ∈ xs,flat x=true
 | []=>by simp [flats]
 | x :: r=>by
  unfold flats
  rw [bg2,S5 r]; simp
theorem aF6 {κ:Type} [DecidableEq κ] {ps:List (κ × PV)}{k:κ}{v:PV}{p:κ × PV} (h:p ∈ fQ ps k v):p.2=v ∨ p ∈ ps:=by
 unfold fQ at h
 split at h
 ·obtain ⟨q,hq,e⟩:=bd6.mp h
  split at e
  ·subst e; exact .inl rfl
  ·subst e; exact .inr hq
 ·rcases bc9.mp h with h | h
  ·exact .inr h
  ·rw [bc1.mp h]; exact .inl rfl
theorem aF7 {κ:Type} [DecidableEq κ] {ps:List (κ × PV)}{k:κ}{v:PV} (h:flats (ps.map (·.2))=true) (hv:flat v=true):flats ((fQ ps k v).map (·.2))=true:=by
 rw [S5] at h ⊢
 intro x hx
 obtain ⟨p,hp,rfl⟩:=bd6.mp hx
 rcases aF6 hp with e | e
 ·rw [e]; exact hv
 ·exact h _ (bd6.mpr ⟨p,e,rfl⟩)
theorem DS.put {ps:List (aJ × PV)}{S:List Int} (h:DS ps S) (x:Int) (v:PV) (hv:flat v=true):DS (fQ ps (Sum.inl x:aJ) v) (S ++ [x]):=by
 refine⟨fun i=>?_,?_,aF7 h.fl hv⟩
 ·rw [aF4]
  by_cases e:i=x
  ·subst e; rw [if_pos rfl]; simp
  ·rw [if_neg (fun z=>e (Sum.inl.inj z)),h.has]
   simp [e]
 ·have:=aF5 ps (Sum.inl x:aJ) v
  have:=h.len
  rw [bd3,bf6]; omega
noncomputable def nH:bH:=fun xs Q=>∃ x ns,xs = [x]/\dR x ns/\ns.length<=1000/\∀ ps,DS ps ns->Q (.dK ps)
noncomputable def S6:aK:=(aE (e9 1 (qC (.dK [])))
 (aE (eJ (dM (a5 0)) (bZ 2)
  (rQ 1 (a5 2) (qC (.bl true))))
 (iT 1)))
theorem aF8:cF S6 ["hearths","inside","hearth"] nH:=by
 rintro xs Q ⟨x,ns,rfl,hx,hl,q⟩
 refine⟨rfl,rfl,_,rfl,_,hx.seq,sG hx,fun i ρ=>∃ y ps,ρ = [some (.sh (flat x) x),some (.own (.dK ps)),y]/\DS ps (ns.take i),⟨none,[],rfl,DS.nil⟩,?_,?_⟩
 ·rintro i y ρ hy ⟨y0,ps,rfl,d⟩
  obtain ⟨n,rfl,hn⟩:=j4 hy
  have hlen:=d.len
  rw [bj2] at hlen
  refine⟨_,rfl,_,rfl,Sum.inl n,rfl,trivial,by omega,_,_,rfl,?_⟩
  rw [bf8,hn]
  exact d.put n _ rfl
 ·rintro ρ ⟨y,ps,rfl,d⟩
  rw [bO,bj4] at d
  exact⟨_,rfl,trivial,q ps d⟩
noncomputable def cU (n:Nat) (ls:List (Int × Int)):List PV:=(List.range n).map fun (k:Nat)=>PV.lst (intz (aO ls k))
noncomputable def iH:bH:=fun xs Q=>∃ ws ls,xs = [bF ws ls]/\Wb ws ls/\Q (.lst (cU ws.length ls))
theorem wX {n:Nat}{ls:List (Int × Int)}{h:Int} (h0:0<=h) (h1:h < (n:Int)):atI (cU n ls) h=some (.lst (intz (aO ls h))):=by
 refine mL h0 ?_
 unfold cU
 rw [bd1,List.getElem?_range (by omega)]
 show some (PV.lst (intz (aO ls ((h.toNat:Nat):Int))))=_
 rw [show ((h.toNat:Nat):Int)=h by omega]
theorem aF9 {ws:List Int}{h:Int} (h0:0<=h) (h1:h < (ws.length:Int)):atI (intz ws) h=some (.int (ws.getD h.toNat 0)):=by
 refine mL h0 ?_
 have:h.toNat < ws.length:=by omega
 rw [bd1,bc7,bb9 this]; rfl
noncomputable def tups (rs:List (List Int)):List PV:=rs.map fun r=>PV.tup (intz r)
theorem sI (rs:List (List Int)):(tups rs).length=rs.length:=bb8 _
theorem fV {n:Nat}{ns:List Int} (h:bE n ns=true):iG ns=true/\∀ x ∈ ns,0<=x/\x < (n:Int):=by
 unfold bE at h
 rw [bg2,bk8] at h
 refine⟨h.1,fun x hx=>?_⟩
 have:=h.2 _ (bd6.mpr ⟨x,hx,rfl⟩)
 unfold inB at this
 simpa using this
theorem sJ {n:Nat}{ns:List Int} (h:bE n ns=true):ns.length<=n:=by
 obtain ⟨h1,h2⟩:=fV h
 have:=aF0 (ws:=List.replicate n (0:Int)) (gI h1) (by rw [bl4]; exact h2)
 rw [bl4] at this
 omega
end Core
namespace PP
open PySem L2
noncomputable def wY (te:aF):aF:=fun ρ Q=>te ρ fun x _=>∃ n:Int,x = .int n/\0<=n/\n<=1000000/\Q (.lst (fD 0 n.toNat)) .fr
noncomputable def sK:List PV->(PV->Prop)->Prop:=fun xs Q=>∃ ys:List (List Int),xs = [.lst (ys.map fun r=>PV.tup (intz r))]/\ys.length < 64/\(∀ y ∈ ys,y ≠ [])/\∀ zs:List (List Int),zs.Perm ys->zs.Pairwise (fun u v=>HT.fM v u=false)->Q (.lst (zs.map fun r=>PV.tup (intz r)))
end PP
namespace Core
open PySem L2 PP
theorem aG0 (g:Tg) (n:Int):Nw g (.int n):=by cases g <;> first | exact trivial | rfl
noncomputable def pG (x:PV) (ns:List Int):Prop:=x = .scr ns ∨ x = .lst (intz ns)
theorem pG.seq {x:PV}{ns:List Int} (h:pG x ns):iU x=some (intz ns):=by rcases h with rfl | rfl <;> rfl
theorem pG.len {x:PV}{ns:List Int} (h:pG x ns):w4 x=some ns.length:=by
 rcases h with rfl | rfl
 ·rfl
 ·show some (intz ns).length=_
  rw [bO]
noncomputable def dS:bH:=fun xs Q=>∃ x ns k,xs = [x,.int k]/\pG x ns/\0<=k/\Q (.int (ns.getD k.toNat 0))
noncomputable def S7:aK:=(aE (cB (b9 (lV (a5 1) (aB cP (a6 (a5 0) a9)))) (bG (aX (a5 0) (a5 1))) cD)
 (bG (qC (.int 0))))
theorem aG1:cF S7 ["script","k"] dS:=by
 rintro xs Q ⟨x,ns,k,rfl,hx,h0,q⟩
 refine⟨_,rfl,_,rfl,_,_,rfl,hx.len,_,_,rfl,rfl,_,rfl,?_⟩
 by_cases h:k < (ns.length:Int)
 ·rw [bc0 h]
  exact bD ⟨_,rfl,_,rfl,_,_,_,hx.seq,rfl,aF9 h0 h,aG0 _ _,q⟩
 ·rw [bc3 h]
  rw [bc7,List.getElem?_eq_none (by omega)] at q
  exact bB ⟨trivial,q⟩
noncomputable def aH (ls:List (Int × Int)):List PV:=ls.map fun l=>PV.tup [.int l.1,.int l.2]
theorem dF (ls:List (Int × Int)):(aH ls).length=ls.length:=bb8 _
noncomputable def j6 (l m:Int × Int):Prop:=l.1 < m.1 ∨ (l.1=m.1/\l.2 < m.2)
noncomputable abbrev si (n:Int):Option Slot:=some (.sh true (.int n))
noncomputable def sL:bH:=fun xs Q=>∃ i,xs = [.int i]/\Q (.bl true)
noncomputable def S8 (K:PySem.W.Frag):aK:=(bG (kM (lU K "int" (a5 0)) (vR (lU K "bool" (a5 0)))))
theorem dR.len {x:PV}{ns:List Int} (h:dR x ns):w4 x=some ns.length:=by
 rcases h with rfl | rfl <;> (show some (intz ns).length=_; rw [bO])
theorem aG2 {K:PySem.W.Frag} (k1:PySem.W.kitOne K (.type "int") (.type "int")=some true) (k2:PySem.W.kitOne K (.type "int") (.type "bool")=some false):cF (S8 K) ["found"] sL:=by
 rintro xs Q ⟨i,rfl,q⟩
 exact⟨_,rfl,_,_,rfl,k1,_,rfl,bD ⟨_,rfl,_,_,rfl,k2,_,rfl,trivial,q⟩⟩
theorem sM {ls:List (Int × Int)}{i:Nat}{x:PV} (h:(aH ls)[i]? = some x):∃ l,x = .tup [.int l.1,.int l.2]/\ls[i]? = some l:=by
 unfold aH at h
 rw [bd1] at h
 cases e:ls[i]? with
 | none=>rw [e] at h; cases h
 | some n=>rw [e] at h; exact⟨n,(be3 h).symm,rfl⟩
end Core
namespace PP
open PySem L2 PyProof.Rows
theorem Reps.rep {K:PySem.W.Frag}{M:Addr->Prop}{H:Hp}{us:List V}{xs:List PV} (r:Reps K M H us xs):∀ k:Nat,Reps K M H (List.replicate k us).flatten (List.replicate k xs).flatten
 | 0=>.nil
 | k+1=>by rw [bg4,bg4,bl2,bl2]; exact r.append (Reps.rep r k)
section
variable {X : Cx} {a b e : Expr} {ta tb te : aF} {tr : cO} {pos p2 p3 pos2 : Pos}
theorem aG3 {tA:TA} (hg:Gl X "range") (hm:X.mg "range" = none) (ha:PA X [a] tA) (hs:starEach [a] X.env = [(false,eval a X.env)]:=by rfl) :
  PE X (.Call (.Name "range" p2) [a] [] pos) (fun σ H Q=>tA σ H fun vs H1=>∃ j:Int,vs = [.int j]/\∀ r,H1 r=none->Q (.ref r) (upd H1 r (.rng 0 j))):=by
 intro pins s σ H Q I h
 refine Call_ (jH I hg hm boot_range (bi3 (aQ (ha pos pins s σ H _ I h) fun us s1 ⟨vs,H1,I1,r1,q1⟩=>?_) hs rfl))
 obtain ⟨j,e,q⟩:=q1
 subst e
 cases r1 with
 | cons r rr=>
  cases rr
  obtain ⟨t,rfl⟩:=r
  refine call_range_1 ?_
  exact⟨.ref s1.heap.objs.size,_,I1.laid (o:=.rng 0 j) (fun b ob q=>bb7 _ q) (bc5 _) ⟨_,_,_,be1 _ rfl⟩,rfl,q _ (I1.hok.fresh (bc5 _))⟩
theorem S9:∀ {xs:List V}{us:List Value},xs.length=us.length->(∀ (i:Nat) x u,xs[i]? = some x->us[i]? = some u->aY x u)->aN xs us
 | [],[],_,_=>.nil
 | x :: xs,u :: us,hl,h=>.cons (h 0 x u rfl rfl) (S9 (by simpa using hl) fun i y w h1 h2=>h (i+1) y w (by rw [bk0]; exact h1) (by rw [bk0]; exact h2))
theorem aG4 {n:Nat}{acc:Array Value} (h:ItemsOf (fun i v=>∃ t,v = .int (0+(i:Int) * 1) t) acc n):aN (jT 0 n) acc.toList:=by
 obtain ⟨h1,h2⟩:=h
 refine S9 (by rw [vB]; simp [h1]) fun i x u hx hu=>?_
 have hi:i < n:=by
  have:=(bc4.mp hx).1
  rwa [vB] at this
 unfold jT at hx
 rw [bd1,List.getElem?_range hi] at hx
 cases hx
 obtain ⟨t,rfl⟩:=h2 i u (by rw [<- Array.getElem?_toList]; exact hu)
 exact⟨t,by congr 1; omega⟩
theorem aG5 (hc:X.calm=true):cX X (.type "list") (fun xs H Q=>∃ r j,xs = [.ref r]/\H r=some (.rng 0 j)/\0<=j/\j<=1000000/\∀ l,H l=none->Q (.ref l) (upd H l (.lst (jT 0 j.toNat)))):=by
 intro pins s σ H xs us Q I r h
 obtain ⟨p,j,rfl,hq,h0,h1,q⟩:=h
 obtain ⟨u,rfl,rx⟩:=gN r
 cases rx
 obtain ⟨t,u,v,ho⟩:=(show bY X.prog X.w H s.heap p (.rng 0 j) from I.hok p _ hq)
 refine PySem.call_list_range (a:=0) (b:=j) (c:=1) (n:=j.toNat) (I.ok.hd hc) ho (small_one (by decide) (by decide) (by omega) (by omega)) (by rw [rangeSize_one]; split <;> omega) (by omega) fun h' tk acc' c' kp e it=>?_
 have vv:=aG4 it
 have eq:acc'.toList.toArray=acc':=by simp
 exact⟨.ref s.heap.objs.size,_,I.laid (t':=tk) (o:=.lst (jT 0 j.toNat)) kp (bc5 _) ⟨by rw [vB]; exact lim (by omega),acc'.toList,c',vv,by rw [eq]; exact e⟩,rfl,q _ (I.hok.fresh (bc5 _))⟩
theorem aG6 {K:PySem.W.Frag}{M:Addr->Prop}{H:Hp} (lo:Int) (n:Nat):Reps K M H (jT lo n) (fD lo n):=by
 unfold jT fD
 generalize List.range n=l
 induction l with
 | nil=>exact .nil
 | cons a r ih=>exact .cons (.int _) ih
theorem T0 (B:Bt X.mg) (ha:QE X a ta) (hc:X.calm=true:=by rfl) (hg:Gl X "list":=by rfl) (hgr:Gl X "range":=by rfl) (hs:starEach [a] X.env = [(false,eval a X.env)]:=by rfl)
  (he:starEach [.Call (.Name "range" p3) [a] [] pos2] X.env=(false,eval (.Call (.Name "range" p3) [a] [] pos2) X.env) :: starEach [] X.env:=by rfl) (hpl:(backTo pos (starEach [] X.env)).any (·.1)=false:=by rfl) :
  QE X (.Call (.Name "list" p2) [.Call (.Name "range" p3) [a] [] pos2] [] pos) (wY ta):=
 cE (B5 (aG5 hc) hg B.list PyProof.Rows.boot_list (cY (aG3 hgr B.range (cY ha dO hs) hs) dO he) (he:=he) (hpl:=hpl)) fun σ H Q' h=>by
  obtain ⟨W,ρ,Q,px,q,k⟩:=h
  refine⟨W,ρ,_,px,q,?_⟩
  rintro v H1 x g s r ⟨n,rfl,h0,h1,q⟩
  cases r
  refine⟨n,rfl,fun r hr=>⟨r,n,rfl,bM,h0,h1,fun l hl=>?_⟩⟩
  have S:aD H (upd (upd H1 r (.rng 0 n)) l (.lst (jT 0 n.toNat))):=(s.trans (bK hr _)).trans (bK hl _)
  exact k _ _ _ .fr S (.lst (((s.trans (bK hr _))).free hl) bM (aG6 0 n.toNat)) q
noncomputable def wZ:V->Int
 | .int i=>i
 | _=>0
noncomputable def m3 (H:Hp):V->List Int
 | .ref a=>match H a with
  | some (.tup us)=>us.map wZ
  | _=>[]
 | _=>[]
theorem aG7 {H:Hp}{a:Addr}{ns:List Int} (h:H a=some (.tup (ns.map V.int))):m3 H (.ref a)=ns:=by
 show (match H a with | some (.tup us)=>us.map wZ | _=>[])=ns
 rw [h]
 show (ns.map V.int).map wZ=ns
 rw [bi4]
 exact List.map_id _
theorem T1 {K:PySem.W.Frag}{M:Addr->Prop}{H:Hp}:∀ {us:List V}{ys:List (List Int)},Reps K M H us (ys.map fun r=>PV.tup (intz r))->us.map (m3 H)=ys/\∀ u ∈ us,∃ b,u = .ref b/\H b=some (.tup ((m3 H u).map V.int))
 | _,[],.nil=>⟨rfl,fun u h=>nomatch h⟩
 | _,y :: ys,.cons r t=>by
  obtain ⟨a,us,rfl,h,r1⟩:=r.sqT
  obtain rfl:=r1.ofInts
  obtain ⟨h1,h2⟩:=T1 t
  have hk:=aG7 h
  refine⟨by rw [bi1,h1,hk],fun u hu=>?_⟩
  rcases bd0.mp hu with rfl | hu
  ·exact⟨a,rfl,by rw [hk]; exact h⟩
  ·exact h2 u hu
theorem T2 {K:PySem.W.Frag}{M:Addr->Prop}{H:Hp}:∀ {us:List V},(∀ u ∈ us,∃ b,u = .ref b/\H b=some (.tup ((m3 H u).map V.int)))->Reps K M H us ((us.map (m3 H)).map fun r=>PV.tup (intz r))
 | [],_=>.nil
 | u :: us,h=>by
  obtain ⟨b,rfl,hb⟩:=h u bc6
  exact .cons (.tup hb (Reps.intz _)) (T2 fun v hv=>h v (bd4 _ hv))
theorem aG8:fO X sK (K5 X.K):=by
 rintro H vs xs Q Q' r ⟨ys,rfl,hl,hne,q⟩ k
 obtain ⟨v,rfl,r1⟩:=r.one
 obtain ⟨a,us,rfl,_,h,r2⟩:=r1.sqL
 obtain ⟨h1,h2⟩:=T1 r2
 have lr:=r2.length
 rw [bb8] at lr
 refine⟨a,us,m3 H,rfl,aM.of h,by omega,fun y hy=>?_,fun l zs hl' pm so=>?_⟩
 ·obtain ⟨b,rfl,hb⟩:=h2 y hy
  refine⟨b,rfl,aR.of hb,hne _ ?_⟩
  rw [<- h1]; exact bd6.mpr ⟨_,hy,rfl⟩
 ·have hz:∀ u ∈ zs,∃ b,u = .ref b/\H b=some (.tup ((m3 H u).map V.int)):=fun u hu=>h2 u (pm.mem_iff.mp hu)
  refine k _ _ _ (bK hl' _) (.lst hl' bM ((T2 hz).same (bK hl' _) fun _ z=>z)) (q _ ?_ ?_)
  ·rw [<- h1]; exact pm.map _
  ·rw [bl3]; exact so
theorem aG9 (B:Bt X.mg) (ha:QA X [e] tr) (hg:Gl X "sorted":=by rfl) (he:starEach [e] X.env=(false,eval e X.env) :: starEach [] X.env:=by rfl) (hpl:(backTo pos (starEach [] X.env)).any (·.1)=false:=by rfl):QE X (.Call (.Name "sorted" p2) [e] [] pos) (aB sK tr):=
 k6 as7 aG8 hg B.sorted PyProof.Rows.boot_sorted ha (he:=he) (hpl:=hpl)
end
noncomputable def T3 (K:PySem.W.Frag):Sp:=fun vs H Q _=>∃ (a:Addr) (ns:List Int),vs = [.ref a]/\(aR K H a (ns.map V.int) ∨ aM K H a (ns.map V.int))/\ns.length<=1000/\∀ H',aD H H'->Q (.bl (Core.iG ns)) H'
noncomputable def sN:Sp:=fun vs H Q _=>∃ v ws ls,vs = [v]/\K8 H v ws ls/\ws.length<=1000/\ls.length<=2000/\(∀ l ∈ ls,(0<=l.1/\l.1 < ws.length)/\0<=l.2/\l.2 < ws.length)/\
 ∀ (r:Addr) (bs:List Addr) (H':Hp),bs.length=ws.length->iC H H' r bs (fun k=>aO ls k)->Q (.ref r) H'
section
variable {P : Program} {w : World} {K : PySem.W.Frag} {mg : Str → Option Value} {base : Heap} {f : Addr} {fd : FuncData} {k : Nat}
theorem aH0 (F:cZ P w K mg base dW k f fd ["things"] (T3 K)) (b:i9 K fd ["things"] []) (kp:PySem.W.keepIn K (.ref f)=true) (m:mg "rises" = some (.ref f)):Df P w K mg base k "rises" ["things"] Core.wW:=by
 refine⟨f,fd,F.imp fun vs H Q E h=>?_,b,kp,m⟩
 obtain ⟨xs,Qp,r,⟨x,ns,rfl,hx,hl,q⟩,k⟩:=h
 obtain ⟨v,rfl,r1⟩:=r.one
 rcases hx with rfl | rfl
 ·obtain ⟨a,us,rfl,h,r2⟩:=r1.sqT
  obtain rfl:=r2.ofInts
  exact⟨a,ns,rfl,.inl (aR.of h),hl,fun H' s=>k _ H' _ s (.bl _) q⟩
 ·obtain ⟨a,us,rfl,_,h,r2⟩:=r1.sqL
  obtain rfl:=r2.ofInts
  exact⟨a,ns,rfl,.inr (aM.of h),hl,fun H' s=>k _ H' _ s (.bl _) q⟩
theorem T4 {M:Addr->Prop}{H:Hp}:∀ {us:List V}{ls:List (Int × Int)},Reps K M H us (ls.map fun l=>PV.tup [.int l.1,.int l.2])->oK H us ls
 | _,[],.nil=>.nil
 | _,l :: ls,.cons r t=>by
  obtain ⟨a,us,rfl,h,r1⟩:=r.sqT
  obtain ⟨u1,u2,rfl,q1,q2⟩:=r1.two
  cases q1; cases q2
  exact .cons ⟨a,rfl,h⟩ (T4 t)
theorem T5 {M:Addr->Prop}{H:Hp}{v:V}{ws:List Int}{ls:List (Int × Int)} (r:aI K M H v (Core.bF ws ls)):K8 H v ws ls:=by
 obtain ⟨a,us,rfl,h,r1⟩:=aI.sqT r
 obtain ⟨u1,u2,rfl,q1,q2⟩:=r1.two
 obtain ⟨p,up,rfl,hp,rp⟩:=q1.sqT
 obtain ⟨q,uq,rfl,hq,rq⟩:=q2.sqT
 obtain rfl:=rp.ofInts
 exact⟨a,p,q,uq,rfl,h,hp,hq,T4 rq⟩
theorem x3 {M:Addr->Prop}{H:Hp}:∀ {bs:List Addr}{ls:List (Int × Int)} (off:Nat),(∀ b ∈ bs,M b)->(∀ (k:Nat) b,bs[k]? = some b->H b=some (.lst ((aO ls ((off+k:Nat):Int)).map V.int)))->Reps K M H (bs.map V.ref) ((List.range' off bs.length).map fun (k:Nat)=>PV.lst (intz (aO ls k)))
 | [],_,_,_,_=>.nil
 | b :: bs,ls,off,hm,h=>by
  refine .cons (.lst (hm b bc6) (h 0 b rfl) (Reps.intz _)) (x3 (off+1) (fun c hc=>hm c (bd4 _ hc)) fun k c hk=>?_)
  have:=h (k+1) c (by rw [bk0]; exact hk)
  rw [show off+1+k=off+(k+1) by omega]; exact this
theorem aH1 (F:cZ P w K mg base dW k f fd ["web"] sN) (b:i9 K fd ["web"] []) (kp:PySem.W.keepIn K (.ref f)=true) (m:mg "near_lists" = some (.ref f)):Df P w K mg base k "near_lists" ["web"] Core.iH:=by
 refine⟨f,fd,F.imp fun vs H Q E h=>?_,b,kp,m⟩
 obtain ⟨xs,Qp,r,⟨ws,ls,rfl,wb,q⟩,k⟩:=h
 obtain ⟨v,rfl,r1⟩:=r.one
 have:=wb.few
 have:=wb.most
 refine⟨v,ws,ls,rfl,T5 r1,by omega,by omega,wb.links,fun t bs H' hb R=>k _ H' _ R.same (.lst R.new R.row ?_) q⟩
 have:=x3 (K:=K) (M:=fun a=>H a=none) (H:=H') (bs:=bs) (ls:=ls) 0 (fun b hb=>(R.news b hb).1) fun k b hk=>by rw [Nat.zero_add]; exact R.rows k b hk
 rw [hb,<- List.range_eq_range'] at this
 exact this
end
end PP
namespace Core
open PySem L2 PP
theorem aH2 (n:Nat):fD 0 n=intz (rng n):=by
 unfold fD rng
 show _=List.map PV.int (List.map (fun (i:Nat)=>(i:Int)) (List.range n))
 rw [bi4]
 refine List.map_congr_left fun i _=>?_
 show PV.int (0+(i:Int))=PV.int (i:Int)
 rw [bo8]
theorem aH3 (n:Nat):(rng n).Nodup:=by
 unfold rng
 rw [List.nodup_iff_pairwise_ne,bl3]
 exact (List.nodup_range (n:=n)).imp fun h e=>h (by omega)
noncomputable def two (l:Int × Int):List Int:=[l.1,l.2]
noncomputable def pH (r:List Int):Int × Int:=(r.getD 0 0,r.getD 1 0)
theorem T6 (ls:List (Int × Int)):aH ls=(ls.map two).map fun r=>PV.tup (intz r):=by
 unfold aH
 rw [bi4]; rfl
theorem aH4 {zs:List (List Int)}{ls:List (Int × Int)} (h:zs.Perm (ls.map two)):∃ ls':List (Int × Int),zs=ls'.map two/\ls'.Perm ls:=by
 refine⟨zs.map pH,?_,?_⟩
 ·rw [bi4]
  have:∀ z ∈ zs,(two ∘ pH) z=z:=fun z hz=>by
   obtain ⟨l,_,rfl⟩:=bd6.mp (h.mem_iff.mp hz)
   rfl
  rw [List.map_congr_left this,List.map_id']
 ·have:=h.map pH
  rw [bi4] at this
  have e:ls.map (pH ∘ two)=ls:=by
   have:∀ l ∈ ls,(pH ∘ two) l=id l:=fun l _=>rfl
   rw [List.map_congr_left this,List.map_id]
  rw [e] at this
  exact this
theorem aH5 {ls:List (Int × Int)} (so:(ls.map two).Pairwise fun u v=>HT.fM v u=false) (nd:ls.Nodup):ls.Pairwise j6:=by
 rw [bl3] at so
 refine (List.pairwise_and_iff.mpr ⟨so,nd⟩).imp fun {a b} h=>?_
 obtain ⟨h1,h2⟩:=h
 unfold two at h1
 rw [HT.o9] at h1
 unfold j6
 by_cases e:b.1=a.1
 ·rw [if_pos e,HT.o9] at h1
  by_cases e2:b.2=a.2
  ·exact absurd (Prod.ext e.symm e2.symm) h2
  ·rw [if_neg e2] at h1
   have:=of_decide_eq_false h1
   omega
 ·rw [if_neg e] at h1
  have:=of_decide_eq_false h1
  omega
structure pI (i:Int) (ms:List Int):Prop where
 up:ms.Pairwise (· < ·)
 inn:∀ x ∈ ms,0<=x/\x < i
 len:(ms.length:Int)<=i
theorem pI.set {n:Nat}{ms:List Int} (h:pI (n:Int) ms):bE n ms=true:=by
 unfold bE
 rw [wT h.up,Bool.true_and,bk8]
 intro b hb
 obtain ⟨x,hx,rfl⟩:=bd6.mp hb
 have:=h.inn x hx
 unfold inB
 simp [this]
theorem x4:∀ {a b:List Int},a.Perm b->a.Pairwise (· <= ·)->b.Pairwise (· <= ·)->a=b:=by
 intro a b h ha hb
 exact h.eq_of_pairwise (fun x y _ _ h1 h2=>Int.le_antisymm h1 h2) ha hb
noncomputable def T7:bH:=fun xs Q=>∃ ns:List Int,xs = [.scr ns]/\ns.length<=63/\Q (.bl true)
structure aH6 (K:PySem.W.Frag):Prop where
 ii:PySem.W.kitOne K (.type "int") (.type "int")=some true
 ib:PySem.W.kitOne K (.type "int") (.type "bool")=some false
 tt:PySem.W.kitOne K (.type "tuple") (.type "tuple")=some true
 ll:PySem.W.kitOne K (.type "list") (.type "list")=some true
 bb:PySem.W.kitOne K (.type "bool") (.type "bool")=some true
theorem x5 (K:PySem.W.Frag):aH6 K:=by
 have same:∀ n:String,PySem.W.kitMeta n=true->True:=fun _ _=>trivial
 refine⟨?_,?_,?_,?_,?_⟩
 ·unfold PySem.W.kitOne; rw [if_pos (by decide)]
 ·have e:(if PySem.W.kitMeta "bool" = true then (fastBuiltinMro "int").map (·.contains (Value.type "bool")) else none)=some false:=by decide +kernel
  unfold PySem.W.kitOne
  rw [if_neg (by decide)]
  exact e
 ·unfold PySem.W.kitOne; rw [if_pos (by decide)]
 ·unfold PySem.W.kitOne; rw [if_pos (by decide)]
 ·unfold PySem.W.kitOne; rw [if_pos (by decide)]
end Core
namespace PP
open PySem L2 PyProof.Rows
theorem aH7 {P:Program}{w:World}{K:PySem.W.Frag}{mg:Str->Option Value}{base:Heap}{k:Nat}{x:Str}{ps N:List Str}{p:bH}{st:Stmt}{f:Addr}{fd:FuncData} (F:fA K x x st f fd) (S:FnScope N ps (aZ st))
  (len:∀ xs Q,p xs Q->xs.length=ps.length)
  (body:∀ (cdv:Value) (A:Around) (outer:List Env) (s:Shared) (H:Hp) (E:XK),cH k (A.deeper (envOfC x (aZ st) s.heap.objs.size f cdv))->
   ∃ t,fG (dP dW P w K mg base N x (aZ st) f cdv A outer s H E).nox (eZ st) t/\∀ xs Q,p xs Q->t { nx:=fun _=>Q .non,rt:=Q } (gH N xs)):cZ P w K mg base dW (k+1) f fd ps (oS K p):=by
 refine F.ok S (fun vs H Q E h=>?_) (fun cdv A outer s H vs Q E hr h=>?_)
 ·obtain ⟨xs,Qp,r,q,_⟩:=h
  rw [r.length]; exact len xs Qp q
 ·obtain ⟨xs,Qp,r,q,k⟩:=h
  obtain ⟨t,ht,hq⟩:=body cdv A outer s H E hr
  refine⟨_,ht,fun _=>False,gH N xs,_,wP r,hq xs Qp q,?_,?_,?_,?_⟩
  ·exact fun W' σ' H' ρ' e px q=>k _ _ _ px.same .non q
  ·exact fun v H' x s r q=>k _ _ _ s r q
  ·exact fun W' σ' H' ρ' e px q=>q
  ·exact fun W' σ' H' ρ' e px q=>q
noncomputable def sO (K:PySem.W.Frag):Sp:=fun vs H Q _=>∃ (a:Addr) (ns:List Int),vs = [.ref a]/\jV K H a ns/\ns.length<=63/\∀ H',Q (.bl true) H'
theorem aH8 {P:Program}{w:World}{K:PySem.W.Frag}{mg:Str->Option Value}{base:Heap}{k:Nat}{f:Addr}{fd:FuncData} (F:cZ P w K mg base dW k f fd ["script"] (oS K Core.T7)):cZ P w K mg base dW k f fd ["script"] (sO K):=
 F.imp fun vs H Q E h=>by
  obtain ⟨a,ns,rfl,hs,hl,q⟩:=h
  refine⟨[.scr ns],fun z=>z = .bl true,.cons (.scr hs) .nil,⟨ns,rfl,hl,rfl⟩,?_⟩
  rintro v H' x _ r rfl
  cases r
  exact q H'
theorem aH9 {K:PySem.W.Frag}{H:Hp}{a:Addr}{ns:List Int} (hO:qQ H) (h:aM K H a (ns.map V.int)):jV K H a ns:=by
 rcases h with (h | ⟨o,h⟩) | h
 ·rcases hO a with e | ⟨o,xs,e⟩ <;> (rw [h] at e; cases e)
 ·exact .inl ⟨o,h⟩
 ·exact .inr h
end PP
namespace PyProof.Rows
open PySem
end PyProof.Rows
namespace PP
open PySem L2 PyProof.Rows
section
variable {X : Cx} {a b e : Expr} {ta tb te : aF} {tr : cO} {pos p2 : Pos}
noncomputable def T8:PV->Tg->PV->Tg->PK->Prop:=fun x _ y _ Q=>∃ xs ys,x = .lst xs/\y = .lst ys/\flats xs=true/\flats ys=true/\xs.length+ys.length<=16000000/\Q (.lst (xs ++ ys)) .fr
noncomputable abbrev pJ (ta tb:aF):aF:=q2 T8 ta tb
theorem aI0:eS X T8 E7:=by
 rintro W Hs H u v x y g g' Q Q' s n r1 r2 ⟨xs,ys,rfl,rfl,f1,f2,hl,q⟩ k
 obtain ⟨a,us,rfl,_,h1,q1⟩:=r1.sqL
 obtain ⟨b,ws,rfl,_,h2,q2⟩:=r2.sqL
 have l1:=q1.length
 have l2:=q2.length
 refine⟨a,b,us,ws,rfl,rfl,h1,h2,lim (by omega),fun p hp=>k _ _ _ .fr (bK hp _) (.lst (s.free hp) bM (((q1.flat f1).append (q2.flat f2)).same (bK hp _) fun _ z=>z)) q⟩
theorem x6 (ha:QE X a ta) (hb:QE X b tb):QE X (.BinOp a .Add b pos) (pJ ta tb):=kS ap1 aI0 ha hb
end
section
variable {X : Cx} {e : Expr} {te : aF} {pos p2 : Pos} {scope : Scope} {N : List Str} {fr : List (Option Nat)} {x y : Str} {tp xp yp : Pos} {kt : Nat} {iter elt : Expr} {ti : fP}
noncomputable abbrev kZ (x y:Str) (xp yp:Pos) (kt:Nat) (tp:Pos):Expr:=.Tuple [.Name x xp,.Name y yp] kt tp
theorem x8 {ifs:List Expr}{tcs:cN} (hc:X.calm=true) (he:∀ (s:Shared) (H:Hp) (C:Addr) (fp:List Addr),QE (bI X scope N s H C fp c9) elt te) (hi:∀ (s:Shared) (H:Hp) (C:Addr) (fp:List Addr),kI (bI X scope N s H C fp c9) ifs (LT (bI X scope N s H C fp c9) tcs))
  (hN:N.Nodup) (h0:N[0]? = some x) (h1:N[1]? = some y) (hl:∀ (s:Shared) (H:Hp) (C:Addr) (fp:List Addr),(bI X scope N s H C fp c9).env.scope.names.lookup x=some .local) (hl2:∀ (s:Shared) (H:Hp) (C:Addr) (fp:List Addr),(bI X scope N s H C fp c9).env.scope.names.lookup y=some .local) (s:Shared) (H:Hp) :
  mK X scope N (kZ x y xp yp kt tp) ifs elt s H (jJ X.K 2 (eN (cG 0) (eN (cG 1) jI))) (LT (X.frm H) tcs) (LE (X.frm H) te):=
 ⟨fun C fp=>lI (X:=bI X scope N s H C fp c9) hc (gB (eC hN h0 (.inl (hl s H C fp)) (.inr (hl s H C fp))) (gB (eC hN h1 (.inl (hl2 s H C fp)) (.inr (hl2 s H C fp))) lH)),fun C fp=>hi s H C fp,fun C fp=>he s H C fp⟩
theorem T9 (hi:QI X (kZ x y xp yp kt tp) iter ti) (he:∀ (s:Shared) (H:Hp) (C:Addr) (fp:List Addr),QE (bI X scope N s H C fp c9) elt te)
  (hc:X.calm=true:=by rfl) (S:cI X scope N fr:=by exact cI.of rfl rfl) (hN:N.Nodup:=by decide +kernel) (h0:N[0]? = some x:=by rfl) (h1:N[1]? = some y:=by rfl) (hl:∀ (s:Shared) (H:Hp) (C:Addr) (fp:List Addr),(bI X scope N s H C fp c9).env.scope.names.lookup x=some .local:=by intro _ _ _ _; rfl) (hl2:∀ (s:Shared) (H:Hp) (C:Addr) (fp:List Addr),(bI X scope N s H C fp c9).env.scope.names.lookup y=some .local:=by intro _ _ _ _; rfl) (hf:fr[0]? = some none:=by rfl) (hf2:fr[1]? = some none:=by rfl)
  (hs:∀ x,foldedSetIterable iter X.env x=pure x:=by intro _; rfl):QE X (.ListComp elt [⟨kZ x y xp yp kt tp,iter,[],0⟩] scope pos) (cS ti fr (eI 0 1) dB te):=
 cE (qX (gh:=fun _=>jJ X.K 2 (eN (cG 0) (eN (cG 1) jI))) (tch:=fun H=>LT (X.frm H) dB) (teh:=fun H=>LE (X.frm H) te) hc S hi (x8 hc he (fun _ _ _ _=>pB) hN h0 h1 hl hl2) hs) fun _ _ _=>kO (oU _ 0 1) (fun i e=>by rcases e with e | e <;> (subst e; assumption))
theorem aI1 {c:Expr}{tcs:cN} (hi:QI X (kZ x y xp yp kt tp) iter ti) (ht:∀ (s:Shared) (H:Hp) (C:Addr) (fp:List Addr),QT (bI X scope N s H C fp c9) c tcs) (he:∀ (s:Shared) (H:Hp) (C:Addr) (fp:List Addr),QE (bI X scope N s H C fp c9) elt te)
  (hc:X.calm=true:=by rfl) (S:cI X scope N fr:=by exact cI.of rfl rfl) (hN:N.Nodup:=by decide +kernel) (h0:N[0]? = some x:=by rfl) (h1:N[1]? = some y:=by rfl) (hl:∀ (s:Shared) (H:Hp) (C:Addr) (fp:List Addr),(bI X scope N s H C fp c9).env.scope.names.lookup x=some .local:=by intro _ _ _ _; rfl) (hl2:∀ (s:Shared) (H:Hp) (C:Addr) (fp:List Addr),(bI X scope N s H C fp c9).env.scope.names.lookup y=some .local:=by intro _ _ _ _; rfl) (hf:fr[0]? = some none:=by rfl) (hf2:fr[1]? = some none:=by rfl)
  (hs:∀ x,foldedSetIterable iter X.env x=pure x:=by intro _; rfl):QE X (.ListComp elt [⟨kZ x y xp yp kt tp,iter,[c],0⟩] scope pos) (cS ti fr (eI 0 1) tcs te):=
 cE (qX (gh:=fun _=>jJ X.K 2 (eN (cG 0) (eN (cG 1) jI))) (tch:=fun H=>LT (X.frm H) tcs) (teh:=fun H=>LE (X.frm H) te) hc S hi (x8 hc he (fun s H C fp=>v4 (ht s H C fp)) hN h0 h1 hl hl2) hs) fun _ _ _=>kO (oU _ 0 1) (fun i e=>by rcases e with e | e <;> (subst e; assumption))
theorem aI2 {i:Nat}{z:Str}{zp:Pos} (nd:X.N.Nodup) (hi:QI X (kZ x y xp yp kt tp) iter ti) (he:∀ (s:Shared) (H:Hp) (C:Addr) (fp:List Addr),QE (bI X scope N s H C fp c9) elt te)
  (hz:X.N[i]? = some z:=by rfl) (hzl:X.env.scope.names.lookup z=some .local:=by rfl) (hsw:swapsWith (.ListComp elt [⟨kZ x y xp yp kt tp,iter,[],0⟩] scope p2) (some (.Name z zp)) pos.line X.env=pure true:=by rfl)
  (hc:X.calm=true:=by rfl) (S:cI X scope N fr:=by exact cI.of rfl rfl) (hN:N.Nodup:=by decide +kernel) (h0:N[0]? = some x:=by rfl) (h1:N[1]? = some y:=by rfl) (hl:∀ (s:Shared) (H:Hp) (C:Addr) (fp:List Addr),(bI X scope N s H C fp c9).env.scope.names.lookup x=some .local:=by intro _ _ _ _; rfl) (hl2:∀ (s:Shared) (H:Hp) (C:Addr) (fp:List Addr),(bI X scope N s H C fp c9).env.scope.names.lookup y=some .local:=by intro _ _ _ _; rfl) (hf:fr[0]? = some none:=by rfl) (hf2:fr[1]? = some none:=by rfl)
  (hs:∀ x,foldedSetIterable iter X.env x=pure x:=by intro _; rfl):QS X (.Assign [.Name z zp] (.ListComp elt [⟨kZ x y xp yp kt tp,iter,[],0⟩] scope p2) pos) (b6 i (cS ti fr (eI 0 1) dB te)):=
 dN (qY (gh:=fun _=>jJ X.K 2 (eN (cG 0) (eN (cG 1) jI))) (tch:=fun H=>LT (X.frm H) dB) (teh:=fun H=>LE (X.frm H) te) hc S hi (x8 hc he (fun _ _ _ _=>pB) hN h0 h1 hl hl2) nd hz hzl hsw hs) fun D σ H h=>kO (oU _ 0 1) (fun i e=>by rcases e with e | e <;> (subst e; assumption)) (rL h)
end
section
variable {X : Cx} {a b e o f : Expr} {ta tb te td tk tx : aF} {pos p2 apos cpos : Pos} {σ : L2.St} {H : Hp} {Q' : VK}
noncomputable def U0:PV->Tg->PV->Tg->PK->Prop:=fun x _ y _ Q=>∃ xs n,x = .lst xs/\y = .int n/\flats xs=true/\-1000000<=n/\n<=1000000/\xs.length<=10/\Q (.lst (List.replicate n.toNat xs).flatten) .fr
noncomputable abbrev pK (ta tb:aF):aF:=q2 U0 ta tb
theorem aI3:eS X U0 E8:=by
 rintro W Hs H u v x y g g' Q Q' s n r1 r2 ⟨xs,m,rfl,rfl,f,h1,h2,hl,q⟩ k
 cases r2
 obtain ⟨a,us,rfl,mm,h,r⟩:=r1.sqL
 have lr:=r.length
 refine⟨a,m,us,rfl,rfl,h,by omega,by omega,lim ?_,fun p hp=>k _ _ _ .fr (bK hp _) (.lst (s.free hp) bM (((r.flat f).rep m.toNat).same (bK hp _) fun _ z=>z)) q⟩
 have h3:us.length<=10:=by omega
 have h4:m.toNat<=1000000:=by omega
 calc us.length * m.toNat<=10 * 1000000:=Nat.mul_le_mul h3 h4
  _<=16000000:=by decide
theorem sP (ha:QE X a ta) (hb:QE X b tb):QE X (.BinOp a .Mult b pos) (pK ta tb):=kS ap3 aI3 ha hb
end
end PP
namespace Core
open PySem L2 PP
section
variable (ws : List Int) (ls : List (Int × Int)) (os ns : List Int)
noncomputable def m5:Nat->List Int
 | 0=>[]
 | k+1=>m5 k ++ (os.find? (kin ws ls (ns ++ m5 k))).toList
noncomputable def x9 (k:Nat):Option Int:=os.find? (kin ws ls (ns ++ m5 ws ls os ns k))
end
section
variable {ws : List Int} {ls : List (Int × Int)} {os ns : List Int}
theorem bb2 {k:Nat}{h:Int} (e:x9 ws ls os ns k=some h):m5 ws ls os ns (k+1)=m5 ws ls os ns k ++ [h]:=by
 show m5 ws ls os ns k ++ (x9 ws ls os ns k).toList=_
 rw [e]; rfl
noncomputable def aI4 (ws:List Int) (ls:List (Int × Int)) (T:List Int):Prop:=∀ h ∈ rng ws.length,kin ws ls T h=false
theorem aI5 (n:Nat):(rng n).Nodup:=aH3 n
theorem bb3 {k:Nat}{h:Int} (e:x9 ws ls os ns k=some h):h ∈ os/\h ∉ ns ++ m5 ws ls os ns k:=
 ⟨List.mem_of_find?_eq_some e,of_decide_eq_false (aE9 (List.find?_some e))⟩
end
noncomputable def i6:Option Int->PV
 | none=>.non
 | some h=>.int h
theorem i7 {i:Nat}{h:Int}{g:Bool}{ρ:bJ}{Q:bJ->Prop} (q:Q (ρ.set i (some (.sh true (.int h))))):bZ i (.int h) g ρ Q:=by
 show Q (ρ.set i (some (.sh (g || true) (.int h))))
 rw [Bool.or_true]; exact q
noncomputable def aI6 (ns S:List Int):Int:=(ns.length:Int) - (((ns.filter fun x=>decide (x ∈ S)).length:Nat):Int)
noncomputable def nI:bH:=fun xs Q=>∃ x ns y ms,xs = [x,y]/\dR x ns/\dR y ms/\ns.length<=10000/\ms.length<=1000/\Q (.tup (intz (ns.filter fun z=>!decide (z ∈ ms))))
noncomputable def U1:aK:=(aE (b6 2 (aB nH (a6 (a5 1) a9)))
 (bG (aB iZ (a6 (cS (dM (a5 0)) [none,some 2] (bZ 0) (b9 (lT true (a5 0) (a5 1))) (a5 0)) a9))))
theorem aI7:cF U1 ["hearths","some","gone"] nI:=by
 rintro xs Q ⟨x,ns,y,ms,rfl,hx,hy,hl,hm,q⟩
 refine⟨_,rfl,y,ms,rfl,hy,hm,fun ps d=>⟨trivial,?_⟩⟩
 refine⟨_,rfl,_,hx.seq,sG hx,by rw [bO]; omega,fun i acc=>acc=intz ((ns.take i).filter fun z=>!decide (z ∈ ms)),rfl,?_,?_⟩
 ·rintro i z acc hz rfl
  obtain ⟨n,rfl,hn⟩:=j4 hz
  have tk:=pF (p:=fun z=>!decide (z ∈ ms)) hn
  refine⟨_,rfl,_,rfl,_,.inl ⟨ps,Sum.inl n,rfl,rfl,rfl⟩,_,rfl,?_⟩
  show if (!(dA ps (Sum.inl n:aJ)).isSome)=true then _ else _
  rw [d.has n]
  by_cases h:n ∈ ms
  ·rw [bc0 h] at tk ⊢
   refine bB ?_
   show _=intz (List.filter _ (List.take (i+1) ns))
   rw [tk]; exact congrArg intz (bj0 _).symm
  ·rw [bc3 h] at tk ⊢
   refine bD ⟨_,rfl,trivial,?_⟩
   show _=intz (List.filter _ (List.take (i+1) ns))
   rw [tk,fU]; rfl
 ·rintro acc rfl
  rw [bO,bj4]
  exact⟨⟨_,_,rfl,rfl,eF _,trivial,q⟩,fun ns z=>by cases z⟩
noncomputable def aI8 (ws:List Int) (ls:List (Int × Int)) (S:List Int) (h:Int):Bool:=decide (aI6 (aO ls h) S < ws.getD h.toNat 0)
noncomputable def stay (ws:List Int) (ls:List (Int × Int)) (S:List Int):List Int:=S.filter (aI8 ws ls S)
theorem sQ {n:Nat}{S:List Int} (h:bE n S=true) (p:Int->Bool):bE n (S.filter p)=true:=by
 obtain ⟨h1,h2⟩:=fV h
 have u:pI (n:Int) (S.filter p):=⟨(gI h1).filter p,fun x hx=>h2 x (bd7.mp hx).1,by
  have:=sJ h
  have:=bg7 p S
  omega⟩
 exact u.set
section
variable {ws : List Int} {ls : List (Int × Int)} {S T : List Int}
theorem U2 {n:Nat}{A B:List Int} (ha:bE n A=true) (hb:bE n B=true) (h:∀ x,x ∈ A ↔ x ∈ B):A=B:=by
 have ua:=gI (fV ha).1
 have ub:=gI (fV hb).1
 have p:A.Perm B:=(List.perm_ext_iff_of_nodup (ua.imp fun z=>bm7 z) (ub.imp fun z=>bm7 z)).mpr h
 exact x4 p (ua.imp fun z=>Int.le_of_lt z) (ub.imp fun z=>Int.le_of_lt z)
end
section
variable {ws : List Int} {ls : List (Int × Int)} {ns : List Int}
noncomputable def xA (n:Nat) (S:List Int):List Int:=(rng n).filter fun x=>!decide (x ∈ S)
end
end Core
namespace Raw
open PySem PySem.W PyProof.Rows
section
variable {prog : Program} {w : World} {A : Around} {E : Value → Shared → Prop} {s : Shared} {T : String} {r d : Addr} {n : Nat} {P : Nat → Value → Prop} {OK : Heap → Prop}
theorem aI9 {R:Result->Shared->Prop} (K:KdlSrc prog w T r d n P OK) (hh:A.handled=none) (hok:OK s.heap) (hn:n<=sizeLine)
  (hR:∀ h' tk acc c,(∀ b o,b ≠ s.heap.objs.size->(s.heap.push { cls:=.type "list",data:=.seq ([]:List Value).toArray }).get? b=some o->h'.get? b=some o)->h'.get? s.heap.objs.size=some { cls:=.type "list",dict:=none,data:=.seq acc c,slots:=#[] }->ItemsOf P acc n->R (.ok (.ret (.ref s.heap.objs.size))) { s with heap:=h',toks:=tk }) :
  codeAny (model prog w) A (.builtin "proto.collect" ⟨[.ref r],[]⟩) R s:=by
 have lt:=K.there _ hok
 refine codeAny_builtin PySem.F.entry_proto_collect ?_
 rw [Around.under_plainId PySem.F.plain_proto_collect _]
 show wpAny _ A.in1 (newList [] >>= fun l=>again (.builtin "list.__iadd__" ⟨[l,.ref r],[]⟩)) _ _ s
 refine bb5 (bi8 ?_)
 refine bc8 ⟨plainId_quiet PySem.F.plain_list_iadd _,codeAny_builtin PySem.F.entry_list_iadd ?_⟩
 rw [Around.under_plainId PySem.F.plain_list_iadd _]
 show wpAny _ A.in1 (Builtin.List.listExtendWith (.ref s.heap.objs.size) (.ref r) (.ref s.heap.objs.size)) _ _ _
 exact kdl_extend (s:={ s with heap:=s.heap.push { cls:=.type "list",data:=.seq ([]:List Value).toArray } }) (R:=R) K hh (K.keep _ _ hok fun b _ o e=>bb7 _ e) s.heap.objs.size (bl7 lt.1) (bl7 lt.2) _ 0 (be1 _ rfl) hR hn
theorem aJ0 {Q:List Value->Shared->Prop} (K:KdlSrc prog w T r d n P OK) (hh:A.handled=none) (hok:OK s.heap) (hn:n<=sizeLine)
  (hQ:∀ h' tk acc,(∀ b o,s.heap.get? b=some o->h'.get? b=some o)->s.heap.objs.size<=h'.objs.size->ItemsOf P acc n->Q acc.toList { s with heap:=h',toks:=tk }) :
  wpAny (model prog w) A (collect (.ref r)) Q E s:=by
 unfold collect
 refine bb5 (wpAny_runValue (aI9 (s:=s) K hh hok hn fun h' tk acc c kp at1 it=>?_))
 show wpAny _ A (load s.heap.objs.size >>= _) _ _ _
 refine bb5 (wpAny_load at1 ?_)
 exact bc8 (hQ h' tk acc (fun b o e=>kp b o (bg0 (bd5 e)) (bb7 _ e)) (bh9 (bd5 at1)) it)
theorem aJ1 {Q:Value->Shared->Prop}{G:List Int->Prop} (K:KdlSrc prog w T r d n P OK) (hh:A.handled=none) (hok:OK s.heap) (hn:n < 64)
  (hI:∀ acc,ItemsOf P acc n->∃ ns,IntsAre acc.toList ns/\G ns)
  (h:∀ h' tk a (out:Array Value) (ns ns':List Int) e,(∀ b o,s.heap.get? b=some o->h'.get? b=some o)->s.heap.objs.size<=a->h'.get? a=some (seqObj "list" out e)->IntsAre out.toList ns'->G ns->ns'.Perm ns->ns'.Pairwise (· <= ·)->Q (.ref a) { s with heap:=h',toks:=tk }) :
  wpAny (model prog w) A (call (.builtin "sorted") [.ref r]) Q E s:=by
 have hsl:n<=sizeLine:=bg5 (bh9 hn) (by decide)
 refine Calls.call_function_entry kind_sorted plain_sorted entry_sorted (args_sorted1 _) ?_
 unfold Builtin.«sorted»
 refine bb5 (m:=checkCount "sorted" 1 1 _) (bc8 ?_)
 refine bb5 (aJ0 (s:=s) K hh hok hsl fun h' tk acc kp hs it=>?_)
 obtain ⟨ns,hi,g⟩:=hI acc it
 have hz:acc.toList.length < 64:=by rw [Array.length_toList,it.1]; exact hn
 refine bb5 (wpAny_newList ?_ (bg5 (bh9 hz) (by decide)))
 have hoL:(h'.push (seqObj "list" acc.toList.toArray 0)).get? h'.objs.size=some (seqObj "list" acc.toList.toArray 0):=be1 _ rfl
 show wpAny _ _ _ _ _ { s with heap:=h'.push (seqObj "list" acc.toList.toArray 0),toks:=tk }
 refine bb5 (bm2 (bk6 slot_list_sort ⟨_,hoL,rfl⟩ entry_list_sort (list_sort_tree hoL hi hz fun out ns' a1 a2 a3=>⟨_,rfl,?_⟩) (args_list_sort _)))
 obtain ⟨e,he⟩:=sortedHeap_at (vs:=acc.toList) (out:=out) hoL
 refine bc8 ⟨_,rfl,h _ tk h'.objs.size out ns ns' e (fun b o hb=>?_) hs he a1 g a2 a3⟩
 have lt:=bd5 (kp b o hb)
 rw [sortedHeap_old (bg0 lt) (by rw [size_push']; exact Nat.lt_succ_of_lt lt)]
 exact bb7 _ (kp b o hb)
end
end Raw
namespace L2
open PySem PySem.Spec PyProof.Rows
section
variable {X : Cx}
theorem aJ2 (hc:X.calm=true):cX X (.builtin "sorted") (fun xs H Q=>∃ a kvs ns,xs = [.ref a]/\H a=some (.dK kvs)/\kvs.map (·.1)=ns.map Sum.inl/\ns.length < 64/\∀ l (ms:List Int),H l=none->ms.Perm ns->ms.Pairwise (· <= ·)->Q (.ref l) (upd H l (.lst (ms.map V.int)))):=by
 intro pins s σ H xs us Q I r h
 obtain ⟨a,kvs,ns,rfl,ha,hk,h64,q⟩:=h
 obtain ⟨u,rfl,ru⟩:=gN r
 cases ru
 obtain ⟨es,ep,rd,far,vk,z⟩:=at0 I ha
 have hl:=vk.length
 have hl2:=congrArg List.length hk
 rw [bb8,bb8] at hl hl2
 have hsz:es.toList.length=es.size:=Array.length_toList
 have e1:(kvs.map fun p=>kV p.1)=ns.map V.int:=by
  have:(kvs.map fun p=>kV p.1)=(kvs.map (·.1)).map kV:=by rw [bi4]; rfl
  rw [this,hk,bi4]; rfl
 rw [e1] at vk
 refine Raw.aJ1 (G:=fun ms=>ms=ns) (Raw.as9 far) (I.ok.hd hc) rd (by omega) (fun acc it=>⟨ns,by rw [at2 it]; exact qK vk,rfl⟩) fun h' tk l out ns1 ns' e kp hn he a1 g a2 a3=>?_
 subst g
 have hlen:ns'.length=ns1.length:=a2.length_eq
 refine⟨.ref l,upd H l (.lst (ns'.map V.int)),I.laid (t':=tk) kp hn ⟨?_,out.toList,e,qP a1,by simpa using he⟩,rfl,q _ ns' (I.hok.fresh hn) a2 a3⟩
 rw [bb8,hlen]
 exact bh9 (oF (by omega))
end
end L2
namespace PP
open PySem L2 PyProof.Rows
section
variable {X : Cx} {a b e : Expr} {ta tb te : aF} {tr : cO} {pos p2 : Pos}
noncomputable def xB:List PV->(PV->Prop)->Prop:=fun xs Q=>∃ (ps:List (aJ × PV)) (ns:List Int),xs = [.dK ps]/\ps.map (·.1)=ns.map Sum.inl/\ns.length < 64/\∀ ms:List Int,ms.Perm ns->ms.Pairwise (· <= ·)->Q (.lst (intz ms))
theorem aJ3:fO X xB (fun xs H Q=>∃ a kvs ns,xs = [.ref a]/\H a=some (.dK kvs)/\kvs.map (·.1)=ns.map Sum.inl/\ns.length < 64/\∀ l (ms:List Int),H l=none->ms.Perm ns->ms.Pairwise (· <= ·)->Q (.ref l) (upd H l (.lst (ms.map V.int)))):=by
 rintro H vs xs Q Q' r ⟨ps,ns,rfl,e,hl,q⟩ k
 obtain ⟨v,rfl,r1⟩:=r.one
 cases r1 with
 | @dK a kvs _ m h e2 r2=>
  exact⟨a,kvs,ns,rfl,h,e2.trans e,hl,fun l ms hl' p o=>k _ _ _ (bK hl' _) (.lst hl' bM (Reps.intz ms)) (q ms p o)⟩
theorem aJ4 (B:Bt X.mg) (hc:X.calm=true) (ha:QA X [e] tr) (hg:Gl X "sorted":=by rfl) (he:starEach [e] X.env=(false,eval e X.env) :: starEach [] X.env:=by rfl) (hpl:(backTo pos (starEach [] X.env)).any (·.1)=false:=by rfl):QE X (.Call (.Name "sorted" p2) [e] [] pos) (aB xB tr):=
 k6 (aJ2 hc) aJ3 hg B.sorted PyProof.Rows.boot_sorted ha (he:=he) (hpl:=hpl)
end
end PP
namespace Core
open PySem L2 PP
theorem aJ5 {ps:List (aJ × PV)}{h:Int}{v:PV}{S:List Int} (e:ps.map (·.1)=S.map Sum.inl) (hn:h ∉ S):fQ ps (Sum.inl h:aJ) v=ps ++ [(Sum.inl h,v)]:=by
 unfold fQ
 rw [if_neg]
 intro z
 rw [List.any_eq_true] at z
 obtain ⟨p,hp,hq⟩:=z
 have:p.1 ∈ ps.map (·.1):=bd6.mpr ⟨p,hp,rfl⟩
 rw [e,bi0 hq] at this
 obtain ⟨y,hy,e2⟩:=bd6.mp this
 exact hn (Sum.inl.inj e2 ▸ hy)
theorem U3 {xs:List PV}{w:Int} (h:0<=w):fF xs none (some w)=xs.take w.toNat:=by
 unfold fF
 rw [HT.am4,List.drop_zero,Nat.sub_zero]
 have:HT.aW xs.length xs.length (some w)=min w.toNat xs.length:=by
  show (if w < 0 then (w+(xs.length:Int)).toNat else min w.toNat xs.length)=_
  rw [if_neg (by omega)]
 rw [this,<- List.take_take,bj4]
theorem dI {ls:List (Int × Int)}{h x:Int}:x ∈ aO ls h ↔ ∃ l ∈ ls,(l.1=h/\l.2=x) ∨ (l.2=h/\l.1=x):=by
 unfold aO
 rw [List.mem_flatMap]
 constructor
 ·rintro ⟨l,hl,hx⟩
  refine⟨l,hl,?_⟩
  rcases bc9.mp hx with hx | hx
  ·split at hx
   ·rename_i e; exact .inl ⟨e,(bc1.mp hx).symm⟩
   ·cases hx
  ·split at hx
   ·rename_i e; exact .inr ⟨e,(bc1.mp hx).symm⟩
   ·cases hx
 ·rintro ⟨l,hl,⟨e1,e2⟩ | ⟨e1,e2⟩⟩
  ·exact⟨l,hl,bf7 _ (by rw [if_pos e1,e2]; exact bo4 _)⟩
  ·exact⟨l,hl,bf2 _ (by rw [if_pos e1,e2]; exact bo4 _)⟩
theorem U4 {h:Int}:∀ {ls:List (Int × Int)},(∀ l ∈ ls,l.1 < l.2)->ls.Pairwise j6->(aO ls h).Nodup
 | [],_,_=>.nil
 | l :: r,hl,hp=>by
  have ih:=U4 (h:=h) (ls:=r) (fun m hm=>hl m (bd4 _ hm)) (bk2.mp hp).2
  have h0:=hl l bc6
  have e:aO (l :: r) h=((if l.1=h then [l.2] else []) ++ (if l.2=h then [l.1] else [])) ++ aO r h:=rfl
  rw [e]
  refine bm8.mpr ⟨?_,ih,fun x hx y hy q=>?_⟩
  ·by_cases e1:l.1=h
   ·rw [if_pos e1,if_neg (by omega),bj0]; exact be8 _ _
   ·rw [if_neg e1]
    split
    ·exact be8 _ _
    ·exact .nil
  ·subst q
   obtain ⟨m,hm,c⟩:=dI.mp hy
   have h1:=hl m (bd4 _ hm)
   have h2:=(bk2.mp hp).1 m hm
   have c':(l.1=h/\l.2=x) ∨ (l.2=h/\l.1=x):=by
    rcases bc9.mp hx with hx | hx
    ·split at hx
     ·rename_i e; exact .inl ⟨e,(bc1.mp hx).symm⟩
     ·cases hx
    ·split at hx
     ·rename_i e; exact .inr ⟨e,(bc1.mp hx).symm⟩
     ·cases hx
   unfold j6 at h2
   omega
end Core
namespace L2
open PySem PySem.Spec PyProof.Rows
theorem U5:∀ (n:Nat) (ns:List Int),n<=ns.length->preSum (fun i=>ns.getD i 0) n=(ns.take n).sum
 | 0,_,_=>by simp [preSum]
 | n+1,ns,h=>by
  show preSum (fun i=>ns.getD i 0) n+ns.getD n 0=_
  have h1:ns[n]? = some (ns[n]'(by omega)):=bb9 (by omega)
  have h2:ns.take (n+1)=ns.take n ++ [ns[n]'(by omega)]:=by rw [bf8,h1]; rfl
  have h3:ns.getD n 0=ns[n]'(by omega):=by rw [bc7,h1]; rfl
  rw [U5 n ns (by omega),h2,h3,List.sum_append,List.sum_cons,List.sum_nil]
  omega
section
variable {X : Cx}
theorem aJ6 (hc:X.calm=true):cX X (.builtin "sum") (fun xs H Q=>∃ (a:Addr) (ns:List Int),xs = [.ref a]/\(aM X.K H a (ns.map V.int) ∨ aR X.K H a (ns.map V.int))/\Q (.int ns.sum) H):=by
 intro pins s σ H xs us Q I r h
 obtain ⟨a,ns,rfl,hq,q⟩:=h
 obtain ⟨u,rfl,ru⟩:=gN r
 cases ru
 have hh:X.A.in1.handled=none:=I.ok.hd hc
 have fin:∀ (its:List Value) (o:Obj) (wr:List Addr) (hw:∀ b ∈ wr,s.heap.objs.size<=b),aN (ns.map V.int) its->∀ s' t',Moved wr (fun a b=>b=a) { s with heap:=s.heap.push o } s'->
   ∃ x H',a8 X pins σ H' s'/\aY x (.int (preSum (fun i=>ns.getD i 0) its.toArray.size) t')/\Q x H':=fun its o wr hw rv s' t' hm=>by
  have hl:=rv.length
  rw [bb8] at hl
  have e:=Moved.eq_with hm
  have e2:preSum (fun i=>ns.getD i 0) its.toArray.size=ns.sum:=by rw [bb6,<- hl,U5 _ _ (bc5 _),bj4]
  rw [e2,e]
  refine⟨.int ns.sum,H,I.kept (t':=s'.toks) (h':=s'.heap) fun b o' eb=>hm.heap b o' (fun z=>?_) (bb7 _ eb),⟨t',rfl⟩,q⟩
  exact absurd (bd5 eb) (Nat.not_lt.mpr (hw b z))
 have val:∀ (its:List Value),aN (ns.map V.int) its->∀ (i:Nat) (v:Value),its.toArray[i]? = some v->∃ t,v = .int (ns.getD i 0) t:=fun its rv i v hv=>by
  have hi:its[i]? = some v:=by simpa using hv
  have hl:=rv.length
  rw [bb8] at hl
  have hil:i < ns.length:=by rw [hl]; exact (bc4.mp hi).1
  obtain ⟨u,e1,e2⟩:=rv.get (i:=i) (x:=.int ns[i]) (by simp [hil])
  rw [hi] at e1; cases e1
  obtain ⟨t,rfl⟩:=e2
  exact⟨t,by rw [bc7,bb9 hil]; rfl⟩
 rcases hq with hq | hq
 ·obtain ⟨its,rv,p,hz⟩:=I.list hq
  have hlt:a < s.heap.objs.size:=by obtain ⟨o,e,_⟩:=p.isList; exact bd5 e
  refine call_sum_walkAnyS (wpAny_pyIter_list p.isList ?_)
  refine⟨s.heap.objs.size,_,_,_,_,_,_,fun i=>ns.getD i 0,rfl,(Walks.list hh s.heap.objs.size a (bg0 hlt) its.toArray).toS,⟨⟨_,be1 _ rfl,rfl,rfl⟩,p.isList.push _⟩,?_,val its rv,fun s' t' hm=>fin its _ _ ?_ rv s' t' hm⟩
  ·intro b hb
   have hs:(s.heap.push { cls:=.type "list_iterator",data:=.fields #[.ref a,.int 0 0] }).objs.size=s.heap.objs.size+1:=size_push' _ _
   show b < (s.heap.push _).objs.size
   rw [size_push']
   rcases bd0.mp hb with rfl | hb
   ·exact Nat.lt_succ_self _
   ·rw [bc1.mp hb]; exact Nat.lt_succ_of_lt hlt
  ·intro b hb
   rw [bc1.mp hb]; exact bc5 _
 ·obtain ⟨its,rv,p,hz⟩:=I.tuple hq
  have hlt:a < s.heap.objs.size:=by obtain ⟨o,e,_⟩:=p; exact bd5 e
  refine call_sum_walkAnyS (wpAny_pyIter_tuple p ?_)
  refine⟨s.heap.objs.size,_,_,_,_,_,_,fun i=>ns.getD i 0,rfl,(Walks.tuple hh s.heap.objs.size a (bg0 hlt) its.toArray).toS,⟨⟨_,be1 _ rfl,rfl,rfl⟩,?_⟩,?_,val its rv,fun s' t' hm=>fin its _ _ ?_ rv s' t' hm⟩
  ·obtain ⟨o,e,h⟩:=p
   exact⟨o,bb7 _ e,h⟩
  ·intro b hb
   show b < (s.heap.push _).objs.size
   rw [size_push']
   rcases bd0.mp hb with rfl | hb
   ·exact Nat.lt_succ_self _
   ·rw [bc1.mp hb]; exact Nat.lt_succ_of_lt hlt
  ·intro b hb
   rw [bc1.mp hb]; exact bc5 _
theorem aJ7 (hc:X.calm=true):cX X (.builtin "any") (fun xs H Q=>∃ (a:Addr) (bs:List Bool),xs = [.ref a]/\aM X.K H a (bs.map V.bl)/\Q (.bl (bs.any id)) H):=by
 intro pins s σ H xs us Q I r h
 obtain ⟨a,bs,rfl,hq,q⟩:=h
 obtain ⟨u,rfl,ru⟩:=gN r
 cases ru
 obtain ⟨its,rv,p,hz⟩:=I.list hq
 have hl:=rv.length
 rw [bb8] at hl
 have hlt:a < s.heap.objs.size:=by obtain ⟨o,e,_⟩:=p.isList; exact bd5 e
 refine call_any_walk (wpAny_pyIter_list p.isList ?_)
 have hh:X.A.in1.handled=none:=I.ok.hd hc
 refine⟨s.heap.objs.size,_,_,_,_,_,fun i=>bs.getD i false,rfl,Walks.list hh s.heap.objs.size a (bg0 hlt) its.toArray,⟨⟨_,be1 _ rfl,rfl,rfl⟩,p.isList.push _⟩,?_,fun h' tk kp=>?_⟩
 ·intro i v s' Q' E' hP hQ'
  have hi:its[i]? = some v:=by simpa using hP
  have hil:i < bs.length:=by rw [hl]; exact (bc4.mp hi).1
  obtain ⟨u,e1,e2⟩:=rv.get (i:=i) (x:=.bl bs[i]) (by simp [hil])
  rw [hi] at e1; cases e1
  cases e2
  have:bs.getD i false=bs[i]:=by rw [bc7,bb9 hil]; rfl
  have hQ2:Q' (bs.getD i false) s':=hQ'
  rw [this] at hQ2
  exact bl0 hQ2
 ·have any_eq:(List.range its.toArray.size).any (fun i=>bs.getD i false)=bs.any id:=by
   rw [bb6,<- hl]
   clear q rv hz hl hq hlt p hh kp
   induction bs with
   | nil=>rfl
   | cons b r ih=>
    rw [be6,List.range_succ_eq_map,bo9,List.any_map,bo9,<- ih]
    rfl
  rw [any_eq]
  refine⟨.bl (bs.any id),H,I.kept (t':=tk) (h':=h') fun b o e=>kp b o (fun z=>?_) (bb7 _ e),rfl,q⟩
  rw [bc1.mp z] at e
  exact absurd (bd5 e) (bg6 _)
end
end L2
namespace PP
open PySem L2 PyProof.Rows
section
variable {X : Cx} {a b e : Expr} {ta tb te : aF} {tr : cO} {pos p2 : Pos}
noncomputable def iI:List PV->(PV->Prop)->Prop:=fun xs Q=>∃ x ns,xs = [x]/\iU x=some (intz ns)/\Q (.int ns.sum)
theorem aJ8:fO X iI (fun xs H Q=>∃ (a:Addr) (ns:List Int),xs = [.ref a]/\(aM X.K H a (ns.map V.int) ∨ aR X.K H a (ns.map V.int))/\Q (.int ns.sum) H):=by
 rintro H vs xs Q Q' r ⟨x,ns,rfl,e,q⟩ k
 obtain ⟨v,rfl,r1⟩:=r.one
 obtain ⟨a,us,rfl,hs,r2⟩:=r1.seq e
 obtain rfl:=r2.ofInts
 exact⟨a,ns,rfl,hs,k _ _ _ (aD.refl _) (.int _) q⟩
theorem m6 (B:Bt X.mg) (hc:X.calm=true) (ha:QA X [e] tr) (hg:Gl X "sum":=by rfl) (he:starEach [e] X.env=(false,eval e X.env) :: starEach [] X.env:=by rfl) (hpl:(backTo pos (starEach [] X.env)).any (·.1)=false:=by rfl):QE X (.Call (.Name "sum" p2) [e] [] pos) (aB iI tr):=
 k6 (aJ6 hc) aJ8 hg B.sum PyProof.Rows.boot_sum ha (he:=he) (hpl:=hpl)
noncomputable def xC:List PV->(PV->Prop)->Prop:=fun xs Q=>∃ bs:List Bool,xs = [.lst (bs.map PV.bl)]/\Q (.bl (bs.any id))
theorem aJ9:fO X xC (fun xs H Q=>∃ (a:Addr) (bs:List Bool),xs = [.ref a]/\aM X.K H a (bs.map V.bl)/\Q (.bl (bs.any id)) H):=by
 rintro H vs xs Q Q' r ⟨bs,rfl,q⟩ k
 obtain ⟨v,rfl,r1⟩:=r.one
 obtain ⟨a,us,rfl,_,h,r2⟩:=r1.sqL
 obtain rfl:=r2.ofBls
 exact⟨a,bs,rfl,aM.of h,k _ _ _ (aD.refl _) (.bl _) q⟩
theorem aK0 (B:Bt X.mg) (hc:X.calm=true) (ha:QA X [e] tr) (hg:Gl X "any":=by rfl) (he:starEach [e] X.env=(false,eval e X.env) :: starEach [] X.env:=by rfl) (hpl:(backTo pos (starEach [] X.env)).any (·.1)=false:=by rfl):QE X (.Call (.Name "any" p2) [e] [] pos) (aB xC tr):=
 k6 (aJ7 hc) aJ9 hg B.any PyProof.Rows.boot_any ha (he:=he) (hpl:=hpl)
end
end PP
namespace Core
open PySem L2 PP
noncomputable def nJ:bH:=fun xs Q=>∃ (x:PV) (ns:List Int) (m:Nat),xs = [x,.int m]/\dR x ns/\ns.length=m/\m<=1000000/\(∀ w ∈ ns,0<=w)/\Q (.tup (intz ns))
noncomputable def U6:aK:=(aE (cB (b9 (rS (aB cP (a6 (a5 0) a9)) (a5 1))) rT cD)
 (aE (cB (b9 (aB xC (a6 (cS (dM (a5 0)) [none] (bZ 0) dB (lV (a5 0) (qC (.int 0)))) a9))) rT cD)
 (bG (aB iZ (a6 (a5 0) a9)))))
theorem aK1:cF U6 ["prices","many"] nJ:=by
 rintro xs Q ⟨x,ns,m,rfl,hx,hl,hm,hp,q⟩
 refine⟨_,rfl,_,_,rfl,hx.len,_,rfl,.inl ⟨_,_,rfl,rfl,_,rfl,?_⟩⟩
 show if (!decide ((ns.length:Int)=(m:Int)))=true then _ else _
 rw [bc0 (by omega)]
 refine bB ⟨_,rfl,_,hx.seq,sG hx,by rw [bO]; omega,fun i acc=>acc=List.replicate i (PV.bl false),rfl,?_,?_⟩
 ·rintro i y acc hy rfl
  obtain ⟨n,rfl,hn⟩:=j4 hy
  refine⟨_,rfl,_,_,rfl,rfl,trivial,?_⟩
  dsimp only
  rw [bc3 (by have:=hp n (bc2 hn); omega),List.replicate_succ']
 ·rintro acc rfl
  refine⟨List.replicate (intz ns).length false,by rw [List.map_replicate]; rfl,_,rfl,?_⟩
  have:(List.replicate (intz ns).length false).any id=false:=by
   rw [List.any_eq_false]; intro x hx; rw [(List.mem_replicate.mp hx).2]; decide
  rw [this]
  exact bB ⟨_,rfl,⟨_,_,rfl,hx.seqT,eF _,trivial,q⟩,hx.noscr⟩
theorem aK2 {l l':List Int} (p:l.Perm l'):l.sum=l'.sum:=by
 induction p with
 | nil=>rfl
 | cons x _ ih=>rw [List.sum_cons,List.sum_cons,ih]
 | swap x y l=>simp only [List.sum_cons]; omega
 | trans _ _ h1 h2=>exact h1.trans h2
theorem xD (n:Nat):(rng n).Pairwise (· < ·):=by
 unfold rng
 rw [bl3]
 exact (List.pairwise_lt_range (n:=n)).imp fun h=>by omega
theorem aK3 (n:Nat) (p:Int->Bool):bE n ((rng n).filter p)=true:=by
 refine pI.set ⟨(xD n).sublist List.filter_sublist,fun x hx=>?_,?_⟩
 ·have:=cT.mp (bd7.mp hx).1
  exact this
 ·have:=bg7 p (rng n)
  rw [dX] at this
  omega
section
variable {ws : List Int} {ls : List (Int × Int)} {ns wts : List Int} {m : Nat}
noncomputable def loose (ls:List (Int × Int)) (wts ns:List Int):List ((Int × Int) × Int):=(ls.zip wts).filter fun z=>!(decide (z.1.1 ∈ ns) && decide (z.1.2 ∈ ns))
end
end Core
namespace PP
open PySem L2 PyProof.Rows
section
variable {X : Cx} {a b e : Expr} {ta tb te : aF} {D : dH} {σ : L2.St} {H : Hp} {pos p2 : Pos}
noncomputable def nK (p:iW) (te:aF):aK:=fun D ρ=>te ρ fun x g=>vW g x/\p x (vV g x) ρ fun ρ2=>D.nx ρ2
theorem aK4 {p:iW}{g:TG}{own:Nat->Prop} (hg:mU X.K own p g) (h:LS X (nK p te) D σ H):jK (LE X te) g D σ H:=by
 obtain ⟨W,ρ,D',px,q,k⟩:=h
 refine⟨W,ρ,_,px,q,?_⟩
 rintro v H1 x gt s r ⟨st,q⟩
 refine hg X.H₀ W σ ρ H1 v x _ _ _ (px.mono s) (M7 px st r) q fun σ' ρ' px' _ _ q'=>?_
 exact k.nx W σ' H1 ρ' (Ev.same s) px' q'
theorem xE (i j:Nat) {x y:Str}{tp xp yp:Pos}{kt:Nat} (hN:X.N.Nodup) (he:QE X e te) (hx:X.N[i]? = some x:=by rfl) (hy:X.N[j]? = some y:=by rfl) (hlx:gX X.env.scope x:=by first | exact Or.inl rfl | exact Or.inr rfl) (hly:gX X.env.scope y:=by first | exact Or.inl rfl | exact Or.inr rfl)
  (hfx:X.fn x=true ∨ X.env.scope.names.lookup x=some .local:=by first | exact .inl rfl | exact .inr rfl) (hfy:X.fn y=true ∨ X.env.scope.names.lookup y=some .local:=by first | exact .inl rfl | exact .inr rfl) (hc:X.calm=true:=by rfl)
  (hs:swapsWithSole [.Tuple [.Name x xp,.Name y yp] kt tp] e pos.line X.env=pure false:=by rfl) (hw:swappedStores [.Tuple [.Name x xp,.Name y yp] kt tp] e X.env=pure none:=by rfl):QS X (.Assign [.Tuple [.Name x xp,.Name y yp] kt tp] e pos) (nK (eI i j) te):=by
 have g:PG X (.Tuple [.Name x xp,.Name y yp] kt tp) (jJ X.K 2 (eN (cG i) (eN (cG j) jI))):=lI hc (gB (eC hN hx hlx hfx) (gB (eC hN hy hly hfy) lH))
 exact dN (zN he g hs hw) fun _ _ _=>aK4 (oU _ i j)
end
end PP
set_option maxHeartbeats 1000000
set_option maxHeartbeats 1000000
set_option maxHeartbeats 1000000
set_option maxHeartbeats 1000000
namespace PP
open PySem L2 PyProof.Rows
noncomputable abbrev fW:=(Str->Prop)->bH
noncomputable def EX (K:PySem.W.Frag) (H0:Hp) (Ep:Str->Prop):XK:=fun c d H'=>d=none/\aD H0 H'/\∃ n C,c = .ref C/\PySem.W.nsIn K mainGlobals n=some (some (.ref C))/\Ep n
noncomputable def U7 (K:PySem.W.Frag) (p:fW):Sp:=fun vs H Q E=>∃ xs Qp Ep,Reps K (fun _=>True) H vs xs/\p Ep xs Qp/\(∀ v H' x,aD H H'->aI K (fun a=>H a=none) H' v x->Qp x->Q v H')/\
 ∀ n C H',aD H H'->PySem.W.nsIn K mainGlobals n=some (some (.ref C))->Ep n->E (.ref C) none H'
structure eV (P:Program) (w:World) (K:PySem.W.Frag) (mg:Str->Option Value) (base:Heap) (k:Nat) (x:Str) (ps:List Str) (p:fW):Prop where
 ex:∃ f fd,cZ P w K mg base (eM P w) k f fd ps (U7 K p)/\i9 K fd ps []/\PySem.W.keepIn K (.ref f)=true/\mg x=some (.ref f)
section
variable {X : Cx} {σ : L2.St} {H : Hp} {D : dH} {tr : cO} {Q' : VK} {a b c e : Expr} {es : List Expr} {pos p2 cp np hp : Pos} {t : aK} {te : aF} {tc : cN}
noncomputable def xF (Ep:Str->Prop) (p:fW) (t:cO):aF:=aB (p Ep) t
theorem U8 {p:fW}{Ep:Str->Prop} (h:LE X (xF Ep p tr) σ H Q'):uF (U7 X.K p) [] (EX X.K X.H₀ Ep) (LA X tr) σ H Q':=by
 obtain ⟨W,ρ,Q,px,q,k⟩:=h
 refine⟨W,ρ,_,px,q,fun vs H1 xs s1 r1 q1=>⟨_,_,Ep,by rw [bj0]; exact r1.any,q1,fun v H' x s2 r2 q2=>k v H' x .fr (s1.trans s2) (r2.same (aD.refl _) fun _ z=>s1.free z) q2,fun n C H' s2 z1 z2=>⟨rfl,(px.same.trans s1).trans s2,n,C,rfl,z1,z2⟩⟩⟩
theorem aK5 {Ep:Str->Prop}{k j:Nat}{x:Str}{ps:List Str}{p:fW} (hX:nG X (EX X.K X.H₀ Ep)) (d:eV X.prog X.w X.K X.mg X.base k x ps p) (hr:cH j X.A) (ha:QA X (e :: es) tr) (hkj:k<=j:=by decide) (hg:Gl X x:=by rfl) (hdb:(x == ("__debug__" : Str))=false:=by decide)
  (he:starEach (e :: es) X.env=(false,eval e X.env) :: starEach es X.env:=by rfl) (hpl:(backTo pos (starEach es X.env)).any (·.1)=false:=by rfl):QE X (.Call (.Name x p2) (e :: es) [] pos) (xF Ep p tr):=by
 obtain ⟨f,fd,F,b,kp,m⟩:=d.ex
 exact cE (uG F (hr.mono hkj) hg m kp b .nil hX.pass ha hdb he hpl) fun _ _ _=>U8
theorem aK6 {k j:Nat}{x:Str}{ps:List Str}{p:fW} (d:eV X.prog X.w X.K X.mg X.base k x ps p) (hr:cH j X.A) (ha:QA X (e :: es) tr) (hkj:k<=j:=by decide) (hg:Gl X x:=by rfl) (hdb:(x == ("__debug__" : Str))=false:=by decide)
  (he:starEach (e :: es) X.env=(false,eval e X.env) :: starEach es X.env:=by rfl) (hpl:(backTo pos (starEach es X.env)).any (·.1)=false:=by rfl):QE X (.Call (.Name x p2) (e :: es) [] pos) (aB (p fun _=>False) tr):=by
 obtain ⟨f,fd,F,b,kp,m⟩:=d.ex
 refine cE (uG F (E:=EX X.K X.H₀ fun _=>False) (hr.mono hkj) hg m kp b .nil (fun _ _ _ _ _ _ _ h=>?_) ha hdb he hpl) fun _ _ _ h=>U8 (Ep:=fun _=>False) h
 obtain ⟨_,_,_,_,_,_,_,_,_,_,_,_,z⟩:=h
 exact z.elim
noncomputable def pL (Ep:Str->Prop) (n:Str) (t:cO):aK:=fun _ ρ=>t ρ fun xs=>xs.length<=1000/\Ep n
theorem aK7 {Ep:Str->Prop}{n:Str}{C:Addr} (hn:PySem.W.nsIn X.K mainGlobals n=some (some (.ref C))) (h:LS X (pL Ep n tr) D σ H):R3 (EX X.K X.H₀ Ep) C (LA X tr) D σ H:=by
 obtain ⟨W,ρ,D',px,q,k⟩:=h
 exact⟨W,ρ,_,px,q,fun vs H1 xs s1 r z=>⟨by rw [r.length]; exact oO z.1,rfl,px.same.trans s1,n,C,rfl,hn,z.2⟩⟩
structure Xc (K:PySem.W.Frag) (mg:Str->Option Value) (base:Heap) (n:Str):Prop where
 ex:∃ C B newId initId bm,OwnCls n C bm newId mg base/\ExcBaseFacts B newId initId bm/\PySem.W.nsIn K mainGlobals n=some (some (.ref C))
theorem xG {Ep:Str->Prop}{n:Str} (hX:nG X (EX X.K X.H₀ Ep)) (x:Xc X.K X.mg X.base n) (ha:QA X (e :: es) tr) (hc:X.calm=true:=by rfl) (hg:Gl X n:=by rfl) (hd:(n == ("__debug__" : Str))=false:=by decide)
  (he:starEach (e :: es) X.env=(false,eval e X.env) :: starEach es X.env:=by rfl) (hpl:(backTo cp (starEach es X.env)).any (·.1)=false:=by rfl):QS X (.Raise (some (.Call (.Name n np) (e :: es) [] cp)) none pos) (pL Ep n tr):=by
 obtain ⟨C,B,newId,initId,bm,O,FB,hn⟩:=x.ex
 exact dN (aD7 hX hc O FB ha hg hd he hpl) fun _ _ _=>aK7 hn
noncomputable abbrev nL:=fB->(Str->Prop)->bJ->Prop
noncomputable def LB (X:Cx) (t:nL):TB:=fun D Ex σ H=>∃ (W:Addr->Prop) (ρ:bJ) (D':fB) (Ep:Str->Prop),PX X.K X.H₀ W σ ρ H/\t D' Ep ρ/\oP X W H D' D/\∀ n C H',aD H H'->PySem.W.nsIn X.K mainGlobals n=some (some (.ref C))->Ep n->Ex (.ref C) none H'
noncomputable def QB (X:Cx) (sts:List Stmt) (t:nL):Prop:=PB X sts (LB X t)
theorem pbI {sts:List Stmt}{t t':TB} (h:PB X sts t) (m:∀ D Ex σ H,t' D Ex σ H->t D Ex σ H):PB X sts t':=fun pins s σ H D Ex I q=>h pins s σ H D Ex I (m D Ex σ H q)
noncomputable def xH (D:fB) (i:Nat):fB:={ nx:=fun ρ=>D.nx (ρ.set i none),rt:=D.rt,bk:=fun ρ=>D.bk (ρ.set i none),ct:=fun ρ=>D.ct (ρ.set i none) }
noncomputable def nM:List Str:=["BadWeb","BadSet","BadOrder","BadPrices","BadBoard","BadDeed","NotWood","NoPaper","NoSuch","TooMany","NoText","OddRound"]
noncomputable def l8 (n m:Str):Option Bool:=if nM.contains n then some (n == m || m == "HearthError" || m == "ValueError") else none
noncomputable def xI (m:Str) (i:Nat) (tb:nL) (ts:aK):aK:=fun D ρ=>tb D (fun n=>l8 n m=some true/\ts (xH D i) (ρ.set i (some (.sh true (.exc n))))) ρ
theorem aK8 {m:Str}{Ch:Addr}{i:Nat}{tb:nL}{ts:aK} (hs:∀ n C,l8 n m=some true->PySem.W.nsIn X.K mainGlobals n=some (some (.ref C))->PySem.W.subIn X.K (.ref C) (.ref Ch)=some true) (h:LS X (xI m i tb ts) D σ H):R5 X.K Ch i (LB X tb) (LS X ts) D σ H:=by
 obtain ⟨W,ρ,D',px,q,k⟩:=h
 refine⟨W,ρ,D',_,px,q,k,fun n C H' s z1 z2 a C' oe hc na hcl=>?_⟩
 cases hc
 refine⟨hs n C z2.1 z1,W,_,xH D' i,(px.mono (s.trans (bK na _))).setSh (g:=true) (.exc bM z1 hcl),z2.2,?_⟩
 have k':=k.step (Ev.same (W:=W) (s.trans (bK na (.frz oe (.own a)))))
 exact⟨fun W' σ' H2 ρ' ev px' q'=>k'.nx W' _ H2 _ ev px'.setNone q',k'.rt,fun W' σ' H2 ρ' ev px' q'=>k'.bk W' _ H2 _ ev px'.setNone q',fun W' σ' H2 ρ' ev px' q'=>k'.ct W' _ H2 _ ev px'.setNone q'⟩
structure xJ (K:PySem.W.Frag) (mg:Str->Option Value) (m:Str):Prop where
 ex:∃ Ch,mg m=some (.ref Ch)/\wS K Ch/\∀ n C,l8 n m=some true->PySem.W.nsIn K mainGlobals n=some (some (.ref C))->PySem.W.subIn K (.ref C) (.ref Ch)=some true
theorem aK9 (i:Nat) {m n:Str}{b₀:Stmt}{suite body:List Stmt}{tb:nL}{ts:aK} (ct:xJ X.K X.mg m) (hN:X.N.Nodup) (hb:QB X body tb) (hs:∀ a,fG (X.suite a) (b₀ :: suite) ts) (hstk:X.stack=X.env :: X.outer/\X.env.frame=some X.env.locals:=by exact⟨rfl,rfl⟩) (hi:X.N[i]? = some n:=by rfl) (hl:X.env.scope.names.lookup n=some .local:=by rfl) (hg:Gl X m:=by rfl)
  (hd:(m == ("__debug__" : Str))=false:=by decide):QS X (.Try body [.ExceptHandler (some (.Name m np)) (some n) (b₀ :: suite) hp] [] [] pos) (xI m i tb ts):=by
 obtain ⟨Ch,hm,c,sub⟩:=ct.ex
 exact dN (aE0 (ts:=LS X ts) hstk hb hg hm c hN hi hl (fun a=>wG (hs a) fun _ _ _ ⟨W,ρ,D',px,q,k⟩=>⟨W,ρ,D',px,q,⟨k.nx,k.rt,k.bk,k.ct⟩⟩) hd) fun _ _ _=>aK8 sub
noncomputable def hG:V->Value
 | .ref a=>.ref a
 | .ty n=>.type n
 | _=>.none
noncomputable def aL0 (K:PySem.W.Frag):List V->Hp->VK->Prop:=fun xs H Q=>∃ v v2 b,xs = [v,v2]/\hG v2 ≠ .none/\((∃ a o C,v = .ref a/\H a=some (.frz o (.own a))/\o.cls = .ref C/\j3 K C/\PySem.W.kitOne K (.ref C) (hG v2)=some b) ∨ (v = .non/\PySem.W.kitOne K (.type "NoneType") (hG v2)=some b))/\Q (.bl b) H
theorem aL1:cX X (.builtin "isinstance") (aL0 X.K):=by
 intro pins s σ H xs us Q I r h
 obtain ⟨v,v2,b,rfl,hv,hk,q⟩:=h
 obtain ⟨u,u',rfl,ru,ru'⟩:=o4 r
 obtain rfl:u'=hG v2:=by
  cases v2 <;> first | exact ru' | exact absurd rfl hv
 rcases hk with ⟨a,o,C,rfl,hH,hc,F,e⟩ | ⟨rfl,e⟩
 ·obtain ⟨h1,_⟩:=I.hok a _ hH
  cases (show u=Value.ref a from ru)
  exact bh7 (aE7 F) I.kIn ⟨o,h1,hc⟩ e (fun z=>nomatch z) fun tk=>⟨.bl b,H,I.tok tk,rfl,q⟩
 ·cases (show u=Value.none from ru)
  exact bh7 PySem.W.kitx_none I.kIn trivial e (fun z=>nomatch z) fun tk=>⟨.bl b,H,I.tok tk,rfl,q⟩
noncomputable def aL2 (m:Str):PV->Option Bool
 | .exc n=>l8 n m
 | .non=>some false
 | _=>none
noncomputable def kB (m:Str) (te:aF):aF:=fun ρ Q=>te ρ fun x _=>∃ b,aL2 m x=some b/\Q (.bl b) .fr
structure xK (K:PySem.W.Frag) (m:Str) (v2:V):Prop where
 nn:hG v2 ≠ .none
 ex:∀ n C b,PySem.W.nsIn K mainGlobals n=some (some (.ref C))->l8 n m=some b->j3 K C/\PySem.W.kitOne K (.ref C) (hG v2)=some b
 no:PySem.W.kitOne K (.type "NoneType") (hG v2)=some false
theorem U9 {x:Str}{v2:V}{px:Pos} (B:Bt X.mg) (A:xK X.K x v2) (hx:PE X (.Name x px) (tC v2)) (ha:QE X a te) (hg:Gl X "isinstance":=by rfl)
  (he:starEach [a,.Name x px] X.env=(false,eval a X.env) :: starEach [.Name x px] X.env:=by rfl) (he2:starEach [.Name x px] X.env=(false,eval (.Name x px) X.env) :: starEach [] X.env:=by rfl) (hpl:(backTo pos (starEach [.Name x px] X.env)).any (·.1)=false:=by rfl):QE X (.Call (.Name "isinstance" p2) [a,.Name x px] [] pos) (kB x te):=
 cE (o8 aL1 hg B.isinst PyProof.Rows.boot_isinstance (cY ha (cY hx dO he2) he) (he:=he) (hpl:=hpl)) fun σ H Q' h=>by
  obtain ⟨W,ρ,Q,px,q,k⟩:=h
  refine⟨W,ρ,_,px,q,?_⟩
  rintro v H1 y g s r ⟨b,e,q⟩
  refine⟨v,v2,b,rfl,A.nn,?_,k _ _ _ .fr s (.bl _) q⟩
  cases r with
  | exc h z c=>
   obtain ⟨F,kt⟩:=A.ex _ _ _ z e
   exact .inl ⟨_,_,_,rfl,h,c,F,kt⟩
  | non=>cases e; exact .inr ⟨rfl,A.no⟩
  | _=>cases e
end
section
variable {X : Cx} {a : Expr} {pos p2 px : Pos} {te : aF}
structure pM (K:PySem.W.Frag) (mg:Str->Option Value) (m:Str):Prop where
 ex:∃ C,mg m=some (.ref C)/\xK K m (.ref C)
structure xM (K:PySem.W.Frag) (mg:Str->Option Value):Prop where
 mg:mg "ValueError" = none
 is:xK K "ValueError" (.ty "ValueError")
theorem V0 {x:Str} (B:Bt X.mg) (A:pM X.K X.mg x) (ha:QE X a te) (hgx:Gl X x:=by rfl) (hdx:(x == ("__debug__" : Str))=false:=by decide) (hg:Gl X "isinstance":=by rfl)
  (he:starEach [a,.Name x px] X.env=(false,eval a X.env) :: starEach [.Name x px] X.env:=by rfl) (he2:starEach [.Name x px] X.env=(false,eval (.Name x px) X.env) :: starEach [] X.env:=by rfl) (hpl:(backTo pos (starEach [.Name x px] X.env)).any (·.1)=false:=by rfl):QE X (.Call (.Name "isinstance" p2) [a,.Name x px] [] pos) (kB x te):=by
 obtain ⟨C,m,i⟩:=A.ex
 exact U9 B i (ah6 hgx m rfl hdx) ha hg he he2 hpl
theorem aL3 (B:Bt X.mg) (A:xM X.K X.mg) (ha:QE X a te) (hgx:Gl X "ValueError":=by rfl) (hg:Gl X "isinstance":=by rfl)
  (he:starEach [a,.Name "ValueError" px] X.env=(false,eval a X.env) :: starEach [.Name "ValueError" px] X.env:=by rfl) (he2:starEach [.Name "ValueError" px] X.env=(false,eval (.Name "ValueError" px) X.env) :: starEach [] X.env:=by rfl) (hpl:(backTo pos (starEach [.Name "ValueError" px] X.env)).any (·.1)=false:=by rfl):QE X (.Call (.Name "isinstance" p2) [a,.Name "ValueError" px] [] pos) (kB "ValueError" te):=
 U9 B A.is (zB (v:=.ty "ValueError") hgx A.mg PyProof.Rows.Boot.«ValueError» rfl (by decide) (by decide)) ha hg he he2 hpl
end
structure kC (K:PySem.W.Frag) (C:Addr):Prop where
 cls:PySem.W.isClsIn K C=true
 ty:PySem.W.typeIn K (.ref C)=some (.type "type")
 ga:PySem.W.findIn K (.ref C) "__getattribute__" = some (some (.builtin "BaseException.__getattribute__"))
 gt:PySem.W.findIn K (.ref C) "__getattr__" = some none
 fc:PySem.W.findIn K (.ref C) "__class__" = some (some (.builtin "object.__class__"))
 fg:PySem.W.specialIn K (.builtin "object.__class__") "__get__" = some (some (.builtin "getset_descriptor.__get__"))
 ft:PySem.W.takesIn K (.builtin "object.__class__")=some true
 ob:PySem.W.mroIn K C (.type "object")=some true
 be:PySem.W.mroIn K C (.type "BaseException")=some true
theorem kC.exc {K:PySem.W.Frag}{C:Addr} (h:kC K C):j3 K C:=⟨h.cls,h.ga,h.gt,h.fc,h.fg,h.ft,h.ob,h.be⟩
theorem V1 {K:PySem.W.Frag}{h₀:Heap}{mg:Str->Option Value}{x:Str}{C:Addr}{bmB:List Value}{newId:String} (X:K.In h₀) (m:mg x=some (.ref C)) (q:PySem.W.excIn K C bmB newId=true):OwnCls x C bmB newId mg h₀:=by
 refine⟨m,?_⟩
 unfold PySem.W.excIn at q
 split at q
 case h_2=>cases q
 rename_i dd cd sl ho
 split at q
 case h_2=>cases q
 rename_i C' bm k0 k1 k2 k3 n k5 hm hs
 simp only [bg2,beq_iff_eq,Bool.not_eq_true'] at q
 obtain ⟨⟨⟨⟨⟨rfl,rfl⟩,dl⟩,ht⟩,hok⟩,hni⟩:=q
 obtain ⟨nm,bs,mro,ns,qn,hd,sn,sub,ab,col,del⟩:=cd
 dsimp only at hm dl hok hni
 subst hm dl
 obtain rfl:sl = #[k0,k1,k2,k3,some (.builtin n),k5]:=by
  obtain ⟨l⟩:=sl
  exact congrArg Array.mk hs
 exact⟨bm,ns,nm,qn,bs,hd,sn,sub,ab,col,dd,k0,k1,k2,k3,k5,_,X _ _ ho,.of_isNs (PySem.W.isNs_of_in X hok),PySem.W.nsMap_none_of_in X hok hni,PySem.W.tail_of_in X ht⟩
theorem sR {n m:Str}{b:Bool} (h:l8 n m=some b):n ∈ nM/\b=(n == m || m == "HearthError" || m == "ValueError"):=by
 unfold l8 at h
 split at h
 ·rename_i z
  exact⟨by simpa using z,by cases h; rfl⟩
 ·cases h
theorem nN {K:PySem.W.Frag}{C D:Addr}{b:Bool} (hd:kC K D) (ne:(C == D)=false) (s:PySem.W.subIn K (.ref C) (.ref D)=some b):PySem.W.kitOne K (.ref C) (.ref D)=some b:=by
 have ne':(Value.ref C == Value.ref D)=false:=by
  rw [beq_eq_false_iff_ne] at ne ⊢
  exact fun z=>ne (Value.ref.inj z)
 have c:=hd.cls
 unfold PySem.W.isClsIn at c
 unfold PySem.W.kitOne PySem.W.kitCls
 rw [if_neg (by rw [ne']; decide)]
 dsimp only
 rw [if_pos (by rw [c,hd.ty]; decide)]
 exact s
theorem V2 {K:PySem.W.Frag}{C:Addr}:PySem.W.kitOne K (.ref C) (.ref C)=some true:=by
 unfold PySem.W.kitOne
 rw [if_pos (bk7 _)]
theorem sS {K:PySem.W.Frag}{C:Addr} (s:PySem.W.subIn K (.ref C) (.type "ValueError")=some true):PySem.W.kitOne K (.ref C) (.type "ValueError")=some true:=by
 unfold PySem.W.kitOne PySem.W.kitCls
 rw [if_neg (fun z=>by cases beq_iff_eq.mp z)]
 dsimp only
 rw [if_pos (by decide +kernel)]
 exact s
theorem V3 {K:PySem.W.Frag}{D:Addr} (hd:kC K D) (s:PySem.W.subIn K (.type "NoneType") (.ref D)=some false):PySem.W.kitOne K (.type "NoneType") (.ref D)=some false:=by
 have c:=hd.cls
 unfold PySem.W.isClsIn at c
 unfold PySem.W.kitOne PySem.W.kitCls
 rw [if_neg (fun z=>by cases beq_iff_eq.mp z)]
 dsimp only
 rw [if_pos (by rw [c,hd.ty]; decide)]
 exact s
theorem aL4 {K:PySem.W.Frag}:PySem.W.kitOne K (.type "NoneType") (.type "ValueError")=some false:=by
 have e:(if PySem.W.kitMeta "ValueError" = true then (fastBuiltinMro "NoneType").map (·.contains (Value.type "ValueError")) else none)=some false:=by decide +kernel
 unfold PySem.W.kitOne
 rw [if_neg (by decide)]
 exact e
theorem eV.of {P:Program}{w:World}{K:PySem.W.Frag}{mg:Str->Option Value}{base:Heap}{k:Nat}{x:Str}{ps N:List Str}{p:fW}{st:Stmt}{f:Addr}{fd:FuncData} (F:fA K x x st f fd) (m:mg x=some (.ref f)) (S:FnScope N ps (aZ st))
  (hb:∀ (kV doc pm:Value) (an:Option Addr) (cdv ct:Value) (us:List Value),us.length=ps.length->bindArgs (PySem.W.fnOf x x (jR st) (eZ st) (aZ st) .none kV doc pm an cdv ct) ⟨us,[]⟩=pure (ps.zip us))
  (t:(Str->Prop)->aK) (len:∀ Ep xs Q,p Ep xs Q->xs.length=ps.length) (rd:∀ Ep xs Q,p Ep xs Q->t Ep { nx:=fun _=>Q .non,rt:=Q } (gH N xs))
  (body:∀ (cdv:Value) (A:Around) (outer:List Env) (s:Shared) (H:Hp) (E:XK) (Ep:Str->Prop),cH k (A.deeper (envOfC x (aZ st) s.heap.objs.size f cdv))->nG (dP (eM P w) P w K mg base N x (aZ st) f cdv A outer s H E) (EX K H Ep)->
   fG (dP (eM P w) P w K mg base N x (aZ st) f cdv A outer s H E) (eZ st) (t Ep)):eV P w K mg base (k+1) x ps p:=by
 refine⟨f,fd,F.okX S (fun vs H Q E h=>?_) (fun cdv A outer s H vs Q E hr h=>?_),F.binds hb,F.kp,m⟩
 ·obtain ⟨xs,Qp,Ep,r,q,_⟩:=h
  rw [r.length]; exact len Ep xs Qp q
 ·obtain ⟨xs,Qp,Ep,r,q,k,ke⟩:=h
  have ht:=body cdv A outer s H E Ep hr (aD6 fun c d H' z=>?_)
  ·refine⟨_,ht,fun _=>False,gH N xs,_,wP r,rd Ep xs Qp q,?_,?_,?_,?_⟩
   ·exact fun W' σ' H' ρ' e px q=>k _ _ _ px.same .non q
   ·exact fun v H' x s r q=>k _ _ _ s r q
   ·exact fun W' σ' H' ρ' e px q=>q
   ·exact fun W' σ' H' ρ' e px q=>q
  ·obtain ⟨rfl,s1,n,C,rfl,z1,z2⟩:=z
   exact ke n C H' s1 z1 z2
end PP
namespace Core
open PySem L2 PP
noncomputable abbrev xN (t:(Str->Prop)->aK) (N:List Str) (p:fW):Prop:=∀ Ep xs Q,p Ep xs Q->t Ep { nx:=fun _=>Q .non,rt:=Q } (gH N xs)
noncomputable def sT:fW:=fun Ep xs Q=>∃ ws ls x ns,xs = [bF ws ls,x]/\dR x ns/\ns.length<=1000/\(bE ws.length ns=true->Q (.tup (intz ns)))/\(bE ws.length ns=false->Ep "BadSet")
noncomputable def V4 (Ep:Str->Prop):aK:=(aE (cB (lP (b9 (aB sF (a6 (a5 0) (a6 (a5 1) a9))))) (pL Ep "BadSet" (a6 (qC (.str "a set is of rising hearths of the web")) a9)) cD)
 (bG (aB iZ (a6 (a5 1) a9))))
theorem aL5:xN V4 ["web","hearths"] sT:=by
 rintro Ep xs Q ⟨ws,ls,x,ns,rfl,hx,hl,q1,q2⟩
 refine⟨_,rfl,_,rfl,ws,ls,x,ns,rfl,hx,hl,_,rfl,?_⟩
 cases h:bE ws.length ns with
 | true=>exact bB ⟨_,rfl,⟨_,_,rfl,hx.seqT,eF _,trivial,q1 h⟩,hx.noscr⟩
 | false=>exact bD ⟨by decide,q2 h⟩
end Core
namespace PP
open PySem L2
theorem nO {us:List Value} (h:us.length=1):∃ a,us = [a]:=List.length_eq_one_iff.mp h
theorem xO {us:List Value} (h:us.length=2):∃ a b,us = [a,b]:=by
 cases us with
 | nil=>cases h
 | cons a r=>
  obtain ⟨b,rfl⟩:=nO (us:=r) (by simpa using h)
  exact⟨a,b,rfl⟩
theorem xP {us:List Value} (h:us.length=3):∃ a b c,us = [a,b,c]:=by
 cases us with
 | nil=>cases h
 | cons a r=>
  obtain ⟨b,c,rfl⟩:=xO (us:=r) (by simpa using h)
  exact⟨a,b,c,rfl⟩
theorem V5 {us:List Value} (h:us.length=4):∃ a b c d,us = [a,b,c,d]:=by
 cases us with
 | nil=>cases h
 | cons a r=>
  obtain ⟨b,c,d,rfl⟩:=xP (us:=r) (by simpa using h)
  exact⟨a,b,c,d,rfl⟩
end PP
namespace Core
open PySem L2 PP
noncomputable def NN (zs:List Int):Prop:=∀ z ∈ zs,(0:Int)<=z
theorem NN.set {zs:List Int}{z:Int} (h:NN zs) (hz:0<=z) (j:Nat):NN (zs.set j z):=fun y hy=>by
 rcases List.mem_or_eq_of_mem_set hy with hy | rfl
 ·exact h y hy
 ·exact hz
noncomputable def xQ (i:Nat) (S:List Int):Prop:=S.Pairwise (· < ·)/\∀ x ∈ S,0<=x/\x < (i:Int)
theorem xQ.set {i:Nat}{S:List Int} (h:xQ i S):bE i S=true:=by
 unfold bE
 rw [wT h.1,Bool.true_and,bk8]
 intro b hb
 obtain ⟨x,hx,rfl⟩:=bd6.mp hb
 have:=h.2 x hx
 unfold inB
 simp only [id,bg2,bm6]
 exact this
end Core
namespace PP
open PySem L2
section
variable {X : Cx} {a b e : Expr} {ta tb : aF} {tr : cO} {D : dH} {σ : St} {H : Hp} {pos p2 p3 p4 : Pos}
noncomputable def sU (i:Nat) (ta tb:aF):aK:=fun D ρ=>∃ xs,ρ[i]? = some (some (.own (.lst xs)))/\ta ρ fun x _=>∃ k:Nat,x = .int k/\k<=xs.length/\xs.length < 16000000/\tb ρ fun y g=>Nw g y/\D.nx (ρ.set i (some (.own (.lst (xs.take k ++ y :: xs.drop k)))))
theorem aL6 {i:Nat} (h:LS X (sU i ta tb) D σ H):pZ (qL X.K "list" R6 (iQ i) (iS (LE X ta) (iS (LE X tb) kG))) D σ H:=by
 obtain ⟨W,ρ,D',px,⟨xs,hi,q⟩,k⟩:=h
 obtain ⟨v,ev,a,rfl,wa,us,ea,r⟩:=px.sl i _ hi
 refine⟨_,ev,kK (aM.of ea),W,ρ,_,px,q,?_⟩
 rintro w H1 x g s rx ⟨j,rfl,hj,hl,q⟩
 cases rx
 refine⟨W,ρ,_,px.mono s,q,?_⟩
 rintro w H2 y g s2 ry ⟨n,q⟩
 have ea2:=s2 _ _ (s _ _ ea)
 have s3:=s.trans s2
 refine⟨a,us,w,j,rfl,rfl,ea2,by rw [r.length]; exact hj,hZ (by rw [r.length]; omega),?_⟩
 refine k.nx W σ _ _ ((Ev.same s3).trans (Ev.upd wa)) ((px.mono s3).updL hi ev wa ?_) q
 have r2:=r.same s3 fun _ z=>z
 exact ((r2.take j).append (.cons (Nw.rep (px.mono s) n ry) (r2.drop j))).keep (.upd ea2 rfl fun b m=>⟨lQ wa m,m⟩)
theorem aL7 (i:Nat) {x:Str}{apos cpos xpos:Pos} (ha:QE X a ta) (hb:QE X b tb) (hN:X.N[i]? = some x:=by rfl) (hv:gW X.env.scope x:=by first | exact Or.inl rfl | exact Or.inr (Or.inl rfl) | exact Or.inr (Or.inr rfl)) (hd:(x == ("__debug__" : Str))=false:=by decide) (hcd:(x == ("__classdict__" : Str))=false:=by decide)
  (hbase:attributeBase (.Name x xpos) "insert" X.env (eval (.Name x xpos) X.env)=eval (.Name x xpos) X.env:=by rfl)
  (hfew:((backTo cpos (starEach [a,b] X.env)).all (fun x=>!x.1) && (backToKw cpos (keywordEach [] X.env)).all (fun x=>x.1.isSome) && decide (([a,b]:List Expr).length+([]:List Keyword).length+(if ([]:List Keyword).isEmpty then 0 else 1) < 30))=true:=by rfl)
  (hline:(apos.endLine == cpos.line)=true:=by rfl) (hs:starEach [a,b] X.env=(false,eval a X.env) :: starEach [b] X.env:=by rfl) (hs2:starEach [b] X.env=(false,eval b X.env) :: starEach [] X.env:=by rfl) (hplain:(backTo cpos (starEach [b] X.env)).any (·.1)=false:=by rfl)
  (hsw:swapsWith (.Call (.Attribute (.Name x xpos) "insert" apos) [a,b] [] cpos) none pos.line X.env=pure false:=by rfl) :
  QS X (.Expr (.Call (.Attribute (.Name x xpos) "insert" apos) [a,b] [] cpos) pos) (sU i ta tb):=
 dN (lF (lJ bi6 PySem.F.slot_list_insert PySem.F.type_list_insert aE8 (jG hN hv hd hcd) (cY ha (cY hb dO hs2) hs) hbase hfew hline hs hplain) hsw) fun _ _ _=>aL6
end
end PP
namespace Core
open PySem L2 PP
structure WL (n:Int) (ws:List Int) (ls:List (Int × Int)):Prop where
 many:(ws.length:Int)=n
 inn:∀ l ∈ ls,0<=l.1/\l.1 < l.2/\l.2 < n
 most:ls.length<=1700
 ord:ls.Pairwise j6
 pos:∀ w ∈ ws,0<=w
theorem WL.perm {n:Int}{ws:List Int}{ls ls':List (Int × Int)} (h1:(ws.length:Int)=n) (h2:∀ l ∈ ls,0<=l.1/\l.1 < l.2/\l.2 < n) (h3:ls.length<=1700) (nd:ls.Nodup) (h4:∀ w ∈ ws,0<=w) (p:ls'.Perm ls) (so:(ls'.map two).Pairwise fun u v=>HT.fM v u=false):WL n ws ls':=
 ⟨h1,fun l hl=>h2 l (p.mem_iff.mp hl),by rw [p.length_eq]; exact h3,aH5 so (p.nodup_iff.mpr nd),h4⟩
theorem WL.wb {n:Int}{ws:List Int}{ls:List (Int × Int)} (h:WL n ws ls) (hn:n<=40):Wb ws ls:=
 ⟨by have:=h.many; omega,h.most,fun l hl=>by have:=h.inn l hl; have:=h.many; omega⟩
noncomputable def aL8 (f:List Int->List (Int × Int)->List Int->(PV->Prop)->Prop):fW:=fun Ep xs Q=>∃ ws ls x ns,xs = [bF ws ls,x]/\Wb ws ls/\dR x ns/\ns.length<=1000/\(bE ws.length ns=true->f ws ls ns Q)/\(bE ws.length ns=false->Ep "BadSet")
noncomputable def sV:bH:=fun xs Q=>∃ ws ls y ms,xs = [bF ws ls,y]/\dR y ms/\ms.length<=1000/\ws.length<=1000/\Q (.tup (intz (xA ws.length ms)))
noncomputable def V6:aK:=(bG (aB nI (a6 (wY (aB gJ (a6 (a5 0) a9))) (a6 (a5 1) a9))))
theorem aL9:cF V6 ["web","some"] sV:=by
 rintro xs Q ⟨ws,ls,y,ms,rfl,hy,hm,hw,q⟩
 refine⟨_,rfl,ws,ls,rfl,_,rfl,by omega,by omega,?_⟩
 rw [aH2]
 refine⟨_,rfl,_,rng ws.length,y,ms,rfl,.inr rfl,hy,by rw [dX]; omega,hm,trivial,q⟩
end Core
namespace PP
open PySem L2
section
variable {X : Cx} {a : Expr} {tk : aF} {σ : St} {H : Hp} {Q' : VK} {pos p2 : Pos}
noncomputable def xR (tk:aF):aF:=fun ρ Q=>tk ρ fun x _=>∃ n:Int,x = .int n/\Q (.dK [(Sum.inl n,.bl true)]) .fr
theorem aM0 (h:LE X (xR tk) σ H Q'):G2 [(LE X tk,tC (.bl true))] σ H Q':=by
 obtain ⟨W,ρ,Q,px,q,k⟩:=h
 intro p hp
 refine⟨W,ρ,_,px.mono (bK hp _),q,?_⟩
 rintro v H1 x g s r ⟨n,rfl,q1⟩
 cases r
 have hp1:H1 p=some (.dK []):=s p _ bM
 refine⟨hp1,[((Sum.inl n:aJ),V.bl true)],rfl,by show 1<=15; decide,?_⟩
 have sm:aD H (upd H1 p (.dK (mJ [] [((Sum.inl n:aJ),V.bl true)]))):=fun b o e=>by
  have nb:b ≠ p:=fun z=>by rw [z,hp] at e; cases e
  rw [b7 nb]
  exact s b o (by rw [b7 nb]; exact e)
 exact k _ _ _ .fr sm (.dK hp bM rfl (.cons (.bl true) .nil)) q1
theorem aM1 {j:Nat} (ha:QE X a tk):QE X (.Dict [some a] [.Constant (.bool true) j p2] pos) (xR tk):=
 cE (aq5 (aq4 ha zA aq3) rfl rfl (by simp) (by show 1<=15; decide)) fun _ _ _=>aM0
theorem aM2 (hN:X.N.Nodup) (i j:Nat) {x y:Str}{apos cpos xpos:Pos} (hi:X.N[i]? = some x:=by rfl) (hj:X.N[j]? = some y:=by rfl) (hv:gW X.env.scope x:=by first | exact Or.inl rfl | exact Or.inr (Or.inl rfl) | exact Or.inr (Or.inr rfl)) (hd:(x == ("__debug__" : Str))=false:=by decide) (hcd:(x == ("__classdict__" : Str))=false:=by decide)
  (hbase:attributeBase (.Name x xpos) "pop" X.env (eval (.Name x xpos) X.env)=eval (.Name x xpos) X.env:=by rfl) (hline:(apos.endLine == cpos.line)=true:=by rfl)
  (hx:gX X.env.scope y:=by first | exact Or.inl rfl | exact Or.inr rfl) (hs:swapsWith (.Call (.Attribute (.Name x xpos) "pop" apos) [] [] cpos) (some (.Name y p2)) pos.line X.env=pure false:=by rfl) (hf:X.fn y=true ∨ X.env.scope.names.lookup y=some .local:=by first | exact .inl rfl | exact .inr rfl) :
  QS X (.Assign [.Name y p2] (.Call (.Attribute (.Name x xpos) "pop" apos) [] [] cpos) pos) (vY i j):=
 dN (tY hN hj hx (ao7 bi6 PySem.F.slot_list_pop PySem.F.type_list_pop ap0 (jG hi hv hd hcd) hbase hline) hs hf) fun _ _ _=>ax9
end
end PP
namespace Core
open PySem L2 PP
noncomputable def gU (R:List Int):List (aJ × PV):=R.map fun x=>((Sum.inl x:aJ),PV.bl true)
theorem V7 (R:List Int):(gU R).map (·.1)=R.map (Sum.inl:Int->aJ):=by unfold gU; rw [bi4]; rfl
theorem aM3 (R:List Int):(gU R).length=R.length:=by unfold gU; rw [bb8]
theorem aM4 (R:List Int) (n:Int):(dA (gU R) (Sum.inl n:aJ)).isSome=decide (n ∈ R):=by
 rw [<- sH,bk3,List.any_eq_true,bm6]
 unfold gU
 refine⟨fun ⟨p,hp,e⟩=>?_,fun h=>⟨_,bd6.mpr ⟨n,h,rfl⟩,bc0 rfl⟩⟩
 obtain ⟨x,hx,rfl⟩:=bd6.mp hp
 have e:(Sum.inl x:aJ)=Sum.inl n:=bi0 e
 rw [<- Sum.inl.inj e]; exact hx
theorem aM5 {R:List Int}{y:Int} (h:y ∉ R):fQ (gU R) (Sum.inl y:aJ) (.bl true)=gU (R ++ [y]):=by
 rw [aJ5 (V7 R) h]
 unfold gU
 rw [bd8]; rfl
structure xS (n:Nat) (ls:List (Int × Int)) (S P:List Int):Prop where
 set:bE n P=true
 ne:P ≠ []
 sub:∀ x ∈ P,x ∈ S
 shut:∀ x ∈ P,∀ y ∈ aO ls x,y ∈ S->y ∈ P
 got:∀ h ∈ S.head?,h ∈ P
 least:∀ U:List Int,(∀ x ∈ U,∀ y ∈ aO ls x,y ∈ S->y ∈ U)->(∀ h ∈ S.head?,h ∈ U)->∀ x ∈ P,x ∈ U
noncomputable def sW:bH:=fun xs Q=>∃ ws ls S,xs = [.lst (cU ws.length ls),.tup (intz S)]/\Wb ws ls/\bE ws.length S=true/\S ≠ []/\∀ P,xS ws.length ls S P->Q (.tup (intz P))
noncomputable def V8:aK:=(aE (b6 2 (aB nH (a6 (a5 1) a9)))
 (aE (e9 3 (xR (aX (a5 1) (qC (.int 0)))))
 (aE (e9 4 (dL (a6 (aX (a5 1) (qC (.int 0))) a9)))
 (aE (mR (mT (a5 4))
  (aE (vY 4 5)
  (eJ (dM (aX (a5 0) (a5 5))) (bZ 6)
   (cB (rJ (b9 (lT false (a5 6) (a5 2))) (b9 (lT true (a5 6) (a5 3)))) (aE (rQ 3 (a5 6) (qC (.bl true)))
    (i4 4 (a5 6))) cD))))
 (bG (aB iZ (a6 (aB xB (a6 (a5 3) a9)) a9)))))))
structure V9 (ls:List (Int × Int)) (S R W:List Int) (E:Int->Prop):Prop where
 nd:R.Nodup
 ne:R ≠ []
 sub:∀ x ∈ R,x ∈ S
 wait:∀ x ∈ W,x ∈ R
 shut:∀ x ∈ R,x ∉ W->¬ E x->∀ y ∈ aO ls x,y ∈ S->y ∈ R
 got:∀ h ∈ S.head?,h ∈ R
 least:∀ U:List Int,(∀ x ∈ U,∀ y ∈ aO ls x,y ∈ S->y ∈ U)->(∀ h ∈ S.head?,h ∈ U)->∀ x ∈ R,x ∈ U
theorem aM6:cF V8 ["around","hearths","inside","reached","waiting","hearth","other"] sW:=by
 rintro xs Q ⟨ws,ls,S,rfl,wb,hS,hne,q⟩
 have few:=wb.few
 have most:=wb.most
 have sl:=sJ hS
 have snd:S.Nodup:=(gI (fV hS).1).imp fun h=>bm7 h
 obtain ⟨s0,sr,rfl⟩:∃ s0 sr,S=s0 :: sr:=by
  cases S with
  | nil=>exact absurd rfl hne
  | cons a r=>exact⟨a,r,rfl⟩
 have i0:L2.atI (intz (s0 :: sr)) (0:Int)=some (.int s0):=jM (xs:=intz (s0 :: sr)) (j:=0) rfl
 generalize hSS:s0 :: sr=S at *
 have m0:s0 ∈ S:=by rw [<- hSS]; exact bc6
 have hd:∀ h,h ∈ S.head? ↔ h=s0:=fun h=>by rw [<- hSS]; exact⟨fun z=>by cases z; rfl,fun z=>by rw [z]; rfl⟩
 refine⟨_,rfl,_,S,rfl,.inl rfl,by omega,fun pm dm=>⟨trivial,?_⟩⟩
 refine⟨_,rfl,_,_,_,rfl,rfl,i0,s0,rfl,rfl,rfl,?_⟩
 refine⟨_,rfl,_,_,_,rfl,rfl,i0,by show 1<=1000; decide,rfl,rfl,rfl,?_⟩
 refine⟨fun n ρ=>∃ (R W:List Int) (y5 y6:Option Slot),ρ = [some (.sh (flat (.lst (cU ws.length ls))) (.lst (cU ws.length ls))),some (.sh (flat (.tup (intz S))) (.tup (intz S))),some (.sh true (.dK pm)),some (.own (.dK (gU R))),some (.own (.lst (intz W))),y5,y6]/\
   n=2 * (S.length - R.length)+W.length/\n<=2 * S.length/\V9 ls S R W fun _=>False,⟨_,[s0],[s0],none,none,rfl,rfl,by rw [<- hSS]; simp; omega,be8 _ _,(fun z=>nomatch z),(fun x hx=>by rw [bc1.mp hx]; exact m0),fun _ h=>h,fun x hx hw=>absurd hx hw,fun h hh=>bc1.mpr ((hd h).mp hh),fun U _ hU x hx=>by rw [bc1.mp hx]; exact hU s0 ((hd s0).mpr rfl)⟩,?_⟩
 rintro n ρ ⟨R,W,y5,y6,rfl,rfl,bd,wy⟩
 refine⟨_,rfl,_,rfl,?_⟩
 have rl:R.length<=S.length:=wy.nd.length_le_of_subset wy.sub
 rcases List.eq_nil_or_concat W with hW | ⟨W',h,hW⟩
 ·subst hW
  refine bB ⟨_,rfl,_,R,rfl,V7 R,by omega,fun ms pm so=>⟨⟨_,_,rfl,rfl,eF _,trivial,q ms ⟨?_,?_,?_,?_,fun h hh=>pm.mem_iff.mpr (wy.got h hh),fun U hU hh x hx=>wy.least U hU hh x (pm.mem_iff.mp hx)⟩⟩,fun ns z=>by cases z⟩⟩
  ·have nd:ms.Nodup:=pm.nodup_iff.mpr wy.nd
   have up:ms.Pairwise (· < ·):=(List.Pairwise.and so nd).imp fun z=>Int.lt_iff_le_and_ne.mpr ⟨z.1,z.2⟩
   have u:pI (ws.length:Int) ms:=⟨up,fun x hx=>(fV hS).2 x (wy.sub x (pm.mem_iff.mp hx)),by rw [pm.length_eq]; omega⟩
   exact u.set
  ·intro z; rw [z] at pm; exact wy.ne (List.nil_perm.mp pm)
  ·exact fun x hx=>wy.sub x (pm.mem_iff.mp hx)
  ·exact fun x hx y hy hyS=>pm.mem_iff.mpr (wy.shut x (pm.mem_iff.mp hx) (fun z=>nomatch z) (fun z=>z) y hy hyS)
 ·have hW:W=W' ++ [h]:=by rw [hW]; simp
  subst hW
  have hR:h ∈ R:=wy.wait h (by simp)
  have hb:=(fV hS).2 h (wy.sub h hR)
  have nz:(!(intz (W' ++ [h])).isEmpty)=true:=by rw [fU]; cases W' <;> rfl
  show if (!(intz (W' ++ [h])).isEmpty)=true then _ else _
  rw [nz]
  refine bD ⟨intz W',.int h,by rw [fU]; rfl,?_⟩
  refine⟨_,rfl,_,rfl,_,_,_,rfl,rfl,wX hb.1 hb.2,_,rfl,(fun z=>by cases z),fun j ρ=>∃ (R2 W2:List Int) (y6:Option Slot),ρ = [some (.sh (flat (.lst (cU ws.length ls))) (.lst (cU ws.length ls))),some (.sh (flat (.tup (intz S))) (.tup (intz S))),some (.sh true (.dK pm)),some (.own (.dK (gU R2))),some (.own (.lst (intz W2))),si h,y6]/\
    2 * (S.length - R2.length)+W2.length < 2 * (S.length - R.length)+(W' ++ [h]).length/\V9 ls S R2 W2 (fun x=>x=h)/\h ∈ R2/\∀ y ∈ (aO ls h).take j,y ∈ S->y ∈ R2,
    ⟨R,W',y6,rfl,by rw [bd3,bf6]; omega,⟨wy.nd,wy.ne,wy.sub,fun x hx=>wy.wait x (bf7 _ hx),fun x hx hw he=>wy.shut x hx (fun z=>(bc9.mp z).elim hw fun z=>he (bc1.mp z)) fun z=>z,wy.got,wy.least⟩,hR,fun y hy=>by rw [List.take_zero] at hy; cases hy⟩,?_,?_⟩
  ·rintro j y ρ hy ⟨R2,W2,y6,rfl,lt,wy2,hR2,seen⟩
   obtain ⟨o,rfl,ho⟩:=j4 hy
   have rl2:R2.length<=S.length:=wy2.nd.length_le_of_subset wy2.sub
   have tk:∀ y,y ∈ (aO ls h).take (j+1)->y ∈ (aO ls h).take j ∨ y=o:=fun y z=>by
    rw [bf8,ho] at z
    rcases bc9.mp z with z | z
    ·exact .inl z
    ·exact .inr (by simpa using z)
   refine i7 ?_
   refine⟨_,rfl,_,rfl,_,.inl ⟨pm,Sum.inl o,rfl,rfl,rfl⟩,_,rfl,?_⟩
   show if (dA pm (Sum.inl o:aJ)).isSome=true then _ else _
   rw [dm.has o]
   by_cases h1:o ∈ S
   ·rw [bc0 h1]
    refine bD ⟨_,rfl,_,rfl,_,.inl ⟨gU R2,Sum.inl o,rfl,rfl,rfl⟩,_,rfl,?_⟩
    show if (!(dA (gU R2) (Sum.inl o:aJ)).isSome)=true then _ else _
    rw [aM4]
    by_cases h2:o ∈ R2
    ·rw [bc0 h2]
     exact bB ⟨R2,W2,si o,rfl,lt,wy2,hR2,fun y z zS=>(tk y z).elim (fun z=>seen y z zS) fun e=>by rw [e]; exact h2⟩
    ·rw [bc3 h2]
     have nd3:(R2 ++ [o]).Nodup:=bm8.mpr ⟨wy2.nd,be8 _ _,fun a ha b hb e=>h2 (by rw [bc1.mp hb] at e; rw [<- e]; exact ha)⟩
     have sub3:∀ x ∈ R2 ++ [o],x ∈ S:=fun x hx=>(bc9.mp hx).elim (wy2.sub x) fun z=>by rw [bc1.mp z]; exact h1
     have l3:(R2 ++ [o]).length<=S.length:=nd3.length_le_of_subset sub3
     rw [bd3,bf6] at l3
     refine bD ⟨_,rfl,_,rfl,Sum.inl o,rfl,trivial,by rw [aM3]; omega,?_⟩
     rw [aM5 h2]
     refine⟨_,rfl,_,rfl,trivial,by rw [bO]; omega,R2 ++ [o],W2 ++ [o],si o,?_,?_,⟨nd3,(fun z=>by simp at z),sub3,fun x hx=>?_,fun x hx hw he y hy yS=>?_,fun h hh=>bf7 _ (wy2.got h hh),fun U hU hh x hx=>(bc9.mp hx).elim (wy2.least U hU hh x) fun z=>by rw [bc1.mp z]; exact hU h (wy2.least U hU hh h hR2) o (bc2 ho) h1⟩,bf7 _ hR2,fun y z zS=>?_⟩
     ·rw [fU]; rfl
     ·simp only [bd3,bf6] at lt ⊢; omega
     ·rcases bc9.mp hx with z | z
      ·exact bf7 _ (wy2.wait x z)
      ·exact bf2 _ z
     ·rcases bc9.mp hx with z | z
      ·exact bf7 _ (wy2.shut x z (fun z=>hw (bf7 _ z)) he y hy yS)
      ·exact absurd (bf2 _ z) hw
     ·rcases tk y z with z | e
      ·exact bf7 _ (seen y z zS)
      ·rw [e]; exact bf2 _ (bc1.mpr rfl)
   ·rw [bc3 h1]
    exact bB (bB ⟨R2,W2,si o,rfl,lt,wy2,hR2,fun y z zS=>(tk y z).elim (fun z=>seen y z zS) fun e=>absurd (e ▸ zS) h1⟩)
  ·rintro ρ ⟨R2,W2,y6,rfl,lt,wy2,hR2,seen⟩
   rw [bO,bj4] at seen
   refine⟨_,lt,R2,W2,si h,y6,rfl,rfl,by omega,wy2.nd,wy2.ne,wy2.sub,wy2.wait,fun x hx hw _ y hy yS=>?_,wy2.got,wy2.least⟩
   by_cases e:x=h
   ·subst e; exact seen y hy yS
   ·exact wy2.shut x hx hw e y hy yS
noncomputable def W0 (Ep:Str->Prop):aK:=(aE (b6 2 (aB iH (a6 (a5 0) a9)))
 (aE (b6 3 (xF Ep sT (a6 (a5 0) (a6 (a5 1) a9))))
 (aE (e9 4 (dL a9))
 (aE (mR (mT (a5 3))
  (aE (b6 5 (aB sW (a6 (a5 2) (a6 (a5 3) a9))))
  (aE (i4 4 (a5 5))
  (b6 3 (aB nI (a6 (a5 3) (a6 (a5 5) a9)))))))
 (iT 4)))))
theorem aM7 (n:Nat):rng (n+1)=rng n ++ [(n:Int)]:=by
 unfold rng; rw [List.range_succ,bd8]; rfl
theorem sX (n:Nat) (a:Int):(List.replicate n [PV.int a]).flatten=intz (List.replicate n a):=by
 induction n with
 | zero=>rfl
 | succ n ih=>rw [bg4,bg4,bl2,ih]; rfl
section
variable {ws : List Int} {ls : List (Int × Int)}
noncomputable def cne (ws:List Int) (ls:List (Int × Int)) (S:List Int):Bool:=!decide (S = []) && decide (stay ws ls S=S)
end
theorem m7 {b:Bool}{A B:Prop} (a:A) (c:B):if b=true then A else B:=by
 cases b with
 | true=>exact bD a
 | false=>exact bB c
noncomputable def far (ns S:List Int):Bool:=decide (((S.filter fun x=>decide (x ∈ ns)).length:Int)=0)
noncomputable def dY (ls:List (Int × Int)) (S U:List Int):Prop:=∀ x ∈ U,∀ y ∈ aO ls x,y ∈ S->y ∈ U
noncomputable def comp (ls:List (Int × Int)) (S:List Int) (h:Int):List Int:=S.filter fun x=>@decide (∀ U:List Int,dY ls S U->h ∈ U->x ∈ U) (Classical.propDecidable _)
section
variable {ws : List Int} {ls : List (Int × Int)} {S : List Int} {n : Nat} {h x : Int}
theorem gK:x ∈ comp ls S h ↔ x ∈ S/\∀ U,dY ls S U->h ∈ U->x ∈ U:=by
 unfold comp
 rw [bd7]
 exact⟨fun z=>⟨z.1,@bi0 _ (Classical.propDecidable _) z.2⟩,fun z=>⟨z.1,@bc0 _ (Classical.propDecidable _) z.2⟩⟩
theorem pN:∀ x ∈ comp ls S h,x ∈ S:=fun x hx=>(gK.mp hx).1
theorem fI (hh:h ∈ S):h ∈ comp ls S h:=gK.mpr ⟨hh,fun _ _ z=>z⟩
theorem i8:dY ls S (comp ls S h):=fun x hx y hy yS=>gK.mpr ⟨yS,fun U hU z=>hU x ((gK.mp hx).2 U hU z) y hy yS⟩
theorem gL (hS:bE n S=true):bE n (comp ls S h)=true:=sQ hS _
theorem aM8 {P:List Int} (hS:bE n S=true) (hP:bE n P=true) (hs:∀ x ∈ P,x ∈ S) (hh:h ∈ P) (sh:dY ls S P) (le:∀ U,dY ls S U->h ∈ U->∀ x ∈ P,x ∈ U):P=comp ls S h:=
 U2 hP (gL hS) fun x=>⟨fun hx=>gK.mpr ⟨hs x hx,fun U hU z=>le U hU z x hx⟩,fun hx=>(gK.mp hx).2 P sh hh⟩
theorem kD (hS:bE n S=true) (hx:x ∈ comp ls S h) (hh:h ∈ S):comp ls S x=comp ls S h:=by
 have back:h ∈ comp ls S x:=by
  refine gK.mpr ⟨hh,fun U hU xU=>?_⟩
  refine bi9 fun hn=>?_
  have sv:dY ls S (S.filter fun z=>!decide (z ∈ U)):=fun a ha b hb bS=>by
   rw [bd7] at ha ⊢
   refine⟨bS,?_⟩
   by_cases bU:b ∈ U
   ·have:=hU b bU a (jU hb) ha.1
    rw [bc0 this] at ha; exact absurd ha.2 (by decide)
   ·rw [bc3 bU]; rfl
  have:=(gK.mp hx).2 _ sv (bd7.mpr ⟨hh,by rw [bc3 hn]; rfl⟩)
  rw [bd7,bc0 xU] at this
  exact absurd this.2 (by decide)
 exact U2 (gL hS) (gL hS) fun y=>⟨fun hy=>(gK.mp hy).2 _ i8 hx,fun hy=>(gK.mp hy).2 _ i8 back⟩
theorem j7 {L:List Int}{a:Int} (hL:bE n L=true) (ha:L.head? = some a):a ∈ L/\∀ x ∈ L,a=x ∨ a < x:=by
 cases L with
 | nil=>cases ha
 | cons b r=>
  cases ha
  refine⟨bc6,fun x hx=>?_⟩
  rcases bd0.mp hx with e | hx
  ·exact .inl e.symm
  ·exact .inr ((bk2.mp (gI (fV hL).1)).1 x hx)
theorem xT {L:List Int}{a:Int} (hL:bE n L=true) (ha:a ∈ L) (hl:∀ x ∈ L,a<=x):L.head? = some a:=by
 cases L with
 | nil=>cases ha
 | cons b r=>
  rcases bd0.mp ha with e | e
  ·rw [e]; rfl
  ·have h1:=(bk2.mp (gI (fV hL).1)).1 a e
   have h2:=hl b bc6
   omega
noncomputable def pO (ls:List (Int × Int)) (S:List Int) (h:Int):Bool:=decide ((comp ls S h).head? = some h)
noncomputable def aV (ls:List (Int × Int)) (S:List Int):List Int:=S.filter (pO ls S)
theorem W5 {A B:List Int} (ua:A.Pairwise (· < ·)) (ub:B.Pairwise (· < ·)) (h:∀ x,x ∈ A ↔ x ∈ B):A=B:=
 x4 ((List.perm_ext_iff_of_nodup (ua.imp fun z=>bm7 z) (ub.imp fun z=>bm7 z)).mpr h) (ua.imp fun z=>Int.le_of_lt z) (ub.imp fun z=>Int.le_of_lt z)
theorem aM9 {L:List Int}{a:Int} (hS:bE n S=true) (hL:bE n L=true) (sub:∀ x ∈ L,x ∈ S) (ha:L.head? = some a) (pl:∀ x ∈ comp ls S a,x ∈ L)
  (lt:∀ h ∈ (aV ls S).filter (fun z=>!decide (z ∈ L)),∀ x ∈ L,h < x) :
  (aV ls S).filter (fun z=>!decide (z ∈ L.filter fun z=>!decide (z ∈ comp ls S a)))=(aV ls S).filter (fun z=>!decide (z ∈ L)) ++ [a]:=by
 obtain ⟨aL,al⟩:=j7 hL ha
 have aS:=sub a aL
 have hu:(aV ls S).Pairwise (· < ·):=gI (fV (sQ hS (pO ls S))).1
 have hd:(comp ls S a).head? = some a:=xT (gL hS) (fI aS) fun x hx=>by rcases al x (pl x hx) with e | e <;> omega
 refine W5 (hu.sublist List.filter_sublist) (List.pairwise_append.mpr ⟨hu.sublist List.filter_sublist,be8 _ _,fun x hx y hy=>by rw [bc1.mp hy]; exact lt x hx a aL⟩) fun x=>?_
 simp only [bc9,bc1,bd7,Bool.not_eq_true',decide_eq_false_iff_not,not_and,Decidable.not_not]
 constructor
 ·rintro ⟨hx,hn⟩
  by_cases xL:x ∈ L
  ·refine .inr ?_
   have xc:=hn xL
   have h1:(comp ls S x).head? = some x:=bi0 (bd7.mp hx).2
   rw [kD hS xc aS,hd] at h1
   cases h1; rfl
  ·exact .inl ⟨hx,xL⟩
 ·rintro (⟨hx,xL⟩ | rfl)
  ·exact⟨hx,fun z=>absurd z xL⟩
  ·exact⟨bd7.mpr ⟨aS,bc0 hd⟩,fun _=>fI aS⟩
theorem xS.comp {L P:List Int}{a:Int} (hS:bE n S=true) (sub:∀ x ∈ L,x ∈ S) (sh:dY ls S L) (ha:L.head? = some a) (pc:xS n ls L P):P=comp ls S a:=by
 have ea:∀ z,z ∈ L.head?->z=a:=fun z hz=>by rw [ha] at hz; cases hz; rfl
 exact aM8 hS pc.set (fun x hx=>sub x (pc.sub x hx)) (pc.got a ha) (fun x hx y hy yS=>pc.shut x hx y hy (sh x (pc.sub x hx) y hy yS))
  fun U hU aU=>pc.least U (fun x hx y hy yL=>hU x hx y hy (sub y yL)) fun z hz=>by rw [ea z hz]; exact aU
end
noncomputable abbrev aN0:=W0
noncomputable def iJ (ls:List (Int × Int)) (S:List Int):List (List Int):=(aV ls S).map (comp ls S)
noncomputable def sY:fW:=aL8 fun ws ls S Q=>Q (.lst (tups (iJ ls S)))
theorem aN1:xN W0 ["web","block","around","left","pieces","piece"] sY:=by
 rintro Ep xs Q ⟨ws,ls,x,S,rfl,wb,hx,hl,q,qe⟩
 have few:=wb.few
 refine⟨_,rfl,ws,ls,rfl,wb,trivial,?_⟩
 refine⟨_,rfl,_,rfl,ws,ls,x,S,rfl,hx,hl,fun hs=>⟨trivial,?_⟩,qe⟩
 have q:Q (.lst (tups (iJ ls S))):=q hs
 have sl:=sJ hs
 refine⟨by decide,rfl,rfl,rfl,?_⟩
 refine⟨fun n ρ=>∃ (L:List Int) (Ps:List (List Int)) (y5:Option Slot),ρ = [some (.sh (flat (bF ws ls)) (bF ws ls)),some (.sh (flat x) x),some (.sh true (.lst (cU ws.length ls))),some (.sh true (.tup (intz L))),some (.own (.lst (tups Ps))),y5]/\
   n=L.length/\bE ws.length L=true/\Ps.length+L.length<=S.length/\(∀ x ∈ L,x ∈ S)/\dY ls S L/\Ps=((aV ls S).filter fun z=>!decide (z ∈ L)).map (comp ls S)/\∀ h ∈ (aV ls S).filter (fun z=>!decide (z ∈ L)),∀ x ∈ L,h < x,⟨_,S,[],none,rfl,rfl,hs,by simp,fun _ h=>h,fun _ _ _ _ h=>h,?_,?_⟩,?_⟩
 ·rw [List.filter_eq_nil_iff.mpr fun z hz=>?_]; rfl
  rw [bc0 (bd7.mp hz).1]; decide
 ·intro h hh
  have:=bd7.mp hh
  rw [bc0 (bd7.mp this.1).1] at this
  exact absurd this.2 (by decide)
 rintro n ρ ⟨L,Ps,y5,rfl,rfl,lset,bd,sub,sh,eP,lt⟩
 refine⟨_,rfl,_,rfl,?_⟩
 cases hL:L with
 | nil=>
  refine bB ⟨_,rfl,trivial,?_⟩
  have e:(aV ls S).filter (fun z=>!decide (z ∈ L))=aV ls S:=List.filter_eq_self.mpr fun z _=>by rw [hL]; rfl
  rw [e] at eP
  rw [eP]; exact q
 | cons a r=>
  rw [<- hL]
  have ne:(!(intz L).isEmpty)=true:=by rw [hL]; rfl
  have nl:L ≠ []:=by rw [hL]; exact fun z=>nomatch z
  have hd:L.head? = some a:=by rw [hL]; rfl
  show if (!(intz L).isEmpty)=true then _ else _
  rw [ne]
  refine bD ?_
  have ll:=sJ lset
  refine⟨_,rfl,_,rfl,ws,ls,L,rfl,wb,lset,nl,fun P pc=>⟨trivial,?_⟩⟩
  have pn:P.Nodup:=(gI (fV pc.set).1).imp fun h=>bm7 h
  have pl:P.length<=L.length:=pn.length_le_of_subset pc.sub
  refine⟨_,rfl,_,rfl,trivial,by rw [sI]; omega,?_⟩
  refine⟨_,rfl,_,rfl,_,L,_,P,rfl,.inl rfl,.inl rfl,by omega,by omega,trivial,?_⟩
  have aP:=pc.got a hd
  obtain ⟨aL,al⟩:=j7 lset hd
  have lt2:(L.filter fun z=>!decide (z ∈ P)).length < L.length:=by
   rcases Nat.lt_or_ge (L.filter fun z=>!decide (z ∈ P)).length L.length with z | z
   ·exact z
   ·have:=List.filter_eq_self.mp (List.filter_sublist.eq_of_length_le z) a aL
    rw [bc0 aP] at this; cases this
  have ec:=pc.comp hs sub sh hd
  have hn:=aM9 hs lset sub hd (fun x hx=>pc.sub x (by rw [ec]; exact hx)) lt
  rw [<- ec] at hn
  refine⟨_,lt2,L.filter (fun z=>!decide (z ∈ P)),Ps ++ [P],some (.sh true (.tup (intz P))),?_,rfl,sQ lset _,by rw [bd3,bf6]; omega,fun x hx=>sub x (bd7.mp hx).1,?_,?_,?_⟩
  ·unfold tups
   rw [bd8]; rfl
  ·intro x hx y hy yS
   rw [bd7] at hx ⊢
   refine⟨sh x hx.1 y hy yS,?_⟩
   by_cases yP:y ∈ P
   ·have:=pc.shut y yP x (jU hy) hx.1
    rw [bc0 this] at hx; exact absurd hx.2 (by decide)
   ·rw [bc3 yP]; rfl
  ·rw [hn,bd8,<- eP,ec]; rfl
  ·rw [hn]
   intro h hh x hx
   rw [bd7] at hx
   rcases bc9.mp hh with hh | hh
   ·exact lt h hh x hx.1
   ·rw [bc1.mp hh]
    rcases al x hx.1 with e | e
    ·rw [<- e,bc0 aP] at hx; exact absurd hx.2 (by decide)
    ·exact e
end Core
namespace PP
open PySem L2
section
variable {X : Cx} {a b : Expr} {ta tb : aF} {pos : Pos}
noncomputable def xV:PV->Tg->PV->Tg->PK->Prop:=fun x _ y _ Q=>∃ (i:Int) (o:Option Int),x = .int i/\y=Core.i6 o/\Q (.bl (!decide (o=some i))) .fr
theorem aN2:eS X xV u7:=by
 rintro W Hs H u v x y g g' Q Q' s n r1 r2 ⟨i,o,rfl,rfl,q⟩ k
 cases r1
 cases o with
 | none=>
  cases r2
  exact⟨rfl,k _ _ _ .fr (aD.refl _) (.bl true) q⟩
 | some j=>
  cases r2
  have e:decide (V.int i=V.int j)=decide (some j=some i):=decide_eq_decide.mpr ⟨fun z=>by cases z; rfl,fun z=>by cases z; rfl⟩
  refine⟨rfl,?_⟩
  rw [e]
  exact k _ _ _ .fr (aD.refl _) (.bl _) q
theorem aN3 (ha:QE X a ta) (hb:QE X b tb):QT X (.Compare a [.NotEq] [b] pos) (b9 (q2 xV ta tb)):=iF A3 aN2 ha hb (eO _)
end
end PP
namespace Core
open PySem L2 PP
noncomputable def W6 (ws:List Int) (ls:List (Int × Int)):List Int->List Int->Bool
 | _,[]=>true
 | B,h :: R=>inB ws.length h && (kin ws ls B h && W6 ws ls (B ++ [h]) R)
noncomputable def gV:bH:=fun xs Q=>∃ a k:Int,xs = [.int a,.int k]/\0<=k/\k<=1000/\∀ z,0<=z->Q (.int z)
noncomputable def W7:aK:=(aE (b6 2 (bT (bN (bN (bN (bT (a5 0) (qC (.int 2147483647))) (oV (oV (qC (.int 69621)) (a5 1)) (a5 1))) (oV (qC (.int 40692)) (a5 1))) (qC (.int 1))) (qC (.int 2147483647))))
 (aE (b6 2 (bT (oV (a5 2) (qC (.int 48271))) (qC (.int 2147483647))))
 (bG (bT (oV (a5 2) (a5 2)) (qC (.int 2147483647))))))
theorem aN4:cF W7 ["number","k","turn"] gV:=by
 rintro xs Q ⟨a,k,rfl,k0,k1,q⟩
 have big:(0:Int) < 2147483647:=by decide
 refine⟨_,rfl,_,_,rfl,rfl,big,_,rfl,_,_,rfl,rfl,.inl ⟨by decide,by decide⟩,_,rfl,_,_,rfl,rfl,.inr ⟨by show -(2 ^ 64) < k; omega,by show k < 2 ^ 64; omega⟩,_,_,rfl,rfl,_,rfl,_,_,rfl,rfl,.inl ⟨by decide,by decide⟩,_,_,rfl,rfl,_,_,rfl,rfl,_,_,rfl,rfl,big,trivial,?_⟩
 refine⟨_,rfl,_,_,rfl,rfl,.inr ⟨by decide,by decide⟩,_,_,rfl,rfl,big,trivial,?_⟩
 dsimp only
 have t0:0<=(a % 2147483647+69621 * k * k+40692 * k+1) % 2147483647 * 48271 % 2147483647:=bh3 _ (by decide)
 have t1:(a % 2147483647+69621 * k * k+40692 * k+1) % 2147483647 * 48271 % 2147483647 < 2147483647:=bm0 _ (by decide)
 generalize (a % 2147483647+69621 * k * k+40692 * k+1) % 2147483647 * 48271 % 2147483647=t at t0 t1
 exact⟨_,rfl,_,rfl,_,_,rfl,rfl,.inl ⟨by show -(2 ^ 64) < t; omega,by show t < 2 ^ 64; omega⟩,_,_,rfl,rfl,big,trivial,q _ (bh3 _ (by decide))⟩
noncomputable def sZ:bH:=fun xs Q=>∃ (ns:List Int) (most:Int),xs = [.scr ns,.int most]/\0<=most/\∀ z,0<=z->z<=most->Q (.int z)
noncomputable def W8:aK:=(aE (b6 2 (aB dS (a6 (a5 0) (a6 (qC (.int 0)) a9))))
 (aE (cB (b9 (iY (bT (a5 2) (qC (.int 3))) (qC (.int 0)))) (bG (aB mS (a6 (a5 1) (a6 (aB kN (a6 (qC (.int 0)) (a6 (gQ (aB cP (a6 (a5 0) a9)) (qC (.int 4))) a9))) a9)))) cD)
 (aE (cB (b9 (iY (bT (a5 2) (qC (.int 8))) (qC (.int 1)))) (bG (bT (bN (fR (a5 2) (qC (.int 24))) (qC (.int 5))) (bN (a5 1) (qC (.int 1))))) cD)
 (bG (bT (bN (fR (a5 2) (qC (.int 3))) (qC (.int 2))) (bN (aB mS (a6 (qC (.int 6)) (a6 (a5 1) a9))) (qC (.int 1))))))))
theorem aN5:cF W8 ["script","most","number"] sZ:=by
 rintro xs Q ⟨ns,most,rfl,hm,q⟩
 refine⟨_,rfl,_,ns,0,rfl,.inl rfl,by decide,trivial,?_⟩
 generalize ns.getD (0:Int).toNat 0=c
 refine⟨_,rfl,_,_,rfl,rfl,(by show (0:Int) < 3; decide),.inl ⟨_,_,rfl,rfl,_,rfl,m7 ?_ ?_⟩⟩
 ·refine⟨_,rfl,_,rfl,_,_,rfl,rfl,_,_,rfl,rfl,_,_,rfl,_,_,rfl,trivial,q _ ?_ ?_⟩ <;> split <;> split <;> omega
 refine⟨_,rfl,_,_,rfl,rfl,(by show (0:Int) < 8; decide),.inl ⟨_,_,rfl,rfl,_,rfl,m7 ?_ ?_⟩⟩
 ·have hp:0 < most+1:=by omega
  refine⟨_,rfl,_,_,rfl,rfl,⟨by decide,by decide⟩,_,_,rfl,rfl,_,rfl,_,_,rfl,rfl,_,_,rfl,rfl,hp,trivial,q _ (bh3 _ (by omega)) ?_⟩
  have:=bm0 (c / 24+5) hp
  omega
 ·have hp:0 < (if most < 6 then most else 6)+1:=by split <;> omega
  refine⟨_,rfl,_,_,rfl,rfl,⟨by decide,by decide⟩,_,_,rfl,rfl,_,rfl,_,_,rfl,_,_,rfl,rfl,_,_,rfl,rfl,hp,trivial,q _ (bh3 _ (by omega)) ?_⟩
  have:=bm0 (c / 3+2) hp
  have hm:(if most < 6 then most else 6)<=most:=by split <;> omega
  omega
theorem iK {ws:List Int}{j:Nat} (h:j < ws.length):L2.atI (intz ws) (j:Int)=some (.int (ws.getD j 0)):=by
 have gw:ws[j]? = some (ws.getD j 0):=by rw [bc7,bb9 h]; rfl
 exact jM (by rw [bd1,gw]; rfl)
theorem m9 {ws:List Int} (h:NN ws) (j:Nat):0<=ws.getD j 0:=by
 rw [bc7]
 cases hj:ws[j]? with
 | none=>exact Int.le_refl 0
 | some w=>exact h w (bc2 hj)
theorem aN6 (ns:List Int) (lo hi:Option Int):∃ zs:List Int,fF (intz ns) lo hi=intz zs/\zs.length<=ns.length:=by
 refine⟨(ns.drop (HT.aW (intz ns).length 0 lo)).take (HT.aW (intz ns).length (intz ns).length hi - HT.aW (intz ns).length 0 lo),?_,?_⟩
 ·unfold fF intz; rw [List.map_take,List.map_drop]
 ·rw [bj2,bk5]; omega
end Core
namespace PP
open PySem L2
section
variable {P : Program} {w : World} {K : PySem.W.Frag} {mg : Str → Option Value} {base : Heap} {k : Nat} {f : Addr} {fd : FuncData}
theorem aN7 (F:cZ P w K mg base dW k f fd ["web"] sN) (b:i9 K fd ["web"] []) (kp:PySem.W.keepIn K (.ref f)=true) (m:mg "_law_beside" = some (.ref f)):Df P w K mg base k "_law_beside" ["web"] Core.iH:=by
 refine⟨f,fd,F.imp fun vs H Q E h=>?_,b,kp,m⟩
 obtain ⟨xs,Qp,r,⟨ws,ls,rfl,wb,q⟩,k⟩:=h
 obtain ⟨v,rfl,r1⟩:=r.one
 have:=wb.few
 have:=wb.most
 refine⟨v,ws,ls,rfl,T5 r1,by omega,by omega,wb.links,fun t bs H' hb R=>k _ H' _ R.same (.lst R.new R.row ?_) q⟩
 have:=x3 (K:=K) (M:=fun a=>H a=none) (H:=H') (bs:=bs) (ls:=ls) 0 (fun b hb=>(R.news b hb).1) fun k b hk=>by rw [Nat.zero_add]; exact R.rows k b hk
 rw [hb,<- List.range_eq_range'] at this
 exact this
end
end PP
namespace Core
open PySem L2 PP
noncomputable abbrev W9:bH:=iH
section
variable {ws : List Int} {ls : List (Int × Int)} {ns S : List Int}
noncomputable def dZ (S:List Int) (h:Int):List Int:=S.filter fun z=>!decide (z ∈ [h])
theorem mB {h x:Int}:x ∈ dZ S h ↔ x ∈ S/\x ≠ h:=by unfold dZ; rw [bd7]; simp
theorem t4 {n:Nat}{h:Int} (hs:bE n S=true):bE n (dZ S h)=true:=sQ hs _
end
theorem aN8 (n:Nat):bE n (rng n)=true:=xQ.set ⟨xD n,fun x hx=>cT.mp hx⟩
end Core
namespace PP
open PySem L2
section
variable {X : Cx} {a b e o : Expr} {ta tb te to : aF} {tr : cO} {pos p2 apos cpos : Pos} {σ : St} {H : Hp} {Q' : VK}
noncomputable def xW:List PV->(PV->Prop)->Prop:=fun xs Q=>(∃ i,xs = [.int i]/\Q (.int i)) ∨ ∃ k,xs = [.bl k]/\Q (.int (if k then 1 else 0))
theorem aN9:fO X xW (fun xs H Q=>(∃ i,xs = [.int i]/\Q (.int i) H) ∨ ∃ k,xs = [.bl k]/\Q (.int (if k then 1 else 0)) H):=by
 rintro H vs xs Q Q' r (⟨i,rfl,q⟩ | ⟨i,rfl,q⟩) k
 ·obtain ⟨v,rfl,r1⟩:=r.one
  cases r1
  exact .inl ⟨i,rfl,k _ _ _ (aD.refl _) (.int _) q⟩
 ·obtain ⟨v,rfl,r1⟩:=r.one
  cases r1
  exact .inr ⟨i,rfl,k _ _ _ (aD.refl _) (.int _) q⟩
theorem aO0 (B:Bt X.mg) (ha:QA X [e] tr) (hg:Gl X "int":=by rfl) (he:starEach [e] X.env=(false,eval e X.env) :: starEach [] X.env:=by rfl) (hpl:(backTo pos (starEach [] X.env)).any (·.1)=false:=by rfl):QE X (.Call (.Name "int" p2) [e] [] pos) (aB xW tr):=
 wK al8 aN9 hg B.int PyProof.Rows.boot_int ha (he:=he) (hpl:=hpl)
end
section
variable {X : Cx} {a b e : Expr} {ta tb te : aF} {tr : cO} {pos : Pos} {σ : St} {H : Hp} {Q' : VK} {es : List Expr}
noncomputable def t5 (t:cO):aF:=fun ρ Q=>t ρ fun xs=>xs.length<=1000/\jX xs/\Q (.lst (xs.map (·.1))) .nw
theorem aO1 (h:LE X (t5 tr) σ H Q'):uE (LA X tr) σ H Q':=by
 obtain ⟨W,ρ,Q,px,q,k⟩:=h
 refine⟨W,ρ,_,px,q,?_⟩
 rintro vs H1 xs s1 r ⟨hl,n,q⟩
 refine⟨by rw [r.length]; exact oO hl,fun p hp=>k _ _ _ .nw (s1.trans (bK hp _)) (.lst (px.new (s1.free hp)) bM ?_) q⟩
 exact (jX.reps (vs:=vs) px n r).same (bK hp _) fun _ z=>z
theorem X0 (ha:QA X es tr):QE X (.List es pos) (t5 tr):=cE (qI ha) fun _ _ _=>aO1
end
end PP
namespace L2
open PySem PySem.Spec PyProof.Rows
noncomputable def X1 (K:PySem.W.Frag) (a:Addr) (n:Nat):It:=
 ⟨fun i H=>(∃ xs,aM K H a xs/\xs.length=n)/\i < n,fun i H x H'=>H'=H/\∀ xs,aM K H a xs->xs[n - 1 - i]? = some x,fun i H=>i=n⟩
theorem aO2 {P:Program}{w:World}{K:PySem.W.Frag}{tg:Expr} (a it:Addr) (n:Nat):jL P w K tg (X1 K a n) [it] it (fun i h=>h.IsRevIter it a ((n:Int) - 1 - (i:Int))):=by
 refine⟨by simp,fun i h st b hb=>?_,fun i h h' st k=>st.at fun o e=>k it (by simp) o e,?_,?_,fun _ _ _ _ _ st q=>wpAny_pyIter_revIter st q⟩
 ·obtain rfl:b=it:=by simpa using hb
  obtain ⟨o,e,c,d⟩:=st
  exact⟨o,e,fun v z=>by rw [d] at z; cases z⟩
 ·intro X hP hw hK hc i pins s σ H E I hf st hg
  subst hP hw hK
  obtain ⟨⟨xs,hq,hl⟩,hi⟩:=hg
  obtain ⟨its,rv,p,hz⟩:=I.list hq
  have lv:=rv.length
  have hx:xs[n - 1 - i]? = some (xs[n - 1 - i]'(by omega)):=bb9 (by omega)
  obtain ⟨u,hu,ru⟩:=rv.get hx
  obtain ⟨f0,f1,f2,f3,f4,f5⟩:=hf it (by simp)
  have e0:(n:Int) - 1 - (i:Int)=((n - 1 - i:Nat):Int):=by omega
  rw [e0] at st
  refine wpAny_pyNext_rev_item st p.isList (x:=u) (by simpa using hu) fun h' st' sb=>?_
  have I1:a8 X pins σ H { s with heap:=h' }:=I.turned (t':=s.toks) (fun b o hb e=>(sb.2 b hb).trans e) f0 f1 f3 f4 f5
  have e1:((n - 1 - i:Nat):Int) - 1=(n:Int) - 1 - ((i+1:Nat):Int):=by omega
  rw [e1] at st'
  obtain ⟨o,e,c,d⟩:=id st'
  exact⟨u,rfl,qB (s:={ s with heap:=h' }) e c d (by decide) ⟨_,H,I1,ru,⟨rfl,fun ys hy=>by rw [I.list_inj hy hq]; exact hx⟩,st',fun b hb=>(hf b hb).1⟩⟩
 ·intro X hP hw hK hc i pins s σ H E I hf st hg
  subst hP hw hK
  have hg:i=n:=hg
  subst hg
  obtain ⟨f0,f1,f2,f3,f4,f5⟩:=hf it (by simp)
  rw [show (i:Int) - 1 - (i:Int) = -1 by omega] at st
  exact wpAny_pyNext_rev_end (I.ok.hd hc) st fun h' eb=>⟨rfl,I.turned (t':=s.toks) (fun b o hb e=>eb b o hb e) f0 f1 f3 f4 f5⟩
section
variable {X : Cx}
noncomputable def X2 (K:PySem.W.Frag) (ta:TA):TI:=fun σ H R=>ta σ H fun vs H1=>∃ a xs,vs = [.ref a]/\aM K H1 a xs/\R (X1 K a xs.length) H1
theorem aO3 {tg:Expr}{a:Expr}{ta:TA}{p pos:Pos} (hg:Gl X "reversed") (hm:X.mg "reversed" = none) (ha:PA X [a] ta) (hs:starEach [a] X.env = [(false,eval a X.env)]:=by rfl) :
  PI X tg (.Call (.Name "reversed" p) [a] [] pos) (X2 X.K ta):=by
 intro pins s σ H R I h
 refine Call_ (jH I hg hm PyProof.Rows.boot_reversed (bi3 (aQ (ha pos pins s σ H _ I h) fun us s1 ⟨vs,H1,I1,r1,q1⟩=>?_) (by rw [hs]; rfl) (by rfl)))
 obtain ⟨a',xs,e,h1,q⟩:=q1
 subst e
 cases r1 with
 | cons r rr=>
  cases rr
  cases r
  obtain ⟨us,rv,p1,_⟩:=I1.list h1
  have lv:=rv.length
  refine call_reversed_list p1.isList ?_
  have st:∀ t:Nat,(s1.heap.push (revObj a' ((us.toArray.size:Int) - 1))).IsRevIter s1.heap.objs.size a' ((xs.length:Int) - 1 - (0:Nat)):=fun _=>by
   rw [bb6,<- lv]
   exact⟨_,be1 _ rfl,rfl,by rw [show (xs.length:Int) - 1 - (0:Nat)=(xs.length:Int) - 1 by omega]; rfl⟩
  refine wpAny_pyIter_revIter (st 0) ?_
  refine⟨s1.heap.objs.size,[s1.heap.objs.size],_,_,H1,rfl,I1.kept (t':=s1.toks) fun b o e=>bb7 _ e,aO2 a' _ xs.length,st 0,fun c hc=>?_,q⟩
  obtain rfl:c=s1.heap.objs.size:=by simpa using hc
  exact I1.fpOk (bc5 _) (I1.hok.fresh (bc5 _))
end
end L2
namespace PP
open PySem L2
section
variable {X : Cx} {σ : St} {H : Hp} {te : aF} {R : It → Hp → Prop} {a : Expr} {p2 pos : Pos}
noncomputable def xX (te:aF):fP:=fun ρ Q=>te ρ fun x g=>∃ xs,x = .lst xs/\g ≠ .rd/\Q xs.reverse (wC g xs)
theorem aO4 (h:LI X (xX te) σ H R):X2 X.K (iS (LE X te) kG) σ H R:=by
 obtain ⟨W,ρ,Q,px,q,k⟩:=h
 refine⟨W,ρ,_,px,q,?_⟩
 rintro v H1 x g s r ⟨xs,rfl,hg,q⟩
 have px1:=px.mono s
 have tw:∀ a,W a->∃ o,H1 a=some o/\jW o=true:=fun a z=>(px1.wm a z).2
 obtain ⟨a,us,rfl,m,ea,r⟩:=r.sqL
 have wa : ¬ W a:=by
  cases g with
  | fr=>exact (px.new m).1
  | nw=>exact m.1
  | sh=>exact m
  | rd=>exact absurd rfl hg
 have lr:=r.length
 have ha:∀ W' H',Ev W H1 W' H'->aM X.K H' a us:=fun W' H' e=>aM.of (e _ _ ea wa).1
 have rr:=oT px (fun z=>absurd z hg) r
 refine⟨a,us,rfl,aM.of ea,k _ _ _ _ s ⟨fun W' H' i e hi=>⟨⟨us,ha W' H' e,rfl⟩,?_⟩,fun W' H' i v H2 e y hi=>?_,fun W' H' e=>?_⟩ q⟩
 ·rw [List.length_reverse] at hi; omega
 ·rw [List.length_reverse] at hi
  obtain ⟨rfl,y⟩:=y
  obtain ⟨x,hx,rx⟩:=rr.get (y us (ha W' _ e))
  refine⟨aD.refl _,x,?_,rx.keep (e.keep tw)⟩
  rw [List.getElem?_reverse hi,<- lr]
  exact hx
 ·show xs.reverse.length=us.length
  rw [List.length_reverse]; omega
theorem aO5 {tg:Expr} (hm:X.mg "reversed" = none) (ha:QE X a te) (hg:Gl X "reversed":=by rfl) (hs:starEach [a] X.env = [(false,eval a X.env)]:=by rfl):QI X tg (.Call (.Name "reversed" p2) [a] [] pos) (xX te):=rV (aO3 hg hm (cY ha dO hs) hs) fun _ _ _=>aO4
end
end PP
namespace Core
open PySem L2 PP
noncomputable def j8 (n:Nat) (ps:List Int):Prop:=ps.length=n/\∀ w ∈ ps,0<=w
noncomputable def t6:bH:=fun xs Q=>∃ (ns:List Int) (m:Nat),xs = [.scr ns,.int m]/\ns.length<=63/\m<=40/\∀ ps,j8 m ps->Q (.lst (intz ps))
noncomputable def X3:aK:=(aE (e9 2 (dL a9))
 (aE (eJ (iV (a5 1)) (bZ 3)
  (aE (b6 4 (aB gV (a6 (aB dS (a6 (a5 0) (a6 (qC (.int 2)) a9))) (a6 (bN (a5 3) (qC (.int 30))) a9))))
  (aE (cB (b9 (lV (bN (qC (.int 4)) (a5 3)) (aB cP (a6 (a5 0) a9)))) (b6 4 (bN (fR (aX (a5 0) (bN (qC (.int 4)) (a5 3))) (qC (.int 11))) (aB dS (a6 (a5 0) (a6 (qC (.int 2)) a9))))) cD)
  (i4 2 (aX (dL (a6 (bT (a5 4) (qC (.int 3))) (a6 (bN (qC (.int 1)) (bT (a5 4) (qC (.int 9)))) (a6 (bT (a5 4) (oW (qC (.int 10)) (qC (.int 9)))) (a6 (bN (oW (qC (.int 10)) (qC (.int 20))) (bT (a5 4) (qC (.int 7)))) a9))))) (bT (fR (a5 4) (qC (.int 10))) (qC (.int 4))))))))
 (iT 2)))
theorem aO6:cF X3 ["script","many","prices","k","number"] t6:=by
 rintro xs Q ⟨ns,m,rfl,hl,hm,q⟩
 refine⟨by decide,rfl,rfl,rfl,?_⟩
 refine⟨_,rfl,(m:Int),rfl,by omega,by omega,fun i ρ=>∃ (ps:List Int) (y3 y4:Option Slot),ρ = [some (.sh (flat (.scr ns)) (.scr ns)),some (.sh (flat (.int (m:Int))) (.int (m:Int))),some (.own (.lst (intz ps))),y3,y4]/\j8 i ps,⟨[],none,none,rfl,rfl,by simp⟩,?_,?_⟩
 ·rintro i y ρ hy ⟨ps,y3,y4,rfl,gp⟩
  obtain ⟨rfl,hi⟩:=j5 hy
  rw [be5] at hi
  refine i7 ?_
  rw [bo8]
  refine⟨_,rfl,_,ns,2,rfl,.inl rfl,by decide,_,rfl,_,_,rfl,rfl,_,_,rfl,by omega,by omega,fun z z0=>⟨trivial,?_⟩⟩
  have tail:∀ c:Int,(i4 2 (aX (dL (a6 (bT (a5 4) (qC (.int 3))) (a6 (bN (qC (.int 1)) (bT (a5 4) (qC (.int 9)))) (a6 (bT (a5 4) (oW (qC (.int 10)) (qC (.int 9)))) (a6 (bN (oW (qC (.int 10)) (qC (.int 20))) (bT (a5 4) (qC (.int 7)))) a9))))) (bT (fR (a5 4) (qC (.int 10))) (qC (.int 4)))))
    { nx:=fun ρ=>∃ (ps:List Int) (y3 y4:Option Slot),ρ = [some (.sh (flat (.scr ns)) (.scr ns)),some (.sh (flat (.int (m:Int))) (.int (m:Int))),some (.own (.lst (intz ps))),y3,y4]/\j8 (i+1) ps,rt:=Q,ct:=fun ρ=>∃ (ps:List Int) (y3 y4:Option Slot),ρ = [some (.sh (flat (.scr ns)) (.scr ns)),some (.sh (flat (.int (m:Int))) (.int (m:Int))),some (.own (.lst (intz ps))),y3,y4]/\j8 (i+1) ps,bk:=(iT 2) { nx:=fun _=>Q .non,rt:=Q } }
    [some (.sh (flat (.scr ns)) (.scr ns)),some (.sh (flat (.int (m:Int))) (.int (m:Int))),some (.own (.lst (intz ps))),si i,si c]:=fun c=>by
   have j0:0<=c / 10 % 4:=bh3 _ (by decide)
   have j1:c / 10 % 4 < 4:=bm0 _ (by decide)
   have odd:∃ p:Int,0<=p/\L2.atI [PV.int (c % 3),.int (1+c % 9),.int (c % 10 ^ (9:Int).toNat),.int (10 ^ (20:Int).toNat+c % 7)] (c / 10 % 4)=some (.int p):=by
    generalize c / 10 % 4=j at j0 j1
    have e1:0<=c % 3:=bh3 _ (by decide)
    have e2:0<=c % 9:=bh3 _ (by decide)
    have e3:0<=c % 10 ^ (9:Int).toNat:=bh3 _ (by decide)
    have e4:0<=c % 7:=bh3 _ (by decide)
    have e5:(0:Int)<=10 ^ (20:Int).toNat:=by decide
    rcases (show j=0 ∨ j=1 ∨ j=2 ∨ j=3 by omega) with rfl | rfl | rfl | rfl
    ·exact⟨_,e1,rfl⟩
    ·exact⟨_,by omega,rfl⟩
    ·exact⟨_,e3,rfl⟩
    ·exact⟨_,Int.add_nonneg e5 e4,rfl⟩
   obtain ⟨p,p0,at4⟩:=odd
   refine⟨_,rfl,_,rfl,_,_,rfl,rfl,(by show (0:Int) < 3; decide),_,rfl,_,_,rfl,rfl,(by show (0:Int) < 9; decide),_,_,rfl,rfl,_,rfl,_,_,rfl,rfl,⟨by decide,by decide,by decide⟩,_,_,rfl,rfl,(by show (0:Int) < 10 ^ (9:Int).toNat; decide),
    _,_,rfl,rfl,⟨by decide,by decide,by decide⟩,_,rfl,_,_,rfl,rfl,(by show (0:Int) < 7; decide),_,_,rfl,rfl,by show 4<=1000; decide,rfl,_,rfl,_,_,rfl,rfl,⟨by decide,by decide⟩,_,_,rfl,rfl,(by show (0:Int) < 4; decide),?_⟩
   refine⟨_,_,_,rfl,rfl,at4,trivial,by rw [bO,gp.1]; omega,ps ++ [p],si i,si c,?_,?_⟩
   ·rw [fU]; rfl
   ·refine⟨by rw [bd3,gp.1]; rfl,fun w hw=>?_⟩
    rcases bc9.mp hw with hw | hw
    ·exact gp.2 w hw
    ·rw [bc1] at hw; omega
  refine⟨_,rfl,_,_,rfl,rfl,_,rfl,_,_,rfl,rfl,_,_,rfl,rfl,_,rfl,?_⟩
  show if decide (4+(i:Int) < (ns.length:Int))=true then _ else _
  by_cases h4:4+(i:Int) < (ns.length:Int)
  ·rw [bc0 h4]
   have hl4:4+i < ns.length:=by omega
   have ix:L2.atI (intz ns) (4+(i:Int))=some (.int ns[4+i]):=by
    have:=jM (xs:=intz ns) (j:=4+i) (v:=.int ns[4+i]) (by show (List.map PV.int ns)[_]? = _; rw [bd1,bb9 hl4]; rfl)
    exact this
   exact bD ⟨_,rfl,_,rfl,_,_,rfl,rfl,_,_,_,rfl,rfl,ix,_,_,rfl,rfl,⟨by decide,by decide⟩,_,rfl,_,ns,2,rfl,.inl rfl,by decide,_,_,rfl,rfl,trivial,tail _⟩
  ·rw [bc3 h4]
   exact bB (tail z)
 ·rintro ρ ⟨ps,y3,y4,rfl,gp⟩
  rw [fE,be5] at gp
  exact⟨_,rfl,trivial,q ps gp⟩
noncomputable def mC (h:Int):List Int->List Int
 | []=>[h]
 | a :: r=>if h<=a then h :: a :: r else a :: mC h r
theorem xY (h:Int):∀ A:List Int,(mC h A).Perm (A ++ [h])
 | []=>List.Perm.refl _
 | a :: r=>by
  show (if h<=a then h :: a :: r else a :: mC h r).Perm _
  split
  ·exact List.perm_append_comm (l₁:=[h]) (l₂:=a :: r)
  ·exact (xY h r).cons a
theorem X4 (h:Int):∀ {A:List Int},A.Pairwise (· <= ·)->(mC h A).Pairwise (· <= ·)
 | [],_=>be8 _ _
 | a :: r,p=>by
  have p':=bk2.mp p
  show (if h<=a then h :: a :: r else a :: mC h r).Pairwise _
  split
  ·rename_i z
   exact bk2.mpr ⟨fun x hx=>by
    rcases bd0.mp hx with rfl | hx
    ·exact z
    ·exact Int.le_trans z (p'.1 x hx),p⟩
  ·rename_i z
   exact bk2.mpr ⟨fun x hx=>by
    rcases bc9.mp ((xY h r).mem_iff.mp hx) with hx | hx
    ·exact p'.1 x hx
    ·rw [bc1] at hx; omega,X4 h p'.2⟩
theorem aO7 {motive:List Int->Prop} (z:motive []) (sn:∀ L x,motive L->motive (L ++ [x])):∀ L,motive L:=fun L=>by
 have:∀ R:List Int,motive R.reverse:=by
  intro R
  induction R with
  | nil=>exact z
  | cons x r ih=>rw [List.reverse_cons]; exact sn _ _ ih
 have:=this L.reverse
 rwa [List.reverse_reverse] at this
noncomputable def cV (O:List Int):List Int:=O.foldl (fun A h=>mC h A) []
theorem aO8 (O:List Int) (h:Int):cV (O ++ [h])=mC h (cV O):=by unfold cV; rw [List.foldl_append]; rfl
theorem xZ:∀ O:List Int,(cV O).Perm O/\(cV O).Pairwise (· <= ·):=by
 refine aO7 ⟨List.Perm.refl _,.nil⟩ ?_
 rintro O h ⟨i1,i2⟩
 rw [aO8]
 exact⟨(xY h _).trans (i1.append_right [h]),X4 h i2⟩
theorem X5 {O ms:List Int} (p:ms.Perm O) (s:ms.Pairwise (· <= ·)):ms=cV O:=x4 (p.trans (xZ O).1.symm) s (xZ O).2
theorem aO9 (O:List Int):(cV O).length=O.length:=(xZ O).1.length_eq
noncomputable def vE (ws:List Int) (ls:List (Int × Int)) (ns R:List Int):Prop:=W6 ws ls ns R=true/\aI4 ws ls (ns ++ R)
end Core
namespace L2
open PySem PySem.Spec PyProof.Rows PP
section
variable {prog : Program} {w : World} {A : Around} {R : Result → Shared → Prop} {I S : Addr} {n : Nat} {l : Addr} {its : Array Value} {s0 : Shared} {bt : Nat → Nat → Bool}
noncomputable abbrev at_ (s:Shared) (h:Heap) (k:Nat):Shared:={ s with heap:=h,toks:=k }
end
end L2
namespace Core
open PySem L2 PP
noncomputable def FB (L:List (List Int)) (f:List Int->Int) (r:List Int):Prop:=∃ i,L[i]? = some r/\(∀ (j:Nat) (s:List Int),j < i->L[j]? = some s->f s < f r)/\∀ s ∈ L,f s<=f r
noncomputable def dD (n:Nat) (ls:List (Int × Int)):Prop:=(∀ l ∈ ls,0<=l.1/\l.1 < l.2/\l.2 < (n:Int))/\ls.length<=1700/\ls.Pairwise j6
noncomputable def fX (S:List Int) (l:Int × Int):Bool:=decide (l.1 ∈ S) && decide (l.2 ∈ S)
structure Moved (ws os ws':List Int):Prop where
 len:ws'.length=ws.length
 at_:∀ h:Nat,h < ws.length->ws'[(os.getD h 0).toNat]? = ws[h]?
theorem aP0 {ls:List (Int × Int)} (h:ls.Pairwise j6):ls.Nodup:=h.imp fun {a b} z e=>by subst e; unfold j6 at z; omega
theorem pP (a b:List (Int × Int)):aH (a ++ b)=aH a ++ aH b:=bd8 ..
noncomputable def yA (r c:Int) (l:Int × Int):Bool:=decide (0<=l.1) && (decide (l.1 < r) && (decide (0<=l.2) && decide (l.2 < c)))
noncomputable def aP1 (l:Int × Int):List (Int × Int):=[(l.1 - 1,l.2),(l.1,l.2 - 1),(l.1,l.2+1),(l.1+1,l.2)]
noncomputable def yB (r c:Int) (l:Int × Int):List (Int × Int):=(aP1 l).filter (yA r c)
theorem fY:∀ {l m:List Int},l.Nodup->(∀ x ∈ l,x ∈ m)->l.length<=m.length
 | [],_,_,_=>bg8 _
 | a :: r,m,nd,h=>by
  have hm:=h a bc6
  have:=fY (l:=r) (m:=m.erase a) (bk4.mp nd).2 fun x hx=>(List.mem_erase_of_ne (show x ≠ a from fun e=>(bk4.mp nd).1 (by rw [<- e]; exact hx))).mpr (h x (bd4 _ hx))
  rw [List.length_erase_of_mem hm] at this
  have:=List.length_pos_of_mem hm
  rw [be6]; omega
section
variable {ls : List (Int × Int)} {n : Nat} {B : List Int}
noncomputable def ins (ls:List (Int × Int)) (S:List Int) (h:Int):Nat:=((aO ls h).filter fun x=>decide (x ∈ S)).length
noncomputable def Two (ls:List (Int × Int)) (S:List Int):Prop:=∀ h ∈ S,2<=ins ls S h
theorem aP2 {S:List Int}{h:Int} (nd:(aO ls h).Nodup) (t:2<=ins ls S h):∃ a b,a ∈ aO ls h/\b ∈ aO ls h/\a ∈ S/\b ∈ S/\a ≠ b:=by
 unfold ins at t
 have n2:=nd.filter (fun x=>decide (x ∈ S))
 have mem:∀ x ∈ (aO ls h).filter fun x=>decide (x ∈ S),x ∈ aO ls h/\x ∈ S:=fun x hx=>⟨(bd7.mp hx).1,bi0 (bd7.mp hx).2⟩
 cases e:(aO ls h).filter fun x=>decide (x ∈ S) with
 | nil=>rw [e] at t; simp at t
 | cons x r=>
  cases r with
  | nil=>rw [e] at t; simp at t
  | cons y z=>
   rw [e] at n2 mem
   have h1:=mem x bc6
   have h2:=mem y (bd4 _ bc6)
   exact⟨x,y,h1.1,h2.1,h1.2,h2.2,fun z=>(bk4.mp n2).1 (by rw [z]; exact bc6)⟩
end
section
variable {ls : List (Int × Int)} {B : List Int}
structure fJ (ls:List (Int × Int)):Prop where
 lt:∀ l ∈ ls,l.1 < l.2
 ord:ls.Pairwise j6
theorem fJ.nnd (f:fJ ls) (h:Int):(aO ls h).Nodup:=U4 f.lt f.ord
theorem fJ.irr (f:fJ ls) (h:Int):h ∉ aO ls h:=fun z=>by
 rcases L2.dI.mp z with z | z <;> exact absurd (f.lt _ z) (Int.lt_irrefl _)
end
noncomputable def t7 (d:Int):Int:=if d - 1 > 0 then d - 1 else 0
noncomputable def yC (ls:List (Int × Int)) (S:List Int):Prop:=∀ U,Two ls U->(∀ x ∈ U,x ∈ S)->U = []
theorem dD.fit {n:Nat}{ls:List (Int × Int)} (lk:dD n ls):fJ ls:=⟨fun l hl=>(lk.1 l hl).2.1,lk.2.2⟩
theorem aP3 {ls:List (Int × Int)} (f:fJ ls) (k:Int):(aO ls k).Pairwise (· < ·):=by
 unfold aO
 rw [List.pairwise_flatMap]
 refine⟨fun l hl=>?_,f.ord.imp_of_mem fun {l m} hl hm lt x hx y hy=>?_⟩
 ·have:=f.lt l hl
  by_cases a:l.1=k
  ·have b : ¬ l.2=k:=by omega
   rw [if_pos a,if_neg b]; exact be8 _ _
  ·rw [if_neg a]
   split
   ·exact be8 _ _
   ·exact .nil
 ·have h1:=f.lt l hl
  have h2:=f.lt m hm
  rcases L2.oN.mp hx with ⟨a,rfl⟩ | ⟨a,rfl⟩ <;> rcases L2.oN.mp hy with ⟨b,rfl⟩ | ⟨b,rfl⟩ <;> (unfold j6 at lt; omega)
noncomputable def nP (L:List Int) (h:Int) (l:Int × Int):Bool:=decide (h ∈ [l.1,l.2]) && (decide (l.1 ∈ L) && decide (l.2 ∈ L))
theorem X6 {L:List Int}{h:Int} (hh:h ∈ L):∀ {ls:List (Int × Int)},(∀ l ∈ ls,l.1 ≠ l.2)->(ls.filter (nP L h)).length=ins ls L h
 | [],_=>rfl
 | l :: r,ne=>by
  have ih:=X6 hh (ls:=r) fun m hm=>ne m (bd4 _ hm)
  have e:aO (l :: r) h=((if l.1=h then [l.2] else []) ++ (if l.2=h then [l.1] else [])) ++ aO r h:=rfl
  have n0:=ne l bc6
  unfold ins at ih ⊢
  rw [e,List.filter_append,bd3,<- ih]
  by_cases a:l.1=h
  ·have b : ¬ l.2=h:=fun z=>n0 (a.trans z.symm)
   have a1:l.1 ∈ L:=by rw [a]; exact hh
   have a2:h ∈ [l.1,l.2]:=by rw [a]; exact bc6
   rw [if_pos a,if_neg b,bj0]
   by_cases c:l.2 ∈ L
   ·rw [bo5 (by unfold nP; rw [bc0 a2,bc0 a1,bc0 c]; rfl),bo5 (by simpa using c),be6]
    show _=1+_
    omega
   ·rw [bm1 (by unfold nP; rw [bc3 c,bm4,bm4]; decide),bm1 (by simpa using c)]
    show _=0+_
    omega
  ·by_cases b:l.2=h
   ·have a1:l.2 ∈ L:=by rw [b]; exact hh
    have a2:h ∈ [l.1,l.2]:=by rw [b]; exact bd4 _ bc6
    rw [if_neg a,if_pos b,List.nil_append]
    by_cases c:l.1 ∈ L
    ·rw [bo5 (by unfold nP; rw [bc0 a2,bc0 a1,bc0 c]; rfl),bo5 (by simpa using c),be6]
     show _=1+_
     omega
    ·rw [bm1 (by unfold nP; rw [bc3 c,Bool.false_and,bm4]; decide),bm1 (by simpa using c)]
     show _=0+_
     omega
   ·have a2:h ∉ [l.1,l.2]:=fun z=>by
     simp only [bd0,bf1,bj8] at z
     rcases z with z | z
     ·exact a z.symm
     ·exact b z.symm
    rw [if_neg a,if_neg b,bm1 (by unfold nP; rw [bc3 a2,Bool.false_and]; decide)]
    show _=0+_
    omega
noncomputable def keep2 (ls:List (Int × Int)) (L:List Int):List Int:=L.filter fun h=>decide (2<=ins ls L h)
end Core
namespace L2
open PySem PySem.Spec PyProof.Rows SO
noncomputable abbrev kk (l:Int × Int):List aJ:=[Sum.inl l.1,Sum.inl l.2]
end L2
namespace Core
open PySem L2 PP
inductive pQ (r c:Int) (S:List (Int × Int)):Int × Int->Prop
 | seed {x:Int × Int}:x ∈ S->pQ r c S x
 | kin {x a b:Int × Int}:yA r c x=true->a ∈ yB r c x->b ∈ yB r c x->a ≠ b->pQ r c S a->pQ r c S b->pQ r c S x
noncomputable def nbC (r c:Int) (P:List (Int × Int)) (x:Int × Int):Nat:=(P.filter fun p=>decide (x ∈ yB r c p)).length
structure Wk (r c:Int) (S K P:List (Int × Int)):Prop where
 nd:K.Nodup
 ndP:P.Nodup
 sub:∀ x ∈ P,x ∈ K
 brn:∀ x ∈ K,pQ r c S x
 sd:∀ x ∈ S,x ∈ K
 bd:∀ x ∈ K,yA r c x=true
 low:∀ x,x ∉ K->nbC r c P x < 2
structure Bx where
 t:Int
 l:Int
 b:Int
 r:Int
deriving DecidableEq
noncomputable def Bx.k (x:Bx):List Int:=[x.t,x.l,x.b,x.r]
noncomputable def okX (x:Bx):Prop:=x.t<=x.b/\x.l<=x.r
noncomputable def X7 (x:Bx) (p:Int × Int):Prop:=x.t<=p.1/\p.1<=x.b/\x.l<=p.2/\p.2<=x.r
noncomputable def X8 (x a:Int × Int):Prop:=(a.1=x.1/\(a.2=x.2 - 1 ∨ a.2=x.2+1)) ∨ (a.2=x.2/\(a.1=x.1 - 1 ∨ a.1=x.1+1))
noncomputable def Clo (B:Bx) (U:Int × Int->Prop):Prop:=∀ x a b,X7 B x->X8 x a->X8 x b->a ≠ b->U a->U b->U x
section
variable {B : Bx} {U : Int × Int → Prop}
variable {t l b r : Int}
section
variable (cl : Clo B U) {p1 p2 : Int} (u : U (p1, p2)) (ip : X7 B (p1, p2))
include cl u ip
end
end
noncomputable abbrev bxP (x:Bx):PV:=.tup (intz x.k)
theorem pR {i j:Nat}{a b:Int}{g:Bool}{ρ:bJ}{Q:bJ->Prop} (q:Q ((ρ.set i (si a)).set j (si b))):eI i j (.tup [.int a,.int b]) g ρ Q:=by
 refine⟨_,_,rfl,?_⟩
 rw [show flat (.int a)=true from rfl,show flat (.int b)=true from rfl,Bool.or_true]
 exact q
section
variable {ns : List Int} {a r c z t l : Int} {Q : PV → Prop} (q : ∀ x : Bx, Q (bxP x))
include q
end
end Core
namespace L2
open PySem PySem.Spec PyProof.Rows
noncomputable def aP4 (sp:Sp) (t:TA) (i:Nat):TB:=fun D Ex σ H=>t σ H fun vs H1=>sp vs H1 (fun v H2=>D.nx (σ.set i (some v)) H2) Ex
section
variable {X : Cx} {k : Nat} {f : Addr} {fd : FuncData} {ps : List Str} {sp : Sp} {x z : Str} {p cp pos zp : Pos} {e : Expr} {es : List Expr} {t : TA} {i : Nat}
theorem aP5 (F:cZ X.prog X.w X.K X.mg X.base (eM X.prog X.w) k f fd ps sp) (hr:cH k X.A) (hg:Gl X x) (hm:X.mg x=some (.ref f)) (hk:PySem.W.keepIn X.K (.ref f)=true) (hb:i9 X.K fd ps []) (ha:∀ E,PA (X.wish E) (e :: es) t)
  (hN:X.N.Nodup) (hi:X.N[i]? = some z) (hz:X.env.scope.names.lookup z=some .local)
  (hdb:(x == ("__debug__" : Str))=false:=by decide) (he:starEach (e :: es) X.env=(false,eval e X.env) :: starEach es X.env:=by rfl) (hpl:(backTo cp (starEach es X.env)).any (·.1)=false:=by rfl) (hsw:swapsWith (.Call (.Name x p) (e :: es) [] cp) (some (.Name z zp)) pos.line X.env=pure false:=by rfl) :
  PB X [.Assign [.Name z zp] (.Call (.Name x p) (e :: es) [] cp) pos] (aP4 sp t i):=by
 intro pins s σ H D Ex I h
 refine wpAny_execs_cons (wpAny_Assign_Name ?_ hsw)
 refine wpAny_Call_Name_kw (nW I hg hm ?_ hdb)
 refine PySem.W.callWith_K (h₀:=X.base) I.ok.mod.kin hk (aQ (ha (XB X pins σ Ex) cp pins s σ H _ (I.wish _) h) fun us s1 h1=>⟨?_,?_⟩) he hpl
 ·obtain ⟨_,_,I1,_⟩:=h1
  exact I1.kIn
 ·obtain ⟨vs,H1,I1,r,q⟩:=h1
  have I1:=I1.unwish
  have hl:us.length=ps.length:=by rw [<- r.length]; exact F.len _ _ _ _ q
  have bd:=hb s1 us I1.kIn (by rw [bj0]; exact hl)
  rw [bj0] at bd
  refine wpAny_call (codeAny_mono (F.run X.A X.stack s1 H1 ⟨us,[]⟩ us vs _ Ex hr I1.env0 bd r q) fun rs s' hq=>?_)
  cases rs with
  | error ev=>exact⟨H1,s1,I1,hq⟩
  | ok fl=>
   cases fl with
   | ret u=>
    obtain ⟨v,H2,I2,rv,q2⟩:=I1.after hq
    exact pY I2 hN hi (.inl hz) rv (fun s3 I3=>wpAny_execs_nil ⟨_,H2,I3,q2⟩) (.inr hz)
   | next=>exact False.elim hq
   | brk=>exact False.elim hq
   | cont=>exact False.elim hq
end
end L2
namespace PP
open PySem L2
section
variable {X : Cx} {e : Expr} {es : List Expr} {tr : cO} {p2 cp pos zp : Pos}
noncomputable def X9 (i:Nat) (p:fW) (t:cO):nL:=fun D Ep ρ=>t ρ fun xs=>p Ep (xs.map (·.1)) fun z=>D.nx (ρ.set i (some (.sh true z)))
theorem aP6 (i:Nat) {k j:Nat}{x z:Str}{ps:List Str}{p:fW} (d:eV X.prog X.w X.K X.mg X.base k x ps p) (hr:cH j X.A) (hN:X.N.Nodup) (ha:∀ E,QA (X.wish E) (e :: es) tr) (hkj:k<=j:=by decide) (hg:Gl X x:=by rfl) (hi:X.N[i]? = some z:=by rfl) (hz:X.env.scope.names.lookup z=some .local:=by rfl) (hdb:(x == ("__debug__" : Str))=false:=by decide)
  (he:starEach (e :: es) X.env=(false,eval e X.env) :: starEach es X.env:=by rfl) (hpl:(backTo cp (starEach es X.env)).any (·.1)=false:=by rfl) (hsw:swapsWith (.Call (.Name x p2) (e :: es) [] cp) (some (.Name z zp)) pos.line X.env=pure false:=by rfl):QB X [.Assign [.Name z zp] (.Call (.Name x p2) (e :: es) [] cp) pos] (X9 i p tr):=by
 obtain ⟨f,fd,F,b,kp,m⟩:=d.ex
 refine pbI (aP5 (t:=LA X tr) F (hr.mono hkj) hg m kp b (fun E=>ha E) hN hi hz hdb he hpl hsw) fun D Ex σ H h=>?_
 obtain ⟨W,ρ,D',Ep,px,q,k,ke⟩:=h
 refine⟨W,ρ,_,px,q,fun vs H1 xs s1 r q1=>⟨_,_,Ep,r.any,q1,fun v H' x s2 r2 q2=>?_,fun n C H' s2 z1 z2=>ke n C H' (s1.trans s2) z1 z2⟩⟩
 have s3:=s1.trans s2
 exact k.nx W _ H' _ (Ev.same s3) ((px.mono s3).setSh (g:=true) (r2.same (aD.refl _) fun a za=>px.new (s1.free za))) q2
end
end PP
namespace Core
open PySem L2 PP
theorem Y0 {α:Type} (p q:α->Bool):∀ l:List α,(l.filter p).length=(l.filter fun x=>p x && !q x).length+(l.filter fun x=>q x && p x).length
 | []=>rfl
 | a :: r=>by
  have ih:=Y0 p q r
  rw [bn2,bn2,bn2]
  cases p a <;> cases q a <;> simp <;> omega
section
variable {ls : List (Int × Int)} {n : Nat} {U : List Int} {v : Int}
theorem aP7 (hv:v ∈ U) (ne:∀ l ∈ ls,l.1 ≠ l.2):(ls.filter (fX U)).length=(ls.filter (fX (dZ U v))).length+ins ls U v:=by
 rw [<- X6 hv ne,Y0 (fX U) (fun l=>decide (v ∈ [l.1,l.2])) ls]
 congr 2
 refine List.filter_congr fun l _=>?_
 unfold fX
 rw [bk3]
 simp only [bg2,Bool.not_eq_true',bm6,decide_eq_false_iff_not,mB,bd0,bf1,bj8,not_or]
 constructor
 ·rintro ⟨⟨a,b⟩,c,d⟩; exact⟨⟨a,fun z=>c z.symm⟩,b,fun z=>d z.symm⟩
 ·rintro ⟨⟨a,c⟩,b,d⟩; exact⟨⟨a,b⟩,fun z=>c z.symm,fun z=>d z.symm⟩
theorem Y1 {h:Int} (x:Int) (hx:x ∈ comp ls (dZ U v) h):x ∈ comp ls U h:=by
 obtain ⟨h1,h2⟩:=gK.mp hx
 exact gK.mpr ⟨(mB.mp h1).1,fun W hW hh=>h2 W (fun a ha b hb bS=>hW a ha b hb (mB.mp bS).1) hh⟩
theorem e7 {S:List Int}{h:Int}:h ∈ aV ls S ↔ h ∈ S/\(comp ls S h).head? = some h:=by
 unfold aV pO
 rw [bd7]
 exact⟨fun z=>⟨z.1,@bi0 _ _ z.2⟩,fun z=>⟨z.1,@bc0 _ _ z.2⟩⟩
theorem yD (hU:bE n U=true) {h:Int} (hh:h ∈ aV ls U) (ne:h ≠ v):h ∈ aV ls (dZ U v):=by
 obtain ⟨h1,h2⟩:=e7.mp hh
 have hb:h ∈ dZ U v:=mB.mpr ⟨h1,ne⟩
 refine e7.mpr ⟨hb,xT (gL (t4 hU)) (fI hb) fun x hx=>?_⟩
 have:=(j7 (gL hU) h2).2 x (Y1 x hx)
 omega
theorem t8 (hU:bE n U=true):(aV ls U).Nodup:=by
 have:U.Nodup:=(gI (fV hU).1).imp fun h=>bm7 h
 exact this.filter _
theorem aP8 (f:fJ ls) (hU:bE n U=true) (hv:v ∈ U):(aV ls U).length<=(aV ls (dZ U v)).length+(if ins ls U v=0 then 1 else 0):=by
 have nd:=t8 (ls:=ls) hU
 by_cases hh:v ∈ aV ls U
 ·by_cases i0:ins ls U v=0
  ·rw [if_pos i0]
   have:=fY nd (m:=v :: aV ls (dZ U v)) fun x hx=>by
    by_cases e:x=v
    ·rw [e]; exact bc6
    ·exact bd4 _ (yD hU hx e)
   rw [be6] at this
   exact this
  ·rw [if_neg i0]
   obtain ⟨w,hw⟩:∃ w,w ∈ (aO ls v).filter fun x=>decide (x ∈ U):=by
    cases e:(aO ls v).filter fun x=>decide (x ∈ U) with
    | nil=>exact absurd (show ins ls U v=0 by unfold ins; rw [e]; rfl) i0
    | cons a r=>exact⟨a,bc6⟩
   obtain ⟨w1,w2⟩:=bd7.mp hw
   have w2:w ∈ U:=bi0 w2
   have wv:w ≠ v:=fun e=>f.irr v (e ▸ w1)
   have wb:w ∈ dZ U v:=mB.mpr ⟨w2,wv⟩
   have cs:=gL (ls:=ls) (h:=w) (t4 (h:=v) hU)
   obtain ⟨a,ha⟩:∃ a,(comp ls (dZ U v) w).head? = some a:=by
    cases e:comp ls (dZ U v) w with
    | nil=>have:=fI (ls:=ls) wb; rw [e] at this; cases this
    | cons a r=>exact⟨a,rfl⟩
   have am:=(j7 cs ha).1
   have ab:=pN a am
   have ahd:a ∈ aV ls (dZ U v):=e7.mpr ⟨ab,by rw [kD (t4 hU) am wb]; exact ha⟩
   have wc:w ∈ comp ls U v:=i8 v (fI hv) w w1 w2
   have ac:a ∈ comp ls U v:=by rw [<- kD hU wc hv]; exact Y1 a am
   have an:a ∉ aV ls U:=fun z=>by
    have h1:=(e7.mp z).2
    rw [kD hU ac hv,(e7.mp hh).2] at h1
    exact (mB.mp ab).2 (be3 h1).symm
   have nd2:(a :: (aV ls U).erase v).Nodup:=bk4.mpr ⟨fun z=>an (List.mem_of_mem_erase z),nd.erase v⟩
   have:=fY nd2 (m:=aV ls (dZ U v)) fun x hx=>by
    rcases bd0.mp hx with rfl | hx
    ·exact ahd
    ·have h2:=(nd.mem_erase_iff).mp hx
     exact yD hU h2.2 h2.1
   rw [be6,List.length_erase_of_mem hh] at this
   have:=List.length_pos_of_mem hh
   omega
 ·have:=fY nd (m:=aV ls (dZ U v)) fun x hx=>yD hU hx fun e=>hh (e ▸ hx)
  omega
noncomputable def mu (ls:List (Int × Int)) (U:List Int):Int:=((ls.filter (fX U)).length:Int) - (U.length:Int)+((aV ls U).length:Int)
theorem Y2 (nd:U.Nodup) (hv:v ∈ U):(dZ U v).length+1=U.length:=by
 have e:dZ U v=U.erase v:=by
  unfold dZ
  rw [nd.erase_eq_filter]
  refine List.filter_congr fun x _=>?_
  by_cases h:x=v <;> simp [h]
 rw [e,List.length_erase_of_mem hv]
 have:=List.length_pos_of_mem hv
 omega
theorem aP9 (f:fJ ls) (hU:bE n U=true) (hv:v ∈ U):mu ls U<=mu ls (dZ U v)+t7 (ins ls U v:Int):=by
 have a:=aP7 hv (fun l hl=>bm7 (f.lt l hl))
 have b:=aP8 f hU hv
 have c:=Y2 ((gI (fV hU).1).imp fun h=>bm7 h) hv
 unfold mu t7
 by_cases i0:ins ls U v=0
 ·rw [if_pos i0] at b
  rw [if_neg (by omega)]; omega
 ·rw [if_neg i0] at b
  by_cases i1:(ins ls U v:Int) - 1 > 0
  ·rw [if_pos i1]; omega
  ·rw [if_neg i1]; omega
theorem yE (f:fJ ls):∀ (k:Nat) (T:List Int),T.length<=k->bE n T=true->yC ls T->mu ls T<=0
 | 0,T,hl,_,_=>by
  have:T = []:=List.length_eq_zero_iff.mp (by omega)
  subst this
  have:ls.filter (fX []) = []:=List.filter_eq_nil_iff.mpr fun l _=>by simp [fX]
  unfold mu
  rw [this]
  show (0:Int) - 0+((([]:List Int).filter _).length:Int)<=0
  simp
 | k+1,T,hl,hT,no=>by
  by_cases e:T = []
  ·exact yE f k T (by rw [e]; simp) hT no
  ·obtain ⟨v,hv,hi⟩:∃ v,v ∈ T/\ins ls T v < 2:=bi9 fun z=>e (no T (fun h hh=>bp0 fun q=>z ⟨h,hh,q⟩) fun _ h=>h)
   have nd:T.Nodup:=(gI (fV hT).1).imp fun h=>bm7 h
   have bl:=Y2 nd hv
   have ih:=yE f k (dZ T v) (by omega) (t4 hT) fun U hU sub=>no U hU fun x hx=>(mB.mp (sub x hx)).1
   have st:=aP9 f hT hv
   have:t7 (ins ls T v:Int)=0:=by unfold t7; rw [if_neg (by omega)]
   omega
end
noncomputable def nQ:bH:=fun xs Q=>∃ ws ls,xs = [bF ws ls]/\Wb ws ls/\Q (.lst (tups (iJ ls (rng ws.length))))
noncomputable def Y3:aK:=(bG (aB (sY fun _=>False) (a6 (a5 0) (a6 (aB sV (a6 (a5 0) (a6 (dJ a9) a9))) a9))))
theorem aQ0:cF Y3 ["web"] nQ:=by
 rintro xs Q ⟨ws,ls,rfl,wb,q⟩
 have few:=wb.few
 have e:xA ws.length []=rng ws.length:=List.filter_eq_self.mpr fun x _=>by simp
 have rs:=aN8 ws.length
 refine⟨_,rfl,_,rfl,by show 0<=1000; decide,rfl,ws,ls,_,[],rfl,.inl rfl,by decide,by omega,ws,ls,_,xA ws.length [],rfl,wb,.inl rfl,?_,fun _=>⟨trivial,?_⟩,fun z=>?_⟩
 ·rw [e,dX]; omega
 ·rw [e]; exact q
 ·rw [e,rs] at z; cases z
noncomputable abbrev Wys:=List (Int × List Int)
section
variable {ls : List (Int × Int)} {l : Int × Int} {n : Nat} {S U : List Int} {h x y : Int}
theorem yF:y ∈ aO (l :: ls) x ↔ y ∈ aO ls x ∨ l=(x,y) ∨ l=(y,x):=by
 rw [L2.dI,L2.dI,bd0,bd0]
 constructor
 ·rintro ((e | e) | (e | e))
  ·exact .inr (.inl e.symm)
  ·exact .inl (.inl e)
  ·exact .inr (.inr e.symm)
  ·exact .inl (.inr e)
 ·rintro ((e | e) | (e | e))
  ·exact .inl (.inr e)
  ·exact .inr (.inr e)
  ·exact .inl (.inl e.symm)
  ·exact .inr (.inl e.symm)
theorem pS (hS:bE n S=true) (hh:h ∈ S) (hU:dY ls S U) (hu:h ∈ U) (le:∀ x ∈ U,x ∈ S->h<=x):h ∈ aV ls S:=
 e7.mpr ⟨hh,xT (gL hS) (fI hh) fun x hx=>le x ((gK.mp hx).2 U hU hu) (pN x hx)⟩
theorem yG (hS:bE n S=true) (hh:h ∈ aV ls S) (no:h ∉ aV (l :: ls) S):fX S l=true/\(l.1 ∈ comp ls S h ∨ l.2 ∈ comp ls S h):=by
 obtain ⟨h1,h2⟩:=e7.mp hh
 have le:=(j7 (gL hS) h2).2
 refine bi9 fun hn=>no (pS hS h1 (U:=comp ls S h) (fun x hx y hy yS=>?_) (fI h1) fun x hx _=>by have:=le x hx; omega)
 rcases yF.mp hy with e | e | e
 ·exact i8 x hx y e yS
 ·refine absurd ⟨?_,.inl (by rw [e]; exact hx)⟩ hn
  unfold fX; rw [e,bg2]; exact⟨bc0 (pN x hx),bc0 yS⟩
 ·refine absurd ⟨?_,.inr (by rw [e]; exact hx)⟩ hn
  unfold fX; rw [e,bg2]; exact⟨bc0 yS,bc0 (pN x hx)⟩
theorem t9 (hS:bE n S=true) {a b z:Int} (ha:a ∈ aV ls S) (hb:b ∈ aV ls S) (za:z ∈ comp ls S a) (zb:z ∈ comp ls S b):a=b:=by
 obtain ⟨a1,a2⟩:=e7.mp ha
 obtain ⟨b1,b2⟩:=e7.mp hb
 rw [<- kD hS za a1] at a2
 rw [<- kD hS zb b1,a2] at b2
 exact be3 b2
theorem Y4 (hS:bE n S=true) {a b:Int} (ha:a ∈ aV ls S) (hb:b ∈ aV ls S) (la:l.1 ∈ comp ls S a) (lb:l.2 ∈ comp ls S b) (lt:a<=b):a ∈ aV (l :: ls) S:=by
 obtain ⟨a1,a2⟩:=e7.mp ha
 obtain ⟨b1,b2⟩:=e7.mp hb
 have lea:=(j7 (gL hS) a2).2
 have leb:=(j7 (gL hS) b2).2
 refine pS hS a1 (U:=comp ls S a ++ comp ls S b) (fun x hx y hy yS=>?_) (bc9.mpr (.inl (fI a1))) fun x hx _=>?_
 ·rcases yF.mp hy with e | e | e
  ·rcases bc9.mp hx with z | z
   ·exact bc9.mpr (.inl (i8 x z y e yS))
   ·exact bc9.mpr (.inr (i8 x z y e yS))
  ·rw [e] at lb; exact bc9.mpr (.inr lb)
  ·rw [e] at la; exact bc9.mpr (.inl la)
 ·rcases bc9.mp hx with z | z
  ·have:=lea x z; omega
  ·have:=leb x z; omega
theorem Y5 (hS:bE n S=true) {a b:Int} (ha:a ∈ aV ls S) (hb:b ∈ aV ls S) (la:l.1 ∈ comp ls S a) (lb:l.2 ∈ comp ls S b) (lt:b<=a):b ∈ aV (l :: ls) S:=by
 obtain ⟨a1,a2⟩:=e7.mp ha
 obtain ⟨b1,b2⟩:=e7.mp hb
 have lea:=(j7 (gL hS) a2).2
 have leb:=(j7 (gL hS) b2).2
 refine pS hS b1 (U:=comp ls S a ++ comp ls S b) (fun x hx y hy yS=>?_) (bc9.mpr (.inr (fI b1))) fun x hx _=>?_
 ·rcases yF.mp hy with e | e | e
  ·rcases bc9.mp hx with z | z
   ·exact bc9.mpr (.inl (i8 x z y e yS))
   ·exact bc9.mpr (.inr (i8 x z y e yS))
  ·rw [e] at lb; exact bc9.mpr (.inr lb)
  ·rw [e] at la; exact bc9.mpr (.inl la)
 ·rcases bc9.mp hx with z | z
  ·have:=lea x z; omega
  ·have:=leb x z; omega
theorem aQ1 (hS:bE n S=true) {a b:Int} (ha:a ∈ aV ls S) (na:a ∉ aV (l :: ls) S) (hb:b ∈ aV ls S) (nb:b ∉ aV (l :: ls) S):a=b:=by
 rcases (yG hS ha na).2 with la | la <;> rcases (yG hS hb nb).2 with lb | lb
 ·exact t9 hS ha hb la lb
 ·rcases Int.le_total a b with z | z
  ·exact absurd (Y4 hS ha hb la lb z) na
  ·exact absurd (Y5 hS ha hb la lb z) nb
 ·rcases Int.le_total a b with z | z
  ·exact absurd (Y5 hS hb ha lb la z) na
  ·exact absurd (Y4 hS hb ha lb la z) nb
 ·exact t9 hS ha hb la lb
theorem aQ2 (hS:bE n S=true):(aV ls S).length<=(aV (l :: ls) S).length+(if fX S l=true then 1 else 0):=by
 have nd:=t8 (ls:=ls) hS
 by_cases ex:∃ a,a ∈ aV ls S/\a ∉ aV (l :: ls) S
 ·obtain ⟨a,ha,na⟩:=ex
  rw [if_pos (yG hS ha na).1]
  have:=fY nd (m:=a :: aV (l :: ls) S) fun x hx=>by
   by_cases nx:x ∈ aV (l :: ls) S
   ·exact bd4 _ nx
   ·rw [aQ1 hS hx nx ha na]; exact bc6
  rwa [be6] at this
 ·have:=fY nd (m:=aV (l :: ls) S) fun x hx=>bi9 fun z=>ex ⟨x,hx,z⟩
  omega
theorem yH (hS:bE n S=true):S.Nodup:=(gI (fV hS).1).imp fun h=>bm7 h
theorem yI (hS:bE n S=true):∀ ls:List (Int × Int),S.length<=(aV ls S).length+(ls.filter (fX S)).length
 | []=>by
  refine bg5 (fY (yH hS) (m:=aV [] S) fun x hx=>pS hS hx (U:=[x]) (fun a _ b hb _=>?_) bc6 fun y hy _=>?_) (bj3 _ _)
  ·rcases L2.dI.mp hb with e | e <;> cases e
  ·rw [bc1.mp hy]; exact Int.le_refl _
 | l :: ls=>by
  have ih:=yI hS ls
  have:=aQ2 (ls:=ls) (l:=l) hS
  rw [bn2]
  split <;> rename_i e
  ·rw [if_pos e] at this; rw [be6]; omega
  ·rw [if_neg e] at this; omega
noncomputable def fZ (ls:List (Int × Int)) (l:Int × Int):List (Int × Int):=ls.filter fun m=>!decide (m=l)
theorem nR {m:Int × Int}:m ∈ fZ ls l ↔ m ∈ ls/\m ≠ l:=by
 unfold fZ; rw [bd7,Bool.not_eq_true',decide_eq_false_iff_not]
theorem Y6:∀ {ls:List (Int × Int)},l ∈ ls->ls.Nodup->(fZ ls l).length+1<=ls.length
 | m :: r,hl,nd=>by
  unfold fZ
  rw [bn2]
  rcases bd0.mp hl with e | e
  ·subst e
   rw [bc0 rfl]
   have:=bg7 (fun m=>!decide (m=l)) r
   simp only [be6,Bool.not_true,be9,bi5]
   omega
  ·have ih:=Y6 e (bk4.mp nd).2
   unfold fZ at ih
   split
   ·rw [be6,be6]; omega
   ·rw [be6]; omega
theorem aQ3 (t:l.1 ∈ U ↔ l.2 ∈ U) (c:dY (fZ ls l) S U):dY ls S U:=fun x hx y hy yS=>by
 by_cases e:l=(x,y)
 ·rw [e] at t; exact t.mp hx
 ·by_cases e2:l=(y,x)
  ·rw [e2] at t; exact t.mpr hx
  ·refine c x hx y ?_ yS
   rcases L2.dI.mp hy with z | z
   ·exact L2.dI.mpr (.inl (nR.mpr ⟨z,fun q=>e q.symm⟩))
   ·exact L2.dI.mpr (.inr (nR.mpr ⟨z,fun q=>e2 q.symm⟩))
theorem yJ (c:dY ls S U):dY (fZ ls l) S U:=fun x hx y hy yS=>by
 refine c x hx y ?_ yS
 rcases L2.dI.mp hy with z | z
 ·exact L2.dI.mpr (.inl (nR.mp z).1)
 ·exact L2.dI.mpr (.inr (nR.mp z).1)
theorem aQ4 (t:∀ U,dY (fZ ls l) S U->(l.1 ∈ U ↔ l.2 ∈ U)):aV (fZ ls l) S=aV ls S:=by
 have e:∀ h,comp (fZ ls l) S h=comp ls S h:=fun h=>by
  refine List.filter_congr fun x _=>?_
  rw [bk3]
  constructor
  ·intro z; exact @bc0 _ (Classical.propDecidable _) fun U hU hh=>(@bi0 _ (Classical.propDecidable _) z) U (yJ hU) hh
  ·intro z; exact @bc0 _ (Classical.propDecidable _) fun U hU hh=>(@bi0 _ (Classical.propDecidable _) z) U (aQ3 (t U hU) hU) hh
 unfold aV pO
 refine List.filter_congr fun x _=>?_
 rw [e]
noncomputable def dG (n:Nat) (ls:List (Int × Int)):Prop:=ls.length+(aV ls (rng n)).length=n
theorem j9 (n:Nat):bE n (rng n)=true:=by
 have:=aK3 n fun _=>true
 rwa [List.filter_eq_self.mpr fun _ _=>rfl] at this
theorem aQ5 (w:dG n ls) (nd:ls.Nodup) (hl:l ∈ ls) : ¬ ∀ U,dY (fZ ls l) (rng n) U->(l.1 ∈ U ↔ l.2 ∈ U):=fun t=>by
 have h1:=yI (j9 n) (fZ ls l)
 rw [aQ4 t,dX] at h1
 have h2:=bg7 (fX (rng n)) (fZ ls l)
 have h3:=Y6 hl nd
 unfold dG at w
 omega
end
noncomputable abbrev bX:=List (Int × Option Int)
noncomputable def bL (ls:List (Int × Int)) (h:Int) (e:Option Int):List Int:=(aO ls h).filter fun x=>!decide (some x=e)
theorem kE {ls:List (Int × Int)}{h x:Int}{e:Option Int}:x ∈ bL ls h e ↔ x ∈ aO ls h/\some x ≠ e:=by
 unfold bL; rw [bd7,Bool.not_eq_true',decide_eq_false_iff_not]
structure g6 (n:Nat) (ls:List (Int × Int)) (P:bX) (t:Nat):Prop where
 nd:(P.map (·.1)).Nodup
 inn:∀ p ∈ P,p.1 ∈ rng n
 par:∀ (i:Nat) (h e:Int),P[i]? = some (h,some e)->∃ (j:Nat) (q:Option Int),j < i/\j < t/\P[j]? = some (e,q)/\e ∈ aO ls h
 done:∀ (i:Nat) (h:Int) (e:Option Int),i < t->P[i]? = some (h,e)->∀ x ∈ aO ls h,e=some x ∨ (x,some h) ∈ P
 root:∀ h,(h,none) ∈ P ↔ h ∈ aV ls (rng n)
structure Rt (n:Nat) (ls:List (Int × Int)) (P:bX):Prop where
 nd:(P.map (·.1)).Nodup
 mem:∀ h,h ∈ P.map (·.1) ↔ h ∈ rng n
 par:∀ (i:Nat) (h e:Int),P[i]? = some (h,some e)->∃ (j:Nat) (q:Option Int),j < i/\P[j]? = some (e,q)/\e ∈ aO ls h
 done:∀ h e,(h,e) ∈ P->∀ x ∈ aO ls h,e=some x ∨ (x,some h) ∈ P
 root:∀ h,(h,none) ∈ P ↔ h ∈ aV ls (rng n)
theorem jA {P:bX} (nd:(P.map (·.1)).Nodup) {i j:Nat}{h:Int}{e e':Option Int} (hi:P[i]? = some (h,e)) (hj:P[j]? = some (h,e')):i=j/\e=e':=by
 have h1:(P.map (·.1))[i]? = some h:=by rw [bd1,hi]; rfl
 have h2:(P.map (·.1))[j]? = some h:=by rw [bd1,hj]; rfl
 have hl:i < (P.map (·.1)).length:=(bc4.mp h1).1
 have e0:i=j:=(List.getElem?_inj hl nd).mp (h1.trans h2.symm)
 subst e0
 rw [hi] at hj
 exact⟨rfl,by cases hj; rfl⟩
theorem g9 {P:bX}{p:Int × Option Int} (h:p ∈ P):∃ i:Nat,P[i]? = some p:=bj7.mp h
theorem tD {P:bX} (nd:(P.map (·.1)).Nodup) {h:Int}{e e':Option Int} (hi:(h,e) ∈ P) (hj:(h,e') ∈ P):e=e':=by
 obtain ⟨i,hi⟩:=g9 hi
 obtain ⟨j,hj⟩:=g9 hj
 exact (jA nd hi hj).2
section
variable {n : Nat} {ls : List (Int × Int)} {P : bX} {t : Nat}
theorem g6.root_of (B:g6 n ls P t) {l:Int × Int} (lm:∀ (i:Nat) (h e:Int),P[i]? = some (h,some e)->l ≠ (h,e)/\l ≠ (e,h)):∀ (i:Nat) (x:Int) (q:Option Int),P[i]? = some (x,q)->∃ r,r ∈ aV ls (rng n)/\∀ U,dY (fZ ls l) (rng n) U->(x ∈ U ↔ r ∈ U):=by
 intro i
 induction i using Nat.strongRecOn with
 | ind i ih=>
  intro x q hi
  cases q with
  | none=>exact⟨x,(B.root x).mp (bc2 hi),fun _ _=>Iff.rfl⟩
  | some e=>
   obtain ⟨j,q,ji,_,hj,ee⟩:=B.par i x e hi
   obtain ⟨r,hr,hu⟩:=ih j ji e q hj
   obtain ⟨l1,l2⟩:=lm i x e hi
   have en:e ∈ aO (fZ ls l) x:=by
    rcases L2.dI.mp ee with z | z
    ·exact L2.dI.mpr (.inl (nR.mpr ⟨z,fun q=>l1 q.symm⟩))
    ·exact L2.dI.mpr (.inr (nR.mpr ⟨z,fun q=>l2 q.symm⟩))
   refine⟨r,hr,fun U hU=>(Iff.intro (fun z=>hU x z e en (B.inn _ (bc2 hj))) fun z=>hU e z x (jU en) (B.inn _ (bc2 hi))).trans (hu U hU)⟩
theorem g6.fresh (B:g6 n ls P t) (w:dG n ls) (f:fJ ls) {h:Int}{e:Option Int} (ht:P[t]? = some (h,e)) {c:Int} (hc:c ∈ bL ls h e):c ∉ P.map (·.1):=by
 intro hin
 obtain ⟨cn,ce⟩:=kE.mp hc
 obtain ⟨⟨c',q⟩,hm,rfl⟩:=bd6.mp hin
 obtain ⟨i,hi⟩:=g9 hm
 have hc':h ∈ aO ls c':=jU cn
 have no1:∀ (i:Nat) (g:Int),P[i]? = some (g,some c')->g ≠ h:=fun i g hg z=>by
  subst z
  exact ce (jA B.nd hg ht).2
 have no2:∀ (i:Nat) (g:Int),P[i]? = some (g,some h)->g ≠ c':=fun i g hg z=>by
  obtain ⟨j,q,_,jt,hj,_⟩:=B.par i g h hg
  have:=(jA B.nd hj ht).1
  omega
 obtain ⟨l,hl,hlc⟩:∃ l,l ∈ ls/\(l=(h,c') ∨ l=(c',h)):=by
  rcases L2.dI.mp cn with z | z
  ·exact⟨_,z,.inl rfl⟩
  ·exact⟨_,z,.inr rfl⟩
 have lm:∀ (i:Nat) (g e:Int),P[i]? = some (g,some e)->l ≠ (g,e)/\l ≠ (e,g):=fun i g e hg=>by
  constructor <;> intro z <;> rcases hlc with y | y <;> rw [z] at y <;> cases y
  ·exact no1 i _ hg rfl
  ·exact no2 i _ hg rfl
  ·exact no2 i _ hg rfl
  ·exact no1 i _ hg rfl
 obtain ⟨r1,hr1,u1⟩:=B.root_of lm i c' q hi
 obtain ⟨r2,hr2,u2⟩:=B.root_of lm t h e ht
 have hS:=j9 n
 have hh:h ∈ rng n:=B.inn _ (bc2 ht)
 have cc:c' ∈ comp ls (rng n) h:=i8 h (fI hh) c' cn (B.inn _ hm)
 have k1:=(u1 _ (yJ i8)).mp cc
 have k2:=(u2 _ (yJ (i8 (ls:=ls) (S:=rng n) (h:=h)))).mp (fI hh)
 have e1:r1=r2:=by
  have c1:=kD hS k1 hh
  have c2:=kD hS k2 hh
  refine t9 hS hr1 hr2 (z:=r1) (fI (e7.mp hr1).1) ?_
  rw [c2]; exact k1
 refine aQ5 w (aP0 f.ord) hl fun U hU=>?_
 have:=(u1 U hU).trans ((by rw [e1]:r1 ∈ U ↔ r2 ∈ U).trans (u2 U hU).symm)
 rcases hlc with y | y <;> rw [y]
 ·exact this.symm
 ·exact this
theorem g6.step (B:g6 n ls P t) (w:dG n ls) (f:fJ ls) (ir:∀ h x,x ∈ aO ls h->x ∈ rng n) {h:Int}{e:Option Int} (ht:P[t]? = some (h,e)):g6 n ls (P ++ (bL ls h e).map fun c=>(c,some h)) (t+1):=by
 have tl:t < P.length:=(bc4.mp ht).1
 have km:∀ p ∈ (bL ls h e).map (fun c=>(c,some h)),∃ c ∈ bL ls h e,p=(c,some h):=fun p hp=>let ⟨c,h1,h2⟩:=bd6.mp hp; ⟨c,h1,h2.symm⟩
 refine⟨?_,fun p hp=>?_,fun i g e' hi=>?_,fun i g e' it hi x hx=>?_,fun g=>?_⟩
 ·rw [bd8,bi4,bm8]
  have e0:(bL ls h e).map ((fun p:Int × Option Int=>p.1) ∘ fun c=>(c,some h))=bL ls h e:=List.map_id'' (fun _=>rfl) _
  rw [e0]
  exact⟨B.nd,(f.nnd h).filter _,fun a ha b hb z=>B.fresh w f ht hb (by rw [<- z]; exact ha)⟩
 ·rcases bc9.mp hp with z | z
  ·exact B.inn p z
  ·obtain ⟨c,hc,rfl⟩:=km p z
   exact ir h c (kE.mp hc).1
 ·by_cases il:i < P.length
  ·rw [bf3 il] at hi
   obtain ⟨j,q,ji,jt,hj,en⟩:=B.par i g e' hi
   exact⟨j,q,ji,by omega,by rw [bf3 (by omega)]; exact hj,en⟩
  ·rw [bm3 (by omega)] at hi
   obtain ⟨c,hc,z⟩:=km _ (bc2 hi)
   cases z
   exact⟨t,e,by omega,by omega,by rw [bf3 tl]; exact ht,jU (kE.mp hc).1⟩
 ·rw [bf3 (by omega)] at hi
  by_cases e1:i=t
  ·subst e1
   rw [ht] at hi
   cases hi
   by_cases z:some x=e
   ·exact .inl z.symm
   ·exact .inr (bc9.mpr (.inr (bd6.mpr ⟨x,kE.mpr ⟨hx,z⟩,rfl⟩)))
  ·exact (B.done i g e' (by omega) hi x hx).imp id fun z=>bc9.mpr (.inl z)
 ·rw [<- B.root g]
  refine⟨fun z=>?_,fun z=>bc9.mpr (.inl z)⟩
  rcases bc9.mp z with z | z
  ·exact z
  ·obtain ⟨c,_,z⟩:=km _ z
   cases z
theorem g6.start:g6 n ls ((aV ls (rng n)).map fun h=>(h,none)) 0:=by
 have hS:=j9 n
 refine⟨?_,fun p hp=>?_,fun i g e hi=>?_,fun i g e it=>absurd it (by omega),fun g=>?_⟩
 ·rw [bi4,show (aV ls (rng n)).map ((fun p:Int × Option Int=>p.1) ∘ fun h=>(h,none))=aV ls (rng n) from List.map_id'' (fun _=>rfl) _]
  exact t8 hS
 ·obtain ⟨h,hh,rfl⟩:=bd6.mp hp
  exact (e7.mp hh).1
 ·obtain ⟨h,_,z⟩:=bd6.mp (bc2 hi)
  cases z
 ·refine⟨fun z=>?_,fun z=>bd6.mpr ⟨g,z,rfl⟩⟩
  obtain ⟨h,hh,z⟩:=bd6.mp z
  cases z
  exact hh
theorem g6.len (B:g6 n ls P t):P.length<=n:=by
 have:=fY B.nd (m:=rng n) fun x hx=>by
  obtain ⟨p,hp,rfl⟩:=bd6.mp hx
  exact B.inn p hp
 rwa [bb8,dX] at this
theorem g6.all (B:g6 n ls P P.length):Rt n ls P:=by
 have hS:=j9 n
 have par:∀ (i:Nat) (h e:Int),P[i]? = some (h,some e)->∃ (j:Nat) (q:Option Int),j < i/\P[j]? = some (e,q)/\e ∈ aO ls h:=fun i h e hi=>let ⟨j,q,a,_,b,c⟩:=B.par i h e hi; ⟨j,q,a,b,c⟩
 have done:∀ (h:Int) (e:Option Int),(h,e) ∈ P->∀ x ∈ aO ls h,e=some x ∨ (x,some h) ∈ P:=fun h e hm=>by
  obtain ⟨i,hi⟩:=g9 hm
  exact B.done i h e (bc4.mp hi).1 hi
 refine⟨B.nd,fun h=>⟨fun z=>?_,fun z=>?_⟩,par,done,B.root⟩
 ·obtain ⟨p,hp,rfl⟩:=bd6.mp z
  exact B.inn p hp
 ·have sh:dY ls (rng n) (P.map (·.1)):=fun x hx y hy _=>by
   obtain ⟨⟨x',e⟩,hp,rfl⟩:=bd6.mp hx
   rcases done x' e hp y hy with z | z
   ·subst z
    obtain ⟨i,hi⟩:=g9 hp
    obtain ⟨j,q,_,hj,_⟩:=par i x' y hi
    exact bd6.mpr ⟨_,bc2 hj,rfl⟩
   ·exact bd6.mpr ⟨_,z,rfl⟩
  obtain ⟨r,hr⟩:∃ r,(comp ls (rng n) h).head? = some r:=by
   cases e:comp ls (rng n) h with
   | nil=>have:=fI (ls:=ls) z; rw [e] at this; cases this
   | cons a r=>exact⟨a,rfl⟩
  have rm:=(j7 (gL hS) hr).1
  have rs:=kD hS rm z
  have hd:r ∈ aV ls (rng n):=e7.mpr ⟨pN _ rm,by rw [rs]; exact hr⟩
  have hc:h ∈ comp ls (rng n) r:=by rw [rs]; exact fI z
  exact (gK.mp hc).2 _ sh (bd6.mpr ⟨_,(B.root r).mpr hd,rfl⟩)
end
theorem dD.inr {n:Nat}{ls:List (Int × Int)} (lk:dD n ls) (x y:Int) (hy:y ∈ aO ls x):y ∈ rng n:=by
 rcases L2.dI.mp hy with z | z
 ·have:=lk.1 _ z; exact cT.mpr ⟨by dsimp only at this; omega,by dsimp only at this; omega⟩
 ·have:=lk.1 _ z; exact cT.mpr ⟨by dsimp only at this; omega,by dsimp only at this; omega⟩
theorem dD.nlen {n:Nat}{ls:List (Int × Int)} (lk:dD n ls) (x:Int):(aO ls x).length<=n:=by
 have:=fY (lk.fit.nnd x) (m:=rng n) fun y hy=>lk.inr x y hy
 rwa [dX] at this
noncomputable def tE:bH:=fun xs Q=>∃ ws ls,xs = [bF ws ls]/\Wb ws ls/\(dG ws.length ls->Q (.bl true))/\(¬ dG ws.length ls->Q (.bl false))
noncomputable def Y7:aK:=(bG (iY (aB cP (a6 (aX (a5 0) (qC (.int 1))) a9)) (gQ (aB gJ (a6 (a5 0) a9)) (aB cP (a6 (aB nQ (a6 (a5 0) a9)) a9)))))
theorem aQ6:cF Y7 ["web"] tE:=by
 rintro xs Q ⟨ws,ls,rfl,wb,q1,q2⟩
 refine⟨_,rfl,_,_,_,rfl,rfl,rfl,_,_,rfl,rfl,_,rfl,ws,ls,rfl,_,rfl,ws,ls,rfl,wb,_,_,rfl,rfl,_,_,rfl,rfl,.inl ⟨_,_,rfl,rfl,trivial,?_⟩⟩
 have a:(aH ls).length=ls.length:=bb8 _
 have b:(tups (iJ ls (rng ws.length))).length=(aV ls (rng ws.length)).length:=by rw [sI]; unfold iJ; rw [bb8]
 show Q (.bl (decide (((aH ls).length:Int)=(ws.length:Int) - ((tups (iJ ls (rng ws.length))).length:Int))))
 rw [a,b]
 by_cases w:dG ws.length ls
 ·have:=q1 w
  unfold dG at w
  rw [bc0 (by omega)]; exact this
 ·have:=q2 w
  unfold dG at w
  rw [bc3 (by omega)]; exact this
noncomputable def l9:bH:=fun xs Q=>∃ (n:Nat) (ls:List (Int × Int)) (h:Int) (e:Option Int),xs = [.lst (cU n ls),.int h,i6 e]/\0<=h/\h < (n:Int)/\(aO ls h).length<=1000/\Q (.lst (intz (bL ls h e)))
noncomputable def Y8:aK:=(bG (cS (dM (aX (a5 0) (a5 1))) [none,some 2] (bZ 0) (b9 (q2 xV (a5 0) (a5 1))) (a5 0)))
theorem aQ7:cF Y8 ["around","hearth","elder"] l9:=by
 rintro xs Q ⟨n,ls,h,e,rfl,h0,h1,hl,q⟩
 refine⟨_,rfl,_,rfl,_,_,_,rfl,rfl,wX h0 h1,intz (aO ls h),rfl,(fun z=>by cases z),by rw [bO]; omega,fun i acc=>acc=intz (((aO ls h).take i).filter fun x=>!decide (some x=e)),rfl,?_,?_⟩
 ·rintro i y acc hy rfl
  obtain ⟨x,rfl,hx⟩:=j4 hy
  have tk:=pF (p:=fun x=>!decide (some x=e)) hx
  refine⟨_,rfl,_,rfl,x,e,rfl,rfl,_,rfl,?_⟩
  by_cases z:some x=e
  ·rw [bc0 z.symm]
   refine bB ?_
   dsimp only
   rw [tk,bc0 z]; exact (bj0 _).symm ▸ rfl
  ·rw [bc3 fun y=>z y.symm]
   refine bD ⟨_,rfl,trivial,?_⟩
   dsimp only
   rw [tk,bc3 z,fU]; rfl
 ·rintro acc rfl
  rw [bO,bf5 (bc5 _)]
  exact⟨trivial,q⟩
noncomputable def tF (p:Int × Option Int):PV:=.tup [.int p.1,i6 p.2]
noncomputable def dE (P:bX):List PV:=P.map tF
theorem jB (P:bX):(dE P).length=P.length:=bb8 _
theorem Y9 {P:bX}{i:Nat}{p:Int × Option Int} (h:P[i]? = some p):L2.atI (dE P) (i:Int)=some (tF p):=jM (by unfold dE; rw [bd1,h]; rfl)
noncomputable def nS:bH:=fun xs Q=>∃ ws ls,xs = [bF ws ls]/\Wb ws ls/\dD ws.length ls/\dG ws.length ls/\∀ P,Rt ws.length ls P->Q (.lst (dE P))
noncomputable def Z0:aK:=(mR (b9 (lV (a5 3) (aB cP (a6 (a5 2) a9))))
  (aE (b6 4 (aX (aX (a5 2) (a5 3)) (qC (.int 0))))
  (aE (vX 2 (cS (dM (aB l9 (a6 (a5 1) (a6 (a5 4) (a6 (aX (aX (a5 2) (a5 3)) (qC (.int 1))) a9))))) [none,some 4] (bZ 0) dB (dJ (a6 (a5 0) (a6 (a5 1) a9)))))
  (b6 3 (bN (a5 3) (qC (.int 1)))))))
noncomputable def Z1:aK:=(aE (cB (lP (b9 (aB tE (a6 (a5 0) a9)))) rT cD)
 (aE (b6 1 (aB iH (a6 (a5 0) a9)))
 (aE (e9 2 (cS (dM (aB nQ (a6 (a5 0) a9))) [none] (bZ 0) dB (dJ (a6 (aX (a5 0) (qC (.int 0))) (a6 (qC .non) a9)))))
 (aE (b6 3 (qC (.int 0)))
 (aE Z0
 (iT 2))))))
section
variable {ws : List Int} {ls : List (Int × Int)} {E : fB} {s0 : Option Slot} {n : Nat}
theorem Z2 (P:bX):flats (dE P)=true:=by
 induction P with
 | nil=>rfl
 | cons p P ih=>
  show (flat (tF p) && flats (dE P))=true
  rw [ih,Bool.and_true]
  obtain ⟨h,e⟩:=p
  cases e <;> rfl
theorem aQ8 (n40:n<=40) (lk:dD n ls) (w:dG n ls) (k:∀ P y3 y4,Rt n ls P->E.nx [s0,some (.sh true (.lst (cU n ls))),some (.own (.lst (dE P))),y3,y4]) {y4:Option Slot} :
  Z0 E [s0,some (.sh true (.lst (cU n ls))),some (.own (.lst (dE ((aV ls (rng n)).map fun h=>(h,none))))),si 0,y4]:=by
 refine⟨fun m ρ=>∃ (P:bX) (t:Nat) (y4:Option Slot),ρ = [s0,some (.sh true (.lst (cU n ls))),some (.own (.lst (dE P))),si t,y4]/\g6 n ls P t/\t<=P.length/\m=n - t,⟨_,_,0,y4,rfl,g6.start,bg8 _,rfl⟩,?_⟩
 rintro m ρ ⟨P,t,y4,rfl,B,tl,rfl⟩
 have pl:=B.len
 refine⟨_,rfl,_,rfl,_,_,rfl,rfl,_,_,rfl,rfl,_,rfl,?_⟩
 rw [jB]
 by_cases lt:t < P.length
 ·rw [bc0 (by omega)]
  obtain ⟨⟨h,e⟩,ht⟩:∃ p,P[t]? = some p:=⟨_,bb9 lt⟩
  have hr:=cT.mp (B.inn _ (bc2 ht))
  dsimp only at hr
  have nl:=lk.nlen h
  refine bD ⟨_,rfl,_,rfl,_,_,_,rfl,rfl,Y9 ht,_,_,_,rfl,rfl,rfl,rfl,?_⟩
  refine⟨dE P,rfl,_,rfl,_,rfl,_,rfl,_,rfl,_,_,_,rfl,rfl,Y9 ht,_,_,_,rfl,rfl,rfl,n,ls,h,e,rfl,hr.1,hr.2,by omega,intz (bL ls h e),rfl,(fun z=>by cases z),?_,fun i acc=>acc=dE (((bL ls h e).take i).map fun c=>(c,some h)),rfl,?_,?_⟩
  ·rw [bO]; have:=bg7 (fun x=>!decide (some x=e)) (aO ls h); unfold bL; omega
  ·rintro i y acc hy rfl
   obtain ⟨c,rfl,hc⟩:=j4 hy
   refine⟨_,rfl,_,rfl,by show 2<=1000; decide,rfl,trivial,?_⟩
   dsimp only
   rw [bf8,hc,bd8]
   unfold dE
   rw [bd8]
   rfl
  ·rintro acc rfl
   rw [bO,bf5 (bc5 _)]
   have kl:(bL ls h e).length<=n:=by have:=bg7 (fun x=>!decide (some x=e)) (aO ls h); unfold bL; omega
   refine⟨_,.inr rfl,.inr (Z2 _),by rw [jB,jB,bb8]; omega,_,rfl,_,_,rfl,rfl,trivial,n - (t+1),by omega,P ++ (bL ls h e).map (fun c=>(c,some h)),t+1,si h,?_,B.step w lk.fit (fun h x=>lk.inr h x) ht,by rw [bd3]; omega,rfl⟩
   unfold dE
   rw [<- bd8]
   rfl
 ·rw [bc3 (by omega)]
  have:t=P.length:=by omega
  subst this
  exact bB (k P _ _ B.all)
end
theorem aQ9:cF Z1 ["web","around","pairs","turn","hearth"] nS:=by
 rintro xs Q ⟨ws,ls,rfl,wb,lk,w,q⟩
 have few:=wb.few
 have hS:=j9 ws.length
 refine⟨_,rfl,ws,ls,rfl,wb,fun _=>?_,fun z=>absurd w z⟩
 refine⟨_,rfl,bB ?_⟩
 refine⟨_,rfl,ws,ls,rfl,wb,trivial,?_⟩
 refine⟨_,rfl,ws,ls,rfl,wb,tups (iJ ls (rng ws.length)),rfl,(fun z=>by cases z),?_,fun i acc=>acc=dE (((aV ls (rng ws.length)).take i).map fun h=>(h,none)),rfl,?_,?_⟩
 ·rw [sI]; unfold iJ; rw [bb8]
  have:=bg7 (pO ls (rng ws.length)) (rng ws.length)
  rw [dX] at this
  unfold aV; omega
 ·rintro i y acc hy rfl
  unfold tups iJ at hy
  rw [bi4,bd1] at hy
  cases hz:(aV ls (rng ws.length))[i]? with
  | none=>rw [hz] at hy; cases hy
  | some h=>
   rw [hz] at hy
   cases hy
   obtain ⟨h1,h2⟩:=e7.mp (bc2 hz)
   have h3:L2.atI (intz (comp ls (rng ws.length) h)) 0=some (.int h):=by
    cases e:comp ls (rng ws.length) h with
    | nil=>rw [e] at h2; cases h2
    | cons a r=>rw [e] at h2; cases h2; exact jM (j:=0) rfl
   refine⟨_,rfl,_,_,_,rfl,rfl,h3,by show 2<=1000; decide,rfl,trivial,?_⟩
   dsimp only
   rw [bf8,hz,bd8]
   unfold dE
   rw [bd8]
   rfl
 ·rintro acc rfl
  rw [show (tups (iJ ls (rng ws.length))).length=(aV ls (rng ws.length)).length by rw [sI]; unfold iJ; rw [bb8],bf5 (bc5 _)]
  refine⟨rfl,Z2 _,trivial,?_⟩
  refine aQ8 few lk w fun P y3 y4 R=>?_
  exact⟨_,rfl,trivial,q P R⟩
structure TL (k:Nat) (lks:List (Int × Int)):Prop where
 inn:∀ l ∈ lks,0<=l.1/\l.1 < l.2/\l.2 < (k:Int)
 nd:(lks.map (·.2)).Nodup
 few:lks.length<=k
theorem TL.same {k:Nat}{lks:List (Int × Int)} (h:TL k lks):TL (k+1) lks:=⟨fun l hl=>by have:=h.inn l hl; omega,h.nd,by have:=h.few; omega⟩
theorem TL.app {k:Nat}{lks:List (Int × Int)} (h:TL k lks) {e:Int} (e0:0<=e) (e1:e < (k:Int)):TL (k+1) (lks ++ [(e,(k:Int))]):=by
 refine⟨fun l hl=>?_,?_,by rw [bd3,bf6]; have:=h.few; omega⟩
 ·rcases bc9.mp hl with z | z
  ·have:=h.inn l z; omega
  ·rw [bc1.mp z]; dsimp only; omega
 ·rw [bd8,bm8]
  refine⟨h.nd,be8 _ _,fun a ha b hb e=>?_⟩
  obtain ⟨l,hl,rfl⟩:=bd6.mp ha
  rw [List.map_singleton,bc1] at hb
  have:=h.inn l hl
  omega
theorem TL.snd {k:Nat}{lks:List (Int × Int)} (h:TL k lks) {a b c:Int} (ha:(a,c) ∈ lks) (hb:(b,c) ∈ lks):a=b:=by
 obtain ⟨i,hi⟩:=bj7.mp ha
 obtain ⟨j,hj⟩:=bj7.mp hb
 have h1:(lks.map (·.2))[i]? = some c:=by rw [bd1,hi]; rfl
 have h2:(lks.map (·.2))[j]? = some c:=by rw [bd1,hj]; rfl
 have:=(List.getElem?_inj (bc4.mp h1).1 h.nd).mp (h1.trans h2.symm)
 subst this
 rw [hi] at hj
 exact (bq6 (be3 hj)).1
theorem TL.ndl {k:Nat}{lks:List (Int × Int)} (h:TL k lks):lks.Nodup:=(bl3.mp h.nd).imp fun z e=>z (by rw [e])
structure Pl (m:Nat) (p:Int->Int):Prop where
 inn:∀ i,0<=i->i < (m:Int)->0<=p i/\p i < (m:Int)
 inj:∀ i j,0<=i->i < (m:Int)->0<=j->j < (m:Int)->p i=p j->i=j
 onto:∀ x,x ∈ rng m->∃ i,0<=i/\i < (m:Int)/\p i=x
noncomputable def fL (p:Int->Int) (l:Int × Int):Int × Int:=(min (p l.1) (p l.2),max (p l.1) (p l.2))
theorem aR0 {m:Nat}{p:Int->Int}{lks:List (Int × Int)} (P:Pl m p) (T:TL m lks):∀ l ∈ lks.map (fL p),0<=l.1/\l.1 < l.2/\l.2 < (m:Int):=by
 intro l0 hl0
 obtain ⟨l,hl,rfl⟩:=bd6.mp hl0
 have h:=T.inn l hl
 have a:=P.inn l.1 (by omega) (by omega)
 have b:=P.inn l.2 (by omega) (by omega)
 have c:p l.1 ≠ p l.2:=fun e=>by have:=P.inj _ _ (by omega) (by omega) (by omega) (by omega) e; omega
 unfold fL
 dsimp only
 omega
theorem yK {p:Int->Int}{l:Int × Int}{x y:Int} (e:fL p l=(x,y) ∨ fL p l=(y,x)):(p l.1=x/\p l.2=y) ∨ (p l.1=y/\p l.2=x):=by
 unfold fL at e
 rcases e with e | e <;> (have e1:=(bq6 e).1; have e2:=(bq6 e).2; omega)
theorem aR1 {m:Nat}{p:Int->Int}{lks:List (Int × Int)} (P:Pl m p) (T:TL m lks):(lks.map (fL p)).Nodup:=by
 refine bl3.mpr (T.ndl.imp_of_mem fun {a b} ha hb hab e=>hab ?_)
 have h1:=T.inn a ha
 have h2:=T.inn b hb
 rcases yK (x:=(fL p b).1) (y:=(fL p b).2) (.inl e) with ⟨c,d⟩ | ⟨c,d⟩ <;> rcases yK (p:=p) (l:=b) (x:=(fL p b).1) (y:=(fL p b).2) (.inl rfl) with ⟨c',d'⟩ | ⟨c',d'⟩
 ·exact Prod.ext (P.inj _ _ (by omega) (by omega) (by omega) (by omega) (c.trans c'.symm)) (P.inj _ _ (by omega) (by omega) (by omega) (by omega) (d.trans d'.symm))
 ·have e1:=P.inj a.1 b.2 (by omega) (by omega) (by omega) (by omega) (c.trans d'.symm)
  have e2:=P.inj a.2 b.1 (by omega) (by omega) (by omega) (by omega) (d.trans c'.symm)
  omega
 ·have e1:=P.inj a.1 b.2 (by omega) (by omega) (by omega) (by omega) (c.trans d'.symm)
  have e2:=P.inj a.2 b.1 (by omega) (by omega) (by omega) (by omega) (d.trans c'.symm)
  omega
 ·exact Prod.ext (P.inj _ _ (by omega) (by omega) (by omega) (by omega) (c.trans c'.symm)) (P.inj _ _ (by omega) (by omega) (by omega) (by omega) (d.trans d'.symm))
theorem Z3 {f:Int->Int->Prop}:∀ {U:List Int},U ≠ []->(∀ x ∈ U,∃ i,f x i)->∃ x ∈ U,∃ i,f x i/\∀ y ∈ U,∃ j,f y j/\j<=i
 | [x],_,h=>by
  obtain ⟨i,hi⟩:=h x bc6
  exact⟨x,bc6,i,hi,fun y hy=>by rw [bc1.mp hy]; exact⟨i,hi,Int.le_refl _⟩⟩
 | x :: z :: r,_,h=>by
  obtain ⟨i,hi⟩:=h x bc6
  obtain ⟨y,hy,j,hj,m⟩:=Z3 (U:=z :: r) (by simp) fun y hy=>h y (bd4 _ hy)
  by_cases le:i<=j
  ·refine⟨y,bd4 _ hy,j,hj,fun w hw=>?_⟩
   rcases bd0.mp hw with e | e
   ·rw [e]; exact⟨i,hi,le⟩
   ·exact m w e
  ·refine⟨x,bc6,i,hi,fun w hw=>?_⟩
   rcases bd0.mp hw with e | e
   ·rw [e]; exact⟨i,hi,Int.le_refl _⟩
   ·obtain ⟨k,hk,kl⟩:=m w e; exact⟨k,hk,by omega⟩
theorem aR2 {m:Nat}{p:Int->Int}{lks ls:List (Int × Int)} (P:Pl m p) (T:TL m lks) (pm:ls.Perm (lks.map (fL p))) (f:fJ ls):yC ls (rng m):=by
 intro U two sub
 refine bi9 fun ne=>?_
 obtain ⟨x,hx,i,⟨i0,i1,hi⟩,mx⟩:=Z3 (f:=fun x i=>0<=i/\i < (m:Int)/\p i=x) ne fun x hx=>P.onto x (sub x hx)
 obtain ⟨a,b,na,nb,ua,ub,ab⟩:=aP2 (f.nnd x) (two x hx)
 have up:∀ y,y ∈ aO ls x->y ∈ U->∃ j,(j,i) ∈ lks/\p j=y:=fun y hy hu=>by
  obtain ⟨j,⟨j0,j1,hj⟩,ji⟩:=mx y hu
  obtain ⟨l,hl,e⟩:∃ l ∈ lks,fL p l=(x,y) ∨ fL p l=(y,x):=by
   rcases L2.dI.mp hy with z | z
   ·obtain ⟨l,hl,e⟩:=bd6.mp (pm.mem_iff.mp z); exact⟨l,hl,.inl e⟩
   ·obtain ⟨l,hl,e⟩:=bd6.mp (pm.mem_iff.mp z); exact⟨l,hl,.inr e⟩
  have h:=T.inn l hl
  rcases yK e with ⟨c,d⟩ | ⟨c,d⟩
  ·have e1:=P.inj l.1 i (by omega) (by omega) i0 i1 (c.trans hi.symm)
   have e2:=P.inj l.2 j (by omega) (by omega) j0 j1 (d.trans hj.symm)
   omega
  ·have e1:=P.inj l.2 i (by omega) (by omega) i0 i1 (d.trans hi.symm)
   exact⟨l.1,by rw [<- e1]; exact hl,c⟩
 obtain ⟨j,hj,ej⟩:=up a na ua
 obtain ⟨k,hk,ek⟩:=up b nb ub
 exact ab (by rw [<- ej,<- ek,T.snd hj hk])
theorem aR3 {n:Nat}{ls:List (Int × Int)} (lk:dD n ls) (no:yC ls (rng n)):dG n ls:=by
 have h1:=yE lk.fit n (rng n) (by rw [dX]; exact bc5 _) (j9 n) no
 have h2:=yI (j9 n) ls
 have e:ls.filter (fX (rng n))=ls:=List.filter_eq_self.mpr fun l hl=>by
  have:=lk.1 l hl
  unfold fX
  rw [bc0 (cT.mpr ⟨by omega,by omega⟩),bc0 (cT.mpr ⟨by omega,by omega⟩)]; rfl
 unfold mu at h1
 rw [e,dX] at h1
 rw [e,dX] at h2
 unfold dG
 omega
noncomputable def tG:bH:=fun xs Q=>∃ (ns:List Int) (m:Nat) (dg:Bool),xs = [.scr ns,.int m,.bl dg]/\ns.length<=63/\m<=40/\∀ ps:List Int,ps.Perm (rng m)->Q (.lst (intz ps))
noncomputable def Z4:aK:=(aE (b6 6 (aB gV (a6 (aB dS (a6 (a5 0) (a6 (qC (.int 3)) a9))) (a6 (bN (a5 5) (qC (.int 5))) a9))))
   (aE (cB (mT (a5 2)) (aE (b6 6 (a5 4))
    (b6 4 (fR (a5 4) (bN (a5 5) (qC (.int 1)))))) cD)
   (sU 3 (bT (a5 6) (bN (a5 5) (qC (.int 1)))) (a5 5))))
noncomputable def Z5:aK:=(aE (e9 3 (wY (a5 1)))
 (aE (b6 4 (aB dS (a6 (a5 0) (a6 (qC (.int 3)) a9))))
 (aE (cB (b9 (iY (bT (fR (aB dS (a6 (a5 0) (a6 (qC (.int 1)) a9))) (qC (.int 3))) (qC (.int 2))) (qC (.int 1)))) (aE (e9 3 (dL a9))
  (eJ (iV (a5 1)) (bZ 5)
   Z4)) cD)
 (iT 3))))
theorem aR4 {ns:List Int}{s1 y6:Option Slot}{dg:Bool}{ps:List Int}{nb:Int}{k:Nat}{E:fB} (k40:k < 40) (hp:ps.Perm (rng k))
  (nx:∀ (ps:List Int) (nb:Int) (y6:Option Slot),ps.Perm (rng (k+1))->E.nx [some (.sh true (.scr ns)),s1,some (.sh true (.bl dg)),some (.own (.lst (intz ps))),si nb,si k,y6]) :
  Z4 E [some (.sh true (.scr ns)),s1,some (.sh true (.bl dg)),some (.own (.lst (intz ps))),si nb,si k,y6]:=by
 have pl:=hp.length_eq
 rw [dX] at pl
 have fin:∀ (sp nb:Int),(sU 3 (bT (a5 6) (bN (a5 5) (qC (.int 1)))) (a5 5)) E [some (.sh true (.scr ns)),s1,some (.sh true (.bl dg)),some (.own (.lst (intz ps))),si nb,si k,si sp]:=fun sp nb=>by
  have h0:=bh3 sp (show (k:Int)+1 ≠ 0 by omega)
  have h1:=bm0 sp (show (0:Int) < (k:Int)+1 by omega)
  refine⟨intz ps,rfl,_,rfl,_,rfl,_,_,rfl,rfl,_,_,rfl,rfl,by show (0:Int) < (k:Int)+1; omega,(sp % ((k:Int)+1)).toNat,by show PV.int (sp % ((k:Int)+1))=_; rw [Int.toNat_of_nonneg h0],by rw [bO]; omega,by rw [bO]; omega,_,rfl,trivial,?_⟩
  have e:(intz ps).take (sp % ((k:Int)+1)).toNat ++ PV.int k :: (intz ps).drop (sp % ((k:Int)+1)).toNat=intz (ps.take (sp % ((k:Int)+1)).toNat ++ (k:Int) :: ps.drop (sp % ((k:Int)+1)).toNat):=by
   unfold intz; rw [bd8,List.map_take,bi1,List.map_drop]
  have:=nx (ps.take (sp % ((k:Int)+1)).toNat ++ (k:Int) :: ps.drop (sp % ((k:Int)+1)).toNat) nb (si sp) (by
   rw [aM7]
   refine (List.perm_middle).trans ?_
   rw [List.take_append_drop]
   exact (List.Perm.cons _ hp).trans (List.perm_append_singleton _ _).symm)
  rw [<- e] at this
  exact this
 refine⟨_,rfl,_,ns,3,rfl,.inl rfl,by decide,_,rfl,_,_,rfl,rfl,_,_,rfl,by omega,by omega,fun z _=>⟨trivial,?_⟩⟩
 refine⟨_,rfl,_,rfl,?_⟩
 cases dg with
 | false=>exact bB (fin z nb)
 | true=>exact bD ⟨_,rfl,trivial,_,rfl,_,rfl,_,_,rfl,rfl,_,_,rfl,rfl,⟨by show (0:Int) < (k:Int)+1; omega,by omega⟩,trivial,fin nb _⟩
theorem Z6 (n:Nat):fD 0 n=intz (rng n):=by
 refine List.ext_getElem? fun i=>?_
 by_cases h:i < n
 ·rw [wD h]
  unfold intz
  rw [bd1,wU h,bo8]; rfl
 ·rw [List.getElem?_eq_none (by rw [fE]; omega),List.getElem?_eq_none (by rw [bO,dX]; omega)]
theorem aR5:cF Z5 ["script","many","digits","places","number","k","spot"] tG:=by
 rintro xs Q ⟨ns,m,dg,rfl,hl,m40,q⟩
 refine⟨_,rfl,m,rfl,by omega,by omega,rfl,?_,?_⟩
 ·show flats (fD 0 (m:Int).toNat)=true
  rw [Z6]; exact eF _
 rw [Z6,be5]
 refine⟨_,rfl,_,ns,3,rfl,.inl rfl,by decide,trivial,?_⟩
 dsimp only
 generalize ns.getD (3:Int).toNat 0=nb
 refine⟨_,rfl,_,ns,1,rfl,.inl rfl,by decide,_,_,rfl,rfl,⟨by decide,by decide⟩,_,_,rfl,rfl,(by show (0:Int) < 2; decide),.inl ⟨_,_,rfl,rfl,_,rfl,?_⟩⟩
 generalize (if false=true then _ else _:Bool)=b
 cases b with
 | false=>exact bB ⟨_,rfl,trivial,q _ (List.Perm.refl _)⟩
 | true=>
  refine bD ⟨by decide,rfl,rfl,rfl,?_⟩
  refine⟨_,rfl,m,rfl,by omega,by omega,fun k ρ=>∃ (ps:List Int) (nb:Int) (y5 y6:Option Slot),ρ = [some (.sh true (.scr ns)),si m,some (.sh true (.bl dg)),some (.own (.lst (intz ps))),si nb,y5,y6]/\ps.Perm (rng k),⟨[],nb,none,none,rfl,List.Perm.refl _⟩,?_,?_⟩
  ·rintro k y ρ hy ⟨ps,nb,y5,y6,rfl,hp⟩
   obtain ⟨rfl,hk⟩:=j5 hy
   have hk:k < m:=by omega
   refine i7 ?_
   rw [bo8]
   exact aR4 (by omega) hp fun ps nb y6 h=>⟨ps,nb,si k,y6,rfl,h⟩
  ·rintro ρ ⟨ps,nb,y5,y6,rfl,hp⟩
   rw [fE,be5] at hp
   exact⟨_,rfl,trivial,q ps hp⟩
noncomputable def Z7 (mx:Int):bH:=fun xs Q=>∃ (ns:List Int) (most:Int),xs = [.scr ns,.int most]/\ns.length<=63/\0<=most/\most<=mx/\∀ (n:Nat) ws ls,(n:Int)<=most->WL n ws ls->dD n ls->dG n ls->Q (bF ws ls)
noncomputable def Z8 (R:List PV->(PV->Prop)->Prop):Prop:=∀ (ls:List (Int × Int)) (Q:PV->Prop),ls.length < 64->(∀ ls':List (Int × Int),ls'.Perm ls->(ls'.map two).Pairwise (fun u v=>HT.fM v u=false)->Q (.lst (aH ls')))->R [.lst (aH ls)] Q
theorem aR6:Z8 sK:=fun ls Q few q=>by
 refine⟨ls.map two,by rw [T6],by rw [bb8]; exact few,fun y hy=>by obtain ⟨l,_,rfl⟩:=bd6.mp hy; exact List.cons_ne_nil _ _,fun Z pz so=>?_⟩
 obtain ⟨ls',rfl,pl⟩:=aH4 pz
 have:=q ls' pl so
 rw [T6] at this
 exact this
noncomputable def Z9:aK:=(aE (i4 4 (dJ (a6 (a5 9) (a6 (a5 7) a9))))
   (aE (lR 5 (a5 9) (bN (aX (a5 5) (a5 9)) (qC (.int 1))))
   (lR 5 (a5 7) (bN (aX (a5 5) (a5 7)) (qC (.int 1))))))
noncomputable def aa0:aK:=(cB (b9 (lW (bT (a5 8) (qC (.int 8))) (qC (.int 0)))) (aE (b6 9 (bT (fR (a5 8) (qC (.int 8))) (a5 7)))
   (aE (cB (b9 (iY (bT (aB dS (a6 (a5 0) (a6 (qC (.int 1)) a9))) (qC (.int 3))) (qC (.int 1)))) (b6 9 (aB kN (a6 (qC (.int 0)) (a6 (gQ (gQ (a5 7) (qC (.int 1))) (bT (fR (a5 8) (qC (.int 8))) (qC (.int 3)))) a9)))) cD)
   Z9)) cD)
noncomputable def aa1:aK:=(aE (b6 8 (aB gV (a6 (aX (a5 6) (a5 7)) (a6 (a5 7) a9))))
  (aE (cB (mT (a5 3)) (b6 8 (fR (aX (a5 6) (a5 7)) (qC (.int 64)))) cD)
  aa0))
noncomputable def aa2 (R:List PV->(PV->Prop)->Prop):aK:=(aE (oR 4 (b6 12 (cS (dM (a5 4)) [none,none,some 10] (eI 0 1) dB (dJ (a6 (aB mS (a6 (aX (a5 2) (a5 0)) (a6 (aX (a5 2) (a5 1)) a9))) (a6 (aB kN (a6 (aX (a5 2) (a5 0)) (a6 (aX (a5 2) (a5 1)) a9))) a9))))))
 (bG (dJ (a6 (aB iZ (a6 (a5 11) a9)) (a6 (aB iZ (a6 (aB R (a6 (a5 12) a9)) a9)) a9)))))
noncomputable def aa3:aK:=(aE (b6 10 (aB tG (a6 (a5 0) (a6 (a5 2) (a6 (a5 3) a9)))))
 (aE (e9 11 (pK (dL (a6 (qC (.int 0)) a9)) (a5 2)))
 (aE (eJ (iV (a5 2)) (bZ 7)
  (lR 11 (aX (a5 10) (a5 7)) (bT (aX (a5 6) (a5 7)) (bN (aX (a5 5) (a5 7)) (qC (.int 2))))))
 (aa2 sK))))
noncomputable def aa4:aK:=(aE (b6 2 (aB sZ (a6 (a5 0) (a6 (a5 1) a9))))
 (aE (b6 3 (iY (bT (fR (aB dS (a6 (a5 0) (a6 (qC (.int 1)) a9))) (qC (.int 8))) (qC (.int 2))) (qC (.int 1))))
 (aE (e9 4 (dL a9))
 (aE (e9 5 (pK (dL (a6 (qC (.int 0)) a9)) (a5 2)))
 (aE (e9 6 (jZ (a5 0) (iX (qC (.int 4))) (iX (bN (qC (.int 4)) (a5 2)))))
 (aE (eJ (rO (aB cP (a6 (a5 6) a9)) (a5 2)) (bZ 7)
  (i4 6 (aB gV (a6 (aB dS (a6 (a5 0) (a6 (qC (.int 1)) a9))) (a6 (a5 7) a9)))))
 (aE (eJ (rO (qC (.int 1)) (a5 2)) (bZ 7)
  aa1)
 aa3)))))))
section
variable {ns : List Int} {m k : Nat} {dg : Bool} {cs cts : List Int} {lks : List (Int × Int)} {s1 y8 y9 y10 y11 y12 : Option Slot} {E : fB}
theorem aa5 {e nb:Int} (hc:m<=cs.length) (hk:k < m) (m40:m<=40) (T:TL k lks) (cl:cts.length=m) (nn:NN cts) (e0:0<=e) (e1:e < (k:Int)) {s0 s3 s6:Option Slot}
  (nx:∀ (lks':List (Int × Int)) (cts':List Int),TL (k+1) lks'->cts'.length=m->NN cts'->E.nx [s0,s1,si m,s3,some (.own (.lst (aH lks'))),some (.own (.lst (intz cts'))),s6,si k,si nb,si e,y10,y11,y12]) :
  Z9 E [s0,s1,si m,s3,some (.own (.lst (aH lks))),some (.own (.lst (intz cts))),s6,si k,si nb,si e,y10,y11,y12]:=by
 have pl:(aH lks).length=lks.length:=bb8 _
 have fw:=T.few
 obtain ⟨j,rfl⟩:∃ j:Nat,e=j:=⟨e.toNat,by omega⟩
 refine⟨_,rfl,_,rfl,_,rfl,by show 2<=1000; decide,rfl,trivial,by rw [pl]; omega,?_⟩
 have a1:=iK (ws:=cts) (j:=j) (by omega)
 refine⟨_,rfl,_,rfl,_,_,_,rfl,rfl,a1,_,_,rfl,rfl,_,rfl,_,rfl,j,j,rfl,?_,trivial,?_⟩
 ·rw [bO]; unfold gD; rw [if_pos (by omega),if_pos (by omega)]; rfl
 have q1:(intz cts).set j (.int (cts.getD j 0+1))=intz (cts.set j (cts.getD j 0+1)):=(List.map_set ..).symm
 have n1:NN (cts.set j (cts.getD j 0+1)):=nn.set (by have:=m9 nn j; omega) _
 dsimp only
 rw [q1]
 have l1:(cts.set j (cts.getD j 0+1)).length=m:=by rw [bg1]; exact cl
 generalize cts.set j (cts.getD j 0+1)=ct2 at n1 l1
 have a2:=iK (ws:=ct2) (j:=k) (by omega)
 refine⟨_,rfl,_,rfl,_,_,_,rfl,rfl,a2,_,_,rfl,rfl,_,rfl,_,rfl,k,k,rfl,?_,trivial,?_⟩
 ·rw [bO]; unfold gD; rw [if_pos (by omega),if_pos (by omega)]; rfl
 have q2:(intz ct2).set k (.int (ct2.getD k 0+1))=intz (ct2.set k (ct2.getD k 0+1)):=(List.map_set ..).symm
 have n2:NN (ct2.set k (ct2.getD k 0+1)):=n1.set (by have:=m9 n1 k; omega) _
 dsimp only
 rw [q2]
 have:=nx (lks ++ [((j:Int),(k:Int))]) (ct2.set k (ct2.getD k 0+1)) (T.app e0 e1) (by rw [bg1]; exact l1) n2
 unfold aH at this ⊢
 rw [bd8] at this
 exact this
theorem aa6 {nb:Int} (hc:m<=cs.length) (k1:1<=k) (hk:k < m) (m40:m<=40) (T:TL k lks) (cl:cts.length=m) (nn:NN cts) {s3 s6:Option Slot}
  (nx:∀ (y9:Option Slot) (lks':List (Int × Int)) (cts':List Int),TL (k+1) lks'->cts'.length=m->NN cts'->E.nx [some (.sh true (.scr ns)),s1,si m,s3,some (.own (.lst (aH lks'))),some (.own (.lst (intz cts'))),s6,si k,si nb,y9,y10,y11,y12]) :
  aa0 E [some (.sh true (.scr ns)),s1,si m,s3,some (.own (.lst (aH lks))),some (.own (.lst (intz cts))),s6,si k,si nb,y9,y10,y11,y12]:=by
 refine⟨_,rfl,_,_,rfl,rfl,(by show (0:Int) < 8; decide),_,_,rfl,rfl,_,rfl,m7 ?_ (nx y9 lks cts T.same cl nn)⟩
 have e0:=bh3 (nb / 8) (show (k:Int) ≠ 0 by omega)
 have e1:=bm0 (nb / 8) (show (0:Int) < (k:Int) by omega)
 refine⟨_,rfl,_,_,rfl,rfl,⟨by decide,by decide⟩,_,rfl,_,_,rfl,rfl,(by show (0:Int) < (k:Int); omega),trivial,?_⟩
 refine⟨_,rfl,_,ns,1,rfl,.inl rfl,by decide,_,_,rfl,rfl,(by show (0:Int) < 3; decide),.inl ⟨_,_,rfl,rfl,_,rfl,m7 ?_ (aa5 hc hk m40 T cl nn e0 e1 fun l c a b d=>nx _ l c a b d)⟩⟩
 refine⟨_,rfl,_,_,rfl,rfl,_,rfl,_,_,rfl,rfl,⟨by decide,by decide⟩,_,_,rfl,rfl,(by show (0:Int) < 3; decide),_,_,rfl,rfl,_,_,rfl,trivial,?_⟩
 have h0:=bh3 (nb / 8) (show (3:Int) ≠ 0 by decide)
 dsimp only
 generalize hz:(if (k:Int) - 1 - nb / 8 % 3 > 0 then (k:Int) - 1 - nb / 8 % 3 else 0)=z
 have z0:0<=z:=by rw [<- hz]; split <;> omega
 have z1:z < (k:Int):=by rw [<- hz]; split <;> omega
 exact aa5 hc hk m40 T cl nn z0 z1 fun l c a b d=>nx _ l c a b d
theorem aR7 (hc:m<=cs.length) (k1:1<=k) (hk:k < m) (m40:m<=40) (T:TL k lks) (cl:cts.length=m) (nn:NN cts)
  (nx:∀ (y8 y9:Option Slot) (lks':List (Int × Int)) (cts':List Int),TL (k+1) lks'->cts'.length=m->NN cts'->E.nx [some (.sh true (.scr ns)),s1,si m,some (.sh true (.bl dg)),some (.own (.lst (aH lks'))),some (.own (.lst (intz cts'))),some (.own (.lst (intz cs))),si k,y8,y9,y10,y11,y12]) :
  aa1 E [some (.sh true (.scr ns)),s1,si m,some (.sh true (.bl dg)),some (.own (.lst (aH lks))),some (.own (.lst (intz cts))),some (.own (.lst (intz cs))),si k,y8,y9,y10,y11,y12]:=by
 have a0:=iK (ws:=cs) (j:=k) (by omega)
 refine⟨_,rfl,_,rfl,_,_,_,rfl,rfl,a0,_,rfl,_,_,rfl,by omega,by omega,fun z _=>⟨trivial,?_⟩⟩
 refine⟨_,rfl,_,rfl,?_⟩
 cases dg with
 | false=>exact bB (aa6 hc k1 hk m40 T cl nn fun y9 l c a b d=>nx _ y9 l c a b d)
 | true=>exact bD ⟨_,rfl,_,rfl,_,_,_,rfl,rfl,a0,_,_,rfl,rfl,⟨by decide,by decide⟩,trivial,aa6 hc k1 hk m40 T cl nn fun y9 l c a b d=>nx _ y9 l c a b d⟩
theorem aa7 {m:Nat}{ps:List Int} (hp:ps.Perm (rng m)):Pl m fun i=>ps.getD i.toNat 0:=by
 have pl:=hp.length_eq
 rw [dX] at pl
 have nd:ps.Nodup:=hp.nodup_iff.mpr (yH (j9 m))
 have gt:∀ i:Int,0<=i->i < (m:Int)->ps[i.toNat]? = some (ps.getD i.toNat 0):=fun i h0 h1=>by
  rw [bc7,bb9 (by omega)]; rfl
 refine⟨fun i h0 h1=>cT.mp (hp.mem_iff.mp (bc2 (gt i h0 h1))),fun i j h0 h1 g0 g1 e=>?_,fun x hx=>?_⟩
 ·have:=(List.getElem?_inj (bc4.mp (gt i h0 h1)).1 nd).mp ((gt i h0 h1).trans (by rw [gt j g0 g1]; exact congrArg some e))
  omega
 ·obtain ⟨i,hi⟩:=bj7.mp (hp.mem_iff.mpr hx)
  have il:=(bc4.mp hi).1
  refine⟨i,by omega,by omega,?_⟩
  show ps.getD (i:Int).toNat 0=x
  rw [be5,bc7,hi]; rfl
theorem aR8 {R:List PV->(PV->Prop)->Prop} (hR:Z8 R) {ps ws:List Int}{s0 s3 s5 s6 y7:Option Slot}{Q:PV->Prop} (m40:m<=40) (T:TL m lks) (hp:ps.Perm (rng m)) (wl:ws.length=m) (wn:NN ws) (q:∀ ls,WL m ws ls->dD m ls->dG m ls->Q (bF ws ls)) :
  aa2 R { nx:=fun _=>Q .non,rt:=Q } [s0,s1,si m,s3,some (.own (.lst (aH lks))),s5,s6,y7,y8,y9,some (.sh true (.lst (intz ps))),some (.own (.lst (intz ws))),y12]:=by
 have P:=aa7 hp
 have pl:=hp.length_eq
 rw [dX] at pl
 have fw:=T.few
 have pgl:(aH lks).length=lks.length:=bb8 _
 refine⟨_,rfl,_,rfl,aH lks,rfl,(fun z=>by cases z),by rw [pgl]; omega,fun i acc=>acc=aH ((lks.take i).map (fL fun i=>ps.getD i.toNat 0)),rfl,?_,?_⟩
 ·rintro i y acc hy rfl
  unfold aH at hy
  rw [bd1] at hy
  cases hz:lks[i]? with
  | none=>rw [hz] at hy; cases hy
  | some l=>
   rw [hz] at hy
   cases hy
   have h:=T.inn l (bc2 hz)
   obtain ⟨a,ea⟩:∃ a:Nat,l.1=a:=⟨l.1.toNat,by omega⟩
   obtain ⟨b,eb⟩:∃ b:Nat,l.2=b:=⟨l.2.toNat,by omega⟩
   have a1:L2.atI (intz ps) l.1=some (.int (ps.getD l.1.toNat 0)):=by rw [ea,be5]; exact iK (by omega)
   have a2:L2.atI (intz ps) l.2=some (.int (ps.getD l.2.toNat 0)):=by rw [eb,be5]; exact iK (by omega)
   refine⟨_,_,rfl,?_⟩
   refine⟨_,rfl,_,rfl,_,_,_,rfl,rfl,a1,_,rfl,_,rfl,_,_,_,rfl,rfl,a2,_,_,rfl,_,rfl,_,rfl,_,_,_,rfl,rfl,a1,_,rfl,_,rfl,_,_,_,rfl,rfl,a2,_,_,rfl,by show 2<=1000; decide,rfl,trivial,?_⟩
   dsimp only
   rw [bf8,hz,bd8]
   unfold aH
   rw [bd8]
   have e1:(if ps.getD l.2.toNat 0 < ps.getD l.1.toNat 0 then ps.getD l.2.toNat 0 else ps.getD l.1.toNat 0)=min (ps.getD l.1.toNat 0) (ps.getD l.2.toNat 0):=by split <;> omega
   have e2:(if ps.getD l.2.toNat 0 > ps.getD l.1.toNat 0 then ps.getD l.2.toNat 0 else ps.getD l.1.toNat 0)=max (ps.getD l.1.toNat 0) (ps.getD l.2.toNat 0):=by split <;> omega
   show _ ++ [PV.tup [.int (if ps.getD l.2.toNat 0 < ps.getD l.1.toNat 0 then ps.getD l.2.toNat 0 else ps.getD l.1.toNat 0),.int (if ps.getD l.2.toNat 0 > ps.getD l.1.toNat 0 then ps.getD l.2.toNat 0 else ps.getD l.1.toNat 0)]]=_
   rw [e1,e2]; rfl
 ·rintro acc rfl
  rw [pgl,bf5 (bc5 _)]
  have inn:=aR0 P T
  have nd:=aR1 P T
  have ml:(lks.map (fL fun i=>ps.getD i.toNat 0)).length=lks.length:=bb8 _
  have fp:∀ ls:List (Int × Int),flats (aH ls)=true:=fH
  refine⟨trivial,?_⟩
  refine⟨_,rfl,⟨_,_,rfl,rfl,eF _,?_⟩,(fun ns e=>by cases e)⟩
  refine⟨_,rfl,?_⟩
  refine hR (lks.map (fL fun i=>ps.getD i.toNat 0)) _ (by rw [ml]; omega) (fun ls' pm so=>?_)
  have W:=WL.perm (n:=m) (ws:=ws) (by omega) inn (by rw [ml]; omega) nd wn pm so
  have lk:dD m ls':=⟨fun l hl=>W.inn l hl,W.most,W.ord⟩
  refine⟨⟨_,_,rfl,rfl,fp _,by show 2<=1000; decide,?_,trivial,?_⟩,(fun ns e=>by cases e)⟩
  ·show (flats (intz ws) && (flats (aH ls') && true))=true
   rw [eF,fp]; rfl
  ·exact q ls' W lk (aR3 lk (aR2 P T pm lk.fit))
theorem aR9 {s7:Option Slot}{Q:PV->Prop} (hn:ns.length<=63) (hc:m<=cs.length) (m40:m<=40) (T:TL m lks) (cl:cts.length=m) (nn:NN cts) (q:∀ ws ls,WL m ws ls->dD m ls->dG m ls->Q (bF ws ls)) :
  aa3 { nx:=fun _=>Q .non,rt:=Q } [some (.sh true (.scr ns)),s1,si m,some (.sh true (.bl dg)),some (.own (.lst (aH lks))),some (.own (.lst (intz cts))),some (.own (.lst (intz cs))),s7,y8,y9,none,none,none]:=by
 refine⟨_,rfl,_,rfl,_,rfl,ns,m,dg,rfl,hn,m40,fun ps hp=>⟨trivial,?_⟩⟩
 have pl:=hp.length_eq
 rw [dX] at pl
 refine⟨by show 1<=1000; decide,rfl,_,rfl,_,_,rfl,rfl,rfl,by omega,by omega,by show 1<=10; decide,rfl,?_,?_⟩
 ·show flats (List.replicate (m:Int).toNat [PV.int 0]).flatten=true
  rw [sX]; exact eF _
 show (aE _ _) _ [_,_,_,_,_,_,_,_,_,_,_,some (Slot.own (.lst (List.replicate (m:Int).toNat [PV.int 0]).flatten)),_]
 rw [sX,be5]
 refine⟨_,rfl,m,rfl,by omega,by omega,fun i ρ=>∃ (ws:List Int) (y7:Option Slot),ρ = [some (.sh true (.scr ns)),s1,si m,some (.sh true (.bl dg)),some (.own (.lst (aH lks))),some (.own (.lst (intz cts))),some (.own (.lst (intz cs))),y7,y8,y9,some (.sh true (.lst (intz ps))),some (.own (.lst (intz ws))),none]/\ws.length=m/\NN ws,⟨_,s7,rfl,bl4,fun z hz=>by rw [List.eq_of_mem_replicate hz]; exact Int.le_refl 0⟩,?_,?_⟩
 ·rintro i y ρ hy ⟨ws,y7,rfl,wl,wn⟩
  obtain ⟨rfl,hi⟩:=j5 hy
  have hi:i < m:=by omega
  refine i7 ?_
  rw [bo8]
  have a1:=iK (ws:=cs) (j:=i) (by omega)
  have a2:=iK (ws:=cts) (j:=i) (by omega)
  have a3:=iK (ws:=ps) (j:=i) (by omega)
  have p1:=m9 nn i
  have pr:=(aa7 hp).inn i (by omega) (by omega)
  rw [be5] at pr
  obtain ⟨z,ez⟩:∃ z:Nat,ps.getD i 0=z:=⟨(ps.getD i 0).toNat,by omega⟩
  refine⟨_,rfl,_,rfl,_,_,_,rfl,rfl,a1,_,rfl,_,rfl,_,_,_,rfl,rfl,a2,_,_,rfl,rfl,_,_,rfl,rfl,by show 0 < cts.getD i 0+2; omega,_,rfl,_,rfl,_,rfl,_,_,_,rfl,rfl,a3,_,z,rfl,?_,trivial,ws.set z (cs.getD i 0 % (cts.getD i 0+2)),si i,?_,by rw [bg1]; exact wl,wn.set (bh3 _ (by omega)) _⟩
  ·rw [bO,ez]; unfold gD; rw [if_pos (by omega),if_pos (by omega)]; rfl
  ·show _ = [_,_,_,_,_,_,_,_,_,_,_,some (Slot.own (.lst (intz (ws.set z (cs.getD i 0 % (cts.getD i 0+2)))))),_]
   have:(intz ws).set z (.int (cs.getD i 0 % (cts.getD i 0+2)))=intz (ws.set z (cs.getD i 0 % (cts.getD i 0+2))):=(List.map_set ..).symm
   rw [<- this]; rfl
 ·rintro ρ ⟨ws,y7,rfl,wl,wn⟩
  exact aR8 aR6 m40 T hp wl wn fun ls a b c=>q ws ls a b c
end
theorem aS0 {mx:Int} (mx40:mx<=40):cF aa4 ["script","most","many","digits","links","counts","cells","k","number","elder","places","wants","pairs"] (Z7 mx):=by
 rintro xs Q ⟨ns,most,rfl,hl,h0,h1,q⟩
 refine⟨_,rfl,_,rfl,ns,most,rfl,h0,fun z z0 z1=>⟨trivial,?_⟩⟩
 obtain ⟨m,rfl⟩:∃ m:Nat,z=m:=⟨z.toNat,by omega⟩
 refine⟨_,rfl,_,ns,1,rfl,.inl rfl,by decide,_,_,rfl,rfl,⟨by decide,by decide⟩,_,_,rfl,rfl,(by show (0:Int) < 2; decide),.inl ⟨_,_,rfl,rfl,trivial,?_⟩⟩
 generalize (if false=true then !decide (ns.getD (1:Int).toNat 0 / 8 % 2=1) else decide (ns.getD (1:Int).toNat 0 / 8 % 2=1))=dg
 refine⟨by decide,rfl,rfl,rfl,?_⟩
 refine⟨by show 1<=1000; decide,rfl,_,rfl,_,_,rfl,rfl,rfl,by omega,by omega,by show 1<=10; decide,rfl,?_,?_⟩
 ·show flats (List.replicate (m:Int).toNat [PV.int 0]).flatten=true
  rw [sX]; exact eF _
 show (aE _ _) _ [_,_,_,_,_,some (Slot.own (.lst (List.replicate (m:Int).toNat [PV.int 0]).flatten)),_,_,_,_,_,_,_]
 rw [sX,be5]
 obtain ⟨zs,ez,zl⟩:=aN6 ns (some 4) (some (4+(m:Int)))
 refine⟨_,rfl,_,rfl,_,rfl,_,_,rfl,rfl,_,rfl,_,rfl,eF _,rfl,?_,?_⟩
 ·show flats (fF (intz ns) (some 4) (some (4+(m:Int))))=true
  rw [ez]; exact eF _
 show (aE _ _) _ [_,_,_,_,_,_,some (Slot.own (.lst (fF (intz ns) (some 4) (some (4+(m:Int)))))),_,_,_,_,_,_]
 rw [ez]
 refine⟨_,rfl,_,_,rfl,rfl,_,rfl,(zs.length:Int),(m:Int),by rw [bO],rfl,⟨by omega,by omega,by omega,by omega⟩,fun i ρ=>∃ (cs:List Int) (y7:Option Slot),ρ = [some (.sh true (.scr ns)),si most,si m,some (.sh true (.bl dg)),some (.own (.lst (aH []))),some (.own (.lst (intz (List.replicate m 0)))),some (.own (.lst (intz cs))),y7,none,none,none,none,none]/\cs.length=zs.length+i,⟨zs,none,rfl,rfl⟩,?_,?_⟩
 ·rintro i y ρ hy ⟨cs,y7,rfl,cl⟩
  obtain ⟨rfl,hi⟩:=j5 hy
  refine i7 ?_
  refine⟨_,rfl,_,rfl,_,ns,1,rfl,.inl rfl,by decide,_,rfl,_,_,rfl,by omega,by omega,fun z _=>⟨trivial,by rw [bO]; omega,cs ++ [z],_,by rw [fU]; rfl,by rw [bd3,cl]; rfl⟩⟩
 rintro ρ ⟨cs,y7,rfl,cl⟩
 rw [fE] at cl
 have hc:m<=cs.length:=by omega
 refine⟨_,rfl,(1:Int),(m:Int),rfl,rfl,⟨by omega,by omega,by omega,by omega⟩,fun i ρ=>∃ (lks:List (Int × Int)) (cts:List Int) (y7 y8 y9:Option Slot),ρ = [some (.sh true (.scr ns)),si most,si m,some (.sh true (.bl dg)),some (.own (.lst (aH lks))),some (.own (.lst (intz cts))),some (.own (.lst (intz cs))),y7,y8,y9,none,none,none]/\TL (i+1) lks/\cts.length=m/\NN cts,⟨[],_,y7,none,none,rfl,⟨(fun l hl=>by cases hl),bo3,bg8 _⟩,bl4,fun z hz=>by rw [List.eq_of_mem_replicate hz]; exact Int.le_refl 0⟩,?_,?_⟩
 ·rintro i y ρ hy ⟨lks,cts,y7,y8,y9,rfl,T,cl,nn⟩
  obtain ⟨rfl,hi⟩:=j5 hy
  refine i7 ?_
  rw [show (1:Int)+(i:Int)=((i+1:Nat):Int) by omega]
  exact aR7 hc (by omega) (by omega) (by omega) T cl nn fun y8 y9 l c a b d=>⟨l,c,si ((i+1:Nat):Int),y8,y9,rfl,a,b,d⟩
 ·rintro ρ ⟨lks,cts,y7,y8,y9,rfl,T,cl,nn⟩
  rw [fE] at T
  have T':TL m lks:=by
   by_cases m0:m=0
   ·subst m0
    have e:lks = []:=by
     cases lks with
     | nil=>rfl
     | cons l r=>have:=T.inn l bc6; omega
    subst e
    exact⟨(fun l hl=>by cases hl),bo3,bg8 _⟩
   ·rwa [show ((m:Int) - 1).toNat+1=m by omega] at T
  exact aR9 hl hc (by omega) T' cl nn fun ws ls a b c=>q m ws ls z1 a b c
noncomputable abbrev yM:=List (Int × List Int)
noncomputable def ksB (W:yM):List Int:=W.map (·.1)
section
variable {ws : List Int} {n : Nat} {ls : List (Int × Int)} {P : bX} {W T : yM} {D B : List Int} {h x y c : Int} {e : Option Int}
theorem Rt.kid (R:Rt n ls P) (f:fJ ls) (hp:(h,e) ∈ P):c ∈ bL ls h e ↔ (c,some h) ∈ P:=by
 constructor
 ·intro z
  obtain ⟨z1,z2⟩:=kE.mp z
  exact (R.done h e hp c z1).resolve_left fun q=>z2 q.symm
 ·intro z
  obtain ⟨i,hi⟩:=g9 z
  obtain ⟨j,q,ji,hj,hn⟩:=R.par i c h hi
  refine kE.mpr ⟨jU hn,fun ec=>?_⟩
  rw [<- ec] at hp
  obtain ⟨i2,hi2⟩:=g9 hp
  obtain ⟨j2,q2,ji2,hj2,_⟩:=R.par i2 h c hi2
  have e1:=(jA R.nd hj2 hi).1
  have e2:=(jA R.nd hj hi2).1
  omega
structure oI (P:bX) (W:yM) (D:List Int) (x:Int) (B:List Int):Prop where
 self:x ∈ B
 nd:B.Nodup
 up:∀ y ∈ B,y=x ∨ (y ∈ ksB W/\∃ e,(y,some e) ∈ P/\e ∈ B)
 dn:∀ y ∈ B,∀ c,(c,some y) ∈ P->c ∈ ksB W->c ∈ B
 inn:∀ y ∈ B,y ∈ D
end
noncomputable abbrev tH:bH:=Z7 40
noncomputable abbrev aa8:aK:=aa4
theorem aS1:cF aa8 ["script","most","many","digits","links","counts","cells","k","number","elder","places","wants","pairs"] tH:=aS0 (by decide)
noncomputable abbrev bR:=List (Int × Int)
noncomputable def cR (bl:bR):List Int:=bl.map fun p=>p.2 - p.1
noncomputable def gM (w p:Int) (bl:bR):Int:=(bl.map (·.1)).sum+(if w<=(bl.length:Int) then min p ((cV (cR bl)).take w.toNat).sum else p)
noncomputable def eW (w p:Int) (bl:bR):Int × Int:=(gM (max 0 (w - 1)) p bl,gM w p bl)
noncomputable def tI:bH:=fun xs Q=>∃ w:Int,xs = [.int w]/\Q (.int (max 0 (w - 1)))
noncomputable def aa9:aK:=(bG (aB kN (a6 (qC (.int 0)) (a6 (gQ (a5 0) (qC (.int 1))) a9))))
theorem aS2:cF aa9 ["want"] tI:=by
 rintro xs Q ⟨w,rfl,q⟩
 refine⟨_,rfl,_,_,rfl,rfl,_,_,rfl,trivial,?_⟩
 have e:(if w - 1 > 0 then w - 1 else 0)=max 0 (w - 1):=by split <;> omega
 show Q (.int (if w - 1 > 0 then w - 1 else 0))
 rw [e]; exact q
noncomputable def pT:bH:=fun xs Q=>∃ (w p:Int) (bl:bR),xs = [.int w,.int p,.lst (aH bl)]/\0<=w/\bl.length < 64/\Q (.int (gM w p bl))
noncomputable def ab0:aK:=(aE (b6 3 (aB rM (a6 (cS (dM (a5 2)) [none,none] (eI 0 1) dB (gQ (a5 1) (a5 0))) a9)))
 (aE (b6 4 (a5 1))
 (aE (cB (b9 (O7 (aB cP (a6 (a5 3) a9)) (a5 0))) (b6 4 (aB mS (a6 (a5 1) (a6 (aB iI (a6 (jZ (a5 3) kQ (iX (a5 0))) a9)) a9)))) cD)
 (bG (bN (aB iI (a6 (cS (dM (a5 2)) [none,none] (eI 0 1) dB (a5 0)) a9)) (a5 4))))))
section
variable {w p d : Int} {bl : bR} {Q : PV → Prop} {s0 s1 s3 : Option Slot}
theorem ab1 {g:Bool} (hl:bl.length < 64) (q:Q (.int ((bl.map (·.1)).sum+d))) :
  (bG (bN (aB iI (a6 (cS (dM (a5 2)) [none,none] (eI 0 1) dB (a5 0)) a9)) (a5 4))) { nx:=fun _=>Q .non,rt:=Q } [s0,s1,some (.sh g (.lst (aH bl))),s3,si d]:=by
 refine⟨_,rfl,aH bl,rfl,(fun z=>by cases g <;> cases z),by rw [dF]; omega,fun i acc=>acc=intz ((bl.take i).map (·.1)),rfl,?_,?_⟩
 ·rintro i y acc hy rfl
  obtain ⟨r,rfl,hr⟩:=sM hy
  refine pR ?_
  refine⟨_,rfl,trivial,?_⟩
  dsimp only
  rw [bf8,hr,bd8,fU]; rfl
 ·rintro acc rfl
  rw [dF,bf5 (bc5 _)]
  exact⟨_,_,rfl,rfl,_,rfl,_,_,rfl,rfl,trivial,q⟩
end
theorem aS3:cF ab0 ["want","price","below","gaps","dearer"] pT:=by
 rintro xs Q ⟨w,p,bl,rfl,w0,hl,q⟩
 refine⟨_,rfl,aH bl,rfl,(fun z=>by cases z),by rw [dF]; omega,fun i acc=>acc=intz (cR (bl.take i)),rfl,?_,?_⟩
 ·rintro i y acc hy rfl
  obtain ⟨r,rfl,hr⟩:=sM hy
  refine pR ?_
  refine⟨_,rfl,_,rfl,_,_,rfl,rfl,trivial,?_⟩
  dsimp only
  unfold cR
  rw [bf8,hr,bd8,fU]; rfl
 rintro acc rfl
 rw [dF,bf5 (bc5 _)]
 have gl:(cR bl).length=bl.length:=bb8 _
 refine⟨cR bl,rfl,by omega,fun ms pm so=>⟨trivial,?_⟩⟩
 cases X5 pm so
 have sl:=pm.length_eq
 refine⟨_,rfl,trivial,?_⟩
 refine⟨_,rfl,_,_,rfl,rfl,_,rfl,_,_,rfl,rfl,_,rfl,?_⟩
 rw [bO]
 unfold gM at q
 by_cases c:w<=(bl.length:Int)
 ·rw [if_pos c] at q
  rw [bc0 (by omega)]
  refine bD ⟨_,rfl,_,rfl,_,rfl,_,rfl,intz (cV (cR bl)),rfl,eF _,_,(cV (cR bl)).take w.toNat,rfl,?_,_,_,rfl,trivial,?_⟩
  ·show some (fF (intz (cV (cR bl))) none (some w))=_
   rw [U3 w0]; unfold intz; rw [List.map_take]
  ·have e:(if ((cV (cR bl)).take w.toNat).sum < p then ((cV (cR bl)).take w.toNat).sum else p)=min p ((cV (cR bl)).take w.toNat).sum:=by split <;> omega
   dsimp only
   rw [e]
   exact ab1 hl q
 ·rw [if_neg c] at q
  rw [bc3 (by omega)]
  exact bB (ab1 hl q)
noncomputable def nT:bH:=fun xs Q=>∃ (w p:Int) (bl:bR),xs = [.int w,.int p,.lst (aH bl)]/\0<=w/\bl.length < 64/\Q (.tup [.int (eW w p bl).1,.int (eW w p bl).2])
noncomputable def ab2:aK:=(bG (dJ (a6 (aB pT (a6 (aB tI (a6 (a5 0) a9)) (a6 (a5 1) (a6 (a5 2) a9)))) (a6 (aB pT (a6 (a5 0) (a6 (a5 1) (a6 (a5 2) a9)))) a9))))
theorem aS4:cF ab2 ["want","price","below"] nT:=by
 rintro xs Q ⟨w,p,bl,rfl,w0,hl,q⟩
 exact⟨_,rfl,w,rfl,_,rfl,_,rfl,_,p,bl,rfl,by omega,hl,_,rfl,_,rfl,_,rfl,w,p,bl,rfl,w0,hl,by show 2<=1000; decide,rfl,trivial,q⟩
noncomputable def bC (L:bR) (h:Int):Int × Int:=L.getD h.toNat (0,0)
noncomputable def yN (ws ps:List Int) (ls:List (Int × Int)) (L:bR) (h:Int) (e:Option Int):Prop:=bC L h=eW (ws.getD h.toNat 0) (ps.getD h.toNat 0) ((bL ls h e).map (bC L))
noncomputable def aS5 (ws ps:List Int) (ls:List (Int × Int)) (P:bX) (L:bR):Prop:=L.length=ws.length/\∀ h e,(h,e) ∈ P->yN ws ps ls L h e
noncomputable def pU:bH:=fun xs Q=>∃ ws ls x ps,xs = [bF ws ls,x]/\Wb ws ls/\dD ws.length ls/\dG ws.length ls/\NN ws/\dR x ps/\j8 ws.length ps/\∀ P L,Rt ws.length ls P->aS5 ws ps ls P L->Q (.tup (aH L))
noncomputable def ab3:aK:=(aE (b6 8 (cS (dM (aB l9 (a6 (a5 4) (a6 (a5 6) (a6 (a5 7) a9))))) [none,some 5] (bZ 0) dB (aX (a5 1) (a5 0))))
  (lR 5 (a5 6) (aB nT (a6 (aX (aX (a5 0) (qC (.int 0))) (a5 6)) (a6 (aX (a5 3) (a5 6)) (a6 (a5 8) a9))))))
noncomputable def ab4:aK:=(aE (b6 2 (aB nS (a6 (a5 0) a9)))
 (aE (b6 3 (aB nJ (a6 (a5 1) (a6 (aB gJ (a6 (a5 0) a9)) a9))))
 (aE (b6 4 (aB iH (a6 (a5 0) a9)))
 (aE (e9 5 (pK (dL (a6 (dJ (a6 (qC (.int 0)) (a6 (qC (.int 0)) a9))) a9)) (aB gJ (a6 (a5 0) a9))))
 (aE (eJ (xX (a5 2)) (eI 6 7)
  ab3)
 (bG (aB iZ (a6 (a5 5) a9))))))))
theorem jC {L:bR}{h:Int} (h0:0<=h) (h1:h < (L.length:Int)):L2.atI (aH L) h=some (.tup [.int (bC L h).1,.int (bC L h).2]):=by
 obtain ⟨j,rfl⟩:∃ j:Nat,h=j:=⟨h.toNat,by omega⟩
 refine jM ?_
 unfold aH bC
 rw [be5,bd1,bc7,bb9 (by omega)]; rfl
theorem tJ {ns:List Int}{h:Int} (h0:0<=h) (h1:h < (ns.length:Int)):L2.atI (intz ns) h=some (.int (ns.getD h.toNat 0)):=by
 obtain ⟨j,rfl⟩:∃ j:Nat,h=j:=⟨h.toNat,by omega⟩
 rw [be5]; exact iK (by omega)
theorem ab5 {L:bR}{h x:Int}{v:Int × Int} (h0:0<=h) (x0:0<=x) (ne:x ≠ h):bC (L.set h.toNat v) x=bC L x:=by
 unfold bC
 rw [bc7,bc7,be7 (by omega)]
theorem aS6 {L:bR}{h:Int}{v:Int × Int} (h0:0<=h) (h1:h < (L.length:Int)):bC (L.set h.toNat v) h=v:=by
 unfold bC
 rw [bc7,bh1 (by omega)]; rfl
section
variable {ws ps : List Int} {ls : List (Int × Int)} {P : bX} {L : bR} {h : Int} {e : Option Int} {E : fB} {s1 s2 y8 : Option Slot}
theorem aS7 (lk:dD ws.length ls) (n40:ws.length<=40) (nn:NN ws) (pl:ps.length=ws.length) (ll:L.length=ws.length) (hr:h ∈ rng ws.length)
  (nx:∀ y8,E.nx [some (.sh true (bF ws ls)),s1,s2,some (.sh true (.tup (intz ps))),some (.sh true (.lst (cU ws.length ls))),some (.own (.lst (aH (L.set h.toNat (eW (ws.getD h.toNat 0) (ps.getD h.toNat 0) ((bL ls h e).map (bC L))))))),si h,some (.sh true (i6 e)),y8]) :
  ab3 E [some (.sh true (bF ws ls)),s1,s2,some (.sh true (.tup (intz ps))),some (.sh true (.lst (cU ws.length ls))),some (.own (.lst (aH L))),si h,some (.sh true (i6 e)),y8]:=by
 have hm:=cT.mp hr
 have nl:=lk.nlen h
 have kl:(bL ls h e).length<=ws.length:=by have:=bg7 (fun x=>!decide (some x=e)) (aO ls h); unfold bL; omega
 refine⟨_,rfl,_,rfl,_,rfl,ws.length,ls,h,e,rfl,hm.1,hm.2,by omega,intz (bL ls h e),rfl,(fun z=>by cases z),by rw [bO]; omega,fun i acc=>acc=aH (((bL ls h e).take i).map (bC L)),rfl,?_,?_⟩
 ·rintro i y acc hy rfl
  obtain ⟨c,rfl,hc⟩:=j4 hy
  have cr:=cT.mp (lk.inr h c (kE.mp (bc2 hc)).1)
  refine⟨_,rfl,_,rfl,_,_,_,rfl,rfl,jC cr.1 (by omega),rfl,?_⟩
  dsimp only
  unfold aH
  rw [bf8,hc,bd8,bd8]; rfl
 ·rintro acc rfl
  rw [bO,bf5 (bc5 _)]
  have wp:0<=ws.getD h.toNat 0:=m9 nn _
  refine⟨trivial,?_⟩
  refine⟨_,rfl,_,_,_,rfl,rfl,rfl,_,rfl,_,_,_,rfl,rfl,tJ hm.1 hm.2,_,rfl,_,rfl,_,_,_,rfl,rfl,tJ hm.1 (by omega),_,rfl,_,_,(bL ls h e).map (bC L),rfl,wp,by rw [bb8]; omega,aH L,rfl,_,rfl,h,h.toNat,rfl,?_,trivial,?_⟩
  ·rw [dF]; unfold gD; rw [if_pos (by omega),if_pos (by omega)]
  ·have:=nx (some (.sh true (.lst (aH ((bL ls h e).map (bC L))))))
   have q:aH (L.set h.toNat (eW (ws.getD h.toNat 0) (ps.getD h.toNat 0) ((bL ls h e).map (bC L))))=(aH L).set h.toNat (.tup [.int (eW (ws.getD h.toNat 0) (ps.getD h.toNat 0) ((bL ls h e).map (bC L))).1,.int (eW (ws.getD h.toNat 0) (ps.getD h.toNat 0) ((bL ls h e).map (bC L))).2]):=by unfold aH; rw [List.map_set]
   rw [q] at this
   exact this
end
structure iL (P:bX) (i:Nat) (D:List Int):Prop where
 mem:∀ y,y ∈ D ↔ ∃ (j:Nat) (q:Option Int),P[j]? = some (y,q)/\P.length<=j+i
theorem iL.nil {P:bX}:iL P 0 []:=⟨fun y=>⟨(fun z=>by cases z),fun ⟨j,q,hj,hl⟩=>by have:=(bc4.mp hj).1; omega⟩⟩
theorem iL.next {P:bX}{i:Nat}{D:List Int}{h:Int}{e:Option Int} (S:iL P i D) (il:i < P.length) (hk:P[P.length - 1 - i]? = some (h,e)):iL P (i+1) (h :: D):=⟨fun y=>by
 constructor
 ·intro z
  rcases bd0.mp z with z | z
  ·rw [z]; exact⟨_,e,hk,by omega⟩
  ·obtain ⟨j,q,hj,hl⟩:=(S.mem y).mp z
   exact⟨j,q,hj,by omega⟩
 ·rintro ⟨j,q,hj,hl⟩
  by_cases ej:j=P.length - 1 - i
  ·subst ej
   rw [hk] at hj
   cases hj
   exact bc6
  ·exact bd4 _ ((S.mem y).mpr ⟨j,q,hj,by omega⟩)⟩
theorem iL.notin {n:Nat}{ls:List (Int × Int)}{P:bX}{i:Nat}{D:List Int}{h:Int}{e:Option Int} (S:iL P i D) (R:Rt n ls P) (il:i < P.length) (hk:P[P.length - 1 - i]? = some (h,e)):h ∉ D:=fun z=>by
 obtain ⟨j,q,hj,hl⟩:=(S.mem h).mp z
 have:=(jA R.nd hj hk).1
 omega
theorem iL.elder {n:Nat}{ls:List (Int × Int)}{P:bX}{i:Nat}{D:List Int}{h:Int}{e:Option Int} (S:iL P i D) (R:Rt n ls P) (il:i < P.length) (hk:P[P.length - 1 - i]? = some (h,e)):∀ y ∈ D,(h,some y) ∉ P:=fun y hy z=>by
 obtain ⟨j,q,hj,hl⟩:=(S.mem y).mp hy
 cases tD R.nd z (bc2 hk)
 obtain ⟨j',q',jk,hj',_⟩:=R.par _ h y hk
 have:=(jA R.nd hj hj').1
 omega
theorem ab6 {n:Nat}{ls:List (Int × Int)}{P:bX} (R:Rt n ls P):P.length<=n:=by
 have:=fY R.nd (m:=rng n) fun x hx=>(R.mem x).mp hx
 rwa [bb8,dX] at this
theorem aS8 {P:bX}{i:Nat}{y:PV} (hy:(dE P).reverse[i]? = some y):i < P.length/\∃ h e,P[P.length - 1 - i]? = some (h,e)/\y=tF (h,e):=by
 have il:i < P.length:=by have:=(bc4.mp hy).1; rwa [List.length_reverse,jB] at this
 rw [List.getElem?_reverse (by rw [jB]; exact il),jB] at hy
 unfold dE at hy
 rw [bd1] at hy
 obtain ⟨⟨h,e⟩,hk⟩:∃ p,P[P.length - 1 - i]? = some p:=⟨_,bb9 (by omega)⟩
 rw [hk] at hy
 cases hy
 exact⟨il,h,e,hk,rfl⟩
theorem ab7 (n:Nat) (a b:Int):(List.replicate n [PV.tup [.int a,.int b]]).flatten=aH (List.replicate n (a,b)):=by
 induction n with
 | zero=>rfl
 | succ n ih=>rw [bg4,bl2,ih,bg4]; rfl
theorem aS9:cF ab4 ["web","prices","pairs","known","around","ledger","hearth","elder","below"] pU:=by
 rintro xs Q ⟨ws,ls,x,ps,rfl,wb,lk,w,nn,hx,⟨gl,gn⟩,q⟩
 have few:=wb.few
 refine⟨_,rfl,ws,ls,rfl,wb,lk,w,fun P R=>⟨trivial,?_⟩⟩
 have pl:=ab6 R
 refine⟨_,rfl,_,rfl,ws,ls,rfl,x,ps,ws.length,rfl,hx,gl,by omega,gn,trivial,?_⟩
 refine⟨_,rfl,ws,ls,rfl,wb,trivial,?_⟩
 refine⟨by show 2<=1000; decide,rfl,by show 1<=1000; decide,rfl,_,rfl,ws,ls,rfl,_,_,rfl,rfl,rfl,by omega,by omega,by show 1<=10; decide,rfl,?_,?_⟩
 ·show flats (List.replicate (ws.length:Int).toNat [PV.tup [.int 0,.int 0]]).flatten=true
  rw [ab7]; exact fH _
 show (aE _ _) _ [some (Slot.sh (flat (bF ws ls)) (bF ws ls)),some (Slot.sh (flat x) x),_,_,_,some (Slot.own (.lst (List.replicate (ws.length:Int).toNat [PV.tup [.int 0,.int 0]]).flatten)),_,_,_]
 rw [ab7,be5,wV]
 refine⟨_,rfl,dE P,rfl,(fun z=>by cases z),fun i ρ=>∃ (L:bR) (D:List Int) (y6 y7 y8:Option Slot),ρ = [some (.sh true (bF ws ls)),some (Slot.sh (flat x) x),some (.sh true (.lst (dE P))),some (.sh true (.tup (intz ps))),some (.sh true (.lst (cU ws.length ls))),some (.own (.lst (aH L))),y6,y7,y8]/\L.length=ws.length/\iL P i D/\∀ h e,(h,e) ∈ P->h ∈ D->yN ws ps ls L h e,⟨_,[],none,none,none,rfl,bl4,iL.nil,fun _ _ _ z=>by cases z⟩,?_,?_⟩
 ·rintro i y ρ hy ⟨L,D,y6,y7,y8,rfl,ll,S,ok⟩
  obtain ⟨il,h,e,hk,rfl⟩:=aS8 hy
  have hp:=bc2 hk
  have hr:=(R.mem h).mp (bd6.mpr ⟨_,hp,rfl⟩)
  have hm:=cT.mp hr
  refine⟨_,_,rfl,?_⟩
  refine aS7 lk few nn gl ll hr fun y8=>⟨_,h :: D,_,_,y8,rfl,by rw [bg1]; exact ll,S.next il hk,fun g e' hg gd=>?_⟩
  have hD:=S.notin R il hk
  have kid:∀ c ∈ bL ls g e',c ≠ h/\0<=c:=fun c hc=>by
   have cp:=(R.kid lk.fit hg).mp hc
   have cr:=cT.mp ((R.mem c).mp (bd6.mpr ⟨_,cp,rfl⟩))
   refine⟨fun z=>?_,cr.1⟩
   subst z
   rcases bd0.mp gd with z | z
   ·subst z
    exact lk.fit.irr g (kE.mp hc).1
   ·exact S.elder R il hk g z cp
  unfold yN
  rw [List.map_congr_left (g:=bC L) fun c hc=>ab5 hm.1 (kid c hc).2 (kid c hc).1]
  rcases bd0.mp gd with z | z
  ·subst z
   cases tD R.nd hg hp
   rw [aS6 hm.1 (by omega)]
  ·have gr:=cT.mp ((R.mem g).mp (bd6.mpr ⟨_,hg,rfl⟩))
   rw [ab5 hm.1 gr.1 fun z'=>hD (by rw [<- z']; exact z)]
   exact ok g e' hg z
 ·rintro ρ ⟨L,D,y6,y7,y8,rfl,ll,S,ok⟩
  refine⟨_,rfl,⟨_,_,rfl,rfl,fH _,trivial,q P L R ⟨ll,fun h e he=>ok h e he ?_⟩⟩,fun ns z=>by cases z⟩
  rw [List.length_reverse,jB] at S
  obtain ⟨j,hj⟩:=g9 he
  exact (S.mem h).mpr ⟨j,e,hj,by omega⟩
section
variable {n : Nat} {ls : List (Int × Int)} {P P' : bX}
theorem Rt.pair (R:Rt n ls P) {h:Int} (hh:h ∈ rng n):∃ e,(h,e) ∈ P:=by
 obtain ⟨⟨h',e⟩,hp,rfl⟩:=bd6.mp ((R.mem h).mpr hh)
 exact⟨e,hp⟩
theorem Rt.inr (R:Rt n ls P) {h:Int}{e:Option Int} (hp:(h,e) ∈ P):h ∈ rng n:=(R.mem h).mp (bd6.mpr ⟨_,hp,rfl⟩)
theorem ab8 (R:Rt n ls P) (R':Rt n ls P'):∀ (i:Nat) (h:Int) (e':Option Int),P'[i]? = some (h,e')->(h,e') ∈ P:=by
 intro i
 induction i using Nat.strongRecOn with
 | ind i ih=>
  intro h e' hi
  cases e' with
  | none=>exact (R.root h).mpr ((R'.root h).mp (bc2 hi))
  | some g=>
   obtain ⟨j,q,ji,hj,gn⟩:=R'.par i h g hi
   obtain ⟨e,he⟩:=R.pair (R'.inr (bc2 hi))
   rcases R.done h e he g gn with z | z
   ·rw [<- z]; exact he
   ·have:=tD R.nd (ih j ji g q hj) z
    subst this
    obtain ⟨k,q2,kj,hk,_⟩:=R'.par j g h hj
    have:=(jA R'.nd hk hi).1
    omega
theorem pV (R:Rt n ls P) (R':Rt n ls P') {h:Int}{e:Option Int}:(h,e) ∈ P ↔ (h,e) ∈ P':=by
 constructor
 ·intro z; obtain ⟨i,hi⟩:=g9 z; exact ab8 R' R i h e hi
 ·intro z; obtain ⟨i,hi⟩:=g9 z; exact ab8 R R' i h e hi
noncomputable def lA:Int × Option Int->Option (Int × Int)
 | (_,none)=>none
 | (h,some g)=>some (min h g,max h g)
theorem yO:∀ P:bX,P.length=(P.filterMap lA).length+(P.filter fun p=>p.2.isNone).length
 | []=>rfl
 | (h,none) :: P=>by
  have ih:=yO P
  rw [List.filterMap_cons_none (f:=lA) (a:=(h,none)) rfl,bo5 rfl,be6,be6]; omega
 | (h,some g) :: P=>by
  have ih:=yO P
  rw [List.filterMap_cons_some (f:=lA) (a:=(h,some g)) (b:=(min h g,max h g)) rfl,bm1 (by simp),be6,be6]; omega
theorem ab9 {P:bX}{l:Int × Int}:l ∈ P.filterMap lA ↔ ∃ h g,(h,some g) ∈ P/\l=(min h g,max h g):=by
 rw [bp3]
 constructor
 ·rintro ⟨⟨h,e⟩,hp,z⟩
  cases e with
  | none=>cases z
  | some g=>exact⟨h,g,hp,(be3 z).symm⟩
 ·rintro ⟨h,g,hp,rfl⟩
  exact⟨_,hp,rfl⟩
theorem Rt.of_tree (w:dG n ls) (f:fJ ls) (nd:(P.map (·.1)).Nodup) (mem:∀ h,h ∈ P.map (·.1) ↔ h ∈ rng n) (par:∀ (i:Nat) (h e:Int),P[i]? = some (h,some e)->∃ (j:Nat) (q:Option Int),j < i/\P[j]? = some (e,q)/\e ∈ aO ls h)
  (root:∀ h,(h,none) ∈ P->h ∈ aV ls (rng n)):Rt n ls P:=by
 have hS:=j9 n
 have inr:∀ {h e},(h,e) ∈ P->h ∈ rng n:=fun {h e} hp=>(mem h).mp (bd6.mpr ⟨_,hp,rfl⟩)
 have conn:∀ (i:Nat) (h:Int) (e:Option Int),P[i]? = some (h,e)->∃ r,(r,none) ∈ P/\h ∈ comp ls (rng n) r:=by
  intro i
  induction i using Nat.strongRecOn with
  | ind i ih=>
   intro h e hi
   cases e with
   | none=>exact⟨h,bc2 hi,fI (inr (bc2 hi))⟩
   | some g=>
    obtain ⟨j,q,ji,hj,gn⟩:=par i h g hi
    obtain ⟨r,hr,hc⟩:=ih j ji g q hj
    exact⟨r,hr,i8 g hc h (jU gn) (inr (bc2 hi))⟩
 have rt:∀ h,(h,none) ∈ P ↔ h ∈ aV ls (rng n):=fun h=>⟨root h,fun hh=>by
  obtain ⟨⟨h',e⟩,hp,rfl⟩:=bd6.mp ((mem h).mpr (e7.mp hh).1)
  obtain ⟨i,hi⟩:=g9 hp
  obtain ⟨r,hr,hc⟩:=conn i _ _ hi
  have:=t9 hS hh (root r hr) (z:=h') (fI (e7.mp hh).1) hc
  dsimp only at this ⊢
  rw [this]; exact hr⟩
 have order:∀ h g,(h,some g) ∈ P->(g,some h) ∈ P->False:=fun h g a b=>by
  obtain ⟨i,hi⟩:=g9 a
  obtain ⟨j,hj⟩:=g9 b
  obtain ⟨i',q,l1,hi',_⟩:=par i h g hi
  obtain ⟨j',q',l2,hj',_⟩:=par j g h hj
  have e1:=(jA nd hi' hj).1
  have e2:=(jA nd hj' hi).1
  omega
 have tsub:∀ l ∈ P.filterMap lA,l ∈ ls:=fun l hl=>by
  obtain ⟨h,g,hp,rfl⟩:=ab9.mp hl
  obtain ⟨i,hi⟩:=g9 hp
  obtain ⟨_,_,_,_,gn⟩:=par i h g hi
  rcases L2.dI.mp gn with z | z
  ·have:=f.lt _ z
   dsimp only at this
   rw [show min h g=h by omega,show max h g=g by omega]; exact z
  ·have:=f.lt _ z
   dsimp only at this
   rw [show min h g=g by omega,show max h g=h by omega]; exact z
 have pnd:P.Nodup:=(bl3.mp nd).imp fun z e=>z (by rw [e])
 have tnd:(P.filterMap lA).Nodup:=by
  refine List.Pairwise.filterMap lA (R:=fun p q:Int × Option Int=>p ∈ P/\q ∈ P/\p.1 ≠ q.1) (fun p q hpq l hl l' hl' e=>?_) ?_
  ·obtain ⟨hp,hq,ne⟩:=hpq
   obtain ⟨h,a⟩:=p
   obtain ⟨g,b⟩:=q
   cases a with
   | none=>cases hl
   | some a=>
    cases b with
    | none=>cases hl'
    | some b=>
     cases hl
     cases hl'
     have e1:=(bq6 e).1
     have e2:=(bq6 e).2
     dsimp only at ne
     have x1:a=g:=by omega
     have x2:b=h:=by omega
     subst x1 x2
     exact order _ _ hp hq
  ·exact (bl3.mp nd).imp_of_mem fun {a b} ha hb z=>⟨ha,hb,z⟩
 have hl:(P.filter fun p=>p.2.isNone).length=(aV ls (rng n)).length:=by
  have a:((P.filter fun p=>p.2.isNone).map (·.1)).Nodup:=(List.Pairwise.sublist (List.filter_sublist.map _) nd)
  have m:∀ h,h ∈ (P.filter fun p=>p.2.isNone).map (·.1) ↔ h ∈ aV ls (rng n):=fun h=>by
   rw [<- rt h,bd6]
   constructor
   ·rintro ⟨⟨h',e⟩,hp,rfl⟩
    obtain ⟨h1,h2⟩:=bd7.mp hp
    cases e with
    | none=>exact h1
    | some _=>cases h2
   ·intro z; exact⟨_,bd7.mpr ⟨z,rfl⟩,rfl⟩
  have l1:=fY a fun x hx=>(m x).mp hx
  have l2:=fY (t8 (ls:=ls) hS) fun x hx=>(m x).mpr hx
  rw [bb8] at l1 l2
  omega
 have pl:P.length=n:=by
  have l1:=fY nd (m:=rng n) fun x hx=>(mem x).mp hx
  have l2:=fY (yH hS) fun x hx=>(mem x).mpr hx
  rw [bb8,dX] at l1 l2
  omega
 have all:∀ l ∈ ls,l ∈ P.filterMap lA:=fun l hl'=>bi9 fun no=>by
  have l1:=(bk4.mpr ⟨no,tnd⟩).length_le_of_subset (l₂:=ls) fun x hx=>(bd0.mp hx).elim (fun z=>z ▸ hl') (tsub x)
  have:=yO P
  unfold dG at w
  rw [be6] at l1
  omega
 refine⟨nd,mem,par,fun h e hp x hx=>?_,rt⟩
 have key:∀ l,l ∈ ls->(l=(h,x) ∨ l=(x,h))->e=some x ∨ (x,some h) ∈ P:=fun l hl' hlx=>by
  obtain ⟨a,b,hab,e1⟩:=ab9.mp (all l hl')
  have lt:=f.lt l hl'
  have c:(a=h/\b=x) ∨ (a=x/\b=h):=by
   rcases hlx with z | z <;> rw [z] at e1 lt <;> (have e2:=(bq6 e1).1; have e3:=(bq6 e1).2; dsimp only at lt; omega)
  rcases c with ⟨rfl,rfl⟩ | ⟨rfl,rfl⟩
  ·exact .inl (tD nd hp hab)
  ·exact .inr hab
 rcases L2.dI.mp hx with z | z
 ·exact key _ z (.inl rfl)
 ·exact key _ z (.inr rfl)
end
noncomputable def cA (els:List (Option Int)):List PV:=els.map i6
noncomputable def bP (els:List (Option Int)) (h:Int):Option Int:=els.getD h.toNat none
structure EI (n:Nat) (ls:List (Int × Int)) (O:List Int) (els:List (Option Int)):Prop where
 nd:O.Nodup
 inn:∀ x ∈ O,x ∈ rng n
 len:els.length=n
 par:∀ (i:Nat) (h g:Int),O[i]? = some h->bP els h=some g->∃ j:Nat,j < i/\O[j]? = some g/\g ∈ aO ls h
 root:∀ h ∈ O,bP els h=none->h ∈ aV ls (rng n)
 out:∀ h ∈ rng n,h ∉ O->bP els h=none
section
variable {n : Nat} {ls : List (Int × Int)} {O : List Int} {els : List (Option Int)} {x g : Int}
theorem aT0 (h0:0<=x) {y:Int} (y0:0<=y) (ne:y ≠ x) {v:Option Int}:bP (els.set x.toNat v) y=bP els y:=by
 unfold bP
 rw [bc7,bc7,be7 (by omega)]
theorem aT1 (h0:0<=x) (h1:x < (els.length:Int)) {v:Option Int}:bP (els.set x.toNat v) x=v:=by
 unfold bP
 rw [bc7,bh1 (by omega)]; rfl
theorem EI.put (e:EI n ls O els) (hx:x ∉ O) (xr:x ∈ rng n) (hg:g ∈ O) (gn:g ∈ aO ls x):EI n ls (O ++ [x]) (els.set x.toNat (some g)):=by
 have xm:=cT.mp xr
 have ps:∀ y ∈ rng n,y ≠ x->bP (els.set x.toNat (some g)) y=bP els y:=fun y hy ne=>aT0 xm.1 (cT.mp hy).1 ne
 have self:bP (els.set x.toNat (some g)) x=some g:=aT1 xm.1 (by rw [e.len]; exact xm.2)
 refine⟨bm8.mpr ⟨e.nd,be8 _ _,fun a ha b hb z=>hx (by rw [<- bc1.mp hb,<- z]; exact ha)⟩,fun y hy=>?_,by rw [bg1]; exact e.len,fun i h g' hi hel=>?_,fun h hh hel=>?_,fun h hr hh=>?_⟩
 ·rcases bc9.mp hy with z | z
  ·exact e.inn y z
  ·rw [bc1.mp z]; exact xr
 ·by_cases il:i < O.length
  ·rw [bf3 il] at hi
   have hm:=bc2 hi
   rw [ps h (e.inn h hm) fun z=>hx (z ▸ hm)] at hel
   obtain ⟨j,ji,hj,gn⟩:=e.par i h g' hi hel
   exact⟨j,ji,by rw [bf3 (by omega)]; exact hj,gn⟩
  ·rw [bm3 (by omega)] at hi
   have:h=x:=bc1.mp (bc2 hi)
   subst this
   rw [self] at hel
   cases hel
   obtain ⟨j,hj⟩:=bj7.mp hg
   have jl:=(bc4.mp hj).1
   exact⟨j,by omega,by rw [bf3 jl]; exact hj,gn⟩
 ·rcases bc9.mp hh with z | z
  ·rw [ps h (e.inn h z) fun q=>hx (q ▸ z)] at hel
   exact e.root h z hel
  ·rw [bc1.mp z,self] at hel; cases hel
 ·rw [ps h hr fun z=>hh (by rw [z]; exact bf2 _ (bo4 _))]
  exact e.out h hr fun z=>hh (bf7 _ z)
theorem EI.rt (e:EI n ls O els) (hx:x ∉ O) (xh:x ∈ aV ls (rng n)):EI n ls (O ++ [x]) els:=by
 have xr:=(e7.mp xh).1
 refine⟨bm8.mpr ⟨e.nd,be8 _ _,fun a ha b hb z=>hx (by rw [<- bc1.mp hb,<- z]; exact ha)⟩,fun y hy=>?_,e.len,fun i h g' hi hel=>?_,fun h hh hel=>?_,fun h hr hh=>e.out h hr fun z=>hh (bf7 _ z)⟩
 ·rcases bc9.mp hy with z | z
  ·exact e.inn y z
  ·rw [bc1.mp z]; exact xr
 ·by_cases il:i < O.length
  ·rw [bf3 il] at hi
   obtain ⟨j,ji,hj,gn⟩:=e.par i h g' hi hel
   exact⟨j,ji,by rw [bf3 (by omega)]; exact hj,gn⟩
  ·rw [bm3 (by omega)] at hi
   have:h=x:=bc1.mp (bc2 hi)
   subst this
   rw [e.out h xr hx] at hel; cases hel
 ·rcases bc9.mp hh with z | z
  ·exact e.root h z hel
  ·rw [bc1.mp z]; exact xh
theorem EI.le (e:EI n ls O els):O.length<=n:=by
 have:=fY e.nd (m:=rng n) e.inn
 rwa [dX] at this
theorem EI.head (e:EI n ls O els) (sh:dY ls (rng n) O) (hx:x ∉ O) (xr:x ∈ rng n) (low:∀ y ∈ rng n,y < x->y ∈ O):x ∈ aV ls (rng n):=by
 refine pS (j9 n) xr (U:=(rng n).filter fun y=>!decide (y ∈ O)) (fun a ha b hb br=>?_) (bd7.mpr ⟨xr,by rw [bc3 hx]; rfl⟩) fun y hy yr=>?_
 ·obtain ⟨a1,a2⟩:=bd7.mp ha
  refine bd7.mpr ⟨br,?_⟩
  have:b ∉ O:=fun z=>by
   have:=sh b z a (jU hb) a1
   rw [bc0 this] at a2; cases a2
  rw [bc3 this]; rfl
 ·have y2:=(bd7.mp hy).2
  refine bi9 fun no=>?_
  rw [bc0 (low y yr (by omega))] at y2; cases y2
noncomputable def gA (O:List Int) (els:List (Option Int)):bX:=O.map fun h=>(h,bP els h)
theorem EI.all (e:EI n ls O els) (w:dG n ls) (f:fJ ls) (all:∀ y ∈ rng n,y ∈ O):Rt n ls (gA O els):=by
 have m1:(gA O els).map (·.1)=O:=by unfold gA; rw [bi4]; exact List.map_id'' (fun _=>rfl) _
 have at_:∀ (i:Nat) (h:Int) (q:Option Int),(gA O els)[i]? = some (h,q) ↔ O[i]? = some h/\q=bP els h:=fun i h q=>by
  unfold gA
  rw [bd1]
  cases z:O[i]? with
  | none=>simp
  | some y=>
   constructor
   ·intro q'; cases q'; exact⟨rfl,rfl⟩
   ·rintro ⟨q1,q2⟩; cases q1; rw [q2]; rfl
 refine Rt.of_tree w f (by rw [m1]; exact e.nd) (fun h=>by rw [m1]; exact⟨e.inn h,all h⟩) (fun i h g hi=>?_) fun h hh=>?_
 ·obtain ⟨h1,h2⟩:=(at_ i h _).mp hi
  obtain ⟨j,ji,hj,gn⟩:=e.par i h g h1 h2.symm
  exact⟨j,bP els g,ji,(at_ j g _).mpr ⟨hj,rfl⟩,gn⟩
 ·obtain ⟨i,hi⟩:=g9 hh
  obtain ⟨h1,h2⟩:=(at_ i h _).mp hi
  exact e.root h (bc2 h1) h2.symm
end
structure iM (n:Nat) (ls:List (Int × Int)) (els:List (Option Int)) (O:List Int):Prop where
 len:els.length=n
 rt:Rt n ls (gA O els)
noncomputable def tK:bH:=fun xs Q=>∃ ws ls,xs = [bF ws ls]/\Wb ws ls/\dD ws.length ls/\dG ws.length ls/\∀ els O,iM ws.length ls els O->Q (.tup [.lst (cA els),.lst (intz O)])
noncomputable def ac0:aK:=(eJ (dM (aX (a5 1) (aX (a5 3) (a5 5)))) (bZ 6)
     (cB (b9 (q2 (rR true) (a5 6) (a5 3))) (aE (lR 2 (a5 6) (aX (a5 3) (a5 5)))
      (i4 3 (a5 6))) cD))
noncomputable def yQ:aK:=(mR (b9 (lV (a5 5) (aB cP (a6 (a5 3) a9))))
    (aE ac0
    (b6 5 (bN (a5 5) (qC (.int 1))))))
noncomputable def ac1:aK:=(aE (b6 1 (aB W9 (a6 (a5 0) a9)))
 (aE (e9 2 (pK (dL (a6 (qC .non) a9)) (aB cP (a6 (aX (a5 0) (qC (.int 0))) a9))))
 (aE (e9 3 (dL a9))
 (aE (eJ (iV (aB cP (a6 (aX (a5 0) (qC (.int 0))) a9))) (bZ 4)
  (cB (b9 (q2 (rR true) (a5 4) (a5 3))) (aE (i4 3 (a5 4))
   (aE (b6 5 (gQ (aB cP (a6 (a5 3) a9)) (qC (.int 1))))
   yQ)) cD))
 (oR 2 (oR 3 (bG (vS (a6 (a5 2) (a6 (a5 3) a9))))))))))
section
variable {n : Nat} {ls : List (Int × Int)} {O : List Int} {els : List (Option Int)} {E : fB} {s0 s4 y6 : Option Slot} {t : Nat} {cur : Int}
theorem aT2 (n40:n<=40) (lk:dD n ls) (e:EI n ls O els) (hc:O[t]? = some cur) (sh:∀ (i:Nat) (h:Int),i < t->O[i]? = some h->∀ y ∈ aO ls h,y ∈ O)
  (nx:∀ O' els' y6,EI n ls O' els'->(∀ (i:Nat) (h:Int),O[i]? = some h->O'[i]? = some h)->(∀ y ∈ aO ls cur,y ∈ O')->E.nx [s0,some (.sh true (.lst (cU n ls))),some (.own (.lst (cA els'))),some (.own (.lst (intz O'))),s4,si t,y6]) :
  ac0 E [s0,some (.sh true (.lst (cU n ls))),some (.own (.lst (cA els))),some (.own (.lst (intz O))),s4,si t,y6]:=by
 have cm:=bc2 hc
 have cr:=cT.mp (e.inn cur cm)
 have atc:∀ O':List Int,O'[t]? = some cur->L2.atI (intz O') (t:Int)=some (.int cur):=fun O' h=>jM (by unfold intz; rw [bd1,h]; rfl)
 refine⟨_,rfl,_,rfl,_,rfl,_,_,_,rfl,rfl,atc O hc,_,_,_,rfl,rfl,wX cr.1 cr.2,intz (aO ls cur),rfl,(fun z=>by cases z),fun j ρ=>∃ (O':List Int) (els':List (Option Int)) (y6:Option Slot),ρ = [s0,some (.sh true (.lst (cU n ls))),some (.own (.lst (cA els'))),some (.own (.lst (intz O'))),s4,si t,y6]/\EI n ls O' els'/\(∀ (i:Nat) (h:Int),O[i]? = some h->O'[i]? = some h)/\∀ y ∈ (aO ls cur).take j,y ∈ O',⟨O,els,y6,rfl,e,fun _ _ z=>z,fun y hy=>by rw [List.take_zero] at hy; cases hy⟩,?_,?_⟩
 ·rintro j y ρ hy ⟨O',els',y6,rfl,e',kp,dn⟩
  obtain ⟨x,rfl,hx⟩:=j4 hy
  have xn:=bc2 hx
  have xr:=lk.inr cur x xn
  have xm:=cT.mp xr
  have tk:(aO ls cur).take (j+1)=(aO ls cur).take j ++ [x]:=by rw [bf8,hx]; rfl
  have ol:=e'.le
  refine i7 ?_
  refine⟨_,rfl,_,rfl,x,O',rfl,rfl,_,rfl,?_⟩
  show if (!decide (x ∈ O'))=true then _ else _
  by_cases z:x ∈ O'
  ·rw [bc0 z]
   refine bB ⟨O',els',_,rfl,e',kp,fun y hy=>?_⟩
   rw [tk] at hy
   rcases bc9.mp hy with q | q
   ·exact dn y q
   ·rw [bc1.mp q]; exact z
  ·rw [bc3 z]
   have lo:(cA els').length=n:=by unfold cA; rw [bb8]; exact e'.len
   refine bD ⟨_,rfl,_,rfl,_,_,_,rfl,rfl,atc O' (kp t cur hc),cA els',rfl,_,rfl,x,x.toNat,rfl,?_,rfl,?_⟩
   ·rw [lo]; unfold gD; rw [if_pos (by omega),if_pos (by omega)]
   refine⟨_,rfl,_,rfl,trivial,by rw [bO]; omega,O' ++ [x],els'.set x.toNat (some cur),si x,?_,e'.put z xr (bc2 (kp t cur hc)) (jU xn),fun i h hi=>by rw [bf3 (bc4.mp (kp i h hi)).1]; exact kp i h hi,fun y hy=>?_⟩
   ·have q1:cA (els'.set x.toNat (some cur))=(cA els').set x.toNat (.int cur):=by unfold cA; rw [List.map_set]; rfl
    show _ = [_,_,some (Slot.own (.lst (cA (els'.set x.toNat (some cur))))),some (Slot.own (.lst (intz (O' ++ [x])))),_,_,_]
    rw [q1,fU]; rfl
   ·rw [tk] at hy
    rcases bc9.mp hy with q | q
    ·exact bf7 _ (dn y q)
    ·rw [bc1.mp q]; exact bf2 _ (bo4 _)
 ·rintro ρ ⟨O',els',y6,rfl,e',kp,dn⟩
  rw [bO,bf5 (bc5 _)] at dn
  exact nx O' els' y6 e' kp dn
theorem aT3 (n40:n<=40) (lk:dD n ls) (e:EI n ls O els) (tl:t<=O.length) (sh:∀ (i:Nat) (h:Int),i < t->O[i]? = some h->∀ y ∈ aO ls h,y ∈ O)
  (nx:∀ O' els' y5 y6,EI n ls O' els'->dY ls (rng n) O'->(∀ x ∈ O,x ∈ O')->E.nx [s0,some (.sh true (.lst (cU n ls))),some (.own (.lst (cA els'))),some (.own (.lst (intz O'))),s4,y5,y6]) :
  yQ E [s0,some (.sh true (.lst (cU n ls))),some (.own (.lst (cA els))),some (.own (.lst (intz O))),s4,si t,y6]:=by
 refine⟨fun m ρ=>∃ (O':List Int) (els':List (Option Int)) (t:Nat) (y6:Option Slot),ρ = [s0,some (.sh true (.lst (cU n ls))),some (.own (.lst (cA els'))),some (.own (.lst (intz O'))),s4,si t,y6]/\EI n ls O' els'/\t<=O'.length/\(∀ (i:Nat) (h:Int),i < t->O'[i]? = some h->∀ y ∈ aO ls h,y ∈ O')/\(∀ x ∈ O,x ∈ O')/\m=n - t,⟨_,O,els,t,y6,rfl,e,tl,sh,fun _ z=>z,rfl⟩,?_⟩
 rintro m ρ ⟨O',els',t,y6,rfl,e',tl,sh,sub,rfl⟩
 have ol:=e'.le
 refine⟨_,rfl,_,rfl,_,_,rfl,rfl,_,_,rfl,rfl,_,rfl,?_⟩
 rw [bO]
 by_cases lt:t < O'.length
 ·rw [bc0 (by omega)]
  obtain ⟨cur,hc⟩:∃ c,O'[t]? = some c:=⟨_,bb9 lt⟩
  refine bD (aT2 n40 lk e' hc sh fun O2 els2 y6 e2 kp dn=>?_)
  refine⟨_,rfl,_,_,rfl,rfl,trivial,n - (t+1),by omega,O2,els2,t+1,y6,rfl,e2,?_,fun i h it hi y hy=>?_,fun x hx=>?_,rfl⟩
  ·have:=(bc4.mp (kp t cur hc)).1; omega
  ·have i2:=(bc4.mp (kp t cur hc)).1
   by_cases e1:i=t
   ·subst e1
    rw [kp i cur hc] at hi
    cases hi
    exact dn y hy
   ·obtain ⟨h',hh'⟩:∃ c,O'[i]? = some c:=⟨_,bb9 (by omega)⟩
    rw [kp i h' hh'] at hi
    cases hi
    obtain ⟨k,hk⟩:=bj7.mp (sh i h (by omega) hh' y hy)
    exact bc2 (kp k y hk)
  ·obtain ⟨k,hk⟩:=bj7.mp (sub x hx)
   exact bc2 (kp k x hk)
 ·rw [bc3 (by omega)]
  refine bB (nx O' els' _ _ e' (fun x hx y hy _=>?_) sub)
  obtain ⟨i,hi⟩:=bj7.mp hx
  have il:=(bc4.mp hi).1
  exact sh i x (by omega) hi y hy
end
theorem ac2 {a b:PV × Tg} (ha:Nw a.2 a.1) (hb:Nw b.2 b.1):jX [a,b]:=by
 intro p hp
 simp only [bd0,bf1,bj8] at hp
 rcases hp with rfl | rfl
 ·exact ha
 ·exact hb
theorem ac3 (n:Nat):(List.replicate n [PV.non]).flatten=cA (List.replicate n none):=by
 induction n with
 | zero=>rfl
 | succ n ih=>rw [bg4,bl2,ih,bg4]; rfl
theorem aT4 (els:List (Option Int)):flats (cA els)=true:=by
 induction els with
 | nil=>rfl
 | cons e r ih=>
  show (flat (i6 e) && flats (cA r))=true
  rw [ih]; cases e <;> rfl
theorem aT5:cF ac1 ["web","beside","elders","order","root","at","other"] tK:=by
 rintro xs Q ⟨ws,ls,rfl,wb,lk,w,q⟩
 have few:=wb.few
 refine⟨_,rfl,ws,ls,rfl,wb,trivial,?_⟩
 refine⟨by show 1<=1000; decide,rfl,_,rfl,_,_,_,rfl,rfl,rfl,_,_,rfl,rfl,_,_,rfl,by rw [bO],rfl,by omega,by omega,by show 1<=10; decide,rfl,?_,?_⟩
 ·show flats (List.replicate (ws.length:Int).toNat [PV.non]).flatten=true
  rw [ac3]; exact aT4 _
 show (aE _ _) _ [_,_,some (Slot.own (.lst (List.replicate (ws.length:Int).toNat [PV.non]).flatten)),_,_,_,_]
 rw [ac3,be5]
 refine⟨by decide,rfl,rfl,rfl,?_⟩
 refine⟨_,rfl,_,_,_,rfl,rfl,rfl,_,_,rfl,rfl,ws.length,by rw [bO],by omega,by omega,fun r ρ=>∃ (O:List Int) (els:List (Option Int)) (y4 y5 y6:Option Slot),ρ = [some (.sh (flat (bF ws ls)) (bF ws ls)),some (.sh true (.lst (cU ws.length ls))),some (.own (.lst (cA els))),some (.own (.lst (intz O))),y4,y5,y6]/\EI ws.length ls O els/\dY ls (rng ws.length) O/\∀ y ∈ rng ws.length,y < (r:Int)->y ∈ O,⟨[],_,none,none,none,rfl,⟨bo3,(fun _ z=>by cases z),bl4,(fun i h g hi=>by cases hi),(fun _ z=>by cases z),fun h hr _=>?_⟩,(fun _ z=>by cases z),fun y hy lt=>?_⟩,?_,?_⟩
 ·unfold bP
  rw [bc7,List.getElem?_replicate]
  split <;> rfl
 ·have:=(cT.mp hy).1; omega
 ·rintro r y ρ hy ⟨O,els,y4,y5,y6,rfl,e,sh,low⟩
  obtain ⟨rfl,hr⟩:=j5 hy
  have hr:r < ws.length:=by omega
  have rr:(r:Int) ∈ rng ws.length:=cT.mpr ⟨by omega,by omega⟩
  have ol:=e.le
  refine i7 ?_
  rw [bo8]
  refine⟨_,rfl,_,rfl,(r:Int),O,rfl,rfl,_,rfl,?_⟩
  show if (!decide ((r:Int) ∈ O))=true then _ else _
  by_cases z:(r:Int) ∈ O
  ·rw [bc0 z]
   refine bB ⟨O,els,_,_,_,rfl,e,sh,fun y hy lt=>?_⟩
   by_cases q:y=r
   ·rw [q]; exact z
   ·exact low y hy (by omega)
  ·rw [bc3 z]
   have e2:=e.rt z (e.head sh z rr low)
   refine bD ⟨_,rfl,_,rfl,trivial,by rw [bO]; omega,?_⟩
   refine⟨_,rfl,_,_,rfl,rfl,_,_,rfl,rfl,trivial,?_⟩
   have q1:intz O ++ [PV.int (r:Int)]=intz (O ++ [(r:Int)]):=by rw [fU]; rfl
   show yQ _ [_,_,_,some (Slot.own (.lst (intz O ++ [PV.int (r:Int)]))),_,si (((intz O ++ [PV.int (r:Int)]).length:Int) - 1),_]
   rw [q1,bO,bd3,show ((O.length + [(r:Int)].length:Nat):Int) - 1=(O.length:Int) by show ((O.length+1:Nat):Int) - 1=_; omega]
   refine aT3 few lk e2 (by rw [bd3]; omega) (fun i h it hi y hy=>?_) fun O' els' y5 y6 e' sh' sub=>⟨O',els',_,y5,y6,rfl,e',sh',fun y hy lt=>?_⟩
   ·rw [bf3 it] at hi
    exact bf7 _ (sh h (bc2 hi) y hy (lk.inr h y hy))
   ·by_cases q:y=r
    ·rw [q]; exact sub _ (bf2 _ (bo4 _))
    ·exact sub y (bf7 _ (low y hy (by omega)))
 ·rintro ρ ⟨O,els,y4,y5,y6,rfl,e,sh,low⟩
  rw [fE,be5] at low
  exact⟨_,rfl,_,rfl,_,rfl,_,rfl,by show 2<=1000; decide,ac2 trivial trivial,trivial,q els O ⟨e.len,e.all w lk.fit fun y hy=>low y hy (cT.mp hy).2⟩⟩
end Core
namespace PP
open PySem L2
section
variable {X : Cx} {a b : Expr} {ta tb : aF} {pos : Pos}
noncomputable def yR:PV->Tg->PV->Tg->PK->Prop:=fun x _ y _ Q=>∃ (i:Int) (o:Option Int),x=Core.i6 o/\y = .int i/\Q (.bl (decide (o=some i))) .fr
theorem aT6:eS X yR u6:=by
 rintro W Hs H u v x y g g' Q Q' s n r1 r2 ⟨i,o,rfl,rfl,q⟩ k
 cases r2
 cases o with
 | none=>
  cases r1
  exact⟨rfl,k _ _ _ .fr (aD.refl _) (.bl false) q⟩
 | some j=>
  cases r1
  have e:decide (V.int j=V.int i)=decide (some j=some i):=decide_eq_decide.mpr ⟨fun z=>by cases z; rfl,fun z=>by cases z; rfl⟩
  refine⟨rfl,?_⟩
  rw [e]
  exact k _ _ _ .fr (aD.refl _) (.bl _) q
theorem aT7 (ha:QE X a ta) (hb:QE X b tb):QT X (.Compare a [.Eq] [b] pos) (b9 (q2 yR ta tb)):=iF u8 aT6 ha hb (eO _)
end
end PP
namespace Core
open PySem L2 PP
theorem ac4 {i:Nat}{a b:Int}{g:Bool}{ρ:bJ}{Q:bJ->Prop} (q:Q (ρ.set i (some (.sh true (.tup [.int a,.int b]))))):bZ i (.tup [.int a,.int b]) g ρ Q:=by
 show Q (ρ.set i (some (.sh (g || true) (.tup [.int a,.int b]))))
 rw [Bool.or_true]; exact q
theorem aT8 {n:Nat}{ls:List (Int × Int)}{P:bX}{els:List (Option Int)}{O:List Int}{h:Int}{e:Option Int} (R:Rt n ls P) (f:fJ ls) (B:iM n ls els O) (hp:(h,e) ∈ P):bL ls h e=(rng n).filter fun c=>decide (bP els c=some h):=by
 refine W5 ((aP3 f h).filter _) ((xD n).filter _) fun c=>?_
 rw [R.kid f hp,pV R B.rt,bd7,bm6]
 unfold gA
 rw [bd6]
 constructor
 ·rintro ⟨x,hx,z⟩
  have z1:x=c:=(bq6 z).1
  have z2:bP els x=some h:=(bq6 z).2
  subst z1
  have:=B.rt.mem x
  unfold gA at this
  rw [bi4] at this
  exact⟨this.mp (bd6.mpr ⟨x,hx,rfl⟩),z2⟩
 ·rintro ⟨cr,z⟩
  have:=(B.rt.mem c).mpr cr
  unfold gA at this
  rw [bi4] at this
  obtain ⟨x,hx,ex⟩:=bd6.mp this
  have ex:x=c:=ex
  subst ex
  exact⟨x,hx,by rw [z]⟩
theorem ac5 {els:List (Option Int)}{h:Int} (h0:0<=h) (h1:h < (els.length:Int)):L2.atI (cA els) h=some (i6 (bP els h)):=by
 obtain ⟨j,rfl⟩:∃ j:Nat,h=j:=⟨h.toNat,by omega⟩
 refine jM ?_
 unfold cA bP
 rw [be5,bd1,bc7,bb9 (by omega)]; rfl
section
variable {ws ps : List Int} {ls : List (Int × Int)} {P : bX} {L : bR} {S O : List Int} {n : Nat}
noncomputable def iN (ws ps:List Int) (ls:List (Int × Int)) (L:bR) (h:Int) (e:Option Int):Prop:=0<=(bC L h).1/\(bC L h).1<=(bC L h).2/\(bC L h).1<=(eW (ws.getD h.toNat 0) (ps.getD h.toNat 0) ((bL ls h e).map (bC L))).1/\(bC L h).2<=(eW (ws.getD h.toNat 0) (ps.getD h.toNat 0) ((bL ls h e).map (bC L))).2
noncomputable def jD (P:bX):List Int:=(P.filter fun p=>p.2.isNone).map (·.1)
end
noncomputable def tL:bH:=fun xs Q=>∃ a b c d:Int,xs = [.tup [.int a,.int b],.tup [.int c,.int d]]/\Q (.bl (decide (0<=a/\a<=b/\a<=c/\b<=d)))
noncomputable def ac6:aK:=(bG (kM (kR (qC (.int 0)) (aX (a5 0) (qC (.int 0)))) (kM (kR (aX (a5 0) (qC (.int 0))) (aX (a5 0) (qC (.int 1)))) (kM (kR (aX (a5 0) (qC (.int 0))) (aX (a5 1) (qC (.int 0)))) (kR (aX (a5 0) (qC (.int 1))) (aX (a5 1) (qC (.int 1))))))))
theorem aT9:cF ac6 ["told","most"] tL:=by
 rintro xs Q ⟨a,b,c,d,rfl,q⟩
 refine⟨_,rfl,_,_,_,rfl,rfl,rfl,_,_,rfl,rfl,_,rfl,?_⟩
 by_cases h1:0<=a
 ·rw [bc0 h1]
  refine bD ⟨_,rfl,_,_,_,rfl,rfl,rfl,_,rfl,_,_,_,rfl,rfl,rfl,_,_,rfl,rfl,_,rfl,?_⟩
  by_cases h2:a<=b
  ·rw [bc0 h2]
   refine bD ⟨_,rfl,_,_,_,rfl,rfl,rfl,_,rfl,_,_,_,rfl,rfl,rfl,_,_,rfl,rfl,_,rfl,?_⟩
   by_cases h3:a<=c
   ·rw [bc0 h3]
    refine bD ⟨_,rfl,_,_,_,rfl,rfl,rfl,_,rfl,_,_,_,rfl,rfl,rfl,_,_,rfl,rfl,trivial,?_⟩
    rw [show decide (0<=a/\a<=b/\a<=c/\b<=d)=decide (b<=d) from decide_eq_decide.mpr ⟨fun z=>z.2.2.2,fun z=>⟨h1,h2,h3,z⟩⟩] at q
    exact q
   ·rw [bc3 h3]
    rw [bc3 fun z=>h3 z.2.2.1] at q
    exact bB ⟨trivial,q⟩
  ·rw [bc3 h2]
   rw [bc3 fun z=>h2 z.2.1] at q
   exact bB ⟨trivial,q⟩
 ·rw [bc3 h1]
  rw [bc3 fun z=>h1 z.1] at q
  exact bB ⟨trivial,q⟩
noncomputable def IsL (y:PV) (L:bR):Prop:=y = .tup (aH L) ∨ y = .lst (aH L)
theorem IsL.seq {y:PV}{L:bR} (h:IsL y L):iU y=some (aH L):=by rcases h with rfl | rfl <;> rfl
noncomputable def iO (ws ps:List Int) (ls:List (Int × Int)) (P:bX) (L:bR):Prop:=L.length=ws.length/\∀ h e,(h,e) ∈ P->iN ws ps ls L h e
noncomputable def pW:fW:=fun Ep xs Q=>∃ ws ls x ps y L,xs = [bF ws ls,x,y]/\Wb ws ls/\dD ws.length ls/\dG ws.length ls/\NN ws/\dR x ps/\j8 ws.length ps/\IsL y L/\L.length<=1000/\∀ P,Rt ws.length ls P->(iO ws ps ls P L->Q (.int ((jD P).map fun r=>(bC L r).2).sum))/\(¬ iO ws ps ls P L->Ep "NoPaper")
noncomputable def ac7 (Ep:Str->Prop):aK:=(aE (b6 8 (cS (dM (aB l9 (a6 (a5 5) (a6 (a5 6) (a6 (a5 7) a9))))) [none,some 2] (bZ 0) dB (aX (a5 1) (a5 0))))
  (cB (lP (b9 (aB tL (a6 (aX (a5 2) (a5 6)) (a6 (aB nT (a6 (aX (aX (a5 0) (qC (.int 0))) (a5 6)) (a6 (aX (a5 4) (a5 6)) (a6 (a5 8) a9)))) a9))))) (pL Ep "NoPaper" (a6 (qC (.str "a pair of the ledger is not right")) a9)) cD))
noncomputable def yT (Ep:Str->Prop):aK:=(aE (b6 3 (aB nS (a6 (a5 0) a9)))
 (aE (b6 4 (aB nJ (a6 (a5 1) (a6 (aB gJ (a6 (a5 0) a9)) a9))))
 (aE (cB (b9 (rS (aB cP (a6 (a5 2) a9)) (aB gJ (a6 (a5 0) a9)))) (pL Ep "NoPaper" (a6 (qC (.str "a ledger has a pair for each hearth")) a9)) cD)
 (aE (b6 5 (aB iH (a6 (a5 0) a9)))
 (aE (eJ (dM (a5 3)) (eI 6 7)
  (ac7 Ep))
 (bG (aB iI (a6 (cS (dM (a5 3)) [none,none,some 2] (eI 0 1) (b9 (O8 (a5 1) (qC .non))) (aX (aX (a5 2) (a5 0)) (qC (.int 1)))) a9))))))))
theorem ac8 {P:bX}{i:Nat}{y:PV} (hy:(dE P)[i]? = some y):∃ h e,P[i]? = some (h,e)/\y = .tup [.int h,i6 e]:=by
 unfold dE at hy
 rw [bd1] at hy
 cases z:P[i]? with
 | none=>rw [z] at hy; cases hy
 | some p=>rw [z] at hy; obtain ⟨h,e⟩:=p; exact⟨h,e,rfl,(be3 hy).symm⟩
section
variable {ws ps : List Int} {ls : List (Int × Int)} {P : bX} {L : bR} {h : Int} {e : Option Int} {E : fB} {s1 s3 y8 : Option Slot} {y : PV} {g : Bool} {Ep : Str → Prop}
theorem aU0 (lk:dD ws.length ls) (n40:ws.length<=40) (nn:NN ws) (pl:ps.length=ws.length) (ll:L.length=ws.length) (hr:h ∈ rng ws.length) (hy:IsL y L)
  (nx:iN ws ps ls L h e->∀ y8,E.nx [some (.sh true (bF ws ls)),s1,some (.sh g y),s3,some (.sh true (.tup (intz ps))),some (.sh true (.lst (cU ws.length ls))),si h,some (.sh true (i6 e)),y8]) (ne : ¬ iN ws ps ls L h e->Ep "NoPaper") :
  ac7 Ep E [some (.sh true (bF ws ls)),s1,some (.sh g y),s3,some (.sh true (.tup (intz ps))),some (.sh true (.lst (cU ws.length ls))),si h,some (.sh true (i6 e)),y8]:=by
 have hm:=cT.mp hr
 have nl:=lk.nlen h
 have kl:(bL ls h e).length<=ws.length:=by have:=bg7 (fun x=>!decide (some x=e)) (aO ls h); unfold bL; omega
 refine⟨_,rfl,_,rfl,_,rfl,ws.length,ls,h,e,rfl,hm.1,hm.2,by omega,intz (bL ls h e),rfl,(fun z=>by cases z),by rw [bO]; omega,fun i acc=>acc=aH (((bL ls h e).take i).map (bC L)),rfl,?_,?_⟩
 ·rintro i y' acc hy' rfl
  obtain ⟨c,rfl,hc⟩:=j4 hy'
  have cr:=cT.mp (lk.inr h c (kE.mp (bc2 hc)).1)
  refine⟨_,rfl,_,rfl,_,_,_,hy.seq,rfl,jC cr.1 (by omega),?_,?_⟩
  ·cases g <;> first | rfl | trivial
  dsimp only
  unfold aH
  rw [bf8,hc,bd8,bd8]; rfl
 ·rintro acc rfl
  rw [bO,bf5 (bc5 _)]
  have wp:0<=ws.getD h.toNat 0:=m9 nn _
  refine⟨trivial,?_⟩
  refine⟨_,rfl,_,rfl,_,_,_,hy.seq,rfl,jC hm.1 (by omega),_,rfl,_,_,_,rfl,rfl,rfl,_,rfl,_,_,_,rfl,rfl,tJ hm.1 hm.2,_,rfl,_,rfl,_,_,_,rfl,rfl,tJ hm.1 (by omega),_,rfl,_,_,(bL ls h e).map (bC L),rfl,wp,by rw [bb8]; omega,_,_,_,_,rfl,_,rfl,?_⟩
  by_cases r:iN ws ps ls L h e
  ·rw [bc0 (show 0<=(bC L h).1/\(bC L h).1<=(bC L h).2/\(bC L h).1<=_/\(bC L h).2<=_ from r)]
   exact bB (nx r _)
  ·rw [bc3 (show ¬ (0<=(bC L h).1/\(bC L h).1<=(bC L h).2/\(bC L h).1<=_/\(bC L h).2<=_) from r)]
   exact bD ⟨by decide,ne r⟩
end
theorem aU1:xN yT ["web","prices","ledger","pairs","known","around","hearth","elder","below"] pW:=by
 rintro Ep xs Q ⟨ws,ls,x,ps,y,L,rfl,wb,lk,w,nn,hx,⟨gl,gn⟩,hy,ll,q⟩
 have few:=wb.few
 show yT Ep _ [some (.sh (flat (bF ws ls)) (bF ws ls)),some (.sh (flat x) x),some (.sh (flat y) y),none,none,none,none,none,none]
 rw [wV]
 refine⟨_,rfl,ws,ls,rfl,wb,lk,w,fun P R=>⟨trivial,?_⟩⟩
 obtain ⟨q1,q2⟩:=q P R
 have pl:=ab6 R
 refine⟨_,rfl,_,rfl,ws,ls,rfl,x,ps,ws.length,rfl,hx,gl,by omega,gn,trivial,?_⟩
 refine⟨_,rfl,_,(aH L).length,rfl,(by rcases hy with rfl | rfl <;> rfl),_,rfl,ws,ls,rfl,.inl ⟨_,_,rfl,rfl,_,rfl,?_⟩⟩
 rw [dF]
 show if (!decide ((L.length:Int)=(ws.length:Int)))=true then _ else _
 by_cases c:L.length=ws.length
 ·rw [bc0 (by omega)]
  refine bB ?_
  refine⟨_,rfl,ws,ls,rfl,wb,trivial,?_⟩
  refine⟨_,rfl,dE P,rfl,(fun z=>by cases z),fun i ρ=>∃ (y6 y7 y8:Option Slot),ρ = [some (.sh true (bF ws ls)),some (.sh (flat x) x),some (.sh (flat y) y),some (.sh true (.lst (dE P))),some (.sh true (.tup (intz ps))),some (.sh true (.lst (cU ws.length ls))),y6,y7,y8]/\∀ p ∈ P.take i,iN ws ps ls L p.1 p.2,⟨none,none,none,rfl,fun p hp=>by rw [List.take_zero] at hp; cases hp⟩,?_,?_⟩
  ·rintro i y' ρ hy' ⟨y6,y7,y8,rfl,ok⟩
   obtain ⟨h,e,hi,rfl⟩:=ac8 hy'
   have hp:=bc2 hi
   refine⟨_,_,rfl,?_⟩
   refine aU0 lk few nn gl c (R.inr hp) hy (fun r y8=>⟨_,_,y8,rfl,fun p hp'=>?_⟩) fun no=>q2 fun z=>no (z.2 h e hp)
   rw [bf8,hi] at hp'
   rcases bc9.mp hp' with z | z
   ·exact ok p z
   ·cases bc1.mp z; exact r
  ·rintro ρ ⟨y6,y7,y8,rfl,ok⟩
   rw [jB,bf5 (bc5 _)] at ok
   have q0:=q1 ⟨c,fun h e hp=>ok (h,e) hp⟩
   refine⟨_,rfl,dE P,rfl,(fun z=>by cases z),by rw [jB]; omega,fun i acc=>acc=intz ((jD (P.take i)).map fun r=>(bC L r).2),rfl,?_,?_⟩
   ·rintro i y' acc hy' rfl
    obtain ⟨h,e,hi,rfl⟩:=ac8 hy'
    have hm:=cT.mp (R.inr (bc2 hi))
    have tk:jD (P.take (i+1))=jD (P.take i) ++ (if e.isNone=true then [h] else []):=by
     unfold jD
     rw [pF (p:=fun p:Int × Option Int=>p.2.isNone) hi,bd8]
     congr 1
     cases e <;> rfl
    refine⟨_,_,rfl,?_⟩
    refine⟨_,rfl,rfl,_,rfl,?_⟩
    cases e with
    | none=>
     refine bD ⟨_,rfl,_,rfl,_,_,_,hy.seq,rfl,jC hm.1 (by omega),_,_,_,rfl,rfl,rfl,?_,?_⟩
     ·cases flat y <;> first | rfl | trivial
     dsimp only
     rw [tk,if_pos (show (none:Option Int).isNone=true from rfl),bd8,fU]; rfl
    | some g=>
     refine bB ?_
     dsimp only
     rw [tk,if_neg (by simp),bj0]
   ·rintro acc rfl
    rw [jB,bf5 (bc5 _)]
    exact⟨_,_,rfl,rfl,trivial,q0⟩
 ·rw [bc3 (by omega)]
  exact bD ⟨by decide,q2 fun z=>c z.1⟩
theorem aU2 (K:PySem.W.Frag):PySem.W.kitOne K (.type "list") (.type "tuple")=some false:=by
 have e:(if PySem.W.kitMeta "tuple" = true then (fastBuiltinMro "list").map (·.contains (Value.type "tuple")) else none)=some false:=by decide +kernel
 unfold PySem.W.kitOne
 rw [if_neg (by decide)]
 exact e
theorem yU (M:bR) (lo hi:Option Int):∃ zs:bR,fF (aH M) lo hi=aH zs/\zs.length<=M.length:=by
 refine⟨(M.drop (HT.aW (aH M).length 0 lo)).take (HT.aW (aH M).length (aH M).length hi - HT.aW (aH M).length 0 lo),?_,?_⟩
 ·unfold fF aH; rw [List.map_take,List.map_drop]
 ·rw [bj2,bk5]; omega
noncomputable def tM:bH:=fun xs Q=>∃ (L:bR) (ns:List Int),xs = [.tup (aH L),.scr ns]/\L.length<=40/\∀ M:bR,M.length=L.length->Q (.lst (aH M))
noncomputable def aU3:aK:=(aE (b6 4 (aB gV (a6 (bN (aB dS (a6 (a5 1) (a6 (bN (qC (.int 4)) (a5 3)) a9))) (aB dS (a6 (a5 1) (a6 (qC (.int 2)) a9)))) (a6 (bN (a5 3) (qC (.int 3))) a9))))
  (aE (nK (eI 5 6) (aX (a5 0) (a5 3)))
  (aE (cB (b9 (lW (bT (aB dS (a6 (a5 1) (a6 (qC (.int 2)) a9))) (qC (.int 3))) (qC (.int 0)))) (aE (b6 5 (aB kN (a6 (qC (.int 0)) (a6 (gQ (a5 5) (bT (a5 4) (qC (.int 3)))) a9))))
   (b6 6 (aB kN (a6 (a5 5) (a6 (gQ (a5 6) (bT (fR (a5 4) (qC (.int 3))) (qC (.int 4)))) a9))))) cD)
  (i4 2 (dJ (a6 (a5 5) (a6 (a5 6) a9)))))))
noncomputable def yV:aK:=(aE (e9 2 (dL a9))
 (aE (eJ (iV (aB cP (a6 (a5 0) a9))) (bZ 3)
  aU3)
 (iT 2)))
theorem aU4:cF yV ["ledger","script","found","hearth","number","first","second"] tM:=by
 rintro xs Q ⟨L,ns,rfl,ll,q⟩
 show yV _ [some (.sh (flats (aH L)) (.tup (aH L))),some (.sh true (.scr ns)),none,none,none,none,none]
 rw [show flats (aH L)=true from fH L]
 refine⟨by decide,rfl,rfl,rfl,?_⟩
 refine⟨_,rfl,_,_,rfl,rfl,L.length,by rw [dF],by omega,by omega,fun i ρ=>∃ (M:bR) (y3 y4 y5 y6:Option Slot),ρ = [some (.sh true (.tup (aH L))),some (.sh true (.scr ns)),some (.own (.lst (aH M))),y3,y4,y5,y6]/\M.length=i,⟨[],none,none,none,none,rfl,rfl⟩,?_,?_⟩
 ·rintro i y ρ hy ⟨M,y3,y4,y5,y6,rfl,ml⟩
  obtain ⟨rfl,hi⟩:=j5 hy
  have hi:i < L.length:=by omega
  refine i7 ?_
  rw [bo8]
  refine⟨_,rfl,_,rfl,_,_,rfl,rfl,_,ns,_,rfl,.inl rfl,by show 0<=4+(i:Int); omega,_,rfl,_,ns,2,rfl,.inl rfl,by decide,_,_,rfl,rfl,_,rfl,_,_,rfl,rfl,_,_,rfl,by omega,by omega,fun z _=>⟨trivial,?_⟩⟩
  refine⟨_,rfl,_,rfl,_,_,_,rfl,rfl,jC (by omega) (by omega),trivial,pR ?_⟩
  have fin:∀ a b:Int,(i4 2 (dJ (a6 (a5 5) (a6 (a5 6) a9)))) { nx:=fun ρ=>∃ (M:bR) (y3 y4 y5 y6:Option Slot),ρ = [some (.sh true (.tup (aH L))),some (.sh true (.scr ns)),some (.own (.lst (aH M))),y3,y4,y5,y6]/\M.length=i+1,rt:=Q,bk:=fun ρ=>(iT 2) { nx:=fun _=>Q .non,rt:=Q } ρ,ct:=fun ρ=>∃ (M:bR) (y3 y4 y5 y6:Option Slot),ρ = [some (.sh true (.tup (aH L))),some (.sh true (.scr ns)),some (.own (.lst (aH M))),y3,y4,y5,y6]/\M.length=i+1 } [some (.sh true (.tup (aH L))),some (.sh true (.scr ns)),some (.own (.lst (aH M))),si i,si z,si a,si b]:=fun a b=>by
   refine⟨_,rfl,_,rfl,_,rfl,by show 2<=1000; decide,rfl,trivial,by rw [dF]; omega,M ++ [(a,b)],si i,si z,si a,si b,?_,by rw [bd3,ml]; rfl⟩
   rw [pP]; rfl
  refine⟨_,rfl,_,ns,2,rfl,.inl rfl,by decide,_,_,rfl,rfl,(by show (0:Int) < 3; decide),_,_,rfl,rfl,_,rfl,m7 ?_ (fin _ _)⟩
  refine⟨_,rfl,_,rfl,_,_,rfl,rfl,(by show (0:Int) < 3; decide),_,_,rfl,rfl,_,_,rfl,trivial,?_⟩
  exact⟨_,rfl,_,rfl,_,rfl,_,_,rfl,rfl,⟨by decide,by decide⟩,_,_,rfl,rfl,(by show (0:Int) < 4; decide),_,_,rfl,rfl,_,_,rfl,trivial,fin _ _⟩
 ·rintro ρ ⟨M,y3,y4,y5,y6,rfl,ml⟩
  rw [fE,be5] at ml
  exact⟨_,rfl,trivial,q M ml⟩
noncomputable def tN:bH:=fun xs Q=>∃ (a b p w:Int) (bl:bR),xs = [.tup [.int a,.int b],.int p,.int w,.lst (aH bl)]/\0<=p/\0<=w/\bl.length < 64/\Q (.bl (decide (0<=a/\a<=b/\a<=(eW w p bl).1/\b<=(eW w p bl).2)))
noncomputable def ac9:aK:=(aE (cB (mP (b9 (lV (a5 4) (qC (.int 0)))) (mP (b9 (lW (a5 4) (a5 5))) (b9 (lW (a5 5) (bN (a5 1) (a5 6)))))) (bG (qC (.bl false))) cD)
 (aE (cB (b9 (iY (a5 2) (qC (.int 0)))) (bG (kR (a5 5) (a5 6))) cD)
 (aE (cB (rJ (b9 (kR (gQ (a5 2) (qC (.int 1))) (aB cP (a6 (a5 7) a9)))) (b9 (lW (a5 4) (bN (a5 6) (aB iI (a6 (jZ (a5 7) kQ (iX (gQ (a5 2) (qC (.int 1))))) a9)))))) (bG (qC (.bl false))) cD)
 (bG (rK (lW (a5 2) (aB cP (a6 (a5 7) a9))) (kR (a5 5) (bN (a5 6) (aB iI (a6 (jZ (a5 7) kQ (iX (a5 2))) a9)))))))))
noncomputable def ad0:aK:=(aE (nK (eI 4 5) (a5 0))
 (aE (b6 6 (aB iI (a6 (cS (dM (a5 3)) [none] (bZ 0) dB (aX (a5 0) (qC (.int 0)))) a9)))
 (aE (b6 7 (aB rM (a6 (cS (dM (a5 3)) [none] (bZ 0) dB (gQ (aX (a5 0) (qC (.int 1))) (aX (a5 0) (qC (.int 0))))) a9)))
 ac9)))
theorem aU5 {a b p w:Int}{bl:bR}{Q:PV->Prop}{s0 s3:Option Slot} (p0:0<=p) (w0:0<=w) (q:Q (.bl (decide (0<=a/\a<=b/\a<=(eW w p bl).1/\b<=(eW w p bl).2)))) :
  ac9 { nx:=fun _=>Q .non,rt:=Q } [s0,si p,si w,s3,si a,si b,si (bl.map (·.1)).sum,some (.sh true (.lst (intz (cV (cR bl)))))]:=by
 have gl:(cV (cR bl)).length=bl.length:=by rw [aO9]; exact bb8 _
 have cut:∀ k:Int,0<=k->some (fF (intz (cV (cR bl))) none (some k))=some (intz ((cV (cR bl)).take k.toNat)):=fun k k0=>by rw [U3 k0]; unfold intz; rw [List.map_take]
 have e1:(eW w p bl).1=gM (max 0 (w - 1)) p bl:=rfl
 have e2:(eW w p bl).2=gM w p bl:=rfl
 rw [e1,e2] at q
 generalize hs:(bl.map (·.1)).sum=hp at q ⊢
 have m:∀ k,gM k p bl=hp+(if k<=(bl.length:Int) then min p ((cV (cR bl)).take k.toNat).sum else p):=fun k=>by unfold gM; rw [hs]
 refine⟨_,rfl,_,_,rfl,rfl,_,rfl,?_⟩
 by_cases c1:a < 0
 ·rw [bc0 c1]
  rw [bc3 fun z=>by have:=z.1; omega] at q
  exact bD (bD ⟨trivial,q⟩)
 rw [bc3 c1]
 refine bB ⟨_,rfl,_,rfl,_,_,rfl,rfl,_,rfl,?_⟩
 by_cases c2:a > b
 ·rw [bc0 c2]
  rw [bc3 fun z=>by have:=z.2.1; omega] at q
  exact bD (bD ⟨trivial,q⟩)
 rw [bc3 c2]
 refine bB ⟨_,rfl,_,rfl,_,rfl,_,_,rfl,rfl,_,_,rfl,rfl,_,rfl,?_⟩
 by_cases c3:b > p+hp
 ·rw [bc0 c3]
  rw [bc3 fun z=>by have:=z.2.2.2; rw [m] at this; split at this <;> omega] at q
  exact bD ⟨trivial,q⟩
 rw [bc3 c3]
 refine bB ?_
 refine⟨_,rfl,.inl ⟨_,_,rfl,rfl,_,rfl,?_⟩⟩
 show if decide (w=0)=true then _ else _
 by_cases c4:w=0
 ·rw [bc0 c4]
  refine bD ⟨_,rfl,_,rfl,_,_,rfl,rfl,trivial,?_⟩
  subst c4
  have h0:gM 0 p bl=hp:=by rw [m,if_pos (by omega)]; show hp+min p 0=hp; omega
  rw [show max 0 ((0:Int) - 1)=0 by omega,h0] at q
  rw [show decide (0<=a/\a<=b/\a<=hp/\b<=hp)=decide (b<=hp) from decide_eq_decide.mpr ⟨fun z=>z.2.2.2,fun z=>by omega⟩] at q
  exact q
 rw [bc3 c4]
 refine bB ?_
 have em:max 0 (w - 1)=w - 1:=by omega
 rw [em] at q
 have last:a<=gM (w - 1) p bl->(bG (rK (lW (a5 2) (aB cP (a6 (a5 7) a9))) (kR (a5 5) (bN (a5 6) (aB iI (a6 (jZ (a5 7) kQ (iX (a5 2))) a9)))))) { nx:=fun _=>Q .non,rt:=Q } [s0,si p,si w,s3,si a,si b,si hp,some (.sh true (.lst (intz (cV (cR bl)))))]:=fun ha=>by
  refine⟨_,rfl,_,rfl,_,_,rfl,rfl,_,_,rfl,rfl,_,rfl,?_⟩
  rw [bO,gl]
  by_cases c5:w > (bl.length:Int)
  ·rw [bc0 c5]
   rw [bc0 (show 0<=a/\a<=b/\a<=gM (w - 1) p bl/\b<=gM w p bl from ⟨by omega,by omega,ha,by rw [m,if_neg (by omega)]; omega⟩)] at q
   exact bD ⟨trivial,q⟩
  ·rw [bc3 c5]
   refine bB ⟨_,rfl,_,rfl,_,rfl,_,rfl,_,rfl,intz (cV (cR bl)),rfl,eF _,_,(cV (cR bl)).take w.toNat,rfl,cut w w0,_,_,rfl,rfl,_,_,rfl,rfl,trivial,?_⟩
   rw [show decide (0<=a/\a<=b/\a<=gM (w - 1) p bl/\b<=gM w p bl)=decide (b<=hp+((cV (cR bl)).take w.toNat).sum) from decide_eq_decide.mpr ⟨fun z=>by have:=z.2.2.2; rw [m,if_pos (by omega)] at this; omega,fun z=>⟨by omega,by omega,ha,by rw [m,if_pos (by omega)]; omega⟩⟩] at q
   exact q
 refine⟨_,rfl,_,_,rfl,rfl,_,rfl,_,_,rfl,rfl,_,_,rfl,rfl,_,rfl,?_⟩
 rw [bO,gl]
 by_cases c6:w - 1<=(bl.length:Int)
 ·rw [bc0 c6]
  refine bD ⟨_,rfl,_,rfl,_,rfl,_,rfl,_,_,rfl,rfl,_,rfl,intz (cV (cR bl)),rfl,eF _,_,(cV (cR bl)).take (w - 1).toNat,rfl,cut (w - 1) (by omega),_,_,rfl,rfl,_,_,rfl,rfl,_,rfl,?_⟩
  by_cases c7:a > hp+((cV (cR bl)).take (w - 1).toNat).sum
  ·rw [bc0 c7]
   rw [bc3 fun z=>by have:=z.2.2.1; rw [m,if_pos c6] at this; omega] at q
   exact bD ⟨trivial,q⟩
  ·rw [bc3 c7]
   exact bB (last (by rw [m,if_pos c6]; omega))
 ·rw [bc3 c6]
  exact bB (bB (last (by rw [m,if_neg c6]; omega)))
theorem aU6:cF ad0 ["pair","price","want","pairs","first","second","helped","gaps"] tN:=by
 rintro xs Q ⟨a,b,p,w,bl,rfl,p0,w0,hl,q⟩
 refine⟨_,rfl,trivial,pR ?_⟩
 refine⟨_,rfl,aH bl,rfl,(fun z=>by cases z),by rw [dF]; omega,fun i acc=>acc=intz ((bl.take i).map (·.1)),rfl,?_,?_⟩
 ·rintro i y acc hy rfl
  obtain ⟨r,rfl,hr⟩:=sM hy
  refine ac4 ?_
  refine⟨_,rfl,_,_,_,rfl,rfl,rfl,trivial,?_⟩
  dsimp only
  rw [bf8,hr,bd8,fU]; rfl
 rintro acc rfl
 rw [dF,bf5 (bc5 _)]
 refine⟨_,_,rfl,rfl,trivial,?_⟩
 refine⟨_,rfl,aH bl,rfl,(fun z=>by cases z),by rw [dF]; omega,fun i acc=>acc=intz (cR (bl.take i)),rfl,?_,?_⟩
 ·rintro i y acc hy rfl
  obtain ⟨r,rfl,hr⟩:=sM hy
  refine ac4 ?_
  refine⟨_,rfl,_,_,_,rfl,rfl,rfl,_,rfl,_,_,_,rfl,rfl,rfl,_,_,rfl,rfl,trivial,?_⟩
  dsimp only
  unfold cR
  rw [bf8,hr,bd8,fU]; rfl
 rintro acc rfl
 rw [dF,bf5 (bc5 _)]
 have gl:(cR bl).length=bl.length:=bb8 _
 refine⟨cR bl,rfl,by omega,fun ms pm so=>⟨trivial,?_⟩⟩
 cases X5 pm so
 exact aU5 p0 w0 q
noncomputable def tO:bH:=fun xs Q=>∃ (L:bR) (c:Int),xs = [.lst (aH L),.int c]/\L.length<=40/\∀ M:bR,M.length<=100->Q (.lst (aH M))
noncomputable def yW:aK:=(aE (b6 5 (aX (dL (a6 (dJ (a6 (a5 3) (a6 (a5 4) a9))) (a6 (dJ (a6 (a5 3) (a6 (a5 4) a9))) (a6 (dJ (a6 (bN (a5 3) (qC (.int 1))) (a6 (a5 4) a9))) (a6 (dJ (a6 (a5 3) (a6 (bN (a5 4) (qC (.int 1))) a9))) (a6 (dJ (a6 (bN (a5 3) (qC (.int 1))) (a6 (bN (a5 4) (qC (.int 1))) a9))) (a6 (dJ (a6 (gQ (O5 (qC (.int 1))) (bT (fR (a5 1) (qC (.int 81))) (oW (qC (.int 10)) (qC (.int 30))))) (a6 (a5 4) a9))) (a6 (dJ (a6 (a5 4) (a6 (a5 3) a9))) (a6 (dJ (a6 (bN (a5 4) (qC (.int 1))) (a6 (a5 4) a9))) a9))))))))) (bT (a5 1) (qC (.int 8)))))
 (aE (cB (b9 (iY (bT (a5 1) (qC (.int 9))) (qC (.int 1)))) (bG (jZ (a5 0) (iX (qC (.int 1))) kQ)) cD)
 (bG (pJ (pJ (jZ (a5 0) kQ (iX (a5 2))) (dL (a6 (a5 5) a9))) (jZ (a5 0) (iX (bN (a5 2) (qC (.int 1)))) kQ)))))
noncomputable def ad1:aK:=(aE (cB (mP (b9 (iY (aB cP (a6 (a5 0) a9)) (qC (.int 0)))) (b9 (iY (bT (a5 1) (qC (.int 9))) (qC (.int 0))))) (bG (pJ (a5 0) (dL (a6 (dJ (a6 (qC (.int 0)) (a6 (qC (.int 0)) a9))) a9)))) cD)
 (aE (b6 2 (bT (fR (a5 1) (qC (.int 9))) (aB cP (a6 (a5 0) a9))))
 (aE (nK (eI 3 4) (aX (a5 0) (a5 2)))
 yW)))
theorem aU7 {L:bR}{c k a b:Int}{Q:PV->Prop} (ll:L.length<=40) (k0:0<=k) (k1:k < (L.length:Int)) (q:∀ M:bR,M.length<=100->Q (.lst (aH M))) :
  yW { nx:=fun _=>Q .non,rt:=Q } [some (.sh false (.lst (aH L))),si c,si k,si a,si b,none]:=by
 have m8:=bh3 c (show (8:Int) ≠ 0 by decide)
 have m8':=bm0 c (show (0:Int) < 8 by decide)
 let M8:bR:=[(a,b),(a,b),(a+1,b),(a,b+1),(a+1,b+1),(-1 - c / 81 % 10 ^ 30,b),(b,a),(b+1,b)]
 have t2:2<=1000:=by decide
 refine⟨_,rfl,_,rfl,t2,rfl,?_⟩
 refine⟨_,rfl,_,rfl,t2,rfl,?_⟩
 refine⟨_,rfl,_,_,rfl,rfl,_,rfl,t2,rfl,?_⟩
 refine⟨_,rfl,_,rfl,_,_,rfl,rfl,t2,rfl,?_⟩
 refine⟨_,rfl,_,_,rfl,rfl,_,rfl,_,_,rfl,rfl,t2,rfl,?_⟩
 refine⟨_,rfl,_,rfl,_,_,rfl,rfl,⟨by decide,by decide⟩,_,_,rfl,rfl,⟨by decide,by decide,by decide⟩,_,_,rfl,rfl,(by show (0:Int) < 10 ^ 30; decide),_,_,rfl,rfl,_,rfl,t2,rfl,?_⟩
 refine⟨_,rfl,_,rfl,t2,rfl,?_⟩
 refine⟨_,rfl,_,_,rfl,rfl,_,rfl,t2,rfl,?_⟩
 refine⟨by show 8<=1000; decide,rfl,?_⟩
 refine⟨_,rfl,_,_,rfl,rfl,(by show (0:Int) < 8; decide),_,_,_,rfl,rfl,jC (L:=M8) m8 m8',trivial,?_⟩
 generalize bC M8 (c % 8)=r
 refine⟨_,rfl,_,_,rfl,rfl,(by show (0:Int) < 9; decide),.inl ⟨_,_,rfl,rfl,_,rfl,m7 ?_ ?_⟩⟩
 ·obtain ⟨zs,ez,zl⟩:=yU L (some 1) none
  refine⟨_,rfl,_,rfl,aH L,rfl,fH L,trivial,?_⟩
  show Q (.lst (fF (aH L) (some 1) none))
  rw [ez]
  exact q zs (by omega)
 ·obtain ⟨z1,e1,l1⟩:=yU L none (some k)
  obtain ⟨z2,e2,l2⟩:=yU L (some (k+1)) none
  refine⟨_,rfl,_,rfl,_,rfl,aH L,rfl,fH L,?_⟩
  refine⟨_,rfl,by show 1<=1000; decide,rfl,?_⟩
  refine⟨aH z1,aH [r],by show PV.lst (fF (aH L) none (some k))=_; rw [e1],rfl,fH _,fH _,by rw [dF,dF,bf6]; omega,?_⟩
  refine⟨_,rfl,_,rfl,_,_,rfl,rfl,_,rfl,aH L,rfl,fH L,?_⟩
  refine⟨aH z1 ++ aH [r],aH z2,rfl,by show PV.lst (fF (aH L) (some (k+1)) none)=_; rw [e2],?_,fH _,by rw [bd3,dF,dF,dF,bf6]; omega,trivial,?_⟩
  ·rw [<- pP]; exact fH _
  ·rw [<- pP,<- pP]
   exact q _ (by rw [bd3,bd3,bf6]; omega)
theorem aU8:cF ad1 ["ledger","cell","place","first","second","pair"] tO:=by
 rintro xs Q ⟨L,c,rfl,ll,q⟩
 have out:(bG (pJ (a5 0) (dL (a6 (dJ (a6 (qC (.int 0)) (a6 (qC (.int 0)) a9))) a9)))) { nx:=fun ρ=>(aE (b6 2 (bT (fR (a5 1) (qC (.int 9))) (aB cP (a6 (a5 0) a9)))) (aE (nK (eI 3 4) (aX (a5 0) (a5 2))) yW)) { nx:=fun _=>Q .non,rt:=Q } ρ,rt:=Q } [some (.sh false (.lst (aH L))),si c,none,none,none,none]:=by
  refine⟨_,rfl,by show 2<=1000; decide,rfl,by show 1<=1000; decide,rfl,?_⟩
  refine⟨aH L,aH [(0,0)],rfl,rfl,fH L,rfl,by rw [dF,dF,bf6]; omega,trivial,?_⟩
  rw [<- pP]
  exact q _ (by rw [bd3,bf6]; omega)
 refine⟨_,rfl,_,_,rfl,rfl,.inl ⟨_,_,rfl,rfl,_,rfl,?_⟩⟩
 rw [dF]
 by_cases e0:L.length=0
 ·show if decide ((L.length:Int)=0)=true then _ else _
  rw [bc0 (by omega)]
  exact bD (bD out)
 show if decide ((L.length:Int)=0)=true then _ else _
 rw [bc3 (by omega)]
 refine bB ⟨_,rfl,_,_,rfl,rfl,(by show (0:Int) < 9; decide),.inl ⟨_,_,rfl,rfl,_,rfl,m7 out ?_⟩⟩
 have lp:(0:Int) < (L.length:Int):=by omega
 have k0:=bh3 (c / 9) (show (L.length:Int) ≠ 0 by omega)
 have k1:=bm0 (c / 9) lp
 refine⟨_,rfl,_,_,rfl,rfl,⟨by decide,by decide⟩,_,rfl,_,_,rfl,rfl,_,_,rfl,rfl,by rw [dF]; exact lp,trivial,?_⟩
 rw [dF]
 refine⟨_,rfl,_,rfl,_,_,_,rfl,rfl,jC k0 k1,trivial,pR ?_⟩
 exact aU7 ll k0 k1 q
noncomputable def tP:bH:=fun xs Q=>∃ ws ls ps y L els O,xs = [bF ws ls,.lst (intz ps),y,.lst (cA els)]/\Wb ws ls/\dD ws.length ls/\NN ws/\j8 ws.length ps/\IsL y L/\iM ws.length ls els O/\(iO ws ps ls (gA O els) L->Q (.bl true))/\(¬ iO ws ps ls (gA O els) L->Q (.bl false))
noncomputable def ad2:aK:=(aE (b6 6 (cS (iV (a5 4)) [none,some 5,some 3,some 2] (bZ 0) (b9 (q2 yR (aX (a5 2) (a5 0)) (a5 1))) (aX (a5 3) (a5 0))))
  (cB (lP (b9 (aB tN (a6 (aX (a5 2) (a5 5)) (a6 (aX (a5 1) (a5 5)) (a6 (aX (aX (a5 0) (qC (.int 0))) (a5 5)) (a6 (a5 6) a9))))))) (bG (qC (.bl false))) cD))
noncomputable def yX:aK:=(aE (b6 4 (aB cP (a6 (aX (a5 0) (qC (.int 0))) a9)))
 (aE (cB (b9 (rS (aB cP (a6 (a5 2) a9)) (a5 4))) (bG (qC (.bl false))) cD)
 (aE (eJ (iV (a5 4)) (bZ 5)
  ad2)
 (bG (qC (.bl true))))))
theorem iM.pair {n:Nat}{ls:List (Int × Int)}{els:List (Option Int)}{O:List Int} (B:iM n ls els O) {h:Int} (hr:h ∈ rng n):(h,bP els h) ∈ gA O els:=by
 obtain ⟨e,he⟩:=B.rt.pair hr
 have he2:=he
 unfold gA at he
 obtain ⟨h',hm,e1⟩:=bd6.mp he
 cases e1
 exact he2
theorem iM.iff {n:Nat}{ls:List (Int × Int)}{els:List (Option Int)}{O:List Int} (B:iM n ls els O) {h:Int}{e:Option Int}:(h,e) ∈ gA O els ↔ h ∈ rng n/\e=bP els h:=by
 refine⟨fun z=>⟨B.rt.inr z,?_⟩,fun z=>by rw [z.2]; exact B.pair z.1⟩
 unfold gA at z
 obtain ⟨h',hm,e1⟩:=bd6.mp z
 cases e1; rfl
section
variable {ws ps : List Int} {ls : List (Int × Int)} {L : bR} {els : List (Option Int)} {O : List Int} {E : fB} {y6 : Option Slot} {y : PV} {g : Bool} {i : Nat}
theorem aU9 (lk:dD ws.length ls) (n40:ws.length<=40) (nn:NN ws) (gp:j8 ws.length ps) (ll:L.length=ws.length) (hy:IsL y L) (B:iM ws.length ls els O) (hi:i < ws.length)
  (nx:iN ws ps ls L (i:Int) (bP els (i:Int))->∀ y6,E.nx [some (.sh true (bF ws ls)),some (.sh false (.lst (intz ps))),some (.sh g y),some (.sh false (.lst (cA els))),si ws.length,si i,y6]) (no : ¬ iN ws ps ls L (i:Int) (bP els (i:Int))->E.rt (.bl false)) :
  ad2 E [some (.sh true (bF ws ls)),some (.sh false (.lst (intz ps))),some (.sh g y),some (.sh false (.lst (cA els))),si ws.length,si i,y6]:=by
 have pl:=gp.1
 have he:=B.pair (h:=(i:Int)) (cT.mpr ⟨by omega,by omega⟩)
 refine⟨_,rfl,ws.length,rfl,by omega,by omega,by rw [fE]; omega,fun j acc=>acc=aH ((((rng ws.length).take j).filter fun c=>decide (bP els c=some (i:Int))).map (bC L)),rfl,?_,?_⟩
 ·rintro j y' acc hy' rfl
  obtain ⟨rfl,hj⟩:=j5 hy'
  have hj:j < ws.length:=by omega
  have tk:=pF (p:=fun c=>decide (bP els c=some (i:Int))) (wU hj)
  refine i7 ?_
  rw [bo8]
  refine⟨_,rfl,_,rfl,_,_,_,rfl,rfl,ac5 (by omega) (by rw [B.len]; omega),_,rfl,(i:Int),bP els (j:Int),rfl,rfl,_,rfl,?_⟩
  cases hm:decide (bP els (j:Int)=some (i:Int)) with
  | true=>
   rw [hm] at tk
   refine bD ⟨_,rfl,_,rfl,_,_,_,hy.seq,rfl,jC (by omega) (by omega),?_,?_⟩
   ·cases g <;> first | rfl | trivial
   dsimp only
   rw [tk]
   unfold aH
   rw [bd8,bd8]; rfl
  | false=>
   rw [hm] at tk
   refine bB ?_
   dsimp only
   rw [tk]; exact (bj0 _).symm ▸ rfl
 ·rintro acc rfl
  rw [fE,be5,bf5 (by rw [dX]; exact bc5 _),<- aT8 B.rt lk.fit B he]
  have kl:(bL ls (i:Int) (bP els (i:Int))).length<=ws.length:=by have:=bg7 (fun x=>!decide (some x=bP els (i:Int))) (aO ls (i:Int)); have:=lk.nlen (i:Int); unfold bL; omega
  refine⟨trivial,?_⟩
  have wp:0<=ws.getD i 0:=m9 nn _
  have pp:0<=ps.getD i 0:=m9 gp.2 _
  refine⟨_,rfl,_,rfl,_,_,_,hy.seq,rfl,jC (by omega) (by omega),_,rfl,_,rfl,_,_,_,rfl,rfl,iK (by omega),_,rfl,_,_,_,rfl,rfl,rfl,_,rfl,_,_,_,rfl,rfl,iK hi,_,rfl,_,_,_,_,(bL ls (i:Int) (bP els (i:Int))).map (bC L),rfl,pp,wp,by rw [bb8]; omega,_,rfl,?_⟩
  have rr:iN ws ps ls L (i:Int) (bP els (i:Int)) ↔ 0<=(bC L i).1/\(bC L i).1<=(bC L i).2/\(bC L i).1<=(eW (ws.getD i 0) (ps.getD i 0) ((bL ls i (bP els i)).map (bC L))).1/\(bC L i).2<=(eW (ws.getD i 0) (ps.getD i 0) ((bL ls i (bP els i)).map (bC L))).2:=by unfold iN; rw [be5]
  by_cases r:iN ws ps ls L (i:Int) (bP els (i:Int))
  ·rw [bc0 (rr.mp r)]
   exact bB (nx r _)
  ·rw [bc3 fun z=>r (rr.mpr z)]
   exact bD ⟨trivial,no r⟩
end
theorem aV0:cF yX ["web","prices","ledger","elders","many","hearth","pairs"] tP:=by
 rintro xs Q ⟨ws,ls,ps,y,L,els,O,rfl,wb,lk,nn,gp,hy,B,q1,q2⟩
 have few:=wb.few
 show yX _ [some (.sh (flat (bF ws ls)) (bF ws ls)),some (.sh false (.lst (intz ps))),some (.sh (flat y) y),some (.sh false (.lst (cA els))),none,none,none]
 rw [wV]
 refine⟨_,rfl,_,_,_,rfl,rfl,rfl,_,_,rfl,rfl,trivial,?_⟩
 rw [bO]
 refine⟨_,rfl,_,(aH L).length,rfl,(by rcases hy with rfl | rfl <;> rfl),_,rfl,.inl ⟨_,_,rfl,rfl,_,rfl,?_⟩⟩
 rw [dF]
 show if (!decide ((L.length:Int)=(ws.length:Int)))=true then _ else _
 by_cases c:L.length=ws.length
 ·rw [bc0 (by omega)]
  refine bB ?_
  refine⟨_,rfl,ws.length,rfl,by omega,by omega,fun i ρ=>∃ (y5 y6:Option Slot),ρ = [some (.sh true (bF ws ls)),some (.sh false (.lst (intz ps))),some (.sh (flat y) y),some (.sh false (.lst (cA els))),si ws.length,y5,y6]/\∀ j,j < i->iN ws ps ls L (j:Int) (bP els (j:Int)),⟨none,none,rfl,fun j hj=>by omega⟩,?_,?_⟩
  ·rintro i y' ρ hy' ⟨y5,y6,rfl,ok⟩
   obtain ⟨rfl,hi⟩:=j5 hy'
   have hi:i < ws.length:=by omega
   refine i7 ?_
   rw [bo8]
   refine aU9 lk few nn gp c hy B hi (fun r y6=>⟨_,y6,rfl,fun j hj=>?_⟩) fun r=>q2 fun z=>r (z.2 _ _ (B.pair (cT.mpr ⟨by omega,by omega⟩)))
   by_cases e:j=i
   ·subst e; exact r
   ·exact ok j (by omega)
  ·rintro ρ ⟨y5,y6,rfl,ok⟩
   rw [fE,be5] at ok
   refine⟨trivial,q1 ⟨c,fun h e he=>?_⟩⟩
   obtain ⟨hr,rfl⟩:=B.iff.mp he
   have hm:=cT.mp hr
   have:=ok h.toNat (by omega)
   rw [Int.toNat_of_nonneg hm.1] at this
   exact this
 ·rw [bc3 (by omega)]
  exact bD ⟨trivial,q2 fun z=>c z.1⟩
theorem aV1 {n:Nat}{ls:List (Int × Int)}{P:bX}{els:List (Option Int)}{O:List Int} (R:Rt n ls P) (B:iM n ls els O):(jD P).Perm ((rng n).filter fun h=>(bP els h).isNone):=by
 have nd:(jD P).Nodup:=by
  unfold jD
  exact (List.filter_sublist.map _).nodup R.nd
 refine (List.perm_ext_iff_of_nodup nd ((aI5 n).filter _)).mpr fun h=>?_
 unfold jD
 rw [bd6,bd7]
 constructor
 ·rintro ⟨⟨h',e⟩,hm,rfl⟩
  obtain ⟨m1,m2⟩:=bd7.mp hm
  obtain ⟨hr,rfl⟩:=B.iff.mp ((pV R B.rt).mp m1)
  exact⟨hr,m2⟩
 ·rintro ⟨hr,hn⟩
  exact⟨(h,bP els h),bd7.mpr ⟨(pV R B.rt).mpr (B.pair hr),hn⟩,rfl⟩
theorem iO.el {ws ps:List Int}{ls:List (Int × Int)}{P P':bX}{L:bR} (R:Rt ws.length ls P) (R':Rt ws.length ls P'):iO ws ps ls P L ↔ iO ws ps ls P' L:=
 ⟨fun z=>⟨z.1,fun h e he=>z.2 h e ((pV R R').mpr he)⟩,fun z=>⟨z.1,fun h e he=>z.2 h e ((pV R R').mp he)⟩⟩
noncomputable def yY:bH:=T7
noncomputable def tQ:aK:=(cB (b9 (aB tP (a6 (a5 1) (a6 (a5 2) (a6 (a5 6) (a6 (a5 3) a9)))))) (aE (b6 10 (aB iI (a6 (cS (iV (aB cP (a6 (a5 3) a9))) [none,some 3,some 6] (bZ 0) (b9 (O8 (aX (a5 1) (a5 0)) (qC .non))) (aX (aX (a5 2) (a5 0)) (qC (.int 1)))) a9)))
   (cB (mP (lP (b9 (aB sL (a6 (a5 7) a9)))) (b9 (rS (a5 7) (a5 10)))) (bG (qC (.bl false))) cD)) (cB (b9 (q2 (wF 2 true) (a5 8) (dL (a6 (qC (.bl true)) (a6 (qC (.bl false)) (a6 (qC (.bl true)) a9)))))) (bG (qC (.bl false))) cD))
noncomputable def ad3 (K:PySem.W.Frag):aK:=(aE (b6 7 (qC .non))
  (aE (b6 8 (qC .non))
  (aE (xI "HearthError" 9 (X9 7 pW (a6 (a5 1) (a6 (aX (t5 (a6 (a5 2) (a6 (aB iZ (a6 (a5 2) a9)) a9))) (aB xW (a6 (lU K "tuple" (a5 6)) a9))) (a6 (a5 6) a9)))) (b6 8 (dL (a6 (kB "NoPaper" (a5 9)) (a6 (kB "BadPrices" (a5 9)) (a6 (kB "ValueError" (a5 9)) a9))))))
  tQ)))
noncomputable def ad4 (K:PySem.W.Frag):aK:=(aE (b6 1 (aB tH (a6 (a5 0) (a6 (qC (.int 14)) a9))))
 (aE (b6 2 (aB t6 (a6 (a5 0) (a6 (aB cP (a6 (aX (a5 1) (qC (.int 0))) a9)) a9))))
 (aE (b6 3 (aX (aB tK (a6 (a5 1) a9)) (qC (.int 0))))
 (aE (b6 4 (aB tM (a6 (aB pU (a6 (a5 1) (a6 (a5 2) a9))) (a6 (a5 0) a9))))
 (aE (b6 5 (aB tO (a6 (a5 4) (a6 (aB gV (a6 (aB dS (a6 (a5 0) (a6 (qC (.int 3)) a9))) (a6 (qC (.int 9)) a9))) a9))))
 (aE (eJ (dM (t5 (a6 (aB w5 (a6 (aB pU (a6 (a5 1) (a6 (a5 2) a9))) a9)) (a6 (a5 4) (a6 (aB iZ (a6 (a5 4) a9)) (a6 (a5 5) a9)))))) (bZ 6)
  (ad3 K))
 (bG (qC (.bl true)))))))))
section
variable {ws ps : List Int} {ls : List (Int × Int)} {P : bX} {L : bR} {els : List (Option Int)} {O : List Int} {E : fB} {s0 s4 s5 s8 s9 s10 : Option Slot} {y : PV} {g : Bool}
theorem ad5 (wb:Wb ws ls) (lk:dD ws.length ls) (nn:NN ws) (gp:j8 ws.length ps) (hy:IsL y L) (B:iM ws.length ls els O) (R:Rt ws.length ls P)
  {v7:PV}{v8:Option Slot} (a:iO ws ps ls P L->v7 = .int ((jD P).map fun r=>(bC L r).2).sum) (b : ¬ iO ws ps ls P L->v8=some (.sh true (.lst [.bl true,.bl false,.bl true])))
  (nx:∀ y10,E.nx [s0,some (.sh true (bF ws ls)),some (.sh true (.lst (intz ps))),some (.sh true (.lst (cA els))),s4,s5,some (.sh g y),some (.sh true v7),v8,s9,y10]) :
  tQ E [s0,some (.sh true (bF ws ls)),some (.sh true (.lst (intz ps))),some (.sh true (.lst (cA els))),s4,s5,some (.sh g y),some (.sh true v7),v8,s9,s10]:=by
 have few:=wb.few
 refine⟨_,rfl,_,rfl,_,rfl,_,rfl,ws,ls,ps,y,L,els,O,rfl,wb,lk,nn,gp,hy,B,fun r=>⟨_,rfl,bD ?_⟩,fun no=>⟨_,rfl,bB ?_⟩⟩
 ·have r':=(iO.el R B.rt).mpr r
  cases a r'
  refine⟨_,rfl,_,_,rfl,rfl,els.length,by unfold cA; rw [bb8],by omega,by rw [B.len]; omega,by rw [fE,B.len]; omega,fun j acc=>acc=intz ((((rng ws.length).take j).filter fun c=>(bP els c).isNone).map fun r=>(bC L r).2),rfl,?_,?_⟩
  ·rintro j y' acc hy' rfl
   obtain ⟨rfl,hj⟩:=j5 hy'
   have hj:j < ws.length:=by rw [B.len] at hj; omega
   have tk:=pF (p:=fun c=>(bP els c).isNone) (wU hj)
   refine i7 ?_
   rw [bo8]
   have ll:=r.1
   refine⟨_,rfl,_,rfl,_,_,_,rfl,rfl,ac5 (by omega) (by rw [B.len]; omega),rfl,_,rfl,?_⟩
   cases hm:bP els (j:Int) with
   | none=>
    rw [hm] at tk
    refine bD ⟨_,rfl,_,rfl,_,_,_,hy.seq,rfl,jC (by omega) (by omega),_,_,_,rfl,rfl,rfl,?_,?_⟩
    ·cases g <;> first | rfl | trivial
    dsimp only
    rw [tk,bd8,fU]; rfl
   | some x=>
    rw [hm] at tk
    refine bB ?_
    dsimp only
    rw [tk]; exact (bj0 _).symm ▸ rfl
  ·rintro acc rfl
   rw [fE,be5,B.len,bf5 (by rw [dX]; exact bc5 _)]
   refine⟨_,_,rfl,rfl,trivial,?_⟩
   rw [<- aK2 ((aV1 R B).map fun r=>(bC L r).2)]
   refine⟨_,rfl,_,rfl,_,rfl,bB ?_⟩
   refine⟨_,rfl,_,rfl,.inl ⟨_,_,rfl,rfl,_,rfl,?_⟩⟩
   show if (!decide (_=_))=true then _ else _
   rw [bc0 rfl]
   exact bB (nx _)
 ·cases b fun z=>no ((iO.el R B.rt).mp z)
  exact⟨_,rfl,by show 3<=1000; decide,rfl,.inr ⟨_,_,rfl,rfl⟩,rfl,_,rfl,bB (nx _)⟩
theorem aV2 {K:PySem.W.Frag} (kt:PySem.W.kitOne K (.type "tuple") (.type "tuple")=some true) (wb:Wb ws ls) (lk:dD ws.length ls) (wd:dG ws.length ls) (nn:NN ws) (gp:j8 ws.length ps) (hy:IsL y L) (ll:L.length<=1000) (B:iM ws.length ls els O) {s7:Option Slot}
  (nx:∀ y7 y8 y9 y10,E.nx [s0,some (.sh true (bF ws ls)),some (.sh true (.lst (intz ps))),some (.sh true (.lst (cA els))),s4,s5,some (.sh g y),y7,y8,y9,y10]) :
  ad3 K E [s0,some (.sh true (bF ws ls)),some (.sh true (.lst (intz ps))),some (.sh true (.lst (cA els))),s4,s5,some (.sh g y),s7,s8,s9,s10]:=by
 refine⟨trivial,trivial,?_⟩
 refine⟨_,rfl,_,rfl,_,rfl,⟨_,_,rfl,rfl,eF _,by show 2<=1000; decide,ac2 trivial trivial,?_⟩,fun ns z=>by cases z⟩
 have go:∀ x,dR x ps->pW (fun n=>l8 n "HearthError" = some true/\(b6 8 (dL (a6 (kB "NoPaper" (a5 9)) (a6 (kB "BadPrices" (a5 9)) (a6 (kB "ValueError" (a5 9)) a9))))) (xH { E with nx:=fun ρ=>tQ E ρ } 9) ([s0,some (.sh true (bF ws ls)),some (.sh true (.lst (intz ps))),some (.sh true (.lst (cA els))),s4,s5,some (.sh g y),some (.sh true .non),some (.sh true .non),some (.sh true (.exc n)),s10])) [bF ws ls,x,y] fun z=>tQ E [s0,some (.sh true (bF ws ls)),some (.sh true (.lst (intz ps))),some (.sh true (.lst (cA els))),s4,s5,some (.sh g y),some (.sh true z),some (.sh true .non),s9,s10]:=fun x hx=>by
  refine⟨ws,ls,x,ps,y,L,rfl,wb,lk,wd,nn,hx,gp,hy,ll,fun P R=>⟨fun r=>?_,fun no=>⟨by decide,?_⟩⟩⟩
  ·exact ad5 wb lk nn gp hy B R (fun _=>rfl) (fun no=>absurd r no) fun y10=>nx _ _ _ _
  ·refine⟨_,rfl,_,rfl,_,rfl,_,rfl,_,rfl,_,rfl,by show 3<=1000; decide,rfl,trivial,?_⟩
   exact ad5 wb lk nn gp hy B R (fun r=>absurd r no) (fun _=>rfl) fun y10=>nx _ _ _ _
 rcases hy with rfl | rfl
 ·exact⟨_,rfl,_,_,rfl,kt,.inr ⟨_,rfl,_,_,_,rfl,rfl,rfl,_,rfl,go _ (.inl rfl)⟩⟩
 ·exact⟨_,rfl,_,_,rfl,aU2 K,.inr ⟨_,rfl,_,_,_,rfl,rfl,rfl,_,rfl,go _ (.inr rfl)⟩⟩
end
theorem nw4 {a b c d:PV × Tg} (ha:Nw a.2 a.1) (hb:Nw b.2 b.1) (hc:Nw c.2 c.1) (hd:Nw d.2 d.1):jX [a,b,c,d]:=by
 intro p hp
 simp only [bd0,bf1,bj8] at hp
 rcases hp with rfl | rfl | rfl | rfl
 ·exact ha
 ·exact hb
 ·exact hc
 ·exact hd
theorem aV3 {i:Nat}{y:PV}{L:bR} (hy:IsL y L) {g:Bool}{ρ:bJ}{Q:bJ->Prop} (q:∀ g,Q (ρ.set i (some (.sh g y)))):bZ i y g ρ Q:=by
 exact q _
theorem aV4 {K:PySem.W.Frag} (kt:PySem.W.kitOne K (.type "tuple") (.type "tuple")=some true):cF (ad4 K) ["script","web","prices","elders","ledger","spoiled","told_ledger","found","kinds","e","due"] yY:=by
 rintro xs Q ⟨ns,rfl,hl,q⟩
 refine⟨_,rfl,ns,14,rfl,hl,by decide,by decide,fun n ws ls n1 w lk wd=>⟨trivial,?_⟩⟩
 have wl:=w.many
 have wb:Wb ws ls:=w.wb (by omega)
 have en:ws.length=n:=by omega
 subst en
 have few:=wb.few
 refine⟨_,rfl,_,rfl,_,_,_,rfl,rfl,rfl,_,_,rfl,rfl,ns,ws.length,by rw [bO]; rfl,hl,few,fun ps gp=>⟨trivial,?_⟩⟩
 refine⟨_,rfl,ws,ls,rfl,wb,lk,wd,fun els O B=>⟨_,_,_,rfl,rfl,rfl,trivial,?_⟩⟩
 refine⟨_,rfl,_,rfl,ws,ls,_,ps,rfl,wb,lk,wd,w.pos,.inr rfl,gp,fun P L R k=>⟨_,rfl,L,ns,rfl,by have:=k.1; omega,fun M ml=>⟨trivial,?_⟩⟩⟩
 have ml2:M.length<=40:=by have:=k.1; omega
 refine⟨_,rfl,_,rfl,_,ns,3,rfl,.inl rfl,by decide,_,_,rfl,by omega,by omega,fun z _=>⟨M,z,rfl,ml2,fun N nl=>⟨trivial,?_⟩⟩⟩
 refine⟨_,rfl,_,rfl,ws,ls,_,ps,rfl,wb,lk,wd,w.pos,.inr rfl,gp,fun P' L' R' k'=>⟨_,_,rfl,rfl,fH _,?_⟩⟩
 refine⟨_,rfl,_,rfl,⟨_,_,rfl,rfl,fH _,_,rfl,by show 4<=1000; decide,nw4 trivial trivial trivial trivial,?_⟩,fun ns z=>by cases z⟩
 refine⟨[.lst (aH L'),.lst (aH M),.tup (aH M),.lst (aH N)],rfl,(fun z=>by cases z),fun i ρ=>∃ (y6 y7 y8 y9 y10:Option Slot),ρ = [some (.sh true (.scr ns)),some (.sh true (bF ws ls)),some (.sh true (.lst (intz ps))),some (.sh true (.lst (cA els))),some (.sh true (.lst (aH M))),some (.sh true (.lst (aH N))),y6,y7,y8,y9,y10],⟨none,none,none,none,none,rfl⟩,?_,?_⟩
 ·rintro i y ρ hy ⟨y6,y7,y8,y9,y10,rfl⟩
  have:∃ M',IsL y M'/\M'.length<=1000:=by
   match i,hy with
   | 0,hy=>exact⟨L',.inr (be3 hy).symm,by have:=k'.1; omega⟩
   | 1,hy=>exact⟨M,.inr (be3 hy).symm,by omega⟩
   | 2,hy=>exact⟨M,.inl (be3 hy).symm,by omega⟩
   | 3,hy=>exact⟨N,.inr (be3 hy).symm,by omega⟩
  obtain ⟨M',hM,lM⟩:=this
  refine aV3 hM fun g=>?_
  exact aV2 kt wb lk wd w.pos gp hM lM B fun y7 y8 y9 y10=>⟨_,y7,y8,y9,y10,rfl⟩
 ·rintro ρ ⟨y6,y7,y8,y9,y10,rfl⟩
  exact⟨trivial,q⟩
end Core
namespace K_k56
open PySem PySem.W L2 PP Core
theorem _root_.L2.FnScope.au {N P:List Str}{s:Scope} (a:s.kind=.function:=by rfl) (b:s.isCoroutine=false:=by rfl) (c:s.isGenerator=false:=by rfl) (d:N.Nodup:=by decide +kernel) (e:N.take P.length=P:=by rfl) (f:∀ x∈P,s.names.lookup x=some .local∨s.names.lookup x=some .cell:=by decide +kernel) (g:∀ y∈s.names,y.2≠.free:=by decide +kernel):FnScope N P s:=⟨a,b,c,d,e,f,g⟩
noncomputable def b8 (i:Nat):Stmt:=PySem.Challenge.pw_kindleweb_k56_ledgers_judged.main.body.getD i (.Pass ⟨0,0,0,0⟩)
structure FK (K:Frag) (n:Str) (i:Nat) (f:Addr) (d:FuncData):Prop where
 a:nsIn K mainGlobals n=some (some (.ref f))
 F:fA K n n (b8 i) f d
structure FM (K:Frag) (mg:Str->Option Value) (n:Str) (i:Nat) (f:Addr) (d:FuncData):Prop where
 F:fA K n n (b8 i) f d
 m:mg n=some (.ref f)
theorem FK.M {K:Frag}{mg:Str->Option Value}{n:Str}{i:Nat}{f:Addr}{d:FuncData}{h:Heap} (z:FK K n i f d) (X:K.In h) (G:h.Ns mainGlobals mg):FM K mg n i f d:=⟨z.F,mg_of X G z.a⟩
noncomputable abbrev Hb (x:Str) (ps:List Str) (i:Nat):Prop:=∀ (kV doc pm:Value) (an:Option Addr) (cdv ct:Value) (us:List Value),us.length=ps.length->bindArgs (fnOf x x (jR (b8 i)) (eZ (b8 i)) (aZ (b8 i)) .none kV doc pm an cdv ct) ⟨us,[]⟩=pure (ps.zip us)
theorem aV5 {A:Around}{k:Nat} (hr:cH k A):A.units+3 < cLine:=by have:=hr.units; omega
section
variable {P : Program} {w : World} {K : Frag} {mg : Str → Option Value} {base : Heap} {f : Addr} {fd : FuncData} {k i : Nat} {x : Str} {ps N : List Str}
theorem Df.au {p:bH} (F:FM K mg x i f fd) (S:FnScope N ps (aZ (b8 i))) (body:∀ (cdv:Value) (A:Around) (outer:List Env) (s:Shared) (H:Hp) (E:XK),cH k (A.deeper (PyProof.Rows.envOfC x (aZ (b8 i)) s.heap.objs.size f cdv))->∃ t,fG (dP dW P w K mg base N x (aZ (b8 i)) f cdv A outer s H E).nox (eZ (b8 i)) t/\∀ xs Q,p xs Q->t { nx:=fun _=>Q .non,rt:=Q } (gH N xs)) (hb:Hb x ps i:=by intro _ _ _ _ _ _ us hl; first | (obtain ⟨_,rfl⟩:=nO hl; rfl) | (obtain ⟨_,_,rfl⟩:=xO hl; rfl) | (obtain ⟨_,_,_,rfl⟩:=xP hl; rfl) | (obtain ⟨_,_,_,_,rfl⟩:=V5 hl; rfl) | (obtain ⟨_,_,_,_,_,rfl⟩:=us5 hl; rfl)) (len:∀ xs Q,p xs Q->xs.length=ps.length:=by intro xs Q h; repeat (first | (obtain ⟨rfl,_⟩:=h; rfl) | (obtain ⟨_,h⟩:=h))):Df P w K mg base (k+1) x ps p:=
 Df.of F.F F.m S hb len body
theorem eV.au {p:fW} (F:FM K mg x i f fd) (S:FnScope N ps (aZ (b8 i))) (t:(Str->Prop)->aK) (rd:∀ Ep xs Q,p Ep xs Q->t Ep { nx:=fun _=>Q .non,rt:=Q } (gH N xs)) (body:∀ (cdv:Value) (A:Around) (outer:List Env) (s:Shared) (H:Hp) (E:XK) (Ep:Str->Prop),cH k (A.deeper (PyProof.Rows.envOfC x (aZ (b8 i)) s.heap.objs.size f cdv))->nG (dP (eM P w) P w K mg base N x (aZ (b8 i)) f cdv A outer s H E) (EX K H Ep)->fG (dP (eM P w) P w K mg base N x (aZ (b8 i)) f cdv A outer s H E) (eZ (b8 i)) (t Ep)) (hb:Hb x ps i:=by intro _ _ _ _ _ _ us hl; first | (obtain ⟨_,rfl⟩:=nO hl; rfl) | (obtain ⟨_,_,rfl⟩:=xO hl; rfl) | (obtain ⟨_,_,_,rfl⟩:=xP hl; rfl) | (obtain ⟨_,_,_,_,rfl⟩:=V5 hl; rfl) | (obtain ⟨_,_,_,_,_,rfl⟩:=us5 hl; rfl)) (len:∀ Ep xs Q,p Ep xs Q->xs.length=ps.length:=by intro Ep xs Q h; repeat (first | (obtain ⟨rfl,_⟩:=h; rfl) | (obtain ⟨_,h⟩:=h))):eV P w K mg base (k+1) x ps p:=
 eV.of F.F F.m S hb t len rd body
end
section
variable {P : Program} {w : World} {K : Frag} {mg : Str → Option Value} {base : Heap} {f : Addr} {fd : FuncData}
theorem nd2:(["ahead","behind"]:List Str).Nodup:=by decide +kernel
noncomputable abbrev ad6:Stmt:=b8 9
theorem scR:FnScope ["things"] ["things"] (aZ ad6):=.au
theorem yZ {ns:List Int}{i:Nat}{x y:V} (h1:(ns.map V.int)[i]? = some x) (h2:((ns.map V.int).drop 1)[i]? = some y):∃ p q:Int,x = .int p/\y = .int q/\(ns.zip (ns.drop 1))[i]? = some (p,q):=by
 rw [bd1] at h1
 rw [<- List.map_drop,bd1] at h2
 cases e1:ns[i]? with
 | none=>rw [e1] at h1; cases h1
 | some p=>
  cases e2:(ns.drop 1)[i]? with
  | none=>rw [e2] at h2; cases h2
  | some q=>
   rw [e1] at h1; rw [e2] at h2
   exact⟨p,q,(be3 h1).symm,(be3 h2).symm,List.getElem?_zip_eq_some.mpr ⟨e1,e2⟩⟩
theorem aV6 (B:Bt mg) (F:fA K "rises" "rises" ad6 f fd):cZ P w K mg base dW 1 f fd ["things"] (T3 K):=by
 refine F.ok scR (fun vs H Q E h=>?_) (fun cdv A outer s H vs Q E hr h=>?_)
 ·obtain ⟨a,ns,rfl,_⟩:=h
  rfl
 obtain ⟨a,ns,rfl,hS,hn,q⟩:=h
 have lz:((ns.map V.int).drop 1).length<=sizeLine:=bh9 (hZ (by rw [bk5,bb8]; omega))
 have lz2:((ns.map V.int).drop 1).length<=(ns.map V.int).length:=by rw [bk5]; omega
 have lz3:(ns.zip (ns.drop 1)).length=((ns.map V.int).drop 1).length:=by rw [List.length_zip,bk5,bk5,bb8]; omega
 rcases hS with hS | hS
 ·refine⟨_,lE (mE (o8 (vM rfl) rfl B.all PyProof.Rows.boot_all (cY (G7 (N:=["ahead","behind"]) (fr:=[none,none]) rfl (cI.of rfl rfl) (au5 rfl B.zip (cY (pv 0) (cY (uK L7 (pv 0) (uJ lC) uI) dO)))
   ⟨fun _ _ _ _=>show PG _ _ (jJ K 2 (eN (cG 0) (eN (cG 1) jI))) from lI rfl (gB (eC (i:=0) nd2 rfl (Or.inl rfl) (.inr rfl)) (gB (eC (i:=1) nd2 rfl (Or.inl rfl) (.inr rfl)) lH)),fun _ _ _ _=>oG,fun _ _ _ _=>u9 qH (pv 0) (pv 1) (eO _)⟩) dO))),?_⟩
  refine⟨_,rfl,_,rfl,1,rfl,a,_,rfl,hS,fun p hp=>?_,fun e=>?_⟩
  ·have s1:=bK hp (.tup (eQ (ns.map V.int) (some 1) none))
   have hb:aR K (upd H p (.tup (eQ (ns.map V.int) (some 1) none))) p ((ns.map V.int).drop 1):=aR.of (by rw [bM,vP])
   refine⟨a,p,_,_,rfl,s1.tup hS,hb,vO (L6 (s1.tup hS) hb lz2) (fun i acc _=>acc=((ns.zip (ns.drop 1)).take i).map fun (p:Int × Int)=>V.bl (decide (p.1 < p.2))) lz (fun _ _=>rfl) (fun _ _ _ _ _ h=>h) (fun i x acc D H' hi hR c hP=>?_) (fun D acc H' hD sm hDa hlen hP=>?_)⟩
   ·obtain ⟨T,x1,y1,rfl,hT,h1,h2⟩:=hR
    obtain ⟨m,k,rfl,rfl,hz⟩:=yZ h1 h2
    refine⟨T,_,rfl,aR.of hT,rfl,_,_,rfl,_,_,rfl,rfl,((Wk.refl _).set (i:=0) rfl).set (i:=1) rfl,oM ⟨_,rfl,_,rfl,_,_,rfl,rfl,c.yes (aD.refl _) ?_⟩⟩
    rw [sD hz,hP]
   ·refine⟨D,(ns.zip (ns.drop 1)).map fun (p:Int × Int)=>decide (p.1 < p.2),rfl,aM.of ?_,q _ (s1.trans sm)⟩
    rw [hDa,hP,<- lz3,bj4,bi4]; rfl
  ·have hb:aR K H a ((ns.map V.int).drop 1):=by
    have:(ns.map V.int).drop 1=ns.map V.int:=by rw [<- vP]; exact e
    rw [this]; exact hS
   refine⟨a,a,_,_,rfl,hS,hb,vO (L6 hS hb lz2) (fun i acc _=>acc=((ns.zip (ns.drop 1)).take i).map fun (p:Int × Int)=>V.bl (decide (p.1 < p.2))) lz (fun _ _=>rfl) (fun _ _ _ _ _ h=>h) (fun i x acc D H' hi hR c hP=>?_) (fun D acc H' hD sm hDa hlen hP=>?_)⟩
   ·obtain ⟨T,x1,y1,rfl,hT,h1,h2⟩:=hR
    obtain ⟨m,k,rfl,rfl,hz⟩:=yZ h1 h2
    refine⟨T,_,rfl,aR.of hT,rfl,_,_,rfl,_,_,rfl,rfl,((Wk.refl _).set (i:=0) rfl).set (i:=1) rfl,oM ⟨_,rfl,_,rfl,_,_,rfl,rfl,c.yes (aD.refl _) ?_⟩⟩
    rw [sD hz,hP]
   ·refine⟨D,(ns.zip (ns.drop 1)).map fun (p:Int × Int)=>decide (p.1 < p.2),rfl,aM.of ?_,q _ sm⟩
    rw [hDa,hP,<- lz3,bj4,bi4]; rfl
 ·refine⟨_,lE (mE (o8 (vM rfl) rfl B.all PyProof.Rows.boot_all (cY (G7 (N:=["ahead","behind"]) (fr:=[none,none]) rfl (cI.of rfl rfl) (av1 rfl B.zip (cY (pv 0) (cY (uK C7 (pv 0) (uJ lC) uI) dO)))
   ⟨fun _ _ _ _=>show PG _ _ (jJ K 2 (eN (cG 0) (eN (cG 1) jI))) from lI rfl (gB (eC (i:=0) nd2 rfl (Or.inl rfl) (.inr rfl)) (gB (eC (i:=1) nd2 rfl (Or.inl rfl) (.inr rfl)) lH)),fun _ _ _ _=>oG,fun _ _ _ _=>u9 qH (pv 0) (pv 1) (eO _)⟩) dO))),?_⟩
  refine⟨_,rfl,_,rfl,1,rfl,a,_,rfl,hS,fun p hp=>?_⟩
  have s1:=bK hp (.lst (eQ (ns.map V.int) (some 1) none))
  have hb:aM K (upd H p (.lst (eQ (ns.map V.int) (some 1) none))) p ((ns.map V.int).drop 1):=aM.of (by rw [bM,vP])
  refine⟨a,p,_,_,rfl,s1.seq hS,hb,vO (av2 (s1.seq hS) hb lz2) (fun i acc _=>acc=((ns.zip (ns.drop 1)).take i).map fun (p:Int × Int)=>V.bl (decide (p.1 < p.2))) lz (fun _ _=>rfl) (fun _ _ _ _ _ h=>h) (fun i x acc D H' hi hR c hP=>?_) (fun D acc H' hD sm hDa hlen hP=>?_)⟩
  ·obtain ⟨T,x1,y1,rfl,hT,h1,h2⟩:=hR
   obtain ⟨m,k,rfl,rfl,hz⟩:=yZ h1 h2
   refine⟨T,_,rfl,aR.of hT,rfl,_,_,rfl,_,_,rfl,rfl,((Wk.refl _).set (i:=0) rfl).set (i:=1) rfl,oM ⟨_,rfl,_,rfl,_,_,rfl,rfl,c.yes (aD.refl _) ?_⟩⟩
   rw [sD hz,hP]
  ·refine⟨D,(ns.zip (ns.drop 1)).map fun (p:Int × Int)=>decide (p.1 < p.2),rfl,aM.of ?_,q _ (s1.trans sm)⟩
   rw [hDa,hP,<- lz3,bj4,bi4]; rfl
noncomputable abbrev ad7:Stmt:=b8 11
theorem tR:FnScope ["web","around","one","other"] ["web"] (aZ ad7):=.au
theorem aV7 (F:fA K "near_lists" "near_lists" ad7 f fd):cZ P w K mg base dW 1 f fd ["web"] sN:=by
 refine F.ok tR (fun vs H Q E h=>?_) (fun cdv A outer s H vs Q E hr h=>?_)
 ·obtain ⟨v,ws,ls,rfl,_⟩:=h
  rfl
 obtain ⟨v,ws,ls,rfl,W,hn,hm,hin,q⟩:=h
 refine⟨_,lD (G8 (i:=1) (N:=["want"]) (fr:=[none]) rfl (cI.of rfl rfl) (qD (jO oB (pv 0) lC (fun _ _=>rfl)))
   ⟨fun _ _ _ _=>eC (i:=0) (be8 _ _) rfl (Or.inl rfl) (.inr rfl),fun _ _ _ _=>oG,fun _ _ _ _=>qI dO⟩ tR.nd rfl rfl rfl)
  (lD (tZ bp9 rfl (qD (jO oB (pv 0) lC (fun _ _=>rfl))) (lI (n:=2) rfl (gB (eC (i:=2) tR.nd rfl (Or.inl rfl) (.inr rfl)) (gB (eC (i:=3) tR.nd rfl (Or.inl rfl) (.inr rfl)) lH)) )
   (lD (lF (lJ bi6 bn5 bn6 mI (jO oA (pv 1) (pv 2) (fun _ _=>rfl)) (cY (pv 3) dO)))
   (lE (lF (lJ bi6 bn5 bn6 mI (jO oA (pv 1) (pv 3) (fun _ _=>rfl)) (cY (pv 2) dO))))))
  (lE (mE (pv 1)))),?_⟩
 obtain ⟨a,p,q',ys,rfl,ha,hp,hq,hL⟩:=W.at_
 have lw:(ws.map V.int).length=ws.length:=bb8 _
 refine⟨_,rfl,a,_,_,_,rfl,rfl,aR.of ha,rfl,p,rfl,⟨_,aR.of hp⟩,J2 (J0 (aR.of hp)) (fun i acc H'=>∃ bs:List Addr,acc=bs.map V.ref/\bs.length=i/\bs.Nodup/\∀ b ∈ bs,H b=none/\H' b=some (.lst [])) (by rw [lw]; exact bh9 (oF hn))
  (fun D hD=>⟨[],rfl,rfl,List.nodup_nil,fun _ z=>nomatch z⟩) (fun i x acc D H' hx c hPv=>?_) (fun D acc H' hD sm hDa hlen hPv=>?_)⟩
 ·obtain ⟨bs,rfl,hbl,nd,hb⟩:=hPv
  refine⟨K7 (n:=none),oM ⟨bg8 _,fun r hr'=>?_⟩⟩
  have hrD:r ≠ D:=fun z=>by rw [z,c.acc] at hr'; cases hr'
  have hrH:H r=none:=c.same.free hr'
  refine c.yes (bK hr' _) ⟨bs ++ [r],by simp,by simp [hbl],?_,fun b hm=>?_⟩
  ·refine bm8.mpr ⟨nd,be8 _ _,fun b hb1 b' hb2 e=>?_⟩
   rw [bc1.mp hb2] at e
   rw [e] at hb1
   rw [(hb r hb1).2] at hr'; cases hr'
  ·rcases bc9.mp hm with hm | hm
   ·have hbD:b ≠ D:=fun z=>by
     rw [z] at hm
     have:=(hb D hm).2
     rw [c.acc] at this
     have:bs.map V.ref = []:=by injection this with e1; injection e1
     have:bs = []:=List.map_eq_nil_iff.mp this
     rw [this] at hm; simp at hm
    refine⟨(hb b hm).1,?_⟩
    rw [b7 hbD,b7 (dU (hb b hm).2 hr')]
    exact (hb b hm).2
   ·rw [bc1.mp hm]
    exact⟨hrH,by rw [b7 hrD,bM]⟩
 ·obtain ⟨bs,rfl,hbl,nd,hb⟩:=hPv
  rw [lw] at hbl
  have R0:iC H H' D bs (fun k=>aO (ls.take 0) k):=by
   refine⟨hD,fun b hm=>⟨(hb b hm).1,fun z=>?_⟩,nd,hDa,fun k b hk=>(hb b (bc2 hk)).2,sm⟩
   rw [z] at hm
   have:=(hb D hm).2
   rw [hDa] at this
   have:bs.map V.ref = []:=by injection this with e1; injection e1
   have:bs = []:=List.map_eq_nil_iff.mp this
   rw [this] at hm; simp at hm
  have lL:=hL.length
  refine⟨_,rfl,a,_,_,_,rfl,rfl,aR.of (sm _ _ ha),rfl,q',rfl,⟨_,aR.of (sm _ _ hq)⟩,zW (K:=K) (a:=q') (xs:=ys) (fun i σ H2=>∃ x y:Option V,σ = [some (.ref a),some (.ref D),x,y]/\iC H H2 D bs (fun k=>aO (ls.take i) k))
   ⟨none,none,rfl,R0⟩ (fun i σ H2 _ ⟨_,_,_,R⟩=>aR.of (R.same _ _ hq)) ?_ ?_⟩
  ·rintro i y σ H2 hi ⟨x1,x2,rfl,R⟩
   obtain ⟨l,b,hl,rfl,hbt⟩:=hL.get hi
   have hlm:l ∈ ls:=bc2 hl
   obtain ⟨⟨h1,h2⟩,h3,h4⟩:=hin l hlm
   have k1:l.1.toNat < bs.length:=by omega
   have k2:l.2.toNat < bs.length:=by omega
   have e1:bs[l.1.toNat]? = some (bs[l.1.toNat]):=bb9 k1
   have e2:bs[l.2.toNat]? = some (bs[l.2.toNat]):=bb9 k2
   refine⟨b,_,rfl,aR.of (R.same _ _ hbt),rfl,_,_,rfl,_,_,rfl,rfl,?_⟩
   refine⟨_,rfl,_,rfl,D,_,_,.ref bs[l.1.toNat],rfl,rfl,aM.of R.row,mL h1 (by rw [bd1,e1]; rfl),kK (aM.of (R.rows _ _ e1)),_,rfl,_,_,_,rfl,rfl,R.rows _ _ e1,?_,?_⟩
   ·rw [bb8]
    have:=rB (ls.take i) (l.1.toNat:Nat)
    rw [bj2] at this
    exact hZ (by omega)
   ·have R1:=R.app e1 l.2
    refine⟨_,rfl,_,rfl,D,_,_,.ref bs[l.2.toNat],rfl,rfl,aM.of R1.row,mL h3 (by rw [bd1,e2]; rfl),kK (aM.of (R1.rows _ _ e2)),_,rfl,_,_,_,rfl,rfl,R1.rows _ _ e2,?_,?_⟩
    ·rw [bb8]
     have:=rB (ls.take i) (l.2.toNat:Nat)
     rw [bj2] at this
     split
     ·rw [bd3,bf6]; exact hZ (by omega)
     ·exact hZ (by omega)
    ·have R2:=R1.app e2 l.1
     refine⟨_,_,rfl,R2.congr fun k hk=>?_⟩
     rw [K9 hl]
     have c1:(k=l.1.toNat) ↔ l.1=(k:Int):=by omega
     have c2:(k=l.2.toNat) ↔ l.2=(k:Int):=by omega
     by_cases d1:k=l.1.toNat
     ·by_cases d2:k=l.2.toNat
      ·rw [if_pos d2,if_pos d1,if_pos (c1.mp d1),if_pos (c2.mp d2)]; simp
      ·rw [if_neg d2,if_pos d1,if_pos (c1.mp d1),if_neg (fun z=>d2 (c2.mpr z))]; simp
     ·by_cases d2:k=l.2.toNat
      ·rw [if_pos d2,if_neg d1,if_neg (fun z=>d1 (c1.mpr z)),if_pos (c2.mp d2)]; simp
      ·rw [if_neg d2,if_neg d1,if_neg (fun z=>d1 (c1.mpr z)),if_neg (fun z=>d2 (c2.mpr z))]; simp
  ·
   rintro σ H2 ⟨x1,x2,rfl,R⟩
   refine⟨_,rfl,q D bs H2 hbl ?_⟩
   rw [lL,bj4] at R
   exact R
noncomputable abbrev ad8:Stmt:=b8 40
theorem tS:FnScope ["web","beside","one","other"] ["web"] (aZ ad8):=.au
theorem aV8 (F:fA K "_law_beside" "_law_beside" ad8 f fd):cZ P w K mg base dW 1 f fd ["web"] sN:=by
 refine F.ok tS (fun vs H Q E h=>?_) (fun cdv A outer s H vs Q E hr h=>?_)
 ·obtain ⟨v,ws,ls,rfl,_⟩:=h
  rfl
 obtain ⟨v,ws,ls,rfl,W,hn,hm,hin,q⟩:=h
 refine⟨_,lD (G8 (i:=1) (N:=["hearth"]) (fr:=[none]) rfl (cI.of rfl rfl) (qD (jO oB (pv 0) lC (fun _ _=>rfl)))
   ⟨fun _ _ _ _=>eC (i:=0) (be8 _ _) rfl (Or.inl rfl) (.inr rfl),fun _ _ _ _=>oG,fun _ _ _ _=>qI dO⟩ tS.nd rfl rfl rfl)
  (lD (tZ bp9 rfl (qD (jO oB (pv 0) lC (fun _ _=>rfl))) (lI (n:=2) rfl (gB (eC (i:=2) tS.nd rfl (Or.inl rfl) (.inr rfl)) (gB (eC (i:=3) tS.nd rfl (Or.inl rfl) (.inr rfl)) lH)) )
   (lD (lF (lJ bi6 bn5 bn6 mI (jO oA (pv 1) (pv 2) (fun _ _=>rfl)) (cY (pv 3) dO)))
   (lE (lF (lJ bi6 bn5 bn6 mI (jO oA (pv 1) (pv 3) (fun _ _=>rfl)) (cY (pv 2) dO))))))
  (lE (mE (pv 1)))),?_⟩
 obtain ⟨a,p,q',ys,rfl,ha,hp,hq,hL⟩:=W.at_
 have lw:(ws.map V.int).length=ws.length:=bb8 _
 refine⟨_,rfl,a,_,_,_,rfl,rfl,aR.of ha,rfl,p,rfl,⟨_,aR.of hp⟩,J2 (J0 (aR.of hp)) (fun i acc H'=>∃ bs:List Addr,acc=bs.map V.ref/\bs.length=i/\bs.Nodup/\∀ b ∈ bs,H b=none/\H' b=some (.lst [])) (by rw [lw]; exact bh9 (oF hn))
  (fun D hD=>⟨[],rfl,rfl,List.nodup_nil,fun _ z=>nomatch z⟩) (fun i x acc D H' hx c hPv=>?_) (fun D acc H' hD sm hDa hlen hPv=>?_)⟩
 ·obtain ⟨bs,rfl,hbl,nd,hb⟩:=hPv
  refine⟨K7 (n:=none),oM ⟨bg8 _,fun r hr'=>?_⟩⟩
  have hrD:r ≠ D:=fun z=>by rw [z,c.acc] at hr'; cases hr'
  have hrH:H r=none:=c.same.free hr'
  refine c.yes (bK hr' _) ⟨bs ++ [r],by simp,by simp [hbl],?_,fun b hm=>?_⟩
  ·refine bm8.mpr ⟨nd,be8 _ _,fun b hb1 b' hb2 e=>?_⟩
   rw [bc1.mp hb2] at e
   rw [e] at hb1
   rw [(hb r hb1).2] at hr'; cases hr'
  ·rcases bc9.mp hm with hm | hm
   ·have hbD:b ≠ D:=fun z=>by
     rw [z] at hm
     have:=(hb D hm).2
     rw [c.acc] at this
     have:bs.map V.ref = []:=by injection this with e1; injection e1
     have:bs = []:=List.map_eq_nil_iff.mp this
     rw [this] at hm; simp at hm
    refine⟨(hb b hm).1,?_⟩
    rw [b7 hbD,b7 (dU (hb b hm).2 hr')]
    exact (hb b hm).2
   ·rw [bc1.mp hm]
    exact⟨hrH,by rw [b7 hrD,bM]⟩
 ·obtain ⟨bs,rfl,hbl,nd,hb⟩:=hPv
  rw [lw] at hbl
  have R0:iC H H' D bs (fun k=>aO (ls.take 0) k):=by
   refine⟨hD,fun b hm=>⟨(hb b hm).1,fun z=>?_⟩,nd,hDa,fun k b hk=>(hb b (bc2 hk)).2,sm⟩
   rw [z] at hm
   have:=(hb D hm).2
   rw [hDa] at this
   have:bs.map V.ref = []:=by injection this with e1; injection e1
   have:bs = []:=List.map_eq_nil_iff.mp this
   rw [this] at hm; simp at hm
  have lL:=hL.length
  refine⟨_,rfl,a,_,_,_,rfl,rfl,aR.of (sm _ _ ha),rfl,q',rfl,⟨_,aR.of (sm _ _ hq)⟩,zW (K:=K) (a:=q') (xs:=ys) (fun i σ H2=>∃ x y:Option V,σ = [some (.ref a),some (.ref D),x,y]/\iC H H2 D bs (fun k=>aO (ls.take i) k))
   ⟨none,none,rfl,R0⟩ (fun i σ H2 _ ⟨_,_,_,R⟩=>aR.of (R.same _ _ hq)) ?_ ?_⟩
  ·rintro i y σ H2 hi ⟨x1,x2,rfl,R⟩
   obtain ⟨l,b,hl,rfl,hbt⟩:=hL.get hi
   have hlm:l ∈ ls:=bc2 hl
   obtain ⟨⟨h1,h2⟩,h3,h4⟩:=hin l hlm
   have k1:l.1.toNat < bs.length:=by omega
   have k2:l.2.toNat < bs.length:=by omega
   have e1:bs[l.1.toNat]? = some (bs[l.1.toNat]):=bb9 k1
   have e2:bs[l.2.toNat]? = some (bs[l.2.toNat]):=bb9 k2
   refine⟨b,_,rfl,aR.of (R.same _ _ hbt),rfl,_,_,rfl,_,_,rfl,rfl,?_⟩
   refine⟨_,rfl,_,rfl,D,_,_,.ref bs[l.1.toNat],rfl,rfl,aM.of R.row,mL h1 (by rw [bd1,e1]; rfl),kK (aM.of (R.rows _ _ e1)),_,rfl,_,_,_,rfl,rfl,R.rows _ _ e1,?_,?_⟩
   ·rw [bb8]
    have:=rB (ls.take i) (l.1.toNat:Nat)
    rw [bj2] at this
    exact hZ (by omega)
   ·have R1:=R.app e1 l.2
    refine⟨_,rfl,_,rfl,D,_,_,.ref bs[l.2.toNat],rfl,rfl,aM.of R1.row,mL h3 (by rw [bd1,e2]; rfl),kK (aM.of (R1.rows _ _ e2)),_,rfl,_,_,_,rfl,rfl,R1.rows _ _ e2,?_,?_⟩
    ·rw [bb8]
     have:=rB (ls.take i) (l.2.toNat:Nat)
     rw [bj2] at this
     split
     ·rw [bd3,bf6]; exact hZ (by omega)
     ·exact hZ (by omega)
    ·have R2:=R1.app e2 l.1
     refine⟨_,_,rfl,R2.congr fun k hk=>?_⟩
     rw [K9 hl]
     have c1:(k=l.1.toNat) ↔ l.1=(k:Int):=by omega
     have c2:(k=l.2.toNat) ↔ l.2=(k:Int):=by omega
     by_cases d1:k=l.1.toNat
     ·by_cases d2:k=l.2.toNat
      ·rw [if_pos d2,if_pos d1,if_pos (c1.mp d1),if_pos (c2.mp d2)]; simp
      ·rw [if_neg d2,if_pos d1,if_pos (c1.mp d1),if_neg (fun z=>d2 (c2.mpr z))]; simp
     ·by_cases d2:k=l.2.toNat
      ·rw [if_pos d2,if_neg d1,if_neg (fun z=>d1 (c1.mpr z)),if_pos (c2.mp d2)]; simp
      ·rw [if_neg d2,if_neg d1,if_neg (fun z=>d1 (c1.mpr z)),if_neg (fun z=>d2 (c2.mpr z))]; simp
  ·
   rintro σ H2 ⟨x1,x2,rfl,R⟩
   refine⟨_,rfl,q D bs H2 hbl ?_⟩
   rw [lL,bj4] at R
   exact R
theorem aV9:FnScope ["prices","many"] ["prices","many"] (aZ (b8 7)):=.au
theorem aW0 (B:Bt mg) (F:FM K mg "made_prices" 7 f fd)  : Df P w K mg base 1 "made_prices" ["prices","many"] nJ:=
 Df.au F aV9 (fun cdv A outer s H E hr=>by
  exact⟨(U6),(aG (cK (rW (dC B (a7 (qv 0) aA)) (qv 1)) (aT wL) cM)
   (aG (cK (lX (aK0 B rfl (a7 (pC (N:=["price"]) (fr:=[none]) (eB (qv 0)) (fun _ _ _ _=>(P3 (qv 0) aC))) aA))) (aT wL) cM)
   (aT (bQ (k8 B (a7 (qv 0) aA)))))),aK1⟩)
theorem aW1:FnScope ["web"] ["web"] (aZ (b8 10)):=.au
theorem aW2 (B:Bt mg) (F:FM K mg "hearths_in" 10 f fd)  : Df P w K mg base 1 "hearths_in" ["web"] gJ:=
 Df.au F aW1 (fun cdv A outer s H E hr=>by
  exact⟨(R9),(aT (bQ (dC B (a7 (b5 (qv 0) aC) aA)))),aF1⟩)
theorem ad9:FnScope ["hearths","inside","hearth"] ["hearths"] (aZ (b8 15)):=.au
theorem aW3 (B:Bt mg) (F:FM K mg "marked" 15 f fd)  : Df P w K mg base 1 "marked" ["hearths"] nH:=
 Df.au F ad9 (fun cdv A outer s H E hr=>by
  have nd:=ad9.nd
  have hu:=uW hr
  exact⟨(S6),(aG (fS (i:=1) nd aB5)
   (aG (i5 2 nd (eB (qv 0))
    (aT (P9 hu (i:=1) (qv 2) gR)))
   (aT (nC 1)))),aF8⟩)
theorem aW4:FnScope ["around","hearth","elder"] ["around","hearth","elder"] (aZ (b8 25)):=.au
theorem aW5 (B:Bt mg) (F:FM K mg "children_of" 25 f fd)  : Df P w K mg base 1 "children_of" ["around","hearth","elder"] l9:=
 Df.au F aW4 (fun cdv A outer s H E hr=>by
  exact⟨(Y8),(aT (bQ (wQ (N:=["other","elder"]) (fr:=[none,some 2]) (eB (b5 (qv 0) (qv 1))) (fun _ _ _ _=>(aN3 (qv 0) (qv 1))) (fun _ _ _ _=>(qv 0))))),aQ7⟩)
theorem aW6:FnScope ["want"] ["want"] (aZ (b8 29)):=.au
theorem aW7 (B:Bt mg) (F:FM K mg "one_less" 29 f fd)  : Df P w K mg base 1 "one_less" ["want"] tI:=
 Df.au F aW6 (fun cdv A outer s H E hr=>by
  exact⟨(aa9),(aT (bQ (nD B rfl (a7 aC (a7 (gS (qv 0) aC) aA))))),aS2⟩)
theorem ae0:FnScope ["want","price","below","gaps","dearer"] ["want","price","below"] (aZ (b8 30)):=.au
theorem aW8 (B:Bt mg) (F:FM K mg "most_for" 30 f fd)  : Df P w K mg base 1 "most_for" ["want","price","below"] pT:=
 Df.au F ae0 (fun cdv A outer s H E hr=>by
  have nd:=ae0.nd
  exact⟨(ab0),(aG (bA (i:=3) nd (Q3 B (a7 (T9 (N:=["a","b"]) (fr:=[none,none]) (eB (qv 2)) (fun _ _ _ _=>(gS (qv 1) (qv 0)))) aA)))
   (aG (bA (i:=4) nd (qv 1))
   (aG (cK (aB0 (dC B (a7 (qv 3) aA)) (qv 0)) (aT (bA (i:=4) nd (sA B rfl (a7 (qv 1) (a7 (m6 B rfl (a7 (lY (qv 3) nF (kX (qv 0))) aA)) aA))))) cM)
   (aT (bQ (bW (m6 B rfl (a7 (T9 (N:=["a","b"]) (fr:=[none,none]) (eB (qv 2)) (fun _ _ _ _=>(qv 0))) aA)) (qv 4))))))),aS3⟩)
theorem aW9:FnScope ["told","most"] ["told","most"] (aZ (b8 32)):=.au
theorem aX0 (B:Bt mg) (F:FM K mg "is_right_pair" 32 f fd)  : Df P w K mg base 1 "is_right_pair" ["told","most"] tL:=
 Df.au F aW9 (fun cdv A outer s H E hr=>by
  exact⟨(ac6),(aT (bQ (nB (nA aC (b5 (qv 0) aC)) (nB (nA (b5 (qv 0) aC) (b5 (qv 0) aC)) (nB (nA (b5 (qv 0) aC) (b5 (qv 1) aC)) (p9 (nA (b5 (qv 0) aC) (b5 (qv 1) aC)))))))),aT9⟩)
theorem aX1:FnScope ["script","k"] ["script","k"] (aZ (b8 34)):=.au
theorem aX2 (B:Bt mg) (F:FM K mg "_law_cell_at" 34 f fd)  : Df P w K mg base 1 "_law_cell_at" ["script","k"] dS:=
 Df.au F aX1 (fun cdv A outer s H E hr=>by
  exact⟨(S7),(aG (cK (oZ (qv 1) (dC B (a7 (qv 0) aA))) (aT (bQ (b5 (qv 0) (qv 1)))) cM)
   (aT (bQ aC))),aG1⟩)
theorem ae1:FnScope ["number","k","turn"] ["number","k"] (aZ (b8 35)):=.au
theorem aX3 (B:Bt mg) (F:FM K mg "_law_mixed" 35 f fd)  : Df P w K mg base 1 "_law_mixed" ["number","k"] gV:=
 Df.au F ae1 (fun cdv A outer s H E hr=>by
  have nd:=ae1.nd
  exact⟨(W7),(aG (bA (i:=2) nd (cL (bW (bW (bW (cL (qv 0) aC) (oX (oX aC (qv 1)) (qv 1))) (oX aC (qv 1))) aC) aC))
   (aG (bA (i:=2) nd (cL (oX (qv 2) aC) aC))
   (aT (bQ (cL (oX (qv 2) (qv 2)) aC))))),aN4⟩)
theorem aX4:FnScope ["found"] ["found"] (aZ (b8 36)):=.au
theorem aX5 (B:Bt mg) (F:FM K mg "_law_whole" 36 f fd)  : Df P w K mg base 1 "_law_whole" ["found"] sL:=
 Df.au F aX4 (fun cdv A outer s H E hr=>by
  exact⟨(S8 K),(aT (bQ (nB (aC4 B (qv 0)) (p9 (aB3 (aC5 B (qv 0))))))),aG2 (x5 K).ii (x5 K).ib⟩)
theorem ae2:FnScope ["ledger","cell","place","first","second","pair"] ["ledger","cell"] (aZ (b8 44)):=.au
theorem aX6 (B:Bt mg) (F:FM K mg "_law_spoiled" 44 f fd)  : Df P w K mg base 1 "_law_spoiled" ["ledger","cell"] tO:=
 Df.au F ae2 (fun cdv A outer s H E hr=>by
  have nd:=ae2.nd
  exact⟨(ad1),(aG (cK (p6 (rY (kT (dC B (a7 (qv 0) aA)) aC) (wJ (kT (cL (qv 1) aC) aC)))) (aT (bQ (x6 (qv 0) (eU (a7 (eL (a7 aC (a7 aC aA))) aA))))) cM)
   (aG (bA (i:=2) nd (cL (gT (qv 1) aC) (dC B (a7 (qv 0) aA))))
   (aG (xE 3 4 nd (b5 (qv 0) (qv 2)))
   (aG (bA (i:=5) nd (b5 (eU (a7 (eL (a7 (qv 3) (a7 (qv 4) aA))) (a7 (eL (a7 (qv 3) (a7 (qv 4) aA))) (a7 (eL (a7 (bW (qv 3) aC) (a7 (qv 4) aA))) (a7 (eL (a7 (qv 3) (a7 (bW (qv 4) aC) aA))) (a7 (eL (a7 (bW (qv 3) aC) (a7 (bW (qv 4) aC) aA))) (a7 (eL (a7 (gS (aC0 aC) (cL (gT (qv 1) aC) (wI aC aC))) (a7 (qv 4) aA))) (a7 (eL (a7 (qv 4) (a7 (qv 3) aA))) (a7 (eL (a7 (bW (qv 4) aC) (a7 (qv 4) aA))) aA))))))))) (cL (qv 1) aC)))
   (aG (cK (kT (cL (qv 1) aC) aC) (aT (bQ (lY (qv 0) (kX aC) nF))) cM)
   (aT (bQ (x6 (x6 (lY (qv 0) nF (kX (qv 2))) (eU (a7 (qv 5) aA))) (lY (qv 0) (kX (bW (qv 2) aC)) nF))))))))),aU8⟩)
theorem ae3:FnScope ["pair","price","want","pairs","first","second","helped","gaps"] ["pair","price","want","pairs"] (aZ (b8 45)):=.au
theorem aX7 (B:Bt mg) (F:FM K mg "_law_row_right" 45 f fd)  : Df P w K mg base 1 "_law_row_right" ["pair","price","want","pairs"] tN:=
 Df.au F ae3 (fun cdv A outer s H E hr=>by
  have nd:=ae3.nd
  exact⟨(ad0),(aG (xE 4 5 nd (qv 0))
   (aG (bA (i:=6) nd (m6 B rfl (a7 (pC (N:=["other"]) (fr:=[none]) (eB (qv 3)) (fun _ _ _ _=>(b5 (qv 0) aC))) aA)))
   (aG (bA (i:=7) nd (Q3 B (a7 (pC (N:=["other"]) (fr:=[none]) (eB (qv 3)) (fun _ _ _ _=>(gS (b5 (qv 0) aC) (b5 (qv 0) aC)))) aA)))
   (aG (cK (p6 (rY (oZ (qv 4) aC) (rY (p5 (qv 4) (qv 5)) (wJ (p5 (qv 5) (bW (qv 1) (qv 6))))))) (aT (bQ gR)) cM)
   (aG (cK (kT (qv 2) aC) (aT (bQ (nA (qv 5) (qv 6)))) cM)
   (aG (cK (p6 (P8 (aA9 (gS (qv 2) aC) (dC B (a7 (qv 7) aA))) (P7 (p5 (qv 4) (bW (qv 6) (m6 B rfl (a7 (lY (qv 7) nF (kX (gS (qv 2) aC))) aA))))))) (aT (bQ gR)) cM)
   (aT (bQ (aB2 (aA7 (qv 2) (dC B (a7 (qv 7) aA))) (p9 (nA (qv 5) (bW (qv 6) (m6 B rfl (a7 (lY (qv 7) nF (kX (qv 2))) aA)))))))))))))),aU6⟩)
theorem aX8:FnScope ["web","number"] ["web","number"] (aZ (b8 12)):=.au
theorem aX9 (B:Bt mg) (F:FM K mg "is_hearth" 12 f fd) (d_hearths_in:Df P w K mg base 1 "hearths_in" ["web"] gJ):Df P w K mg base 2 "is_hearth" ["web","number"] sE:=
 Df.au F aX8 (fun cdv A outer s H E hr=>by
  exact⟨(S0),(aT (bQ (nB (aA8 (qv 1) aC) (p9 (P3 (qv 1) (b4 d_hearths_in hr (a7 (qv 0) aA))))))),aF2⟩)
theorem ae4:FnScope ["hearths","some","gone"] ["hearths","some"] (aZ (b8 16)):=.au
theorem aY0 (B:Bt mg) (F:FM K mg "without" 16 f fd) (d_marked:Df P w K mg base 1 "marked" ["hearths"] nH):Df P w K mg base 2 "without" ["hearths","some"] nI:=
 Df.au F ae4 (fun cdv A outer s H E hr=>by
  have nd:=ae4.nd
  have hu:=uW hr
  exact⟨(U1),(aG (bA (i:=2) nd (b4 d_marked hr (a7 (qv 1) aA)))
   (aT (bQ (k8 B (a7 (wQ (N:=["hearth","gone"]) (fr:=[none,some 2]) (eB (qv 0)) (fun _ _ _ _=>(P6 hu (qv 0) (qv 1))) (fun _ _ _ _=>(qv 0))) aA))))),aI7⟩)
theorem ae5:FnScope ["around","hearths","inside","reached","waiting","hearth","other"] ["around","hearths"] (aZ (b8 20)):=.au
theorem aY1 (B:Bt mg) (F:FM K mg "first_piece" 20 f fd) (d_marked:Df P w K mg base 1 "marked" ["hearths"] nH):Df P w K mg base 2 "first_piece" ["around","hearths"] sW:=
 Df.au F ae5 (fun cdv A outer s H E hr=>by
  have nd:=ae5.nd
  have hu:=uW hr
  exact⟨(V8),(aG (bA (i:=2) nd (b4 d_marked hr (a7 (qv 1) aA)))
   (aG (fS (i:=3) nd (aM1 (b5 (qv 1) aC)))
   (aG (fS (i:=4) nd (eU (a7 (b5 (qv 1) aC) aA)))
   (aG (rZ bp9 (rX (qv 4))
    (aG (aM2 nd 4 5)
    (aT (i5 6 nd (eB (b5 (qv 0) (qv 5)))
     (aT (cK (p6 (P8 (aB1 hu (qv 6) (qv 2)) (P7 (P6 hu (qv 6) (qv 3))))) (aG (P9 hu (i:=3) (qv 6) gR)
      (aT (kU 4 (qv 6)))) cM))))))
   (aT (bQ (k8 B (a7 (aJ4 B rfl (a7 (qv 3) aA)) aA)))))))),aM6⟩)
theorem aY2:FnScope ["want","price","below"] ["want","price","below"] (aZ (b8 28)):=.au
theorem aY3 (B:Bt mg) (F:FM K mg "most_pair" 28 f fd) (d_most_for:Df P w K mg base 1 "most_for" ["want","price","below"] pT) (d_one_less:Df P w K mg base 1 "one_less" ["want"] tI):Df P w K mg base 2 "most_pair" ["want","price","below"] nT:=
 Df.au F aY2 (fun cdv A outer s H E hr=>by
  exact⟨(ab2),(aT (bQ (eL (a7 (b4 d_most_for hr (a7 (b4 d_one_less hr (a7 (qv 0) aA)) (a7 (qv 1) (a7 (qv 2) aA)))) (a7 (b4 d_most_for hr (a7 (qv 0) (a7 (qv 1) (a7 (qv 2) aA)))) aA))))),aS4⟩)
theorem ae6:FnScope ["script","most","number"] ["script","most"] (aZ (b8 37)):=.au
theorem aY4 (B:Bt mg) (F:FM K mg "_law_hearths" 37 f fd) (d__law_cell_at:Df P w K mg base 1 "_law_cell_at" ["script","k"] dS):Df P w K mg base 2 "_law_hearths" ["script","most"] sZ:=
 Df.au F ae6 (fun cdv A outer s H E hr=>by
  have nd:=ae6.nd
  exact⟨(W8),(aG (bA (i:=2) nd (b4 d__law_cell_at hr (a7 (qv 0) (a7 aC aA))))
   (aG (cK (kT (cL (qv 2) aC) aC) (aT (bQ (sA B rfl (a7 (qv 1) (a7 (nD B rfl (a7 aC (a7 (gS (dC B (a7 (qv 0) aA)) aC) aA))) aA))))) cM)
   (aG (cK (kT (cL (qv 2) aC) aC) (aT (bQ (cL (bW (gT (qv 2) aC) aC) (bW (qv 1) aC)))) cM)
   (aT (bQ (cL (bW (gT (qv 2) aC) aC) (bW (sA B rfl (a7 aC (a7 (qv 1) aA))) aC))))))),aN5⟩)
theorem ae7:FnScope ["script","many","digits","places","number","k","spot"] ["script","many","digits"] (aZ (b8 38)):=.au
theorem aY5 (B:Bt mg) (F:FM K mg "_law_places" 38 f fd) (d__law_cell_at:Df P w K mg base 1 "_law_cell_at" ["script","k"] dS) (d__law_mixed:Df P w K mg base 1 "_law_mixed" ["number","k"] gV):Df P w K mg base 2 "_law_places" ["script","many","digits"] tG:=
 Df.au F ae7 (fun cdv A outer s H E hr=>by
  have nd:=ae7.nd
  exact⟨(Z5),(aG (fS (i:=3) nd (T0 B (qv 1)))
   (aG (bA (i:=4) nd (b4 d__law_cell_at hr (a7 (qv 0) (a7 aC aA))))
   (aG (cK (kT (cL (gT (b4 d__law_cell_at hr (a7 (qv 0) (a7 aC aA))) aC) aC) aC) (aG (fS (i:=3) nd (eU aA))
    (aT (i5 5 nd (kW rfl B.range (qv 1))
     (aG (bA (i:=6) nd (b4 d__law_mixed hr (a7 (b4 d__law_cell_at hr (a7 (qv 0) (a7 aC aA))) (a7 (bW (qv 5) aC) aA))))
     (aG (cK (rX (qv 2)) (aG (bA (i:=6) nd (qv 4))
      (aT (bA (i:=4) nd (gT (qv 4) (bW (qv 5) aC))))) cM)
     (aT (aL7 3 (cL (qv 6) (bW (qv 5) aC)) (qv 5)))))))) cM)
   (aT (nC 3))))),aR5⟩)
theorem ae8:FnScope ["web","beside","elders","order","root","at","other"] ["web"] (aZ (b8 41)):=.au
theorem aY6 (B:Bt mg) (F:FM K mg "_law_elders" 41 f fd) (d__law_beside:Df P w K mg base 1 "_law_beside" ["web"] W9):Df P w K mg base 2 "_law_elders" ["web"] tK:=
 Df.au F ae8 (fun cdv A outer s H E hr=>by
  have nd:=ae8.nd
  exact⟨(ac1),(aG (bA (i:=1) nd (b4 d__law_beside hr (a7 (qv 0) aA)))
   (aG (fS (i:=2) nd (sP (eU (a7 mZ aA)) (dC B (a7 (b5 (qv 0) aC) aA))))
   (aG (fS (i:=3) nd (eU aA))
   (aG (i5 4 nd (kW rfl B.range (dC B (a7 (b5 (qv 0) aC) aA)))
    (aT (cK (Q6 (qv 4) (qv 3)) (aG (kU 3 (qv 4))
     (aG (bA (i:=5) nd (gS (dC B (a7 (qv 3) aA)) aC))
     (aT (rZ bp9 (oZ (qv 5) (dC B (a7 (qv 3) aA)))
      (aG (i5 6 nd (eB (b5 (qv 1) (b5 (qv 3) (qv 5))))
       (aT (cK (Q6 (qv 6) (qv 3)) (aG (pD (i:=2) (qv 6) (b5 (qv 3) (qv 5)))
        (aT (kU 3 (qv 6)))) cM)))
      (aT (bA (i:=5) nd (bW (qv 5) aC)))))))) cM)))
   (aT (wM 2 (wM 3 (bQ (aB4 (a7 (qv 2) (a7 (qv 3) aA))))))))))),aT5⟩)
theorem ae9:FnScope ["script","many","prices","k","number"] ["script","many"] (aZ (b8 42)):=.au
theorem aY7 (B:Bt mg) (F:FM K mg "_law_prices" 42 f fd) (d__law_mixed:Df P w K mg base 1 "_law_mixed" ["number","k"] gV) (d__law_cell_at:Df P w K mg base 1 "_law_cell_at" ["script","k"] dS):Df P w K mg base 2 "_law_prices" ["script","many"] t6:=
 Df.au F ae9 (fun cdv A outer s H E hr=>by
  have nd:=ae9.nd
  exact⟨(X3),(aG (fS (i:=2) nd (eU aA))
   (aG (i5 3 nd (kW rfl B.range (qv 1))
    (aG (bA (i:=4) nd (b4 d__law_mixed hr (a7 (b4 d__law_cell_at hr (a7 (qv 0) (a7 aC aA))) (a7 (bW (qv 3) aC) aA))))
    (aG (cK (oZ (bW aC (qv 3)) (dC B (a7 (qv 0) aA))) (aT (bA (i:=4) nd (bW (gT (b5 (qv 0) (bW aC (qv 3))) aC) (b4 d__law_cell_at hr (a7 (qv 0) (a7 aC aA)))))) cM)
    (aT (kU 2 (b5 (eU (a7 (cL (qv 4) aC) (a7 (bW aC (cL (qv 4) aC)) (a7 (cL (qv 4) (wI aC aC)) (a7 (bW (wI aC aC) (cL (qv 4) aC)) aA))))) (cL (gT (qv 4) aC) aC)))))))
   (aT (nC 2)))),aO6⟩)
theorem af0:FnScope ["ledger","script","found","hearth","number","first","second"] ["ledger","script"] (aZ (b8 43)):=.au
theorem aY8 (B:Bt mg) (F:FM K mg "_law_lessened" 43 f fd) (d__law_mixed:Df P w K mg base 1 "_law_mixed" ["number","k"] gV) (d__law_cell_at:Df P w K mg base 1 "_law_cell_at" ["script","k"] dS):Df P w K mg base 2 "_law_lessened" ["ledger","script"] tM:=
 Df.au F af0 (fun cdv A outer s H E hr=>by
  have nd:=af0.nd
  exact⟨(yV),(aG (fS (i:=2) nd (eU aA))
   (aG (i5 3 nd (kW rfl B.range (dC B (a7 (qv 0) aA)))
    (aG (bA (i:=4) nd (b4 d__law_mixed hr (a7 (bW (b4 d__law_cell_at hr (a7 (qv 1) (a7 (bW aC (qv 3)) aA))) (b4 d__law_cell_at hr (a7 (qv 1) (a7 aC aA)))) (a7 (bW (qv 3) aC) aA))))
    (aG (xE 5 6 nd (b5 (qv 0) (qv 3)))
    (aG (cK (p5 (cL (b4 d__law_cell_at hr (a7 (qv 1) (a7 aC aA))) aC) aC) (aG (bA (i:=5) nd (nD B rfl (a7 aC (a7 (gS (qv 5) (cL (qv 4) aC)) aA))))
     (aT (bA (i:=6) nd (nD B rfl (a7 (qv 5) (a7 (gS (qv 6) (cL (gT (qv 4) aC) aC)) aA)))))) cM)
    (aT (kU 2 (eL (a7 (qv 5) (a7 (qv 6) aA)))))))))
   (aT (nC 2)))),aU4⟩)
theorem af1:FnScope ["web","prices","ledger","elders","many","hearth","pairs"] ["web","prices","ledger","elders"] (aZ (b8 46)):=.au
theorem aY9 (B:Bt mg) (F:FM K mg "_law_right" 46 f fd) (d__law_row_right:Df P w K mg base 1 "_law_row_right" ["pair","price","want","pairs"] tN):Df P w K mg base 2 "_law_right" ["web","prices","ledger","elders"] tP:=
 Df.au F af1 (fun cdv A outer s H E hr=>by
  have nd:=af1.nd
  exact⟨(yX),(aG (bA (i:=4) nd (dC B (a7 (b5 (qv 0) aC) aA)))
   (aG (cK (rW (dC B (a7 (qv 2) aA)) (qv 4)) (aT (bQ gR)) cM)
   (aG (i5 5 nd (kW rfl B.range (qv 4))
    (aG (aD0 (i:=6) nd (N:=["other","hearth","elders","ledger"]) (fr:=[none,some 5,some 3,some 2]) (kW rfl B.range (qv 4)) (fun _ _ _ _=>(aT7 (b5 (qv 2) (qv 0)) (qv 1))) (fun _ _ _ _=>(b5 (qv 3) (qv 0))))
    (aT (cK (p7 (lX (b4 d__law_row_right hr (a7 (b5 (qv 2) (qv 5)) (a7 (b5 (qv 1) (qv 5)) (a7 (b5 (b5 (qv 0) aC) (qv 5)) (a7 (qv 6) aA))))))) (aT (bQ gR)) cM))))
   (aT (bQ gR))))),aV0⟩)
theorem aZ0:FnScope ["web","numbers"] ["web","numbers"] (aZ (b8 13)):=.au
theorem aZ1 (B:Bt mg) (F:FM K mg "is_set" 13 f fd) (d_rises:Df P w K mg base 1 "rises" ["things"] wW) (d_is_hearth:Df P w K mg base 2 "is_hearth" ["web","number"] sE):Df P w K mg base 3 "is_set" ["web","numbers"] sF:=
 Df.au F aZ0 (fun cdv A outer s H E hr=>by
  exact⟨(S2),(aT (bQ (nB (b4 d_rises hr (a7 (qv 1) aA)) (p9 (aB9 B rfl (a7 (pC (N:=["number","web"]) (fr:=[none,some 0]) (eB (qv 1)) (fun _ _ _ _=>(b4 d_is_hearth hr (a7 (qv 1) (a7 (qv 0) aA))))) aA)))))),aF3⟩)
theorem aZ2:FnScope ["web","some"] ["web","some"] (aZ (b8 17)):=.au
theorem aZ3 (B:Bt mg) (F:FM K mg "all_but" 17 f fd) (d_without:Df P w K mg base 2 "without" ["hearths","some"] nI) (d_hearths_in:Df P w K mg base 1 "hearths_in" ["web"] gJ):Df P w K mg base 3 "all_but" ["web","some"] sV:=
 Df.au F aZ2 (fun cdv A outer s H E hr=>by
  exact⟨(V6),(aT (bQ (b4 d_without hr (a7 (T0 B (b4 d_hearths_in hr (a7 (qv 0) aA))) (a7 (qv 1) aA))))),aL9⟩)
theorem af2:FnScope ["script","most","many","digits","links","counts","cells","k","number","elder","places","wants","pairs"] ["script","most"] (aZ (b8 39)):=.au
theorem aZ4 (B:Bt mg) (F:FM K mg "_law_wood" 39 f fd) (d__law_hearths:Df P w K mg base 2 "_law_hearths" ["script","most"] sZ) (d__law_cell_at:Df P w K mg base 1 "_law_cell_at" ["script","k"] dS) (d__law_mixed:Df P w K mg base 1 "_law_mixed" ["number","k"] gV) (d__law_places:Df P w K mg base 2 "_law_places" ["script","many","digits"] tG):Df P w K mg base 3 "_law_wood" ["script","most"] tH:=
 Df.au F af2 (fun cdv A outer s H E hr=>by
  have nd:=af2.nd
  exact⟨(aa8),(aG (bA (i:=2) nd (b4 d__law_hearths hr (a7 (qv 0) (a7 (qv 1) aA))))
   (aG (bA (i:=3) nd (P4 (cL (gT (b4 d__law_cell_at hr (a7 (qv 0) (a7 aC aA))) aC) aC) aC))
   (aG (fS (i:=4) nd (eU aA))
   (aG (fS (i:=5) nd (sP (eU (a7 aC aA)) (qv 2)))
   (aG (fS (i:=6) nd (lY (qv 0) (kX aC) (kX (bW aC (qv 2)))))
   (aG (i5 7 nd (Q0 rfl B.range (dC B (a7 (qv 6) aA)) (qv 2))
    (aT (kU 6 (b4 d__law_mixed hr (a7 (b4 d__law_cell_at hr (a7 (qv 0) (a7 aC aA))) (a7 (qv 7) aA))))))
   (aG (i5 7 nd (Q0 rfl B.range aC (qv 2))
    (aG (bA (i:=8) nd (b4 d__law_mixed hr (a7 (b5 (qv 6) (qv 7)) (a7 (qv 7) aA))))
    (aG (cK (rX (qv 3)) (aT (bA (i:=8) nd (gT (b5 (qv 6) (qv 7)) aC))) cM)
    (aT (cK (p5 (cL (qv 8) aC) aC) (aG (bA (i:=9) nd (cL (gT (qv 8) aC) (qv 7)))
     (aG (cK (kT (cL (b4 d__law_cell_at hr (a7 (qv 0) (a7 aC aA))) aC) aC) (aT (bA (i:=9) nd (nD B rfl (a7 aC (a7 (gS (gS (qv 7) aC) (cL (gT (qv 8) aC) aC)) aA))))) cM)
     (aG (kU 4 (eL (a7 (qv 9) (a7 (qv 7) aA))))
     (aG (pD (i:=5) (qv 9) (bW (b5 (qv 5) (qv 9)) aC))
     (aT (pD (i:=5) (qv 7) (bW (b5 (qv 5) (qv 7)) aC))))))) cM)))))
   (aG (bA (i:=10) nd (b4 d__law_places hr (a7 (qv 0) (a7 (qv 2) (a7 (qv 3) aA)))))
   (aG (fS (i:=11) nd (sP (eU (a7 aC aA)) (qv 2)))
   (aG (i5 7 nd (kW rfl B.range (qv 2))
    (aT (pD (i:=11) (b5 (qv 10) (qv 7)) (cL (b5 (qv 6) (qv 7)) (bW (b5 (qv 5) (qv 7)) aC)))))
   (aG (wM 4 (aI2 (i:=12) nd (N:=["one","other","places"]) (fr:=[none,none,some 10]) (eB (qv 4)) (fun _ _ _ _=>(eL (a7 (sA B rfl (a7 (b5 (qv 2) (qv 0)) (a7 (b5 (qv 2) (qv 1)) aA))) (a7 (nD B rfl (a7 (b5 (qv 2) (qv 0)) (a7 (b5 (qv 2) (qv 1)) aA))) aA))))))
   (aT (bQ (eL (a7 (k8 B (a7 (qv 11) aA)) (a7 (k8 B (a7 (aG9 B (a7 (qv 12) aA)) aA)) aA)))))))))))))))),aS1⟩)
theorem aZ5:FnScope ["web","hearths"] ["web","hearths"] (aZ (b8 14)):=.au
theorem aZ6 (B:Bt mg) (F:FM K mg "made_set" 14 f fd) (d_is_set:Df P w K mg base 3 "is_set" ["web","numbers"] sF) (x_BadSet:Xc K mg base "BadSet"):eV P w K mg base 4 "made_set" ["web","hearths"] sT:=
 eV.au F aZ5 V4 aL5 (fun cdv A outer s H E Ep hr hX=>by
  exact (aG (cK (p7 (lX (b4 d_is_set hr (a7 (qv 0) (a7 (qv 1) aA))))) (aT (xG hX x_BadSet (a7 wH aA))) cM)
   (aT (bQ (k8 B (a7 (qv 1) aA))))))
theorem af3:FnScope ["web","block","around","left","pieces","piece"] ["web","block"] (aZ (b8 19)):=.au
theorem aZ7 (B:Bt mg) (F:FM K mg "cold_pieces" 19 f fd) (d_near_lists:Df P w K mg base 1 "near_lists" ["web"] iH) (d_made_set:eV P w K mg base 4 "made_set" ["web","hearths"] sT) (d_first_piece:Df P w K mg base 2 "first_piece" ["around","hearths"] sW) (d_without:Df P w K mg base 2 "without" ["hearths","some"] nI):eV P w K mg base 5 "cold_pieces" ["web","block"] sY:=
 eV.au F af3 aN0 aN1 (fun cdv A outer s H E Ep hr hX=>by
  have nd:=af3.nd
  exact (aG (bA (i:=2) nd (b4 d_near_lists hr (a7 (qv 0) aA)))
   (aG (bA (i:=3) nd (aK5 hX d_made_set hr (a7 (qv 0) (a7 (qv 1) aA))))
   (aG (fS (i:=4) nd (eU aA))
   (aG (rZ hX.own (rX (qv 3))
    (aG (bA (i:=5) nd (b4 d_first_piece hr (a7 (qv 2) (a7 (qv 3) aA))))
    (aG (kU 4 (qv 5))
    (aT (bA (i:=3) nd (b4 d_without hr (a7 (qv 3) (a7 (qv 5) aA))))))))
   (aT (nC 4)))))))
theorem aZ8:FnScope ["web"] ["web"] (aZ (b8 23)):=.au
theorem aZ9 (B:Bt mg) (F:FM K mg "all_pieces" 23 f fd) (d_cold_pieces:eV P w K mg base 5 "cold_pieces" ["web","block"] sY) (d_all_but:Df P w K mg base 3 "all_but" ["web","some"] sV):Df P w K mg base 6 "all_pieces" ["web"] nQ:=
 Df.au F aZ8 (fun cdv A outer s H E hr=>by
  exact⟨(Y3),(aT (bQ (aK6 d_cold_pieces hr (a7 (qv 0) (a7 (b4 d_all_but hr (a7 (qv 0) (a7 (eL aA) aA))) aA))))),aQ0⟩)
theorem ba0:FnScope ["web"] ["web"] (aZ (b8 22)):=.au
theorem ba1 (B:Bt mg) (F:FM K mg "is_wood" 22 f fd) (d_hearths_in:Df P w K mg base 1 "hearths_in" ["web"] gJ) (d_all_pieces:Df P w K mg base 6 "all_pieces" ["web"] nQ):Df P w K mg base 7 "is_wood" ["web"] tE:=
 Df.au F ba0 (fun cdv A outer s H E hr=>by
  exact⟨(Y7),(aT (bQ (P4 (dC B (a7 (b5 (qv 0) aC) aA)) (gS (b4 d_hearths_in hr (a7 (qv 0) aA)) (dC B (a7 (b4 d_all_pieces hr (a7 (qv 0) aA)) aA)))))),aQ6⟩)
theorem af4:FnScope ["web","around","pairs","turn","hearth"] ["web"] (aZ (b8 24)):=.au
theorem ba2 (B:Bt mg) (F:FM K mg "from_roots" 24 f fd) (d_is_wood:Df P w K mg base 7 "is_wood" ["web"] tE) (d_near_lists:Df P w K mg base 1 "near_lists" ["web"] iH) (d_all_pieces:Df P w K mg base 6 "all_pieces" ["web"] nQ) (d_children_of:Df P w K mg base 1 "children_of" ["around","hearth","elder"] l9):Df P w K mg base 8 "from_roots" ["web"] nS:=
 Df.au F af4 (fun cdv A outer s H E hr=>by
  have nd:=af4.nd
  exact⟨(Z1),(aG (cK (p7 (lX (b4 d_is_wood hr (a7 (qv 0) aA)))) (aT wL) cM)
   (aG (bA (i:=1) nd (b4 d_near_lists hr (a7 (qv 0) aA)))
   (aG (aD1 (i:=2) nd (N:=["piece"]) (fr:=[none]) (eB (b4 d_all_pieces hr (a7 (qv 0) aA))) (fun _ _ _ _=>(eL (a7 (b5 (qv 0) aC) (a7 mZ aA)))))
   (aG (bA (i:=3) nd aC)
   (aG (rZ bp9 (oZ (qv 3) (dC B (a7 (qv 2) aA)))
    (aG (bA (i:=4) nd (b5 (b5 (qv 2) (qv 3)) aC))
    (aG (aD3 2 (pC (N:=["child","hearth"]) (fr:=[none,some 4]) (eB (b4 d_children_of hr (a7 (qv 1) (a7 (qv 4) (a7 (b5 (b5 (qv 2) (qv 3)) aC) aA))))) (fun _ _ _ _=>(eL (a7 (qv 0) (a7 (qv 1) aA))))))
    (aT (bA (i:=3) nd (bW (qv 3) aC))))))
   (aT (nC 2))))))),aQ9⟩)
theorem af5:FnScope ["web","prices","pairs","known","around","ledger","hearth","elder","below"] ["web","prices"] (aZ (b8 27)):=.au
theorem ba3 (B:Bt mg) (F:FM K mg "best_ledger" 27 f fd) (d_from_roots:Df P w K mg base 8 "from_roots" ["web"] nS) (d_made_prices:Df P w K mg base 1 "made_prices" ["prices","many"] nJ) (d_hearths_in:Df P w K mg base 1 "hearths_in" ["web"] gJ) (d_near_lists:Df P w K mg base 1 "near_lists" ["web"] iH) (d_children_of:Df P w K mg base 1 "children_of" ["around","hearth","elder"] l9) (d_most_pair:Df P w K mg base 2 "most_pair" ["want","price","below"] nT) (rv:mg "reversed" = none):Df P w K mg base 9 "best_ledger" ["web","prices"] pU:=
 Df.au F af5 (fun cdv A outer s H E hr=>by
  have nd:=af5.nd
  exact⟨(ab4),(aG (bA (i:=2) nd (b4 d_from_roots hr (a7 (qv 0) aA)))
   (aG (bA (i:=3) nd (b4 d_made_prices hr (a7 (qv 1) (a7 (b4 d_hearths_in hr (a7 (qv 0) aA)) aA))))
   (aG (bA (i:=4) nd (b4 d_near_lists hr (a7 (qv 0) aA)))
   (aG (fS (i:=5) nd (sP (eU (a7 (eL (a7 aC (a7 aC aA))) aA)) (b4 d_hearths_in hr (a7 (qv 0) aA))))
   (aG (Q8 6 7 nd (aO5 rv (qv 2))
    (aG (Q9 (i:=8) nd (N:=["child","ledger"]) (fr:=[none,some 5]) (eB (b4 d_children_of hr (a7 (qv 4) (a7 (qv 6) (a7 (qv 7) aA))))) (fun _ _ _ _=>(b5 (qv 1) (qv 0))))
    (aT (pD (i:=5) (qv 6) (b4 d_most_pair hr (a7 (b5 (b5 (qv 0) aC) (qv 6)) (a7 (b5 (qv 3) (qv 6)) (a7 (qv 8) aA))))))))
   (aT (bQ (k8 B (a7 (qv 5) aA))))))))),aS9⟩)
theorem af6:FnScope ["web","prices","ledger","pairs","known","around","hearth","elder","below"] ["web","prices","ledger"] (aZ (b8 31)):=.au
theorem ba4 (B:Bt mg) (F:FM K mg "judged_ledger" 31 f fd) (d_from_roots:Df P w K mg base 8 "from_roots" ["web"] nS) (d_made_prices:Df P w K mg base 1 "made_prices" ["prices","many"] nJ) (d_hearths_in:Df P w K mg base 1 "hearths_in" ["web"] gJ) (d_near_lists:Df P w K mg base 1 "near_lists" ["web"] iH) (d_children_of:Df P w K mg base 1 "children_of" ["around","hearth","elder"] l9) (d_is_right_pair:Df P w K mg base 1 "is_right_pair" ["told","most"] tL) (d_most_pair:Df P w K mg base 2 "most_pair" ["want","price","below"] nT) (x_NoPaper:Xc K mg base "NoPaper"):eV P w K mg base 9 "judged_ledger" ["web","prices","ledger"] pW:=
 eV.au F af6 yT aU1 (fun cdv A outer s H E Ep hr hX=>by
  have nd:=af6.nd
  exact (aG (bA (i:=3) nd (b4 d_from_roots hr (a7 (qv 0) aA)))
   (aG (bA (i:=4) nd (b4 d_made_prices hr (a7 (qv 1) (a7 (b4 d_hearths_in hr (a7 (qv 0) aA)) aA))))
   (aG (cK (rW (dC B (a7 (qv 2) aA)) (b4 d_hearths_in hr (a7 (qv 0) aA))) (aT (xG hX x_NoPaper (a7 wH aA))) cM)
   (aG (bA (i:=5) nd (b4 d_near_lists hr (a7 (qv 0) aA)))
   (aG (Q8 6 7 (hp:=hX.own) nd (eB (qv 3))
    (aG (Q9 (i:=8) nd (N:=["child","ledger"]) (fr:=[none,some 2]) (eB (b4 d_children_of hr (a7 (qv 5) (a7 (qv 6) (a7 (qv 7) aA))))) (fun _ _ _ _=>(b5 (qv 1) (qv 0))))
    (aT (cK (p7 (lX (b4 d_is_right_pair hr (a7 (b5 (qv 2) (qv 6)) (a7 (b4 d_most_pair hr (a7 (b5 (b5 (qv 0) aC) (qv 6)) (a7 (b5 (qv 4) (qv 6)) (a7 (qv 8) aA)))) aA))))) (aT (xG hX x_NoPaper (a7 wH aA))) cM))))
   (aT (bQ (m6 B rfl (a7 (aI1 (N:=["hearth","elder","ledger"]) (fr:=[none,none,some 2]) (eB (qv 3)) (fun _ _ _ _=>(P5 (qv 1) mZ)) (fun _ _ _ _=>(b5 (b5 (qv 2) (qv 0)) aC))) aA))))))))))
theorem af7:FnScope ["script","web","prices","elders","ledger","spoiled","told_ledger","found","kinds","e","due"] ["script"] (aZ (b8 47)):=.au
theorem ba5 (B:Bt mg) (F:fA K "law" "law" (b8 47) f fd) (d__law_wood:Df P w K mg base 3 "_law_wood" ["script","most"] tH) (d__law_prices:Df P w K mg base 2 "_law_prices" ["script","many"] t6) (d__law_elders:Df P w K mg base 2 "_law_elders" ["web"] tK) (d__law_lessened:Df P w K mg base 2 "_law_lessened" ["ledger","script"] tM) (d_best_ledger:Df P w K mg base 9 "best_ledger" ["web","prices"] pU) (d__law_spoiled:Df P w K mg base 1 "_law_spoiled" ["ledger","cell"] tO) (d__law_mixed:Df P w K mg base 1 "_law_mixed" ["number","k"] gV) (d__law_cell_at:Df P w K mg base 1 "_law_cell_at" ["script","k"] dS) (d_judged_ledger:eV P w K mg base 9 "judged_ledger" ["web","prices","ledger"] pW) (d__law_right:Df P w K mg base 2 "_law_right" ["web","prices","ledger","elders"] tP) (d__law_whole:Df P w K mg base 1 "_law_whole" ["found"] sL) (cat_HearthError:xJ K mg "HearthError") (is_BadPrices:pM K mg "BadPrices") (is_NoPaper:pM K mg "NoPaper") (is_ValueError:xM K mg):cZ P w K mg base dW 10 f fd ["script"] (oS K yY):=
 aH7 F af7 (fun xs Q h=>by unfold yY at h; repeat (first | (obtain ⟨rfl,_⟩:=h; rfl) | (obtain ⟨_,h⟩:=h))) (fun cdv A outer s H E hr=>by
  have nd:=af7.nd
  have hu3:=aV5 hr
  exact⟨(ad4 K),(aG (bA (i:=1) nd (b4 d__law_wood hr (a7 (qv 0) (a7 aC aA))))
   (aG (bA (i:=2) nd (b4 d__law_prices hr (a7 (qv 0) (a7 (dC B (a7 (b5 (qv 1) aC) aA)) aA))))
   (aG (bA (i:=3) nd (b5 (b4 d__law_elders hr (a7 (qv 1) aA)) aC))
   (aG (bA (i:=4) nd (b4 d__law_lessened hr (a7 (b4 d_best_ledger hr (a7 (qv 1) (a7 (qv 2) aA))) (a7 (qv 0) aA))))
   (aG (bA (i:=5) nd (b4 d__law_spoiled hr (a7 (qv 4) (a7 (b4 d__law_mixed hr (a7 (b4 d__law_cell_at hr (a7 (qv 0) (a7 aC aA))) (a7 aC aA))) aA))))
   (aG (i5 6 nd (eB (X0 (a7 (aB8 B (a7 (b4 d_best_ledger hr (a7 (qv 1) (a7 (qv 2) aA))) aA)) (a7 (qv 4) (a7 (k8 B (a7 (qv 4) aA)) (a7 (qv 5) aA))))))
    (aG (bA (i:=7) nd mZ)
    (aG (bA (i:=8) nd mZ)
    (aG (aK9 9 cat_HearthError nd (aP6 7 d_judged_ledger hr nd (fun _=>(a7 (qv 1) (a7 (b5 (X0 (a7 (qv 2) (a7 (k8 B (a7 (qv 2) aA)) aA))) (aO0 B (a7 (aC6 B (qv 6)) aA))) (a7 (qv 6) aA))))) (fun _=>(aT (bA (i:=8) nd (eU (a7 (V0 B is_NoPaper (qv 9)) (a7 (V0 B is_BadPrices (qv 9)) (a7 (aL3 B is_ValueError (qv 9)) aA))))))))
    (aT (cK (lX (b4 d__law_right hr (a7 (qv 1) (a7 (qv 2) (a7 (qv 6) (a7 (qv 3) aA)))))) (aG (bA (i:=10) nd (m6 B rfl (a7 (wQ (N:=["hearth","elders","told_ledger"]) (fr:=[none,some 3,some 6]) (kW rfl B.range (dC B (a7 (qv 3) aA))) (fun _ _ _ _=>(P5 (b5 (qv 1) (qv 0)) mZ)) (fun _ _ _ _=>(b5 (b5 (qv 2) (qv 0)) aC))) aA)))
     (aT (cK (p6 (rY (p7 (lX (b4 d__law_whole hr (a7 (qv 7) aA)))) (wJ (rW (qv 7) (qv 10))))) (aT (bQ gR)) cM))) (aT (cK (aC9 hu3 (qv 8) (eU (a7 gR (a7 gR (a7 gR aA))))) (aT (bQ gR)) cM))))))))
   (aT (bQ gR)))))))),aV4 (x5 K).tt⟩)
end
set_option autoImplicit true in
theorem ba6 {l:OpenLaw}{w:World}{K:Frag}{h:Heap}{mg:Str->Option Value} (X:K.In h) (G:h.Ns mainGlobals mg) (hfa:mg "law" = some (.ref fa))
  (h0:FK K "made_prices" 7 f0 d0)
  (h1:FK K "rises" 9 f1 d1)
  (h2:FK K "hearths_in" 10 f2 d2)
  (h3:FK K "near_lists" 11 f3 d3)
  (h4:FK K "marked" 15 f4 d4)
  (h5:FK K "children_of" 25 f5 d5)
  (h6:FK K "one_less" 29 f6 d6)
  (h7:FK K "most_for" 30 f7 d7)
  (h8:FK K "is_right_pair" 32 f8 d8)
  (h9:FK K "_law_cell_at" 34 f9 d9)
  (h10:FK K "_law_mixed" 35 f10 d10)
  (h11:FK K "_law_whole" 36 f11 d11)
  (h12:FK K "_law_beside" 40 f12 d12)
  (h13:FK K "_law_spoiled" 44 f13 d13)
  (h14:FK K "_law_row_right" 45 f14 d14)
  (h15:FK K "is_hearth" 12 f15 d15)
  (h16:FK K "without" 16 f16 d16)
  (h17:FK K "first_piece" 20 f17 d17)
  (h18:FK K "most_pair" 28 f18 d18)
  (h19:FK K "_law_hearths" 37 f19 d19)
  (h20:FK K "_law_places" 38 f20 d20)
  (h21:FK K "_law_elders" 41 f21 d21)
  (h22:FK K "_law_prices" 42 f22 d22)
  (h23:FK K "_law_lessened" 43 f23 d23)
  (h24:FK K "_law_right" 46 f24 d24)
  (h25:FK K "is_set" 13 f25 d25)
  (h26:FK K "all_but" 17 f26 d26)
  (h27:FK K "_law_wood" 39 f27 d27)
  (h28:FK K "made_set" 14 f28 d28)
  (h29:FK K "cold_pieces" 19 f29 d29)
  (h30:FK K "all_pieces" 23 f30 d30)
  (h31:FK K "is_wood" 22 f31 d31)
  (h32:FK K "from_roots" 24 f32 d32)
  (h33:FK K "best_ledger" 27 f33 d33)
  (h34:FK K "judged_ledger" 31 f34 d34)
  (a35:nsIn K mainGlobals "law" = some (some (.ref f35))) (l35:K.lookup f35=some ⟨oc35,od35,.func (fnOf "law" "law" (jR (b8 47)) (eZ (b8 47)) (aZ (b8 47)) .none kV35 dc35 pm35 an35 cd35 ct35),sl35⟩) (c35:codeIn K cd35 "law" = true) (k35:keepIn K (.ref f35)=true)
  (z_len:nsIn K mainGlobals "len" = some none)
  (z_range:nsIn K mainGlobals "range" = some none)
  (z_tuple:nsIn K mainGlobals "tuple" = some none)
  (z_list:nsIn K mainGlobals "list" = some none)
  (z_sorted:nsIn K mainGlobals "sorted" = some none)
  (z_all:nsIn K mainGlobals "all" = some none)
  (z_any:nsIn K mainGlobals "any" = some none)
  (z_zip:nsIn K mainGlobals "zip" = some none)
  (z_min:nsIn K mainGlobals "min" = some none)
  (z_max:nsIn K mainGlobals "max" = some none)
  (z_sum:nsIn K mainGlobals "sum" = some none)
  (z_isinstance:nsIn K mainGlobals "isinstance" = some none)
  (z_int:nsIn K mainGlobals "int" = some none)
  (z_bool:nsIn K mainGlobals "bool" = some none)
  (z_enumerate:nsIn K mainGlobals "enumerate" = some none)
  (z_reversed:nsIn K mainGlobals "reversed" = some none)
  {C_HearthError C_BadSet C_BadPrices C_NotWood C_NoPaper:Addr}
  (aX_HE:nsIn K mainGlobals "HearthError" = some (some (.ref C_HearthError)))
  (aX_BS:nsIn K mainGlobals "BadSet" = some (some (.ref C_BadSet)))
  (aX_BP:nsIn K mainGlobals "BadPrices" = some (some (.ref C_BadPrices)))
  (aX_NW:nsIn K mainGlobals "NotWood" = some (some (.ref C_NotWood)))
  (aX_NP:nsIn K mainGlobals "NoPaper" = some (some (.ref C_NoPaper)))
  (zX_BW:nsIn K mainGlobals "BadWeb" = some none)
  (zX_BO:nsIn K mainGlobals "BadOrder" = some none)
  (zX_BB:nsIn K mainGlobals "BadBoard" = some none)
  (zX_BD:nsIn K mainGlobals "BadDeed" = some none)
  (zX_NS:nsIn K mainGlobals "NoSuch" = some none)
  (zX_TM:nsIn K mainGlobals "TooMany" = some none)
  (zX_NT:nsIn K mainGlobals "NoText" = some none)
  (zX_OR:nsIn K mainGlobals "OddRound" = some none)
  (y_fg:specialIn K (.builtin "object.__class__") "__get__" = some (some (.builtin "getset_descriptor.__get__")))
  (y_ft:takesIn K (.builtin "object.__class__")=some true)
  (z_VE:nsIn K mainGlobals "ValueError" = some none)
  (y1_HE:isClsIn K C_HearthError=true)
  (y2_HE:typeIn K (.ref C_HearthError)=some (.type "type"))
  (y3_HE:findIn K (.ref C_HearthError) "__getattribute__" = some (some (.builtin "BaseException.__getattribute__")))
  (y4_HE:findIn K (.ref C_HearthError) "__getattr__" = some none)
  (y5_HE:findIn K (.ref C_HearthError) "__class__" = some (some (.builtin "object.__class__")))
  (y6_HE:mroIn K C_HearthError (.type "object")=some true)
  (y7_HE:mroIn K C_HearthError (.type "BaseException")=some true)
  (y1_BS:isClsIn K C_BadSet=true)
  (y2_BS:typeIn K (.ref C_BadSet)=some (.type "type"))
  (y3_BS:findIn K (.ref C_BadSet) "__getattribute__" = some (some (.builtin "BaseException.__getattribute__")))
  (y4_BS:findIn K (.ref C_BadSet) "__getattr__" = some none)
  (y5_BS:findIn K (.ref C_BadSet) "__class__" = some (some (.builtin "object.__class__")))
  (y6_BS:mroIn K C_BadSet (.type "object")=some true)
  (y7_BS:mroIn K C_BadSet (.type "BaseException")=some true)
  (y1_BP:isClsIn K C_BadPrices=true)
  (y2_BP:typeIn K (.ref C_BadPrices)=some (.type "type"))
  (y3_BP:findIn K (.ref C_BadPrices) "__getattribute__" = some (some (.builtin "BaseException.__getattribute__")))
  (y4_BP:findIn K (.ref C_BadPrices) "__getattr__" = some none)
  (y5_BP:findIn K (.ref C_BadPrices) "__class__" = some (some (.builtin "object.__class__")))
  (y6_BP:mroIn K C_BadPrices (.type "object")=some true)
  (y7_BP:mroIn K C_BadPrices (.type "BaseException")=some true)
  (y1_NW:isClsIn K C_NotWood=true)
  (y2_NW:typeIn K (.ref C_NotWood)=some (.type "type"))
  (y3_NW:findIn K (.ref C_NotWood) "__getattribute__" = some (some (.builtin "BaseException.__getattribute__")))
  (y4_NW:findIn K (.ref C_NotWood) "__getattr__" = some none)
  (y5_NW:findIn K (.ref C_NotWood) "__class__" = some (some (.builtin "object.__class__")))
  (y6_NW:mroIn K C_NotWood (.type "object")=some true)
  (y7_NW:mroIn K C_NotWood (.type "BaseException")=some true)
  (y1_NP:isClsIn K C_NoPaper=true)
  (y2_NP:typeIn K (.ref C_NoPaper)=some (.type "type"))
  (y3_NP:findIn K (.ref C_NoPaper) "__getattribute__" = some (some (.builtin "BaseException.__getattribute__")))
  (y4_NP:findIn K (.ref C_NoPaper) "__getattr__" = some none)
  (y5_NP:findIn K (.ref C_NoPaper) "__class__" = some (some (.builtin "object.__class__")))
  (y6_NP:mroIn K C_NoPaper (.type "object")=some true)
  (y7_NP:mroIn K C_NoPaper (.type "BaseException")=some true)
  (sB_HE:subIn K (.ref C_HearthError) (.type "BaseException")=some true)
  (s_BS_HE:subIn K (.ref C_BadSet) (.ref C_HearthError)=some true)
  (s_BP_HE:subIn K (.ref C_BadPrices) (.ref C_HearthError)=some true)
  (s_NW_HE:subIn K (.ref C_NotWood) (.ref C_HearthError)=some true)
  (s_NP_HE:subIn K (.ref C_NoPaper) (.ref C_HearthError)=some true)
  (sN_BP:subIn K (.type "NoneType") (.ref C_BadPrices)=some false)
  (s_BS_BP:subIn K (.ref C_BadSet) (.ref C_BadPrices)=some false)
  (n_BS_BP:(C_BadSet == C_BadPrices)=false)
  (s_NW_BP:subIn K (.ref C_NotWood) (.ref C_BadPrices)=some false)
  (n_NW_BP:(C_NotWood == C_BadPrices)=false)
  (s_NP_BP:subIn K (.ref C_NoPaper) (.ref C_BadPrices)=some false)
  (n_NP_BP:(C_NoPaper == C_BadPrices)=false)
  (sN_NP:subIn K (.type "NoneType") (.ref C_NoPaper)=some false)
  (s_BS_NP:subIn K (.ref C_BadSet) (.ref C_NoPaper)=some false)
  (n_BS_NP:(C_BadSet == C_NoPaper)=false)
  (s_BP_NP:subIn K (.ref C_BadPrices) (.ref C_NoPaper)=some false)
  (n_BP_NP:(C_BadPrices == C_NoPaper)=false)
  (s_NW_NP:subIn K (.ref C_NotWood) (.ref C_NoPaper)=some false)
  (n_NW_NP:(C_NotWood == C_NoPaper)=false)
  (sV_BS:subIn K (.ref C_BadSet) (.type "ValueError")=some true)
  (sV_BP:subIn K (.ref C_BadPrices) (.type "ValueError")=some true)
  (sV_NW:subIn K (.ref C_NotWood) (.type "ValueError")=some true)
  (sV_NP:subIn K (.ref C_NoPaper) (.type "ValueError")=some true)
  (q_BS:excIn K C_BadSet [.type "ValueError",.type "Exception",.type "BaseException",.type "object"] "ValueError.__new__" = true)
  (q_NP:excIn K C_NoPaper [.type "ValueError",.type "Exception",.type "BaseException",.type "object"] "ValueError.__new__" = true)
  : ∃ fd:FuncData,(∀ (s:Shared) (v:Value),BindsTo s fd ⟨[v],[]⟩ [("script",v)])/\∀ base:Heap,K.In base->base.Ns mainGlobals mg->cZ l.prog w K mg base dW 10 fa fd ["script"] (sO K):=by
 have e:=hfa.symm.trans (mg_of X G a35)
 cases e
 have F35:=ar1 (st:=b8 47) l35 c35 k35
 have m35:=mg_of X G a35
 have B:Bt mg:=⟨mg_none_of X G z_len,mg_none_of X G z_range,mg_none_of X G z_tuple,mg_none_of X G z_list,mg_none_of X G z_sorted,mg_none_of X G z_all,mg_none_of X G z_any,mg_none_of X G z_zip,mg_none_of X G z_min,mg_none_of X G z_max,mg_none_of X G z_sum,mg_none_of X G z_isinstance,mg_none_of X G z_int,mg_none_of X G z_bool,mg_none_of X G z_enumerate⟩
 have rv:=mg_none_of X G z_reversed
 refine⟨fnOf "law" "law" (jR (b8 47)) (eZ (b8 47)) (aZ (b8 47)) .none kV35 dc35 pm35 an35 cd35 ct35,fun s v=>.of_eq rfl,fun base KB _=>?_⟩
 have XK_HearthError:kC K C_HearthError:=⟨y1_HE,y2_HE,y3_HE,y4_HE,y5_HE,y_fg,y_ft,y6_HE,y7_HE⟩
 have XK_BadSet:kC K C_BadSet:=⟨y1_BS,y2_BS,y3_BS,y4_BS,y5_BS,y_fg,y_ft,y6_BS,y7_BS⟩
 have XK_BadPrices:kC K C_BadPrices:=⟨y1_BP,y2_BP,y3_BP,y4_BP,y5_BP,y_fg,y_ft,y6_BP,y7_BP⟩
 have XK_NotWood:kC K C_NotWood:=⟨y1_NW,y2_NW,y3_NW,y4_NW,y5_NW,y_fg,y_ft,y6_NW,y7_NW⟩
 have XK_NoPaper:kC K C_NoPaper:=⟨y1_NP,y2_NP,y3_NP,y4_NP,y5_NP,y_fg,y_ft,y6_NP,y7_NP⟩
 have cat_HearthError:xJ K mg "HearthError":=⟨C_HearthError,mg_of X G aX_HE,⟨y1_HE,y2_HE,sB_HE⟩,fun n C h2 h1=>by
  obtain ⟨hm,hb⟩:=sR h2
  simp only [nM,bd0,bf1,bj8] at hm
  rcases hm with rfl | rfl | rfl | rfl | rfl | rfl | rfl | rfl | rfl | rfl | rfl | rfl
  ·rw [zX_BW] at h1; cases h1
  ·rw [aX_BS] at h1; cases h1; exact s_BS_HE
  ·rw [zX_BO] at h1; cases h1
  ·rw [aX_BP] at h1; cases h1; exact s_BP_HE
  ·rw [zX_BB] at h1; cases h1
  ·rw [zX_BD] at h1; cases h1
  ·rw [aX_NW] at h1; cases h1; exact s_NW_HE
  ·rw [aX_NP] at h1; cases h1; exact s_NP_HE
  ·rw [zX_NS] at h1; cases h1
  ·rw [zX_TM] at h1; cases h1
  ·rw [zX_NT] at h1; cases h1
  ·rw [zX_OR] at h1; cases h1⟩
 have is_BadPrices:pM K mg "BadPrices":=⟨C_BadPrices,mg_of X G aX_BP,fun z=>(by cases z),(fun n C b h1 h2=>by
  obtain ⟨hm,hb⟩:=sR h2
  simp only [nM,bd0,bf1,bj8] at hm
  rcases hm with rfl | rfl | rfl | rfl | rfl | rfl | rfl | rfl | rfl | rfl | rfl | rfl
  ·rw [zX_BW] at h1; cases h1
  ·rw [aX_BS] at h1; cases h1; rw [hb,show (("BadSet" : Str) == "BadPrices" || ("BadPrices" : Str) == "HearthError" || ("BadPrices" : Str) == "ValueError")=false by decide]; exact⟨XK_BadSet.exc,nN XK_BadPrices n_BS_BP s_BS_BP⟩
  ·rw [zX_BO] at h1; cases h1
  ·rw [aX_BP] at h1; cases h1; rw [hb,show (("BadPrices" : Str) == "BadPrices" || ("BadPrices" : Str) == "HearthError" || ("BadPrices" : Str) == "ValueError")=true by decide]; exact⟨XK_BadPrices.exc,V2⟩
  ·rw [zX_BB] at h1; cases h1
  ·rw [zX_BD] at h1; cases h1
  ·rw [aX_NW] at h1; cases h1; rw [hb,show (("NotWood" : Str) == "BadPrices" || ("BadPrices" : Str) == "HearthError" || ("BadPrices" : Str) == "ValueError")=false by decide]; exact⟨XK_NotWood.exc,nN XK_BadPrices n_NW_BP s_NW_BP⟩
  ·rw [aX_NP] at h1; cases h1; rw [hb,show (("NoPaper" : Str) == "BadPrices" || ("BadPrices" : Str) == "HearthError" || ("BadPrices" : Str) == "ValueError")=false by decide]; exact⟨XK_NoPaper.exc,nN XK_BadPrices n_NP_BP s_NP_BP⟩
  ·rw [zX_NS] at h1; cases h1
  ·rw [zX_TM] at h1; cases h1
  ·rw [zX_NT] at h1; cases h1
  ·rw [zX_OR] at h1; cases h1),V3 XK_BadPrices sN_BP⟩
 have is_NoPaper:pM K mg "NoPaper":=⟨C_NoPaper,mg_of X G aX_NP,fun z=>(by cases z),(fun n C b h1 h2=>by
  obtain ⟨hm,hb⟩:=sR h2
  simp only [nM,bd0,bf1,bj8] at hm
  rcases hm with rfl | rfl | rfl | rfl | rfl | rfl | rfl | rfl | rfl | rfl | rfl | rfl
  ·rw [zX_BW] at h1; cases h1
  ·rw [aX_BS] at h1; cases h1; rw [hb,show (("BadSet" : Str) == "NoPaper" || ("NoPaper" : Str) == "HearthError" || ("NoPaper" : Str) == "ValueError")=false by decide]; exact⟨XK_BadSet.exc,nN XK_NoPaper n_BS_NP s_BS_NP⟩
  ·rw [zX_BO] at h1; cases h1
  ·rw [aX_BP] at h1; cases h1; rw [hb,show (("BadPrices" : Str) == "NoPaper" || ("NoPaper" : Str) == "HearthError" || ("NoPaper" : Str) == "ValueError")=false by decide]; exact⟨XK_BadPrices.exc,nN XK_NoPaper n_BP_NP s_BP_NP⟩
  ·rw [zX_BB] at h1; cases h1
  ·rw [zX_BD] at h1; cases h1
  ·rw [aX_NW] at h1; cases h1; rw [hb,show (("NotWood" : Str) == "NoPaper" || ("NoPaper" : Str) == "HearthError" || ("NoPaper" : Str) == "ValueError")=false by decide]; exact⟨XK_NotWood.exc,nN XK_NoPaper n_NW_NP s_NW_NP⟩
  ·rw [aX_NP] at h1; cases h1; rw [hb,show (("NoPaper" : Str) == "NoPaper" || ("NoPaper" : Str) == "HearthError" || ("NoPaper" : Str) == "ValueError")=true by decide]; exact⟨XK_NoPaper.exc,V2⟩
  ·rw [zX_NS] at h1; cases h1
  ·rw [zX_TM] at h1; cases h1
  ·rw [zX_NT] at h1; cases h1
  ·rw [zX_OR] at h1; cases h1),V3 XK_NoPaper sN_NP⟩
 have is_ValueError:xM K mg:=⟨mg_none_of X G z_VE,fun z=>(by cases z),(fun n C b h1 h2=>by
  obtain ⟨hm,hb⟩:=sR h2
  simp only [nM,bd0,bf1,bj8] at hm
  rcases hm with rfl | rfl | rfl | rfl | rfl | rfl | rfl | rfl | rfl | rfl | rfl | rfl
  ·rw [zX_BW] at h1; cases h1
  ·rw [aX_BS] at h1; cases h1; rw [hb,show (("BadSet" : Str) == "ValueError" || ("ValueError" : Str) == "HearthError" || ("ValueError" : Str) == "ValueError")=true by decide]; exact⟨XK_BadSet.exc,sS sV_BS⟩
  ·rw [zX_BO] at h1; cases h1
  ·rw [aX_BP] at h1; cases h1; rw [hb,show (("BadPrices" : Str) == "ValueError" || ("ValueError" : Str) == "HearthError" || ("ValueError" : Str) == "ValueError")=true by decide]; exact⟨XK_BadPrices.exc,sS sV_BP⟩
  ·rw [zX_BB] at h1; cases h1
  ·rw [zX_BD] at h1; cases h1
  ·rw [aX_NW] at h1; cases h1; rw [hb,show (("NotWood" : Str) == "ValueError" || ("ValueError" : Str) == "HearthError" || ("ValueError" : Str) == "ValueError")=true by decide]; exact⟨XK_NotWood.exc,sS sV_NW⟩
  ·rw [aX_NP] at h1; cases h1; rw [hb,show (("NoPaper" : Str) == "ValueError" || ("ValueError" : Str) == "HearthError" || ("ValueError" : Str) == "ValueError")=true by decide]; exact⟨XK_NoPaper.exc,sS sV_NP⟩
  ·rw [zX_NS] at h1; cases h1
  ·rw [zX_TM] at h1; cases h1
  ·rw [zX_NT] at h1; cases h1
  ·rw [zX_OR] at h1; cases h1),aL4⟩
 have x_BadSet:Xc K mg base "BadSet":=⟨C_BadSet,_,_,_,_,V1 KB (mg_of X G aX_BS) q_BS,PySem.F.excBase_ValueError,aX_BS⟩
 have x_NoPaper:Xc K mg base "NoPaper":=⟨C_NoPaper,_,_,_,_,V1 KB (mg_of X G aX_NP) q_NP,PySem.F.excBase_ValueError,aX_NP⟩
 have D0:=aW0 (P:=l.prog) (w:=w) (base:=base) B (h0.M X G)
 have D1:=aH0 (aV6 (P:=l.prog) (w:=w) (base:=base) B h1.F) (h1.F.binds (ps:=["things"]) fun _ _ _ _ _ _ us hl=>by obtain ⟨_,rfl⟩:=nO hl; rfl) h1.F.kp (mg_of X G h1.a)
 have D2:=aW2 (P:=l.prog) (w:=w) (base:=base) B (h2.M X G)
 have D3:=aH1 (aV7 (P:=l.prog) (w:=w) (mg:=mg) (base:=base) h3.F) (h3.F.binds (ps:=["web"]) fun _ _ _ _ _ _ us hl=>by obtain ⟨_,rfl⟩:=nO hl; rfl) h3.F.kp (mg_of X G h3.a)
 have D4:=aW3 (P:=l.prog) (w:=w) (base:=base) B (h4.M X G)
 have D5:=aW5 (P:=l.prog) (w:=w) (base:=base) B (h5.M X G)
 have D6:=aW7 (P:=l.prog) (w:=w) (base:=base) B (h6.M X G)
 have D7:=aW8 (P:=l.prog) (w:=w) (base:=base) B (h7.M X G)
 have D8:=aX0 (P:=l.prog) (w:=w) (base:=base) B (h8.M X G)
 have D9:=aX2 (P:=l.prog) (w:=w) (base:=base) B (h9.M X G)
 have D10:=aX3 (P:=l.prog) (w:=w) (base:=base) B (h10.M X G)
 have D11:=aX5 (P:=l.prog) (w:=w) (base:=base) B (h11.M X G)
 have D12:=aN7 (aV8 (P:=l.prog) (w:=w) (mg:=mg) (base:=base) h12.F) (h12.F.binds (ps:=["web"]) fun _ _ _ _ _ _ us hl=>by obtain ⟨_,rfl⟩:=nO hl; rfl) h12.F.kp (mg_of X G h12.a)
 have D13:=aX6 (P:=l.prog) (w:=w) (base:=base) B (h13.M X G)
 have D14:=aX7 (P:=l.prog) (w:=w) (base:=base) B (h14.M X G)
 have D15:=aX9 (P:=l.prog) (w:=w) (base:=base) B (h15.M X G) D2
 have D16:=aY0 (P:=l.prog) (w:=w) (base:=base) B (h16.M X G) D4
 have D17:=aY1 (P:=l.prog) (w:=w) (base:=base) B (h17.M X G) D4
 have D18:=aY3 (P:=l.prog) (w:=w) (base:=base) B (h18.M X G) D7 D6
 have D19:=aY4 (P:=l.prog) (w:=w) (base:=base) B (h19.M X G) D9
 have D20:=aY5 (P:=l.prog) (w:=w) (base:=base) B (h20.M X G) D9 D10
 have D21:=aY6 (P:=l.prog) (w:=w) (base:=base) B (h21.M X G) D12
 have D22:=aY7 (P:=l.prog) (w:=w) (base:=base) B (h22.M X G) D10 D9
 have D23:=aY8 (P:=l.prog) (w:=w) (base:=base) B (h23.M X G) D10 D9
 have D24:=aY9 (P:=l.prog) (w:=w) (base:=base) B (h24.M X G) D14
 have D25:=aZ1 (P:=l.prog) (w:=w) (base:=base) B (h25.M X G) D1 D15
 have D26:=aZ3 (P:=l.prog) (w:=w) (base:=base) B (h26.M X G) D16 D2
 have D27:=aZ4 (P:=l.prog) (w:=w) (base:=base) B (h27.M X G) D19 D9 D10 D20
 have D28:=aZ6 (P:=l.prog) (w:=w) (base:=base) B (h28.M X G) D25 x_BadSet
 have D29:=aZ7 (P:=l.prog) (w:=w) (base:=base) B (h29.M X G) D3 D28 D17 D16
 have D30:=aZ9 (P:=l.prog) (w:=w) (base:=base) B (h30.M X G) D29 D26
 have D31:=ba1 (P:=l.prog) (w:=w) (base:=base) B (h31.M X G) D2 D30
 have D32:=ba2 (P:=l.prog) (w:=w) (base:=base) B (h32.M X G) D31 D3 D30 D5
 have D33:=ba3 (P:=l.prog) (w:=w) (base:=base) B (h33.M X G) D32 D0 D2 D3 D5 D18 rv
 have D34:=ba4 (P:=l.prog) (w:=w) (base:=base) B (h34.M X G) D32 D0 D2 D3 D5 D8 D18 x_NoPaper
 exact aH8 (ba5 B F35 D27 D22 D21 D23 D33 D13 D10 D9 D34 D24 D11 cat_HearthError is_BadPrices is_NoPaper is_ValueError)
theorem ba7 {l:OpenLaw}{q:Program}{loose:List Str}{XP:(Str->Option Value)->Heap->Prop}{YP:World->Heap->Prop}{d:DefRec}{K:Params->Frag} (hn:l.most=some 63) (hdf:d.params.defaults = [])
  (hY:∀ (w:World) (h:Heap),YP w h->(K w.params).In h)
  (F:∀ (w:World) (mg:Str->Option Value) (fa:Addr) (h:Heap),(K w.params).In h->h.Ns mainGlobals mg->mg d.name=some (.ref fa)->
   ∃ fd:FuncData,(∀ (s:Shared) (u:Value),BindsTo s fd ⟨[u],[]⟩ [("script",u)])/\∀ base:Heap,(K w.params).In base->base.Ns mainGlobals mg->cZ l.prog w (K w.params) mg base dW 10 fa fd ["script"] (sO (K w.params))) :
  WalkO q loose XP YP l.row.toRowW d [] (fun f vs=>PySem.call f vs):=
 L2.aq9 (n:=63) (k:=10) (x:="script") (CX:=fun _=>dW) (sp:=fun w=>sO (K w.params)) hn (by decide) hdf ⟨rfl,by decide,by decide⟩ hY F (fun _ _ a ns hl hO hS=>⟨a,ns,rfl,aH9 hO hS,hl,fun _=>rfl⟩) fun _ _ _ _ _ z=>z
end K_k56
open PySem PySem.W PyProof.Rows
theorem PySem.W.Fast.te13052408679150730464 : True := trivial
theorem PySem.W.Fast.te16555476440528808052 : True := trivial
theorem PySem.W.Fast.te5369427470323729400 : True := trivial
set_option maxRecDepth 100000 in
set_option maxHeartbeats 0 in
theorem PySem.Challenge.cw_kindleweb_k56_ledgers_judged_holds : PySem.Challenge.rw_kindleweb_k56_ledgers_judged.Holds := by
 w_on; o_law; k_head; (case hw => w_witness2)
 k_fill
 refine K_k56.ba7 (l := PySem.Challenge.rw_kindleweb_k56_ledgers_judged) rfl rfl (fun w h Y => PySem.W.kIn_of Y) ?F
 case F =>
  intro w mg fa h KX G hmg
  refine' K_k56.ba6 KX G hmg ?h0 ?h1 ?h2 ?h3 ?h4 ?h5 ?h6 ?h7 ?h8 ?h9 ?h10 ?h11 ?h12 ?h13 ?h14 ?h15 ?h16 ?h17 ?h18 ?h19 ?h20 ?h21 ?h22 ?h23 ?h24 ?h25 ?h26 ?h27 ?h28 ?h29 ?h30 ?h31 ?h32 ?h33 ?h34 ?a35 ?l35 ?c35 ?k35 ?z_len ?z_range ?z_tuple ?z_list ?z_sorted ?z_all ?z_any ?z_zip ?z_min ?z_max ?z_sum ?z_isinstance ?z_int ?z_bool ?z_enumerate ?z_reversed ?aX_HE ?aX_BS ?aX_BP ?aX_NW ?aX_NP ?zX_BW ?zX_BO ?zX_BB ?zX_BD ?zX_NS ?zX_TM ?zX_NT ?zX_OR ?y_fg ?y_ft ?z_VE ?y1_HE ?y2_HE ?y3_HE ?y4_HE ?y5_HE ?y6_HE ?y7_HE ?y1_BS ?y2_BS ?y3_BS ?y4_BS ?y5_BS ?y6_BS ?y7_BS ?y1_BP ?y2_BP ?y3_BP ?y4_BP ?y5_BP ?y6_BP ?y7_BP ?y1_NW ?y2_NW ?y3_NW ?y4_NW ?y5_NW ?y6_NW ?y7_NW ?y1_NP ?y2_NP ?y3_NP ?y4_NP ?y5_NP ?y6_NP ?y7_NP ?sB_HE ?s_BS_HE ?s_BP_HE ?s_NW_HE ?s_NP_HE ?sN_BP ?s_BS_BP ?n_BS_BP ?s_NW_BP ?n_NW_BP ?s_NP_BP ?n_NP_BP ?sN_NP ?s_BS_NP ?n_BS_NP ?s_BP_NP ?n_BP_NP ?s_NW_NP ?n_NW_NP ?sV_BS ?sV_BP ?sV_NW ?sV_NP ?q_BS ?q_NP
  (case h0 | h1 | h2 | h3 | h4 | h5 | h6 | h7 | h8 | h9 | h10 | h11 | h12 | h13 | h14 | h15 | h16 | h17 | h18 | h19 | h20 | h21 | h22 | h23 | h24 | h25 | h26 | h27 | h28 | h29 | h30 | h31 | h32 | h33 | h34 => exact ⟨by k_is, ⟨⟨_, _, _, _, _, _, _, _, _, rfl, by k_is, by k_is⟩, by k_is⟩⟩)
  (case a35|l35|c35|k35|z_len|z_range|z_tuple|z_list|z_sorted|z_all|z_any|z_zip|z_min|z_max|z_sum|z_isinstance|z_int|z_bool|z_enumerate|z_reversed|aX_HE|aX_BS|aX_BP|aX_NW|aX_NP|zX_BW|zX_BO|zX_BB|zX_BD|zX_NS|zX_TM|zX_NT|zX_OR|y_fg|y_ft|z_VE|y1_HE|y2_HE|y3_HE|y4_HE|y5_HE|y6_HE|y7_HE|y1_BS|y2_BS|y3_BS|y4_BS|y5_BS|y6_BS|y7_BS|y1_BP|y2_BP|y3_BP|y4_BP|y5_BP|y6_BP|y7_BP|y1_NW|y2_NW|y3_NW|y4_NW|y5_NW|y6_NW|y7_NW|y1_NP|y2_NP|y3_NP|y4_NP|y5_NP|y6_NP|y7_NP|sB_HE|s_BS_HE|s_BP_HE|s_NW_HE|s_NP_HE|sN_BP|s_BS_BP => k_is)
  (case n_BS_BP => decide)
  (case s_NW_BP => k_is)
  (case n_NW_BP => decide)
  (case s_NP_BP => k_is)
  (case n_NP_BP => decide)
  (case sN_NP|s_BS_NP => k_is)
  (case n_BS_NP => decide)
  (case s_BP_NP => k_is)
  (case n_BP_NP => decide)
  (case s_NW_NP => k_is)
  (case n_NW_NP => decide)
  (case sV_BS|sV_BP|sV_NW|sV_NP => k_is)
  (case q_BS|q_NP => k_exc)


