import PyProof.Rows.All
import Wide.All
import OpenK.AllK
import Wide.FinOn
import Lean
import PyProof.EqAt
import PyProof.EqKinds
import PyProof.TupleCall
import PyProof.NeKinds
import PyProof.Draws
import PyProof.ZipIter
import PyProof.DictUpdate
import PyProof.AutoSeq1
import PyProof.ListRange
import PyProof.ListMulRoad
import PyProof.FactsAll.tuple_2
import PyProof.Rows.SortShell
import PyProof.EnumFor
import PyProof.EnumMake
import PyProof.EnumStmt
import PyProof.Rows.SortWalk
import KE.KDictList
import PyProof.SumAny
import PyProof.ConsumeWalk
import PyProof.WalksMore
import PyProof.Rows.TupAssign
import PyProof.ExcArgsOwn
import PySem.Challenge.RW_kindleweb_k14_whole_rest_webs_burn
set_option Elab.async false
set_option linter.all false
set_option maxRecDepth 100000
set_option maxHeartbeats 4000000
section
open PySem PySem.Spec PyProof.Rows
def ba9:=@wpAny_bind
def bb1:=@Heap.get?_push_of_some
def bb2:=@List.getElem?_eq_getElem
def bb3:=@wpAny_pure
def bb4:=@List.length_map
def bb5:=@List.size_toArray
def bb6:=@Nat.le_refl
def bb7:=@decide_eq_false
def bb8:=@List.mem_cons
def bb9:=@Heap.get?_push_size
def bc0:=@List.getD_eq_getElem?_getD
def bc1:=@List.mem_singleton
def bc2:=@List.mem_cons_self
def bc3:=@List.mem_cons_of_mem
def bc4:=@List.length_append
def bc5:=@List.getElem?_eq_some_iff
def bc6:=@List.getElem?_map
def bc7:=@Heap.lt_size
def bc8:=@wpS_bind
def bc9:=@decide_eq_true
def bd0:=@Nat.lt_of_lt_of_le
def bd1:=@List.mem_map
def bd2:=@wpS_pure
def bd3:=@List.not_mem_nil
def bd4:=@Bool.false_ne_true
def bd5:=@Bool.false_eq_true
def bd6:=@List.append_assoc
def bd7:=@List.map_append
def bd9:=@Array.length_toList
def be0:=@Option.some.inj
def be1:=@List.mem_append
def be3:=@Nat.ne_of_lt
def be4:=@List.length_cons
def be5:=@wpAny_call_entry
def be6:=@List.getElem?_set_ne
def be8:=@wpAny_newObj_type
def be9:=@List.take_append_drop
def bf0:=@Bool.and_eq_true
def bf1:=@Nat.zero_le
def bf2:=@List.pairwise_iff_getElem
def bf3:=@wpAny_callSpecial?_slot
def bf4:=@List.map_cons
def bf5:=@decide_eq_true_eq
def bf6:=@Nat.le_trans
def bf7:=@List.mem_append_right
def bf8:=@List.append_nil
def bf9:=@List.pairwise_append
def bg0:=@Nat.lt_irrefl
def bg1:=@List.pairwise_singleton
def bg2:=@Array.getElem?_eq_getElem
def bg3:=@Array.getElem?_toList
def bg4:=@List.pairwise_map
def bg6:=@Nat.le_of_lt
def bg9:=@List.mem_of_getElem?
def bh0:=@List.getElem_mem
def bh1:=@Array.getElem_mem
def bh2:=@Nat.lt_or_ge
def bh3:=@Int.emod_lt_of_pos
def bh4:=@PySem.mem_of_lookup
def bh5:=@if_false
def bh6:=@Heap.SameBut.update
def bh8:=@List.take_of_length_le
def bi0:=@or_false
def bi1:=@Int.toNat_natCast
def bi2:=@Nat.ne_of_gt
def bi3:=@Heap.get?_update_self
def bi4:=@wpAny_field
def bi5:=@List.getElem?_cons_succ
def bi7:=@List.lookup_cons
def bi8:=@of_decide_eq_true
def bi9:=@List.take_add_one
def bj0:=@wpAny_setField_rec
def bj1:=@List.replicate_succ
def bj2:=@List.getElem_of_mem
def bj3:=@Array.toList_append
def bj5:=@Int.emod_nonneg
def bj6:=@wpAny_mono
def bj8:=@List.take_length
def bj9:=@wpAny_holding
def bk0:=@List.getElem?_set_self
def bk1:=@wpS_forRange
def bk2:=@List.length_set
def bk4:=@List.length_take
def bk5:=@beq_self_eq_true
def bk7:=@List.length_singleton
def bk8:=@PyProof.Rows.callWith_type1
def bk9:=@List.length_range
def bl0:=@List.nodup_append
def bl3:=@Heap.size_push
def bl4:=@List.mem_filter
def bl5:=@Bool.eq_iff_iff
def bl8:=@List.drop_eq_getElem_cons
def bl9:=@List.flatten_cons
def bm1:=@List.find?_cons
def bm3:=@List.length_drop
def bm4:=@List.all_eq_true
def bm5:=@decide_eq_false_iff_not
def bm6:=@Array.getD_eq_getD_getElem?
def bm7:=@Heap.get?_update_other
def bm8:=@wpAny_setField
def bm9:=@Array.getElem?_eq_none
def bn0:=@List.map_map
def bn2:=@PyProof.Rows.slot_tuple_getitem
def bn3:=@List.getElem?_append_left
def bn4:=@Calls.call_function_entry
def bn5:=@List.length_filter_le
def bn6:=@wpAny_pyIter_tuple
def bn7:=@wpAny_rule
def bn8:=@Nat.le_add_right
def bo0:=@wpAny_attempt
def bo1:=@PyProof.Rows.boot_sorted
def bo3:=@List.mem_range
def bo4:=@List.mem_append_left
def bo5:=@List.Perm.refl
def bo6:=@Bool.eq_false_iff
def bo7:=@PySem.F.plainAttrs_list
def bo8:=@List.filter_cons_of_pos
def bp0:=@beq_eq_false_iff_ne
def bp2:=@List.all_cons
def bp3:=@Int.le_refl
def bp4:=@Nat.le_of_not_lt
def bp5:=@wpAny_isInstance
def bp6:=@List.getElem?_append_right
def bp7:=@List.zip_cons_cons
def bp8:=@of_decide_eq_false
def bp9:=@wpAny_seqItems
def bq0:=@Nat.eq_or_lt_of_le
def bq2:=@wpAny_passesOwn
def bq3:=@List.nodup_cons
def bq5:=@wpAny_truthy_bool
def bq7:=@Nat.le_succ
def bq8:=@wpS_mono
def bq9:=@wpAny_setState_of
def br1:=@wpAny_newList
def br5:=@List.drop_take
end
namespace L2
open PySem PySem.Spec PyProof.Rows
abbrev aA:=Sum Int Str
def kX:aA->Value->Bool
 | .inl k,v=>Value.isInt k v
 | .inr x,v=>Value.isStrOf x v
def ac9 (w:World):aA->Int
 | .inl k=>hashInt k
 | .inr x=>hashStr w x
theorem i5:∀ {k:aA}{v:Value},kX k v=true->(∃ i t,k=Sum.inl i/\v=Value.int i t) ∨ (∃ x t,k=Sum.inr x/\v=Value.str x t)
 | .inl i,v,h=>by
  obtain ⟨t,e⟩:=Value.isInt_shape (k:=i) (v:=v) h
  exact .inl ⟨i,t,rfl,e⟩
 | .inr x,v,h=>by
  obtain ⟨t,e⟩:=Value.isStrOf_shape (x:=x) (v:=v) h
  exact .inr ⟨x,t,rfl,e⟩
theorem ad0 (i:Int) (t:Tok):kX (.inl i) (.int i t)=true:=by simp [kX,Value.isInt]
theorem ad1 (x:Str) (t:Tok):kX (.inr x) (.str x t)=true:=by simp [kX,Value.isStrOf]
theorem ad2 (a b:Int):decide ((Sum.inl a:aA)=Sum.inl b)=(a == b):=by
 by_cases e:a=b
 ·subst e; simp
 ·have h : ¬ (Sum.inl a:aA)=Sum.inl b:=fun q=>e (Sum.inl.inj q)
  rw [bb7 h]
  exact (bp0.mpr e).symm
theorem ad3 (a b:Str):decide ((Sum.inr a:aA)=Sum.inr b)=decide (a=b):=by
 by_cases e:a=b
 ·subst e; simp
 ·have h : ¬ (Sum.inr a:aA)=Sum.inr b:=fun q=>e (Sum.inr.inj q)
  rw [bb7 h,bb7 e]
theorem ad4 (a:Int) (b:Str):decide ((Sum.inl a:aA)=Sum.inr b)=false:=bb7 (fun q=>nomatch q)
theorem ad5 (a:Str) (b:Int):decide ((Sum.inr a:aA)=Sum.inl b)=false:=bb7 (fun q=>nomatch q)
def eU (prog:Program) (w:World):PySem.KeyKind prog w aA where
 is:=kX
 hash:=ac9 w
 inj:=fun v a b ha hb=>by
  rcases i5 ha with ⟨i,t,rfl,rfl⟩ | ⟨x,t,rfl,rfl⟩
  ·rcases i5 hb with ⟨j,u,rfl,e⟩ | ⟨y,u,rfl,e⟩
   ·injection e with e1 _; rw [e1]
   ·exact nomatch e
  ·rcases i5 hb with ⟨j,u,rfl,e⟩ | ⟨y,u,rfl,e⟩
   ·exact nomatch e
   ·injection e with e1 _; rw [e1]
 byValue:=fun k v h=>by
  rcases i5 h with ⟨i,t,rfl,rfl⟩ | ⟨x,t,rfl,rfl⟩ <;> rfl
 pyHash:=fun hv h=>by
  rcases i5 hv with ⟨i,t,rfl,rfl⟩ | ⟨x,t,rfl,rfl⟩
  ·exact wpAny_pyHash_int h
  ·exact wpAny_pyHash_str h
 eqBool:=fun hu hv h=>by
  rcases i5 hu with ⟨i,t,rfl,rfl⟩ | ⟨x,t,rfl,rfl⟩
  ·rcases i5 hv with ⟨j,u,rfl,rfl⟩ | ⟨y,u,rfl,rfl⟩
   ·rw [ad2] at h; exact wpAny_eqBool_int h
   ·rw [ad4] at h; exact SeqAt.EqAt.int_str i t y u _ _ _ _ h
  ·rcases i5 hv with ⟨j,u,rfl,rfl⟩ | ⟨y,u,rfl,rfl⟩
   ·rw [ad5] at h; exact SeqAt.EqAt.str_int x t j u _ _ _ _ h
   ·rw [ad3] at h; exact wpAny_eqBool_str h
 «strs»:=fun k x t v h=>by
  rcases i5 h with ⟨i,u,rfl,e⟩ | ⟨y,u,rfl,e⟩
  ·exact nomatch e
  ·injection e with e1 _
   subst e1
   cases v <;> rfl
theorem ad6 (prog:Program) (w:World) (i:Int) (t:Tok):(eU prog w).is (.inl i) (.int i t)=true:=ad0 i t
theorem ad7 (prog:Program) (w:World) (x:Str) (t:Tok):(eU prog w).is (.inr x) (.str x t)=true:=ad1 x t
inductive V where
 | non | bl (b:Bool) | int (i:Int) | str (x:Str) | byt (b:Array UInt8) | flt (b:UInt64) | ref (a:Addr) | ty (n:String)
 deriving DecidableEq
def aQ:V->Value->Prop
 | .non,u=>u=Value.none
 | .bl b,u=>u=Value.bool b
 | .int i,u=>∃ t,u=Value.int i t
 | .str x,u=>∃ t,u=Value.str x t
 | .byt b,u=>∃ t,u=Value.bytes b t
 | .flt b,u=>∃ t,u=Value.float b t
 | .ref a,u=>u=Value.ref a
 | .ty n,u=>u=Value.type n
abbrev aJ:List V->List Value->Prop:=Paired aQ
theorem aJ.length {xs:List V}{us:List Value} (r:aJ xs us):xs.length=us.length:=Paired.length r
theorem aJ.get:∀ {xs:List V}{us:List Value}{i:Nat}{x:V},aJ xs us->xs[i]? = some x->∃ u,us[i]? = some u/\aQ x u
 | _,_,_,_,.nil,e=>by simp at e
 | _,_,0,_,.cons r _,e=>by simp at e; subst e; exact⟨_,rfl,r⟩
 | _,_,i+1,x,.cons _ t,e=>by
  obtain ⟨u,h1,h2⟩:=aJ.get (i:=i) (x:=x) t (by simpa using e)
  exact⟨u,by simpa using h1,h2⟩
theorem aJ.set {x:V}{u:Value} (r:aQ x u):∀ {xs:List V}{us:List Value} (i:Nat),aJ xs us->aJ (xs.set i x) (us.set i u)
 | _,_,_,.nil=>.nil
 | _,_,0,.cons _ t=>.cons r t
 | _,_,i+1,.cons q t=>.cons q (aJ.set r i t)
theorem aJ.append:∀ {xs ys:List V}{us ws:List Value},aJ xs us->aJ ys ws->aJ (xs ++ ys) (us ++ ws)
 | _,_,_,_,.nil,s=>s
 | _,_,_,_,.cons r t,s=>.cons r (aJ.append t s)
theorem aJ.take:∀ {xs:List V}{us:List Value} (n:Nat),aJ xs us->aJ (xs.take n) (us.take n)
 | _,_,0,_=>.nil
 | _,_,_+1,.nil=>.nil
 | _,_,n+1,.cons r t=>.cons r (aJ.take n t)
theorem aJ.drop:∀ {xs:List V}{us:List Value} (n:Nat),aJ xs us->aJ (xs.drop n) (us.drop n)
 | _,_,0,r=>r
 | _,_,_+1,.nil=>.nil
 | _,_,n+1,.cons _ t=>aJ.drop n t
def i6:Option V->Option Value->Prop
 | some v,some u=>aQ v u
 | none,none=>True
 | _,_=>False
def KV {κ:Type}:List (κ × V)->List (κ × Value)->Prop:=Paired fun (p:κ × V) (q:κ × Value)=>p.1=q.1/\aQ p.2 q.2
def kV:aA->V
 | .inl i=>.int i
 | .inr x=>.str x
inductive HO where
 | lst (xs:List V)
 | tup (xs:List V)
 | dK (kvs:List (aA × V)) | dT (kvs:List (List aA × V))
 | set (S:Int->Bool) (n:Nat)
 | ins (C dx:Addr) (fs:List (Str × V))
 | own (x:Addr)
 | xd (fs:List (Str × V))
 | met (f x:Addr)
 | rng (lo hi:Int)
 | frz (o:Obj) (u:HO)
 | tbl (ps:Array Value)
 | ext (φ:Heap->Prop)
abbrev Hp:=Addr->Option HO
def upd (H:Hp) (a:Addr) (o:HO):Hp:=fun b=>if b=a then some o else H b
theorem aW {H:Hp}{a:Addr}{o:HO}:upd H a o a=some o:=by unfold upd; rw [if_pos rfl]
theorem aH {H:Hp}{a b:Addr}{o:HO} (h:b ≠ a):upd H a o b=H b:=by unfold upd; rw [if_neg h]
theorem ad8 {H:Hp}{a b:Addr}{o u:HO} (h:H a=some o) (h':H b=some u) (d:o ≠ u):a ≠ b:=by
 intro e; subst e; rw [h] at h'; exact d (be0 h')
theorem cA {H:Hp}{a b:Addr}{o:HO} (h:H a=some o) (h':H b=none):a ≠ b:=by
 intro e; subst e; rw [h] at h'; cases h'
def i7 (h:Heap) (a:Addr):Prop:=∀ o,h.get? a=some o->o.dict=none
theorem i7.new (h:Heap) (o:Obj) (d:o.dict=none) (s:o.isFreed=false:=by rfl):i7 (h.push o) h.objs.size:=fun u e=>by
 rw [bb9 h (o:=o) s] at e
 cases e; exact d
theorem i7.stay {h h':Heap}{a:Addr}{o:Obj} (n:i7 h a) (e:h.get? a=some o) (e':h'.get? a=some o):i7 h' a:=fun u hu=>by
 rw [e'] at hu; cases hu; exact n _ e
section
variable (P : Program) (w : World)
def bT (H:Hp) (h:Heap) (a:Addr):HO->Prop
 | .lst xs=>xs.length<=sizeLine/\∃ (its:List Value) (n:Nat),aJ xs its/\h.get? a=some { cls:=.type "list",data:=.seq its.toArray n }
 | .tup xs=>xs.length<=sizeLine/\∃ its:List Value,aJ xs its/\IsTup h a its.toArray/\i7 h a
 | .dK kvs=>kvs.length<=sizeLine/\(a == sysModules)=false/\∃ vs,KV kvs vs/\h.DictOf (eU P w) a vs
 | .dT kvs=>kvs.length<=sizeLine/\(a == sysModules)=false/\∃ xs:List (List aA × Addr × Value),
   Paired (fun (p:List aA × V) (q:List aA × Addr × Value)=>p.1=q.1/\H q.2.1=some (.tup (p.1.map kV))/\aQ p.2 q.2.2) kvs xs/\
   ∃ o es ep,h.get? a=some o/\o.ExactDict/\o.data = .dict es ep/\es.toList=xs.map (entryOfKey (tupleKind (eU P w)))/\(xs.map (·.1)).Nodup
 | .set S n=>h.SetOf (intKind P w) a S n
 | .ins C dx fs=>H dx=some (.own a)/\fs.length<=1000/\dx ≠ a/\h.get? a=some (PySem.W.instObj C dx)/\
   ∃ mA,h.Ns1 dx mA/\(∀ f,i6 (fs.lookup f) (mA f))/\PySem.Within mA (fs.map (·.1))
 | .own _=>∃ o,h.get? a=some o
 | .xd fs=>∃ mA,h.Ns1 a mA/\∀ f,i6 (fs.lookup f) (mA f)
 | .rng lo hi=>∃ t u v,h.get? a=some { cls:=.type "range",data:=.fields #[.int lo t,.int hi u,.int 1 v] }
 | .frz o u=>h.get? a=some o/\bT H h a u
 | .tbl ps=>h.get? a=some { cls:=.none,data:=.fields ps }
 | .met f x=>h.get? a=some (PySem.W.methodObj (.ref f) (.ref x))
 | .ext φ=>φ h/\(∃ o,h.get? a=some o)/\∀ h1 h2:Heap,φ h1->(∀ o,h1.get? a=some o->h2.get? a=some o)->φ h2
def bU (H:Hp) (h:Heap):Prop:=∀ a o,H a=some o->bT P w H h a o
end
section
variable {P : Program} {w : World} {H H' : Hp} {h h' : Heap} {a : Addr} {o : HO}
theorem bT.lt (x:bT P w H h a o):a < h.objs.size:=by
 cases o with
 | lst xs=>obtain ⟨_,_,_,_,e⟩:=x; exact bc7 e
 | tup xs=>obtain ⟨_,_,_,p,_⟩:=x; exact p.lt
 | dK kvs=>obtain ⟨_,_,_,_,o,_,_,e,_⟩:=x; exact bc7 e
 | dT kvs=>obtain ⟨_,_,_,_,o,_,_,e,_⟩:=x; exact bc7 e
 | set S n=>obtain ⟨o,_,_,_,e,_⟩:=x; exact bc7 e
 | ins C dx fs=>obtain ⟨_,_,_,e,_⟩:=x; exact bc7 e
 | own y=>obtain ⟨_,e⟩:=x; exact bc7 e
 | xd fs=>obtain ⟨_,⟨_,_,_,e,_⟩,_⟩:=x; exact bc7 e
 | rng lo hi=>obtain ⟨_,_,_,e⟩:=x; exact bc7 e
 | frz ob u=>obtain ⟨e,_⟩:=x; exact bc7 e
 | tbl ps=>exact bc7 (show h.get? a=some _ from x)
 | met f y=>exact bc7 (show h.get? a=some _ from x)
 | ext φ=>obtain ⟨_,⟨_,e⟩,_⟩:=x; exact bc7 e
theorem Paired.mapP {α β:Type}{F G:α->β->Prop}:∀ {l₁:List α}{l₂:List β},Paired F l₁ l₂->(∀ a b,F a b->G a b)->Paired G l₁ l₂
 | _,_,.nil,_=>.nil
 | _,_,.cons r t,f=>.cons (f _ _ r) (Paired.mapP t f)
theorem bT.stay (x:bT P w H h a o) (k:∀ b u,(b=a ∨ H b=some (.own a))->h.get? b=some u->h'.get? b=some u)
  (ho:∀ b,H b=some (.own a)->H' b=some (.own a)) (ht:∀ b xs,H b=some (.tup xs)->H' b=some (.tup xs)):bT P w H' h' a o:=by
 induction o with
 | lst xs=>obtain ⟨z,its,n,r,e⟩:=x; exact⟨z,its,n,r,k _ _ (.inl rfl) e⟩
 | tup xs=>obtain ⟨z,its,r,⟨ob,e,c⟩,nd⟩:=x; exact⟨z,its,r,⟨ob,k _ _ (.inl rfl) e,c⟩,nd.stay e (k _ _ (.inl rfl) e)⟩
 | dK kvs=>obtain ⟨z,y,vs,r,ob,es,ep,e,c⟩:=x; exact⟨z,y,vs,r,ob,es,ep,k _ _ (.inl rfl) e,c⟩
 | dT kvs=>
  obtain ⟨z,y,xs,r,ob,es,ep,e,c⟩:=x
  exact⟨z,y,xs,Paired.mapP r fun p q z=>⟨z.1,ht _ _ z.2.1,z.2.2⟩,ob,es,ep,k _ _ (.inl rfl) e,c⟩
 | set S n=>obtain ⟨ob,es,ep,t,e,c⟩:=x; exact⟨ob,es,ep,t,k _ _ (.inl rfl) e,c⟩
 | ins C dx fs=>
  obtain ⟨d,z,ne,e,mA,⟨od,es,ep,e2,c⟩,r⟩:=x
  exact⟨ho _ d,z,ne,k _ _ (.inl rfl) e,mA,⟨od,es,ep,k _ _ (.inr d) e2,c⟩,r⟩
 | own y=>obtain ⟨ob,e⟩:=x; exact⟨ob,k _ _ (.inl rfl) e⟩
 | xd fs=>obtain ⟨mA,⟨od,es,ep,e,c⟩,r⟩:=x; exact⟨mA,⟨od,es,ep,k _ _ (.inl rfl) e,c⟩,r⟩
 | rng lo hi=>obtain ⟨t,u,v,e⟩:=x; exact⟨t,u,v,k _ _ (.inl rfl) e⟩
 | frz ob u ih=>obtain ⟨e,q⟩:=x; exact⟨k _ _ (.inl rfl) e,ih q⟩
 | tbl ps=>
  have e:h.get? a=some { cls:=.none,data:=.fields ps }:=x
  show h'.get? a=some { cls:=.none,data:=.fields ps }
  exact k a _ (.inl rfl) e
 | met f y=>
  have e:h.get? a=some (PySem.W.methodObj (.ref f) (.ref y)):=x
  show h'.get? a=some (PySem.W.methodObj (.ref f) (.ref y))
  exact k a _ (.inl rfl) e
 | ext φ=>obtain ⟨p,⟨o,e⟩,st⟩:=x; exact⟨st _ _ p fun o q=>k _ _ (.inl rfl) q,⟨o,k _ _ (.inl rfl) e⟩,st⟩
theorem bU.lt (x:bU P w H h) (e:H a=some o):a < h.objs.size:=(x a o e).lt
theorem bU.fresh (x:bU P w H h) (e:h.objs.size<=a):H a=none:=by
 cases q:H a with
 | none=>rfl
 | some u=>exact absurd (bd0 (x.lt q) e) (bg0 _)
theorem bU.kept (x:bU P w H h) (k:∀ b u,h.get? b=some u->h'.get? b=some u):bU P w H h':=fun a o e=>
 (x a o e).stay (fun b u _ q=>k b u q) (fun _ q=>q) fun _ _ q=>q
theorem bU.laid (x:bU P w H h) (k:∀ b u,h.get? b=some u->h'.get? b=some u) (hp:h.objs.size<=a) (new:bT P w (upd H a o) h' a o):bU P w (upd H a o) h':=fun b u e=>by
 have hn:=x.fresh hp
 by_cases hb:b=a
 ·subst hb; rw [aW] at e; cases e; exact new
 ·rw [aH hb] at e
  exact (x b u e).stay (fun c v _ q=>k c v q) (fun c q=>by rw [aH (cA q hn)]; exact q) fun c xs q=>by rw [aH (cA q hn)]; exact q
end
def Rd (H:Hp) (a:Addr) (u:HO):Prop:=H a=some u ∨ ∃ o,H a=some (.frz o u)
theorem Rd.ok {P:Program}{w:World}{H:Hp}{h:Heap}{a:Addr}{u:HO} (r:Rd H a u) (x:bU P w H h):bT P w H h a u:=by
 rcases r with r | ⟨o,r⟩
 ·exact x a u r
 ·obtain ⟨_,q⟩:=x a _ r
  exact q
def mD:Option HO->Prop
 | some (.lst _)=>True
 | some (.dK _)=>True
 | some (.dT _)=>True
 | some (.set _ _)=>True
 | some (.ins _ _ _)=>True
 | some (.ext _)=>True
 | _=>False
section
variable {P : Program} {w : World} {H : Hp} {h h' : Heap} {x e : Addr} {o' : HO}
theorem bU.write (ok:bU P w H h) (mu:mD (H x)) (he:e=x ∨ H e=some (.own x)) (k:∀ b u,b ≠ e->h.get? b=some u->h'.get? b=some u) (heo:∃ u,h'.get? e=some u)
  (new:bT P w (upd H x o') h' x o'):bU P w (upd H x o') h':=fun b u q=>by
 have nown:∀ c y,H c=some (.own y)->c ≠ x:=fun c y r z=>by subst z; rw [r] at mu; exact mu
 have ntup:∀ c xs,H c=some (.tup xs)->c ≠ x:=fun c xs r z=>by subst z; rw [r] at mu; exact mu
 by_cases hb:b=x
 ·subst hb; rw [aW] at q; cases q; exact new
 ·rw [aH hb] at q
  by_cases hbe:b=e
  ·have q':H b=some (.own x):=by
    rcases he with z | z
    ·exact absurd (hbe.trans z) hb
    ·rw [hbe]; exact z
   rw [q] at q'; cases q'
   obtain ⟨v,hv⟩:=heo
   exact⟨v,by rw [hbe]; exact hv⟩
  ·refine (ok b u q).stay (fun c v hc r=>k c v ?_ r) (fun c r=>by rw [aH (nown c b r)]; exact r) fun c xs r=>by rw [aH (ntup c xs r)]; exact r
   rcases hc with rfl | hc
   ·exact hbe
   ·rintro rfl
    rcases he with z | z
    ·exact nown c b hc z
    ·rw [hc] at z; cases z; exact hb rfl
end
structure Un (fs ex:List Addr) (H H':Hp) (h h':Heap):Prop where
 keep:∀ b o,h.get? b=some o->H b=none->b ∉ fs->b ∉ ex->h'.get? b=some o
 slot:∀ b o,h.get? b=some o->H b=none->b ∈ fs->b ∉ ex->∃ sl,h'.get? b=some { o with slots:=sl }
 free:∀ b o,h.get? b=some o->H b=none->b ∉ ex->H' b=none
 there:∀ b o,h.get? b=some o->b ∉ ex->∃ o',h'.get? b=some o'
 tups:∀ b xs,H b=some (.tup xs)->H' b=some (.tup xs)
 frzs:∀ b o u,H b=some (.frz o u)->H' b=some (.frz o u)
 tbls:∀ b ps,H b=some (.tbl ps)->∃ more,H' b=some (.tbl (ps ++ more))
section
variable {fs fs' ex ex' : List Addr} {H H1 H2 : Hp} {h h1 h2 h' : Heap} {a x e : Addr} {o : HO}
theorem Un.any (u:Un fs ex H H1 h h1) {b:Addr}{ob:Obj} (q:h.get? b=some ob) (n:H b=none) (hx:b ∉ ex):∃ sl,h1.get? b=some { ob with slots:=sl }:=by
 by_cases hb:b ∈ fs
 ·exact u.slot b ob q n hb hx
 ·exact⟨ob.slots,u.keep b ob q n hb hx⟩
theorem Un.kept (k:∀ b u,h.get? b=some u->h'.get? b=some u):Un fs ex H H h h':=
 ⟨fun b ob q _ _ _=>k b ob q,fun b ob q _ _ _=>⟨ob.slots,k b ob q⟩,fun _ _ _ n _=>n,fun b ob q _=>⟨ob,k b ob q⟩,fun _ _ q=>q,fun _ _ _ q=>q,fun _ ps q=>⟨#[],by rw [q]; simp⟩⟩
theorem Un.refl:Un fs ex H H h h:=Un.kept fun _ _ q=>q
theorem Un.laid (k:∀ b u,h.get? b=some u->h'.get? b=some u) (hp:h.objs.size<=a) (hn:H a=none):Un fs ex H (upd H a o) h h' where
 keep:=fun b u q _ _ _=>k b u q
 slot:=fun b u q _ _ _=>⟨u.slots,k b u q⟩
 free:=fun b u q n _=>by rw [aH (be3 (bd0 (bc7 q) hp))]; exact n
 there:=fun b u q _=>⟨u,k b u q⟩
 tups:=fun b xs q=>by rw [aH (cA q hn)]; exact q
 frzs:=fun b u xs q=>by rw [aH (cA q hn)]; exact q
 tbls:=fun b ps q=>⟨#[],by rw [aH (cA q hn),q]; simp⟩
theorem Un.write (mu:mD (H x)) (he:e=x ∨ H e=some (.own x)) (k:∀ b u,b ≠ e->h.get? b=some u->h'.get? b=some u) (heo:∃ u,h'.get? e=some u):Un fs ex H (upd H x o) h h':=by
 have hx:∀ b,H b=none->b ≠ x:=fun b n z=>by subst z; rw [n] at mu; exact mu
 have hb:∀ b,H b=none->b ≠ e:=fun b n z=>by
  subst z
  rcases he with r | r
  ·exact hx b n r
  ·rw [n] at r; cases r
 have hm:∀ b u,H b=some u->¬ mD (some u)->b ≠ x:=fun b u q nm z=>by subst z; rw [q] at mu; exact nm mu
 refine⟨fun b u q n _ _=>k b u (hb b n) q,fun b u q n _ _=>⟨u.slots,k b u (hb b n) q⟩,fun b u q n _=>by rw [aH (hx b n)]; exact n,fun b u q _=>?_,
  fun b xs q=>by rw [aH (hm b _ q fun z=>z)]; exact q,fun b u xs q=>by rw [aH (hm b _ q fun z=>z)]; exact q,fun b ps q=>⟨#[],by rw [aH (hm b _ q fun z=>z),q]; simp⟩⟩
 by_cases hbe:b=e
 ·subst hbe; exact heo
 ·exact⟨u,k b u hbe q⟩
end
def oK (h:Heap) (H:Hp):List Addr:=(List.range h.objs.size).filter fun a=>(H a).isSome
def iO (h:Heap) (H:Hp):Heap:=PySem.W.hideAll h (oK h H)
theorem ad9 (h:Heap) (H:Hp):(iO h H).objs.size=h.objs.size:=PySem.W.hideAll_size _ _
theorem ae0 {h:Heap}{H:Hp}{b:Addr}{o:Obj} (e:h.get? b=some o) (n:H b=none):(iO h H).get? b=some o:=
 PySem.W.hideAll_get _ e fun hm=>by
  have q:(H b).isSome=true:=(bl4.mp hm).2
  rw [n] at q; simp at q
theorem ae1 {h:Heap}{H:Hp}{b:Addr}{o:Obj} (e:(iO h H).get? b=some o):h.get? b=some o/\H b=none:=by
 have e':h.get? b=some o:=PySem.W.of_hideAll (oK h H) e
 refine⟨e',?_⟩
 cases q:H b with
 | none=>rfl
 | some x=>
  have hm:b ∈ oK h H:=bl4.mpr ⟨bo3.mpr (bc7 e'),by simp [q]⟩
  have z:(iO h H).get? b=none:=PySem.W.hideAll_none (oK h H) hm
  rw [z] at e; cases e
def mE (g h:Heap) (L:Addr):List (Addr × Obj):=(List.range h.objs.size).filterMap fun a=>if a=L ∨ (g.get? a).isSome=true then none else (h.get? a).map fun o=>(a,o)
theorem xU {g h:Heap}{L a:Addr}{o:Obj} (h1:a ≠ L) (h2:g.get? a=none) (h3:h.get? a=some o):(a,o) ∈ mE g h L:=
 List.mem_filterMap.mpr ⟨a,bo3.mpr (bc7 h3),by simp [h1,h2,h3]⟩
theorem ae2 {g h:Heap}{L:Addr}{p:Addr × Obj} (hp:p ∈ mE g h L):p.1 ≠ L/\g.get? p.1=none/\h.get? p.1=some p.2:=by
 obtain ⟨b,_,e⟩:=List.mem_filterMap.mp hp
 split at e
 ·cases e
 ·rename_i hn
  cases q:h.get? b with
  | none=>rw [q] at e; simp at e
  | some u=>
   rw [q] at e
   simp only [Option.map_some,Option.some.injEq] at e
   subst e
   refine⟨fun z=>hn (.inl z),?_,q⟩
   show g.get? b=none
   cases r:g.get? b with
   | none=>rfl
   | some v=>exact (hn (.inr (by simp [r]))).elim
def cW (g h:Heap) (L d:Addr):List (Addr × Obj):=(mE g h L).filter fun p=>decide (p.1 ≠ d)
theorem ae3 {g h:Heap}{L:Addr}:News g L h (mE g h L):=fun p hp=>let ⟨a,b,c⟩:=ae2 hp; ⟨c,a,b⟩
structure Mod (K:PySem.W.Frag) (mg:Str->Option Value) (base:Heap):Prop where
 kin:K.In base
 glob:base.Ns mainGlobals mg
 blt:∃ mb,base.Ns builtinsNs mb/\∀ x:Str,x ≠ "__name__"->mb x=bootBuiltins x
 nolimit:base.NoLimit
structure Cx where
 prog:Program
 w:World
 K:PySem.W.Frag
 mg:Str->Option Value
 base:Heap
 A:Around
 N:List Str
 s₀:Shared
 H₀:Hp
 env:Env
 outer:List Env
 stack:List Env
 ex:List Addr
 fn:Str->Bool
 calm:Bool
 pn:List (Addr × Obj)
 xe:Value->Shared->Prop
def bX (l:List Env):List Addr:=l.filterMap (·.frame)
abbrev Cx.fs (X:Cx):List Addr:=bX X.outer
def fQ (sc:Scope) (x:Str):Prop:=sc.names.lookup x=some .local ∨ sc.names.lookup x=some .cell ∨ sc.names.lookup x=some .free
def iP (sc:Scope) (x:Str):Prop:=sc.names.lookup x=some .local ∨ sc.names.lookup x=some .cell
def ae4 (env:Env) (h:Heap) (m:Str->Option Value) (x:Str) (u:Value):Prop:=
 (env.kindOf x=some .local/\m x=some u) ∨ ((env.kindOf x=some .cell ∨ env.kindOf x=some .free)/\∃ c,env.cells.lookup x=some c/\h.IsCell c (some u))
structure Cx.Ok (X:Cx):Prop where
 mod:Mod X.K X.mg X.base
 kind:X.env.scope.kind = .function
 glob:X.env.globals=mainGlobals
 blt:X.env.builtins=builtinsNs
 above:X.s₀.heap.objs.size<=X.env.locals
 inj:∀ x y c,X.env.cells.lookup x=some c->X.env.cells.lookup y=some c->x=y
 has:∀ x,(X.env.kindOf x=some .cell ∨ X.env.kindOf x=some .free)->∃ c,X.env.cells.lookup x=some c
 cab:∀ x c,X.fn x=true->X.env.cells.lookup x=some c->X.s₀.heap.objs.size<=c
 hd:X.calm=true->X.A.handled=none
 frames:X.A.frames=some X.stack
 stk:X.stack=X.outer ∨ (X.stack=X.env :: X.outer/\X.env.frame=some X.env.locals)
 exf:∀ b ∈ X.ex,b ≠ X.env.locals/\∀ x c,X.env.cells.lookup x=some c->c ≠ b
 bs:∀ b o,X.base.get? b=some o->X.s₀.heap.get? b=some o/\X.H₀ b=none
 bsz:X.base.objs.size<=X.s₀.heap.objs.size
 noex:∀ b o,X.base.get? b=some o->b ∉ X.ex
 exfs:∀ b ∈ X.ex,b ∉ X.fs
 funs:X.s₀.heap.FunFrames X.base X.outer
 frf:∀ b ∈ X.fs,X.H₀ b=none
structure a6 (X:Cx) (pins:List (Addr × Obj)) (σ:List (Option V)) (H:Hp) (s:Shared):Prop where
 ok:X.Ok
 os:s.os=X.s₀.os
 bare:AllBare s.gens
 base:Un X.fs X.ex X.H₀ H X.s₀.heap s.heap
 loc:∃ m,s.heap.Ns X.env.locals m/\∀ (i:Nat) (x:Str) (v:V),X.N[i]? = some x->σ[i]? = some (some v)->fQ X.env.scope x->∃ u,aQ v u/\ae4 X.env s.heap m x u
 cell:∀ x c,X.env.cells.lookup x=some c->∃ v,s.heap.IsCell c v
 free:H X.env.locals=none
 freeC:∀ x c,X.env.cells.lookup x=some c->H c=none
 pin:∀ p ∈ X.pn ++ pins,s.heap.get? p.1=some p.2/\H p.1=none/\p.1 ≠ X.env.locals/\p.1 ∉ X.fs/\∀ v,p.2.data ≠ .cell v
 hok:bU X.prog X.w H s.heap
 len:σ.length=X.N.length
section
variable {X : Cx} {pins : List (Addr × Obj)} {σ : List (Option V)} {H H' : Hp} {s : Shared} {h' : Heap}
theorem Cx.Ok.nofr (ok:X.Ok) {b:Addr}{o:Obj} (e:X.base.get? b=some o):b ∉ X.fs:=fun hb=>by
 have:=(ok.funs.mem hb).1
 rw [e] at this; cases this
theorem a6.bs (I:a6 X pins σ H s):∀ b o,X.base.get? b=some o->s.heap.get? b=some o/\H b=none:=fun b o e=>
 ⟨I.base.keep b o (I.ok.bs b o e).1 (I.ok.bs b o e).2 (I.ok.nofr e) (I.ok.noex b o e),I.base.free b o (I.ok.bs b o e).1 (I.ok.bs b o e).2 (I.ok.noex b o e)⟩
theorem a6.bk (I:a6 X pins σ H s):∀ b o,X.base.get? b=some o->s.heap.get? b=some o:=fun b o e=>(I.bs b o e).1
theorem a6.mod (I:a6 X pins σ H s):Mod X.K X.mg X.base:=I.ok.mod
theorem a6.kIn (I:a6 X pins σ H s):X.K.In s.heap:=I.ok.mod.kin.keeps I.bk
theorem a6.fr (I:a6 X pins σ H s):∃ m,Fr X.base X.env.locals s.heap m:=
 let ⟨m,hn,_⟩:=I.loc
 ⟨m,hn,I.bk,bf6 I.ok.bsz I.ok.above⟩
theorem a6.lt (I:a6 X pins σ H s):X.env.locals < s.heap.objs.size:=let ⟨_,hn,_⟩:=I.loc; hn.lt
theorem a6.sz (I:a6 X pins σ H s):X.s₀.heap.objs.size<=s.heap.objs.size:=bf6 I.ok.above (bg6 I.lt)
theorem a6.nofs (I:a6 X pins σ H s) {a:Addr} (h:s.heap.objs.size<=a):a ∉ X.fs:=fun hb=>by
 obtain ⟨_,o,ho,_⟩:=I.ok.funs.mem hb
 exact absurd (bd0 (bc7 ho) (bf6 I.sz h)) (bg0 _)
theorem a6.cne (I:a6 X pins σ H s):∀ x c,X.env.cells.lookup x=some c->c ≠ X.env.locals:=fun x c e z=>by
 obtain ⟨v,o,ho,hd⟩:=I.cell x c e
 obtain ⟨m,⟨o',es,ep,ho',hd',_⟩,_⟩:=I.loc
 rw [z,ho'] at ho; cases ho; rw [hd'] at hd; cases hd
theorem a6.funs (I:a6 X pins σ H s):s.heap.FunFrames X.base X.outer:=by
 have all:∀ (l:List Env),(∀ b ∈ bX l,b ∈ X.fs)->X.s₀.heap.FunFrames X.base l->s.heap.FunFrames X.base l:=by
  intro l
  induction l with
  | nil=>intro _ _; trivial
  | cons env r ih=>
   intro hs hl
   obtain ⟨hk,⟨L,o,hf,hn,ho,hd⟩,hr⟩:=hl
   have hL:L ∈ X.fs:=hs L (by unfold bX; rw [List.filterMap_cons,hf]; exact bc2)
   obtain ⟨sl,e⟩:=I.base.slot L o ho (I.ok.frf L hL) hL fun z=>I.ok.exfs L z hL
   exact⟨hk,⟨L,_,hf,hn,e,hd⟩,ih (fun b hb=>hs b (by unfold bX; rw [List.filterMap_cons,hf]; exact bc3 _ hb)) hr⟩
 exact all X.outer (fun _ hb=>hb) I.ok.funs
theorem a6.stack (I:a6 X pins σ H s):s.heap.FunFrames X.base X.stack:=by
 rcases I.ok.stk with e | ⟨e,hf⟩
 ·rw [e]; exact I.funs
 ·rw [e]
  obtain ⟨m,hn,_⟩:=I.loc
  refine .cons (by rw [I.ok.kind]; decide) hf hn ?_ I.funs
  exact Heap.get?_none_of_le (bf6 I.ok.bsz I.ok.above)
theorem a6.stkSub (I:a6 X pins σ H s):∀ b ∈ bX X.stack,b ∈ X.env.locals :: X.fs:=fun b hb=>by
 rcases I.ok.stk with e | ⟨e,hf⟩
 ·rw [e] at hb; exact bc3 _ hb
 ·rw [e] at hb
  unfold bX at hb
  rw [List.filterMap_cons,hf] at hb
  exact hb
theorem a6.stkFree (I:a6 X pins σ H s):∀ b ∈ bX X.stack,H b=none:=fun b hb=>by
 rcases bb8.mp (I.stkSub b hb) with e | hb
 ·rw [e]; exact I.free
 ·obtain ⟨_,o,ho,_⟩:=I.ok.funs.mem hb
  exact I.base.free b o ho (I.ok.frf b hb) fun z=>I.ok.exfs b z hb
theorem a6.step {g':Array GenState}{t':Nat}{d':Drawn}{ch:List Addr} (I:a6 X pins σ H s)
  (hch:∀ b ∈ ch,(b ∈ X.ex ∨ X.s₀.heap.objs.size<=b)/\b ≠ X.env.locals/\(∀ x c,X.env.cells.lookup x=some c->c ≠ b)/\∀ p ∈ X.pn ++ pins,p.1 ≠ b)
  (keep:∀ b o,b ≠ X.env.locals->b ∉ X.fs->b ∉ ch->s.heap.get? b=some o->H b=none->h'.get? b=some o)
  (slot:∀ b o,b ≠ X.env.locals->b ∈ X.fs->b ∉ ch->s.heap.get? b=some o->H b=none->∃ sl,h'.get? b=some { o with slots:=sl }) (free:∀ b o,b ∉ ch->s.heap.get? b=some o->H b=none->H' b=none)
  (there:∀ b o,b ∉ ch->s.heap.get? b=some o->∃ o',h'.get? b=some o')
  (tups:∀ b xs,H b=some (.tup xs)->H' b=some (.tup xs)) (frzs:∀ b o u,H b=some (.frz o u)->H' b=some (.frz o u)) (tbls:∀ b ps,H b=some (.tbl ps)->∃ more,H' b=some (.tbl (ps ++ more)))
  (ns:∀ m,s.heap.Ns X.env.locals m->h'.Ns X.env.locals m) (hok:bU X.prog X.w H' h') (hg:AllBare g') :
  a6 X pins σ H' { s with heap:=h',gens:=g',drawn:=d',toks:=t' }:=by
 have neL:∀ b o,X.s₀.heap.get? b=some o->b ≠ X.env.locals:=fun b o e=>be3 (bd0 (bc7 e) I.ok.above)
 have neC:∀ b o,X.s₀.heap.get? b=some o->b ∉ X.ex->b ∉ ch:=fun b o e hx hb=>by
  rcases (hch b hb).1 with z | z
  ·exact hx z
  ·exact absurd (bd0 (bc7 e) z) (bg0 _)
 have cellK:∀ x c,X.env.cells.lookup x=some c->∀ v,s.heap.IsCell c v->h'.IsCell c v:=fun x c e v ⟨o,ho,hd⟩=>by
  have nch:c ∉ ch:=fun z=>(hch c z).2.2.1 x c e rfl
  by_cases hc:c ∈ X.fs
  ·obtain ⟨sl,q⟩:=slot c o (I.cne x c e) hc nch ho (I.freeC x c e)
   exact⟨_,q,hd⟩
  ·exact⟨o,keep c o (I.cne x c e) hc nch ho (I.freeC x c e),hd⟩
 refine⟨I.ok,I.os,hg,⟨fun b o e n hb hx=>?_,fun b o e n hb hx=>?_,fun b o e n hx=>?_,fun b o e hx=>?_,fun b xs e=>tups b xs (I.base.tups b xs e),fun b o xs e=>frzs b o xs (I.base.frzs b o xs e),fun b ps e=>?_⟩,?_,fun x c e=>?_,?_,fun x c e=>?_,fun p hp=>?_,hok,I.len⟩
 ·exact keep b o (neL b o e) hb (neC b o e hx) (I.base.keep b o e n hb hx) (I.base.free b o e n hx)
 ·obtain ⟨sl,e1⟩:=I.base.slot b o e n hb hx
  obtain ⟨sl',e2⟩:=slot b _ (neL b o e) hb (neC b o e hx) e1 (I.base.free b o e n hx)
  exact⟨sl',e2⟩
 ·obtain ⟨o',e1⟩:=I.base.there b o e hx
  exact free b o' (neC b o e hx) e1 (I.base.free b o e n hx)
 ·obtain ⟨o',e1⟩:=I.base.there b o e hx
  exact there b o' (neC b o e hx) e1
 ·obtain ⟨m1,e1⟩:=I.base.tbls b ps e
  obtain ⟨m2,e2⟩:=tbls b _ e1
  exact⟨m1 ++ m2,by rw [e2,Array.append_assoc]⟩
 ·obtain ⟨m,hn,hl⟩:=I.loc
  refine⟨m,ns m hn,fun i x v e1 e2 e3=>?_⟩
  obtain ⟨u,r,l⟩:=hl i x v e1 e2 e3
  refine⟨u,r,?_⟩
  rcases l with l | ⟨k,c,e,z⟩
  ·exact .inl l
  ·exact .inr ⟨k,c,e,cellK x c e _ z⟩
 ·obtain ⟨v,z⟩:=I.cell x c e
  exact⟨v,cellK x c e v z⟩
 ·obtain ⟨m,⟨o,_,_,ho,_⟩,_⟩:=I.loc
  exact free _ o (fun z=>(hch _ z).2.1 rfl) ho I.free
 ·obtain ⟨v,o,ho,hd⟩:=I.cell x c e
  exact free c o (fun z=>(hch c z).2.2.1 x c e rfl) ho (I.freeC x c e)
 ·obtain ⟨e,n,ne,nf,d⟩:=I.pin p hp
  have nch:p.1 ∉ ch:=fun z=>(hch p.1 z).2.2.2 p hp rfl
  exact⟨keep p.1 p.2 ne nf nch e n,free p.1 p.2 nch e n,ne,nf,d⟩
theorem a6.un {t':Nat} (I:a6 X pins σ H s) (u:Un X.fs [] H H' s.heap h') (hok:bU X.prog X.w H' h'):a6 X pins σ H' { s with heap:=h',toks:=t' }:=by
 obtain ⟨m,⟨o,es,ep,ho,r⟩,_⟩:=id I.loc
 obtain ⟨sl,hL⟩:=u.any ho I.free (by simp)
 exact I.step (g':=s.gens) (d':=s.drawn) (ch:=[]) (fun _ z=>nomatch z) (fun b o _ hb _ e n=>u.keep b o e n hb (by simp)) (fun b o _ hb _ e n=>u.slot b o e n hb (by simp)) (fun b o _ e n=>u.free b o e n (by simp)) (fun b o _ e=>u.there b o e (by simp)) u.tups u.frzs u.tbls (fun m' hm=>by
  obtain ⟨o',es',ep',ho',r'⟩:=hm
  rw [ho] at ho'; cases ho'
  exact⟨_,es',ep',hL,r'⟩) hok I.bare
theorem a6.call {g':Array GenState}{t':Nat}{d':Drawn}{ch:List Addr} (I:a6 X pins σ H s) (u:Un (bX X.stack) ch H H' s.heap h') (hok:bU X.prog X.w H' h') (hg:AllBare g')
  (hch:∀ b ∈ ch,(b ∈ X.ex ∨ X.s₀.heap.objs.size<=b)/\b ≠ X.env.locals/\(∀ x c,X.env.cells.lookup x=some c->c ≠ b)/\∀ p ∈ X.pn ++ pins,p.1 ≠ b) :
  a6 X pins σ H' { s with heap:=h',gens:=g',drawn:=d',toks:=t' }:=by
 obtain ⟨m,⟨o,es,ep,ho,r⟩,_⟩:=id I.loc
 obtain ⟨sl,hL⟩:=u.any ho I.free fun z=>(hch _ z).2.1 rfl
 exact I.step (ch:=ch) hch (fun b o hL hb hc e n=>u.keep b o e n (fun z=>(bb8.mp (I.stkSub b z)).elim hL hb) hc) (fun b o _ _ hc e n=>u.any e n hc) (fun b o hc e n=>u.free b o e n hc) (fun b o hc e=>u.there b o e hc) u.tups u.frzs u.tbls (fun m' hm=>by
  obtain ⟨o',es',ep',ho',r'⟩:=hm
  rw [ho] at ho'; cases ho'
  exact⟨_,es',ep',hL,r'⟩) hok hg
theorem a6.turned {t':Nat}{it:Addr} (I:a6 X pins σ H s) (k:∀ b o,b ≠ it->s.heap.get? b=some o->h'.get? b=some o) (hn:H it=none) (hL:it ≠ X.env.locals)
  (h1:it ∈ X.ex ∨ X.s₀.heap.objs.size<=it) (h2:∀ x c,X.env.cells.lookup x=some c->c ≠ it) (h3:∀ p ∈ X.pn ++ pins,p.1 ≠ it):a6 X pins σ H { s with heap:=h',toks:=t' }:=by
 have nit:∀ b u,H b=some u->b ≠ it:=fun b u e z=>by rw [z,hn] at e; cases e
 refine I.step (g':=s.gens) (d':=s.drawn) (ch:=[it]) (fun b hb=>?_) (fun b o _ _ hc e _=>k b o (fun z=>hc (by simp [z])) e) (fun b o _ _ hc e _=>⟨o.slots,k b o (fun z=>hc (by simp [z])) e⟩) (fun _ _ _ _ n=>n)
  (fun b o hc e=>⟨o,k b o (fun z=>hc (by simp [z])) e⟩) (fun _ _ e=>e) (fun _ _ _ e=>e) (fun b ps e=>⟨#[],by rw [e]; simp⟩) (fun m hm=>?_) (fun b u e=>?_) I.bare
 ·have e:b=it:=by simpa using hb
  subst e
  exact⟨h1,hL,h2,h3⟩
 ·obtain ⟨o,es,ep,ho,r⟩:=hm
  exact⟨o,es,ep,k _ o (Ne.symm hL) ho,r⟩
 ·refine (I.hok b u e).stay (fun c v hc q=>k c v ?_ q) (fun _ q=>q) fun _ _ q=>q
  rcases hc with z | z
  ·rw [z]; exact nit b u e
  ·exact nit c _ z
theorem a6.tok (I:a6 X pins σ H s) (t:Nat):a6 X pins σ H { s with toks:=t }:=I.un (h':=s.heap) (t':=t) Un.refl I.hok
theorem a6.kept {t':Nat} (I:a6 X pins σ H s) (k:∀ b u,s.heap.get? b=some u->h'.get? b=some u):a6 X pins σ H { s with heap:=h',toks:=t' }:=I.un (Un.kept k) (I.hok.kept k)
theorem a6.laid {a:Addr}{o:HO}{t':Nat} (I:a6 X pins σ H s) (k:∀ b u,s.heap.get? b=some u->h'.get? b=some u) (hp:s.heap.objs.size<=a) (new:bT X.prog X.w (upd H a o) h' a o) :
  a6 X pins σ (upd H a o) { s with heap:=h',toks:=t' }:=I.un (Un.laid k hp (I.hok.fresh hp)) (I.hok.laid k hp new)
theorem a6.write {x e:Addr}{o:HO}{t':Nat} (I:a6 X pins σ H s) (mu:mD (H x)) (he:e=x ∨ H e=some (.own x)) (k:∀ b u,b ≠ e->s.heap.get? b=some u->h'.get? b=some u) (heo:∃ u,h'.get? e=some u)
  (new:bT X.prog X.w (upd H x o) h' x o):a6 X pins σ (upd H x o) { s with heap:=h',toks:=t' }:=I.un (Un.write mu he k heo) (I.hok.write mu he k heo new)
theorem a6.weak {σ':List (Option V)} (I:a6 X pins σ H s) (hl:σ'.length=σ.length) (w:∀ (i:Nat) v,σ'[i]? = some (some v)->σ[i]? = some (some v)):a6 X pins σ' H s:=
 ⟨I.ok,I.os,I.bare,I.base,let ⟨m,hn,hl'⟩:=I.loc; ⟨m,hn,fun i x v e1 e2 e3=>hl' i x v e1 (w i v e2) e3⟩,I.cell,I.free,I.freeC,I.pin,I.hok,hl.trans I.len⟩
theorem a6.pins_of {pins':List (Addr × Obj)} (I:a6 X pins σ H s) (h:∀ p ∈ pins',s.heap.get? p.1=some p.2/\H p.1=none/\p.1 ≠ X.env.locals/\p.1 ∉ X.fs/\∀ v,p.2.data ≠ .cell v):a6 X pins' σ H s:=
 ⟨I.ok,I.os,I.bare,I.base,I.loc,I.cell,I.free,I.freeC,fun p hp=>(be1.mp hp).elim (fun z=>I.pin p (bo4 _ z)) (h p),I.hok,I.len⟩
theorem xV {N:List Str} (hN:N.Nodup) {i j:Nat}{x:Str} (a:N[i]? = some x) (b:N[j]? = some x):i=j:=by
 obtain ⟨h1,e1⟩:=bc5.mp a
 obtain ⟨h2,e2⟩:=bc5.mp b
 exact (List.getElem_inj hN).mp (e1.trans e2.symm)
theorem sJ {M:Model}{A:Around}{E:Value->Shared->Prop}{i:Nat}{x:Str}{v:V}{u:Value}{Q:Unit->Shared->Prop} (I:a6 X pins σ H s) (hN:X.N.Nodup) (hi:X.N[i]? = some x) (hx:iP X.env.scope x) (r:aQ v u)
  (h:∀ s',a6 X pins (σ.set i (some v)) H s'->(∃ a,Heap.SameBut a s.heap s'.heap/\(a=X.env.locals ∨ X.env.cells.lookup x=some a))->Q () s') (hf:X.fn x=true ∨ X.env.scope.names.lookup x=some .local:=by first | exact .inl rfl | exact .inr rfl | assumption):wpAny M A (storeName X.env x u) Q E s:=by
 obtain ⟨m,hn,hl⟩:=id I.loc
 have hcls:(X.env.scope.kind == .class || (X.env.scope.kind == .module && X.env.locals != X.env.globals))=false:=by rw [I.ok.kind]; rfl
 have hiσ:i < σ.length:=by rw [I.len]; exact (bc5.mp hi).1
 have cne:=I.cne
 have tracked:∀ {a:Addr}{h':Heap},(∃ o,s.heap.get? a=some o/\H a=none)->Heap.SameBut a s.heap h'->bU X.prog X.w H h':=fun {a h'} ha hs b ob e=>by
  obtain ⟨_,_,hfree⟩:=ha
  refine (I.hok b ob e).stay (fun c w' hc q=>(hs.2 c ?_).trans q) (fun _ q=>q) fun _ _ q=>q
  rintro rfl
  rcases hc with rfl | hc
  ·rw [hfree] at e; cases e
  ·rw [hfree] at hc; cases hc
 rcases hx with hk | hk
 ·refine wpAny_storeName_local hk hn (fun h' hn' hs=>?_) hcls
  obtain ⟨oL,_,_,hoL,_⟩:=id hn
  refine h _ ⟨I.ok,I.os,I.bare,⟨fun b o e n hb hx=>?_,fun b o e n hb hx=>?_,I.base.free,fun b o e hx=>?_,I.base.tups,I.base.frzs,I.base.tbls⟩,⟨_,hn',fun j y v' e1 e2 e3=>?_⟩,fun y c e=>?_,I.free,I.freeC,fun p hp=>?_,tracked ⟨oL,hoL,I.free⟩ hs,by simpa using I.len⟩ ⟨_,hs,.inl rfl⟩
  ·exact (hs.2 b (be3 (bd0 (bc7 e) I.ok.above))).trans (I.base.keep b o e n hb hx)
  ·obtain ⟨sl,e1⟩:=I.base.slot b o e n hb hx
   exact⟨sl,(hs.2 b (be3 (bd0 (bc7 e) I.ok.above))).trans e1⟩
  ·obtain ⟨o',e1⟩:=I.base.there b o e hx
   exact⟨o',(hs.2 b (be3 (bd0 (bc7 e) I.ok.above))).trans e1⟩
  ·by_cases hj:j=i
   ·subst hj
    rw [hi] at e1; cases e1
    rw [bk0 hiσ] at e2
    cases e2
    exact⟨u,r,.inl ⟨hk,by simp⟩⟩
   ·rw [be6 (Ne.symm hj)] at e2
    obtain ⟨u',r',q⟩:=hl j y v' e1 e2 e3
    refine⟨u',r',?_⟩
    rcases q with ⟨k,e⟩ | ⟨k,c,e,z⟩
    ·refine .inl ⟨k,?_⟩
     have:y ≠ x:=fun e=>hj (xV hN e1 (e ▸ hi))
     simp [this,e]
    ·exact .inr ⟨k,c,e,z.sameBut hs (cne y c e)⟩
  ·obtain ⟨w',z⟩:=I.cell y c e
   exact⟨w',z.sameBut hs (cne y c e)⟩
  ·obtain ⟨e,n,ne,nf,d⟩:=I.pin p hp
   exact⟨(hs.2 p.1 ne).trans e,n,ne,nf,d⟩
 ·have hfn:X.fn x=true:=by
   rcases hf with z | z
   ·exact z
   ·rw [z] at hk; cases hk
  obtain ⟨c,hc⟩:=I.ok.has x (.inl hk)
  obtain ⟨w',z⟩:=I.cell x c hc
  refine wpAny_storeName_cell I.ok.kind hk hc z (fun h' hc' hs=>?_)
  obtain ⟨oc,hoc,hocd⟩:=id z
  refine h { s with heap:=h' } ⟨I.ok,I.os,I.bare,⟨fun b o e n hb hx=>?_,fun b o e n hb hx=>?_,I.base.free,fun b o e hx=>?_,I.base.tups,I.base.frzs,I.base.tbls⟩,⟨m,hn.sameBut hs (Ne.symm (cne x c hc)),fun j y v' e1 e2 e3=>?_⟩,fun y c' e=>?_,I.free,I.freeC,fun p hp=>?_,tracked ⟨oc,hoc,I.freeC x c hc⟩ hs,by simpa using I.len⟩ ⟨c,hs,.inr hc⟩
  ·exact (hs.2 b (be3 (bd0 (bc7 e) (I.ok.cab x c hfn hc)))).trans (I.base.keep b o e n hb hx)
  ·obtain ⟨sl,e1⟩:=I.base.slot b o e n hb hx
   exact⟨sl,(hs.2 b (be3 (bd0 (bc7 e) (I.ok.cab x c hfn hc)))).trans e1⟩
  ·obtain ⟨o',e1⟩:=I.base.there b o e hx
   exact⟨o',(hs.2 b (be3 (bd0 (bc7 e) (I.ok.cab x c hfn hc)))).trans e1⟩
  ·by_cases hj:j=i
   ·subst hj
    rw [hi] at e1; cases e1
    rw [bk0 hiσ] at e2
    cases e2
    exact⟨u,r,.inr ⟨.inl hk,c,hc,hc'⟩⟩
   ·rw [be6 (Ne.symm hj)] at e2
    obtain ⟨u',r',q⟩:=hl j y v' e1 e2 e3
    refine⟨u',r',?_⟩
    rcases q with q | ⟨k,c',e,z'⟩
    ·exact .inl q
    ·refine .inr ⟨k,c',e,z'.sameBut hs ?_⟩
     rintro rfl
     exact hj (xV hN e1 (I.ok.inj _ _ _ e hc ▸ hi))
  ·by_cases hcc:c'=c
   ·subst hcc; exact⟨_,hc'⟩
   ·obtain ⟨w2,z2⟩:=I.cell y c' e
    exact⟨w2,z2.sameBut hs hcc⟩
  ·obtain ⟨e,n,ne,nf,d⟩:=I.pin p hp
   refine⟨(hs.2 p.1 ?_).trans e,n,ne,nf,d⟩
   intro q
   rw [q,hoc] at e
   have q':oc=p.2:=be0 e
   exact d w' (by rw [<- q']; exact hocd)
theorem xW {M:Model}{A:Around}{E:Value->Shared->Prop}{i:Nat}{x:Str}{v:V}{u:Value}{Q:Unit->Shared->Prop} (I:a6 X pins σ H s) (hN:X.N.Nodup) (hi:X.N[i]? = some x) (hx:iP X.env.scope x) (r:aQ v u)
  (h:∀ s',a6 X pins (σ.set i (some v)) H s'->Q () s') (hf:X.fn x=true ∨ X.env.scope.names.lookup x=some .local:=by first | exact .inl rfl | exact .inr rfl | assumption):wpAny M A (storeName X.env x u) Q E s:=
 sJ I hN hi hx r (fun s' I' _=>h s' I') hf
theorem a6.call' {s':Shared}{ch:List Addr} (I:a6 X pins σ H s) (ho:s'.os=s.os) (u:Un (bX X.stack) ch H H' s.heap s'.heap) (hok:bU X.prog X.w H' s'.heap) (hg:AllBare s'.gens)
  (hch:∀ b ∈ ch,(b ∈ X.ex ∨ X.s₀.heap.objs.size<=b)/\b ≠ X.env.locals/\(∀ x c,X.env.cells.lookup x=some c->c ≠ b)/\∀ p ∈ X.pn ++ pins,p.1 ≠ b):a6 X pins σ H' s':=by
 obtain ⟨h',g',d',t',o'⟩:=s'
 have e:o'=s.os:=ho
 subst e
 exact I.call (g':=g') (t':=t') (d':=d') u hok hg hch
end
abbrev XK:=Value->Option Addr->Hp->Prop
abbrev St:=List (Option V)
abbrev VK:=V->Hp->Prop
abbrev TE:=St->Hp->VK->Prop
abbrev TT:=St->Hp->(Bool->Hp->Prop)->Prop
abbrev TA:=St->Hp->(List V->Hp->Prop)->Prop
structure cN where
 nx:St->Hp->Prop
 rt:VK
 bk:St->Hp->Prop:=fun _ _=>False
 ct:St->Hp->Prop:=fun _ _=>False
abbrev TS:=cN->St->Hp->Prop
def EP (X:Cx) (pins:List (Addr × Obj)) (σ:St) (Q:VK) (u:Value) (s':Shared):Prop:=∃ v H',a6 X pins σ H' s'/\aQ v u/\Q v H'
def TP (X:Cx) (pins:List (Addr × Obj)) (σ:St) (Q:Bool->Hp->Prop) (b:Bool) (s':Shared):Prop:=∃ H',a6 X pins σ H' s'/\Q b H'
def AP (X:Cx) (pins:List (Addr × Obj)) (σ:St) (Q:List V->Hp->Prop) (us:List Value) (s':Shared):Prop:=∃ vs H',a6 X pins σ H' s'/\aJ vs us/\Q vs H'
def SP (X:Cx) (pins:List (Addr × Obj)) (D:cN) (f:Flow) (s':Shared):Prop:=
 match f with
 | .next=>∃ σ' H',a6 X pins σ' H' s'/\D.nx σ' H'
 | .brk=>∃ σ' H',a6 X pins σ' H' s'/\D.bk σ' H'
 | .cont=>∃ σ' H',a6 X pins σ' H' s'/\D.ct σ' H'
 | .ret u=>∃ v σ' H',a6 X pins σ' H' s'/\aQ v u/\D.rt v H'
def PE (X:Cx) (e:Expr) (t:TE):Prop:=
 ∀ (pins:List (Addr × Obj)) (s:Shared) (σ:St) (H:Hp) (Q:VK),a6 X pins σ H s->t σ H Q->wpAny (model X.prog X.w) X.A (eval e X.env) (EP X pins σ Q) X.xe s
def PT (X:Cx) (e:Expr) (t:TT):Prop:=
 ∀ (pins:List (Addr × Obj)) (s:Shared) (σ:St) (H:Hp) (Q:Bool->Hp->Prop),a6 X pins σ H s->t σ H Q->wpAny (model X.prog X.w) X.A (isTrue e X.env (eval e X.env)) (TP X pins σ Q) X.xe s
def PW (X:Cx) (e:Expr) (t:TT):Prop:=
 ∀ (whole:Sem Value) (pins:List (Addr × Obj)) (s:Shared) (σ:St) (H:Hp) (Q:Bool->Hp->Prop),a6 X pins σ H s->t σ H Q->wpAny (model X.prog X.w) X.A (isTrue e X.env whole) (TP X pins σ Q) X.xe s
theorem PW.pt {X:Cx}{e:Expr}{t:TT} (h:PW X e t):PT X e t:=h _
def PA (X:Cx) (es:List Expr) (t:TA):Prop:=
 ∀ (pos:Pos) (pins:List (Addr × Obj)) (s:Shared) (σ:St) (H:Hp) (Q:List V->Hp->Prop),a6 X pins σ H s->t σ H Q->wpAny (model X.prog X.w) X.A (spliced (backTo pos (starEach es X.env))) (AP X pins σ Q) X.xe s
def PS (X:Cx) (st:Stmt) (t:TS):Prop:=
 ∀ (pins:List (Addr × Obj)) (s:Shared) (σ:St) (H:Hp) (D:cN),a6 X pins σ H s->t D σ H->wpAny (model X.prog X.w) X.A (exec st X.env) (SP X pins D) X.xe s
def dZ (X:Cx) (st:List Stmt) (t:TS):Prop:=
 ∀ (pins:List (Addr × Obj)) (s:Shared) (σ:St) (H:Hp) (D:cN),a6 X pins σ H s->t D σ H->wpAny (model X.prog X.w) X.A (execs st X.env) (SP X pins D) X.xe s
theorem aN {α:Type}{t:Sem α}{Q Q':α->Shared->Prop}{M:Model}{A:Around}{E:Value->Shared->Prop}{s:Shared} (h:wpAny M A t Q E s) (hQ:∀ a s,Q a s->Q' a s):wpAny M A t Q' E s:=bj6 h hQ fun _ _ x=>x
section
variable {X : Cx}
theorem mF {a b:Expr}{ta tb:TE} (ha:PE X a ta) (hb:PE X b tb) {pins:List (Addr × Obj)}{s:Shared}{σ:St}{H:Hp}{R:V->V->Hp->Prop} (I:a6 X pins σ H s) (h:ta σ H fun x H1=>tb σ H1 fun y H2=>R x y H2)
  {α:Type}{Q:α->Shared->Prop}{f:Value->Value->Sem α}
  (hf:∀ v u s2 x y H2,a6 X pins σ H2 s2->aQ x v->aQ y u->R x y H2->wpAny (model X.prog X.w) X.A (f v u) Q X.xe s2) :
  wpAny (model X.prog X.w) X.A (eval a X.env) (fun v s₁=>wpAny (model X.prog X.w) X.A (eval b X.env) (fun u s₂=>wpAny (model X.prog X.w) X.A (f v u) Q X.xe s₂) X.xe s₁) X.xe s:=by
 refine aN (ha pins s σ H _ I h) fun v s1 ⟨x,H1,I1,r1,q1⟩=>?_
 refine aN (hb pins s1 σ H1 _ I1 q1) fun u s2 ⟨y,H2,I2,r2,q2⟩=>?_
 exact hf v u s2 x y H2 I2 r1 r2 q2
def fR (i:Nat):TE:=fun σ H Q=>∃ v,σ[i]? = some (some v)/\Q v H
def tC (v:V):TE:=fun _ H Q=>Q v H
theorem i8 {i:Nat}{x:Str}{pos:Pos} (hN:X.N[i]? = some x) (hv:fQ X.env.scope x) (hd:(x == ("__debug__" : Str))=false:=by decide) (hcd:(x == ("__classdict__" : Str))=false:=by decide):PE X (.Name x pos) (fR i):=by
 intro pins s σ H Q I h
 obtain ⟨v,e,h⟩:=h
 obtain ⟨m,hn,hl⟩:=I.loc
 obtain ⟨u,r,l⟩:=hl i x v hN e hv
 have fin:EP X pins σ Q u s:=⟨v,H,I,r,h⟩
 rcases l with ⟨hk,hm⟩ | ⟨hk,c,hc,hcell⟩
 ·exact wpAny_Name (wpAny_loadName_local I.ok.kind hk hn hm fin) hd
 ·rcases hk with hk | hk
  ·exact wpAny_Name (wpAny_loadName_cell I.ok.kind hk hc hcell fin) hd
  ·exact wpAny_Name (wpAny_loadName_free I.ok.kind hk hc hcell fin hcd) hd
theorem sK {i j pos}:PE X (.Constant (.int i) j pos) (tC (.int i)):=fun _ _ _ H _ I h=>wpAny_Constant_int ⟨.int i,H,I.tok _,⟨_,rfl⟩,h⟩
theorem ae5 {b j pos}:PE X (.Constant (.bool b) j pos) (tC (.bl b)):=fun _ _ _ H _ I h=>Constant_bool ⟨.bl b,H,I,rfl,h⟩
theorem ae6 {x j pos}:PE X (.Constant (.str x) j pos) (tC (.str x)):=fun _ _ _ H _ I h=>Calls.Constant_str ⟨.str x,H,I.tok _,⟨_,rfl⟩,h⟩
def Gl (X:Cx) (x:Str):Prop:=X.env.kindOf x=some .globalImplicit
theorem sL {E:Value->Shared->Prop}{pins:List (Addr × Obj)}{s:Shared}{σ:St}{H:Hp}{x:Str}{u:Value}{pos:Pos}{Q:Value->Shared->Prop} (I:a6 X pins σ H s) (hg:Gl X x) (hm:X.mg x=some u) (h:Q u s)
  (hd:(x == ("__debug__" : Str))=false:=by decide):wpAny (model X.prog X.w) X.A (eval (.Name x pos) X.env) Q E s:=
 Calls.Name_function_global I.ok.kind hg (Calls.loadGlobal_global (by rw [I.ok.glob]; exact I.mod.glob.keeps I.bk) hm h) hd
theorem k7 {E:Value->Shared->Prop}{pins:List (Addr × Obj)}{s:Shared}{σ:St}{H:Hp}{x:Str}{u:Value}{pos:Pos}{Q:Value->Shared->Prop} (I:a6 X pins σ H s) (hg:Gl X x) (hm:X.mg x=none) (hv:bootBuiltins x=some u) (h:Q u s)
  (hn:x ≠ "__name__":=by decide) (hd:(x == ("__debug__" : Str))=false:=by decide):wpAny (model X.prog X.w) X.A (eval (.Name x pos) X.env) Q E s:=by
 obtain ⟨mb,h1,h2⟩:=I.mod.blt
 exact Calls.Name_function_global I.ok.kind hg (Calls.loadGlobal_builtin (by rw [I.ok.glob]; exact I.mod.glob.keeps I.bk) hm (by rw [I.ok.blt]; exact h1.keeps I.bk) ((h2 x hn).trans hv) h) hd
theorem ae7 {x:Str}{v:V}{u:Value}{pos:Pos} (hg:Gl X x) (hm:X.mg x=some u) (r:aQ v u) (hd:(x == ("__debug__" : Str))=false:=by decide):PE X (.Name x pos) (tC v):=
 fun _ _ _ H _ I h=>sL I hg hm ⟨v,H,I,r,h⟩ hd
variable {a b : Expr} {ta tb : TE} {pos : Pos}
def PC (X:Cx) (op:CmpOp) (a b:Expr) (t:TE):Prop:=
 ∀ (pins:List (Addr × Obj)) (s:Shared) (σ:St) (H:Hp) (Q:VK),a6 X pins σ H s->t σ H Q->
  wpAny (model X.prog X.w) X.A (eval a X.env) (fun v s₁=>wpAny (model X.prog X.w) X.A (eval b X.env) (fun u s₂=>wpAny (model X.prog X.w) X.A (compareOp op v u) (EP X pins σ Q) X.xe s₂) X.xe s₁) X.xe s
def tB (t:TE):TT:=fun σ H Q=>t σ H fun x H1=>∃ c,x = .bl c/\Q c H1
theorem ae8 {op:CmpOp}{t:TE} (h:PC X op a b t) (h1:behindInMarks op b=false:=by first | exact nobehind _ (by decide) (by decide) | rfl):PE X (.Compare a [op] [b] pos) t:=fun pins s σ H Q I hw=>wpAny_Compare1 (h pins s σ H Q I hw) h1
theorem ae9 {op:CmpOp}{t:TE} (h:PC X op a b t) (h1:behindInMarks op b=false:=by first | exact nobehind _ (by decide) (by decide) | rfl):PT X (.Compare a [op] [b] pos) (tB t):=by
 intro pins s σ H Q I hw
 refine wpAny_isTrue_Compare1 (aN (h pins s σ H _ I hw) fun v s1 h1=>aN h1 fun u s2 h2=>aN h2 fun c s3 ⟨x,H1,I1,r1,q1⟩=>?_) h1
 obtain ⟨d,rfl,q⟩:=q1
 cases r1
 exact bq5 ⟨H1,I1,q⟩
theorem af0 {e:Expr}{t:TE} (h:PE X e t) (he:∀ whole,isTrue e X.env whole=(do let v <- whole; standAt e.pos; holding [v] (truthy v)):=by intro _; rfl):PT X e (tB t):=by
 intro pins s σ H Q I hw
 refine isTrue_plain (aN (h pins s σ H _ I hw) fun v s1 ⟨x,H1,I1,r1,q1⟩=>?_) (he _)
 obtain ⟨d,rfl,q⟩:=q1
 cases r1
 exact bq5 ⟨H1,I1,q⟩
variable {tA tB' : TT} {cW : List Expr}
def xX (t u:TT):TT:=fun σ H Q=>t σ H fun c H1=>if c=true then u σ H1 Q else Q false H1
def xY (t u:TT):TT:=fun σ H Q=>t σ H fun c H1=>if c=true then Q true H1 else u σ H1 Q
def xZ (t:TT):TT:=fun σ H Q=>t σ H fun c H1=>Q (!c) H1
theorem af1 (ha:PT X a tA):PW X (.BoolOp .And [a] pos) tA:=by
 intro wh pins s σ H Q I h
 refine isTrue_and (aN (ha pins s σ H Q I h) fun c s1 e=>?_)
 cases c with
 | true=>exact isTrue_and_nil e
 | false=>exact e
theorem af2 (ha:PT X a tA):PW X (.BoolOp .Or [a] pos) tA:=by
 intro wh pins s σ H Q I h
 refine isTrue_or (aN (ha pins s σ H Q I h) fun c s1 e=>?_)
 cases c with
 | false=>exact isTrue_or_nil e
 | true=>exact e
theorem af3 (ha:PT X a tA) (hb:PW X (.BoolOp .And (b :: cW) pos) tB'):PW X (.BoolOp .And (a :: b :: cW) pos) (xX tA tB'):=by
 intro wh pins s σ H Q I h
 refine isTrue_and (aN (ha pins s σ H _ I h) fun c s1 ⟨H1,I1,q1⟩=>?_)
 cases c with
 | true=>exact hb wh pins s1 σ H1 Q I1 q1
 | false=>exact⟨H1,I1,q1⟩
theorem af4 (ha:PT X a tA) (hb:PW X (.BoolOp .Or (b :: cW) pos) tB'):PW X (.BoolOp .Or (a :: b :: cW) pos) (xY tA tB'):=by
 intro wh pins s σ H Q I h
 refine isTrue_or (aN (ha pins s σ H _ I h) fun c s1 ⟨H1,I1,q1⟩=>?_)
 cases c with
 | true=>exact⟨H1,I1,q1⟩
 | false=>exact hb wh pins s1 σ H1 Q I1 q1
theorem af5 (ha:PT X a tA):PT X (.UnaryOp .Not a pos) (xZ tA):=by
 intro pins s σ H Q I h
 exact isTrue_not (ha pins s σ H (fun c H1=>Q (!c) H1) I h)
def y9 (ta tb:TE):TE:=fun σ H Q=>ta σ H fun x H1=>∃ c,x = .bl c/\if c=true then tb σ H1 Q else Q (.bl false) H1
theorem af6 {op}{t:TE} (h:PE X a t):PE X (.BoolOp op [a] pos) t:=fun pins s σ H Q I hw=>BoolOp_one (h pins s σ H Q I hw)
theorem af7 (ha:PE X a ta) (hb:PE X (.BoolOp .And (b :: cW) pos) tb):PE X (.BoolOp .And (a :: b :: cW) pos) (y9 ta tb):=by
 intro pins s σ H Q I h
 refine BoolOp_and (aN (ha pins s σ H _ I h) fun v s1 ⟨x,H1,I1,r1,q1⟩=>?_)
 obtain ⟨c,rfl,q1⟩:=q1
 cases r1
 refine bq5 ?_
 cases c with
 | true=>exact hb pins s1 σ H1 Q I1 q1
 | false=>exact⟨.bl false,H1,I1,rfl,q1⟩
end
def aL (K:PySem.W.Frag) (H:Hp) (a:Addr) (xs:List V):Prop:=
 Rd H a (.lst xs) ∨
  ∃ (o:Obj) (its:Array Value) (n:Nat),K.lookup a=some o/\o.cls = .type "list"/\o.dict=none/\o.data = .seq its n/\its.size<=sizeLine/\aJ xs its.toList
def aI (K:PySem.W.Frag) (H:Hp) (a:Addr) (xs:List V):Prop:=
 Rd H a (.tup xs) ∨
  ∃ (o:Obj) (its:Array Value) (n:Nat),K.lookup a=some o/\o.cls = .type "tuple"/\o.data = .seq its n/\its.size<=sizeLine/\aJ xs its.toList
def af8:Value->Option V
 | .none=>some .non
 | .bool b=>some (.bl b)
 | .int i _=>some (.int i)
 | .str x _=>some (.str x)
 | .bytes b _=>some (.byt b)
 | .float b _=>some (.flt b)
 | .ref a=>some (.ref a)
 | .type n=>some (.ty n)
 | _=>none
theorem aQ.abs {x:V}{u:Value} (r:aQ x u):af8 u=some x:=by
 cases x with
 | non=>cases r; rfl
 | bl _=>cases r; rfl
 | int _=>obtain ⟨t,rfl⟩:=r; rfl
 | str _=>obtain ⟨t,rfl⟩:=r; rfl
 | byt _=>obtain ⟨t,rfl⟩:=r; rfl
 | flt _=>obtain ⟨t,rfl⟩:=r; rfl
 | ref _=>cases r; rfl
 | ty _=>cases r; rfl
theorem aQ.inj {x y:V}{u:Value} (r:aQ x u) (q:aQ y u):x=y:=be0 (r.abs.symm.trans q.abs)
theorem aJ.inj:∀ {xs ys:List V}{us:List Value},aJ xs us->aJ ys us->xs=ys
 | _,_,_,.nil,.nil=>rfl
 | _,_,_,.cons r t,.cons r' t'=>by rw [r.inj r',aJ.inj t t']
section
variable {X : Cx} {pins : List (Addr × Obj)} {σ : St} {H : Hp} {s : Shared} {a : Addr} {xs ys : List V}
theorem aL.of {K:PySem.W.Frag} (h:H a=some (.lst xs)):aL K H a xs:=.inl (.inl h)
theorem aI.of {K:PySem.W.Frag} (h:H a=some (.tup xs)):aI K H a xs:=.inl (.inl h)
theorem a6.list (I:a6 X pins σ H s) (h:aL X.K H a xs):∃ its:List Value,aJ xs its/\PlainL s.heap a its.toArray/\xs.length<=sizeLine:=by
 rcases h with h | ⟨o,its,n,hk,hc,hd,hs,hz,r⟩
 ·obtain ⟨z,its,n,r,e⟩:=h.ok I.hok
  exact⟨its,r,⟨_,n,e,rfl,rfl,rfl⟩,z⟩
 ·refine⟨its.toList,r,⟨o,n,I.kIn a o hk,hc,hd,by simpa using hs⟩,?_⟩
  have e:=r.length
  simp only [bd9] at e
  omega
theorem a6.tuple (I:a6 X pins σ H s) (h:aI X.K H a xs):∃ its:List Value,aJ xs its/\IsTup s.heap a its.toArray/\xs.length<=sizeLine:=by
 rcases h with h | ⟨o,its,n,hk,hc,hs,hz,r⟩
 ·obtain ⟨z,its,r,p,_⟩:=h.ok I.hok
  exact⟨its,r,p,z⟩
 ·refine⟨its.toList,r,⟨o,I.kIn a o hk,hc,n,by simpa using hs⟩,?_⟩
  have e:=r.length
  simp only [bd9] at e
  omega
theorem a6.list_inj (I:a6 X pins σ H s) (h:aL X.K H a xs) (h':aL X.K H a ys):xs=ys:=by
 obtain ⟨its,r,⟨o,n,e,_,_,d⟩,_⟩:=I.list h
 obtain ⟨its',r',⟨o',n',e',_,_,d'⟩,_⟩:=I.list h'
 rw [e] at e'; cases e'
 rw [d] at d'
 injection d' with d1 _
 have:its=its':=by simpa using congrArg Array.toList d1
 subst this
 exact r.inj r'
theorem a6.tuple_inj (I:a6 X pins σ H s) (h:aI X.K H a xs) (h':aI X.K H a ys):xs=ys:=by
 obtain ⟨its,r,⟨o,e,_,n,d⟩,_⟩:=I.tuple h
 obtain ⟨its',r',⟨o',e',_,n',d'⟩,_⟩:=I.tuple h'
 rw [e] at e'; cases e'
 rw [d] at d'
 injection d' with d1 _
 have:its=its':=by simpa using congrArg Array.toList d1
 subst this
 exact r.inj r'
end
abbrev Cx.wish (X:Cx) (E:Value->Shared->Prop):Cx:={ X with xe:=E }
abbrev Cx.nox (X:Cx):Cx:=X.wish fun _ _=>False
theorem Cx.Ok.wish {X:Cx} (ok:X.Ok) (E:Value->Shared->Prop):(X.wish E).Ok:=
 ⟨ok.mod,ok.kind,ok.glob,ok.blt,ok.above,ok.inj,ok.has,ok.cab,ok.hd,ok.frames,ok.stk,ok.exf,ok.bs,ok.bsz,ok.noex,ok.exfs,ok.funs,ok.frf⟩
theorem Cx.Ok.unwish {X:Cx}{E:Value->Shared->Prop} (ok:(X.wish E).Ok):X.Ok:=
 ⟨ok.mod,ok.kind,ok.glob,ok.blt,ok.above,ok.inj,ok.has,ok.cab,ok.hd,ok.frames,ok.stk,ok.exf,ok.bs,ok.bsz,ok.noex,ok.exfs,ok.funs,ok.frf⟩
section
variable {X : Cx} {pins : List (Addr × Obj)} {σ : St} {H : Hp} {s : Shared} {E : Value → Shared → Prop}
theorem a6.wish (I:a6 X pins σ H s) (E:Value->Shared->Prop):a6 (X.wish E) pins σ H s:=⟨I.ok.wish E,I.os,I.bare,I.base,I.loc,I.cell,I.free,I.freeC,I.pin,I.hok,I.len⟩
theorem a6.unwish (I:a6 (X.wish E) pins σ H s):a6 X pins σ H s:=⟨I.ok.unwish,I.os,I.bare,I.base,I.loc,I.cell,I.free,I.freeC,I.pin,I.hok,I.len⟩
theorem SP.unwish {D:cN}{f:Flow}{s':Shared} (h:SP (X.wish E) pins D f s'):SP X pins D f s':=by
 cases f with
 | next=>obtain ⟨σ',H',I,q⟩:=h; exact⟨σ',H',I.unwish,q⟩
 | brk=>obtain ⟨σ',H',I,q⟩:=h; exact⟨σ',H',I.unwish,q⟩
 | cont=>obtain ⟨σ',H',I,q⟩:=h; exact⟨σ',H',I.unwish,q⟩
 | ret u=>obtain ⟨v,σ',H',I,r,q⟩:=h; exact⟨v,σ',H',I.unwish,r,q⟩
theorem dZ.nox {st:List Stmt}{t:TS} (h:dZ X.nox st t):dZ X st t:=fun pins s σ H D I hw=>
 bj6 (h pins s σ H D (I.wish _) hw) (fun _ _ q=>q.unwish) fun _ _ z=>False.elim z
end
section
variable {X : Cx} {st : Stmt} {cW : List Stmt} {t u : TS} {e : Expr} {te : TE} {pos : Pos}
def yA:TS:=fun D σ H=>D.nx σ H
def yB (t u:TS):TS:=fun D σ H=>t { D with nx:=u D } σ H
theorem af9:dZ X [] yA:=fun _ _ σ H _ I h=>wpAny_execs_nil ⟨σ,H,I,h⟩
theorem oM (h1:PS X st t) (h2:dZ X cW u):dZ X (st :: cW) (yB t u):=by
 intro pins s σ H D I h
 refine wpAny_execs_cons (aN (h1 pins s σ H { D with nx:=u D } I h) fun f s1 q=>?_)
 cases f with
 | next=>
  obtain ⟨σ',H',I',q⟩:=q
  exact h2 pins s1 σ' H' D I' q
 | ret v=>exact q
 | brk=>exact q
 | cont=>exact q
theorem sM (h1:PS X st t):dZ X [st] t:=by
 intro pins s σ H D I h
 refine wpAny_execs_cons (aN (h1 pins s σ H D I h) fun f s1 q=>?_)
 cases f with
 | next=>exact wpAny_execs_nil q
 | ret v=>exact q
 | brk=>exact q
 | cont=>exact q
theorem a6.quiet {pins:List (Addr × Obj)}{σ:St}{H:Hp}{s:Shared} (I:a6 X pins σ H s):interactive X.env=false:=by simp [interactive,I.ok.kind]
def oN (te:TE):TS:=fun D σ H=>te σ H fun _ H1=>D.nx σ H1
theorem mG (he:PE X e te) (hs:swapsWith e none pos.line X.env=pure false:=by rfl):PS X (.Expr e pos) (oN te):=by
 intro pins s σ H D I h
 exact wpAny_Expr_any (aN (he pins s σ H _ I h) fun v s1 ⟨x,H1,I1,r1,q1⟩=>⟨σ,H1,I1,q1⟩) I.quiet hs
def sN (te:TE):TS:=fun D σ H=>te σ H D.rt
theorem sO (he:PE X e te):PS X (.Return (some e) pos) (sN te):=by
 intro pins s σ H D I h
 exact wpAny_Return_some (aN (he pins s σ H _ I h) fun v s1 ⟨x,H1,I1,r1,q1⟩=>⟨x,σ,H1,I1,r1,q1⟩)
def yC (c:TT) (t u:TS):TS:=fun D σ H=>c σ H fun b H1=>if b=true then t D σ H1 else u D σ H1
theorem ag0 {c:Expr}{a b:List Stmt}{tc:TT} (hc:PT X c tc) (ha:dZ X a t) (hb:dZ X b u):PS X (.If c a b pos) (yC tc t u):=by
 intro pins s σ H D I h
 refine wpAny_If (aN (hc pins s σ H _ I h) fun d s1 ⟨H1,I1,q1⟩=>?_)
 cases d with
 | true=>exact ha pins s1 σ H1 D I1 q1
 | false=>exact hb pins s1 σ H1 D I1 q1
def ag1:TS:=fun _ _ _=>False
theorem ag2:PS X st ag1:=fun _ _ _ _ _ _ h=>h.elim
end
abbrev TG:=V->St->Hp->(St->Hp->Prop)->Prop
abbrev k8:=List V->St->Hp->(St->Hp->Prop)->Prop
def PG (X:Cx) (target:Expr) (t:TG):Prop:=
 ∀ (pins:List (Addr × Obj)) (s:Shared) (σ:St) (H:Hp) (v:V) (u:Value) (Q:St->Hp->Prop),a6 X pins σ H s->aQ v u->t v σ H Q->
  wpAny (model X.prog X.w) X.A (assign target X.env u) (fun _ s'=>∃ σ' H',a6 X pins σ' H' s'/\Q σ' H') X.xe s
def oO (X:Cx) (ts:List Expr) (t:k8):Prop:=
 ∀ (pins:List (Addr × Obj)) (s:Shared) (σ:St) (H:Hp) (vs:List V) (us:List Value) (Q:St->Hp->Prop),a6 X pins σ H s->aJ vs us->t vs σ H Q->
  wpAny (model X.prog X.w) X.A (assignInOrder ((assignEach ts X.env).map (·.2)) us) (fun _ s'=>∃ σ' H',a6 X pins σ' H' s'/\Q σ' H') X.xe s
abbrev sP:=V->V->V->Hp->(Hp->Prop)->Prop
def yD (X:Cx) (t:sP):Prop:=
 ∀ (pins:List (Addr × Obj)) (s:Shared) (σ:St) (H:Hp) (o i v:V) (ov iv u:Value) (Q:Hp->Prop),a6 X pins σ H s->aQ o ov->aQ i iv->aQ v u->t o i v H Q->
  wpAny (model X.prog X.w) X.A (setItem ov iv u) (fun _ s'=>∃ H',a6 X pins σ H' s'/\Q H') X.xe s
section
variable {X : Cx} {pos : Pos}
def cX (i:Nat):TG:=fun v σ H Q=>Q (σ.set i (some v)) H
theorem iQ {i:Nat}{x:Str} (hN:X.N.Nodup) (hi:X.N[i]? = some x) (hx:iP X.env.scope x) (hf:X.fn x=true ∨ X.env.scope.names.lookup x=some .local:=by first | exact .inl rfl | exact .inr rfl | assumption):PG X (.Name x pos) (cX i):=by
 intro pins s σ H v u Q I r h
 exact wpAny_assign_Name (xW I hN hi hx r (fun s' I'=>⟨_,H,I',h⟩) hf)
def mH:k8:=fun vs σ H Q=>vs = []/\Q σ H
def iR (t:TG) (u:k8):k8:=fun vs σ H Q=>∃ v r,vs=v :: r/\t v σ H fun σ' H'=>u r σ' H' Q
theorem sQ:oO X [] mH:=by
 intro pins s σ H vs us Q I r h
 obtain ⟨e,h⟩:=h
 subst e
 cases r
 exact assignInOrder_nil ⟨σ,H,I,h⟩
theorem kY {e:Expr}{es:List Expr}{t:TG}{u:k8} (h1:PG X e t) (h2:oO X es u)
  (hs:(assignEach (e :: es) X.env).map (·.2)=assign e X.env :: (assignEach es X.env).map (·.2):=by rfl):oO X (e :: es) (iR t u):=by
 intro pins s σ H vs us Q I r h
 obtain ⟨v,vr,e1,h⟩:=h
 subst e1
 cases r with
 | cons r rr=>
  rw [hs]
  refine assignInOrder_cons (aN (h1 pins s σ H _ _ _ I r h) fun _ s1 ⟨σ1,H1,I1,q1⟩=>?_)
  exact h2 pins s1 σ1 H1 _ _ Q I1 rr q1
def mI (K:PySem.W.Frag) (n:Nat) (t:k8):TG:=fun v σ H Q=>∃ a xs,v = .ref a/\aI K H a xs/\xs.length=n/\t xs σ H Q
theorem sR {es:List Expr}{k:Nat}{t:k8}{n:Nat} (hc:X.calm=true) (h:oO X es t)
  (hn:(assignEach es X.env).length=n:=by rfl) (hst:(assignEach es X.env).findIdx? (·.1)=none:=by rfl):PG X (.Tuple es k pos) (mI X.K n t):=by
 intro pins s σ H v u Q I r hw
 obtain ⟨a,xs,e1,hq,hl,hw⟩:=hw
 subst e1
 cases r
 obtain ⟨its,rv,ht,hz⟩:=I.tuple hq
 refine assign_Tuple_tuple (I.ok.hd hc) ht (by simp [hn,<- hl,rv.length]) hst fun h' hx=>?_
 have I1:a6 X pins σ H { s with heap:=h' }:=I.kept (t':=s.toks) fun b o e=>hx b o (be3 (bc7 e)) e
 exact h pins _ σ H xs _ Q I1 (by simpa using rv) hw
def sT (to ti:TE) (t:sP):TG:=fun v σ H Q=>to σ H fun o H1=>ti σ H1 fun i H2=>t o i v H2 fun H3=>Q σ H3
theorem ag3 {o i:Expr}{to ti:TE}{t:sP} (ho:PE X o to) (hi:PE X i ti) (hs:yD X t)
  (ha:∀ v,assign (.Subscript o i pos) X.env v=(do
   let ov <- holding [v] (eval o X.env)
   let iv <- holding [v,ov] (eval i X.env)
   standAt pos
   holding [v,ov,iv] (setItem ov iv v)
   release [v,ov,iv] []):=by intro _; rfl):PG X (.Subscript o i pos) (sT to ti t):=by
 intro pins s σ H v u Q I r h
 rw [ha]
 refine ba9 (bj9 (aN (ho pins s σ H _ I h) fun ov s1 ⟨x,H1,I1,r1,q1⟩=>?_))
 refine ba9 (bj9 (aN (hi pins s1 σ H1 _ I1 q1) fun iv s2 ⟨y,H2,I2,r2,q2⟩=>?_))
 refine ba9 (wpAny_standAt (ba9 (bj9 (aN (hs pins s2 σ H2 x y v ov iv u _ I2 r1 r2 r q2) fun _ s3 ⟨H3,I3,q3⟩=>?_))))
 exact wpAny_release ⟨σ,H3,I3,q3⟩
def iS (te:TE) (g:TG):TS:=fun D σ H=>te σ H fun x H1=>g x σ H1 D.nx
theorem ag4 {tg e:Expr}{te:TE}{g:TG} (he:PE X e te) (hg:PG X tg g) (hs:swapsWithSole [tg] e pos.line X.env=pure false:=by rfl) (hw:swappedStores [tg] e X.env=pure none:=by rfl)
  (h1:(assignEach [tg] X.env).map (·.2) = [assign tg X.env]:=by rfl):PS X (.Assign [tg] e pos) (iS te g):=by
 intro pins s σ H D I h
 refine wpAny_Assign_stores (aN (he pins s σ H _ I h) fun v s1 ⟨x,H1,I1,r1,q1⟩=>?_) hs hw
 rw [h1]
 exact aN (hg pins s1 σ H1 x v _ I1 r1 q1) fun _ s2 q=>q
theorem yE {i:Nat}{x:Str}{e:Expr}{te:TE}{pos':Pos} (hN:X.N.Nodup) (hi:X.N[i]? = some x) (hx:iP X.env.scope x) (he:PE X e te) (hs:swapsWith e (some (.Name x pos')) pos.line X.env=pure false:=by rfl) (hf:X.fn x=true ∨ X.env.scope.names.lookup x=some .local:=by first | exact .inl rfl | exact .inr rfl | assumption) :
  PS X (.Assign [.Name x pos'] e pos) (iS te (cX i)):=by
 intro pins s σ H D I h
 refine wpAny_Assign_Name (aN (he pins s σ H _ I h) fun v s1 ⟨y,H1,I1,r1,q1⟩=>?_) hs
 exact xW I1 hN hi hx r1 (fun s2 I2=>⟨_,H1,I2,q1⟩) hf
end
section
variable {X : Cx} {pos : Pos}
def yF (c:TT) (tb:TS):TS:=fun D σ H=>∃ W:Nat->St->Hp->Prop,(∃ m,W m σ H)/\∀ m σ H,W m σ H->
 c σ H fun b H1=>if b=true then ∃ N:St->Hp->Prop,(∀ σ' H',N σ' H'->∃ m',m' < m/\W m' σ' H')/\tb { D with nx:=N,ct:=N,bk:=D.nx } σ H1 else D.nx σ H1
theorem ag5 {c:Expr}{body:List Stmt}{tc:TT}{tb:TS} (hp:PassesOwn (model X.prog X.w) X.A X.env X.xe) (hc:PT X c tc) (hb:dZ X body tb):PS X (.While c body [] pos) (yF tc tb):=by
 intro pins s σ H D I h
 obtain ⟨W,⟨m0,w0⟩,turn⟩:=h
 refine wpAny_While (codeAny_whileLoop (fun n s'=>∃ σ' H',a6 X pins σ' H' s'/\W n σ' H') ?_ m0 ⟨σ,H,I,w0⟩)
 rintro n s1 ⟨σ1,H1,I1,w1⟩
 refine bq2 hp (aN (hc pins s1 σ1 H1 _ I1 (turn n σ1 H1 w1)) fun b s2 ⟨H2,I2,q2⟩=>?_)
 cases b with
 | true=>
  obtain ⟨N,hN,q2⟩:=q2
  rw [if_pos rfl]
  refine bq2 hp (aN (hb pins s2 σ1 H2 _ I2 q2) fun f s3 q3=>?_)
  cases f with
  | next=>
   obtain ⟨σ3,H3,I3,n3⟩:=q3
   obtain ⟨m',hm,w3⟩:=hN σ3 H3 n3
   exact⟨m',hm,σ3,H3,I3,w3⟩
  | cont=>
   obtain ⟨σ3,H3,I3,n3⟩:=q3
   obtain ⟨m',hm,w3⟩:=hN σ3 H3 n3
   exact⟨m',hm,σ3,H3,I3,w3⟩
  | brk=>exact q3
  | ret v=>exact q3
 | false=>
  rw [if_neg bd4]
  exact wpAny_execs_nil ⟨σ1,H2,I2,q2⟩
end
structure It where
 go:Nat->Hp->Prop
 yld:Nat->Hp->V->Hp->Prop
 stop:Nat->Hp->Prop
def fS (X:Cx) (pins:List (Addr × Obj)) (H:Hp) (b:Addr):Prop:=
 H b=none/\b ≠ X.env.locals/\b ∉ X.fs/\(b ∈ X.ex ∨ X.s₀.heap.objs.size<=b)/\(∀ x c,X.env.cells.lookup x=some c->c ≠ b)/\∀ p ∈ X.pn ++ pins,p.1 ≠ b
theorem a6.fpOk {X:Cx}{pins:List (Addr × Obj)}{σ:St}{H H':Hp}{s:Shared}{b:Addr} (I:a6 X pins σ H s) (hb:s.heap.objs.size<=b) (hn:H' b=none):fS X pins H' b:=by
 refine⟨hn,bi2 (bd0 I.lt hb),I.nofs hb,.inr (bf6 I.sz hb),fun x c e z=>?_,fun p hp z=>?_⟩
 ·obtain ⟨v,q⟩:=I.cell x c e
  exact absurd (bd0 q.lt (by rw [z]; exact hb)) (bg0 _)
 ·exact absurd (bd0 (bc7 (I.pin p hp).1) (by rw [z]; exact hb)) (bg0 _)
structure gP (P:Program) (w:World) (K:PySem.W.Frag) (tg:Expr) (J:It) (fp:List Addr) (it:Addr) (tn:Nat->Heap->Prop):Prop where
 mem:it ∈ fp
 obj:∀ i h,tn i h->∀ b ∈ fp,∃ o,h.get? b=some o/\∀ v,o.data ≠ .cell v
 keep:∀ i h h',tn i h->(∀ b ∈ fp,∀ o,h.get? b=some o->h'.get? b=some o)->tn i h'
 item:∀ (X:Cx),X.prog=P->X.w=w->X.K=K->X.calm=true->∀ (i:Nat) (pins:List (Addr × Obj)) (s:Shared) (σ:St) (H:Hp) (E:Value->Shared->Prop),a6 X pins σ H s->(∀ b ∈ fp,fS X pins H b)->tn i s.heap->J.go i H->
  wpAny (model P w) X.A (pyNext (.ref it)) (fun r s1=>∃ u,r=some u/\
   wpAny (model P w) X.A (letOwnedTupleGo tg (.ref it) u) (fun _ s2=>∃ x H',a6 X pins σ H' s2/\aQ x u/\J.yld i H x H'/\tn (i+1) s2.heap/\∀ b ∈ fp,H' b=none) E s1) E s
 done:∀ (X:Cx),X.prog=P->X.w=w->X.K=K->X.calm=true->∀ (i:Nat) (pins:List (Addr × Obj)) (s:Shared) (σ:St) (H:Hp) (E:Value->Shared->Prop),a6 X pins σ H s->(∀ b ∈ fp,fS X pins H b)->tn i s.heap->J.stop i H->
  wpAny (model P w) X.A (pyNext (.ref it)) (fun r s1=>r=none/\a6 X pins σ H s1) E s
 self:∀ (A:Around) (i:Nat) (s:Shared) (Q:Value->Shared->Prop) (E:Value->Shared->Prop),tn i s.heap->Q (.ref it) s->wpAny (model P w) A (pyIter (.ref it)) Q E s
abbrev TI:=St->Hp->(It->Hp->Prop)->Prop
def yG (X:Cx) (pins:List (Addr × Obj)) (σ:St) (tg:Expr) (R:It->Hp->Prop) (itv:Value) (s2:Shared):Prop:=
 ∃ (it:Addr) (fp:List Addr) (tn:Nat->Heap->Prop) (J:It) (H':Hp),itv = .ref it/\a6 X pins σ H' s2/\gP X.prog X.w X.K tg J fp it tn/\tn 0 s2.heap/\(∀ b ∈ fp,fS X pins H' b)/\R J H'
def PI (X:Cx) (tg iter:Expr) (wi:TI):Prop:=
 ∀ (pins:List (Addr × Obj)) (s:Shared) (σ:St) (H:Hp) (R:It->Hp->Prop),a6 X pins σ H s->wi σ H R->
  wpAny (model X.prog X.w) X.A (eval iter X.env) (fun v s1=>wpAny (model X.prog X.w) X.A (pyIter v) (yG X pins σ tg R) X.xe s1) X.xe s
theorem oP {M:Model}{A:Around}{E:Value->Shared->Prop}{s:Shared}{tg:Expr}{it:Addr}{u:Value}{o:Obj}{n:String}{vs:Array Value}{Q:Unit->Shared->Prop} (ho:s.heap.get? it=some o) (hc:o.cls = .type n) (hd:o.data = .fields vs)
    (hn : ["enumerate","zip","dict_itemiterator","dict_reverseitemiterator","odict_iterator","itertools.zip_longest","itertools.pairwise"].contains n=false) (hQ:Q () s):wpAny M A (letOwnedTupleGo tg (.ref it) u) Q E s:=by
  unfold letOwnedTupleGo
  cases tg <;> first
    | exact bb3 hQ
    | (cases u <;> first
        | exact bb3 hQ
        | (refine ba9 (wpAny_load ho ?_)
           rw [hc,hd]
           show wpAny M A (if (["enumerate","zip","dict_itemiterator","dict_reverseitemiterator","odict_iterator","itertools.zip_longest","itertools.pairwise"].contains n && vs[0]? == some (rawInt _))=true then _ else _) Q E s
           rw [if_neg (by intro h; rw [hn,Bool.false_and] at h; cases h)]
           exact bb3 hQ))
def kZ (K:PySem.W.Frag) (a:Addr):It:=
 ⟨fun i H=>∃ xs x,aL K H a xs/\xs[i]? = some x,fun i H x H'=>H'=H/\∀ xs,aL K H a xs->xs[i]? = some x,fun i H=>∃ xs,aL K H a xs/\xs.length<=i⟩
def jK (K:PySem.W.Frag) (a:Addr):It:=
 ⟨fun i H=>∃ xs x,aI K H a xs/\xs[i]? = some x,fun i H x H'=>H'=H/\∀ xs,aI K H a xs->xs[i]? = some x,fun i H=>∃ xs,aI K H a xs/\xs.length<=i⟩
def mJ (lo:Int) (n:Nat):It:=⟨fun i _=>i < n,fun i H x H'=>H'=H/\x = .int (lo+i),fun i _=>n<=i⟩
theorem ag6 {P:Program}{w:World}{K:PySem.W.Frag}{tg:Expr} (a it:Addr):gP P w K tg (kZ K a) [it] it (fun i h=>h.IsListIter it a i) where
 mem:=by simp
 obj:=fun i h st b hb=>by
  have e:b=it:=by simpa using hb
  subst e
  obtain ⟨o,e,c,d⟩:=st
  exact⟨o,e,fun v z=>by rw [d] at z; cases z⟩
 keep:=fun i h h' st k=>st.at fun o e=>k it (by simp) o e
 item:=by
  intro X hP hw hK hc i pins s σ H E I hf st hg
  subst hP hw hK
  obtain ⟨xs,x,hq,hx⟩:=hg
  obtain ⟨its,rv,p,hz⟩:=I.list hq
  obtain ⟨u,hu,ru⟩:=rv.get hx
  obtain ⟨f0,f1,f2,f3,f4,f5⟩:=hf it (by simp)
  refine wpAny_pyNext_list_item st p.isList (x:=u) (by simpa using hu) fun h' st' sb=>?_
  have I1:a6 X pins σ H { s with heap:=h' }:=I.turned (t':=s.toks) (fun b o hb e=>(sb.2 b hb).trans e) f0 f1 f3 f4 f5
  obtain ⟨o,e,c,d⟩:=id st'
  exact⟨u,rfl,oP (s:={ s with heap:=h' }) e c d (by decide) ⟨x,H,I1,ru,⟨rfl,fun ys hy=>by rw [I.list_inj hy hq]; exact hx⟩,st',fun b hb=>(hf b hb).1⟩⟩
 done:=by
  intro X hP hw hK hc i pins s σ H E I hf st hg
  subst hP hw hK
  obtain ⟨xs,hq,hx⟩:=hg
  obtain ⟨its,rv,p,hz⟩:=I.list hq
  obtain ⟨f0,f1,f2,f3,f4,f5⟩:=hf it (by simp)
  have hl:=rv.length
  exact wpAny_pyNext_list_end (I.ok.hd hc) st p.isList (by simp; omega) fun h' eb=>⟨rfl,I.turned (t':=s.toks) (fun b o hb e=>eb b o hb e) f0 f1 f3 f4 f5⟩
 self:=fun _ _ _ _ _ st h=>wpAny_pyIter_listiter st h
theorem yH {P:Program}{w:World}{K:PySem.W.Frag}{tg:Expr} (a it:Addr):gP P w K tg (jK K a) [it] it (fun i h=>h.IsTupleIter it a i) where
 mem:=by simp
 obj:=fun i h st b hb=>by
  have e:b=it:=by simpa using hb
  subst e
  obtain ⟨o,e,c,d⟩:=st
  exact⟨o,e,fun v z=>by rw [d] at z; cases z⟩
 keep:=fun i h h' st k=>st.at fun o e=>k it (by simp) o e
 item:=by
  intro X hP hw hK hc i pins s σ H E I hf st hg
  subst hP hw hK
  obtain ⟨xs,x,hq,hx⟩:=hg
  obtain ⟨its,rv,p,hz⟩:=I.tuple hq
  obtain ⟨u,hu,ru⟩:=rv.get hx
  obtain ⟨f0,f1,f2,f3,f4,f5⟩:=hf it (by simp)
  refine wpAny_pyNext_tuple_item st (show s.heap.IsTuple a its.toArray from p) (x:=u) (by simpa using hu) fun h' st' sb=>?_
  have I1:a6 X pins σ H { s with heap:=h' }:=I.turned (t':=s.toks) (fun b o hb e=>(sb.2 b hb).trans e) f0 f1 f3 f4 f5
  obtain ⟨o,e,c,d⟩:=id st'
  exact⟨u,rfl,oP (s:={ s with heap:=h' }) e c d (by decide) ⟨x,H,I1,ru,⟨rfl,fun ys hy=>by rw [I.tuple_inj hy hq]; exact hx⟩,st',fun b hb=>(hf b hb).1⟩⟩
 done:=by
  intro X hP hw hK hc i pins s σ H E I hf st hg
  subst hP hw hK
  obtain ⟨xs,hq,hx⟩:=hg
  obtain ⟨its,rv,p,hz⟩:=I.tuple hq
  obtain ⟨f0,f1,f2,f3,f4,f5⟩:=hf it (by simp)
  have hl:=rv.length
  exact wpAny_pyNext_tuple_end (I.ok.hd hc) st (show s.heap.IsTuple a its.toArray from p) (by simp; omega) fun h' eb=>⟨rfl,I.turned (t':=s.toks) (fun b o hb e=>eb b o hb e) f0 f1 f3 f4 f5⟩
 self:=fun _ _ _ _ _ st h=>wpAny_pyIter_tupleiter st h
theorem ag7 {P:Program}{w:World}{K:PySem.W.Frag}{tg:Expr} (it:Addr) (lo:Int) (n:Nat):gP P w K tg (mJ lo n) [it] it (fun i h=>IsRangeIter h it (lo+(i:Nat) * 1) ((n:Int) - (i:Nat)) 1) where
 mem:=by simp
 obj:=fun i h st b hb=>by
  have e:b=it:=by simpa using hb
  subst e
  exact⟨_,st,fun v z=>by
   have z':Data.fields _=Data.cell v:=z
   cases z'⟩
 keep:=fun i h h' st k=>k it (by simp) _ st
 item:=by
  intro X hP hw hK hc i pins s σ H E I hf st hg
  subst hP hw hK
  obtain ⟨f0,f1,f2,f3,f4,f5⟩:=hf it (by simp)
  have W:=Walks.range (prog:=X.prog) (w:=X.w) (I.ok.hd hc) it lo 1 n
  refine W.item i s _ _ hg st fun v h' tk hv st' kk=>?_
  obtain ⟨t,rfl⟩:=hv
  have I1:a6 X pins σ H { s with heap:=h',toks:=tk }:=I.turned (fun b o hb e=>kk b o (by simpa using hb) e) f0 f1 f3 f4 f5
  refine⟨_,rfl,oP (s:={ s with heap:=h',toks:=tk }) (n:="range_iterator") st' rfl rfl (by decide) ⟨.int (lo+i),H,I1,⟨t,?_⟩,⟨rfl,rfl⟩,st',fun b hb=>(hf b hb).1⟩⟩
  rw [Int.mul_one]
 done:=by
  intro X hP hw hK hc i pins s σ H E I hf st hg
  subst hP hw hK
  obtain ⟨f0,f1,f2,f3,f4,f5⟩:=hf it (by simp)
  exact wpAny_pyNext_range_end (I.ok.hd hc) st (by have:n<=i:=hg; omega) fun h' eb=>⟨rfl,I.turned (t':=s.toks) (fun b o hb e=>eb b o hb e) f0 f1 f3 f4 f5⟩
 self:=fun _ _ _ _ _ st h=>wpAny_pyIter_rangeiter st h
section
variable {X : Cx} {tg : Expr}
def ag8 (K:PySem.W.Frag) (tl:TE):TI:=fun σ H R=>tl σ H fun x H1=>∃ a,x = .ref a/\(∃ xs,aI K H1 a xs)/\R (jK K a) H1
theorem yI {l:Expr}{tl:TE} (hl:PE X l tl):PI X tg l (ag8 X.K tl):=by
 intro pins s σ H R I h
 refine aN (hl pins s σ H _ I h) fun v s1 ⟨x,H1,I1,r1,q1⟩=>?_
 obtain ⟨a,e,⟨xs,hq⟩,q⟩:=q1
 subst e
 cases r1
 obtain ⟨its,rv,p,hz⟩:=I1.tuple hq
 refine bn6 (show s1.heap.IsTuple a its.toArray from p) ?_
 refine⟨s1.heap.objs.size,[s1.heap.objs.size],_,_,H1,rfl,I1.kept (t':=s1.toks) fun b o e=>bb1 _ e,yH a _,⟨_,bb9 _ rfl,rfl,rfl⟩,fun b hb=>?_,q⟩
 have e:b=s1.heap.objs.size:=by simpa using hb
 subst e
 exact I1.fpOk (bb6 _) (I1.hok.fresh (bb6 _))
theorem yJ {pins:List (Addr × Obj)}{σ:St}{H:Hp}{s:Shared}{R:It->Hp->Prop}{E:Value->Shared->Prop}{lo hi:Int}{t u v:Tok}{tk:Nat} (I:a6 X pins σ H s) (h1 : -(2 ^ 62)<=lo) (h2:lo < 2 ^ 62) (h3 : -(2 ^ 62)<=hi) (h4:hi < 2 ^ 62)
  (q:R (mJ lo (hi - lo).toNat) H):wpAny (model X.prog X.w) X.A (pyIter (.ref s.heap.objs.size)) (yG X pins σ tg R) E { s with heap:=s.heap.push { cls:=.type "range",data:=.fields #[.int lo t,.int hi u,.int 1 v] },toks:=tk }:=by
 refine wpAny_pyIter_range (IsRange.new ..) (small_one h1 h2 h3 h4) ?_
 have I1:a6 X pins σ H { s with heap:=s.heap.push { cls:=.type "range",data:=.fields #[.int lo t,.int hi u,.int 1 v] },toks:=tk }:=I.kept fun b o e=>bb1 _ e
 refine⟨(s.heap.push { cls:=.type "range",data:=.fields #[.int lo t,.int hi u,.int 1 v] }).objs.size,[(s.heap.push { cls:=.type "range",data:=.fields #[.int lo t,.int hi u,.int 1 v] }).objs.size],_,_,H,rfl,
  I1.kept (t':=tk) fun b o e=>bb1 _ e,ag7 _ lo (hi - lo).toNat,?_,fun b hb=>?_,q⟩
 ·have e1:lo+((0:Nat):Int) * 1=lo:=by simp
  have e2:(((hi - lo).toNat:Nat):Int) - ((0:Nat):Int)=Builtin.Range.rangeSize lo hi 1:=by rw [rangeSize_one]; split <;> omega
  show IsRangeIter _ _ (lo+((0:Nat):Int) * 1) ((((hi - lo).toNat:Nat):Int) - ((0:Nat):Int)) 1
  rw [e1,e2]
  exact bb9 _ rfl
 ·have e:b=(s.heap.push { cls:=.type "range",data:=.fields #[.int lo t,.int hi u,.int 1 v] }).objs.size:=by simpa using hb
  subst e
  exact I1.fpOk (bb6 _) (I1.hok.fresh (bb6 _))
def yK (ta:TA):TI:=fun σ H R=>ta σ H fun vs H1=>∃ j:Int,vs = [.int j]/\-(2 ^ 62)<=j/\j < 2 ^ 62/\R (mJ 0 j.toNat) H1
def yL (ta:TA):TI:=fun σ H R=>ta σ H fun vs H1=>∃ i j:Int,vs = [.int i,.int j]/\(-(2 ^ 62)<=i/\i < 2 ^ 62/\-(2 ^ 62)<=j/\j < 2 ^ 62)/\R (mJ i (j - i).toNat) H1
theorem ag9 {a:Expr}{ta:TA}{p pos:Pos} (hg:Gl X "range") (hm:X.mg "range" = none) (ha:PA X [a] ta) (hs:starEach [a] X.env = [(false,eval a X.env)]:=by rfl):PI X tg (.Call (.Name "range" p) [a] [] pos) (yK ta):=by
 intro pins s σ H R I h
 refine Call_ (k7 I hg hm boot_range (bk8 (aN (ha pos pins s σ H _ I h) fun us s1 ⟨vs,H1,I1,r1,q1⟩=>?_) hs rfl))
 obtain ⟨j,e,q1,q2,q⟩:=q1
 subst e
 cases r1 with
 | cons r rr=>
  cases rr
  obtain ⟨t,rfl⟩:=r
  exact call_range_1 (yJ I1 (by omega) (by omega) q1 q2 (by simpa using q))
theorem ah0 {a b:Expr}{ta:TA}{p pos:Pos} (hg:Gl X "range") (hm:X.mg "range" = none) (ha:PA X [a,b] ta) (hs:starEach [a,b] X.env = [(false,eval a X.env),(false,eval b X.env)]:=by rfl) (hs2:starEach [b] X.env = [(false,eval b X.env)]:=by rfl) :
  PI X tg (.Call (.Name "range" p) [a,b] [] pos) (yL ta):=by
 intro pins s σ H R I h
 refine Call_ (k7 I hg hm boot_range (bk8 (aN (ha pos pins s σ H _ I h) fun us s1 ⟨vs,H1,I1,r1,q1⟩=>?_) (by rw [hs,hs2]) (by rw [hs2]; rfl)))
 obtain ⟨i,j,e,⟨q1,q2,q3,q4⟩,q⟩:=q1
 subst e
 cases r1 with
 | cons r rr=>
  cases rr with
  | cons r' rr=>
   cases rr
   obtain ⟨t,rfl⟩:=r
   obtain ⟨t',rfl⟩:=r'
   exact call_range_2 (yJ I1 q1 q2 q3 q4 q)
def yM (wi:TI) (g:TG) (tb:TS):TS:=fun D σ H=>wi σ H fun J H1=>∃ W:Nat->Nat->St->Hp->Prop,(∃ m,W 0 m σ H1)/\∀ i m σ H,W i m σ H->
 (J.stop i H/\D.nx σ H) ∨ (J.go i H/\∃ N:St->Hp->Prop,(∀ σ' H',N σ' H'->∃ m',m' < m/\W (i+1) m' σ' H')/\∀ x H',J.yld i H x H'->g x σ H' fun σ2 H2=>tb { D with nx:=N,ct:=N,bk:=D.nx } σ2 H2)
def mK (fp:List Addr) (h:Heap):List (Addr × Obj):=fp.filterMap fun b=>(h.get? b).map fun o=>(b,o)
theorem oQ {fp:List Addr}{h:Heap}{b:Addr}{o:Obj} (hb:b ∈ fp) (e:h.get? b=some o):(b,o) ∈ mK fp h:=List.mem_filterMap.mpr ⟨b,hb,by rw [e]; rfl⟩
theorem ah1 {fp:List Addr}{h:Heap}{p:Addr × Obj} (hp:p ∈ mK fp h):p.1 ∈ fp/\h.get? p.1=some p.2:=by
 obtain ⟨b,hb,e⟩:=List.mem_filterMap.mp hp
 cases q:h.get? b with
 | none=>rw [q] at e; cases e
 | some o=>
  rw [q] at e
  have e':(b,o)=p:=be0 e
  subst e'
  exact⟨hb,q⟩
theorem a6.pinned {pins:List (Addr × Obj)}{σ:St}{H:Hp}{s:Shared}{fp:List Addr} (I:a6 X pins σ H s) (hf:∀ b ∈ fp,fS X pins H b) (ho:∀ b ∈ fp,∃ o,s.heap.get? b=some o/\∀ v,o.data ≠ .cell v):a6 X (pins ++ mK fp s.heap) σ H s:=
 I.pins_of fun p hp=>(be1.mp hp).elim (fun z=>I.pin p (bf7 _ z)) fun z=>by
  obtain ⟨hb,e⟩:=ah1 z
  obtain ⟨f0,f1,f2,_⟩:=hf p.1 hb
  obtain ⟨o,e',d⟩:=ho p.1 hb
  rw [e] at e'; cases e'
  exact⟨e,f0,f1,f2,d⟩
theorem a6.unpinned {pins pl:List (Addr × Obj)}{σ:St}{H:Hp}{s:Shared} (I:a6 X (pins ++ pl) σ H s):a6 X pins σ H s:=I.pins_of fun p hp=>I.pin p (bf7 _ (bo4 _ hp))
theorem yN {iter:Expr}{body:List Stmt}{wi:TI}{g:TG}{tb:TS}{pos:Pos} (hp:PassesOwn (model X.prog X.w) X.A X.env X.xe) (hc:X.calm=true) (hi:PI X tg iter wi) (hg:PG X tg g) (hb:dZ X body tb)
  (hs:∀ x,foldedSetIterable iter X.env x=pure x:=by intro _; rfl):PS X (.For tg iter body [] pos) (yM wi g tb):=by
 intro pins s σ H D I h
 refine wpAny_For (aN (hi pins s σ H _ I h) fun v s1 h1=>aN h1 fun itv s2 h2=>?_) hs
 obtain ⟨it,fp,tn,J,H2,e,I2,T,st2,f2,W,⟨m0,w0⟩,turn⟩:=h2
 subst e
 have stat:∀ {H':Hp},(∀ b ∈ fp,H' b=none)->∀ b ∈ fp,fS X pins H' b:=fun hn b hb=>⟨hn b hb,(f2 b hb).2⟩
 refine codeAny_forLoop_any (fun n s'=>∃ i σ' H',a6 X pins σ' H' s'/\tn i s'.heap/\(∀ b ∈ fp,H' b=none)/\W i n σ' H') ?_ m0 ⟨0,σ,H2,I2,st2,fun b hb=>(f2 b hb).1,w0⟩
 rintro n s3 ⟨i,σ3,H3,I3,st3,fr3,w3⟩
 rcases turn i n σ3 H3 w3 with ⟨stop,qn⟩ | ⟨go,N,hN,step⟩
 ·refine bq2 hp (aN (T.done X rfl rfl rfl hc i pins s3 σ3 H3 X.xe I3 (stat fr3) st3 stop) fun r s4 ⟨hr,I4⟩=>?_)
  subst hr
  exact wpAny_execs_nil ⟨σ3,H3,I4,qn⟩
 ·refine bq2 hp (aN (T.item X rfl rfl rfl hc i pins s3 σ3 H3 X.xe I3 (stat fr3) st3 go) fun r s4 ⟨u,hr,h4⟩=>?_)
  subst hr
  refine bq2 hp (aN h4 fun _ s5 ⟨x,H5,I5,r5,y5,st5,fr5⟩=>?_)
  have I5':=I5.pinned (stat fr5) (T.obj _ _ st5)
  refine bq2 hp (aN (hg _ s5 σ3 H5 x u _ I5' r5 (step x H5 y5)) fun _ s6 ⟨σ6,H6,I6,q6⟩=>?_)
  refine bq2 hp (aN (hb _ s6 σ6 H6 _ I6 q6) fun f s7 q7=>?_)
  have again:∀ {σ7:St}{H7:Hp},a6 X (pins ++ mK fp s5.heap) σ7 H7 s7->N σ7 H7->∃ m,m < n/\∃ i σ' H',a6 X pins σ' H' s7/\tn i s7.heap/\(∀ b ∈ fp,H' b=none)/\W i m σ' H':=fun {σ7 H7} I7 n7=>by
   obtain ⟨m',hm,w7⟩:=hN σ7 H7 n7
   refine⟨m',hm,i+1,σ7,H7,I7.unpinned,T.keep _ _ _ st5 fun b hb o e=>(I7.pin (b,o) (bf7 _ (bf7 _ (oQ hb e)))).1,fun b hb=>?_,w7⟩
   obtain ⟨o,e,d⟩:=T.obj _ _ st5 b hb
   exact (I7.pin (b,o) (bf7 _ (bf7 _ (oQ hb e)))).2.1
  cases f with
  | next=>obtain ⟨σ7,H7,I7,n7⟩:=q7; exact again I7 n7
  | cont=>obtain ⟨σ7,H7,I7,n7⟩:=q7; exact again I7 n7
  | brk=>obtain ⟨σ7,H7,I7,q7⟩:=q7; exact⟨σ7,H7,I7.unpinned,q7⟩
  | ret v=>obtain ⟨x7,σ7,H7,I7,r7,q7⟩:=q7; exact⟨x7,σ7,H7,I7.unpinned,r7,q7⟩
end
theorem ba6 {K:PySem.W.Frag}{a:Addr}{xs:List V}{g:TG}{tb:TS}{D:cN}{σ:St}{H:Hp} (Pv:Nat->St->Hp->Prop) (h0:Pv 0 σ H) (hl:∀ i σ H,i<=xs.length->Pv i σ H->aL K H a xs)
  (hs:∀ i x σ H,xs[i]? = some x->Pv i σ H->g x σ H fun σ2 H2=>tb { D with nx:=Pv (i+1),ct:=Pv (i+1),bk:=D.nx } σ2 H2) (hd:∀ σ H,Pv xs.length σ H->D.nx σ H) :
  ∃ W:Nat->Nat->St->Hp->Prop,(∃ m,W 0 m σ H)/\∀ i m σ H,W i m σ H->
   ((kZ K a).stop i H/\D.nx σ H) ∨ ((kZ K a).go i H/\∃ N:St->Hp->Prop,(∀ σ' H',N σ' H'->∃ m',m' < m/\W (i+1) m' σ' H')/\∀ x H',(kZ K a).yld i H x H'->g x σ H' fun σ2 H2=>tb { D with nx:=N,ct:=N,bk:=D.nx } σ2 H2):=by
 refine⟨fun i m σ H=>m=xs.length - i/\i<=xs.length/\Pv i σ H,⟨xs.length,by simp,bf1 _,h0⟩,?_⟩
 rintro i m σ H ⟨rfl,hi,p⟩
 have q:=hl i σ H hi p
 by_cases hlt:i < xs.length
 ·refine .inr ⟨⟨xs,xs[i],q,by simp [hlt]⟩,Pv (i+1),fun σ' H' p'=>⟨xs.length - (i+1),by omega,rfl,hlt,p'⟩,fun x H' y=>?_⟩
  obtain ⟨e,y⟩:=y
  subst e
  exact hs i x σ _ (y xs q) p
 ·have e:i=xs.length:=by omega
  subst e
  exact .inl ⟨⟨xs,q,bb6 _⟩,hd σ H p⟩
theorem ah2 {K:PySem.W.Frag}{a:Addr}{xs:List V}{g:TG}{tb:TS}{D:cN}{σ:St}{H:Hp} (Pv:Nat->St->Hp->Prop) (h0:Pv 0 σ H) (hl:∀ i σ H,i<=xs.length->Pv i σ H->aI K H a xs)
  (hs:∀ i x σ H,xs[i]? = some x->Pv i σ H->g x σ H fun σ2 H2=>tb { D with nx:=Pv (i+1),ct:=Pv (i+1),bk:=D.nx } σ2 H2) (hd:∀ σ H,Pv xs.length σ H->D.nx σ H) :
  ∃ W:Nat->Nat->St->Hp->Prop,(∃ m,W 0 m σ H)/\∀ i m σ H,W i m σ H->
   ((jK K a).stop i H/\D.nx σ H) ∨ ((jK K a).go i H/\∃ N:St->Hp->Prop,(∀ σ' H',N σ' H'->∃ m',m' < m/\W (i+1) m' σ' H')/\∀ x H',(jK K a).yld i H x H'->g x σ H' fun σ2 H2=>tb { D with nx:=N,ct:=N,bk:=D.nx } σ2 H2):=by
 refine⟨fun i m σ H=>m=xs.length - i/\i<=xs.length/\Pv i σ H,⟨xs.length,by simp,bf1 _,h0⟩,?_⟩
 rintro i m σ H ⟨rfl,hi,p⟩
 have q:=hl i σ H hi p
 by_cases hlt:i < xs.length
 ·refine .inr ⟨⟨xs,xs[i],q,by simp [hlt]⟩,Pv (i+1),fun σ' H' p'=>⟨xs.length - (i+1),by omega,rfl,hlt,p'⟩,fun x H' y=>?_⟩
  obtain ⟨e,y⟩:=y
  subst e
  exact hs i x σ _ (y xs q) p
 ·have e:i=xs.length:=by omega
  subst e
  exact .inl ⟨⟨xs,q,bb6 _⟩,hd σ H p⟩
abbrev R2:=V->V->Hp->VK->Prop
def cK (X:Cx) (f:Value->Value->Sem Value) (r:R2):Prop:=
 ∀ (pins:List (Addr × Obj)) (s:Shared) (σ:St) (H:Hp) (x y:V) (v u:Value) (Q:VK),a6 X pins σ H s->aQ x v->aQ y u->r x y H Q->
  wpAny (model X.prog X.w) X.A (f v u) (EP X pins σ Q) X.xe s
def cP (X:Cx) (f:Value) (r:List V->Hp->VK->Prop):Prop:=
 ∀ (pins:List (Addr × Obj)) (s:Shared) (σ:St) (H:Hp) (xs:List V) (us:List Value) (Q:VK),a6 X pins σ H s->aJ xs us->r xs H Q->
  wpAny (model X.prog X.w) X.A (call f us) (EP X pins σ Q) X.xe s
def ah3 (X:Cx) (r:V->Hp->(Bool->Hp->Prop)->Prop):Prop:=
 ∀ (pins:List (Addr × Obj)) (s:Shared) (σ:St) (H:Hp) (x:V) (v:Value) (Q:Bool->Hp->Prop),a6 X pins σ H s->aQ x v->r x H Q->
  wpAny (model X.prog X.w) X.A (truthy v) (TP X pins σ Q) X.xe s
def mL (r:R2) (ta tb:TE):TE:=fun σ H Q=>ta σ H fun x H1=>tb σ H1 fun y H2=>r x y H2 Q
def rI (C:Int->Int->Prop) (g:Int->Int->V):R2:=fun x y H Q=>∃ i j,x = .int i/\y = .int j/\C i j/\Q (g i j) H
def i9 (g:Int->Int->V):R2:=fun x y H Q=>∃ i j,x = .int i/\y = .int j/\Q (g i j) H
section
variable {X : Cx} {a b c : Expr} {ta tb tc : TE} {pos : Pos}
theorem sU (ha:PE X a ta) (hb:PE X b tb) {pins:List (Addr × Obj)}{s:Shared}{σ:St}{H:Hp}{R:V->V->Hp->Prop} (I:a6 X pins σ H s)
  (h:ta σ H fun x H1=>tb σ H1 fun y H2=>R x y H2) {Q:Value->Shared->Prop}{f:Value->Value->Sem Value}
  (hf:∀ v u s2 x y H2,a6 X pins σ H2 s2->aQ x v->aQ y u->R x y H2->wpAny (model X.prog X.w) X.A (f v u) Q X.xe s2) :
  wpAny (model X.prog X.w) X.A (eval a X.env) (fun v s₁=>wpAny (model X.prog X.w) X.A (eval b X.env) (fun u s₂=>wpAny (model X.prog X.w) X.A (f v u) Q X.xe s₂) X.xe s₁) X.xe s:=by
 refine aN (ha pins s σ H _ I h) fun v s1 ⟨x,H1,I1,r1,q1⟩=>?_
 refine aN (hb pins s1 σ H1 _ I1 q1) fun u s2 ⟨y,H2,I2,r2,q2⟩=>?_
 exact hf v u s2 x y H2 I2 r1 r2 q2
theorem ah4 {op:Operator}{r:R2} (ho:cK X (binaryOp op) r) (ha:PE X a ta) (hb:PE X b tb):PE X (.BinOp a op b pos) (mL r ta tb):=by
 intro pins s σ H Q I h
 exact wpAny_BinOp (sU ha hb I h fun v u s2 x y H2 I2 rx ry q=>ho pins s2 σ H2 x y v u Q I2 rx ry q)
theorem sV {f:Value->Value->Sem Value}{C:Int->Int->Prop}{g:Int->Int->Int}
  (rule:∀ (i j:Int) (t u:Tok) (s:Shared) (Q:Value->Shared->Prop) (E:Value->Shared->Prop),C i j->Q (.int (g i j) s.toks) { s with toks:=s.toks+1 }->wpAny (model X.prog X.w) X.A (f (.int i t) (.int j u)) Q E s) :
  cK X f (rI C fun i j=>.int (g i j)):=by
 intro pins s σ H x y v u Q I rx ry h
 obtain ⟨i,j,rfl,rfl,hc,q⟩:=h
 obtain ⟨t,rfl⟩:=rx
 obtain ⟨t',rfl⟩:=ry
 exact rule i j t t' s _ _ hc ⟨.int (g i j),H,I.tok _,⟨_,rfl⟩,q⟩
theorem yO {f:Value->Value->Sem Value}{g:Int->Int->Int}
  (rule:∀ (i j:Int) (t u:Tok) (s:Shared) (Q:Value->Shared->Prop) (E:Value->Shared->Prop),Q (.int (g i j) s.toks) { s with toks:=s.toks+1 }->wpAny (model X.prog X.w) X.A (f (.int i t) (.int j u)) Q E s) :
  cK X f (i9 fun i j=>.int (g i j)):=by
 intro pins s σ H x y v u Q I rx ry h
 obtain ⟨i,j,rfl,rfl,q⟩:=h
 obtain ⟨t,rfl⟩:=rx
 obtain ⟨t',rfl⟩:=ry
 exact rule i j t t' s _ _ ⟨.int (g i j),H,I.tok _,⟨_,rfl⟩,q⟩
theorem sW {f:Value->Value->Sem Value}{g:Int->Int->Bool}
  (rule:∀ (i j:Int) (t u:Tok) (s:Shared) (Q:Value->Shared->Prop) (E:Value->Shared->Prop),Q (.bool (g i j)) s->wpAny (model X.prog X.w) X.A (f (.int i t) (.int j u)) Q E s) :
  cK X f (i9 fun i j=>.bl (g i j)):=by
 intro pins s σ H x y v u Q I rx ry h
 obtain ⟨i,j,rfl,rfl,q⟩:=h
 obtain ⟨t,rfl⟩:=rx
 obtain ⟨t',rfl⟩:=ry
 exact rule i j t t' s _ _ ⟨.bl (g i j),H,I,rfl,q⟩
def sX (i j:Int):Prop:=0 < j/\j < 1073741824
def mM (i j:Int):Prop:=(-(2 ^ 64) < i/\i < 2 ^ 64) ∨ (-(2 ^ 64) < j/\j < 2 ^ 64)
theorem mM.ok {i j:Int} (h:mM i j):IntMulOk i j:=by
 rcases h with ⟨h1,h2⟩ | ⟨h1,h2⟩
 ·exact .of_left (intBits_le_64 h1 h2)
 ·exact .of_right (intBits_le_64 h1 h2)
theorem ah5:cK X (binaryOp .Add) (i9 fun i j=>.int (i+j)):=yO fun _ _ _ _ _ _ _ q=>add_int q
theorem ah6:cK X (binaryOp .Sub) (i9 fun i j=>.int (i - j)):=yO fun _ _ _ _ _ _ _ q=>sub_int q
theorem ah7:cK X (binaryOp .Mult) (rI mM fun i j=>.int (i * j)):=sV fun _ _ _ _ _ _ _ hc q=>mul_int q hc.ok
theorem ah8:cK X (binaryOp .FloorDiv) (rI sX fun i j=>.int (i / j)):=sV fun i j _ _ _ _ _ hc q=>by
 have h1:(0:Int) < j:=hc.1
 have h2:j < 1073741824:=hc.2
 exact floordiv_int (by omega) (by rw [Int.fdiv_eq_ediv_of_nonneg i (by omega)]; exact q) (.inl (PyProof.noPylong_small (by omega)))
theorem ah9:cK X (binaryOp .Mod) (rI (fun _ j=>0 < j) fun i j=>.int (i % j)):=sV fun i j _ _ _ _ _ hc q=>by
 have h1:(0:Int) < j:=hc
 exact mod_int' (by omega) (by rw [Int.fmod_eq_emod_of_nonneg i (by omega)]; exact q)
end
def yP:V->V->Bool
 | .non,.non=>true | .non,.int _=>true | .int _,.non=>true | .non,.bl _=>true | .bl _,.non=>true | .non,.str _=>true | .str _,.non=>true
 | .int _,.int _=>true | .bl _,.bl _=>true | .str _,.str _=>true | .byt _,.byt _=>true
 | .int _,.str _=>true | .str _,.int _=>true | .bl _,.str _=>true | .str _,.bl _=>true
 | _,_=>false
def yQ:R2:=fun x y H Q=>yP x y=true/\Q (.bl (decide (x=y))) H
def yR:R2:=fun x y H Q=>yP x y=true/\Q (.bl (!decide (x=y))) H
theorem yS {i j:Int}:decide (V.int i=V.int j)=(i == j):=by
 rw [bl5]
 simp
theorem yT {i j:Bool}:decide (V.bl i=V.bl j)=(i == j):=by
 rw [bl5]
 simp
theorem yU {i j:Str}:decide (V.str i=V.str j)=(i == j):=by
 rw [bl5]
 simp
theorem yV {i j:Array UInt8}:decide (V.byt i=V.byt j)=(i.toList == j.toList):=by
 rw [bl5]
 cases i
 cases j
 simp
section
variable {X : Cx} {a b c : Expr} {ta tb tc : TE} {pos : Pos}
theorem bY {pins:List (Addr × Obj)}{σ:St}{H:Hp}{s:Shared}{Q:VK}{k k':Bool} (I:a6 X pins σ H s) (q:Q (.bl k) H) (e:k=k'):EP X pins σ Q (.bool k') s:=by
 subst e
 exact⟨.bl k,H,I,rfl,q⟩
theorem yW:cK X (compareOp .Eq) yQ:=by
 intro pins s σ H x y v u Q I rx ry h
 obtain ⟨hs,q⟩:=h
 cases x with
 | non=>
  cases rx
  cases y with
  | non=>cases ry; exact PySem.EqNone.eq_none_none (bY I q (by simp))
  | bl j=>cases ry; exact PySem.EqNone.eq_none_bool (bY I q (by simp))
  | int j=>obtain ⟨t',rfl⟩:=ry; exact PySem.EqNone.eq_none_int (bY I q (by simp))
  | str j=>obtain ⟨t',rfl⟩:=ry; exact PySem.EqNone.eq_none_str (bY I q (by simp))
  | _=>exact absurd (show false=true from hs) bd4
 | bl i=>
  cases rx
  cases y with
  | non=>cases ry; exact PySem.EqNone.eq_bool_none (bY I q (by simp))
  | bl j=>cases ry; exact eq_bool (bY I q yT)
  | str j=>obtain ⟨t',rfl⟩:=ry; exact PySem.EqMixed.eq_bool_str (bY I q (by simp))
  | _=>exact absurd (show false=true from hs) bd4
 | int i=>
  obtain ⟨t,rfl⟩:=rx
  cases y with
  | non=>cases ry; exact PySem.EqNone.eq_int_none (bY I q (by simp))
  | int j=>obtain ⟨t',rfl⟩:=ry; exact eq_int (bY I q yS)
  | str j=>obtain ⟨t',rfl⟩:=ry; exact PySem.EqMixed.eq_int_str (bY I q (by simp))
  | _=>exact absurd (show false=true from hs) bd4
 | str i=>
  obtain ⟨t,rfl⟩:=rx
  cases y with
  | non=>cases ry; exact PySem.EqNone.eq_str_none (bY I q (by simp))
  | bl j=>cases ry; exact PySem.EqMixed.eq_str_bool (bY I q (by simp))
  | int j=>obtain ⟨t',rfl⟩:=ry; exact PySem.EqMixed.eq_str_int (bY I q (by simp))
  | str j=>obtain ⟨t',rfl⟩:=ry; exact eq_str (bY I q yU)
  | _=>exact absurd (show false=true from hs) bd4
 | byt i=>
  obtain ⟨t,rfl⟩:=rx
  cases y with
  | byt j=>obtain ⟨t',rfl⟩:=ry; exact PySem.W.eq_bytes (bY I q yV)
  | _=>exact absurd (show false=true from hs) bd4
 | _=>cases y <;> exact absurd (show false=true from hs) bd4
theorem ai0:cK X (compareOp .NotEq) yR:=by
 intro pins s σ H x y v u Q I rx ry h
 obtain ⟨hs,q⟩:=h
 cases x with
 | non=>
  cases rx
  cases y with
  | non=>cases ry; exact PySem.EqNone.ne_none_none (bY I q (by simp))
  | bl j=>cases ry; exact PySem.EqNone.ne_none_bool (bY I q (by simp))
  | int j=>obtain ⟨t',rfl⟩:=ry; exact PySem.EqNone.ne_none_int (bY I q (by simp))
  | str j=>obtain ⟨t',rfl⟩:=ry; exact PySem.EqNone.ne_none_str (bY I q (by simp))
  | _=>exact absurd (show false=true from hs) bd4
 | bl i=>
  cases rx
  cases y with
  | non=>cases ry; exact PySem.EqNone.ne_bool_none (bY I q (by simp))
  | bl j=>cases ry; exact ne_bool (bY I q (congrArg not yT))
  | str j=>obtain ⟨t',rfl⟩:=ry; exact PySem.EqMixed.ne_bool_str (bY I q (by simp))
  | _=>exact absurd (show false=true from hs) bd4
 | int i=>
  obtain ⟨t,rfl⟩:=rx
  cases y with
  | non=>cases ry; exact PySem.EqNone.ne_int_none (bY I q (by simp))
  | int j=>obtain ⟨t',rfl⟩:=ry; exact ne_int (bY I q (congrArg not yS))
  | str j=>obtain ⟨t',rfl⟩:=ry; exact PySem.EqMixed.ne_int_str (bY I q (by simp))
  | _=>exact absurd (show false=true from hs) bd4
 | str i=>
  obtain ⟨t,rfl⟩:=rx
  cases y with
  | non=>cases ry; exact PySem.EqNone.ne_str_none (bY I q (by simp))
  | bl j=>cases ry; exact PySem.EqMixed.ne_str_bool (bY I q (by simp))
  | int j=>obtain ⟨t',rfl⟩:=ry; exact PySem.EqMixed.ne_str_int (bY I q (by simp))
  | str j=>obtain ⟨t',rfl⟩:=ry; exact ne_str (bY I q (congrArg not yU))
  | _=>exact absurd (show false=true from hs) bd4
 | byt i=>
  obtain ⟨t,rfl⟩:=rx
  cases y with
  | byt j=>obtain ⟨t',rfl⟩:=ry; exact PySem.W.ne_bytes (bY I q (congrArg not yV))
  | _=>exact absurd (show false=true from hs) bd4
 | _=>cases y <;> exact absurd (show false=true from hs) bd4
theorem sY:cK X (compareOp .Lt) (i9 fun i j=>.bl (decide (i < j))):=sW fun _ _ _ _ _ _ _ q=>lt_int q
theorem ai1:cK X (compareOp .Gt) (i9 fun i j=>.bl (decide (j < i))):=sW fun _ _ _ _ _ _ _ q=>gt_int q
theorem yX:cK X (compareOp .GtE) (i9 fun i j=>.bl (decide (j<=i))):=sW fun _ _ _ _ _ _ _ q=>ge_int q
theorem gQ (b:Expr) {op:CmpOp} (h:op ≠ .In:=by decide) (h2:op ≠ .NotIn:=by decide):behindInMarks op b=false:=by
 have e1:(op == CmpOp.In)=false:=by cases op <;> first | rfl | exact absurd rfl h
 have e2:(op == CmpOp.NotIn)=false:=by cases op <;> first | rfl | exact absurd rfl h2
 cases b <;> simp [behindInMarks,e1,e2]
theorem ai2 {op:CmpOp}{r:R2} (ho:cK X (compareOp op) r) (ha:PE X a ta) (hb:PE X b tb) (hm:behindInMarks op b=false):PE X (.Compare a [op] [b] pos) (mL r ta tb):=by
 intro pins s σ H Q I h
 exact wpAny_Compare1 (sU ha hb I h fun v u s2 x y H2 I2 rx ry q=>ho pins s2 σ H2 x y v u Q I2 rx ry q) hm
def ai3 (t:TE):TT:=fun σ H Q=>t σ H fun x H'=>∃ k,x = .bl k/\Q k H'
theorem ai4 {op:CmpOp}{r:R2} (ho:cK X (compareOp op) r) (ha:PE X a ta) (hb:PE X b tb) (hm:behindInMarks op b=false):PT X (.Compare a [op] [b] pos) (ai3 (mL r ta tb)):=by
 intro pins s σ H Q I h
 refine wpAny_isTrue_Compare1 (aN (ha pins s σ H _ I h) fun v s1 ⟨x,H1,I1,r1,q1⟩=>aN (hb pins s1 σ H1 _ I1 q1) fun u s2 ⟨y,H2,I2,r2,q2⟩=>
  aN (ho pins s2 σ H2 x y v u _ I2 r1 r2 q2) fun c s3 ⟨z,H3,I3,r3,k,e,q3⟩=>?_) hm
 subst e
 cases r3
 exact bq5 ⟨H3,I3,q3⟩
def t0 (K:PySem.W.Frag) (x:V) (H:Hp) (k:Bool):Prop:=
 match x with
 | .non=>k=false
 | .bl b=>k=b
 | .int i=>k=(i != 0)
 | .str y=>y.length<=sizeLine/\k=((y.length:Int) != 0)
 | .byt y=>y.size<=sizeLine/\k=((y.size:Int) != 0)
 | .ref p=>(∃ xs,aL K H p xs/\k = !xs.isEmpty) ∨ (∃ xs,aI K H p xs/\k = !xs.isEmpty) ∨ ∃ kvs,H p=some (.dK kvs)/\k = !kvs.isEmpty
 | _=>False
theorem ai5 {κ:Type}{kvs:List (κ × V)}{vs:List (κ × Value)} (r:KV kvs vs):(!vs.isEmpty) = !kvs.isEmpty:=by
 cases r <;> rfl
theorem yY {xs:List V}{its:List Value} (r:aJ xs its):(!its.toArray.isEmpty) = !xs.isEmpty:=by
 cases r <;> simp
theorem l4:(sizeLine:Nat) < 2 ^ 63:=by rw [sizeLine_eq]; decide
theorem ai6:ah3 X (fun x H Q=>∃ k,t0 X.K x H k/\Q k H):=by
 intro pins s σ H x v Q I rx h
 obtain ⟨k,e,q⟩:=h
 have hl:=l4
 have hs:sizeLine=16777216:=sizeLine_eq
 cases x with
 | non=>
  cases rx
  have e':k=false:=e
  subst e'
  exact truthy_none ⟨H,I,q⟩
 | bl b=>
  cases rx
  have e':k=b:=e
  subst e'
  exact bq5 ⟨H,I,q⟩
 | int i=>
  obtain ⟨t,rfl⟩:=rx
  have e':k=(i != 0):=e
  subst e'
  exact PySem.P.truthy_int ⟨H,I,q⟩
 | str y=>
  obtain ⟨t,rfl⟩:=rx
  obtain ⟨hy,e'⟩:y.length<=sizeLine/\k=((y.length:Int) != 0):=e
  subst e'
  exact PySem.P.truthy_str (by omega) ⟨H,I.tok _,q⟩
 | byt y=>
  obtain ⟨t,rfl⟩:=rx
  obtain ⟨hy,e'⟩:y.size<=sizeLine/\k=((y.size:Int) != 0):=e
  subst e'
  exact PySem.W.truthy_bytes (by omega) ⟨H,I.tok _,q⟩
 | ref p=>
  cases rx
  have e':(∃ xs,aL X.K H p xs/\k = !xs.isEmpty) ∨ (∃ xs,aI X.K H p xs/\k = !xs.isEmpty) ∨ ∃ kvs,H p=some (.dK kvs)/\k = !kvs.isEmpty:=e
  rcases e' with ⟨xs,hx,e'⟩ | ⟨xs,hx,e'⟩ | ⟨kvs,hx,e'⟩
  ·subst e'
   obtain ⟨its,r,pl,hz⟩:=I.list hx
   have hlen:=r.length
   exact wpAny_truthy_list pl.isList (by simp only [bb5]; omega) ⟨H,I.tok _,by rw [yY r]; exact q⟩
  ·subst e'
   obtain ⟨its,r,pl,hz⟩:=I.tuple hx
   have hlen:=r.length
   exact truthy_tuple pl (by simp only [bb5]; omega) ⟨H,I.tok _,by rw [yY r]; exact q⟩
  ·subst e'
   obtain ⟨hz,hS,vs,r,m⟩:kvs.length<=sizeLine/\(p == sysModules)=false/\∃ vs,KV kvs vs/\s.heap.DictOf (eU X.prog X.w) p vs:=I.hok p _ hx
   have hlen:kvs.length=vs.length:=Paired.length r
   exact wpAny_truthy_dict hS m (by omega) ⟨H,I.tok _,by rw [ai5 r]; exact q⟩
 | _=>exact (show False from e).elim
theorem ai7 (ha:PE X a ta) (he:∀ whole,isTrue a X.env whole=(do let v <- whole; standAt a.pos; holding [v] (truthy v))) :
  PT X a (fun σ H Q=>ta σ H fun x H'=>∃ k,t0 X.K x H' k/\Q k H'):=by
 intro pins s σ H Q I h
 exact isTrue_plain (aN (ha pins s σ H _ I h) fun v s1 ⟨x,H1,I1,r1,q1⟩=>ai6 pins s1 σ H1 x v Q I1 r1 q1) (he _)
theorem fD {x:V}{us:List Value} (r:aJ [x] us):∃ u,us = [u]/\aQ x u:=by
 cases r with
 | cons r1 r2=>cases r2; exact⟨_,rfl,r1⟩
theorem yZ {x y:V}{us:List Value} (r:aJ [x,y] us):∃ u w',us = [u,w']/\aQ x u/\aQ y w':=by
 cases r with
 | cons r1 r2=>
  cases r2 with
  | cons r3 r4=>cases r4; exact⟨_,_,rfl,r1,r3⟩
theorem ai8 (hc:X.calm=true):cP X (.builtin "max") (fun xs H Q=>∃ i j,xs = [.int i,.int j]/\Q (.int (if j > i then j else i)) H):=by
 intro pins s σ H xs us Q I r h
 obtain ⟨i,j,rfl,q⟩:=h
 obtain ⟨u,w',rfl,⟨t,rfl⟩,⟨t',rfl⟩⟩:=yZ r
 refine max_two_ints (I.ok.hd hc) fun h' tk k=>⟨_,H,I.kept k,?_,q⟩
 by_cases hj:j > i
 ·rw [if_pos hj,if_pos hj]; exact⟨_,rfl⟩
 ·rw [if_neg hj,if_neg hj]; exact⟨_,rfl⟩
theorem ai9 (hc:X.calm=true):cP X (.builtin "min") (fun xs H Q=>∃ i j,xs = [.int i,.int j]/\Q (.int (if j < i then j else i)) H):=by
 intro pins s σ H xs us Q I r h
 obtain ⟨i,j,rfl,q⟩:=h
 obtain ⟨u,w',rfl,⟨t,rfl⟩,⟨t',rfl⟩⟩:=yZ r
 refine min_two_ints (I.ok.hd hc) fun h' tk k=>⟨_,H,I.kept k,?_,q⟩
 by_cases hj:j < i
 ·rw [if_pos hj,if_pos hj]; exact⟨_,rfl⟩
 ·rw [if_neg hj,if_neg hj]; exact⟨_,rfl⟩
end
theorem i6.some_of {v:V}{o:Option Value} (r:i6 (some v) o):∃ u,o=some u/\aQ v u:=by
 cases o with
 | none=>exact (show False from r).elim
 | some u=>exact⟨u,rfl,r⟩
structure cD (k:Nat) (A:Around):Prop where
 hd:A.handled=none
 dp:A.depth+3 * k+5 < recursionLimit
 un:A.units+16 * k+200 < cLine
theorem cD.mono {j k:Nat}{A:Around} (r:cD k A) (h:j<=k):cD j A:=⟨r.hd,by have:=r.dp; omega,by have:=r.un; omega⟩
theorem cD.deeper {k:Nat}{A:Around} (r:cD (k+1) A) (env:Env):cD k (A.deeper env):=
 ⟨r.hd,by have:=r.dp; show A.depth+1+3 * k+5 < _; omega,by have:=r.un; show A.units+3+16 * k+200 < _; omega⟩
theorem cD.depth {k:Nat}{A:Around} (r:cD k A):A.depth < recursionLimit:=by have:=r.dp; omega
theorem cD.units {k:Nat}{A:Around} (r:cD k A):A.units+64 < cLine:=by have:=r.un; omega
def iT:TA:=fun _ H Q=>Q [] H
def gR (ta:TE) (tr:TA):TA:=fun σ H Q=>ta σ H fun x H1=>tr σ H1 fun xs H2=>Q (x :: xs) H2
section
variable {X : Cx} {e : Expr} {es : List Expr} {te : TE} {t : TA} {pos : Pos}
theorem fU:PA X [] iT:=fun _ _ _ _ H Q I h=>Calls.spliced_nil ⟨[],H,I,.nil,h⟩
theorem fE (ha:PE X e te) (hr:PA X es t) (hs:starEach (e :: es) X.env=(false,eval e X.env) :: starEach es X.env:=by rfl):PA X (e :: es) (gR te t):=by
 intro pos pins s σ H Q I h
 rw [hs]
 show wpAny _ _ (spliced ((false,eval e X.env) :: backTo pos (starEach es X.env))) _ _ s
 refine Calls.spliced_cons (aN (ha pins s σ H _ I h) fun u s1 ⟨x,H1,I1,r1,q1⟩=>?_)
 exact aN (hr pos pins s1 σ H1 _ I1 q1) fun us s2 ⟨xs,H2,I2,r2,q2⟩=>⟨x :: xs,H2,I2,.cons r1 r2,q2⟩
def z9 (t:TA):TE:=fun σ H Q=>t σ H fun xs H1=>xs.length<=sizeLine/\∀ p,H1 p=none->Q (.ref p) (upd H1 p (.tup xs))
def zA (t:TA):TE:=fun σ H Q=>t σ H fun xs H1=>xs.length<=sizeLine/\∀ p,H1 p=none->Q (.ref p) (upd H1 p (.lst xs))
theorem aj0 {x1} (h:PA X es t):PE X (.Tuple es x1 pos) (z9 t):=by
 intro pins s σ H Q I hq
 refine wpAny_Tuple_spliced (aN (h pos pins s σ H _ I hq) fun us s1 ⟨xs,H1,I1,r,z,q⟩=>⟨by rw [<- r.length]; exact z,?_⟩)
 have hf:H1 s1.heap.objs.size=none:=I1.hok.fresh (bb6 _)
 refine⟨.ref s1.heap.objs.size,upd H1 s1.heap.objs.size (.tup xs),I1.laid (t':=s1.toks) (fun b u e=>bb1 _ e) (bb6 _) ?_,rfl,q _ hf⟩
 exact⟨z,us,r,⟨_,bb9 _ rfl,rfl,_,rfl⟩,i7.new _ _ rfl⟩
theorem zB (h:PA X es t):PE X (.List es pos) (zA t):=by
 intro pins s σ H Q I hq
 refine wpAny_List_spliced (aN (h pos pins s σ H _ I hq) fun us s1 ⟨xs,H1,I1,r,z,q⟩=>⟨by rw [<- r.length]; exact z,?_⟩)
 have hf:H1 s1.heap.objs.size=none:=I1.hok.fresh (bb6 _)
 refine⟨.ref s1.heap.objs.size,upd H1 s1.heap.objs.size (.lst xs),I1.laid (t':=s1.toks) (fun b u e=>bb1 _ e) (bb6 _) ?_,rfl,q _ hf⟩
 exact⟨z,us,0,r,bb9 _ rfl⟩
end
abbrev Sp:=List V->Hp->VK->XK->Prop
abbrev gC:=List Env->Hp->Shared->XK->Value->Shared->Prop
structure oR (P:Program) (w:World) (K:PySem.W.Frag) (mg:Str->Option Value) (base:Heap) (A:Around) (outer:List Env) (s:Shared) (H:Hp):Prop where
 frames:A.frames=some outer
 mod:Mod K mg base
 bs:∀ b o,base.get? b=some o->s.heap.get? b=some o/\H b=none
 bsz:base.objs.size<=s.heap.objs.size
 funs:s.heap.FunFrames base outer
 frf:∀ b ∈ bX outer,H b=none
 hok:bU P w H s.heap
 bare:AllBare s.gens
def CE (outer:List Env) (P:Program) (w:World) (H:Hp) (s:Shared) (Q:VK) (u:Value) (s':Shared):Prop:=
 ∃ v H',s'.os=s.os/\AllBare s'.gens/\Un (bX outer) [] H H' s.heap s'.heap/\bU P w H' s'.heap/\aQ v u/\Q v H'
def CR (CX:gC) (outer:List Env) (P:Program) (w:World) (H:Hp) (s:Shared) (Q:VK) (E:XK) (r:Result) (s':Shared):Prop:=
 match r with
 | .ok (.ret u)=>CE outer P w H s Q u s'
 | .ok _=>False
 | .error e=>CX outer H s E e s'
structure dE (P:Program) (w:World) (K:PySem.W.Frag) (mg:Str->Option Value) (base:Heap) (CX:gC) (k:Nat) (f:Addr) (fd:FuncData) (ps:List Str) (sp:Sp):Prop where
 len:∀ vs H Q E,sp vs H Q E->vs.length=ps.length
 run:∀ (A:Around) (outer:List Env) (s:Shared) (H:Hp) (args:Args) (us:List Value) (vs:List V) (Q:VK) (E:XK),cD k A->oR P w K mg base A outer s H->BindsTo s fd args (ps.zip us)->aJ vs us->sp vs H Q E->
  codeAny (model P w) A (.call (.ref f) args) (CR CX outer P w H s Q E) s
theorem dE.imp {P:Program}{w:World}{K:PySem.W.Frag}{mg:Str->Option Value}{base:Heap}{CX:gC}{k:Nat}{f:Addr}{fd:FuncData}{ps:List Str}{sp sp':Sp} (F:dE P w K mg base CX k f fd ps sp)
  (h:∀ vs H Q E,sp' vs H Q E->sp vs H Q E):dE P w K mg base CX k f fd ps sp':=
 ⟨fun vs H Q E q=>F.len vs H Q E (h _ _ _ _ q),fun A outer s H args us vs Q E hr he hb hv hs=>F.run A outer s H args us vs Q E hr he hb hv (h _ _ _ _ hs)⟩
section
variable {X : Cx} {pins : List (Addr × Obj)} {σ : St} {H : Hp} {s s' : Shared}
theorem a6.env0 (I:a6 X pins σ H s):oR X.prog X.w X.K X.mg X.base X.A X.stack s H:=
 ⟨I.ok.frames,I.ok.mod,I.bs,bf6 I.ok.bsz I.sz,I.stack,I.stkFree,I.hok,I.bare⟩
theorem a6.after {Q:VK}{u:Value} (I:a6 X pins σ H s) (h:CE X.stack X.prog X.w H s Q u s'):EP X pins σ Q u s':=by
 obtain ⟨v,H',os,bare,un,hok,r,q⟩:=h
 obtain ⟨hh,g,d,t,os'⟩:=s'
 obtain rfl:os'=s.os:=os
 exact⟨v,H',I.call (h':=hh) (g':=g) (d':=d) (t':=t) (ch:=[]) un hok bare (fun b z=>absurd z (by simp)),r,q⟩
end
def t5 (sp:Sp) (dvs:List V) (E:XK) (t:TA):TE:=fun σ H Q=>t σ H fun vs H1=>sp (vs ++ dvs) H1 Q E
def iU (K:PySem.W.Frag) (fd:FuncData) (ps:List Str) (ds:List Value):Prop:=
 ∀ (s:Shared) (us:List Value),K.In s.heap->(us ++ ds).length=ps.length->BindsTo s fd ⟨us,[]⟩ (ps.zip (us ++ ds))
theorem iU.all {K:PySem.W.Frag}{fd:FuncData}{ps:List Str} (h:∀ us:List Value,us.length=ps.length->bindArgs fd ⟨us,[]⟩=pure (ps.zip us)):iU K fd ps []:=fun s us _ hl=>by
 rw [bf8] at hl ⊢
 exact .of_eq (h us hl)
def mO (CX:gC) (X:Cx) (E:XK):Prop:=∀ (pins:List (Addr × Obj)) (σ:St) (H:Hp) (s:Shared) (e:Value) (s':Shared),a6 X pins σ H s->CX X.stack H s E e s'->X.xe e s'
section
variable {X : Cx} {CX : gC} {k : Nat} {f C : Addr} {fd : FuncData} {ps : List Str} {sp : Sp} {dvs : List V} {ds : List Value} {E : XK} {x m : Str} {p pos apos : Pos} {e o : Expr} {es : List Expr} {ta : TE} {t : TA}
theorem aj1 {pins:List (Addr × Obj)}{σ:St}{H:Hp}{s:Shared}{Q:VK}{us:List Value}{vs:List V} (F:dE X.prog X.w X.K X.mg X.base CX k f fd ps sp) (hr:cD k X.A) (hb:iU X.K fd ps ds) (hd:aJ dvs ds) (hx:mO CX X E)
  (I:a6 X pins σ H s) (r:aJ vs us) (h:sp (vs ++ dvs) H Q E):wpAny (model X.prog X.w) X.A (call (.ref f) us) (EP X pins σ Q) X.xe s:=by
 have r2:aJ (vs ++ dvs) (us ++ ds):=r.append hd
 have hl:(us ++ ds).length=ps.length:=by rw [<- r2.length]; exact F.len _ _ _ _ h
 refine wpAny_call (codeAny_mono (F.run X.A X.stack s H ⟨us,[]⟩ (us ++ ds) (vs ++ dvs) Q E hr I.env0 (hb s us I.kIn hl) r2 h) fun r s' hq=>?_)
 cases r with
 | error e=>exact hx pins σ H s e s' I hq
 | ok fl=>
  cases fl with
  | ret u=>exact I.after hq
  | next=>exact False.elim hq
  | brk=>exact False.elim hq
  | cont=>exact False.elim hq
theorem t6 (F:dE X.prog X.w X.K X.mg X.base CX k f fd ps sp) (hr:cD k X.A) (hg:Gl X x) (hm:X.mg x=some (.ref f)) (hk:PySem.W.keepIn X.K (.ref f)=true) (hb:iU X.K fd ps ds) (hd:aJ dvs ds) (hx:mO CX X E)
  (ha:PA X (e :: es) t) (hdb:(x == ("__debug__" : Str))=false:=by decide) (he:starEach (e :: es) X.env=(false,eval e X.env) :: starEach es X.env:=by rfl) (hpl:(backTo pos (starEach es X.env)).any (·.1)=false:=by rfl) :
  PE X (.Call (.Name x p) (e :: es) [] pos) (t5 sp dvs E t):=by
 intro pins s σ H Q I h
 refine wpAny_Call_Name_kw (sL I hg hm ?_ hdb)
 refine PySem.W.callWith_K (h₀:=X.base) I.ok.mod.kin hk (aN (ha pos pins s σ H _ I h) fun us s1 ⟨vs,H1,I1,r,q⟩=>⟨I1.kIn,?_⟩) he hpl
 exact aj1 F hr hb hd hx I1 r q
end
def PK (X:Cx) (kws:List Keyword) (t:TA):Prop:=
 ∀ (pos:Pos) (pins:List (Addr × Obj)) (s:Shared) (σ:St) (H:Hp) (Q:List V->Hp->Prop),a6 X pins σ H s->t σ H Q->wpAny (model X.prog X.w) X.A (evalAll ((backToKw pos (keywordEach kws X.env)).map (·.2))) (AP X pins σ Q) X.xe s
structure FnScope (N P:List Str) (sc:Scope):Prop where
 kind:sc.kind = .function
 co:sc.isCoroutine=false
 gen:sc.isGenerator=false
 nd:N.Nodup
 pre:N.take P.length=P
 par:∀ x ∈ P,sc.names.lookup x=some .local ∨ sc.names.lookup x=some .cell
 nofree:∀ y ∈ sc.names,y.2 ≠ .free
theorem zC {kindOf:Str->Option NameKind}{x:Str}:∀ {binds:List (Str × Value)}{m:Str->Option Value},(∀ v,(x,v) ∉ binds)->bindL kindOf binds m x=m x
 | [],_,_=>rfl
 | (n,v) :: r,m,h=>by
  unfold bindL
  rw [zC fun w hw=>h w (bc3 _ hw)]
  split
  ·have:x ≠ n:=by rintro rfl; exact h v bc2
   simp [this]
  ·rfl
theorem zD {kindOf:Str->Option NameKind}{x:Str}:∀ {binds:List (Str × Value)}{m:Str->Option Value},(∀ v,(x,v) ∉ binds)->bindC kindOf binds m x=m x
 | [],_,_=>rfl
 | (n,v) :: r,m,h=>by
  unfold bindC
  rw [zD fun w hw=>h w (bc3 _ hw)]
  split
  ·rfl
  ·have:x ≠ n:=by rintro rfl; exact h v bc2
   simp [this]
theorem zE {kindOf:Str->Option NameKind}{x:Str}{v:Value}:∀ {P:List Str}{vs:List Value}{i:Nat}{m:Str->Option Value},P.Nodup->P[i]? = some x->vs[i]? = some v->kindOf x=some .local->
  bindL kindOf (P.zip vs) m x=some v
 | [],_,_,_,_,h,_,_=>by simp at h
 | _ :: _,[],_,_,_,_,h,_=>by simp at h
 | p :: P,w :: vs,0,m,nd,h1,h2,hk=>by
  simp at h1 h2; subst h1; subst h2
  show bindL kindOf ((p,w) :: P.zip vs) m p=_
  unfold bindL
  rw [zC fun v hv=>(bq3.mp nd).1 (List.of_mem_zip hv).1,if_pos hk]
  simp
 | p :: P,w :: vs,i+1,m,nd,h1,h2,hk=>by
  show bindL kindOf ((p,w) :: P.zip vs) m x=_
  unfold bindL
  exact zE (i:=i) (bq3.mp nd).2 (by simpa using h1) (by simpa using h2) hk
theorem zF {kindOf:Str->Option NameKind}{x:Str}{v:Value}:∀ {P:List Str}{vs:List Value}{i:Nat}{m:Str->Option Value},P.Nodup->P[i]? = some x->vs[i]? = some v->kindOf x ≠ some .local->
  bindC kindOf (P.zip vs) m x=some v
 | [],_,_,_,_,h,_,_=>by simp at h
 | _ :: _,[],_,_,_,_,h,_=>by simp at h
 | p :: P,w :: vs,0,m,nd,h1,h2,hk=>by
  simp at h1 h2; subst h1; subst h2
  show bindC kindOf ((p,w) :: P.zip vs) m p=_
  unfold bindC
  rw [zD fun v hv=>(bq3.mp nd).1 (List.of_mem_zip hv).1,if_neg hk]
  simp
 | p :: P,w :: vs,i+1,m,nd,h1,h2,hk=>by
  show bindC kindOf ((p,w) :: P.zip vs) m x=_
  unfold bindC
  exact zF (i:=i) (bq3.mp nd).2 (by simpa using h1) (by simpa using h2) hk
def gD (N:List Str) (vs:List V):St:=vs.map some ++ List.replicate (N.length - vs.length) none
def dF (CX:gC) (P:Program) (w:World) (K:PySem.W.Frag) (mg:Str->Option Value) (base:Heap) (N:List Str) (qual:Str) (scope:Scope) (f:Addr) (cd:Value) (A:Around) (outer:List Env) (s:Shared) (H:Hp) (E:XK):Cx where
 prog:=P
 w:=w
 K:=K
 mg:=mg
 base:=base
 A:=A.deeper (envOfC qual scope s.heap.objs.size f cd)
 N:=N
 s₀:=s
 H₀:=H
 env:=envOfC qual scope s.heap.objs.size f cd
 outer:=outer
 stack:=envOfC qual scope s.heap.objs.size f cd :: outer
 ex:=[]
 calm:=true
 fn:=fun _=>true
 pn:=[]
 xe:=fun e s'=>wpAny (model P w) (A.deeper (envOfC qual scope s.heap.objs.size f cd)) (leaving (envOfC qual scope s.heap.objs.size f cd) e) (fun _ s''=>CX outer H s E e s'') (fun e' s''=>CX outer H s E e' s'') s'
theorem zG {sc:Scope}{n:Nat}{x:Str} (h:sc.names.lookup x=some .cell):∃ c,(cellsFrom n sc.names []).lookup x=some c:=by
 have q:=PySem.W.cellsFrom_some sc.names n [] (.inl h)
 exact Option.isSome_iff_exists.mp q
theorem aj2 {CX:gC}{P:Program}{w:World}{K:PySem.W.Frag}{mg:Str->Option Value}{base:Heap}{N ps:List Str}{qual:Str}{scope:Scope}{f:Addr}{cd:Value}{A:Around}{outer:List Env}{s s1:Shared}{H:Hp}{E:XK}{us:List Value}{vs:List V}
  (S:FnScope N ps scope) (hd:A.handled=none) (e0:oR P w K mg base A outer s H) (hl:vs.length=ps.length) (r:aJ vs us)
  (x:InCallC s s.heap.objs.size (bindL (envOfC qual scope s.heap.objs.size f cd).kindOf (ps.zip us) fun _=>none) (cellsFrom (s.heap.objs.size+1) scope.names []) (bindC (envOfC qual scope s.heap.objs.size f cd).kindOf (ps.zip us) fun _=>none) s1) :
  a6 (dF CX P w K mg base N qual scope f cd A outer s H E) [] (gD N vs) H s1:=by
 have hpl:ps.length<=N.length:=by have:=congrArg List.length S.pre; rw [bk4] at this; omega
 obtain ⟨h1,tk,rfl,hk⟩:=x.done
 have noA:∀ b:Addr,b ∉ (dF CX P w K mg base N qual scope f cd A outer s H E).ex:=fun b z=>absurd (show b ∈ ([]:List Addr) from z) (by simp)
 refine⟨⟨e0.mod,S.kind,rfl,rfl,bb6 _,fun y z c h1 h2=>?_,fun y hy=>?_,fun y c _ h=>?_,fun _=>hd,Around.frames_deeper e0.frames,.inr ⟨rfl,rfl⟩,fun b z=>absurd z (noA b),e0.bs,e0.bsz,fun b _ _=>noA b,fun b z=>absurd z (noA b),e0.funs,e0.frf⟩,
  rfl,e0.bare,Un.kept hk,⟨_,x.toInCall.ns,fun i y v h1 h2 h3=>?_⟩,fun y c h=>⟨_,x.cell y c h⟩,e0.hok.fresh (bb6 _),fun y c h=>?_,fun p hp=>absurd (show p ∈ ([]:List (Addr × Obj)) from hp) (by simp),e0.hok.kept hk,?_⟩
 ·exact name_of_addr x.apart (bh4 h1) (bh4 h2)
 ·have hy:scope.names.lookup y=some .cell ∨ scope.names.lookup y=some .free:=hy
  rcases hy with hy | hy
  ·exact zG hy
  ·exact absurd rfl (S.nofree _ (bh4 hy))
 ·exact bg6 (x.above y c (bh4 h))
 ·have hi:i < vs.length:=by
   unfold gD at h2
   by_cases hi:i < vs.length
   ·exact hi
   ·rw [bp6 (by simpa using hi)] at h2
    rw [List.getElem?_replicate] at h2
    split at h2 <;> cases h2
  have ha:vs[i]? = some v:=by
   unfold gD at h2
   rw [bn3 (by simpa using hi),bc6] at h2
   cases e:vs[i]? with
   | none=>rw [e] at h2; cases h2
   | some a=>rw [e] at h2; cases h2; rfl
  obtain ⟨u,hu,rv⟩:=r.get ha
  have hp:ps[i]? = some y:=by
   rw [<- S.pre,List.getElem?_take_of_lt (by omega)]; exact h1
  have ndP:ps.Nodup:=by rw [<- S.pre]; exact S.nd.sublist (List.take_sublist _ _)
  refine⟨u,rv,?_⟩
  rcases S.par y (bg9 hp) with k | k
  ·exact .inl ⟨k,zE ndP hp hu k⟩
  ·obtain ⟨c,e⟩:=zG (n:=s.heap.objs.size+1) k
   refine .inr ⟨.inl k,c,e,?_⟩
   have q:=x.cell y c e
   rw [zF ndP hp hu (by show scope.names.lookup y ≠ _; rw [k]; decide)] at q
   exact q
 ·exact e0.hok.fresh (bg6 (x.above y c (bh4 h)))
 ·unfold gD
  show _=N.length
  rw [bc4,bb4,List.length_replicate]
  omega
theorem zH {CX:gC}{P:Program}{w:World}{K:PySem.W.Frag}{mg:Str->Option Value}{base:Heap}{k:Nat}{f:Addr}{name qual:Str}{params:Arguments}{body:List Stmt}{scope:Scope}{dV kV doc pm cdv ct oc:Value}{an od:Option Addr}
  {osl:Array (Option Value)}{N ps:List Str}{sp:Sp} (lk:K.lookup f=some ⟨oc,od,.func (PySem.W.fnOf name qual params body scope dV kV doc pm an cdv ct),osl⟩) (hcd:PySem.W.codeIn K cdv qual=true) (S:FnScope N ps scope)
  (len:∀ vs H Q E,sp vs H Q E->vs.length=ps.length)
  (hbody:∀ (A:Around) (outer:List Env) (s:Shared) (H:Hp) (vs:List V) (Q:VK) (E:XK),cD k (A.deeper (envOfC qual scope s.heap.objs.size f cdv))->sp vs H Q E->
   ∃ t,dZ (dF CX P w K mg base N qual scope f cdv A outer s H E) body t/\t { nx:=fun _ H'=>Q .non H',rt:=Q } (gD N vs) H) :
  dE P w K mg base CX (k+1) f (PySem.W.fnOf name qual params body scope dV kV doc pm an cdv ct) ps sp:=by
 refine⟨len,fun A outer s H args us vs Q E hr e0 hb r hsp=>?_⟩
 have hl:=len _ _ _ _ hsp
 have KX:K.In s.heap:=e0.mod.kin.keeps fun b o e=>(e0.bs b o e).1
 have lim:s.heap.NoLimit:=e0.mod.nolimit.keeps fun b o e=>(e0.bs b o e).1
 have hkind:∀ y ∈ ps.zip us,scope.names.lookup y.1=some .local ∨ (scope.names.lookup y.1=some .cell/\((cellsFrom (s.heap.objs.size+1) scope.names []).lookup y.1).isSome=true):=fun ⟨n,v⟩ hy=>by
  rcases S.par n (List.of_mem_zip hy).1 with q | q
  ·exact .inl q
  ·exact .inr ⟨q,PySem.W.cellsFrom_some _ _ _ (.inl q)⟩
 refine codeAny_call_function hr.depth (KX _ _ lk) rfl S.co S.gen rfl (PySem.W.codeRec_of KX hcd) (hb _ _ _ _ ?_)
 refine wpAny_newFunctionEnv_cells S.kind hkind fun env he s1 x=>?_
 subst he
 refine⟨lim.keeps x.toInCall.keep,codeAny_func ?_⟩
 obtain ⟨t,ht,hq⟩:=hbody A outer s H vs Q E (hr.deeper _) hsp
 have I:a6 (dF CX P w K mg base N qual scope f cdv A outer s H E) [] (gD N vs) H s1:=aj2 S hr.hd e0 hl r x
 refine bj6 (ht [] s1 (gD N vs) H _ I hq) (fun fl s' hs=>?_) fun e s' hs=>hs
 have fin:∀ {σ':St}{H':Hp}{v:V}{u:Value},a6 (dF CX P w K mg base N qual scope f cdv A outer s H E) [] σ' H' s'->aQ v u->Q v H'->CE outer P w H s Q u s':=
  fun {σ' H' v u} J rv q=>⟨v,H',J.os,J.bare,J.base,J.hok,rv,q⟩
 cases fl with
 | ret u=>
  obtain ⟨v,σ',H',J,rv,q⟩:=hs
  exact fin J rv q
 | next=>
  obtain ⟨σ',H',J,q⟩:=hs
  exact fin (v:=V.non) (u:=Value.none) J rfl q
 | brk=>
  obtain ⟨_,_,_,q⟩:=hs
  exact False.elim q
 | cont=>
  obtain ⟨_,_,_,q⟩:=hs
  exact False.elim q
section
variable {X : Cx} {x : Str} {p pos : Pos} {e : Expr} {es : List Expr} {t : TA} {id T : String} {r : List V → Hp → VK → Prop}
def t7 (r:List V->Hp->VK->Prop) (t:TA):TE:=fun σ H Q=>t σ H fun vs H1=>r vs H1 Q
theorem aj3 (hc:cP X (.builtin id) r) (hg:Gl X x) (hm:X.mg x=none) (hv:bootBuiltins x=some (.builtin id)) (ha:PA X (e :: es) t) (hn:x ≠ "__name__":=by decide) (hdb:(x == ("__debug__" : Str))=false:=by decide)
  (he:starEach (e :: es) X.env=(false,eval e X.env) :: starEach es X.env:=by rfl) (hpl:(backTo pos (starEach es X.env)).any (·.1)=false:=by rfl):PE X (.Call (.Name x p) (e :: es) [] pos) (t7 r t):=by
 intro pins s σ H Q I h
 refine wpAny_Call_Name_kw (k7 I hg hm hv ?_ hn hdb)
 exact PyProof.Rows.callWith_builtin1 (aN (ha pos pins s σ H _ I h) fun us s1 ⟨vs,H1,I1,r1,q1⟩=>hc pins s1 σ H1 vs us Q I1 r1 q1) he hpl
theorem zI (hc:cP X (.type T) r) (hg:Gl X x) (hm:X.mg x=none) (hv:bootBuiltins x=some (.type T)) (ha:PA X (e :: es) t) (hn:x ≠ "__name__":=by decide) (hdb:(x == ("__debug__" : Str))=false:=by decide)
  (he:starEach (e :: es) X.env=(false,eval e X.env) :: starEach es X.env:=by rfl) (hpl:(backTo pos (starEach es X.env)).any (·.1)=false:=by rfl):PE X (.Call (.Name x p) (e :: es) [] pos) (t7 r t):=by
 intro pins s σ H Q I h
 refine wpAny_Call_Name_kw (k7 I hg hm hv ?_ hn hdb)
 exact bk8 (aN (ha pos pins s σ H _ I h) fun us s1 ⟨vs,H1,I1,r1,q1⟩=>hc pins s1 σ H1 vs us Q I1 r1 q1) he hpl
end
end L2
namespace HT
open PySem PyProof.Rows
def bH:List Int->List Int->Bool
 | [],[]=>false
 | [],_ :: _=>true
 | _ :: _,[]=>false
 | x :: xs,y :: ys=>if x=y then bH xs ys else decide (x < y)
theorem iA (x y:Int) (xs ys:List Int):bH (x :: xs) (y :: ys)=if x=y then bH xs ys else decide (x < y):=rfl
theorem t8:bH [] []=false:=rfl
theorem aj4 (y:Int) (ys:List Int):bH [] (y :: ys)=true:=rfl
theorem aj5 (x:Int) (xs:List Int):bH (x :: xs) []=false:=rfl
theorem aj6 (A:Around) (s:Shared) (a:Int) (t:Tok) (c:Int) (u:Tok):∃ e,SeqAt.EqAt A s (.int a t) (.int c u) e/\(e=true ↔ a=c):=
 ⟨(a == c),SeqAt.EqAt.int_int a t c u,by simp⟩
theorem aj7 (A:Around) (s:Shared) (a:Int) (t:Tok) (c:Int) (u:Tok) (prog:Program) (w:World) (E:Value->Shared->Prop) (Q:Value->Shared->Prop) (h:Q (.bool (decide (a < c))) s) :
  wpAny (model prog w) A (richCompare .Lt (.int a t) (.int c u)) Q E s:=
 (PyProof.Rows.lt_int h:wpAny (model prog w) A (compareOp .Lt (.int a t) (.int c u)) Q E s)
section
open PySem.SeqAt
open PySem.AutoSeq1 (wpAny_loadPart')
open PySem.MeetsSeq PySem.MeetsSeq2 PySem.MeetsSeq3
theorem aj8 (l b:Addr) (items items2:Array Value) (n n2:Nat) (dd dd2:Option Addr) (sl sl2:Array (Option Value)) (ns ms:List Int) (hi:IntsAre items.toList ns) (hj:IntsAre items2.toList ms) :
  Meets (Builtin.«tuple.__lt__» ⟨[.ref l,.ref b],[]⟩)
   (fun _ R s=>s.heap.get? l=some { cls:=.type "tuple",dict:=dd,data:=.seq items n,slots:=sl }/\s.heap.get? b=some { cls:=.type "tuple",dict:=dd2,data:=.seq items2 n2,slots:=sl2 }/\
    R (.ok (.ret (.bool (bH ns ms)))) s):=
 .of_wp fun prog w A R s h=>by
  obtain ⟨hp,g,d,tk,os⟩:=s; obtain ⟨hl,hb,h⟩:=h
  have f2:=AutoSeq1.sub_tuple_tuple
  have z1:items.size=ns.length:=by rw [<- hi.length]; simp
  have z2:items2.size=ms.length:=by rw [<- hj.length]; simp
  wp_walk using wpAny_loadPart' hl,wpAny_loadPart' hb,wpAny_forIn_list _ (fun cW b s'=>b.1=none/\s'=⟨hp,g,d,tk,os⟩/\∃ (vs ws:List Value) (ns' ms':List Int),cW=vs.zip ws/\
   IntsAre vs ns'/\IntsAre ws ms'/\ns'.length+items2.size=ms'.length+items.size/\R (.ok (.ret (.bool (bH ns' ms')))) ⟨hp,g,d,tk,os⟩) _
  case turn=>
   rintro ⟨y,x⟩ cW b s' ⟨hb',rfl,vs,ws,ns',ms',hz,hvi,hwi,hlen,hR⟩
   cases hvi with
   | nil=>rw [List.zip_nil_left] at hz; cases hz
   | cons a t hvi'=>
    cases hwi with
    | nil=>rw [List.zip_nil_right] at hz; cases hz
    | cons c u hwi'=>
     rw [bp7] at hz
     injection hz with hyx hrest
     injection hyx with hy hx
     subst hy hx
     rw [iA] at hR
     simp only [be4] at hlen
     obtain ⟨e,he,hiff⟩:=aj6 A.in1 ⟨hp,g,d,tk,os⟩ a t c u
     refine ba9 (he prog w _ _ ?_)
     cases e with
     | true=>
      rw [if_pos (hiff.mp rfl)] at hR
      wp_walk
      exact⟨rfl,rfl,_,_,_,_,hrest,hvi',hwi',by omega,hR⟩
     | false=>
      rw [if_neg (fun q=>absurd (hiff.mpr q) bd4)] at hR
      have hri:=aj7 A.in1 ⟨hp,g,d,tk,os⟩ a t c u prog w
      wp_walk using hri
      exact⟨_,rfl,by simpa using hR⟩
  case fin=>
   rintro ⟨b1,b2⟩ s' ⟨hb',rfl,vs,ws,ns',ms',hz,hvi,hwi,hlen,hR⟩
   simp only at hb'
   subst hb'
   have hv:bH ns' ms'=decide (items.size < items2.size):=by
    cases hvi with
    | nil=>
     cases hwi with
     | nil=>
      simp only [List.length_nil] at hlen
      rw [t8]
      exact (bb7 (by omega)).symm
     | cons c u hw=>
      simp only [List.length_nil,be4] at hlen
      rw [aj4]
      exact (bc9 (by omega)).symm
    | cons a t hv=>
     cases hwi with
     | nil=>
      simp only [List.length_nil,be4] at hlen
      rw [aj5]
      exact (bb7 (by omega)).symm
     | cons c u hw=>
      rw [bp7] at hz
      cases hz
   rw [hv] at hR
   wp_walk
   exact⟨_,rfl,by simpa [Builtin.Tuple.tupleCompareSizes] using hR⟩
  case h=>
   exact⟨rfl,rfl,items.toList,items2.toList,ns,ms,rfl,hi,hj,by omega,h⟩
end
section
variable {prog : Program} {w : World} {A : Around} {E : Value → Shared → Prop} {s : Shared}
theorem aj9 {l b:Addr}{items items2:Array Value}{ns ms:List Int}{Q:Value->Shared->Prop} (hl:IsTup s.heap l items) (hb:IsTup s.heap b items2) (hi:IntsAre items.toList ns) (hj:IntsAre items2.toList ms)
  (hu:A.units < cLine) (h:Q (.bool (bH ns ms)) s):wpAny (model prog w) A (compareOp .Lt (.ref l) (.ref b)) Q E s:=by
 obtain ⟨⟨cls,dd,data,sl⟩,ho,hc,n,hd⟩:=id hl
 obtain ⟨⟨cls2,dd2,data2,sl2⟩,ho2,hc2,n2,hd2⟩:=id hb
 simp only at hc hd hc2 hd2
 subst hc hd hc2 hd2
 exact richCompare_meets_room (op:=.Lt) ⟨_,ho,rfl⟩ ⟨_,ho2,rfl⟩ PySem.F.slot_tuple_lt PySem.F.entry_tuple_lt (PySem.F.args_tuple_lt_2 _ _) (aj8 l b items items2 n n2 dd dd2 sl sl2 ns ms hi hj)
  ⟨ho,ho2,show Value.bool (bH ns ms) ≠ Value.notImplemented/\Q (.bool (bH ns ms)) s from ⟨(fun x=>nomatch x),h⟩⟩ hu
def aT (n d:Nat):Option Int->Nat
 | none=>d
 | some v=>if v < 0 then (v+(n:Int)).toNat else min v.toNat n
theorem ak0 (n d k:Nat):aT n d (some (k:Int))=min k n:=by
 show (if (k:Int) < 0 then ((k:Int)+(n:Int)).toNat else min (k:Int).toNat n)=min k n
 rw [if_neg (by omega),bi1]
theorem ak1 (n d:Nat) (hd:d<=n) (o:Option Int):aT n d o<=n:=by
 cases o with
 | none=>exact hd
 | some v=>
  show (if v < 0 then (v+(n:Int)).toNat else min v.toNat n)<=n
  by_cases hv:v < 0
  ·rw [if_pos hv]; omega
  ·rw [if_neg hv]; exact Nat.min_le_right _ _
theorem zJ (v:Int) (n d:Nat):(if v < 0 then max (v+(n:Int)) 0 else min v (n:Int))=((aT n d (some v):Nat):Int):=by
 show (if v < 0 then max (v+(n:Int)) 0 else min v (n:Int))=(((if v < 0 then (v+(n:Int)).toNat else min v.toNat n):Nat):Int)
 by_cases hv:v < 0
 ·simp only [if_pos hv]; omega
 ·simp only [if_neg hv]; omega
theorem ak2 (lo hi:Option Int) (n:Nat):Builtin.Slice.sliceAdjust lo hi 1 (n:Int)=(((aT n 0 lo:Nat):Int),((aT n n hi:Nat):Int)):=by
 have h1 : ¬ ((1:Int) < 0):=by omega
 unfold Builtin.Slice.sliceAdjust
 simp only [h1,bh5]
 refine Prod.ext ?_ ?_
 ·cases lo with
  | none=>rfl
  | some v=>exact zJ v n 0
 ·cases hi with
  | none=>rfl
  | some v=>exact zJ v n n
theorem ak3 (i j:Nat):Builtin.Slice.slicePlaces (i:Int) (j:Int) 1=j - i:=by
 unfold Builtin.Slice.slicePlaces
 have h1:(1:Int) > 0:=by omega
 simp only [h1,if_true,Int.ediv_one]
 split <;> omega
theorem zK {v:Value}{o:Option Int}{Q:Option Int->Shared->Prop} (p:IsPart v o) (h:Q o s):wpAny (model prog w) A (Builtin.Slice.slicePartIndex v) Q E s:=by
 cases p with
 | none=>exact slicePart_none h
 | int i t=>exact slicePart_int h
theorem zL {sl:Addr}{vl vu:Value}{lo hi:Option Int}{n:Nat}{Q:Int × Int × Nat->Shared->Prop} (hs:s.heap.IsSliceOf sl vl vu .none) (pl:IsPart vl lo) (pu:IsPart vu hi)
  (h:Q (((aT n 0 lo:Nat):Int),1,aT n n hi - aT n 0 lo) s):wpAny (model prog w) A (Builtin.Slice.sliceApplied (.ref sl) (pure (n:Int))) Q E s:=by
 obtain ⟨os,hos,hcs,hds⟩:=id hs
 unfold Builtin.Slice.sliceApplied Builtin.Slice.sliceFields
 refine ba9 (ba9 (bi4 hos hds (x:=vl) rfl (ba9 (bi4 hos hds (x:=vu) rfl (ba9 (bi4 hos hds (x:=.none) rfl (bb3 ?_)))))))
 refine ba9 (slicePart_none ?_)
 show wpAny _ _ (if ((1:Int) == 0)=true then _ else _) _ _ s
 rw [if_neg (by decide)]
 refine ba9 (zK pl (ba9 (zK pu (ba9 (bb3 ?_)))))
 show wpAny _ _ (match Builtin.Slice.sliceAdjust lo hi 1 (n:Int) with | (lo,hi)=>pure (lo,(1:Int),Builtin.Slice.slicePlaces lo hi 1)) _ _ s
 rw [ak2 lo hi n]
 show wpAny _ _ (pure (((aT n 0 lo:Nat):Int),(1:Int),Builtin.Slice.slicePlaces ((aT n 0 lo:Nat):Int) ((aT n n hi:Nat):Int) 1)) _ _ s
 rw [ak3]
 exact bb3 h
theorem ak4 (xs:Array Value) (i k:Nat):((List.range k).filterMap fun (m:Nat)=>xs[((i:Int)+(m:Int) * 1).toNat]?).toArray=((xs.toList.drop i).take k).toArray:=by
 have e:(fun (m:Nat)=>xs[((i:Int)+(m:Int) * 1).toNat]?)=fun m=>xs[i+m]?:=by
  funext m
  have:((i:Int)+(m:Int) * 1).toNat=i+m:=by omega
  rw [this]
 rw [e]
 have:=pick_run xs i k
 rw [List.filterMap_map] at this
 have e2:((fun x=>xs[x]?) ∘ fun x=>i+x)=fun m=>xs[i+m]?:=rfl
 rw [e2] at this
 rw [this]
theorem ak5 {t sl:Addr}{items:Array Value}{vl vu:Value}{lo hi:Option Int}{Q:Value->Shared->Prop} (ht:IsTup s.heap t items) (hs:s.heap.IsSliceOf sl vl vu .none) (pl:IsPart vl lo) (pu:IsPart vu hi)
  (hw : ¬ (aT items.size 0 lo=0/\aT items.size items.size hi=items.size))
  (h:Q (.ref s.heap.objs.size) { s with heap:=s.heap.push { cls:=.type "tuple",data:=.seq ((items.toList.drop (aT items.size 0 lo)).take (aT items.size items.size hi - aT items.size 0 lo)).toArray } })
  (hsz:items.size<=sizeLine):wpAny (model prog w) A (getItem (.ref t) (.ref sl)) Q E s:=by
 have htake:sizeOk (.seq ((items.toList.drop (aT items.size 0 lo)).take (aT items.size items.size hi - aT items.size 0 lo)).toArray):=by
  show ((items.toList.drop (aT items.size 0 lo)).take (aT items.size items.size hi - aT items.size 0 lo)).toArray.size<=sizeLine
  rw [bb5,bk4,bm3,bd9]
  omega
 have hj:aT items.size items.size hi<=items.size:=ak1 _ _ (bb6 _) hi
 obtain ⟨os,hos,hcs,hds⟩:=id hs
 have hTs:s.TypeIs (.ref sl) "slice":=⟨os,hos,hcs⟩
 unfold getItem
 try with_reducible refine bj9 ?_
 first | refine ba9 (bb3 ?_) | skip
 refine ba9 (wpAny_sequenceKey ht.typeIs (by decide) ?_)
 refine ba9 (bf3 (name:=Str.ofString "__getitem__") ht.typeIs bn2
  (be5 bn2 ht.typeIs entry_tuple_getitem ?_ (args_tuple_getitem _ _)))
 show wpAny _ _ (Builtin.Tuple.tupleItemsOf (.ref t) >>= _) _ _ s
 refine ba9 (tupleItemsOf_ ht ?_)
 refine ba9 (wpAny_typeOf hTs ?_)
 rw [if_pos (by decide)]
 refine ba9 (zL hs pl pu ?_)
 have hno : ¬ ((((aT items.size 0 lo:Nat):Int) == 0 && (1:Int) == 1 && (aT items.size items.size hi - aT items.size 0 lo) == items.size)=true):=by
  intro q
  rw [bf0,bf0] at q
  have q1:((aT items.size 0 lo:Nat):Int)=0:=eq_of_beq q.1.1
  have q2:aT items.size items.size hi - aT items.size 0 lo=items.size:=eq_of_beq q.2
  exact hw ⟨by omega,by omega⟩
 show wpAny _ _ (if (((aT items.size 0 lo:Nat):Int) == 0 && (1:Int) == 1 && (aT items.size items.size hi - aT items.size 0 lo) == items.size)=true then _ else _) _ _ s
 rw [if_neg hno,ak4]
 first
  | exact ba9 (m:=Builtin.Tuple.tupleExact _) (be8 (bb3 ⟨_,rfl,bb3 h⟩) htake)
  | exact ba9 (m:=Builtin.Tuple.tupleExact _) (be8 (ba9 (bb3 (bb3 ⟨_,rfl,bb3 h⟩))) htake)
  | exact ba9 (ba9 (m:=Builtin.Tuple.tupleExact _) (be8 (bb3 (bb3 ⟨_,rfl,bb3 h⟩)) htake))
  | exact ba9 (ba9 (m:=Builtin.Tuple.tupleExact _) (be8 (bb3 ⟨_,rfl,bb3 h⟩) htake))
end
end HT
namespace L2
open PySem PySem.Spec PyProof.Rows
abbrev TO:=St->Hp->(Option Int->Hp->Prop)->Prop
def PO (X:Cx) (e:Option Expr) (t:TO):Prop:=
 ∀ (pins:List (Addr × Obj)) (s:Shared) (σ:St) (H:Hp) (Q:Option Int->Hp->Prop),a6 X pins σ H s->t σ H Q->
  wpAny (model X.prog X.w) X.A (evalPart e X.env) (fun u s'=>∃ o H',a6 X pins σ H' s'/\IsPart u o/\Q o H') X.xe s
def ak6:TO:=fun _ H Q=>Q none H
def ak7 (t:TE):TO:=fun σ H Q=>t σ H fun x H1=>∃ i,x = .int i/\Q (some i) H1
theorem iB {ns:List Int}:∀ {us:List Value},aJ (ns.map V.int) us->IntsAre us ns:=by
 induction ns with
 | nil=>intro us r; rw [List.map_nil] at r; cases r; exact .nil
 | cons n ns ih=>
  intro us r
  rw [bf4] at r
  cases r with
  | cons r1 r2=>
   obtain ⟨t,e⟩:=r1
   subst e
   exact .cons n t (ih r2)
section
variable {X : Cx} {e : Expr} {te : TE} {lo hi : Option Expr} {tl th : TO} {pos p2 : Pos}
theorem ak8:PO X none ak6:=by
 intro pins s σ H Q I h
 rw [evalPart_none]
 exact bb3 ⟨none,H,I,.none,h⟩
theorem ak9 (h:PE X e te):PO X (some e) (ak7 te):=by
 intro pins s σ H Q I hw
 rw [evalPart_some]
 refine aN (h pins s σ H _ I hw) fun u s1 ⟨x,H1,I1,r1,q1⟩=>?_
 obtain ⟨i,rfl,q⟩:=q1
 obtain ⟨t,rfl⟩:=r1
 exact⟨some i,H1,I1,.int i t,q⟩
def jL (X:Cx) (r:V->Option Int->Option Int->Hp->VK->Prop):Prop:=
 ∀ (pins:List (Addr × Obj)) (s:Shared) (σ:St) (H:Hp) (x:V) (v vl vu:Value) (lo hi:Option Int) (sl:Addr) (Q:VK),a6 X pins σ H s->aQ x v->s.heap.IsSliceOf sl vl vu .none->IsPart vl lo->IsPart vu hi->r x lo hi H Q->
  ∃ T id,typeLookup (.type T) "__getitem__" = pure (some (.builtin id))/\s.TypeIs v T/\wpAny (model X.prog X.w) X.A (getItem v (.ref sl)) (EP X pins σ Q) X.xe s
theorem jL.or {r r':V->Option Int->Option Int->Hp->VK->Prop} (h:jL X r) (h':jL X r'):jL X (fun x lo hi H Q=>r x lo hi H Q ∨ r' x lo hi H Q):=by
 intro pins s σ H x v vl vu lo hi sl Q I rx hs pl pu q
 rcases q with q | q
 ·exact h pins s σ H x v vl vu lo hi sl Q I rx hs pl pu q
 ·exact h' pins s σ H x v vl vu lo hi sl Q I rx hs pl pu q
def tSl (r:V->Option Int->Option Int->Hp->VK->Prop) (te:TE) (tl th:TO):TE:=fun σ H Q=>te σ H fun x H1=>tl σ H1 fun l H2=>th σ H2 fun u H3=>r x l u H3 Q
theorem al0 {r:V->Option Int->Option Int->Hp->VK->Prop} (hr:jL X r) (he:PE X e te) (hl:PO X lo tl) (hu:PO X hi th):PE X (.Subscript e (.Slice lo hi none p2) pos) (tSl r te tl th):=by
 intro pins s σ H Q I h
 refine Subscript_ (aN (he pins s σ H _ I h) fun v s1 ⟨x,H1,I1,r1,q1⟩=>?_)
 refine wpAny_Slice (aN (hl pins s1 σ H1 _ I1 q1) fun vl s2 ⟨l,H2,I2,pl,q2⟩=>aN (hu pins s2 σ H2 _ I2 q2) fun vu s3 ⟨u,H3,I3,pu,q3⟩=>?_)
 rw [evalPart_none]
 refine bb3 ?_
 have I4:a6 X pins σ H3 { s3 with heap:=s3.heap.push { cls:=.type "slice",data:=.fields #[vl,vu,.none] } }:=I3.kept (t':=s3.toks) fun b ob q=>bb1 _ q
 obtain ⟨T,id,hT,ht,hg⟩:=hr pins { s3 with heap:=s3.heap.push { cls:=.type "slice",data:=.fields #[vl,vu,.none] } } σ H3 x v vl vu l u s3.heap.objs.size Q I4 r1 (Heap.IsSliceOf.new ..) pl pu q3
 show wpAny (model X.prog X.w) X.A (subscriptTail e (.Slice lo hi none p2) v (.ref s3.heap.objs.size)) (EP X pins σ Q) X.xe { s3 with heap:=s3.heap.push { cls:=.type "slice",data:=.fields #[vl,vu,.none] } }
 exact tail_any (ops:=[.ref s3.heap.objs.size,v]) ht hT hg (by with_unfolding_all rfl)
def gS (xs:List V) (lo hi:Option Int):List V:=(xs.drop (HT.aT xs.length 0 lo)).take (HT.aT xs.length xs.length hi - HT.aT xs.length 0 lo)
theorem zM (xs:List V) (lo hi:Option Int):(gS xs lo hi).length<=xs.length:=by
 unfold gS
 rw [bk4,bm3]
 omega
def al1 (K:PySem.W.Frag):V->Option Int->Option Int->Hp->VK->Prop:=fun x lo hi H Q=>∃ a xs,x = .ref a/\aI K H a xs/\
 ¬ (HT.aT xs.length 0 lo=0/\HT.aT xs.length xs.length hi=xs.length)/\∀ p,H p=none->Q (.ref p) (upd H p (.tup (gS xs lo hi)))
theorem al2:jL X (al1 X.K):=by
 intro pins s σ H x v vl vu lo hi sl Q I rx hs pl pu h
 obtain ⟨a,xs,rfl,hx,hw,q⟩:=h
 cases rx
 obtain ⟨its,r,ht,hz⟩:=I.tuple hx
 have hlen:its.toArray.size=xs.length:=by rw [bb5]; exact r.length.symm
 refine⟨"tuple",_,PyProof.Rows.slot_tuple_getitem.lookup,ht.typeIs,?_⟩
 refine HT.ak5 ht hs pl pu (by rw [hlen]; exact hw) ?_ (by rw [hlen]; exact hz)
 rw [hlen]
 refine⟨.ref s.heap.objs.size,_,I.laid (t':=s.toks) (o:=.tup (gS xs lo hi)) (fun b ob q=>bb1 _ q) (bb6 _) ?_,rfl,q _ (I.hok.fresh (bb6 _))⟩
 exact⟨bf6 (zM xs lo hi) hz,_,(r.drop (HT.aT xs.length 0 lo)).take (HT.aT xs.length xs.length hi - HT.aT xs.length 0 lo),IsTup.new _ _,i7.new _ _ rfl⟩
def t9 (K:PySem.W.Frag):R2:=fun x y H Q=>∃ a b ns ms,x = .ref a/\y = .ref b/\aI K H a (ns.map V.int)/\aI K H b (ms.map V.int)/\Q (.bl (HT.bH ns ms)) H
theorem al3 (hu:X.A.units < cLine):cK X (compareOp .Lt) (t9 X.K):=by
 intro pins s σ H x y v u Q I rx ry h
 obtain ⟨a,b,ns,ms,rfl,rfl,ha,hb,q⟩:=h
 cases rx
 cases ry
 obtain ⟨its,r1,p1,_⟩:=I.tuple ha
 obtain ⟨its2,r2,p2,_⟩:=I.tuple hb
 have i1:IntsAre its.toArray.toList ns:=iB r1
 have i2:IntsAre its2.toArray.toList ms:=iB r2
 exact HT.aj9 p1 p2 i1 i2 hu ⟨.bl (HT.bH ns ms),H,I,rfl,q⟩
theorem aJ.nil_iff {xs:List V}{us:List Value} (r:aJ xs us):us = [] ↔ xs = []:=by
 cases r with
 | nil=>simp
 | cons _ _=>simp
end
def gT (n:Nat) (i:Int):Option Nat:=if 0<=i then (if i < n then some i.toNat else none) else if -(n:Int)<=i then some (i+n).toNat else none
def atI {α:Type} (xs:List α) (i:Int):Option α:=(gT xs.length i).bind fun j=>xs[j]?
theorem zN {n:Nat}{i:Int}{j:Nat} (h:gT n i=some j):seqIndex? i n=some j/\j < n/\-(n:Int)<=i/\i < n:=by
 unfold gT at h
 by_cases h0:0<=i
 ·rw [if_pos h0] at h
  by_cases h1:i < n
  ·rw [if_pos h1] at h
   have e:i.toNat=j:=be0 h
   exact⟨by rw [seqIndex_of h0 h1,e],by omega,by omega,h1⟩
  ·rw [if_neg h1] at h; cases h
 ·rw [if_neg h0] at h
  by_cases h1 : -(n:Int)<=i
  ·rw [if_pos h1] at h
   have e:(i+n).toNat=j:=be0 h
   exact⟨by rw [seqIndex_neg (by omega) h1,e],by omega,h1,by omega⟩
  ·rw [if_neg h1] at h; cases h
theorem tD {α:Type}{xs:List α}{i:Int}{v:α} (h:atI xs i=some v):∃ j,seqIndex? i xs.length=some j/\xs[j]? = some v/\j < xs.length/\-(xs.length:Int)<=i/\i < xs.length:=by
 unfold atI at h
 cases e:gT xs.length i with
 | none=>rw [e] at h; cases h
 | some j=>
  rw [e] at h
  obtain ⟨h1,h2,h3,h4⟩:=zN e
  exact⟨j,h1,h,h2,h3,h4⟩
theorem oS {α:Type}{xs:List α}{j:Nat}{v:α} (h:xs[j]? = some v):atI xs (j:Int)=some v:=by
 have hj:j < xs.length:=(bc5.mp h).1
 have e:gT xs.length (j:Int)=some j:=by
  unfold gT
  rw [if_pos (by omega),if_pos (by omega)]; simp
 unfold atI; rw [e]; exact h
def zO (b:Expr):Prop:=∀ o i,subscripted b false o i=operate [o,i] (getItem o i)
def iV (X:Cx) (r:R2):Prop:=
 ∀ (value slice:Expr) (pins:List (Addr × Obj)) (s:Shared) (σ:St) (H:Hp) (x y:V) (v u:Value) (Q:VK),a6 X pins σ H s->aQ x v->aQ y u->r x y H Q->
  subscripted slice false v u=operate [v,u] (getItem v u)->wpAny (model X.prog X.w) X.A (subscriptTail value slice v u) (EP X pins σ Q) X.xe s
def MtR (X:Cx) (id:String) (r:V->List V->Hp->VK->Prop):Prop:=
 ∀ (pins:List (Addr × Obj)) (s:Shared) (σ:St) (H:Hp) (x:V) (xs:List V) (v:Value) (us:List Value) (Q:VK),a6 X pins σ H s->aQ x v->aJ xs us->r x xs H Q->
  wpAny (model X.prog X.w) X.A (call (.builtin id) (v :: us)) (EP X pins σ Q) X.xe s
section
variable {X : Cx} {a b : Expr} {ta tb : TE} {pos : Pos}
theorem iV.or {r r':R2} (h:iV X r) (h':iV X r'):iV X (fun x y H Q=>r x y H Q ∨ r' x y H Q):=by
 intro value slice pins s σ H x y v u Q I rx ry q hs
 rcases q with q | q
 ·exact h value slice pins s σ H x y v u Q I rx ry q hs
 ·exact h' value slice pins s σ H x y v u Q I rx ry q hs
theorem mP {r:R2} (hr:iV X r) (ha:PE X a ta) (hb:PE X b tb) (hs:zO b):PE X (.Subscript a b pos) (mL r ta tb):=by
 intro pins s σ H Q I h
 exact Subscript_ (sU ha hb I h fun v u s2 x y H2 I2 rx ry q=>hr a b pins s2 σ H2 x y v u Q I2 rx ry q (hs _ _))
def zP (K:PySem.W.Frag):R2:=fun x y H Q=>∃ p xs i v,x = .ref p/\y = .int i/\aL K H p xs/\atI xs i=some v/\Q v H
def zQ (K:PySem.W.Frag):R2:=fun x y H Q=>∃ p xs i v,x = .ref p/\y = .int i/\aI K H p xs/\atI xs i=some v/\Q v H
def zR:R2:=fun x y H Q=>∃ z i c,x = .str z/\y = .int i/\z.length<=sizeLine/\atI z.cps.toList i=some c/\Q (.str ⟨#[c]⟩) H
theorem tE:iV X (zP X.K):=by
 intro value slice pins s σ H x y v u Q I rx ry h hs
 obtain ⟨p,xs,i,z,rfl,rfl,hq,he,q⟩:=h
 cases rx
 obtain ⟨t,rfl⟩:=ry
 obtain ⟨its,r,pl,hz⟩:=I.list hq
 obtain ⟨j,h1,h2,h3,h4,h5⟩:=tD he
 obtain ⟨w,ew,rw'⟩:=r.get h2
 have hl:=r.length
 have hn:=l4
 have fin:EP X pins σ Q w s:=⟨z,H,I,rw',q⟩
 by_cases h0:0<=i
 ·have hj:i.toNat=j:=by
   rw [seqIndex_of h0 h5] at h1
   exact be0 h1
  exact item_listR pl.isList h0 (by omega) (by rw [hj]; simpa using ew) fin hs
 ·have hj:(i+(its.toArray.size:Int)).toNat=j:=by
   rw [seqIndex_neg (by omega) h4] at h1
   rw [bb5,<- hl]
   exact be0 h1
  exact subscriptTail_builtinR (x:=w) pl.isList.typeIs slot_list_getitem.lookup
   (wpAny_getItem_list_neg (Q:=fun r s'=>r=w/\EP X pins σ Q r s') pl.isList (by omega) (by rw [bb5] <;> omega) (by omega) (by rw [hj]; simpa using ew) ⟨rfl,fin⟩) hs
theorem tF:iV X (zQ X.K):=by
 intro value slice pins s σ H x y v u Q I rx ry h hs
 obtain ⟨p,xs,i,z,rfl,rfl,hq,he,q⟩:=h
 cases rx
 obtain ⟨t,rfl⟩:=ry
 obtain ⟨its,r,pl,hz⟩:=I.tuple hq
 obtain ⟨j,h1,h2,h3,h4,h5⟩:=tD he
 obtain ⟨w,ew,rw'⟩:=r.get h2
 have hl:=r.length
 have hn:=l4
 have fin:EP X pins σ Q w s:=⟨z,H,I,rw',q⟩
 exact subscriptTail_builtinR (x:=w) pl.typeIs slot_tuple_getitem.lookup
  (getItem_tuple (j:=j) (Q:=fun r s'=>r=w/\EP X pins σ Q r s') pl (by omega) (by omega) (by rw [bb5,<- hl]; exact h1) (by simpa using ew) ⟨rfl,fin⟩) hs
theorem al4:iV X zR:=by
 intro value slice pins s σ H x y v u Q I rx ry h hs
 obtain ⟨z,i,c,rfl,rfl,hz,he,q⟩:=h
 obtain ⟨t,rfl⟩:=rx
 obtain ⟨t',rfl⟩:=ry
 obtain ⟨j,h1,h2,h3,h4,h5⟩:=tD he
 have hl:z.cps.toList.length=z.length:=by simp [Str.length]
 rw [hl] at h1 h4 h5
 have hn:=l4
 exact tail_any (typeIs_str s z t) slot_str_getitem.lookup (getItem_str (c:=c) (by
  have e1:decide (i < -(2 ^ 63:Int))=false:=bb7 (by omega)
  have e2:decide (i >= 2 ^ 63)=false:=bb7 (by omega)
  rw [e1,e2,Bool.or_false]) (by rw [h1]; simpa using h2) ⟨.str ⟨#[c]⟩,H,I.tok _,⟨_,rfl⟩,q⟩) hs
def zS (K:PySem.W.Frag):R2:=fun x y H Q=>zP K x y H Q ∨ zQ K x y H Q ∨ zR x y H Q
theorem al5:iV X (zS X.K):=tE.or (tF.or al4)
theorem al6 (its:List Value) (n j:Nat) (u:Value):Obj.mapSeq (·.setIfInBounds j u) { cls:=.type "list",data:=.seq its.toArray n }={ cls:=.type "list",data:=.seq (its.set j u).toArray n }:=by
 simp [Obj.mapSeq]
theorem a6.lst {pins:List (Addr × Obj)}{σ:St}{H:Hp}{s:Shared}{p:Addr}{xs:List V} (I:a6 X pins σ H s) (h:H p=some (.lst xs)) :
  ∃ (its:List Value) (n:Nat),aJ xs its/\s.heap.get? p=some { cls:=.type "list",data:=.seq its.toArray n }/\xs.length<=sizeLine:=by
 obtain ⟨z,its,n,r,e⟩:=I.hok p _ h
 exact⟨its,n,r,e,z⟩
theorem a6.lstUpd {pins:List (Addr × Obj)}{σ:St}{H:Hp}{s:Shared}{p:Addr}{xs ys:List V}{its its':List Value}{n n':Nat}{f:Obj->Obj} (I:a6 X pins σ H s) (h:H p=some (.lst xs))
  (ho:s.heap.get? p=some { cls:=.type "list",data:=.seq its.toArray n }) (hf:f { cls:=.type "list",data:=.seq its.toArray n }={ cls:=.type "list",data:=.seq its'.toArray n' }) (r:aJ ys its') (hz:ys.length<=sizeLine) (t:Nat) :
  a6 X pins σ (upd H p (.lst ys)) { s with heap:=s.heap.update p f,toks:=t }:=by
 have e:(s.heap.update p f).get? p=some { cls:=.type "list",data:=.seq its'.toArray n' }:=by
  rw [bi3 f ho (by rw [hf] <;> rfl),hf]
 refine I.write (x:=p) (e:=p) (by rw [h]; trivial) (.inl rfl) (fun b u hb q=>(bm7 _ _ (Ne.symm hb)).trans q) ⟨_,e⟩ ?_
 exact⟨hz,its',n',r,e⟩
def tG:V->V->V->Hp->(Hp->Prop)->Prop:=fun o i v H Q=>∃ p xs k j,o = .ref p/\i = .int k/\H p=some (.lst xs)/\gT xs.length k=some j/\Q (upd H p (.lst (xs.set j v)))
theorem al7:yD X tG:=by
 intro pins s σ H o i v ov iv u Q I ro ri rv h
 obtain ⟨p,xs,k,j,rfl,rfl,hp,hj,q⟩:=h
 cases ro
 obtain ⟨t,rfl⟩:=ri
 obtain ⟨its,n,r,ho,hz⟩:=I.lst hp
 obtain ⟨h1,h2,h3,h4⟩:=zN hj
 have hl:=r.length
 have hn:=l4
 have I':a6 X pins σ (upd H p (.lst (xs.set j v))) { s with heap:=s.heap.update p (Obj.mapSeq (·.setIfInBounds j u)) }:=
  I.lstUpd hp ho (al6 its n j u) (r.set rv j) (by rw [bk2]; exact hz) s.toks
 by_cases h0:0<=k
 ·have hk:k.toNat=j:=by
   rw [seqIndex_of h0 h4] at h1
   exact be0 h1
  exact PySem.W.ki_setAt ho h0 (by omega) (by rw [bb5,<- hl]; exact h4) (by rw [hk]; exact⟨_,I',q⟩)
 ·have hk:(k+(its.toArray.size:Int)).toNat=j:=by
   rw [seqIndex_neg (by omega) h3] at h1
   rw [bb5,<- hl]
   exact be0 h1
  exact PySem.W.ki_setBack ho (by omega) (by rw [bb5,<- hl]; exact h3) (by omega) (by rw [hk]; exact⟨_,I',q⟩)
theorem al8 (lo hi:Option Int) (n:Nat):(sliceBounds lo hi none n).1=((HT.aT n 0 lo:Nat):Int)/\(sliceBounds lo hi none n).2.1=((HT.aT n n hi:Nat):Int)/\(sliceBounds lo hi none n).2.2=1:=by
 refine⟨?_,?_,rfl⟩
 ·cases lo with
  | none=>simp [sliceBounds,HT.aT]
  | some i=>
   simp only [sliceBounds,HT.aT,Option.getD_none,show (1:Int) > 0 by decide,if_true]
   by_cases h:i < 0
   ·simp only [h,if_true] <;> omega
   ·simp only [h,bh5] <;> omega
 ·cases hi with
  | none=>simp [sliceBounds,HT.aT]
  | some i=>
   simp only [sliceBounds,HT.aT,Option.getD_none,show (1:Int) > 0 by decide,if_true]
   by_cases h:i < 0
   ·simp only [h,if_true] <;> omega
   ·simp only [h,bh5] <;> omega
theorem al9 (its:List Value) (lo hi:Option Int):slicePick its.toArray lo hi none=((its.drop (HT.aT its.length 0 lo)).take (HT.aT its.length its.length hi - HT.aT its.length 0 lo)).toArray:=by
 obtain ⟨h1,h2,h3⟩:=al8 lo hi its.toArray.size
 unfold slicePick
 rw [h1,h2,h3]
 simp only [sliceRange_one,pick_run,bb5] <;> rfl
def am0 (K:PySem.W.Frag):V->Option Int->Option Int->Hp->VK->Prop:=fun x lo hi H Q=>∃ a xs,x = .ref a/\aL K H a xs/\∀ p,H p=none->Q (.ref p) (upd H p (.lst (gS xs lo hi)))
theorem am1:jL X (am0 X.K):=by
 intro pins s σ H x v vl vu lo hi sl Q I rx hs pl pu h
 obtain ⟨a,xs,rfl,hx,q⟩:=h
 cases rx
 obtain ⟨its,r,ht,hz⟩:=I.list hx
 have hlen:=r.length
 refine⟨"list",_,slot_list_getitem.lookup,ht.isList.typeIs,?_⟩
 refine wpAny_getItem_list_slice ht.isList hs pl pu .none (by simp) ?_ (by rw [bb5] <;> omega)
 rw [al9,<- hlen]
 refine⟨.ref s.heap.objs.size,_,I.laid (t':=s.toks) (o:=.lst (gS xs lo hi)) (fun b ob q=>bb1 _ q) (bb6 _) ?_,rfl,q _ (I.hok.fresh (bb6 _))⟩
 exact⟨bf6 (zM xs lo hi) hz,_,0,(r.drop (HT.aT xs.length 0 lo)).take (HT.aT xs.length xs.length hi - HT.aT xs.length 0 lo),bb9 _ rfl⟩
def iW:V->Bool
 | .non=>true
 | .bl _=>true
 | .int _=>true
 | .str _=>true
 | _=>false
def gU:V->V->Bool
 | .non,.non=>true
 | .bl a,.bl b=>a == b
 | .bl a,.int b=>(if a then 1 else 0) == b
 | .int a,.bl b=>a == (if b then 1 else 0)
 | .int a,.int b=>a == b
 | .str a,.str b=>a == b
 | _,_=>false
theorem am2 {A:Around}{s:Shared}{y x:V}{u v:Value} (ry:aQ y u) (rx:aQ x v) (fy:iW y=true) (fx:iW x=true):SeqAt.EqAt A s u v (gU y x):=by
 cases y with
 | non=>
  cases ry
  cases x with
  | non=>cases rx; exact SeqAt.EqAt.same _
  | bl b=>cases rx; exact SeqAt.EqAt.none_bool b
  | int b=>obtain ⟨t,rfl⟩:=rx; exact SeqAt.EqAt.none_int b t
  | str b=>obtain ⟨t,rfl⟩:=rx; exact SeqAt.EqAt.none_str b t
  | _=>exact absurd (show false=true from fx) bd4
 | bl a=>
  cases ry
  cases x with
  | non=>cases rx; exact SeqAt.EqAt.bool_none a
  | bl b=>cases rx; exact SeqAt.EqAt.bool_bool a b
  | int b=>obtain ⟨t,rfl⟩:=rx; exact SeqAt.EqAt.bool_int a b t
  | str b=>obtain ⟨t,rfl⟩:=rx; exact SeqAt.EqAt.bool_str a b t
  | _=>exact absurd (show false=true from fx) bd4
 | int a=>
  obtain ⟨t',rfl⟩:=ry
  cases x with
  | non=>cases rx; exact SeqAt.EqAt.int_none a t'
  | bl b=>cases rx; exact SeqAt.EqAt.int_bool a t' b
  | int b=>obtain ⟨t,rfl⟩:=rx; exact SeqAt.EqAt.int_int a t' b t
  | str b=>obtain ⟨t,rfl⟩:=rx; exact SeqAt.EqAt.int_str a t' b t
  | _=>exact absurd (show false=true from fx) bd4
 | str a=>
  obtain ⟨t',rfl⟩:=ry
  cases x with
  | non=>cases rx; exact SeqAt.EqAt.str_none a t'
  | bl b=>cases rx; exact SeqAt.EqAt.str_bool a t' b
  | int b=>obtain ⟨t,rfl⟩:=rx; exact SeqAt.EqAt.str_int a t' b t
  | str b=>obtain ⟨t,rfl⟩:=rx; exact SeqAt.EqAt.str_str a t' b t
  | _=>exact absurd (show false=true from fx) bd4
 | _=>exact absurd (show false=true from fy) bd4
def iX (x:V) (u:Value):Bool:=match u with
 | .none=>gU .non x
 | .bool b=>gU (.bl b) x
 | .int i _=>gU (.int i) x
 | .str z _=>gU (.str z) x
 | _=>false
theorem zT {x y:V}{u:Value} (r:aQ y u) (f:iW y=true):iX x u=gU y x:=by
 cases y with
 | non=>cases r; rfl
 | bl b=>cases r; rfl
 | int i=>obtain ⟨t,rfl⟩:=r; rfl
 | str z=>obtain ⟨t,rfl⟩:=r; rfl
 | _=>exact absurd (show false=true from f) bd4
theorem tH {x:V}:∀ {xs:List V}{us:List Value},aJ xs us->xs.all iW=true->us.any (iX x)=xs.any fun y=>gU y x
 | _,_,.nil,_=>rfl
 | y :: xs,u :: us,.cons r t,f=>by
  rw [bp2,bf0] at f
  rw [List.any_cons,List.any_cons,zT r f.1,tH t f.2]
theorem tI {A:Around}{s:Shared}{x:V}{v:Value} (rx:aQ x v) (fx:iW x=true):∀ {xs:List V}{us:List Value},aJ xs us->xs.all iW=true->∀ u ∈ us,SeqAt.EqAt A s u v (iX x u)
 | _,_,.nil,_=>fun u hu=>by cases hu
 | y :: xs,u :: us,.cons r t,f=>fun u' hu=>by
  rw [bp2,bf0] at f
  rcases bb8.mp hu with rfl | hu
  ·rw [zT r f.1]; exact am2 r rx f.1 fx
  ·exact tI rx fx t f.2 u' hu
def mQ (x:V) (xs:List V):Bool:=xs.any fun y=>gU y x
def zU (K:PySem.W.Frag) (neg:Bool):R2:=fun x y H Q=>∃ p xs,y = .ref p/\(aL K H p xs ∨ aI K H p xs)/\iW x=true/\xs.all iW=true/\Q (.bl (if neg then !mQ x xs else mQ x xs)) H
theorem am3:cK X (compareOp .NotIn) (zU X.K true):=by
 intro pins s σ H x y v u Q I rx ry h
 obtain ⟨p,xs,rfl,hq,fx,fs,q⟩:=h
 cases ry
 rcases hq with hq | hq
 ·obtain ⟨its,r,pl,hz⟩:=I.list hq
  refine SeqAt.notIn_listAt (iX x) pl.isList (fun w hw=>tI rx fx r fs w (by simpa using hw)) ⟨.bl _,H,I,rfl,?_⟩
  rw [show its.toArray.any (iX x)=its.any (iX x) by simp,tH r fs]
  exact q
 ·obtain ⟨its,r,pl,hz⟩:=I.tuple hq
  refine SeqAt.notIn_tupleAt (iX x) pl (fun w hw=>tI rx fx r fs w (by simpa using hw)) ⟨.bl _,H,I,rfl,?_⟩
  rw [show its.toArray.any (iX x)=its.any (iX x) by simp,tH r fs]
  exact q
theorem am4:cP X (.builtin "len") (fun xs H Q=>∃ p ys,xs = [.ref p]/\(aL X.K H p ys ∨ aI X.K H p ys)/\Q (.int ys.length) H):=by
 intro pins s σ H xs us Q I r h
 obtain ⟨p,ys,rfl,hq,q⟩:=h
 obtain ⟨u,rfl,rx⟩:=fD r
 cases rx
 have hn:=l4
 rcases hq with hq | hq
 ·obtain ⟨its,r',pl,hz⟩:=I.list hq
  have hlen:=r'.length
  exact Calls.call_len_list pl.isList (by simp only [bb5] <;> omega) ⟨.int ys.length,H,I.tok _,⟨s.toks+1,by rw [bb5,hlen]⟩,q⟩
 ·obtain ⟨its,r',pl,hz⟩:=I.tuple hq
  have hlen:=r'.length
  exact len_tuple pl (by simp only [bb5] <;> omega) ⟨.int ys.length,H,I.tok _,⟨s.toks+1,by rw [bb5,hlen]⟩,q⟩
theorem cP.or {f:Value}{r r':List V->Hp->VK->Prop} (h:cP X f r) (h':cP X f r'):cP X f (fun xs H Q=>r xs H Q ∨ r' xs H Q):=by
 intro pins s σ H xs us Q I rs q
 rcases q with q | q
 ·exact h pins s σ H xs us Q I rs q
 ·exact h' pins s σ H xs us Q I rs q
theorem am5:cP X (.type "list") (fun xs H Q=>∃ p ys,xs = [.ref p]/\(aL X.K H p ys ∨ aI X.K H p ys)/\∀ l,H l=none->Q (.ref l) (upd H l (.lst ys))):=by
 intro pins s σ H xs us Q I r h
 obtain ⟨p,ys,rfl,hq,q⟩:=h
 obtain ⟨u,rfl,rx⟩:=fD r
 cases rx
 have fin:∀ (its:List Value),aJ ys its->ys.length<=sizeLine->∀ (h':Heap) (c':Nat),(∀ b o',s.heap.get? b=some o'->h'.get? b=some o')->
   h'.get? s.heap.objs.size=some { cls:=.type "list",dict:=none,data:=.seq its.toArray c',slots:=#[] }->EP X pins σ Q (.ref s.heap.objs.size) { s with heap:=h' }:=fun its r' hz h' c' kp e=>
  ⟨.ref s.heap.objs.size,_,I.laid (t':=s.toks) kp (bb6 _) (show bT X.prog X.w _ h' _ (.lst ys) from ⟨hz,its,c',r',e⟩),rfl,q _ (I.hok.fresh (bb6 _))⟩
 rcases hq with hq | hq
 ·obtain ⟨its,r',pl,hz⟩:=I.list hq
  have hlen:=r'.length
  obtain ⟨o,ho,hc,n,hd⟩:=pl.isList
  exact call_list_seq p (.inl rfl) ho hc hd (fun h' c' kp e=>fin its r' hz h' c' kp e) (by simp only [bb5] <;> omega)
 ·obtain ⟨its,r',pl,hz⟩:=I.tuple hq
  have hlen:=r'.length
  obtain ⟨o,ho,hc,n,hd⟩:=pl
  exact call_list_seq p (.inr rfl) ho hc hd (fun h' c' kp e=>fin its r' hz h' c' kp e) (by simp only [bb5] <;> omega)
theorem am6:cP X (.type "tuple") (fun xs H Q=>∃ p ys,xs = [.ref p]/\((aL X.K H p ys/\∀ l,H l=none->Q (.ref l) (upd H l (.tup ys))) ∨ (aI X.K H p ys/\Q (.ref p) H))):=by
 intro pins s σ H xs us Q I r h
 obtain ⟨p,ys,rfl,h⟩:=h
 obtain ⟨u,rfl,rx⟩:=fD r
 cases rx
 rcases h with ⟨hq,q⟩ | ⟨hq,q⟩
 ·obtain ⟨its,r',pl,hz⟩:=I.list hq
  have hlen:=r'.length
  refine call_tuple_list pl.isList (fun h' kp=>?_) (by simp only [bb5] <;> omega)
  have I1:a6 X pins σ H { s with heap:=h' }:=I.kept (t':=s.toks) kp
  have I2:a6 X pins σ (upd H h'.objs.size (.tup ys)) { s with heap:=h'.push { cls:=.type "tuple",data:=.seq its.toArray } }:=
   I1.laid (t':=s.toks) (fun b o e=>bb1 _ e) (bb6 _) (show bT X.prog X.w _ _ _ (.tup ys) from ⟨hz,its,r',IsTup.new _ _,i7.new _ _ rfl⟩)
  exact⟨.ref h'.objs.size,_,I2,rfl,q _ (I1.hok.fresh (bb6 _))⟩
 ·obtain ⟨its,r',pl,hz⟩:=I.tuple hq
  exact call_tuple_same pl ⟨.ref p,H,I,rfl,q⟩
def oT (K:PySem.W.Frag) (T:String) (x:V) (H:Hp):Prop:=match x with
 | .str _=>T="str"
 | .int _=>T="int"
 | .ref p=>(T="list"/\∃ xs,aL K H p xs) ∨ (T="tuple"/\∃ o,K.lookup p=some o/\o.cls = .type "tuple"/\o.dict=none) ∨
   (T="dict"/\((∃ kvs,H p=some (.dK kvs)) ∨ ∃ kvs,H p=some (.dT kvs))) ∨ (T="set"/\∃ S n,H p=some (.set S n))
 | _=>False
theorem am7 {pins:List (Addr × Obj)}{σ:St}{H:Hp}{s:Shared}{T:String}{x:V}{v:Value} (I:a6 X pins σ H s) (r:aQ x v) (ty:oT X.K T x H) :
  s.TypeIs v T/\∀ a,v = .ref a->∃ ob,s.heap.get? a=some ob/\ob.dict=none:=by
 cases x with
 | str z=>
  obtain ⟨t,rfl⟩:=r
  cases (show T="str" from ty)
  exact⟨typeIs_str s z t,fun _ e=>nomatch e⟩
 | int i=>
  obtain ⟨t,rfl⟩:=r
  cases (show T="int" from ty)
  exact⟨typeIs_int s i t,fun _ e=>nomatch e⟩
 | ref p=>
  cases r
  rcases ty with ⟨rfl,xs,hq⟩ | ⟨rfl,o,hk,hc,hd⟩ | ⟨rfl,hk⟩ | ⟨rfl,S,n,hk⟩
  ·obtain ⟨its,_,pl,_⟩:=I.list hq
   refine⟨pl.isList.typeIs,fun a e=>?_⟩
   cases e
   obtain ⟨o,n,e,c,hd,_⟩:=pl
   exact⟨o,e,hd⟩
  ·refine⟨⟨o,I.kIn p o hk,hc⟩,fun a e=>?_⟩
   cases e
   exact⟨o,I.kIn _ o hk,hd⟩
  ·have z:∃ o,s.heap.get? p=some o/\o.ExactDict:=by
    rcases hk with ⟨kvs,hk⟩ | ⟨kvs,hk⟩
    ·obtain ⟨_,_,_,_,o,_,_,e,ex,_⟩:=I.hok p _ hk
     exact⟨o,e,ex⟩
    ·obtain ⟨_,_,_,_,o,_,_,e,ex,_⟩:=I.hok p _ hk
     exact⟨o,e,ex⟩
   obtain ⟨o,e,ex⟩:=z
   refine⟨⟨o,e,ex.1⟩,fun a e2=>?_⟩
   cases e2
   exact⟨o,e,ex.2.1⟩
  ·obtain ⟨o,_,_,_,e,ex,_⟩:=I.hok p _ hk
   refine⟨⟨o,e,ex.1⟩,fun a e2=>?_⟩
   cases e2
   exact⟨o,e,ex.2.1⟩
 | _=>exact False.elim ty
def oU (K:PySem.W.Frag) (T:String) (r:V->List V->Hp->VK->Prop) (to:TE) (t:TA):TE:=fun σ H Q=>to σ H fun x H1=>oT K T x H1/\t σ H1 fun xs H2=>r x xs H2 Q
variable {o e : Expr} {es : List Expr} {to : TE} {t : TA} {name : Str} {apos cpos : Pos} {T id : String} {r : V → List V → Hp → VK → Prop}
theorem mR (pa:PlainAttrs T) (slot:Slot T name id) (hty:typeOf (.builtin id)=pure (.type "method_descriptor")) (hm:MtR X id r) (ho:PE X o to) (ha:PA X (e :: es) t)
  (hbase:attributeBase o name X.env (eval o X.env)=eval o X.env:=by rfl)
  (hfew:((backTo cpos (starEach (e :: es) X.env)).all (fun x=>!x.1) && (backToKw cpos (keywordEach [] X.env)).all (fun x=>x.1.isSome)
   && decide ((e :: es).length+([]:List Keyword).length+(if ([]:List Keyword).isEmpty then 0 else 1) < 30))=true:=by rfl)
  (hline:(apos.endLine == cpos.line)=true:=by rfl) (hs:starEach (e :: es) X.env=(false,eval e X.env) :: starEach es X.env:=by rfl) (hplain:(backTo cpos (starEach es X.env)).any (·.1)=false:=by rfl) :
  PE X (.Call (.Attribute o name apos) (e :: es) [] cpos) (oU X.K T r to t):=by
 intro pins s σ H Q I h
 refine wpAny_Call_method_late hbase hfew hline rfl (aN (ho pins s σ H _ I h) fun v s1 ⟨x,H1,I1,r1,ty,q1⟩=>?_)
 obtain ⟨h1,h2⟩:=am7 I1 r1 ty
 refine⟨T,id,pa,slot,hty,h1,h2,?_⟩
 have hA:=ha cpos pins s1 σ H1 _ I1 q1
 rw [hs] at hA ⊢
 refine Calls.callWith_builtin (by show (false || (backTo cpos (starEach es X.env)).any (·.1))=false; rw [hplain] <;> rfl) (Calls.evalArgs_plain ?_)
 exact aN hA fun us s2 ⟨vs,H2,I2,r2,q2⟩=>hm pins s2 σ H2 x vs v us Q I2 r1 r2 q2
end
def tJ (X:Cx) (id:String) (r:V->List V->Hp->VK->Prop):Prop:=
 ∀ (pins:List (Addr × Obj)) (s:Shared) (σ:St) (H:Hp) (x:V) (xs:List V) (v:Value) (us:List Value) (Q:VK),a6 X pins σ H s->aQ x v->aJ xs us->r x xs H Q->
  wpAny (model X.prog X.w) X.A (call (.builtin id) (v :: us)) (EP X pins σ Q) X.xe s
theorem aJ.one {x:V}{us:List Value} (h:aJ [x] us):∃ u,us = [u]/\aQ x u:=by
 cases h with
 | cons r t=>
  cases t
  exact⟨_,rfl,r⟩
theorem aJ.two {x y:V}{us:List Value} (h:aJ [x,y] us):∃ u v,us = [u,v]/\aQ x u/\aQ y v:=by
 cases h with
 | cons r t=>
  cases t with
  | cons q t=>
   cases t
   exact⟨_,_,rfl,r,q⟩
theorem aJ.eraseIdx:∀ {xs:List V}{us:List Value} (i:Nat),aJ xs us->aJ (xs.eraseIdx i) (us.eraseIdx i)
 | _,_,_,.nil=>.nil
 | _,_,0,.cons _ t=>t
 | _,_,i+1,.cons r t=>.cons r (aJ.eraseIdx i t)
theorem aJ.rep {xs:List V}{us:List Value} (h:aJ xs us):∀ k:Nat,aJ (List.replicate k xs).flatten (List.replicate k us).flatten
 | 0=>.nil
 | k+1=>by
  rw [bj1,bj1,bl9,bl9]
  exact aJ.append h (aJ.rep h k)
theorem zV {α:Type}:∀ (l:List α) (i:Nat),(l.eraseIdx i).length<=l.length
 | [],_=>bb6 _
 | _ :: _,0=>bq7 _
 | _ :: r,i+1=>Nat.succ_le_succ (zV r i)
theorem zW (its:List Value):∀ (k:Nat) (acc:List Value),
  List.foldl (fun x1 x2=>x1 ++ x2) acc.toArray (List.replicate k its.toArray)=(acc ++ (List.replicate k its).flatten).toArray
 | 0,acc=>by simp
 | k+1,acc=>by
  have e:acc.toArray ++ its.toArray=(acc ++ its).toArray:=by simp
  have e2:(acc ++ its) ++ (List.replicate k its).flatten=acc ++ (List.replicate (k+1) its).flatten:=by
   rw [bj1,bl9,bd6]
  rw [<- e2,<- zW its k (acc ++ its),<- e,bj1,List.foldl_cons]
section
variable {X : Cx} {pins : List (Addr × Obj)} {σ : St} {H : Hp} {s : Shared} {l b : Addr} {xs ys zs : List V}
theorem a6.lset {its its':List Value}{n:Nat}{f:Array Value->Array Value}{t':Nat} (I:a6 X pins σ H s) (hH:H l=some (.lst xs))
  (e:s.heap.get? l=some { cls:=.type "list",data:=.seq its.toArray n }) (hf:f its.toArray=its'.toArray) (hv:aJ ys its') (hz:ys.length<=sizeLine) :
  a6 X pins σ (upd H l (.lst ys)) { s with heap:=s.heap.update l (Obj.mapSeq f),toks:=t' }:=by
 have q:=PySem.IsL.update e f
 rw [hf] at q
 refine I.write (x:=l) (e:=l) (by rw [hH]; exact trivial) (.inl rfl) (fun b' u hb hu=>(bm7 s.heap (Obj.mapSeq f) (Ne.symm hb)).trans hu) ⟨_,q⟩ ?_
 exact⟨hz,its',_,hv,q⟩
theorem a6.lnew {its:List Value}{t':Nat} (I:a6 X pins σ H s) (hv:aJ ys its) (hz:ys.length<=sizeLine) :
  a6 X pins σ (upd H s.heap.objs.size (.lst ys)) { s with heap:=s.heap.push { cls:=.type "list",data:=.seq its.toArray },toks:=t' }:=
 I.laid (fun _ _ q=>bb1 _ q) (bb6 _) ⟨hz,its,0,hv,bb9 _ rfl⟩
theorem a6.fresh (I:a6 X pins σ H s):H s.heap.objs.size=none:=I.hok.fresh (bb6 _)
theorem a6.lstM (I:a6 X pins σ H s) (hH:H l=some (.lst xs)):xs.length<=sizeLine/\∃ (its:List Value) (n:Nat),aJ xs its/\xs.length=its.length/\s.heap.get? l=some { cls:=.type "list",data:=.seq its.toArray n }:=by
 obtain ⟨z,its,n,r,e⟩:=I.hok l _ hH
 exact⟨z,its,n,r,r.length,e⟩
theorem am8 {n:Nat} (h:n<=sizeLine):Builtin.List.listTooLong n=false:=by
 unfold Builtin.List.listTooLong
 exact bb7 (by omega)
end
section
variable {X : Cx}
def tK:V->List V->Hp->VK->Prop:=fun x vs H Q=>∃ l xs y,x = .ref l/\vs = [y]/\H l=some (.lst xs)/\xs.length < sizeLine/\Q .non (upd H l (.lst (xs ++ [y])))
theorem mS:tJ X "list.append" tK:=by
 intro pins s σ H x vs v us Q I rx rv h
 obtain ⟨l,xs,y,rfl,rfl,hH,hz,q⟩:=h
 cases rx
 obtain ⟨u,rfl,ru⟩:=rv.one
 obtain ⟨z,its,n,r,hl,e⟩:=I.lstM hH
 refine call_meets F.slot_list_append ⟨_,e,rfl⟩ F.entry_list_append (F.args_list_append_2 _ _) (PySem.list_append l its.toArray n u (by rw [bb5]; omega)) ⟨e,?_⟩
 refine⟨.non,_,I.lset (its':=its ++ [u]) hH e (by simp) (r.append (.cons ru .nil)) ?_,rfl,q⟩
 rw [bc4,bk7]
 omega
def am9:V->List V->Hp->VK->Prop:=fun x vs H Q=>∃ l b xs zs,x = .ref l/\vs = [.ref b]/\H l=some (.lst xs)/\H b=some (.lst zs)/\xs.length+zs.length<=sizeLine/\Q .non (upd H l (.lst (xs ++ zs)))
theorem ba7:tJ X "list.extend" am9:=by
 intro pins s σ H x vs v us Q I rx rv h
 obtain ⟨l,b,xs,zs,rfl,rfl,hH,hB,hz,q⟩:=h
 cases rx
 obtain ⟨u,rfl,ru⟩:=rv.one
 cases ru
 obtain ⟨z,its,n,r,hl,e⟩:=I.lstM hH
 obtain ⟨z2,its2,n2,r2,hl2,e2⟩:=I.lstM hB
 have hsz:its.toArray.size+its2.toArray.size<=sizeLine:=by rw [bb5,bb5]; omega
 have hlong : ¬ (!its.toArray.isEmpty && Builtin.List.listTooLong (its.toArray.size+its2.toArray.size))=true:=by
  rw [am8 hsz,Bool.and_false]
  exact bd4
 refine call_meets F.slot_list_extend ⟨_,e,rfl⟩ F.entry_list_extend (F.args_list_extend_2 _ _)
  (AutoSeq1.list_extend_list_list_0 l its.toArray n b its2.toArray n2 hlong (by rw [bb5]; omega) (by omega)) ⟨e,e2,?_⟩
 refine⟨.non,_,I.lset (its':=its ++ its2) hH e (by simp) (r.append r2) ?_,rfl,q⟩
 rw [bc4]
 omega
def zX:V->List V->Hp->VK->Prop:=fun x vs H Q=>∃ l xs i k y,x = .ref l/\vs = [.int i]/\H l=some (.lst xs)/\-(2 ^ 63)<=i/\i < 2 ^ 63/\seqIndex? i xs.length=some k/\xs[k]? = some y/\Q y (upd H l (.lst (xs.eraseIdx k)))
theorem an0:tJ X "list.pop" zX:=by
 intro pins s σ H x vs v us Q I rx rv h
 obtain ⟨l,xs,i,k,y,rfl,rfl,hH,h1,h2,hk,hy,q⟩:=h
 cases rx
 obtain ⟨u,rfl,ru⟩:=rv.one
 obtain ⟨t,rfl⟩:=ru
 obtain ⟨z,its,n,r,hl,e⟩:=I.lstM hH
 obtain ⟨w,hw,rw'⟩:=r.get hy
 refine call_meets F.slot_list_pop ⟨_,e,rfl⟩ F.entry_list_pop (F.args_list_pop_2 _ _)
  (MeetsSeq.list_pop_at l its.toArray n i t k w (fitsIndex_both h1 h2) (by rw [bb5,<- hl]; exact hk) (by rw [<- bg3]; exact hw) (by rw [bb5]; omega)) ⟨e,?_⟩
 refine⟨y,_,I.lset (its':=its.eraseIdx k) hH e ?_ (r.eraseIdx k) ?_,rw',q⟩
 ·show its.toArray.eraseIdxIfInBounds k=(its.eraseIdx k).toArray
  rw [List.eraseIdxIfInBounds_toArray]
 ·have:=zV xs k
  omega
def zY:R2:=fun x y H Q=>∃ l b xs zs,x = .ref l/\y = .ref b/\H l=some (.lst xs)/\H b=some (.lst zs)/\xs.length+zs.length<=sizeLine/\∀ p,H p=none->Q (.ref p) (upd H p (.lst (xs ++ zs)))
theorem an1:cK X (binaryOp .Add) zY:=by
 intro pins s σ H x y v u Q I rx ry h
 obtain ⟨l,b,xs,zs,rfl,rfl,hH,hB,hz,q⟩:=h
 cases rx
 cases ry
 obtain ⟨z,its,n,r,hl,e⟩:=I.lstM hH
 obtain ⟨z2,its2,n2,r2,hl2,e2⟩:=I.lstM hB
 refine PySem.P.add_list e e2 ?_ (by rw [bb5,bb5]; omega)
 have ea:its.toArray ++ its2.toArray=(its ++ its2).toArray:=by simp
 rw [ea]
 exact⟨.ref _,_,I.lnew (t':=s.toks) (r.append r2) (by rw [bc4]; omega),rfl,q _ I.fresh⟩
theorem an2 {α:Type} (xs:List α) (k:Nat):(List.replicate k xs).flatten.length=k * xs.length:=by
 induction k with
 | zero=>simp
 | succ k ih=>rw [bj1,bl9,bc4,ih,Nat.succ_mul,Nat.add_comm]
end
section
variable {κ : Type} [DecidableEq κ]
def eV (kvs:List (κ × V)) (k:κ):Option V:=(kvs.find? fun kv=>decide (kv.1=k)).map (·.2)
def dO (kvs:List (κ × V)) (k:κ) (v:V):List (κ × V):=
 if (kvs.any fun kv=>decide (kv.1=k))=true then kvs.map (fun kv=>if kv.1=k then (kv.1,v) else kv) else kvs ++ [(k,v)]
theorem tL {p:κ × V}{r:List (κ × V)}{k:κ} (e:p.1=k):eV (p :: r) k=some p.2:=by simp [eV,bm1,e]
theorem tM {p:κ × V}{r:List (κ × V)}{k:κ} (e : ¬ p.1=k):eV (p :: r) k=eV r k:=by simp [eV,bm1,e]
theorem zZ (k:κ):∀ kvs:List (κ × V),(kvs.any fun kv=>decide (kv.1=k))=(eV kvs k).isSome
 | []=>rfl
 | p :: r=>by
  rw [List.any_cons]
  by_cases e:p.1=k
  ·simp only [tL e,bc9 e,Bool.true_or,Option.isSome_some]
  ·rw [tM e,bb7 e,Bool.false_or]; exact zZ k r
theorem tN (kvs:List (κ × V)) (k:κ) (v:V):(dO kvs k v).length<=kvs.length+1:=by
 unfold dO
 split
 ·rw [bb4]; omega
 ·rw [bc4,be4,List.length_nil]; omega
theorem i6.isSome_eq {o:Option V}{u:Option Value} (r:i6 o u):o.isSome=u.isSome:=by
 cases o with
 | none=>cases u with
  | none=>rfl
  | some _=>exact (show False from r).elim
 | some _=>cases u with
  | none=>exact (show False from r).elim
  | some _=>rfl
theorem KV.val {kvs:List (κ × V)}{vs:List (κ × Value)} (r:KV kvs vs) (k:κ):i6 (eV kvs k) (valueAt vs k):=by
 unfold KV at r
 induction r with
 | nil=>exact True.intro
 | @cons p q ps qs h t ih=>
  obtain ⟨h1,h2⟩:=h
  by_cases e:p.1=k
  ·have e':q.1=k:=h1.symm.trans e
   have b:valueAt (q :: qs) k=some q.2:=by simp [valueAt,bm1,e']
   rw [tL e,b]; exact h2
  ·have e' : ¬ q.1=k:=fun z=>e (h1.trans z)
   have b:valueAt (q :: qs) k=valueAt qs k:=by simp [valueAt,bm1,e']
   rw [tM e,b]; exact ih
theorem KV.any {kvs:List (κ × V)}{vs:List (κ × Value)} (r:KV kvs vs) (k:κ):(kvs.any fun kv=>decide (kv.1=k))=vs.any fun kv=>decide (kv.1=k):=by
 unfold KV at r
 induction r with
 | nil=>rfl
 | cons h t ih=>rw [List.any_cons,List.any_cons,ih,h.1]
theorem KV.repl {kvs:List (κ × V)}{vs:List (κ × Value)} (r:KV kvs vs) (k:κ) {y:V}{u:Value} (ry:aQ y u) :
  KV (kvs.map fun kv=>if kv.1=k then (kv.1,y) else kv) (vs.map fun kv=>if kv.1=k then (kv.1,u) else kv):=by
 unfold KV at r ⊢
 induction r with
 | nil=>exact .nil
 | @cons p q ps qs h t ih=>
  rw [bf4,bf4]
  refine .cons ?_ ih
  obtain ⟨h1,h2⟩:=h
  by_cases e:p.1=k
  ·rw [if_pos e,if_pos (h1.symm.trans e)]; exact⟨h1,ry⟩
  ·rw [if_neg e,if_neg (fun z=>e (h1.trans z))]; exact⟨h1,h2⟩
theorem KV.put {kvs:List (κ × V)}{vs:List (κ × Value)} (r:KV kvs vs) (k:κ) {y:V}{u:Value} (ry:aQ y u):KV (dO kvs k y) (stored vs k u):=by
 unfold dO stored
 rw [r.any k]
 by_cases e:(vs.any fun kv=>decide (kv.1=k))=true
 ·rw [if_pos e,if_pos e]; exact r.repl k ry
 ·rw [if_neg e,if_neg e]; exact Paired.snoc r ⟨rfl,ry⟩
theorem KV.length {kvs:List (κ × V)}{vs:List (κ × Value)} (r:KV kvs vs):kvs.length=vs.length:=Paired.length r
end
theorem mT {P:Program}{w:World}{k:aA}{u:Value} (r:aQ (kV k) u):(eU P w).is k u=true:=by
 cases k with
 | inl i=>obtain ⟨t,e⟩:=(show ∃ t,u=Value.int i t from r); subst e; exact ad6 P w i t
 | inr x=>obtain ⟨t,e⟩:=(show ∃ t,u=Value.str x t from r); subst e; exact ad7 P w x t
theorem A0 {P:Program}{w:World}:∀ {ks:List aA}{us:List Value},aJ (ks.map kV) us->ItemsAre (eU P w) ks us
 | [],_,r=>by rw [List.map_nil] at r; cases r; exact .nil
 | k :: ks,_,r=>by
  rw [bf4] at r
  cases r with
  | cons h t=>exact .cons (mT h) (A0 t)
abbrev KT (H:Hp):List (List aA × V)->List (List aA × Addr × Value)->Prop:=Paired fun p q=>p.1=q.1/\H q.2.1=some (.tup (p.1.map kV))/\aQ p.2 q.2.2
theorem KT.val {H:Hp}{kvs:List (List aA × V)}{xs:List (List aA × Addr × Value)} (r:KT H kvs xs) (k:List aA):i6 (eV kvs k) ((atKey xs k).map (·.2)):=by
 induction r with
 | nil=>exact True.intro
 | @cons p q ps qs h t ih=>
  obtain ⟨h1,_,h2⟩:=h
  by_cases e:p.1=k
  ·have e':q.1=k:=h1.symm.trans e
   have b:atKey (q :: qs) k=some q.2:=by simp [atKey,bm1,e']
   rw [tL e,b]; exact h2
  ·have e' : ¬ q.1=k:=fun z=>e (h1.trans z)
   have b:atKey (q :: qs) k=atKey qs k:=by simp [atKey,bm1,e']
   rw [tM e,b]; exact ih
theorem KT.repl {H:Hp}{kvs:List (List aA × V)}{xs:List (List aA × Addr × Value)} (r:KT H kvs xs) (k:List aA) {y:V}{u:Value} (ry:aQ y u) :
  KT H (kvs.map fun kv=>if kv.1=k then (kv.1,y) else kv) (xs.map (putAt k u)):=by
 induction r with
 | nil=>exact .nil
 | @cons p q ps qs h t ih=>
  rw [bf4,bf4]
  refine .cons ?_ ih
  obtain ⟨h1,h2,h3⟩:=h
  unfold putAt
  by_cases e:p.1=k
  ·rw [if_pos e,if_pos (h1.symm.trans e)]; exact⟨h1,h2,ry⟩
  ·rw [if_neg e,if_neg (fun z=>e (h1.trans z))]; exact⟨h1,h2,h3⟩
theorem KT.put {H:Hp}{kvs:List (List aA × V)}{xs:List (List aA × Addr × Value)} (r:KT H kvs xs) (k:List aA) {b:Addr}{y:V}{u:Value} (hb:H b=some (.tup (k.map kV))) (ry:aQ y u) :
  KT H (dO kvs k y) (storedH xs k b u):=by
 have e:(kvs.any fun kv=>decide (kv.1=k))=(atKey xs k).isSome:=by
  rw [zZ,(r.val k).isSome_eq,Option.isSome_map]
 unfold dO storedH
 rw [e]
 by_cases q:(atKey xs k).isSome=true
 ·rw [if_pos q,if_pos q]; exact r.repl k ry
 ·rw [if_neg q,if_neg q]; exact Paired.snoc r ⟨rfl,hb,ry⟩
theorem KT.keeps {H H':Hp}{kvs:List (List aA × V)}{xs:List (List aA × Addr × Value)} (r:KT H kvs xs) (ht:∀ b ys,H b=some (.tup ys)->H' b=some (.tup ys)):KT H' kvs xs:=
 Paired.mapP r fun _ _ z=>⟨z.1,ht _ _ z.2.1,z.2.2⟩
section
variable {P : Program} {w : World} {H : Hp} {h : Heap} {a : Addr}
theorem A1 {u:HO} (ok:bU P w H h) (e:Rd H a u):bT P w H h a u:=e.ok ok
theorem k9 {kvs:List (aA × V)} (ok:bU P w H h) (e:Rd H a (.dK kvs)):kvs.length<=sizeLine/\(a == sysModules)=false/\∃ vs,KV kvs vs/\h.DictOf (eU P w) a vs:=
 show bT P w H h a (.dK kvs) from A1 ok e
theorem tO {kvs:List (aA × V)} (ok:bU P w H h) (e:H a=some (.dK kvs)):kvs.length<=sizeLine/\(a == sysModules)=false/\∃ vs,KV kvs vs/\h.DictOf (eU P w) a vs:=k9 ok (.inl e)
theorem mU {ks:List aA} (ok:bU P w H h) (e:H a=some (.tup (ks.map kV))):(tupleKind (eU P w)).is h ks a:=by
 obtain ⟨_,its,r,⟨o,h1,h2,n,h3⟩,_⟩:=(show bT P w H h a (.tup (ks.map kV)) from ok a _ e)
 exact⟨o,its.toArray,n,h1,h2,h3,by simpa using A0 r⟩
theorem l5 {kvs:List (List aA × V)} (ok:bU P w H h) (e:Rd H a (.dT kvs)):kvs.length<=sizeLine/\(a == sysModules)=false/\
  ∃ xs,KT H kvs xs/\h.DictOfH (tupleKind (eU P w)) a xs:=by
 obtain ⟨z,y,xs,r,o,es,ep,h1,h2,h3,h4,h5⟩:=(show bT P w H h a (.dT kvs) from A1 ok e)
 refine⟨z,y,xs,r,o,es,ep,h1,h2,h3,h4,fun x hx=>?_,h5⟩
 have all:∀ {l:List (List aA × V)}{m:List (List aA × Addr × Value)},KT H l m->∀ x ∈ m,(tupleKind (eU P w)).is h x.1 x.2.1:=by
  intro l m q
  induction q with
  | nil=>intro x hx; exact nomatch hx
  | @cons p q ps qs hq t ih=>
   intro x hx
   rcases bb8.mp hx with e | hx
   ·subst e
    exact mU ok (by rw [<- hq.1]; exact hq.2.1)
   ·exact ih x hx
 exact all r x hx
theorem an3 {kvs:List (List aA × V)} (ok:bU P w H h) (e:H a=some (.dT kvs)):kvs.length<=sizeLine/\(a == sysModules)=false/\
  ∃ xs,KT H kvs xs/\h.DictOfH (tupleKind (eU P w)) a xs:=l5 ok (.inl e)
end
def fF (H:Hp) (a:Addr) (y:V) (r:Option V):Prop:=
 (∃ kvs k,Rd H a (.dK kvs)/\y=kV k/\r=eV kvs k) ∨ ∃ kvs k b,Rd H a (.dT kvs)/\y = .ref b/\H b=some (.tup (k.map kV))/\r=eV kvs k
def jM (H:Hp) (a:Addr) (y v:V) (H':Hp):Prop:=
 (∃ kvs k,H a=some (.dK kvs)/\y=kV k/\kvs.length < sizeLine/\H'=upd H a (.dK (dO kvs k v))) ∨
 ∃ kvs k b,H a=some (.dT kvs)/\y = .ref b/\H b=some (.tup (k.map kV))/\kvs.length < sizeLine/\H'=upd H a (.dT (dO kvs k v))
theorem fF.k {H:Hp}{a:Addr}{kvs:List (aA × V)}{k:aA} (e:H a=some (.dK kvs)):fF H a (kV k) (eV kvs k):=.inl ⟨kvs,k,.inl e,rfl,rfl⟩
theorem fF.t {H:Hp}{a b:Addr}{kvs:List (List aA × V)}{k:List aA} (e:H a=some (.dT kvs)) (eb:H b=some (.tup (k.map kV))):fF H a (.ref b) (eV kvs k):=.inr ⟨kvs,k,b,.inl e,rfl,eb,rfl⟩
theorem jM.k {H:Hp}{a:Addr}{kvs:List (aA × V)}{k:aA}{v:V} (e:H a=some (.dK kvs)) (hl:kvs.length < sizeLine):jM H a (kV k) v (upd H a (.dK (dO kvs k v))):=.inl ⟨kvs,k,e,rfl,hl,rfl⟩
theorem jM.t {H:Hp}{a b:Addr}{kvs:List (List aA × V)}{k:List aA}{v:V} (e:H a=some (.dT kvs)) (eb:H b=some (.tup (k.map kV))) (hl:kvs.length < sizeLine) :
  jM H a (.ref b) v (upd H a (.dT (dO kvs k v))):=.inr ⟨kvs,k,b,e,rfl,eb,hl,rfl⟩
section
variable {X : Cx} {pins : List (Addr × Obj)} {σ : St} {H : Hp} {s : Shared} {a : Addr} {y v : V} {u r : Value} {o : Option V} {A : Around} {E : Value → Shared → Prop}
theorem a6.big (I:a6 X pins σ H s):sysModules < s.heap.objs.size:=by
 have h:mainGlobals < s.heap.objs.size:=(I.mod.glob.keeps I.bk).lt
 exact Nat.lt_trans (by decide) h
theorem an4 {Q:Value->Shared->Prop} (hu:A.units+1 < cLine) (I:a6 X pins σ H s) (g:fF H a y (some v)) (ry:aQ y u) (h:∀ w' s',a6 X pins σ H s'->aQ v w'->Q w' s') :
  wpAny (model X.prog X.w) A (getItem (.ref a) u) Q E s:=by
 rcases g with ⟨kvs,k,e,ey,l⟩ | ⟨kvs,k,b,e,ey,eb,l⟩
 ·subst ey
  obtain ⟨z,hd,vs,rel,dd⟩:=k9 I.hok e
  obtain ⟨w',hw,rw'⟩:=i6.some_of (v:=v) (o:=valueAt vs k) (by rw [l]; exact rel.val k)
  exact wpAny_getItem_of (mT ry) dd.mapOf hw (h w' _ (I.tok _) rw')
 ·subst ey
  cases (show u=Value.ref b from ry)
  obtain ⟨z,hd,xs,rel,dd⟩:=l5 I.hok e
  obtain ⟨w',hw,rw'⟩:=i6.some_of (v:=v) (o:=(atKey xs k).map (·.2)) (by rw [l]; exact rel.val k)
  obtain ⟨p,hp,hp2⟩:=Option.map_eq_some_iff.mp hw
  refine wpAny_getItem_heap (tupleKind_room_in1 hu) (mU I.hok eb) dd hp ?_
  rw [hp2]
  exact h w' _ (I.tok _) rw'
theorem an5 {Q:Value->Shared->Prop} (hu:A.units+1 < cLine) (I:a6 X pins σ H s) (g:fF H a y o) (ry:aQ y u) (h:∀ s',a6 X pins σ H s'->Q (.bool o.isSome) s') :
  wpAny (model X.prog X.w) A (compareOp .In u (.ref a)) Q E s:=by
 rcases g with ⟨kvs,k,e,ey,l⟩ | ⟨kvs,k,b,e,ey,eb,l⟩
 ·subst ey
  obtain ⟨z,hd,vs,rel,dd⟩:=k9 I.hok e
  refine wpAny_in_of (mT ry) hd dd.mapOf ?_
  rw [<- (rel.val k).isSome_eq,<- l]
  exact h _ (I.tok _)
 ·subst ey
  cases (show u=Value.ref b from ry)
  obtain ⟨z,hd,xs,rel,dd⟩:=l5 I.hok e
  refine wpAny_in_heap (tupleKind_room_in1 hu) (mU I.hok eb) hd dd ?_
  have q:=(rel.val k).isSome_eq
  rw [Option.isSome_map] at q
  rw [<- q,<- l]
  exact h _ (I.tok _)
theorem an6 {Q:Value->Shared->Prop} (hu:A.units+1 < cLine) (I:a6 X pins σ H s) (g:fF H a y o) (ry:aQ y u) (h:∀ s',a6 X pins σ H s'->Q (.bool (!o.isSome)) s') :
  wpAny (model X.prog X.w) A (compareOp .NotIn u (.ref a)) Q E s:=by
 rcases g with ⟨kvs,k,e,ey,l⟩ | ⟨kvs,k,b,e,ey,eb,l⟩
 ·subst ey
  obtain ⟨z,hd,vs,rel,dd⟩:=k9 I.hok e
  refine wpAny_notIn_of (mT ry) hd dd.mapOf ?_
  rw [<- (rel.val k).isSome_eq,<- l]
  exact h _ (I.tok _)
 ·subst ey
  cases (show u=Value.ref b from ry)
  obtain ⟨z,hd,xs,rel,dd⟩:=l5 I.hok e
  refine wpAny_notIn_heap (tupleKind_room_in1 hu) (mU I.hok eb) hd dd ?_
  have q:=(rel.val k).isSome_eq
  rw [Option.isSome_map] at q
  rw [<- q,<- l]
  exact h _ (I.tok _)
theorem tP {h':Heap}{t':Nat}{ob:HO} (I:a6 X pins σ H s) (mu:mD (H a)) (hs:Heap.SameBut a s.heap h') (he:∃ q,h'.get? a=some q) (new:bT X.prog X.w (upd H a ob) h' a ob) :
  a6 X pins σ (upd H a ob) { s with heap:=h',toks:=t' }:=
 I.write (x:=a) (e:=a) mu (.inl rfl) (fun b q hb z=>(hs.2 b hb).trans z) he new
theorem A2 {P:Program}{w:World}{H':Hp}{h':Heap}{kvs:List (aA × V)}{vs:List (aA × Value)} (z:kvs.length<=sizeLine) (hd:(a == sysModules)=false) (rel:KV kvs vs) (dd:h'.DictOf (eU P w) a vs) :
  bT P w H' h' a (.dK kvs):=⟨z,hd,vs,rel,dd⟩
theorem an7 {H':Hp}{Q:Unit->Shared->Prop} (hu:A.units+1 < cLine) (I:a6 X pins σ H s) (g:jM H a y v H') (ry:aQ y u) (rv:aQ v r) (h:∀ s',a6 X pins σ H' s'->Q () s') :
  wpAny (model X.prog X.w) A (setItem (.ref a) u r) Q E s:=by
 rcases g with ⟨kvs,k,e,ey,l,eH⟩ | ⟨kvs,k,b,e,ey,eb,l,eH⟩
 ·subst ey eH
  obtain ⟨z,hd,vs,rel,dd⟩:=tO I.hok e
  have hz:vs.length<=sizeLine:=by rw [<- rel.length]; exact z
  have hl:(dO kvs k v).length<=sizeLine:=by have:=tN kvs k v; omega
  refine wpAny_setItem_pairs (hsz:=hz) (mT ry) dd fun h' dd' hs=>h _ ?_
  have he:∃ q,h'.get? a=some q:=let ⟨q,_,_,hq,_⟩:=dd'; ⟨q,hq⟩
  exact tP I (by rw [e]; exact True.intro) hs he (A2 hl hd (rel.put k rv) dd')
 ·subst ey eH
  cases (show u=Value.ref b from ry)
  obtain ⟨z,hd,xs,rel,dd⟩:=an3 I.hok e
  have hz:xs.length<=sizeLine:=by rw [<- Paired.length rel]; exact z
  have hl:(dO kvs k v).length<=sizeLine:=by have:=tN kvs k v; omega
  refine wpAny_setItem_heap (hsz:=hz) (tupleKind_room_in1 hu) (mU I.hok eb) dd fun h' dd' hs=>h _ ?_
  obtain ⟨q,es,ep,hq,h2,h3,h4,_,h5⟩:=dd'
  refine tP I (by rw [e]; exact True.intro) hs ⟨q,hq⟩ ⟨hl,hd,_,(rel.put k eb rv).keeps fun c ys ec=>?_,q,es,ep,hq,h2,h3,h4,h5⟩
  rw [aH (ad8 ec e (fun z=>nomatch z))]
  exact ec
end
section
variable {X : Cx} {pins : List (Addr × Obj)} {σ : St} {H : Hp} {s : Shared} {a : Addr} {kvs : List (aA × V)} {k : aA} {u : Value} {A : Around} {E : Value → Shared → Prop}
theorem an8 {Q:Value->Shared->Prop} (I:a6 X pins σ H s) (e:Rd H a (.dK kvs)) (h:∀ t s',a6 X pins σ H s'->Q (.int kvs.length t) s'):wpAny (model X.prog X.w) A (call (.builtin "len") [.ref a]) Q E s:=by
 obtain ⟨z,hd,vs,rel,dd⟩:=k9 I.hok e
 refine call_len_dict hd dd (by rw [<- rel.length]; rw [sizeLine_eq] at z; omega) ?_
 rw [<- rel.length]
 exact h _ _ (I.tok _)
end
def tQ (i:Expr):Prop:=∀ ov iv,subscripted i false ov iv=operate [ov,iv] (getItem ov iv)
theorem an9 {prog:Program}{w:World}{A:Around}{E:Value->Shared->Prop}{s:Shared}{env:Env}{value slice:Expr}{pos:Pos}{T id:String}{Q:Value->Shared->Prop}
  (hl:typeLookup (.type T) "__getitem__" = pure (some (.builtin id))) (hs:tQ slice)
  (h:wpAny (model prog w) A (eval value env) (fun o s₁=>wpAny (model prog w) A (eval slice env) (fun i s₂=>s₂.TypeIs o T/\wpAny (model prog w) A (getItem o i) Q E s₂) E s₁) E s) :
  wpAny (model prog w) A (eval (.Subscript value slice pos) env) Q E s:=by
 refine Subscript_ (bj6 h (fun o s₁ h₁=>bj6 h₁ (fun i s₂ h₂=>?_) fun _ _ x=>x) fun _ _ x=>x)
 obtain ⟨hT,h₂⟩:=h₂
 unfold subscriptTail
 refine ba9 ?_
 rw [getitemInPython_of_ne hT.not_modules]
 refine ba9 (wpAny_specialOf hT hl ?_)
 have fin:wpAny (model prog w) A (subscripted slice false o i) (fun r s₃=>wpAny (model prog w) A (letTemporaryGo value o r >>= fun _=>pure r) Q E s₃) E s₂:=by
  rw [hs o i]
  exact wpAny_operating (bj6 h₂ (fun r s₃ h₃=>ba9 (wpAny_letTemporaryGo (bb3 h₃))) fun _ _ x=>x)
 first
  | exact bb3 (ba9 fin)
  | exact ba9 (bb3 (ba9 fin))
  | exact ba9 fin
theorem ao0 {X:Cx}{pins:List (Addr × Obj)}{σ:St}{H:Hp}{s:Shared}{a:Addr}{y:V}{o:Option V} (I:a6 X pins σ H s) (g:fF H a y o):s.TypeIs (.ref a) "dict":=by
 rcases g with ⟨kvs,k,e,_,_⟩ | ⟨kvs,k,b,e,_,_,_⟩
 ·obtain ⟨_,_,vs,_,dd⟩:=k9 I.hok e
  exact dd.typeIs
 ·obtain ⟨_,_,xs,_,dd⟩:=l5 I.hok e
  exact dd.typeIs
def A3 (td ty:TE):TE:=fun σ H Q=>td σ H fun x H1=>ty σ H1 fun y H2=>∃ a v,x = .ref a/\fF H2 a y (some v)/\Q v H2
def A4 (ty td:TE):TE:=fun σ H Q=>ty σ H fun y H1=>td σ H1 fun x H2=>∃ a o,x = .ref a/\fF H2 a y o/\Q (.bl o.isSome) H2
def A5 (ty td:TE):TE:=fun σ H Q=>ty σ H fun y H1=>td σ H1 fun x H2=>∃ a o,x = .ref a/\fF H2 a y o/\Q (.bl (!o.isSome)) H2
def tR (td ty tv:TE):TS:=fun D σ H=>tv σ H fun v H1=>td σ H1 fun x H2=>ty σ H2 fun y H3=>∃ a H4,x = .ref a/\jM H3 a y v H4/\D.nx σ H4
section
variable {X : Cx} {o i e value : Expr} {pos pos' tpos : Pos} {td ty tv : TE}
theorem ao1 (hu:X.A.units+1 < cLine) (ho:PE X o td) (hi:PE X i ty) (hs:tQ i):PE X (.Subscript o i pos) (A3 td ty):=by
 intro pins s σ H Q I h
 refine an9 PySem.F.slot_dict_getitem.lookup hs (aN (ho pins s σ H _ I h) fun u s1 ⟨x,H1,I1,rx,q1⟩=>aN (hi pins s1 σ H1 _ I1 q1) fun iv s2 ⟨y,H2,I2,ry,a,v,ex,g,q2⟩=>?_)
 subst ex
 obtain rfl:u=Value.ref a:=rx
 exact⟨ao0 I2 g,an4 hu I2 g ry fun w' s3 I3 rw'=>⟨v,H2,I3,rw',q2⟩⟩
theorem ao2 (hu:X.A.units+1 < cLine) (hi:PE X i ty) (ho:PE X o td):PC X .In i o (A4 ty td):=by
 intro pins s σ H Q I h
 refine aN (hi pins s σ H _ I h) fun iv s1 ⟨y,H1,I1,ry,q1⟩=>aN (ho pins s1 σ H1 _ I1 q1) fun u s2 ⟨x,H2,I2,rx,a,ov,ex,g,q2⟩=>?_
 subst ex
 obtain rfl:u=Value.ref a:=rx
 exact an5 hu I2 g ry fun s3 I3=>⟨.bl ov.isSome,H2,I3,rfl,q2⟩
theorem ao3 (hu:X.A.units+1 < cLine) (hi:PE X i ty) (ho:PE X o td):PC X .NotIn i o (A5 ty td):=by
 intro pins s σ H Q I h
 refine aN (hi pins s σ H _ I h) fun iv s1 ⟨y,H1,I1,ry,q1⟩=>aN (ho pins s1 σ H1 _ I1 q1) fun u s2 ⟨x,H2,I2,rx,a,ov,ex,g,q2⟩=>?_
 subst ex
 obtain rfl:u=Value.ref a:=rx
 exact an6 hu I2 g ry fun s3 I3=>⟨.bl (!ov.isSome),H2,I3,rfl,q2⟩
theorem A6 (hu:X.A.units+1 < cLine) (ho:PE X o td) (hi:PE X i ty) (hv:PE X value tv) (hs:swapsWith value (some (.Subscript o i pos')) pos.line X.env=pure false) :
  PS X (.Assign [.Subscript o i pos'] value pos) (tR td ty tv):=by
 intro pins s σ H D I h
 refine wpAny_Assign_Subscript (aN (hv pins s σ H _ I h) fun r s1 ⟨v,H1,I1,rv,q1⟩=>aN (ho pins s1 σ H1 _ I1 q1) fun u s2 ⟨x,H2,I2,rx,q2⟩=>aN (hi pins s2 σ H2 _ I2 q2) fun iv s3 ⟨y,H3,I3,ry,a,H4,ex,g,q3⟩=>?_) hs
 subst ex
 obtain rfl:u=Value.ref a:=rx
 exact an7 hu I3 g ry rv fun s4 I4=>⟨σ,H4,I4,q3⟩
end
theorem ao4 {P:Program}{w:World}{H:Hp} (h:Heap) (hb:sysModules < h.objs.size):bT P w H (h.push { cls:=.type "dict",data:=.dict #[] }) h.objs.size (.dK []):=
 ⟨bf1 _,bp0.mpr (Ne.symm (be3 hb)),[],.nil,Heap.DictOf.new h⟩
theorem ao5 {P:Program}{w:World}{H:Hp} (h:Heap) (hb:sysModules < h.objs.size):bT P w H (h.push { cls:=.type "dict",data:=.dict #[] }) h.objs.size (.dT []):=
 ⟨bf1 _,bp0.mpr (Ne.symm (be3 hb)),[],.nil,_,#[],0,bb9 _ rfl,⟨rfl,rfl,rfl⟩,rfl,rfl,List.nodup_nil⟩
def A7:TE:=fun _ H Q=>∀ p,H p=none->Q (.ref p) (upd H p (.dK []))
def A8:TE:=fun _ H Q=>∀ p,H p=none->Q (.ref p) (upd H p (.dT []))
section
variable {X : Cx} {pos : Pos}
theorem ao6:PE X (.Dict [] [] pos) A7:=fun pins s σ H Q I h=>
 wpAny_Dict_empty ⟨.ref s.heap.objs.size,_,I.laid (a:=s.heap.objs.size) (o:=.dK []) (t':=s.toks) (fun _ _ q=>bb1 _ q) (bb6 _) (ao4 s.heap I.big),rfl,h _ (I.hok.fresh (bb6 _))⟩
theorem ao7:PE X (.Dict [] [] pos) A8:=fun pins s σ H Q I h=>
 wpAny_Dict_empty ⟨.ref s.heap.objs.size,_,I.laid (a:=s.heap.objs.size) (o:=.dT []) (t':=s.toks) (fun _ _ q=>bb1 _ q) (bb6 _) (ao5 s.heap I.big),rfl,h _ (I.hok.fresh (bb6 _))⟩
end
def kA (kvs more:List (aA × V)):List (aA × V):=more.foldl (fun acc kv=>dO acc kv.1 kv.2) kvs
theorem KV.merge:∀ {more:List (aA × V)}{rs:List (aA × Value)}{kvs:List (aA × V)}{vs:List (aA × Value)},KV more rs->KV kvs vs->KV (kA kvs more) (merged vs rs):=by
 intro more rs kvs vs r
 unfold KV at r
 induction r generalizing kvs vs with
 | nil=>intro q; exact q
 | @cons p q ps qs h t ih=>
  intro r0
  have e:KV (dO kvs p.1 p.2) (stored vs q.1 q.2):=by
   have:=r0.put p.1 h.2
   rw [<- h.1]; exact this
  exact ih e
theorem A9:∀ (more kvs:List (aA × V)),(kA kvs more).length<=kvs.length+more.length
 | [],kvs=>by show kvs.length<=kvs.length+0; omega
 | p :: r,kvs=>by
  have h1:=A9 r (dO kvs p.1 p.2)
  have h2:=tN kvs p.1 p.2
  show (kA (dO kvs p.1 p.2) r).length<=_
  rw [be4]; omega
structure M1 (X:Cx) (o:Expr) (m:Str) (apos:Pos) (e:Expr) (cpos:Pos):Prop where
 base:attributeBase o m X.env (eval o X.env)=eval o X.env
 few:((backTo cpos (starEach [e] X.env)).all (fun x=>!x.1) && (backToKw cpos (keywordEach [] X.env)).all (fun x=>x.1.isSome)
  && decide (([e]:List Expr).length+([]:List Keyword).length+(if ([]:List Keyword).isEmpty then 0 else 1) < 30))=true
 line:(apos.endLine == cpos.line)=true
 trees:backTo cpos (starEach [e] X.env) = [(false,eval e X.env)]
structure M2 (X:Cx) (o:Expr) (m:Str) (apos:Pos) (e f:Expr) (cpos:Pos):Prop where
 base:attributeBase o m X.env (eval o X.env)=eval o X.env
 few:((backTo cpos (starEach [e,f] X.env)).all (fun x=>!x.1) && (backToKw cpos (keywordEach [] X.env)).all (fun x=>x.1.isSome)
  && decide (([e,f]:List Expr).length+([]:List Keyword).length+(if ([]:List Keyword).isEmpty then 0 else 1) < 30))=true
 line:(apos.endLine == cpos.line)=true
 trees:backTo cpos (starEach [e,f] X.env) = [(false,eval e X.env),(false,eval f X.env)]
def B0 (H:Hp) (a:Addr):Prop:=(∃ kvs,Rd H a (.dK kvs)) ∨ ∃ kvs,Rd H a (.dT kvs)
theorem ao8 {X:Cx}{pins:List (Addr × Obj)}{σ:St}{H:Hp}{s:Shared}{a:Addr} (I:a6 X pins σ H s) (d:B0 H a) :
  s.TypeIs (.ref a) "dict"/\(∀ b,Value.ref a = .ref b->∃ ob,s.heap.get? b=some ob/\ob.dict=none)/\(a == sysModules)=false:=by
 rcases d with ⟨kvs,e⟩ | ⟨kvs,e⟩
 ·obtain ⟨_,hd,vs,_,dd⟩:=k9 I.hok e
  refine⟨dd.typeIs,fun b q=>?_,hd⟩
  cases q
  obtain ⟨ob,_,_,h1,h2,_⟩:=dd
  exact⟨ob,h1,h2.2.1⟩
 ·obtain ⟨_,hd,xs,_,dd⟩:=l5 I.hok e
  refine⟨dd.typeIs,fun b q=>?_,hd⟩
  cases q
  obtain ⟨ob,_,_,h1,h2,_⟩:=dd
  exact⟨ob,h1,h2.2.1⟩
end L2
namespace Att
open PySem PySem.W PySem.Calls PyProof.Rows
theorem ao9 {P:Params}{h:Heap}:∀ (ns:List Int) (vs:List Value),WellAll P h vs (ns.map WData.int)->IntsAre vs ns:=by
 intro ns
 induction ns with
 | nil=>
  intro vs w
  rw [List.map_nil] at w
  cases w
  exact .nil
 | cons n ns ih=>
  intro vs w
  rw [bf4] at w
  cases w with
  | cons a b=>
   cases a
   exact .cons _ _ (ih _ b)
theorem B1 {l:OpenLaw}{n:Nat} (hn:l.most=some n) {P:Params}{h:Heap}{args:List WData}{vals:List Value}
  (hpre:l.row.toRowW.claim.pre args=true) (hwl:WellAll P h vals args) :
  ∃ a vs ns,vals = [Value.ref a]/\args = [WData.list (ns.map WData.int)]/\h.get? a=some { cls:=.type "list",data:=.seq vs.toArray }/\IntsAre vs ns/\ns.length<=n:=by
 have hsh:WShape.hasAll [] args [.list .int]=true:=(pre_splitW hpre).1
 have hc:l.pre.holds [] { args:=args }=true:=(pre_splitW hpre).2
 obtain ⟨d,r,rfl,h1,h2⟩:=hasAllW_cons hsh
 obtain rfl:=hasAllW_nil h2
 obtain ⟨xs,rfl,h3⟩:=hasW_list h1
 obtain ⟨ns,rfl⟩:=items_int h3
 have hlen:ns.length<=n:=by
  unfold OpenLaw.pre at hc
  have h4:(WTm.not (.lt (.lit (.int (n:Int))) (.len (.arg 0)))).holds [] { args:=[.list (ns.map .int)] }=true:=by
   have h4:=(holds_andW hc).1
   rw [hn] at h4
   exact h4
  have h5:=condW_of h4 (w_not (w_lt w_lit (w_len_list (w_arg rfl))))
  rw [bb4] at h5
  refine bp4 fun q=>?_
  have q':(n:Int) < ((ns.length:Nat):Int):=by omega
  first
   | (rw [bc9 q'] at h5; exact absurd h5 (by decide))
   | (simp at h5; omega)
 cases hwl with
 | cons w1 w2=>
  cases w2
  cases w1 with
  | list ho hall=>exact⟨_,_,ns,rfl,rfl,ho,ao9 ns _ hall,hlen⟩
theorem B2 (l:OpenLaw) (args:List WData):l.row.toRowW.claim.post args (.bool true) args=true:=
 postW_of (r:=l.row.toRowW) (X:=(true == true))
  (show WShape.has [] (.bool true) .bool=true by first | rfl | decide | simp [WShape.has,WShape.arms,WShape.armsAll])
  (show (WTm.eq .res (.lit (.bool true))).value [] { args:=args,res:=some (.bool true),after:=args }=some (.bool (true == true)) from w_eq_bool (w_res rfl) w_lit) rfl
theorem ba8 {l:OpenLaw}{n:Nat}{q:Program}{loose:List Str}{XP:(Str->Option Value)->Heap->Prop}{YP:World->Heap->Prop}{d:DefRec}{x:Str}
  (hn:l.most=some n) (hdf:d.params.defaults = [])
  (hbind:∀ pm cd doc v:Value,bindArgs (docDef d.name d.params d.body d.scope pm cd doc) ⟨[v],[]⟩=pure [(x,v)])
  (hx:d.scope.names.lookup x=some .local ∨ d.scope.names.lookup x=some .cell)
  (hk:d.scope.kind = .function) (hco:d.scope.isCoroutine=false) (hgen:d.scope.isGenerator=false)
  (body:∀ (w:World) (s₀ s₁ s:Shared) (mg mb:Str->Option Value) (fa:Addr) (o:Obj) (pm cd doc:Value) (a:Addr) (vs:List Value) (ns:List Int),
   Ground q loose [] XP w s₀ mg mb s₁.heap->YP w s₁.heap->
   s₁.heap.get? fa=some o->o.data = .func (docDef d.name d.params d.body d.scope pm cd doc)->s₁.heap.CodeRec cd d.name->mg d.name=some (.ref fa)->
   s₁.heap.get? a=some { cls:=.type "list",data:=.seq vs.toArray }->IntsAre vs ns->ns.length<=n->
   s.gens = #[]->s.os=s₁.os->
   Fr s₁.heap s₁.heap.objs.size s.heap (bindL (envOfC d.name d.scope s₁.heap.objs.size fa cd).kindOf [(x,.ref a)] fun _=>none)->
   Cl s₁.heap.objs.size (cellsFrom (s₁.heap.objs.size+1) d.scope.names []) s.heap (bindC (envOfC d.name d.scope s₁.heap.objs.size fa cd).kindOf [(x,.ref a)] fun _=>none)->
   wpAny (model l.prog w) (callerA.deeper (envOfC d.name d.scope s₁.heap.objs.size fa cd)) (execs d.body (envOfC d.name d.scope s₁.heap.objs.size fa cd))
    (fun f s'=>f = .ret (.bool true)/\OldK s₁.heap s'.heap/\s'.os=s₁.os/\AllBare s'.gens) (fun _ _=>False) s) :
  WalkO q loose XP YP l.row.toRowW d [] (fun f vs=>PySem.call f vs):=by
 intro w s₀ s₁ mg mb G Y fa o pm cd doc dV kV ho hd hcd hD hmg hg args vals as hpre hlay hrd hwl hlo
 obtain rfl:dV = .none:=Dflts.none hD hdf
 obtain rfl:kV = .none:=Dflts.noKw hD
 obtain ⟨a,vs,ns,rfl,rfl,hobj,hints,hlen⟩:=B1 hn hpre hwl
 refine enter_call ?_
 refine call_cells_ret (o:=o) (by rw [depth_caller]; decide) ho (fd_plain hd) G.T.nolimit hcd (hbind pm cd doc (.ref a)) (fun y hy=>?_) (fun h₁ tk F X=>?_) hco hgen hk
 ·obtain rfl:y=(x,Value.ref a):=bc1.mp hy
  rcases hx with e | e
  ·exact .inl e
  ·exact .inr ⟨e,cellsFrom_some _ _ _ (.inl e)⟩
 ·refine bj6 (body w s₀ s₁ { s₁ with heap:=h₁,toks:=tk } mg mb fa o pm cd doc a vs ns G Y ho (fd_plain hd) hcd hmg hobj hints hlen hg rfl F X) (fun f s' hq=>?_) (fun _ _ hq=>hq)
  obtain ⟨rfl,h2,h3,h4⟩:=hq
  exact⟨.inl ⟨.bool true,.bool true,[],rfl,fun _=>rfl,.bool true,B2 l _,fun _=>⟨List.Pairwise.nil,fun _ hm=>(nomatch hm)⟩⟩,h2,h3,h4⟩
theorem ap0 {l:OpenLaw}{n:Nat}{q:Program}{loose:List Str}{XP:(Str->Option Value)->Heap->Prop}{YP:World->Heap->Prop}{d:DefRec}
  (hn:l.most=some n) (hdf:d.params.defaults = [])
  (call:∀ (w:World) (s₀ s₁:Shared) (mg mb:Str->Option Value) (fa:Addr) (o:Obj) (pm cd doc:Value) (a:Addr) (vs:List Value) (ns:List Int),
   Ground q loose [] XP w s₀ mg mb s₁.heap->YP w s₁.heap->
   s₁.heap.get? fa=some o->o.data = .func (docDef d.name d.params d.body d.scope pm cd doc)->s₁.heap.CodeRec cd d.name->mg d.name=some (.ref fa)->
   s₁.heap.get? a=some { cls:=.type "list",data:=.seq vs.toArray }->IntsAre vs ns->ns.length<=n->s₁.gens = #[]->
   codeAny (model l.prog w) callerA (.call (.ref fa) ⟨[.ref a],[]⟩) (fun r s'=>r = .ok (.ret (.bool true))/\OldK s₁.heap s'.heap/\s'.os=s₁.os/\AllBare s'.gens) s₁) :
  WalkO q loose XP YP l.row.toRowW d [] (fun f vs=>PySem.call f vs):=by
 intro w s₀ s₁ mg mb G Y fa o pm cd doc dV kV ho hd hcd hD hmg hg args vals as hpre hlay hrd hwl hlo
 obtain rfl:dV = .none:=Dflts.none hD hdf
 obtain rfl:kV = .none:=Dflts.noKw hD
 obtain ⟨a,vs,ns,rfl,rfl,hobj,hints,hlen⟩:=B1 hn hpre hwl
 refine enter_call (codeAny_mono (call w s₀ s₁ mg mb fa o pm cd doc a vs ns G Y ho (fd_plain hd) hcd hmg hobj hints hlen hg) fun r s' hq=>?_)
 obtain ⟨rfl,h2,h3,h4⟩:=hq
 exact⟨.inl ⟨.bool true,.bool true,[],rfl,fun _=>rfl,.bool true,B2 l _,fun _=>⟨List.Pairwise.nil,fun _ hm=>(nomatch hm)⟩⟩,h2,h3,h4⟩
end Att
namespace L2
open PySem PySem.Spec PyProof.Rows
theorem mV:∀ {vs:List Value}{ns:List Int},IntsAre vs ns->aJ (ns.map V.int) vs
 | _,_,.nil=>.nil
 | _,_,.cons n t h=>.cons ⟨t,rfl⟩ (mV h)
def oV (H:Hp):Prop:=∀ b,H b=none ∨ ∃ o xs,H b=some (.frz o (.lst xs))
theorem ap1 {P:Program}{w:World}{K:PySem.W.Frag}{mg mb:Str->Option Value}{CX:gC}{k:Nat}{fa a:Addr}{fd:FuncData}{x:Str}{sp:Sp}{s₁:Shared}{vs:List Value}{ns:List Int}
  (KX:K.In s₁.heap) (hns:s₁.heap.Ns mainGlobals mg) (hb:s₁.heap.Ns builtinsNs mb) (hbb:∀ x:Str,x ≠ "__name__"->mb x=bootBuiltins x) (hlim:s₁.heap.NoLimit) (hg:s₁.gens = #[])
  (ha:s₁.heap.get? a=some { cls:=.type "list",data:=.seq vs.toArray }) (hi:IntsAre vs ns) (hl:ns.length<=sizeLine) (hr:cD k callerA)
  (F:∀ base:Heap,K.In base->base.Ns mainGlobals mg->dE P w K mg base CX k fa fd [x] sp) (hbind:∀ (s:Shared) (u:Value),BindsTo s fd ⟨[u],[]⟩ [(x,u)])
  (hsp:∀ H:Hp,oV H->aL K H a (ns.map V.int)->sp [.ref a] H (fun v _=>v = .bl true) fun _ _ _=>False)
  (hCX:∀ H e s',CX [] H s₁ (fun _ _ _=>False) e s'->False) :
  codeAny (model P w) callerA (.call (.ref fa) ⟨[.ref a],[]⟩) (fun r s'=>r = .ok (.ret (.bool true))/\OldK s₁.heap s'.heap/\s'.os=s₁.os/\AllBare s'.gens) s₁:=by
 have rv:=mV hi
 have lenV:=hi.length
 have core:∀ H:Hp,oV H->aL K H a (ns.map V.int)->bU P w H s₁.heap->(∀ b,H b ≠ none->b=a)->(H a ≠ none->K.lookup a=none)->
   codeAny (model P w) callerA (.call (.ref fa) ⟨[.ref a],[]⟩) (fun r s'=>r = .ok (.ret (.bool true))/\OldK s₁.heap s'.heap/\s'.os=s₁.os/\AllBare s'.gens) s₁:=by
  intro H hO hS hok hA hK
  have base_of:∀ {b:Addr}{o:Obj},s₁.heap.get? b=some o->H b=none->(iO s₁.heap H).get? b=some o:=fun e n=>ae0 e n
  have noA:∀ {b:Addr}{o:Obj}{es:Array DictEntry}{ep:Nat},s₁.heap.get? b=some o->o.data = .dict es ep->H b=none:=fun {b o es ep} e d=>by
   cases q:H b with
   | none=>rfl
   | some u=>
    have e':b=a:=hA b (by rw [q]; simp)
    subst e'
    rw [ha] at e; cases e
    have d':Data.seq vs.toArray _=Data.dict es ep:=d
    cases d'
  have nsK:∀ {b:Addr}{m:Str->Option Value},s₁.heap.Ns b m->(iO s₁.heap H).Ns b m:=fun {b m} ⟨o,es,ep,e,d,r⟩=>⟨o,es,ep,base_of e (noA e d),d,r⟩
  have hKb:K.In (iO s₁.heap H):=fun b o e=>base_of (KX b o e) (by
   cases q:H b with
   | none=>rfl
   | some u=>
    have e':b=a:=hA b (by rw [q]; simp)
    subst e'
    rw [hK (by rw [q]; simp)] at e; cases e)
  have hM:Mod K mg (iO s₁.heap H):=⟨hKb,nsK hns,⟨mb,nsK hb,hbb⟩,let ⟨mc,h1,h2⟩:=hlim; ⟨mc,nsK h1,h2⟩⟩
  have e0:oR P w K mg (iO s₁.heap H) callerA [] s₁ H:=⟨rfl,hM,fun b o e=>ae1 e,Nat.le_of_eq (ad9 _ _),trivial,fun b hb=>absurd (show b ∈ ([]:List Addr) from hb) (by simp),hok,.of_eq hg⟩
  refine codeAny_mono ((F _ hKb (nsK hns)).run callerA [] s₁ H ⟨[.ref a],[]⟩ [.ref a] [.ref a] _ _ hr e0 (hbind s₁ (.ref a)) (.cons rfl .nil) (hsp H hO hS)) fun r s' h=>?_
  cases r with
  | error e=>exact (hCX H e s' h).elim
  | ok fl=>
   cases fl with
   | next=>exact False.elim h
   | brk=>exact False.elim h
   | cont=>exact False.elim h
   | ret u=>
    obtain ⟨v,H',os,bare,un,hok',r',q⟩:=h
    have q':v = .bl true:=q
    subst q'
    obtain rfl:u=Value.bool true:=r'
    refine⟨rfl,OldK.of_keep fun b o e=>?_,os,bare⟩
    cases q:H b with
    | none=>exact un.keep b o e q (by intro z; exact absurd (show b ∈ ([]:List Addr) from z) (by simp)) (by simp)
    | some u=>
     rcases hO b with z | ⟨ob,xs,z⟩
     ·rw [q] at z; cases z
     ·have z2:=un.frzs b ob _ z
      obtain ⟨e1,_⟩:=hok b _ z
      obtain ⟨e2,_⟩:=hok' b _ z2
      rw [e] at e1; cases e1
      exact e2
 cases hk:K.lookup a with
 | some o=>
  have e:=KX a o hk
  rw [ha] at e
  cases e
  refine core (fun _=>none) (fun _=>.inl rfl) (.inr ⟨_,vs.toArray,_,hk,rfl,rfl,rfl,by rw [bb5,lenV]; exact hl,by simpa using rv⟩) (fun b u z=>by have z':(none:Option HO)=some u:=z; cases z') (fun b z=>absurd rfl z) fun z=>absurd rfl z
 | none=>
  refine core (fun b=>if b=a then some (.frz { cls:=.type "list",data:=.seq vs.toArray } (.lst (ns.map V.int))) else none) (fun b=>?_) (.inl (.inr ⟨{ cls:=.type "list",data:=.seq vs.toArray },if_pos rfl⟩)) (fun b u z=>?_) (fun b z=>?_) fun _=>hk
  ·by_cases hb:b=a
   ·exact .inr ⟨_,_,if_pos hb⟩
   ·exact .inl (if_neg hb)
  ·by_cases hb:b=a
   ·have z':=(if_pos hb).symm.trans z
    cases z'
    subst hb
    exact⟨ha,by rw [bb4]; exact hl,vs,_,rv,ha⟩
   ·have z':=(if_neg hb).symm.trans z
    cases z'
  ·by_cases hb:b=a
   ·exact hb
   ·exact absurd (if_neg hb) z
theorem ap2 {l:PySem.W.OpenLaw}{n k:Nat}{q:Program}{loose:List Str}{XP:(Str->Option Value)->Heap->Prop}{YP:World->Heap->Prop}{d:DefRec}{K:Params->PySem.W.Frag}{CX:World->gC}{sp:World->Sp}{x:Str}
  (hn:l.most=some n) (hn2:n<=sizeLine) (hdf:d.params.defaults = []) (hr:cD k callerA)
  (hY:∀ (w:World) (h:Heap),YP w h->(K w.params).In h)
  (F:∀ (w:World) (mg:Str->Option Value) (fa:Addr) (h:Heap),(K w.params).In h->h.Ns mainGlobals mg->mg d.name=some (.ref fa)->
   ∃ fd:FuncData,(∀ (s:Shared) (u:Value),BindsTo s fd ⟨[u],[]⟩ [(x,u)])/\
    ∀ base:Heap,(K w.params).In base->base.Ns mainGlobals mg->dE l.prog w (K w.params) mg base (CX w) k fa fd [x] (sp w))
  (hsp:∀ (w:World) (H:Hp) (a:Addr) (ns:List Int),ns.length<=n->oV H->aL (K w.params) H a (ns.map V.int)->sp w [.ref a] H (fun v _=>v = .bl true) fun _ _ _=>False)
  (hCX:∀ (w:World) (H:Hp) (s:Shared) (e:Value) (s':Shared),CX w [] H s (fun _ _ _=>False) e s'->False) :
  PySem.W.WalkO q loose XP YP l.row.toRowW d [] (fun f vs=>PySem.call f vs):=by
 refine Att.ap0 hn hdf fun w s₀ s₁ mg mb fa o pm cd doc a vs ns G Y ho hd hcd hmg hobj hints hlen hg=>?_
 have KX:=hY w _ Y
 obtain ⟨fd,hb,hF⟩:=F w mg fa _ KX G.T.g hmg
 exact ap1 KX G.T.g G.T.b G.T.builtins G.T.nolimit hg hobj hints (bf6 hlen hn2) hr hF hb (fun H hO hS=>hsp w H a ns hlen hO hS) fun H e s'=>hCX w H s₁ e s'
def iY (s:Stmt):Arguments:=match s with
 | .FunctionDef _ a _ _ _ _ _ _ _ _=>a
 | _=>{ posonlyargs:=[],args:=[],vararg:=none,kwonlyargs:=[],kw_defaults:=[],kwarg:=none,defaults:=[] }
def eI (s:Stmt):List Stmt:=match s with
 | .FunctionDef _ _ b _ _ _ _ _ _ _=>b
 | _=>[]
def aU (s:Stmt):Scope:=match s with
 | .FunctionDef _ _ _ _ _ _ sc _ _ _=>sc
 | _=>{ kind:=.function,names:=[],isGenerator:=false,isCoroutine:=false }
abbrev e8:gC:=fun _ _ _ _ _ _=>False
abbrev E0:XK:=fun _ _ _=>False
theorem ap3 {X:Cx}:mO e8 X E0:=fun _ _ _ _ _ _ _ h=>h.elim
structure fG (K:PySem.W.Frag) (x qual:Str) (st:Stmt) (f:Addr) (fd:FuncData):Prop where
 ex:∃ (oc:Value) (od:Option Addr) (kV doc pm:Value) (an:Option Addr) (cdv ct:Value) (osl:Array (Option Value)),
  fd=PySem.W.fnOf x qual (iY st) (eI st) (aU st) .none kV doc pm an cdv ct/\K.lookup f=some ⟨oc,od,.func fd,osl⟩/\PySem.W.codeIn K cdv qual=true
 kp:PySem.W.keepIn K (.ref f)=true
section
variable {P : Program} {w : World} {K : PySem.W.Frag} {mg : Str → Option Value} {base : Heap}
theorem fG.ok {x qual:Str}{st:Stmt}{f:Addr}{fd:FuncData}{N ps:List Str}{k:Nat}{sp:Sp} (F:fG K x qual st f fd) (S:FnScope N ps (aU st)) (len:∀ vs H Q E,sp vs H Q E->vs.length=ps.length)
  (hbody:∀ (cdv:Value) (A:Around) (outer:List Env) (s:Shared) (H:Hp) (vs:List V) (Q:VK) (E:XK),cD k (A.deeper (envOfC qual (aU st) s.heap.objs.size f cdv))->sp vs H Q E->
   ∃ t,dZ (dF e8 P w K mg base N qual (aU st) f cdv A outer s H E).nox (eI st) t/\t { nx:=fun _ H'=>Q .non H',rt:=Q } (gD N vs) H):dE P w K mg base e8 (k+1) f fd ps sp:=by
 obtain ⟨oc,od,kV,doc,pm,an,cdv,ct,osl,rfl,lk,hcd⟩:=F.ex
 refine zH lk hcd S len fun A outer s H vs Q E hr hsp=>?_
 obtain ⟨t,h,q⟩:=hbody cdv A outer s H vs Q E hr hsp
 exact⟨t,h.nox,q⟩
theorem fG.binds {x qual:Str}{st:Stmt}{f:Addr}{fd:FuncData}{ps:List Str} (F:fG K x qual st f fd)
  (h:∀ (kV doc pm:Value) (an:Option Addr) (cdv ct:Value) (us:List Value),us.length=ps.length->bindArgs (PySem.W.fnOf x qual (iY st) (eI st) (aU st) .none kV doc pm an cdv ct) ⟨us,[]⟩=pure (ps.zip us)):iU K fd ps []:=by
 obtain ⟨oc,od,kV,doc,pm,an,cdv,ct,osl,rfl,lk,hcd⟩:=F.ex
 exact .all (h kV doc pm an cdv ct)
theorem ap4 {x qual:Str}{st:Stmt}{f:Addr}{oc:Value}{od an:Option Addr}{osl:Array (Option Value)}{kV doc pm cdv ct:Value} (l:K.lookup f=some ⟨oc,od,.func (PySem.W.fnOf x qual (iY st) (eI st) (aU st) .none kV doc pm an cdv ct),osl⟩)
  (c:PySem.W.codeIn K cdv qual=true) (k:PySem.W.keepIn K (.ref f)=true):fG K x qual st f (PySem.W.fnOf x qual (iY st) (eI st) (aU st) .none kV doc pm an cdv ct):=⟨⟨oc,od,kV,doc,pm,an,cdv,ct,osl,rfl,l,c⟩,k⟩
end
theorem kB {A:Around}{k:Nat} (hr:cD k A):A.units+1 < cLine:=Nat.lt_of_le_of_lt (Nat.add_le_add_left (by decide:1<=64) _) hr.units
theorem mW {n:Nat} (h:n<=1000):n < sizeLine:=Nat.lt_of_le_of_lt h (by decide)
section
variable {X : Cx}
theorem pv (i:Nat) {x:Str}{pos:Pos} (hN:X.N[i]? = some x:=by rfl) (hv:fQ X.env.scope x:=by first | exact Or.inl rfl | exact Or.inr (Or.inl rfl) | exact Or.inr (Or.inr rfl)) (hd:(x == ("__debug__" : Str))=false:=by decide)
  (hcd:(x == ("__classdict__" : Str))=false:=by decide):PE X (.Name x pos) (fR i):=i8 hN hv hd hcd
theorem ap5:cP X (.builtin "len") (fun xs H Q=>∃ a kvs,xs = [V.ref a]/\H a=some (.dK kvs)/\Q (.int kvs.length) H):=by
 intro pins s σ H xs us Q I r h
 obtain ⟨a,kvs,rfl,ha,q⟩:=h
 obtain ⟨u,rfl,ru⟩:=fD r
 cases ru
 exact an8 I (.inl ha) fun t s' I'=>⟨.int kvs.length,H,I',⟨t,rfl⟩,q⟩
end
theorem b6 {A B:Prop} (h:B):if false=true then A else B:=by
 rw [if_neg bd4]
 exact h
theorem bV {A B:Prop} (h:A):if true=true then A else B:=by
 rw [if_pos rfl]
 exact h
def aD (H H':Hp):Prop:=∀ b o,H b=some o->H' b=some o
theorem aD.refl (H:Hp):aD H H:=fun _ _ h=>h
theorem aD.trans {H H1 H2:Hp} (a:aD H H1) (b:aD H1 H2):aD H H2:=fun c o h=>b c o (a c o h)
theorem aD.free {H H':Hp} (e:aD H H') {l:Addr} (h:H' l=Option.none):H l=Option.none:=by
 cases q:H l with
 | none=>rfl
 | some o=>
  rw [e l o q] at h
  cases h
def e9 (cells:List (Str × Addr)):List (Str × NameKind)->List (Str × Addr)->List (Str × Addr)
 | [],cs=>cs
 | (n,k) :: r,cs=>e9 cells r (if k == .free then (n,(cells.lookup n).getD 0) :: cs else cs)
theorem tS {env:Env}:∀ (ns:List (Str × NameKind)) (cs:List (Str × Addr)),(∀ x ∈ ns,x.2 = .free->∃ c,env.cells.lookup x.1=some c)->
  (forIn ns cs (fun (x:Str × NameKind) r=>(match x with
   | (name,kind)=>if (kind == .free)=true then (do let y <- cellOf env name; pure (ForInStep.yield ((name,y) :: r))) else pure (ForInStep.yield r)):_->_->Sem _))=(pure (e9 env.cells ns cs):Sem (List (Str × Addr)))
 | [],cs,_=>by rw [List.forIn_nil]; rfl
 | (n,k) :: r,cs,h=>by
  rw [List.forIn_cons]
  have hr:∀ x ∈ r,x.2 = .free->∃ c,env.cells.lookup x.1=some c:=fun x hx=>h x (bc3 _ hx)
  cases hk:(k == NameKind.free) with
  | true=>
   have e:k = .free:=by simpa using hk
   obtain ⟨c,hc⟩:=h (n,k) bc2 e
   simp only [hk,if_true]
   have e1:cellOf env n=pure c:=by unfold cellOf; rw [hc]
   rw [e1]
   show ((pure c >>= fun y=>pure (ForInStep.yield ((n,y) :: cs))) >>= _:Sem _)=_
   rw [pure_bind,pure_bind]
   have:=tS (env:=env) r ((n,c) :: cs) hr
   refine this.trans ?_
   unfold e9
   simp only [hk,if_true,hc,Option.getD_some]
   cases r <;> rfl
  | false=>
   simp only [hk,bd5,bh5]
   rw [pure_bind]
   have:=tS (env:=env) r cs hr
   refine this.trans ?_
   conv=>rhs; unfold e9
   simp only [hk,bd5,bh5]
theorem tT {scope:Scope}{env:Env} (h:∀ x ∈ scope.names,x.2 = .free->∃ c,env.cells.lookup x.1=some c):closureFor scope env=pure (e9 env.cells scope.names []):=by
 have e:=tS (env:=env) scope.names [] h
 unfold closureFor
 rw [show (pure (e9 env.cells scope.names []):Sem (List (Str × Addr)))=(pure (e9 env.cells scope.names []) >>= pure) by rw [pure_bind]]
 rw [<- e]
theorem oW {cells:List (Str × Addr)}:∀ (ns:List (Str × NameKind)) (cs:List (Str × Addr)) {x:Str}{c:Addr},(∀ y ∈ ns,y.2 = .free->∃ c,cells.lookup y.1=some c)->
  (∀ x c,cs.lookup x=some c->cells.lookup x=some c)->(e9 cells ns cs).lookup x=some c->cells.lookup x=some c
 | [],cs,x,c,_,hc,h=>hc x c h
 | (n,k) :: r,cs,x,c,hn,hc,h=>by
  unfold e9 at h
  have hr:∀ y ∈ r,y.2 = .free->∃ c,cells.lookup y.1=some c:=fun y hy=>hn y (bc3 _ hy)
  cases hk:(k == NameKind.free) with
  | false=>
   simp only [hk,bd5,bh5] at h
   exact oW r cs hr hc h
  | true=>
   simp only [hk,if_true] at h
   refine oW r _ hr (fun y d e=>?_) h
   obtain ⟨c0,h0⟩:=hn (n,k) bc2 (by simpa using hk)
   have h0:cells.lookup n=some c0:=h0
   rw [h0] at e
   rw [bi7] at e
   by_cases hyn:y=n
   ·subst hyn
    simp only [bk5,Option.getD_some] at e
    rw [h0]; exact e
   ·have:(y == n)=false:=bp0.mpr hyn
    simp only [this] at e
    exact hc y d e
theorem tU {cells:List (Str × Addr)}:∀ (ns:List (Str × NameKind)) (cs:List (Str × Addr)) {x:Str},((x,NameKind.free) ∈ ns ∨ ∃ c,cs.lookup x=some c)->∃ c,(e9 cells ns cs).lookup x=some c
 | [],cs,x,h=>by
  rcases h with h | h
  ·simp at h
  ·exact h
 | (n,k) :: r,cs,x,h=>by
  unfold e9
  refine tU r _ ?_
  rcases h with h | ⟨c,h⟩
  ·rcases bb8.mp h with e | e
   ·cases e
    exact .inr ⟨_,by simp [bi7]; rfl⟩
   ·exact .inl e
  ·right
   cases hk:(k == NameKind.free) with
   | false=>exact⟨c,by simpa [hk] using h⟩
   | true=>
    simp only [if_true]
    rw [bi7]
    by_cases hxn:(x == n)=true
    ·simp only [hxn]; exact⟨_,rfl⟩
    ·simp only [bo6.mpr hxn]; exact⟨c,h⟩
theorem oX {env:Env}:∀ {names:List (Str × NameKind)}{x:Str}{k:NameKind},(names.map fun (n,k)=>if (k == NameKind.free && env.scope.kind == .function && env.kindOf n == some .cell) then (n,NameKind.cell) else (n,k)).lookup x=some k->
  names.lookup x=some k ∨ (names.lookup x=some .free/\k = .cell)
 | [],_,_,h=>by simp at h
 | (n,q) :: r,x,k,h=>by
  have ih:=@oX env r x k
  rw [bf4] at h
  by_cases hx:(x == n)=true
  ·have e:x=n:=by simpa using hx
   subst e
   by_cases hc:(q == NameKind.free && env.scope.kind == .function && env.kindOf x == some .cell)=true
   ·simp only [hc,if_true,bi7,bk5] at h
    have hq:q = .free:=by simp at hc; exact hc.1.1
    exact .inr ⟨by simp [bi7,hq],(be0 h).symm⟩
   ·simp only [hc,bd5,bh5,bi7,bk5] at h
    exact .inl (by simp [bi7]; exact be0 h)
  ·have hx':(x == n)=false:=bo6.mpr hx
   have h':(r.map fun (n,k)=>if (k == NameKind.free && env.scope.kind == .function && env.kindOf n == some .cell) then (n,NameKind.cell) else (n,k)).lookup x=some k:=by
    by_cases hc:(q == NameKind.free && env.scope.kind == .function && env.kindOf n == some .cell)=true
    ·simp only [hc,if_true,bi7,hx'] at h; exact h
    ·simp only [hc,bd5,bh5,bi7,hx'] at h; exact h
   simp only [bi7,hx']
   exact ih h'
def dR (fr:List (Option Nat)) (σ:St):St:=fr.map fun o=>o.bind fun j=>(σ[j]?).join
def Wk (σ₁ σ₂:St):Prop:=σ₁.length=σ₂.length/\∀ (i:Nat) v,σ₁[i]? = some (some v)->σ₂[i]? = some (some v)
theorem Wk.refl (σ:St):Wk σ σ:=⟨rfl,fun _ _ h=>h⟩
theorem Wk.set {σ τ:St}{i:Nat}{v:V} (h:Wk σ τ) (hi:σ[i]? = some none):Wk σ (τ.set i (some v)):=by
 refine⟨by rw [bk2]; exact h.1,fun j w e=>?_⟩
 by_cases hj:j=i
 ·subst hj; rw [hi] at e; cases e
 ·rw [be6 (Ne.symm hj)]; exact h.2 j w e
theorem iZ:∀ (ns:List (Str × NameKind)) (n:Nat) (cs:List (Str × Addr)),cellsFrom n ns cs=cellsFrom n ns [] ++ cs
 | [],_,_=>rfl
 | (x,k) :: r,n,cs=>by
  unfold cellsFrom
  split
  ·rw [iZ r (n+1) ((x,n) :: cs),iZ r (n+1) [(x,n)]]; simp
  ·exact iZ r n cs
theorem tV:∀ (ns:List (Str × NameKind)) (n:Nat) {x:Str}{c:Addr},(x,c) ∈ cellsFrom n ns []->(x,NameKind.cell) ∈ ns
 | [],_,_,_,h=>by simp [cellsFrom] at h
 | (y,k) :: r,n,x,c,h=>by
  unfold cellsFrom at h
  split at h
  ·rename_i hk
   rw [iZ] at h
   rcases be1.mp h with z | z
   ·exact bc3 _ (tV r _ z)
   ·rw [bc1] at z
    cases z
    have:k = .cell:=by simpa using hk
    rw [this]; exact bc2
  ·exact bc3 _ (tV r _ h)
theorem oY:∀ (ns:List (Str × NameKind)) (n:Nat) {x:Str},(x,NameKind.cell) ∈ ns->∃ c,(x,c) ∈ cellsFrom n ns []
 | (y,k) :: r,n,x,h=>by
  unfold cellsFrom
  rcases bb8.mp h with z | z
  ·cases z
   rw [if_pos (by rfl),iZ]
   exact⟨n,bf7 _ (by simp)⟩
  ·split
   ·obtain ⟨c,hc⟩:=oY r (n+1) z
    rw [iZ]
    exact⟨c,bo4 _ hc⟩
   ·exact oY r n z
theorem tW {α:Type}:∀ {l:List (Str × α)}{x:Str}{c:α},(x,c) ∈ l->∃ d,l.lookup x=some d
 | (y,v) :: r,x,c,h=>by
  rw [bi7]
  cases hb:x == y with
  | true=>exact⟨v,rfl⟩
  | false=>
   rcases bb8.mp h with z | z
   ·cases z; simp at hb
   ·exact tW z
theorem oZ {α:Type}{x:Str}:∀ (l r:List (Str × α)),(l ++ r).lookup x=(match l.lookup x with | some v=>some v | none=>r.lookup x)
 | [],_=>rfl
 | (y,v) :: l,r=>by
  rw [List.cons_append,bi7,bi7]
  cases hb:x == y with
  | true=>rfl
  | false=>exact oZ l r
def gE (X:Cx) (scope:Scope) (C:Addr):List (Str × Addr):=cellsFrom (C+1) scope.names (e9 X.env.cells scope.names [])
theorem kC {X:Cx}{scope:Scope}{C:Addr}{x:Str}{c:Addr} (h:(gE X scope C).lookup x=some c) :
  (x,c) ∈ cellsFrom (C+1) scope.names [] ∨ ((∀ d,(x,d) ∉ cellsFrom (C+1) scope.names [])/\(e9 X.env.cells scope.names []).lookup x=some c):=by
 unfold gE at h
 rw [iZ,oZ] at h
 cases e:(cellsFrom (C+1) scope.names []).lookup x with
 | some v=>rw [e] at h; cases h; exact .inl (bh4 e)
 | none=>
  rw [e] at h
  refine .inr ⟨fun d hd=>?_,h⟩
  obtain ⟨d',z⟩:=tW hd
  rw [e] at z; cases z
theorem ap6 {X:Cx}{scope:Scope}{C:Addr}{x:Str}{c:Addr} (hn:(x,NameKind.cell) ∉ scope.names) (h:(e9 X.env.cells scope.names []).lookup x=some c):(gE X scope C).lookup x=some c:=by
 unfold gE
 rw [iZ,oZ]
 cases e:(cellsFrom (C+1) scope.names []).lookup x with
 | some v=>exact absurd (tV _ _ (bh4 e)) hn
 | none=>exact h
theorem B3 {X:Cx}{scope:Scope}{C:Addr}{x:Str} (h:(x,NameKind.cell) ∈ scope.names ∨ ∃ c,(e9 X.env.cells scope.names []).lookup x=some c):∃ c,(gE X scope C).lookup x=some c:=by
 unfold gE
 rw [iZ,oZ]
 cases e:(cellsFrom (C+1) scope.names []).lookup x with
 | some v=>exact⟨v,rfl⟩
 | none=>
  rcases h with h | h
  ·obtain ⟨c,hc⟩:=oY scope.names (C+1) h
   obtain ⟨d,hd⟩:=tW hc
   rw [e] at hd; cases hd
  ·exact h
def bF (X:Cx) (scope:Scope) (N:List Str) (s:Shared) (H:Hp) (C:Addr) (fp:List Addr) (E:Value->Shared->Prop):Cx:=
 { X with N:=N,s₀:=s,H₀:=H,env:=compEnvC scope (gE X scope C) C X.env,outer:=X.stack,ex:=fp,fn:=fun x=>scope.names.lookup x == some .cell,pn:=[],xe:=E }
structure cY (X:Cx) (scope:Scope) (N:List Str) (fr:List (Option Nat)):Prop where
 kind:scope.kind = .function
 own:∀ y ∈ scope.names,y.2 = .cell->scope.names.lookup y.1=some .cell
 names:∀ y ∈ scope.names,y.2 = .local->scope.names.lookup y.1=some .local
 free:∀ y ∈ scope.names,y.2 = .free->X.env.scope.names.lookup y.1=some .cell ∨ X.env.scope.names.lookup y.1=some .free
 len:fr.length=N.length
 from_:∀ (i j:Nat),fr[i]? = some (some j)->∃ x,N[i]? = some x/\X.N[j]? = some x/\scope.names.lookup x=some .free
section
variable {X : Cx} {pins : List (Addr × Obj)} {σ : St} {H : Hp} {s : Shared} {scope : Scope} {N : List Str} {fr : List (Option Nat)}
theorem cY.cells (S:cY X scope N fr) (I:a6 X pins σ H s):∀ y ∈ scope.names,y.2 = .free->∃ c,X.env.cells.lookup y.1=some c:=fun y hy hk=>I.ok.has y.1 (S.free y hy hk)
theorem ap7 {C D:Addr}{fp:List Addr}{E:Value->Shared->Prop}{h1:Heap}{tk:Nat}{m:Str->Option Value} (S:cY X scope N fr) (I:a6 X pins σ H s)
  (hf:∀ b ∈ fp,fS X pins H b) (hfl:∀ b ∈ fp,b < s.heap.objs.size) (hD:s.heap.objs.size<=D) (hC:s.heap.objs.size<=C) (hDC:D < C)
  (old:∀ b o,s.heap.get? b=some o->h1.get? b=some o) (hns:h1.Ns C m) (hacc:h1.get? D=some { cls:=.type "list",data:=.seq #[] 0 }) (hco:CellsOk h1 (C+1) (cellsFrom (C+1) scope.names [])) :
  a6 (bF X scope N s H C fp E) [] (dR fr σ) (upd H D (.lst [])) { s with heap:=h1,toks:=tk }:=by
 have hHD:H D=none:=I.hok.fresh hD
 have cl:=S.cells I
 have cs:∀ {x:Str}{c:Addr},(e9 X.env.cells scope.names []).lookup x=some c->X.env.cells.lookup x=some c:=fun {x c} h=>oW scope.names [] cl (fun _ _ z=>by simp at z) h
 have clt:∀ {x:Str}{c:Addr},X.env.cells.lookup x=some c->c < s.heap.objs.size:=fun {x c} h=>by obtain ⟨v,z⟩:=I.cell x c h; exact z.lt
 have nge:∀ {x:Str}{c:Addr},(x,c) ∈ cellsFrom (C+1) scope.names []->C < c:=fun {x c} h=>(hco.empty x c h).2
 refine⟨⟨I.ok.mod,?_,I.ok.glob,I.ok.blt,hC,?_,?_,?_,I.ok.hd,I.ok.frames,.inl rfl,?_,I.bs,bf6 I.ok.bsz I.sz,?_,?_,I.stack,I.stkFree⟩,rfl,I.bare,Un.laid old hD hHD,⟨m,hns,?_⟩,?_,?_,?_,fun p hp=>absurd (show p ∈ ([]:List (Addr × Obj)) from hp) (by simp),?_,?_⟩
 ·exact S.kind
 ·intro x y c h1 h2
  rcases kC h1 with a | ⟨_,a⟩ <;> rcases kC h2 with b | ⟨_,b⟩
  ·exact name_of_addr hco.apart a b
  ·exact absurd (bd0 (Nat.lt_trans (nge a) (clt (cs b))) hC) (bg0 _)
  ·exact absurd (bd0 (Nat.lt_trans (nge b) (clt (cs a))) hC) (bg0 _)
  ·exact I.ok.inj x y c (cs a) (cs b)
 ·intro x hx
  have hx:(relabel scope X.env).names.lookup x=some .cell ∨ (relabel scope X.env).names.lookup x=some .free:=hx
  have fin:(x,NameKind.free) ∈ scope.names->∃ c,(gE X scope C).lookup x=some c:=fun z=>B3 (.inr (tU scope.names [] (.inl z)))
  rcases hx with hx | hx
  ·rcases oX hx with z | z
   ·exact B3 (.inl (bh4 z))
   ·exact fin (bh4 z.1)
  ·rcases oX hx with z | z
   ·exact fin (bh4 z)
   ·exact absurd z.2 (by decide)
 ·intro x c hx h
  have hx:(scope.names.lookup x == some NameKind.cell)=true:=hx
  have hx:scope.names.lookup x=some .cell:=by simpa using hx
  rcases kC h with a | ⟨a,_⟩
  ·exact bf6 hC (bg6 (nge a))
  ·obtain ⟨d,hd⟩:=oY scope.names (C+1) (bh4 hx)
   exact absurd hd (a d)
 ·intro b hb
  refine⟨be3 (bd0 (hfl b hb) hC),fun x c e=>?_⟩
  rcases kC e with a | ⟨_,a⟩
  ·exact bi2 (Nat.lt_trans (bd0 (hfl b hb) hC) (nge a))
  ·exact (hf b hb).2.2.2.2.1 x c (cs a)
 ·intro b o e hb
  rcases (hf b hb).2.2.2.1 with z | z
  ·exact I.ok.noex b o e z
  ·exact absurd (bd0 (bc7 e) (bf6 I.ok.bsz z)) (bg0 _)
 ·intro b hb z
  rcases bb8.mp (I.stkSub b z) with e | e
  ·exact (hf b hb).2.1 e
  ·exact (hf b hb).2.2.1 e
 ·intro i x v e1 e2 e3
  have e2:(fr.map fun o=>o.bind fun j=>(σ[j]?).join)[i]? = some (some v):=e2
  rw [bc6] at e2
  cases ef:fr[i]? with
  | none=>rw [ef] at e2; cases e2
  | some o=>
   rw [ef] at e2
   cases o with
   | none=>cases e2
   | some j=>
    have e2:some ((σ[j]?).join)=some (some v):=e2
    have ej:σ[j]? = some (some v):=by
     cases q:σ[j]? with
     | none=>rw [q] at e2; cases e2
     | some w=>rw [q] at e2; cases w with
      | none=>cases e2
      | some w=>cases e2; rfl
    obtain ⟨y,a1,a2,a4⟩:=S.from_ i j ef
    have e1:N[i]? = some x:=e1
    rw [e1] at a1
    cases a1
    have a3:(x,NameKind.free) ∈ scope.names:=bh4 a4
    have vis:fQ X.env.scope x:=(S.free _ a3 rfl).elim (fun z=>.inr (.inl z)) fun z=>.inr (.inr z)
    obtain ⟨m0,hn0,hl0⟩:=I.loc
    obtain ⟨u,r,l⟩:=hl0 j x v a2 ej vis
    refine⟨u,r,.inr ⟨?_,?_⟩⟩
    ·have e3:(relabel scope X.env).names.lookup x=some .local ∨ (relabel scope X.env).names.lookup x=some .cell ∨ (relabel scope X.env).names.lookup x=some .free:=e3
     rcases e3 with z | z | z
     ·rcases oX z with y | y
      ·rw [a4] at y; cases y
      ·exact absurd y.2 (by decide)
     ·exact .inl z
     ·exact .inr z
    ·obtain ⟨c,hc⟩:=tU (cells:=X.env.cells) scope.names [] (x:=x) (.inl a3)
     refine⟨c,ap6 (fun z=>by have:=S.own _ z rfl; rw [a4] at this; cases this) hc,?_⟩
     have hc':=cs hc
     have S1:=S.free (x,.free) a3 rfl
     rcases l with ⟨k,_⟩ | ⟨_,c2,hc2,z⟩
     ·have k:X.env.scope.names.lookup x=some .local:=k
      rcases S1 with q | q <;> (have q:X.env.scope.names.lookup x=_:=q; rw [k] at q; cases q)
     ·rw [hc'] at hc2; cases hc2
      obtain ⟨oc,ho,hd⟩:=z
      exact⟨oc,old c oc ho,hd⟩
 ·intro x c e
  rcases kC e with a | ⟨_,a⟩
  ·exact⟨_,(hco.empty x c a).1⟩
  ·obtain ⟨v,oc,ho,hd⟩:=I.cell x c (cs a)
   exact⟨v,oc,old c oc ho,hd⟩
 ·show upd H D (.lst []) C=none
  rw [aH (bi2 hDC)]; exact I.hok.fresh hC
 ·intro x c e
  show upd H D (.lst []) c=none
  rcases kC e with a | ⟨_,a⟩
  ·rw [aH (bi2 (Nat.lt_trans hDC (nge a)))]; exact I.hok.fresh (bf6 hC (bg6 (nge a)))
  ·have q:=cs a
   rw [aH (be3 (bd0 (clt q) hD))]
   exact I.freeC x c q
 ·exact I.hok.laid old hD ⟨bf1 _,[],0,.nil,hacc⟩
 ·show (dR fr σ).length=N.length
  unfold dR; rw [bb4]; exact S.len
end
def jN (X:Cx) (ifs:List Expr) (t:TT):Prop:=
 ∀ (pins:List (Addr × Obj)) (s:Shared) (σ:St) (H:Hp) (Q:Bool->Hp->Prop),a6 X pins σ H s->t σ H Q->
  wpAny (model X.prog X.w) X.A (forIn ifs true fun c r=>if r=true then do let ok <- isTrue c X.env (eval c X.env); pure (ForInStep.yield ok) else pure (ForInStep.yield r)) (TP X pins σ Q) X.xe s
def tX:TT:=fun _ H Q=>Q true H
theorem B4 {X:Cx}:jN X [] tX:=fun _ _ _ H _ I h=>wpAny_tests_nil ⟨H,I,h⟩
theorem B5 {X:Cx}{c:Expr}{t:TT} (h:PT X c t):jN X [c] t:=fun pins s σ H Q I hq=>wpAny_tests_one (h pins s σ H Q I hq)
section
variable {prog : Program} {w : World} {A : Around}
def tY (prog:Program) (w:World) (A:Around) (elt tg:Expr) (ifs:List Expr) (it acc:Value) (env:Env) (lost:Value->Shared->Prop) (stop next:Shared->Prop) (s:Shared):Prop:=
 let M:=model prog w
 let tests:Sem Bool:=forIn ifs true fun c r=>if r=true then do let ok <- isTrue c env (eval c env); pure (ForInStep.yield ok) else pure (ForInStep.yield r)
 let put:Shared->Prop:=wpAny M A (eval elt env) (fun x=>wpAny M A (call (.builtin "list.append") [acc,x]) (fun _=>next) lost) lost
 let taken:Value->Shared->Prop:=fun v=>wpAny M A (letOwnedTupleGo tg it v) (fun _=>wpAny M A (assign tg env v) (fun _=>wpAny M A tests (fun ok s'=>if ok=true then put s' else next s') lost) lost) lost
 wpAny M A (pyNext it) (fun r s'=>match r with
  | none=>stop s'
  | some v=>taken v s') lost s
theorem ap8 {R:Result->Shared->Prop}{s:Shared}{elt tg iter:Expr}{ifs:List Expr}{scope:Scope}{pos:Pos}{it acc:Value}{env:Env} (I:Nat->Shared->Prop)
  (turn:∀ n s,I n s->tY prog w A elt tg ifs it acc env (notedBy (model prog w) A env fun e=>R (.error e)) (R (.ok .next)) (fun s'=>∃ m,m < n/\I m s') s) (n:Nat) (h:I n s) :
  codeAny (model prog w) A (.compLoop (.ListComp elt [⟨tg,iter,ifs,0⟩] scope pos) 0 it acc env) R s:=by
 apply codeAny_loop rfl I _ n h
 intro k s1 h1
 change wpAny _ A ((compTurn _ 0 it acc env).onRaise (fun x=>do noteFrame x env; theTreesLotGoes x)) _ _ s1
 apply wpAny_noted
 rw [compTurn_list]
 have t:=turn k s1 h1
 unfold tY at t
 apply ba9
 apply wpAny_standAt
 apply ba9
 refine bj6 t (fun r s2 h2=>?_) fun _ _ z=>z
 cases r with
 | none=>exact bb3 h2
 | some v=>
  apply ba9
  refine bj6 h2 (fun _ s3 h3=>?_) fun _ _ z=>z
  apply ba9
  refine bj6 h3 (fun _ s4 h4=>?_) fun _ _ z=>z
  apply ba9
  refine bj6 h4 (fun ok s5 h5=>?_) fun _ _ z=>z
  cases ok with
  | false=>exact bb3 ⟨rfl,h5⟩
  | true=>
   apply ba9
   apply ba9
   refine bj6 h5 (fun x s6 h6=>?_) fun _ _ z=>z
   apply ba9
   exact bj6 h6 (fun _ s7 h7=>bb3 (bb3 ⟨rfl,h7⟩)) fun _ _ z=>z
end
def p5 (g:TG) (tc:TT) (te:TE) (σ0:St) (J:It) (D:Addr) (Q:VK) (W:Nat->Nat->List V->Hp->Prop):Prop:=
 ∀ i m acc H',W i m acc H'->H' D=some (.lst acc)/\((J.stop i H'/\Q (.ref D) H') ∨ (J.go i H'/\∀ x H2,J.yld i H' x H2->g x σ0 H2 fun σ2 H3=>Wk σ0 σ2/\tc σ2 H3 fun b H4=>
  if b=true then te σ2 H4 fun v H5=>H5 D=some (.lst acc)/\acc.length < sizeLine/\∃ m',m' < m/\W (i+1) m' (acc ++ [v]) (upd H5 D (.lst (acc ++ [v]))) else ∃ m',m' < m/\W (i+1) m' acc H4))
def ap9 (wi:TI) (fr:List (Option Nat)) (g:TG) (tc:TT) (te:TE):TE:=fun σ H Q=>wi σ H fun J H1=>∀ D,H1 D=none->
 ∃ W:Nat->Nat->List V->Hp->Prop,(∃ m,W 0 m [] (upd H1 D (.lst [])))/\p5 g tc te (dR fr σ) J D Q W
section
variable {M : Model} {A : Around} {E : Value → Shared → Prop} {s : Shared}
theorem aq0 {scope:Scope}{globals:Addr}{cl:List (Str × Addr)}{qual:Str}{func:Option Addr}{code:Value}{builtins:Addr}{outer:Env}{Q:Env->Shared->Prop}
  (hQ:∀ h',h'.Ns s.heap.objs.size (fun _=>none)->(∀ b o,s.heap.get? b=some o->h'.get? b=some o)->CellsOk h' (s.heap.objs.size+1) (cellsFrom (s.heap.objs.size+1) scope.names [])->
   Q (newEnv scope s.heap.objs.size globals (cellsFrom (s.heap.objs.size+1) scope.names cl) qual func code (some outer) builtins) { s with heap:=h' }) :
  wpAny M A (newFunctionEnv scope globals cl [] qual func code (some outer) builtins) Q E s:=by
 simp only [newFunctionEnv,Option.isSome_some,if_true]
 refine ba9 (wpAny_alloc ?_)
 refine ba9 (wpAny_layCells _ (fun name kind cells=>by cases hkc:kind == NameKind.cell <;> simp [hkc]) _ _ _ _ ?_)
 have ok:=cellsFrom_ok scope.names (s.heap.push { cls:=.type "dict",data:=.dict #[] }) (s.heap.objs.size+1) [] ⟨fun _ _ hm=>(nomatch hm),List.Pairwise.nil⟩ (by rw [bl3]; exact bb6 _)
 rw [bl3] at ok
 rw [show ({ s with heap:=s.heap.push { cls:=.type "dict",data:=.dict #[] } }:Shared).heap.objs.size=s.heap.objs.size+1 from bl3 ..]
 rw [List.forIn_nil]
 refine ba9 (bb3 (bb3 (hQ _ ((Heap.Ns.new s.heap (.type "dict")).keeps (pushCells_keeps _ _)) (fun b o e=>pushCells_keeps _ _ b o (bb1 _ e)) ok)))
end
section
variable {X : Cx} {pins : List (Addr × Obj)} {σ : St} {H : Hp} {s : Shared} {scope : Scope} {N : List Str} {fr : List (Option Nat)} {tg iter elt : Expr} {ifs : List Expr} {pos : Pos} {wi : TI} {g : TG} {tc : TT} {te : TE}
structure l6 (X:Cx) (scope:Scope) (N:List Str) (tg:Expr) (ifs:List Expr) (elt:Expr) (s:Shared) (H:Hp) (g:TG) (tc:TT) (te:TE):Prop where
 tg:∀ (C:Addr) (fp:List Addr),PG (bF X scope N s H C fp fun _ _=>False) tg g
 ifs:∀ (C:Addr) (fp:List Addr),jN (bF X scope N s H C fp fun _ _=>False) ifs tc
 elt:∀ (C:Addr) (fp:List Addr),PE (bF X scope N s H C fp fun _ _=>False) elt te
structure tZ (X:Cx) (scope:Scope) (N:List Str) (tg:Expr) (ifs:List Expr) (elt:Expr) (g:TG) (tc:TT) (te:TE):Prop where
 tg:∀ (s:Shared) (H:Hp) (C:Addr) (fp:List Addr),PG (bF X scope N s H C fp fun _ _=>False) tg g
 ifs:∀ (s:Shared) (H:Hp) (C:Addr) (fp:List Addr),jN (bF X scope N s H C fp fun _ _=>False) ifs tc
 elt:∀ (s:Shared) (H:Hp) (C:Addr) (fp:List Addr),PE (bF X scope N s H C fp fun _ _=>False) elt te
theorem tZ.at (B:tZ X scope N tg ifs elt g tc te) (s:Shared) (H:Hp):l6 X scope N tg ifs elt s H g tc te:=⟨B.tg s H,B.ifs s H,B.elt s H⟩
theorem aq1 {C:Addr}{fp:List Addr}{E:Value->Shared->Prop}{pins':List (Addr × Obj)}{σ':St}{H':Hp}{s':Shared} (I:a6 X pins σ H s) (hf:∀ b ∈ fp,fS X pins H b) (I':a6 (bF X scope N s H C fp E) pins' σ' H' s'):a6 X pins σ H' s':=
 I.call' (ch:=fp) I'.os I'.base I'.hok I'.bare fun b hb=>⟨(hf b hb).2.2.2.1,(hf b hb).2.1,(hf b hb).2.2.2.2.1,(hf b hb).2.2.2.2.2⟩
theorem u5 {Rr:Value->Addr->Result->Shared->Prop}{J:It}{fp:List Addr}{it:Addr}{tn:Nat->Heap->Prop}{Q:VK}
  (hc:X.calm=true) (S:cY X scope N fr) (B:l6 X scope N tg ifs elt s H g tc te) (I:a6 X pins σ H s) (T:gP X.prog X.w X.K tg J fp it tn) (hst:tn 0 s.heap) (hf:∀ b ∈ fp,fS X pins H b)
  (h:∀ D,H D=none->∃ W:Nat->Nat->List V->Hp->Prop,(∃ m,W 0 m [] (upd H D (.lst [])))/\p5 g tc te (dR fr σ) J D Q W)
  (hend:∀ (D C:Addr) (s':Shared) (H':Hp) (m:Str->Option Value),s.heap.objs.size<=C->s.heap.objs.size<=D->a6 X pins σ H' s'->s'.heap.Ns C m->H' C=none->Q (.ref D) H'->Rr (.ref D) C (.ok .next) s') :
  wpAny (model X.prog X.w) X.A (newList []) (fun acc s₃=>wpAny (model X.prog X.w) X.A (newFunctionEnv scope X.env.globals (e9 X.env.cells scope.names []) [] X.env.qual none .none (some X.env)) (fun cenv s₄=>
   codeAny (model X.prog X.w) X.A (.compStart (.ListComp elt [⟨tg,iter,ifs,0⟩] scope pos) 0 (.ref it) acc { cenv with scope:=relabel scope X.env }) (Rr acc cenv.locals) s₄) X.xe s₃) X.xe s:=by
 refine be8 (aq0 (fun h₁ hns₁ keep₁ hco₁=>?_))
 dsimp only at hns₁ keep₁ hco₁ ⊢
 generalize hH2:s.heap.push { cls:=.type "list",dict:=none,data:=.seq ([]:List Value).toArray }=H2 at hns₁ keep₁ hco₁ ⊢
 have hC:H2.objs.size=s.heap.objs.size+1:=by rw [<- hH2,bl3]
 have hDC:s.heap.objs.size < H2.objs.size:=by rw [hC]; exact Nat.lt_succ_self _
 have hCle:s.heap.objs.size<=H2.objs.size:=by rw [hC]; exact bq7 _
 have old:∀ b o,s.heap.get? b=some o->h₁.get? b=some o:=fun b o e=>keep₁ b o (hH2 ▸ bb1 _ e)
 have hacc:h₁.get? s.heap.objs.size=some { cls:=.type "list",data:=.seq #[] 0 }:=keep₁ _ _ (hH2 ▸ bb9 _ rfl)
 have hfl:∀ b ∈ fp,b < s.heap.objs.size:=fun b hb=>by obtain ⟨o,e,_⟩:=T.obj _ _ hst b hb; exact bc7 e
 obtain ⟨W,⟨m0,w0⟩,turn⟩:=h s.heap.objs.size (I.hok.fresh (bb6 _))
 have st1:tn 0 h₁:=T.keep _ _ _ hst fun b _ o e=>old b o e
 have fr0:∀ b ∈ fp,upd H s.heap.objs.size (.lst []) b=none:=fun b hb=>by rw [aH (be3 (hfl b hb))]; exact (hf b hb).1
 have stat:∀ {H':Hp},(∀ b ∈ fp,H' b=none)->∀ b ∈ fp,fS (bF X scope N s H H2.objs.size fp fun _ _=>False) [] H' b:=fun {H'} hn b hb=>by
  have f:=hf b hb
  refine⟨hn b hb,be3 (bd0 (hfl b hb) hCle),fun z=>?_,.inl hb,fun x c e=>(kC e).elim (fun z=>bi2 (Nat.lt_trans (bd0 (hfl b hb) hCle) (hco₁.empty x c z).2)) fun z=>f.2.2.2.2.1 x c (oW scope.names [] (S.cells I) (fun _ _ z=>by simp at z) z.2),fun p hp=>absurd (show p ∈ ([]:List (Addr × Obj)) from hp) (by simp)⟩
  rcases bb8.mp (I.stkSub b z) with e | e
  ·exact f.2.1 e
  ·exact f.2.2.1 e
 generalize hX:bF X scope N s H H2.objs.size fp (fun _ _=>False)=Y at stat
 have I0:a6 Y [] (dR fr σ) (upd H s.heap.objs.size (.lst [])) { s with heap:=h₁ }:=hX ▸ ap7 S I hf hfl (bb6 _) hCle hDC old hns₁ hacc hco₁
 have bt:PG Y tg g:=hX ▸ B.tg H2.objs.size fp
 have bi:jN Y ifs tc:=hX ▸ B.ifs H2.objs.size fp
 have be:PE Y elt te:=hX ▸ B.elt H2.objs.size fp
 have eP:Y.prog=X.prog:=by rw [<- hX]; rfl
 have ew:Y.w=X.w:=by rw [<- hX]; rfl
 have eK:Y.K=X.K:=by rw [<- hX]; rfl
 have eA:Y.A=X.A:=by rw [<- hX]; rfl
 have eE:Y.env=compEnvC scope (gE X scope H2.objs.size) H2.objs.size X.env:=by rw [<- hX]; rfl
 have eX:Y.xe=fun _ _=>False:=by rw [<- hX]; rfl
 have ec:Y.calm=true:=by rw [<- hX]; exact hc
 have never:∀ {E:Value->Shared->Prop} (e:Value) (s':Shared),Y.xe e s'->E e s':=fun {E} e s' z=>by rw [eX] at z; exact z.elim
 have out:∀ {pins' σ' H' s'},a6 Y pins' σ' H' s'->a6 X pins σ H' s':=fun {_ _ _ _} I'=>aq1 (C:=H2.objs.size) (E:=fun _ _=>False) (scope:=scope) (N:=N) I hf (hX ▸ I')
 have loop:codeAny (model X.prog X.w) X.A (.compLoop (.ListComp elt [⟨tg,iter,ifs,0⟩] scope pos) 0 (.ref it) (.ref s.heap.objs.size) (compEnvC scope (gE X scope H2.objs.size) H2.objs.size X.env))
   (Rr (.ref s.heap.objs.size) H2.objs.size) { s with heap:=h₁ }:=by
  refine ap8 (fun n s'=>∃ i acc H',a6 Y [] (dR fr σ) H' s'/\tn i s'.heap/\(∀ b ∈ fp,H' b=none)/\W i n acc H') ?_ m0 ⟨0,[],_,I0,st1,fr0,w0⟩
  rintro n s3 ⟨i,acc,H3,I3,st3,fr3,w3⟩
  unfold tY
  dsimp only
  obtain ⟨hD3,step⟩:=turn i n acc H3 w3
  rcases step with ⟨stop,qn⟩ | ⟨go,step⟩
  ·have z:=T.done Y eP ew eK ec i [] s3 _ H3 (notedBy (model X.prog X.w) X.A (compEnvC scope (gE X scope H2.objs.size) H2.objs.size X.env) fun e s'=>Rr (.ref s.heap.objs.size) H2.objs.size (.error e) s') I3 (stat fr3) st3 stop
   rw [eA] at z
   refine aN z fun r s4 ⟨hr,I4⟩=>?_
   subst hr
   obtain ⟨m4,hn4,_⟩:=I4.loc
   rw [eE] at hn4
   have f4:=I4.free
   rw [eE] at f4
   exact hend _ _ s4 H3 m4 hCle (bb6 _) (out I4) hn4 f4 qn
  ·have z:=T.item Y eP ew eK ec i [] s3 _ H3 (notedBy (model X.prog X.w) X.A (compEnvC scope (gE X scope H2.objs.size) H2.objs.size X.env) fun e s'=>Rr (.ref s.heap.objs.size) H2.objs.size (.error e) s') I3 (stat fr3) st3 go
   rw [eA] at z
   refine aN z fun r s4 ⟨u,hr,h4⟩=>?_
   subst hr
   refine aN h4 fun _ s5 ⟨x,H5,I5,r5,y5,st5,fr5⟩=>?_
   have I5':=I5.pinned (stat fr5) (T.obj _ _ st5)
   have q1:=bt _ s5 _ H5 x u _ I5' r5 (step x H5 y5)
   rw [eP,ew,eA,eE] at q1
   refine bj6 q1 (fun _ s6 ⟨σ6,H6,I6,wk,q6⟩=>?_) never
   have q2:=bi _ s6 σ6 H6 _ I6 q6
   rw [eP,ew,eA,eE] at q2
   refine bj6 q2 (fun b s7 ⟨H7,I7,q7⟩=>?_) never
   have again:∀ {H8:Hp}{s8:Shared}{acc':List V},a6 Y ([] ++ mK fp s5.heap) σ6 H8 s8->(∃ m',m' < n/\W (i+1) m' acc' H8)->∃ m,m < n/\∃ i acc H',a6 Y [] (dR fr σ) H' s8/\tn i s8.heap/\(∀ b ∈ fp,H' b=none)/\W i m acc H':=fun {H8 s8 acc'} I8 n8=>by
    obtain ⟨m',hm,w8⟩:=n8
    refine⟨m',hm,i+1,acc',H8,(I8.unpinned).weak wk.1 wk.2,T.keep _ _ _ st5 fun b hb o e=>(I8.pin (b,o) (bf7 _ (bf7 _ (oQ hb e)))).1,fun b hb=>?_,w8⟩
    obtain ⟨o,e,d⟩:=T.obj _ _ st5 b hb
    exact (I8.pin (b,o) (bf7 _ (bf7 _ (oQ hb e)))).2.1
   cases b with
   | false=>
    rw [if_neg bd4] at q7 ⊢
    exact again I7 q7
   | true=>
    rw [if_pos rfl] at q7 ⊢
    have q3:=be _ s7 σ6 H7 _ I7 q7
    rw [eP,ew,eA,eE] at q3
    refine bj6 q3 (fun v s8 ⟨y,H8,I8,r8,hD8,hz8,q8⟩=>?_) never
    have q4:=mS _ s8 σ6 H8 (.ref s.heap.objs.size) [y] (.ref s.heap.objs.size) [v] (fun _ H9=>∃ m',m' < n/\W (i+1) m' (acc ++ [y]) H9) I8 rfl (.cons r8 .nil) ⟨_,_,_,rfl,rfl,hD8,hz8,q8⟩
    rw [eP,ew,eA] at q4
    exact bj6 q4 (fun _ s9 ⟨_,H9,I9,_,q9⟩=>again I9 q9) never
 exact codeAny_compStart_list loop (T.self _ 0 _ _ _ st1 loop)
end
section
variable {X : Cx} {scope : Scope} {N : List Str} {fr : List (Option Nat)} {tg iter elt : Expr} {ifs : List Expr} {pos : Pos} {wi : TI} {g : TG} {tc : TT} {te : TE}
theorem a6.drop {pins:List (Addr × Obj)}{σ:St}{H H':Hp}{s s':Shared}{C:Addr}{h':Heap} (I0:a6 X pins σ H s) (hC:s.heap.objs.size<=C) {σ':St} (I:a6 X pins σ' H' s') (hn:H' C=none) (sb:Heap.SameBut C s'.heap h'):a6 X pins σ' H' { s' with heap:=h' }:=by
 refine I.turned (t':=s'.toks) (it:=C) (fun b o hb e=>(sb.2 b hb).trans e) hn (bi2 (bd0 I0.lt hC)) (.inr (bf6 I0.sz hC)) (fun x c e z=>?_) fun p hp z=>?_
 ·obtain ⟨v,q⟩:=I0.cell x c e
  exact absurd (bd0 q.lt (by rw [z]; exact hC)) (bg0 _)
 ·exact absurd (bd0 (bc7 (I0.pin p hp).1) (by rw [z]; exact hC)) (bg0 _)
theorem aq2 {i:Nat}{x:Str}{px spos:Pos} (hc:X.calm=true) (S:cY X scope N fr) (hi:PI X tg iter wi) (B:tZ X scope N tg ifs elt g tc te) (hN:X.N.Nodup) (hix:X.N[i]? = some x) (hx:X.env.scope.names.lookup x=some .local)
  (hsw:swapsWith (.ListComp elt [⟨tg,iter,ifs,0⟩] scope pos) (some (.Name x px)) spos.line X.env=pure true) (hs:∀ x,foldedSetIterable iter X.env x=pure x:=by intro _; rfl) :
  PS X (.Assign [.Name x px] (.ListComp elt [⟨tg,iter,ifs,0⟩] scope pos) spos) (iS (ap9 wi fr g tc te) (cX i)):=by
 intro pins s σ H D I h
 rw [exec_Assign_Name_used _ _ _ _ hsw]
 refine ba9 (wpAny_standAt (ba9 ?_))
 show wpAny _ _ (do let _ <- comprehension (.ListComp elt [⟨tg,iter,ifs,0⟩] scope pos) scope X.env _ (newList []) false (eval iter X.env) (some (assign (.Name x px) X.env))) _ _ s
 refine ba9 (bj6 (wpAny_comprehension_free (Q:=fun _ s'=>SP X pins D .next s') (use:=some (assign (.Name x px) X.env)) rfl hs (tT (S.cells I)) S.kind S.names (aN (hi pins s σ H _ I h) fun v s1 h1=>aN h1 fun itv s2 h2=>?_))
  (fun _ s' hq=>bb3 (bb3 hq)) fun _ _ e=>e)
 obtain ⟨it,fp,tn,J,H2,e,I2,T,st2,f2,hW⟩:=h2
 subst e
 refine u5 (Rr:=fun acc C=>compPost (model X.prog X.w) X.A X.xe (some (assign (.Name x px) X.env)) (fun _ s'=>SP X pins D .next s') acc C) hc S (B.at _ _) I2 T st2 f2 hW ?_
 intro D' C s' H' m hC hD I' hns hHC q
 refine wpAny_assign_Name (sJ I' hN hix (.inl hx) (v:=.ref D') rfl (fun s'' I'' sb=>?_) (.inr hx))
 obtain ⟨a,sb,ha⟩:=sb
 have hCa:C ≠ a:=by
  rcases ha with z | z
  ·rw [z]; exact bi2 (bd0 I2.lt hC)
  ·intro e; subst e
   obtain ⟨v,q⟩:=I2.cell x _ z
   exact absurd (bd0 q.lt hC) (bg0 _)
 exact⟨m,hns.sameBut sb hCa,fun h' sb'=>⟨_,H',I2.drop hC I'' hHC sb',q⟩⟩
variable {gh : Hp → TG} {tch : Hp → TT} {teh : Hp → TE}
def p6 (wi:TI) (fr:List (Option Nat)) (gh:Hp->TG) (tch:Hp->TT) (teh:Hp->TE):TE:=fun σ H Q=>wi σ H fun J H1=>∀ D,H1 D=none->
 ∃ W:Nat->Nat->List V->Hp->Prop,(∃ m,W 0 m [] (upd H1 D (.lst [])))/\p5 (gh H1) (tch H1) (teh H1) (dR fr σ) J D Q W
theorem u6 (hc:X.calm=true) (S:cY X scope N fr) (hi:PI X tg iter wi) (B:∀ (s:Shared) (H:Hp),l6 X scope N tg ifs elt s H (gh H) (tch H) (teh H))
  (hs:∀ x,foldedSetIterable iter X.env x=pure x:=by intro _; rfl):PE X (.ListComp elt [⟨tg,iter,ifs,0⟩] scope pos) (p6 wi fr gh tch teh):=by
 intro pins s σ H Q I h
 rw [eval_ListComp]
 refine wpAny_comprehension_free (use:=none) rfl hs (tT (S.cells I)) S.kind S.names (aN (hi pins s σ H _ I h) fun v s1 h1=>aN h1 fun itv s2 h2=>?_)
 obtain ⟨it,fp,tn,J,H2,e,I2,T,st2,f2,hW⟩:=h2
 subst e
 refine u5 (Rr:=fun acc C=>compPost (model X.prog X.w) X.A X.xe none (EP X pins σ Q) acc C) hc S (B _ _) I2 T st2 f2 hW ?_
 intro D C s' H' m hC hD I' hns hHC q
 exact⟨m,hns,fun h' sb=>⟨.ref D,H',I2.drop hC I' hHC sb,rfl,q⟩⟩
theorem u7 {i:Nat}{x:Str}{px spos:Pos} (hc:X.calm=true) (S:cY X scope N fr) (hi:PI X tg iter wi) (B:∀ (s:Shared) (H:Hp),l6 X scope N tg ifs elt s H (gh H) (tch H) (teh H)) (hN:X.N.Nodup) (hix:X.N[i]? = some x) (hx:X.env.scope.names.lookup x=some .local)
  (hsw:swapsWith (.ListComp elt [⟨tg,iter,ifs,0⟩] scope pos) (some (.Name x px)) spos.line X.env=pure true) (hs:∀ x,foldedSetIterable iter X.env x=pure x:=by intro _; rfl) :
  PS X (.Assign [.Name x px] (.ListComp elt [⟨tg,iter,ifs,0⟩] scope pos) spos) (iS (p6 wi fr gh tch teh) (cX i)):=by
 intro pins s σ H D I h
 rw [exec_Assign_Name_used _ _ _ _ hsw]
 refine ba9 (wpAny_standAt (ba9 ?_))
 show wpAny _ _ (do let _ <- comprehension (.ListComp elt [⟨tg,iter,ifs,0⟩] scope pos) scope X.env _ (newList []) false (eval iter X.env) (some (assign (.Name x px) X.env))) _ _ s
 refine ba9 (bj6 (wpAny_comprehension_free (Q:=fun _ s'=>SP X pins D .next s') (use:=some (assign (.Name x px) X.env)) rfl hs (tT (S.cells I)) S.kind S.names (aN (hi pins s σ H _ I h) fun v s1 h1=>aN h1 fun itv s2 h2=>?_))
  (fun _ s' hq=>bb3 (bb3 hq)) fun _ _ e=>e)
 obtain ⟨it,fp,tn,J,H2,e,I2,T,st2,f2,hW⟩:=h2
 subst e
 refine u5 (Rr:=fun acc C=>compPost (model X.prog X.w) X.A X.xe (some (assign (.Name x px) X.env)) (fun _ s'=>SP X pins D .next s') acc C) hc S (B _ _) I2 T st2 f2 hW ?_
 intro D' C s' H' m hC hD I' hns hHC q
 refine wpAny_assign_Name (sJ I' hN hix (.inl hx) (v:=.ref D') rfl (fun s'' I'' sb=>?_) (.inr hx))
 obtain ⟨a,sb,ha⟩:=sb
 have hCa:C ≠ a:=by
  rcases ha with z | z
  ·rw [z]; exact bi2 (bd0 I2.lt hC)
  ·intro e; subst e
   obtain ⟨v,q⟩:=I2.cell x _ z
   exact absurd (bd0 q.lt hC) (bg0 _)
 exact⟨m,hns.sameBut sb hCa,fun h' sb'=>⟨_,H',I2.drop hC I'' hHC sb',q⟩⟩
end
theorem b9 {H:Hp}{p:Addr} (h:H p=none) (o:HO):aD H (upd H p o):=fun b u q=>by rw [aH (cA q h)]; exact q
theorem aD.tup {K:PySem.W.Frag}{H H':Hp}{a:Addr}{xs:List V} (e:aD H H') (h:aI K H a xs):aI K H' a xs:=by
 rcases h with (h | ⟨o,h⟩) | h
 ·exact .inl (.inl (e _ _ h))
 ·exact .inl (.inr ⟨o,e _ _ h⟩)
 ·exact .inr h
structure B6 (H:Hp) (J:It) (xs:List V):Prop where
 go:∀ i H',aD H H'->i < xs.length->J.go i H'
 yld:∀ i H' x H2,aD H H'->J.yld i H' x H2->i < xs.length->xs[i]? = some x/\H2=H'
 stop:∀ H',aD H H'->J.stop xs.length H'
theorem aq3 {K:PySem.W.Frag}{H:Hp}{a:Addr}{xs:List V} (h:aI K H a xs):B6 H (jK K a) xs:=
 ⟨fun i H' e hi=>⟨xs,xs[i],e.tup h,by simp [hi]⟩,fun i H' x H2 e y hi=>⟨y.2 xs (e.tup h),y.1⟩,fun H' e=>⟨xs,e.tup h,bb6 _⟩⟩
def j4 (lo:Int) (n:Nat):List V:=(List.range n).map fun (i:Nat)=>V.int (lo+(i:Int))
theorem u8 (lo:Int) (n:Nat):(j4 lo n).length=n:=by unfold j4; rw [bb4,bk9]
def CW (H1:Hp) (D:Addr) (n:Nat) (Pv:Nat->List V->Hp->Prop):Nat->Nat->List V->Hp->Prop:=fun i m acc H'=>m=n - i/\i<=n/\acc.length<=i/\aD H1 H'/\H' D=some (.lst acc)/\Pv i acc H'
def B7 (H1:Hp) (D:Addr) (n:Nat) (Pv:Nat->List V->Hp->Prop) (i:Nat) (acc:List V) (v:V) (H5:Hp):Prop:=H5 D=some (.lst acc)/\acc.length < sizeLine/\∃ m',m' < n - i/\CW H1 D n Pv (i+1) m' (acc ++ [v]) (upd H5 D (.lst (acc ++ [v])))
def CNo (H1:Hp) (D:Addr) (n:Nat) (Pv:Nat->List V->Hp->Prop) (i:Nat) (acc:List V) (H4:Hp):Prop:=∃ m',m' < n - i/\CW H1 D n Pv (i+1) m' acc H4
structure u9 (H1:Hp) (D:Addr) (n i:Nat) (acc:List V) (H':Hp):Prop where
 lt:i < n
 few:acc.length<=i
 sz:n<=sizeLine
 same:aD H1 H'
 new:H1 D=none
 acc:H' D=some (.lst acc)
theorem u9.yes {H1:Hp}{D:Addr}{n i:Nat}{acc:List V}{H' H5:Hp}{Pv:Nat->List V->Hp->Prop}{v:V} (c:u9 H1 D n i acc H') (s:aD H' H5) (p:Pv (i+1) (acc ++ [v]) (upd H5 D (.lst (acc ++ [v])))):B7 H1 D n Pv i acc v H5:=by
 refine⟨s _ _ c.acc,Nat.lt_of_le_of_lt c.few (bd0 c.lt c.sz),_,?_,rfl,c.lt,?_,fun b o e=>?_,aW,p⟩
 ·have:=c.lt; omega
 ·rw [bc4,bk7]; exact Nat.succ_le_succ c.few
 ·rw [aH (cA e c.new)]; exact s _ _ (c.same _ _ e)
theorem aq4 {H1:Hp}{J:It}{xs:List V}{g:TG}{tc:TT}{te:TE}{σ0:St}{Q:VK} (O:B6 H1 J xs) (Pv:Nat->List V->Hp->Prop) (hn:xs.length<=sizeLine)
  (h0:∀ D,H1 D=none->Pv 0 [] (upd H1 D (.lst [])))
  (hs:∀ i x acc D H',xs[i]? = some x->u9 H1 D xs.length i acc H'->Pv i acc H'->g x σ0 H' fun σ2 H3=>Wk σ0 σ2/\tc σ2 H3 fun b H4=>
   if b=true then te σ2 H4 fun v H5=>B7 H1 D xs.length Pv i acc v H5 else CNo H1 D xs.length Pv i acc H4)
  (hd:∀ D acc H',H1 D=none->aD H1 H'->H' D=some (.lst acc)->acc.length<=xs.length->Pv xs.length acc H'->Q (.ref D) H') :
  ∀ D,H1 D=none->∃ W:Nat->Nat->List V->Hp->Prop,(∃ m,W 0 m [] (upd H1 D (.lst [])))/\p5 g tc te σ0 J D Q W:=by
 intro D hD
 refine⟨CW H1 D xs.length Pv,⟨xs.length,rfl,bf1 _,bb6 _,b9 hD _,aW,h0 D hD⟩,?_⟩
 rintro i m acc H' ⟨rfl,hi,ha,sm,hDa,p⟩
 refine⟨hDa,?_⟩
 by_cases hlt:i < xs.length
 ·refine .inr ⟨O.go i H' sm hlt,fun x H2 y=>?_⟩
  obtain ⟨hx,e⟩:=O.yld i H' x H2 sm y hlt
  subst e
  exact hs i x acc D H2 hx ⟨hlt,ha,hn,sm,hD,hDa⟩ p
 ·have e:i=xs.length:=by omega
  subst e
  exact .inl ⟨O.stop H' sm,hd D acc H' hD sm hDa ha p⟩
end L2
namespace Srt
open PySem PySem.W PyProof.Rows
abbrev G (p:Array Nat) (i:Nat):Nat:=p.getD i 0
theorem mX {p q:Array Nat}{i j:Nat} (h:p[i]? = q[j]?):G p i=G q j:=by
 unfold G; rw [bm6,bm6,h]
theorem uA {p:Array Nat}{i j:Nat} (hj:j<=p.size) (k:Nat):G (kas_rev p i j) k=if i<=k/\k < j then G p (i+j - 1 - k) else G p k:=by
 have e:=getElem?_mirror_all (i:=i) hj k
 unfold kas_rev
 by_cases h1:i<=k/\k < j
 ·rw [if_pos h1] at e ⊢; exact mX e
 ·rw [if_neg h1] at e ⊢; exact mX e
theorem aq5 {p:Array Nat}{src d:Nat} (hs:src < p.size) (hd:d<=src) (k:Nat):G (bubble p src d) k=if k=src - d then G p src else if src - d < k/\k<=src then G p (k - 1) else G p k:=by
 have e:=getElem?_bubble hs d hd k
 by_cases h1:k=src - d
 ·rw [if_pos h1] at e ⊢; exact mX e
 ·rw [if_neg h1] at e ⊢
  by_cases h2:src - d < k/\k<=src
  ·rw [if_pos h2] at e ⊢; exact mX e
  ·rw [if_neg h2] at e ⊢; exact mX e
def PP (n:Nat) (p:Array Nat):Prop:=p.toList.Perm (List.range n)
theorem PP.size {n:Nat}{p:Array Nat} (h:PP n p):p.size=n:=by
 have:=h.length_eq
 rw [bk9] at this
 simpa using this
theorem PP.lt {n:Nat}{p:Array Nat} (h:PP n p) {k:Nat} (hk:k < n):G p k < n:=by
 have hs:=h.size
 have hk':k < p.toList.length:=by simpa [hs] using hk
 have e:G p k=p.toList[k]:=by
  unfold G; rw [bm6]; simp [hs,hk]
 have m:p.toList[k] ∈ p.toList:=bh0 hk'
 rw [e]
 exact bo3.mp (h.mem_iff.mp m)
theorem PP.of {n:Nat}{p q:Array Nat} (h:PP n p) (e:q.Perm p):PP n q:=(Array.perm_iff_toList_perm.mp e).trans h
theorem PP.rev {n:Nat}{p:Array Nat} (h:PP n p) (i j:Nat):PP n (kas_rev p i j):=h.of (mirror_perm _ _ _ _)
theorem PP.bub {n:Nat}{p:Array Nat} (h:PP n p) (i j:Nat):PP n (bubble p i j):=h.of (bubble_perm _ _ _)
structure uB (c:Nat->Nat->Bool):Prop where
 asym:∀ {i j},c i j=true->c j i=false
 ntr:∀ {i j k},c i j=false->c j k=false->c i k=false
section
variable {c : Nat → Nat → Bool} (O : uB c)
def Le (c:Nat->Nat->Bool) (i j:Nat):Prop:=c j i=false
include O
theorem le_refl (i:Nat):Le c i i:=by
 unfold Le
 cases h:c i i with
 | false=>rfl
 | true=>have:=O.asym h; rw [h] at this; exact this
theorem le_trans {i j k:Nat} (h1:Le c i j) (h2:Le c j k):Le c i k:=O.ntr h2 h1
theorem p9 {i j:Nat} (h:c i j=true):Le c i j:=O.asym h
omit O
def fH (c:Nat->Nat->Bool) (p:Array Nat) (n:Nat):Prop:=∀ a b,a<=b->b < n->Le c (G p a) (G p b)
def jO (c:Nat->Nat->Bool) (p:Array Nat) (n:Nat):Prop:=∀ a b,a<=b->b < n->Le c (G p b) (G p a)
include O
theorem aq6 {p:Array Nat}{n:Nat} (h:fH c p n) (h1:1<=n) (hl:Le c (G p (n - 1)) (G p n)):fH c p (n+1):=fun a b hab hb=>by
 by_cases hbn:b < n
 ·exact h a b hab hbn
 ·have e:b=n:=by omega
  subst e
  by_cases han:a=b
  ·subst han; exact le_refl O _
  ·exact le_trans O (h a (b - 1) (by omega) (by omega)) hl
theorem pA {p:Array Nat}{n:Nat} (h:jO c p n) (h1:1<=n) (hl:Le c (G p n) (G p (n - 1))):jO c p (n+1):=fun a b hab hb=>by
 by_cases hbn:b < n
 ·exact h a b hab hbn
 ·have e:b=n:=by omega
  subst e
  by_cases han:a=b
  ·subst han; exact le_refl O _
  ·exact le_trans O hl (h a (b - 1) (by omega) (by omega))
omit O
def bZ {α:Type} (n:Nat) (c:Nat->Nat->Bool) (R:α->Prop):KasT α->Prop
 | .ret a=>R a
 | .ask i j k=>i < n/\j < n/\bZ n c R (k (c i j))
theorem bZ.mono {α:Type}{n:Nat}{R R':α->Prop} (h:∀ a,R a->R' a):∀ (t:KasT α),bZ n c R t->bZ n c R' t
 | .ret a,q=>h a q
 | .ask i j k,q=>⟨q.1,q.2.1,bZ.mono h (k (c i j)) q.2.2⟩
theorem bZ.bind {α β:Type}{n:Nat}{R:α->Prop}{R':β->Prop}{f:α->KasT β} (h:∀ a,R a->bZ n c R' (f a)):∀ (t:KasT α),bZ n c R t->bZ n c R' (t.bind f)
 | .ret a,q=>h a q
 | .ask i j k,q=>⟨q.1,q.2.1,bZ.bind h (k (c i j)) q.2.2⟩
theorem bZ.run {α:Type}{n:Nat}{R:α->Prop}{I:Shared->Prop}{cmp:Nat->Nat->(Bool->Shared->Prop)->Shared->Prop}{Q:α->Shared->Prop}
  (hc:∀ i j C s,i < n->j < n->I s->(∀ s',I s'->C (c i j) s')->cmp i j C s) (hQ:∀ a s,R a->I s->Q a s):∀ (t:KasT α) (s:Shared),I s->bZ n c R t->t.kasWp cmp Q s
 | .ret a,s,hI,q=>hQ a s q hI
 | .ask i j k,s,hI,q=>hc i j _ s q.1 q.2.1 hI fun s' hI'=>bZ.run hc hQ (k (c i j)) s' hI' q.2.2
include O
theorem uC {n:Nat}{p:Array Nat} (hp:PP n p):∀ (f m:Nat),1<=m->m+f<=n->fH c p m->bZ n c (fun r=>m<=r/\r<=m+f/\fH c p r/\(r < m+f->c (G p r) (G p (r - 1))=true)) (kas_asc p f m)
 | 0,m,_,_,h=>⟨bb6 _,bb6 _,h,fun z=>absurd z (bg0 _)⟩
 | f+1,m,h1,h2,h=>by
  refine⟨hp.lt (by omega),hp.lt (by omega),?_⟩
  by_cases hc:c (p.getD m 0) (p.getD (m - 1) 0)=true
  ·simp only [hc,if_true]
   exact⟨bb6 _,by omega,h,fun _=>hc⟩
  ·have hc':c (p.getD m 0) (p.getD (m - 1) 0)=false:=bo6.mpr hc
   simp only [hc',bd5,bh5]
   refine bZ.mono (fun r q=>⟨by omega,by omega,q.2.2.1,fun z=>q.2.2.2 (by omega)⟩) _ (uC hp f (m+1) (by omega) (by omega) (aq6 O h h1 hc'))
omit O
def kD (c:Nat->Nat->Bool) (i j:Nat):Prop:=Le c i j/\Le c j i
include O
theorem uD {p q:Array Nat}{n:Nat} (h:jO c p n) (e:∀ k,k < n->kD c (G q k) (G p k)):jO c q n:=fun a b hab hb=>
 le_trans O (e b hb).1 (le_trans O (h a b hab hb) (e a (by omega)).2)
theorem B8 {n m i:Nat}{p:Array Nat} (hp:PP n p) (hm:m<=n) (h:∀ a,i<=a->a < m->kD c (G p a) (G p (m - 1))):∀ k,kD c (G (kas_rev p i m) k) (G p k):=fun k=>by
 rw [uA (by rw [hp.size]; exact hm)]
 by_cases hk:i<=k/\k < m
 ·rw [if_pos hk]
  have h1:=h (i+m - 1 - k) (by omega) (by omega)
  have h2:=h k hk.1 hk.2
  exact⟨le_trans O h1.1 h2.2,le_trans O h2.1 h1.2⟩
 ·rw [if_neg hk]; exact⟨le_refl O _,le_refl O _⟩
omit O
def DI (c:Nat->Nat->Bool) (n:Nat) (p:Array Nat) (m q:Nat):Prop:=PP n p/\1<=m/\m<=n/\jO c p m/\q+1<=m/\∀ a,m - (q+1)<=a->a < m->kD c (G p a) (G p (m - 1))
include O
theorem B9 {n m q:Nat}{p:Array Nat} (h:DI c n p m q):PP n (kas_rev p (m - (q+1)) m)/\∀ k,kD c (G (kas_rev p (m - (q+1)) m) k) (G p k):=
 ⟨h.1.rev _ _,B8 O h.1 h.2.2.1 h.2.2.2.2.2⟩
theorem pC {n:Nat}:∀ (f:Nat) (p:Array Nat) (m q:Nat),m+f<=n->DI c n p m q->bZ n c (fun r=>DI c n r.1 r.2.1 r.2.2) (kas_desc f p m q)
 | 0,p,m,q,_,h=>h
 | f+1,p,m,q,hf,h=>by
  have hp:=h.1
  have h1:=h.2.1
  refine⟨hp.lt (by omega),hp.lt (by omega),?_⟩
  by_cases hc:c (p.getD m 0) (p.getD (m - 1) 0)=true
  ·simp only [hc,if_true]
   have dn:jO c p (m+1):=pA O h.2.2.2.1 h1 (p9 O hc)
   by_cases hq:q > 0
   ·simp only [hq,if_true]
    obtain ⟨pr,er⟩:=B9 O h
    refine pC f _ (m+1) 0 (by omega) ⟨pr,by omega,by omega,uD O dn fun k _=>er k,by omega,fun a h1 h2=>?_⟩
    have e:a=m+1 - 1:=by omega
    rw [e]; exact⟨le_refl O _,le_refl O _⟩
   ·simp only [hq,bh5]
    refine pC f p (m+1) 0 (by omega) ⟨hp,by omega,by omega,dn,by omega,fun a h1 h2=>?_⟩
    have e:a=m+1 - 1:=by omega
    rw [e]; exact⟨le_refl O _,le_refl O _⟩
  ·have hc':c (p.getD m 0) (p.getD (m - 1) 0)=false:=bo6.mpr hc
   simp only [hc',bd5,bh5]
   refine⟨hp.lt (by omega),hp.lt (by omega),?_⟩
   by_cases hd:c (p.getD (m - 1) 0) (p.getD m 0)=true
   ·simp only [hd,if_true]
    exact h
   ·have hd':c (p.getD (m - 1) 0) (p.getD m 0)=false:=bo6.mpr hd
    simp only [hd',bd5,bh5]
    have ee:kD c (G p (m - 1)) (G p m):=⟨hc',hd'⟩
    refine pC f p (m+1) (q+1) (by omega) ⟨hp,by omega,by omega,pA O h.2.2.2.1 h1 ee.2,by have:=h.2.2.2.2.1; omega,fun a h1 h2=>?_⟩
    rw [Nat.add_sub_cancel]
    by_cases ha:a=m
    ·rw [ha]; exact⟨le_refl O _,le_refl O _⟩
    ·have z:=h.2.2.2.2.2 a (by omega) (by omega)
     exact⟨le_trans O z.1 ee.1,le_trans O ee.2 z.2⟩
omit O
def CI (c:Nat->Nat->Bool) (n:Nat) (r:Nat × Array Nat):Prop:=PP n r.2/\1<=r.1/\r.1<=n/\fH c r.2 r.1
include O
theorem C0 {n m:Nat}{p:Array Nat} (hp:PP n p) (h1:1<=m) (hm:m<=n) (h:jO c p m):bZ n c (CI c n) (kas_tail3 m n p):=by
 have ha:fH c (kas_rev p 0 m) m:=fun a b hab hb=>by
  rw [uA (by rw [hp.size]; exact hm),uA (by rw [hp.size]; exact hm),if_pos ⟨bf1 _,by omega⟩,if_pos ⟨bf1 _,hb⟩]
  exact h _ _ (by omega) (by omega)
 refine bZ.bind (R:=fun r=>m<=r/\r<=m+(n - m)/\fH c (kas_rev p 0 m) r/\_) (fun r q=>?_) _ (uC O (hp.rev 0 m) (n - m) m h1 (by omega) ha)
 exact⟨hp.rev _ _,by have:=q.1; omega,by have:=q.2.1; omega,q.2.2.1⟩
theorem C1 {n m:Nat}{p:Array Nat} (hp:PP n p) (h1:1<=m) (hm:m+1<=n) (h:jO c p (m+1)):bZ n c (CI c n) (kas_descPart m n p):=by
 refine bZ.bind (R:=fun r=>DI c n r.1 r.2.1 r.2.2) (fun r q=>?_) _ (pC O (n - (m+1)) p (m+1) 0 (by omega) ⟨hp,by omega,hm,h,by omega,fun a h1 h2=>?_⟩)
 ·by_cases hq:r.2.2 > 0
  ·rw [if_pos hq]
   obtain ⟨pr,er⟩:=B9 O q
   exact C0 O pr q.2.1 q.2.2.1 (uD O q.2.2.2.1 fun k _=>er k)
  ·rw [if_neg hq]
   exact C0 O q.1 q.2.1 q.2.2.1 q.2.2.2.1
 ·have e:a=m+1 - 1:=by omega
  rw [e]; exact⟨le_refl O _,le_refl O _⟩
theorem aq7 {n:Nat}{p:Array Nat} (hp:PP n p) (hn:1<=n):bZ n c (CI c n) (kas_count n p):=by
 have a1:fH c p 1:=fun a b hab hb=>by
  have e1:a=0:=by omega
  have e2:b=0:=by omega
  rw [e1,e2]; exact le_refl O _
 refine bZ.bind (R:=fun r=>1<=r/\r<=1+(n - 1)/\fH c p r/\(r < 1+(n - 1)->c (G p r) (G p (r - 1))=true)) (fun m q=>?_) _ (uC O hp (n - 1) 1 (bb6 _) (by omega) a1)
 obtain ⟨q1,q2,q3,q4⟩:=q
 by_cases hm:(m == n)=true
 ·rw [if_pos hm]
  exact⟨hp,q1,by omega,q3⟩
 ·rw [if_neg hm]
  have hne:m ≠ n:=by simpa using hm
  have hc:=q4 (by omega)
  by_cases h1:m > 1
  ·rw [if_pos h1]
   refine⟨hp.lt (by omega),hp.lt (by omega),?_⟩
   by_cases hd:c (p.getD 0 0) (p.getD (m - 1) 0)=true
   ·simp only [hd,if_true]
    exact⟨hp,q1,by omega,q3⟩
   ·have hd':c (p.getD 0 0) (p.getD (m - 1) 0)=false:=bo6.mpr hd
    simp only [hd',bd5,bh5]
    have eq:∀ a,0<=a->a < m->kD c (G p a) (G p (m - 1)):=fun a _ ha=>⟨q3 a (m - 1) (by omega) (by omega),le_trans O hd' (q3 0 a (bf1 _) ha)⟩
    have er:=B8 O hp (by omega:m<=n) eq
    refine C1 O (hp.rev 0 m) q1 (by omega) (uD O (p:=p) ?_ fun k _=>er k)
    refine pA O (fun a b hab hb=>?_) q1 (p9 O hc)
    exact le_trans O (eq b (bf1 _) hb).1 (eq a (bf1 _) (by omega)).2
  ·rw [if_neg h1]
   have e:m=1:=by omega
   subst e
   refine C1 O hp (bb6 _) (by omega) (pA O (fun a b hab hb=>?_) (bb6 _) (p9 O hc))
   have e1:a=0:=by omega
   have e2:b=0:=by omega
   rw [e1,e2]; exact le_refl O _
theorem uE {n k:Nat}{p:Array Nat} (hp:PP n p) (hk:k < n) (ha:fH c p k):∀ (f l r:Nat),l<=r->r<=k->r - l<=f->(∀ a,a < l->Le c (G p a) (G p k))->(∀ a,r<=a->a < k->Le c (G p k) (G p a))->
  bZ n c (fun l=>l<=k/\(∀ a,a < l->Le c (G p a) (G p k))/\∀ a,l<=a->a < k->Le c (G p k) (G p a)) (kas_place p k f l r)
 | 0,l,r,h1,h2,h3,hl,hr=>⟨by omega,hl,fun a h4 h5=>hr a (by omega) h5⟩
 | f+1,l,r,h1,h2,h3,hl,hr=>by
  unfold kas_place
  by_cases hlr:l >= r
  ·rw [if_pos hlr]
   exact⟨by omega,hl,fun a h4 h5=>hr a (by omega) h5⟩
  ·rw [if_neg hlr]
   refine⟨hp.lt hk,hp.lt (by omega),?_⟩
   by_cases hc:c (p.getD k 0) (p.getD ((l+r) / 2) 0)=true
   ·simp only [hc,if_true]
    exact uE hp hk ha f l ((l+r) / 2) (by omega) (by omega) (by omega) hl fun a h4 h5=>le_trans O (p9 O hc) (ha _ _ h4 h5)
   ·have hc':c (p.getD k 0) (p.getD ((l+r) / 2) 0)=false:=bo6.mpr hc
    simp only [hc',bd5,bh5]
    exact uE hp hk ha f ((l+r) / 2+1) r (by omega) h2 (by omega) (fun a h4=>le_trans O (ha a ((l+r) / 2) (by omega) (by omega)) hc') hr
theorem C2 {n:Nat}:∀ (f:Nat) (p:Array Nat) (k:Nat),PP n p->k+f<=n->fH c p k->bZ n c (fun q=>PP n q/\fH c q (k+f)) (kas_bin f p k)
 | 0,p,k,hp,_,h=>⟨hp,h⟩
 | f+1,p,k,hp,hk,h=>by
  refine bZ.bind (R:=fun l=>l<=k/\(∀ a,a < l->Le c (G p a) (G p k))/\∀ a,l<=a->a < k->Le c (G p k) (G p a)) (fun l q=>?_) _ (uE O hp (by omega) h k 0 k (bf1 _) (bb6 _) (by omega) (fun a z=>absurd z (Nat.not_lt_zero _)) fun a h1 h2=>absurd h2 (by omega))
  obtain ⟨q1,q2,q3⟩:=q
  have e:∀ a,G (bubble p k (k - l)) a=if a=l then G p k else if l < a/\a<=k then G p (a - 1) else G p a:=fun a=>by
   rw [aq5 (by rw [hp.size]; omega) (by omega),show k - (k - l)=l by omega]
  refine bZ.mono (fun r z=>⟨z.1,by rw [show k+(f+1)=k+1+f by omega]; exact z.2⟩) _ (C2 f _ (k+1) (hp.bub _ _) (by omega) fun a b hab hb=>?_)
  rw [e,e]
  by_cases ha:a=l
  ·rw [if_pos ha]
   by_cases hb':b=l
   ·rw [if_pos hb']; exact le_refl O _
   ·rw [if_neg hb',if_pos (by omega)]; exact q3 _ (by omega) (by omega)
  ·rw [if_neg ha]
   by_cases ha2:l < a/\a<=k
   ·rw [if_pos ha2,if_neg (by omega),if_pos (by omega)]
    exact h _ _ (by omega) (by omega)
   ·rw [if_neg ha2]
    by_cases hb':b=l
    ·rw [if_pos hb']; exact q2 a (by omega)
    ·rw [if_neg hb']
     by_cases hb2:l < b/\b<=k
     ·rw [if_pos hb2]; exact h _ _ (by omega) (by omega)
     ·rw [if_neg hb2]; exact h _ _ hab (by omega)
theorem aq8 {n:Nat} (hn:1<=n):bZ n c (fun q=>PP n q/\fH c q n) (kas_sort n):=by
 have hp:PP n (List.toArray (List.range n)):=by unfold PP; simp
 refine bZ.bind (R:=CI c n) (fun r q=>?_) _ (aq7 O hp hn)
 obtain ⟨q1,q2,q3,q4⟩:=q
 by_cases h:r.1 < n
 ·rw [if_pos h]
  have e:max r.1 1=r.1:=by omega
  rw [e]
  exact bZ.mono (fun p z=>⟨z.1,by rw [show r.1+(n - r.1)=n by omega] at z; exact z.2⟩) _ (C2 O (n - r.1) r.2 r.1 q1 (by omega) q4)
 ·rw [if_neg h]
  have e:r.1=n:=by omega
  exact⟨q1,by rw [e] at q4; exact q4⟩
end
end Srt
namespace L2
open PySem PySem.Spec PyProof.Rows
theorem bT.there {P:Program}{w:World}{H:Hp}{h:Heap}{a:Addr}{o:HO} (x:bT P w H h a o):∃ u,h.get? a=some u:=by
 cases o with
 | lst xs=>obtain ⟨_,_,_,_,e⟩:=x; exact⟨_,e⟩
 | tup xs=>obtain ⟨_,_,_,⟨o,e,_⟩,_⟩:=x; exact⟨_,e⟩
 | dK kvs=>obtain ⟨_,_,_,_,o,_,_,e,_⟩:=x; exact⟨_,e⟩
 | dT kvs=>obtain ⟨_,_,_,_,o,_,_,e,_⟩:=x; exact⟨_,e⟩
 | set S n=>obtain ⟨o,_,_,_,e,_⟩:=x; exact⟨_,e⟩
 | ins C dx fs=>obtain ⟨_,_,_,e,_⟩:=x; exact⟨_,e⟩
 | own y=>exact x
 | xd fs=>obtain ⟨_,⟨_,_,_,e,_⟩,_⟩:=x; exact⟨_,e⟩
 | rng lo hi=>obtain ⟨_,_,_,e⟩:=x; exact⟨_,e⟩
 | frz ob u=>obtain ⟨e,_⟩:=x; exact⟨_,e⟩
 | tbl ps=>exact⟨_,(show h.get? a=some _ from x)⟩
 | met f y=>exact⟨_,(show h.get? a=some _ from x)⟩
 | ext φ=>obtain ⟨_,z,_⟩:=x; exact z
section
variable {X : Cx} {pins : List (Addr × Obj)} {σ : St} {H : Hp} {s : Shared} {h' : Heap} {a : Addr} {o : HO} {t' : Nat}
theorem a6.laidF (I:a6 X pins σ H s) (hn:s.heap.get? a=none) (k:∀ b u,b ≠ X.env.locals->s.heap.get? b=some u->h'.get? b=some u) (ns:∀ m,s.heap.Ns X.env.locals m->h'.Ns X.env.locals m)
  (new:bT X.prog X.w (upd H a o) h' a o):H a=none/\a6 X pins σ (upd H a o) { s with heap:=h',toks:=t' }:=by
 have hHn:H a=none:=by
  cases q:H a with
  | none=>rfl
  | some u=>obtain ⟨z,e⟩:=(I.hok a u q).there; rw [hn] at e; cases e
 have ne:∀ b u,s.heap.get? b=some u->b ≠ a:=fun b u e z=>by rw [z,hn] at e; cases e
 have hL:=I.free
 refine⟨hHn,I.step (g':=s.gens) (d':=s.drawn) (ch:=[]) (fun _ z=>nomatch z) (fun b o' h1 _ _ e _=>k b o' h1 e) (fun b o' h1 _ _ e _=>⟨o'.slots,k b o' h1 e⟩) (fun b o' _ e n=>by rw [aH (ne b o' e)]; exact n) (fun b o' _ e=>?_)
  (fun b xs q=>by rw [aH (cA q hHn)]; exact q) (fun b u xs q=>by rw [aH (cA q hHn)]; exact q) (fun b ps q=>⟨#[],by rw [aH (cA q hHn),q]; simp⟩) ns (fun b u q=>?_) I.bare⟩
 ·by_cases hb:b=X.env.locals
  ·obtain ⟨m,hm,_⟩:=I.loc
   obtain ⟨o2,_,_,e2,_⟩:=ns m hm
   exact⟨o2,by rw [hb]; exact e2⟩
  ·exact⟨o',k b o' hb e⟩
 ·by_cases hb:b=a
  ·subst hb; rw [aW] at q; cases q; exact new
  ·rw [aH hb] at q
   refine (I.hok b u q).stay (fun c v hc e=>k c v ?_ e) (fun c e=>by rw [aH (cA e hHn)]; exact e) fun c xs e=>by rw [aH (cA e hHn)]; exact e
   rcases hc with z | z
   ·rw [z]; intro y; rw [y,hL] at q; cases q
   ·intro y; rw [y,hL] at z; cases z
theorem a6.newsAll (I:a6 X pins σ H s) {news:List (Addr × Obj)}{m:Str->Option Value} (hs:∀ p ∈ mE X.base s.heap X.env.locals,p ∈ news) (F:Fr X.base X.env.locals h' m) (N:News X.base X.env.locals h' news) :
  ∀ b o,b ≠ X.env.locals->s.heap.get? b=some o->h'.get? b=some o:=fun b o h1 e=>by
 cases q:X.base.get? b with
 | some u=>
  have:=I.bk b u q
  rw [e] at this; cases this
  exact F.keep b _ q
 | none=>exact (N (b,o) (hs _ (xU h1 q e))).1
end
theorem aq9 {α:Type}{d:α} (l:List α) {p:List Nat} (h:p.Perm (List.range l.length)):(p.map fun i=>l.getD i d).Perm l:=by
 have e:(List.range l.length).map (fun i=>l.getD i d)=l:=by
  apply List.ext_getElem
  ·simp
  ·intro i h1 h2
   simp at h1
   simp [h1]
 have:=h.map fun i=>l.getD i d
 rw [e] at this
 exact this
theorem mY:∀ {xs:List V}{us:List Value} (i:Nat),i < xs.length->aJ xs us->aQ (xs.getD i .non) (us.getD i Value.none)
 | _,_,_,h,.nil=>by simp at h
 | _,_,0,_,.cons r _=>by simpa using r
 | _,_,i+1,h,.cons _ t=>by
  have:=mY i (by simpa using h) t
  simpa using this
theorem C3 {xs:List V}{us:List Value} (r:aJ xs us):∀ {p:List Nat},(∀ i ∈ p,i < xs.length)->aJ (p.map fun i=>xs.getD i .non) (p.map fun i=>us.getD i Value.none)
 | [],_=>.nil
 | i :: p,h=>.cons (mY i (h i bc2) r) (C3 r fun j hj=>h j (bc3 _ hj))
theorem pD {α:Type}:∀ l:List α,(l.zip l).map (·.2)=l
 | []=>rfl
 | a :: l=>by
  show a :: ((l.zip l).map (·.2))=a :: l
  rw [pD l]
theorem ar0 {prog:Program}{w:World}{A:Around}{E:Value->Shared->Prop}{s:Shared}{a:Addr}{vs:List Value}{n:Nat}{P:PySem.Fin->Shared->Prop} (e:s.heap.get? a=some (seqObj "list" vs.toArray n)) (few:vs.length < 2)
  (q:P (.done (.ret .none)) { s with heap:=sortedHeap s.heap a vs vs.toArray }):wpAny (model prog w) A (Builtin.«list.sort» ⟨[.ref a],[]⟩) P E s:=by
 have big:vs.length<=sizeLine:=bf6 (bg6 few) (by decide)
 have la:=bc7 e
 have c:vs.toArray.size < 2:=by simpa using few
 have same:(arrOf (SortSt.mk' general' (vs.toArray.zip vs.toArray) #[] 7 none)).map (·.2)=vs.toArray:=by
  change (vs.toArray.zip vs.toArray).map (·.2)=vs.toArray
  apply Array.ext'
  simpa using pD vs
 obtain ⟨k,ek⟩:∃ k,(s.heap.update a (Obj.mapSeq fun _=>#[])).get? a=some (seqObj "list" #[] k):=⟨_,get?_update_seq e fun _=>#[]⟩
 have there:(((s.heap.update a (Obj.mapSeq fun _=>#[])).push (seqObj "tuple" vs.toArray 0)).push (seqObj "list" #[] 0)).get? a=some (seqObj "list" #[] k):=
  bb1 _ (bb1 _ ek)
 rw [list_sort_plain]
 apply ba9
 apply listItems_at e rfl
 apply ba9
 refine listUpdate_at e rfl ?_ (by simpa using big) (bf1 _)
 apply ba9
 apply seqEpoch_at ek rfl
 apply ba9
 refine wpAny_newTuple ?_ big
 apply ba9
 refine br1 ?_ (bf1 _)
 apply bj9
 simp only [c,if_true,StateT.run_pure]
 apply ba9
 apply bb3
 apply ba9
 apply bb3
 apply ba9
 apply seqEpoch_at there rfl
 apply ba9
 refine listUpdate_at there rfl ?_ (bf1 _) (by rw [same,bb5]; exact Nat.le_succ_of_le big)
 rw [same]
 simp only [bne_self_eq_false,bd5,bh5]
 exact bb3 q
theorem C4 {prog:Program}{w:World}{A:Around}{E:Value->Shared->Prop}{s:Shared}{l:Addr}{vs:List Value}{Q:Value->Shared->Prop} (hl:s.heap.IsList l vs.toArray) (few:vs.length < 2)
  (q:Q (.ref (s.heap.objs.size+1)) { s with heap:=sortedAll s.heap vs vs.toArray }):wpAny (model prog w) A (call (.builtin "sorted") [.ref l]) Q E s:=by
 have big:vs.length<=sizeLine:=bf6 (bg6 few) (by decide)
 apply bn4 kind_sorted plain_sorted entry_sorted (args_sorted1 _)
 simp only [Builtin.«sorted»]
 apply ba9 (m:=checkCount "sorted" 1 1 _)
 apply bb3
 apply ba9
 refine collect_list hl ?_ big
 apply ba9
 refine br1 ?_ big
 have one:((s.heap.push (seqObj "list" #[] 0)).update s.heap.objs.size (Obj.mapSeq (· ++ vs.toArray))).objs.size=s.heap.objs.size+1:=(Heap.size_update _ _ _).trans (size_push' _ _)
 have at1:(((s.heap.push (seqObj "list" #[] 0)).update s.heap.objs.size (Obj.mapSeq (· ++ vs.toArray))).push (seqObj "list" vs.toArray 0)).get? (s.heap.objs.size+1)=some (seqObj "list" vs.toArray 0):=one ▸ bb9 _ rfl
 change wpAny _ _ _ _ _ { s with heap:=((s.heap.push (seqObj "list" #[] 0)).update s.heap.objs.size (Obj.mapSeq (· ++ vs.toArray))).push (seqObj "list" vs.toArray 0) }
 rw [one]
 apply ba9
 apply bj9
 refine be5 slot_list_sort ⟨_,at1,rfl⟩ entry_list_sort ?_ (args_list_sort _)
 refine ar0 at1 few ⟨_,rfl,?_⟩
 exact bb3 ⟨_,rfl,q⟩
def C5 (K:PySem.W.Frag):List V->Hp->VK->Prop:=fun xs H Q=>∃ a ns,xs = [.ref a]/\aL K H a (ns.map V.int)/\ns.length < 64/\∀ l (ms:List Int),H l=none->ms.Perm ns->ms.Pairwise (· <= ·)->Q (.ref l) (upd H l (.lst (ms.map V.int)))
theorem C6 {X:Cx}:cP X (.builtin "sorted") (C5 X.K):=by
 intro pins s σ H xs us Q I r h
 obtain ⟨a,ns,rfl,hs,h64,q⟩:=h
 obtain ⟨u,rfl,ru⟩:=fD r
 cases ru
 obtain ⟨its,rv,p,hz⟩:=I.list hs
 have hl:=rv.length
 rw [bb4] at hl
 refine sorted_ints p.isList (iB rv) (by omega) fun out ns' a1 a2 a3=>?_
 obtain ⟨e,he⟩:=sortedAll_at s.heap its out
 have hn:s.heap.objs.size<=s.heap.objs.size+1:=bq7 _
 have hlen:ns'.length=ns.length:=a2.length_eq
 refine⟨.ref (s.heap.objs.size+1),upd H (s.heap.objs.size+1) (.lst (ns'.map V.int)),I.laid (t':=s.toks) (fun _ _=>sortedAll_old) hn ⟨?_,out.toList,e,mV a1,by simpa using he⟩,rfl,q _ ns' (I.hok.fresh hn) a2 a3⟩
 rw [bb4,hlen]
 exact bg6 (mW (by omega))
theorem C7:∀ {a b:List Int},HT.bH a b=true->HT.bH b a=false
 | [],[],h=>by cases h
 | [],_ :: _,_=>rfl
 | _ :: _,[],h=>by cases h
 | x :: xs,y :: ys,h=>by
  rw [HT.iA] at h ⊢
  by_cases e:x=y
  ·rw [if_pos e] at h; rw [if_pos e.symm]; exact C7 h
  ·rw [if_neg e] at h; rw [if_neg (Ne.symm e)]
   have:=bi8 h
   exact bb7 (by omega)
theorem C8:∀ {a b c:List Int},HT.bH a b=false->HT.bH b c=false->HT.bH a c=false
 | [],[],c,_,h=>h
 | [],_ :: _,_,h,_=>by cases h
 | _ :: _,[],[],_,_=>rfl
 | _ :: _,[],_ :: _,_,h=>by cases h
 | _ :: _,_ :: _,[],_,_=>rfl
 | x :: xs,y :: ys,z :: zs,h1,h2=>by
  rw [HT.iA] at h1 h2 ⊢
  by_cases e1:x=y
  ·rw [if_pos e1] at h1
   by_cases e2:y=z
   ·rw [if_pos e2] at h2; rw [if_pos (e1.trans e2)]; exact C8 h1 h2
   ·rw [if_neg e2] at h2; rw [if_neg (by rw [e1]; exact e2)]; rw [e1]; exact h2
  ·rw [if_neg e1] at h1
   have k1:=bp8 h1
   by_cases e2:y=z
   ·rw [<- e2,if_neg e1]; exact h1
   ·rw [if_neg e2] at h2
    have k2:=bp8 h2
    rw [if_neg (by omega)]
    exact bb7 (by omega)
def C9 (H:Hp):V->List Int
 | .ref b=>match H b with
  | some (.tup xs)=>xs.map fun x=>match x with
   | .int i=>i
   | _=>0
  | _=>[]
 | _=>[]
section
variable {prog : Program} {w : World} {A : Around} {s : Shared} {Q : Bool → Shared → Prop}
theorem uF:∀ {us ws:List Value}{xs ys:List Int} (i:Nat),IntsAre us xs->IntsAre ws ys->Q (HT.bH xs ys) s->PySem.W.KatLex prog w A true (decide (us.length < ws.length)) Q (us.zip ws) i s
 | _,_,_,_,_,.nil,.nil,h=>h
 | _,_,_,_,_,.nil,.cons _ _ _,h=>h
 | _,_,_,_,_,.cons _ _ _,.nil,h=>h
 | _,_,_,_,i,.cons (vs:=us) x t hx,.cons (vs:=ws) y u hy,h=>by
  refine PySem.W.kat_cons (wpAny_eqBool_int ?_)
  rw [HT.iA] at h
  by_cases e:x=y
  ·rw [if_pos e] at h
   have eb:(x == y)=true:=by simpa using e
   rw [eb]
   refine PySem.W.kat_yes ?_
   have e2:decide ((Value.int x t :: us).length < (Value.int y u :: ws).length)=decide (us.length < ws.length):=by simp
   rw [e2]
   exact uF (i+1) hx hy h
  ·rw [if_neg e] at h
   have eb:(x == y)=false:=by simpa using e
   rw [eb]
   refine PySem.W.kat_no ?_
   cases hi:(true && i == 0) with
   | true=>exact PySem.W.kat_lt_int h
   | false=>exact PySem.W.kat_one _ _ (lt_int h)
end
def E1 (K:PySem.W.Frag):List V->Hp->VK->Prop:=fun xs H Q=>∃ (a:Addr) (ys:List V) (key:V->List Int),xs = [.ref a]/\aL K H a ys/\ys.length < 64/\(∀ y ∈ ys,∃ b,y = .ref b/\aI K H b ((key y).map V.int)/\key y ≠ [])/\
 ∀ l (zs:List V),H l=none->zs.Perm ys->zs.Pairwise (fun u v=>HT.bH (key v) (key u)=false)->Q (.ref l) (upd H l (.lst zs))
theorem ar1 {c:Nat->Nat->Bool}{R:V->V->Prop}{ys:List V}{p:Array Nat}{n:Nat} (hp:Srt.PP n p) (ha:Srt.fH c p n) (hR:∀ i j,Srt.Le c i j->R (ys.getD i .non) (ys.getD j .non)) :
  (p.toList.map fun i=>ys.getD i .non).Pairwise R:=by
 rw [bg4,bf2]
 intro i j hi hj hij
 have hs:=hp.size
 have h1:i < n:=by rw [<- hs]; simpa using hi
 have h2:j < n:=by rw [<- hs]; simpa using hj
 have q:=ha i j (bg6 hij) h2
 have e:∀ k (hk:k < p.toList.length),Srt.G p k=p.toList[k]:=fun k hk=>by
  have hk':k < p.size:=by simpa using hk
  unfold Srt.G; rw [bm6]; simp [hk']
 rw [e i hi,e j hj] at q
 exact hR _ _ q
theorem ar2 {X:Cx}:cP X (.builtin "sorted") (E1 X.K):=by
 intro pins s σ H xs us Q I r h
 obtain ⟨a,ys,key,rfl,hs,h64,hk,q⟩:=h
 obtain ⟨u,rfl,ru⟩:=fD r
 cases ru
 obtain ⟨its,rv,p,hz⟩:=I.list hs
 have hl:=rv.length
 by_cases h2:its.length < 2
 ·
  refine C4 p.isList h2 ?_
  obtain ⟨e,he⟩:=sortedAll_at s.heap its its.toArray
  have hn:s.heap.objs.size<=s.heap.objs.size+1:=bq7 _
  refine⟨.ref (s.heap.objs.size+1),upd H (s.heap.objs.size+1) (.lst ys),I.laid (t':=s.toks) (fun _ _=>sortedAll_old) hn ⟨hz,its,e,rv,he⟩,rfl,q _ ys (I.hok.fresh hn) (bo5 _) ?_⟩
  match ys,hl with
  | [],_=>exact List.Pairwise.nil
  | [_],_=>exact bg1 _ _
  | _ :: _ :: _,hl=>simp at hl; omega
 ·obtain ⟨m,F⟩:=I.fr
  have hL:∀ {b:Addr}{k:List Int},aI X.K H b (k.map V.int)->b ≠ X.env.locals:=fun {b k} z e=>by
   obtain ⟨its',_,⟨ob,e1,c1,_⟩,_⟩:=I.tuple z
   obtain ⟨m',⟨o',es',ep',e2,d2,_⟩,_⟩:=I.loc
   rcases z with (z | ⟨_,z⟩) | ⟨o3,its3,n3,z3,zc,zd,_⟩
   ·rw [e,I.free] at z; cases z
   ·rw [e,I.free] at z; cases z
   ·have:=I.kIn b o3 z3
    rw [e,e2] at this
    cases this
    rw [d2] at zd; cases zd
  refine PySem.W.kat_sorted F (ae3 (g:=X.base) (h:=s.heap) (L:=X.env.locals)) p.isList (by omega) (by omega) fun D e1 h' F' N' hD=>?_
  have keep:=I.newsAll (fun p hp=>bc3 _ hp) F' N'
  have look:∀ i,i < ys.length->∃ (b:Addr) (ob:Obj) (us:List Value) (n:Nat),its.getD i Value.none = .ref b/\h'.get? b=some ob/\ob.cls = .type "tuple"/\ob.data = .seq us.toArray n/\IntsAre us (key (ys.getD i .non))/\key (ys.getD i .non) ≠ []:=fun i hi=>by
   have hy:ys.getD i .non ∈ ys:=by
    rw [bc0,bb2 hi]; exact bh0 hi
   obtain ⟨b,eb,sq,ne⟩:=hk _ hy
   have rr:=mY i hi rv
   rw [eb] at rr
   have rr:its.getD i Value.none = .ref b:=rr
   obtain ⟨us,ru,⟨ob,e1,c1,n1,d1⟩,_⟩:=I.tuple sq
   exact⟨b,ob,us,n1,rr,keep b ob (hL sq) e1,c1,d1,iB ru,ne⟩
  have firsts:∀ {xs:List V}{vs:List Value},aJ xs vs->(∀ y ∈ xs,∃ b,y = .ref b/\aI X.K H b ((key y).map V.int)/\key y ≠ [])->∃ fs:List Value,PySem.W.KatTups h' vs fs/\fs.length=vs.length/\∀ v ∈ fs,∃ i t,v=Value.int i t:=by
   intro xs vs r
   induction r with
   | nil=>intro _; exact⟨[],PySem.W.KatTups.nil,rfl,fun _ z=>nomatch z⟩
   | @cons x v xs vs rx rt ih=>
    intro hh
    obtain ⟨fs,t1,t2,t3⟩:=ih fun y hy=>hh y (bc3 _ hy)
    obtain ⟨b,eb,sq,ne⟩:=hh x bc2
    subst eb
    cases rx
    obtain ⟨us,ru,⟨ob,e1,c1,n1,d1⟩,_⟩:=I.tuple sq
    have ia:=iB ru
    generalize key (V.ref b)=kk at ia ne
    cases ia with
    | nil=>exact absurd rfl ne
    | @cons n t vs0 ns0 ht=>
     exact⟨Value.int n t :: fs,PySem.W.KatTups.cons (keep b ob (hL sq) e1) c1 d1 (by simp) t1,by simp [t2],fun v hv=>(bb8.mp hv).elim (fun z=>⟨n,t,z⟩) (t3 v)⟩
  obtain ⟨fs,t1,t2,t3⟩:=firsts rv hk
  refine PySem.W.kat_kind (T:=.type "int") t1 (by omega) (fun v hv=>?_) (by decide) ?_
  ·obtain ⟨i,t,rfl⟩:=t3 v hv
   exact PySem.W.Looks.now
  let c:Nat->Nat->Bool:=fun i j=>HT.bH (key (ys.getD i .non)) (key (ys.getD j .non))
  have O:Srt.uB c:=⟨fun h=>C7 h,fun h1 h2=>C8 h1 h2⟩
  have ok:=Srt.aq8 (n:=its.length) O (by omega)
  refine Srt.bZ.run (I:=fun s'=>s'={ s with heap:=h' }) (fun i j C s' hi hj hI hC=>?_) (fun pa s' hR hI=>?_) _ _ rfl ok
  ·subst hI
   obtain ⟨b1,o1,u1,n1,g1,g2,_,g4,g5,_⟩:=look i (by omega)
   obtain ⟨b2,o2,u2,n2,k1,k2,_,k4,k5,_⟩:=look j (by omega)
   show wpAny _ _ (keyLt' (tuples' (Value.type "int" != Value.type "tuple")) (its.getD i Value.none) (its.getD j Value.none)) _ _ _
   rw [g1,k1]
   have eT:(Value.type "int" != Value.type "tuple")=true:=by decide
   rw [eT]
   refine PySem.W.kat_lt g2 g4 k2 k4 ?_
   have:=uF (prog:=X.prog) (w:=X.w) (A:=X.A.in1.in1) (s:={ s with heap:=h' }) (Q:=C) 0 g5 k5 (hC _ rfl)
   simpa using this
  ·subst hI
   obtain ⟨hp,hasc⟩:=hR
   refine PySem.W.KasFin.intro F' N' (PySem.W.UpdF.head fun p hp=>be3 (hD p hp)) fun h2 cc F2 N2=>?_
   have keep2:=I.newsAll (fun p hp=>bc3 _ hp) F2 N2
   have hDn:s.heap.get? D=none:=by
    cases z:s.heap.get? D with
    | none=>rfl
    | some o=>
     obtain ⟨_,n1,n2⟩:=N2 (D,_) bc2
     exact absurd (hD _ (xU n1 n2 z)) (bg0 _)
   have hpl:∀ i ∈ pa.toList,i < ys.length:=fun i hi=>by
    have:=bo3.mp (hp.mem_iff.mp hi); omega
   have hp':pa.toList.Perm (List.range ys.length):=by rw [hl]; exact hp
   have pm:=aq9 (d:=V.non) ys hp'
   obtain ⟨hDo,hDL,hDb⟩:=N2 (D,_) bc2
   obtain ⟨hHD,I2⟩:=I.laidF (t':=s.toks) (a:=D) (o:=.lst (pa.toList.map fun i=>ys.getD i .non)) hDn keep2 (fun m' hm'=>by
     have e:m'=m:=funext fun nm=>Heap.Ns.agree hm' F.ns nm
     rw [e]; exact F2.ns) ⟨by rw [pm.length_eq]; exact hz,_,cc,C3 rv hpl,hDo⟩
   exact⟨.ref D,_,I2,rfl,q D _ hHD pm (ar1 hp hasc fun i j hle=>hle)⟩
end L2
namespace Raw
open PySem PySem.W PySem.Calls PyProof.Rows
def fI (h:Heap) (d:Addr) (es:Array DictEntry) (ep:Nat):Prop:=∃ o,h.get? d=some o/\o.ExactDict/\o.data = .dict es ep
theorem fI.ty {s:Shared}{d:Addr}{es:Array DictEntry}{ep:Nat} (x:fI s.heap d es ep):s.TypeIs (.ref d) "dict":=x.elim fun o y=>⟨o,y.1,y.2.1.1⟩
theorem fI.lt {h:Heap}{d:Addr}{es:Array DictEntry}{ep:Nat} (x:fI h d es ep):d < h.objs.size:=x.elim fun _ y=>bc7 y.1
theorem fI.keep {h h':Heap}{d:Addr}{es:Array DictEntry}{ep:Nat} (x:fI h d es ep) (k:∀ o,h.get? d=some o->h'.get? d=some o):fI h' d es ep:=x.elim fun o y=>⟨o,k o y.1,y.2⟩
section
variable {prog : Program} {w : World} {A : Around} {E : Value → Shared → Prop} {s : Shared} {d it : Addr} {es : Array DictEntry} {ep i : Nat}
theorem made (far:(d == sysModules)=false) (x:fI s.heap d es ep) {Q:Value->Shared->Prop}
  (q:Q (.ref s.heap.objs.size) { s with heap:=s.heap.push { cls:=.type "dict_keyiterator",data:=.fields #[.ref d,.int 0 0,.int es.size 0,.int ep 0] } }):wpAny (model prog w) A (pyIter (.ref d)) Q E s:=by
 have T:=x.ty
 obtain ⟨o,e1,e2,e3⟩:=x
 apply wpAny_pyIter_slot T PySem.F.slot_dict_iter
 apply be5 PySem.F.slot_dict_iter T PySem.F.entry_dict_iter _ (PySem.F.args_dict_iter_1 _)
 simp only [Builtin.«dict.__iter__»,Builtin.Dict.dictSlotNone]
 apply ba9
 apply ba9
 apply wpAny_notOrdered_dict T
 apply bb3
 change wpAny _ _ (Builtin.Dict.showsAll d >>= _) _ _ s
 have far':Builtin.Dict.showsAll d=pure ():=by
  unfold Builtin.Dict.showsAll
  simp only [far,bd5,bh5]
 rw [far',pure_bind]
 apply ba9
 apply wpAny_dictEntries e1 e3
 apply ba9
 apply wpAny_dictEpoch e1 e3
 apply ba9
 refine be8 (bb3 ?_)
 refine⟨.ref s.heap.objs.size,rfl,"dict_keyiterator",_,⟨_,bb9 _ rfl,rfl⟩,PySem.F.slot_dict_keyiterator_next.lookup,?_⟩
 simpa only [rawInt] using q
theorem turn (hh:A.handled=none) (hi:s.heap.IsKeyIter it d i es.size ep) (x:fI s.heap d es ep) {Q:Option Value->Shared->Prop}
  (yes:∀ (lt:i < es.size) h',h'.IsKeyIter it d (i+1) es.size ep->Heap.SameBut it s.heap h'->Q (some es[i].key) { s with heap:=h' })
  (no:es.size<=i->∀ h',Heap.ExtBut it s.heap h'->Q none { s with heap:=h' }):wpAny (model prog w) A (pyNext (.ref it)) Q E s:=by
 have T:=hi.typeIs
 obtain ⟨oi,f1,f2,f3⟩:=hi
 obtain ⟨o,e1,e2,e3⟩:=x
 have slot:=PySem.F.slot_dict_keyiterator_next
 have plain:Builtin.Dict_items.ownsTuple "dict_keyiterator" = false:=by decide
 have isref:(Value.ref d == Value.none)=false:=rfl
 have nn : ¬ (i:Int) < 0:=by omega
 unfold pyNext
 apply ba9
 apply bo0
 apply bf3 (name:=Str.ofString "__next__") T slot
 apply be5 slot T PySem.F.entry_dict_keyiterator_next _ (PySem.F.args_dict_keyiterator_next_1 _)
 apply ba9
 apply bb3
 apply ba9
 apply ba9
 apply ba9
 first
  | apply wpAny_typeNameOfWhole_keyiter T
  | apply wpAny_typeNameOf_keyiter T
 apply bb3
 apply ba9
 apply wpAny_fieldsOf f1 f3
 simp only [plain,bd5,bh5]
 change wpAny _ _ (if (Value.ref d == Value.none)=true then _ else _) _ _ s
 have adr:Builtin.Dict_items.addrOf (Value.ref d)=pure d:=rfl
 simp only [isref,bd5,bh5,adr,pure_bind]
 apply ba9
 apply wpAny_dictEntries e1 e3
 simp only [bne_self_eq_false,bd5,bh5]
 apply ba9
 apply wpAny_dictEpoch e1 e3
 simp only [bne_self_eq_false,bd5,bh5]
 apply bb3
 simp only [nn,bh5,bi1]
 by_cases lt:i < es.size
 ·simp only [bg2 lt]
  apply ba9
  apply ba9
  first
   | apply wpAny_typeNameOfWhole_keyiter T
   | apply wpAny_typeNameOf_keyiter T
  apply bb3
  apply ba9
  apply wpAny_isOneOf_keyiter T
  change wpAny _ _ (setField (.ref it) 1 (rawInt ((i:Int)+1)) >>= _) _ _ s
  apply ba9
  refine bm8 f1 f3 (by simp) ?_
  have again:(s.heap.update it (Obj.mapFields (·.setIfInBounds 1 (rawInt ((i:Int)+1))))).IsKeyIter it d (i+1) es.size ep:=by
   refine⟨_,bi3 _ f1 (Obj.isFreed_of_fields (Obj.data_mapFields f3 _)),?_,?_⟩
   ·rw [Obj.cls_mapFields]; exact f2
   ·rw [Obj.data_mapFields f3]; simp [rawInt]
  apply ba9
  apply bj9
  apply ba9
  refine wpAny_isOneOf_keyiter (s:={ s with heap:=s.heap.update it (Obj.mapFields (·.setIfInBounds 1 (rawInt ((i:Int)+1)))) }) again.typeIs ?_
  change wpAny _ _ (pure es[i].key) _ _ _
  apply bb3
  apply bb3
  exact⟨es[i].key,rfl,bb3 (yes lt _ again (bh6 ..))⟩
 ·have ge:es.size<=i:=bp4 lt
  simp only [bm9 ge]
  apply ba9
  apply ba9
  first
   | apply wpAny_typeNameOfWhole_keyiter T
   | apply wpAny_typeNameOf_keyiter T
  apply bb3
  change wpAny _ _ (setField (.ref it) 0 .none >>= _) _ _ s
  apply ba9
  refine bm8 f1 f3 (by simp) ?_
  apply ba9
  simp only [newExc,newTuple]
  apply ba9
  refine be8 ?_ (by size_fits)
  apply ba9
  refine wpAny_of_eq (a:=Value.none) (by first | rfl | (simp only [firstArgMember]; rfl)) ?_
  refine be8 ?_ (by size_fits)
  unfold raiseNew
  apply ba9
  apply wpAny_handled
  have quiet:A.in1.handled=none:=hh
  rw [quiet]
  refine wpAny_throw ?_
  apply ba9
  refine bp5 (T:="StopIteration") (b:=true) ⟨_,bb9 _ rfl,rfl⟩ isSubtype_stop ?_
  exact bb3 (no ge _ (((bh6 ..).extBut.push _).push _))
theorem ar3 (hh:A.handled=none) (ne:d ≠ it):Walks prog w A it [it,d] [it] es.size (fun i v=>∃ lt:i < es.size,es[i].key=v) (fun i h=>h.IsKeyIter it d i es.size ep/\fI h d es ep) where
 sub:=by intro b hb; rw [bc1.mp hb]; exact bc2
 frame:=by
  intro i h h' st hk
  exact⟨st.1.at (hk it bc2),st.2.keep (hk d (bc3 _ bc2))⟩
 item:=by
  intro i s Q E lt st hQ
  refine turn hh st.1 st.2 (fun lt' h' again sb=>?_) fun ge=>absurd lt (Nat.not_lt.mpr ge)
  exact hQ _ h' s.toks ⟨lt',rfl⟩ ⟨again,st.2.keep fun o e=>sb.extBut d o ne e⟩ fun b o hb e=>sb.extBut b o (fun z=>hb (bc1.mpr z)) e
 done:=by
  intro s Q E st hQ
  refine turn hh st.1 st.2 (fun lt=>absurd lt (bg0 _)) fun _ h' eb=>?_
  exact hQ h' s.toks fun b o hb e=>eb b o (fun z=>hb (bc1.mpr z)) e
 self:=by intro i s Q E st hQ; exact wpAny_pyIter_keyiter st.1 hQ
theorem E2 (far:(d == sysModules)=false):KdlSrc prog w "dict" d d es.size (fun i v=>∃ lt:i < es.size,es[i].key=v) (fun h=>fI h d es ep) where
 type:=fun _ x=>x.ty
 there:=fun _ x=>⟨x.lt,x.lt⟩
 keep:=fun _ _ x k=>x.keep (k d (.inl rfl))
 notList:=by decide
 notTuple:=by decide
 hint:=fun _ _ _ _ x q=>kdl_hint_dict x.ty q
 iter:=fun _ _ hh x=>⟨_,_,fun _ _ q=>made far x q,ar3 hh (be3 x.lt),⟨_,bb9 _ rfl,rfl,rfl⟩,x.keep fun o e=>bb1 _ e⟩
end
end Raw
namespace L2
open PySem PySem.Spec PyProof.Rows
section
variable {X : Cx} {pins : List (Addr × Obj)} {σ : St} {H : Hp} {s : Shared} {a : Addr}
def l7 (H:Hp) (y:V) (k:List aA):Prop:=∃ q,y = .ref q/\H q=some (.tup (k.map kV))
theorem E3 {kvs:List (aA × V)} (I:a6 X pins σ H s) (h:H a=some (.dK kvs)):∃ es ep,Raw.fI s.heap a es ep/\(a == sysModules)=false/\aJ (kvs.map fun p=>kV p.1) (es.toList.map (·.key))/\kvs.length<=sizeLine:=by
 obtain ⟨z,far,vs,rel,o,es,ep,e1,e2,e3,kk,pr,nd⟩:=(show bT X.prog X.w H s.heap a (.dK kvs) from I.hok a _ h)
 refine⟨es,ep,⟨o,e1,e2,e3⟩,far,?_,z⟩
 clear z far e1 e2 e3 kk nd h
 generalize es.toList=l at pr
 induction pr generalizing kvs with
 | nil=>cases rel; exact .nil
 | @cons e k es' kvs' h1 h2 _ ih=>
  cases rel with
  | @cons p q ps qs r rs=>
   refine .cons ?_ (ih rs)
   obtain ⟨r1,_⟩:=r
   show aQ (kV p.1) e.key
   rw [r1]
   rcases i5 h1 with ⟨n,t,e4,e5⟩ | ⟨x,t,e4,e5⟩
   ·rw [e4,e5]; exact⟨t,rfl⟩
   ·rw [e4,e5]; exact⟨t,rfl⟩
theorem E4 {kvs:List (List aA × V)} (I:a6 X pins σ H s) (h:H a=some (.dT kvs)):∃ es ep ys,Raw.fI s.heap a es ep/\(a == sysModules)=false/\Paired (l7 H) ys (kvs.map (·.1))/\aJ ys (es.toList.map (·.key))/\kvs.length<=sizeLine:=by
 obtain ⟨z,far,xs,rel,o,es,ep,e1,e2,e3,e4,nd⟩:=(show bT X.prog X.w H s.heap a (.dT kvs) from I.hok a _ h)
 refine⟨es,ep,xs.map fun q=>V.ref q.2.1,⟨o,e1,e2,e3⟩,far,?_,?_,z⟩
 ·clear e4 nd h z
  induction rel with
  | nil=>exact .nil
  | cons r rs ih=>exact .cons ⟨_,rfl,r.2.1⟩ ih
 ·rw [e4]
  clear rel e4 nd
  induction xs with
  | nil=>exact .nil
  | cons q qs ih=>exact .cons rfl ih
theorem E5 {es:Array DictEntry}{acc:Array Value} (h:ItemsOf (fun i v=>∃ lt:i < es.size,es[i].key=v) acc es.size):acc.toList=es.toList.map (·.key):=by
 apply List.ext_getElem?
 intro j
 have h1:=h.1
 by_cases hj:j < es.size
 ·have hj':j < acc.size:=by rw [h1]; exact hj
  obtain ⟨_,e⟩:=h.2 j acc[j] (by simp [hj'])
  rw [bc6]
  simp [hj,hj',e]
 ·have hj' : ¬ j < acc.size:=by rw [h1]; exact hj
  rw [bc6]
  simp [bp4 hj,bp4 hj']
theorem ar4 (hc:X.calm=true):cP X (.type "list") (fun xs H Q=>∃ a kvs,xs = [.ref a]/\H a=some (.dT kvs)/\∀ l ys,H l=none->Paired (l7 H) ys (kvs.map (·.1))->Q (.ref l) (upd H l (.lst ys))):=by
 intro pins s σ H xs us Q I r h
 obtain ⟨a,kvs,rfl,ha,q⟩:=h
 obtain ⟨u,rfl,ru⟩:=fD r
 cases ru
 obtain ⟨es,ep,ys,rd,far,pk,vk,z⟩:=E4 I ha
 have hl:=vk.length
 have hl2:=pk.length
 rw [bb4] at hl hl2
 have hsz:es.toList.length=es.size:=bd9
 refine PySem.W.kdl_call (Raw.E2 far) (I.ok.hd hc) rd (by omega) fun h' tk acc c kp e it=>?_
 refine⟨.ref s.heap.objs.size,_,I.laid (t':=tk) kp (bb6 _) (show bT X.prog X.w _ h' _ (.lst ys) from ⟨by omega,acc.toList,c,by rw [E5 it]; exact vk,by simpa using e⟩),rfl,q _ ys (I.hok.fresh (bb6 _)) pk⟩
end
def E6 (outer:List (Str × NameKind)) (XN:List Str) (names:List (Str × NameKind)) (N:List Str) (fr:List (Option Nat)):Bool:=
 names.all (fun y=>!(y.2 == .cell) || names.lookup y.1 == some .cell) && names.all (fun y=>!(y.2 == .local) || names.lookup y.1 == some .local) &&
 names.all (fun y=>!(y.2 == .free) || (outer.lookup y.1 == some .cell || outer.lookup y.1 == some .free)) && fr.length == N.length &&
 (fr.zip N).all (fun p=>match p.1 with
  | none=>true
  | some j=>XN[j]? == some p.2 && names.lookup p.2 == some .free)
theorem cY.of {X:Cx}{scope:Scope}{N:List Str}{fr:List (Option Nat)} (hk:scope.kind = .function) (h:E6 X.env.scope.names X.N scope.names N fr=true):cY X scope N fr:=by
 unfold E6 at h
 simp only [bf0] at h
 obtain ⟨⟨⟨⟨h1,h2⟩,h3⟩,h4⟩,h5⟩:=h
 refine⟨hk,fun y hy e=>?_,fun y hy e=>?_,fun y hy e=>?_,by simpa using h4,fun i j e=>?_⟩
 ·have:=bm4.mp h1 y hy
  rw [e] at this; simpa using this
 ·have:=bm4.mp h2 y hy
  rw [e] at this; simpa using this
 ·have:=bm4.mp h3 y hy
  rw [e] at this; simpa using this
 ·have hl:fr.length=N.length:=by simpa using h4
  have hi:i < fr.length:=(bc5.mp e).1
  have m:(some j,N[i]'(by omega)) ∈ fr.zip N:=by
   have:(fr.zip N)[i]? = some (some j,N[i]'(by omega)):=by
    rw [List.getElem?_zip_eq_some]
    exact⟨e,by simp⟩
   exact bg9 this
  have:=bm4.mp h5 _ m
  simp only [bf0,beq_iff_eq] at this
  exact⟨N[i]'(by omega),by simp,this.1,this.2⟩
theorem wk0 {n:Option V}{r:St}{v:V}:Wk (none :: r) (some v :: r):=(Wk.refl (none :: r)).set (i:=0) rfl
def l8 (H:Hp) (ys:List V) (ls:List (Int × Int)):Prop:=Paired (fun y l=>∃ b,y = .ref b/\H b=some (.tup [.int l.1,.int l.2])) ys ls
structure E7 (H:Hp) (v:V) (ws:List Int) (ls:List (Int × Int)):Prop where
 at_:∃ a p q ys,v = .ref a/\H a=some (.tup [.ref p,.ref q])/\H p=some (.tup (ws.map V.int))/\H q=some (.tup ys)/\l8 H ys ls
theorem l8.get {H:Hp}:∀ {ys:List V}{ls:List (Int × Int)}{i:Nat}{y:V},l8 H ys ls->ys[i]? = some y->∃ l b,ls[i]? = some l/\y = .ref b/\H b=some (.tup [.int l.1,.int l.2])
 | _,_,_,_,.nil,e=>by simp at e
 | _,_,0,_,.cons (b:=l) ⟨b,h1,h2⟩ _,e=>by simp at e; subst e; exact⟨l,b,rfl,h1,h2⟩
 | _,_,i+1,_,.cons _ t,e=>by
  obtain ⟨l,b,h1,h2⟩:=l8.get (i:=i) t (by simpa using e)
  exact⟨l,b,by simpa using h1,h2⟩
def aZ (ls:List (Int × Int)) (k:Int):List Int:=ls.flatMap fun l=>(if l.1=k then [l.2] else []) ++ (if l.2=k then [l.1] else [])
theorem ar5 (ls:List (Int × Int)) (l:Int × Int) (k:Int):aZ (ls ++ [l]) k=aZ ls k ++ ((if l.1=k then [l.2] else []) ++ (if l.2=k then [l.1] else [])):=by
 unfold aZ; rw [List.flatMap_append]; simp
theorem ar6 {ls:List (Int × Int)}{i:Nat}{l:Int × Int} (h:ls[i]? = some l) (k:Int):aZ (ls.take (i+1)) k=aZ (ls.take i) k ++ ((if l.1=k then [l.2] else []) ++ (if l.2=k then [l.1] else [])):=by
 rw [bi9,h]; exact ar5 _ _ _
structure j5 (H H':Hp) (r:Addr) (bs:List Addr) (f:Nat->List Int):Prop where
 new:H r=none
 news:∀ b ∈ bs,H b=none/\b ≠ r
 nd:bs.Nodup
 row:H' r=some (.lst (bs.map V.ref))
 rows:∀ (k:Nat) (b:Addr),bs[k]? = some b->H' b=some (.lst ((f k).map V.int))
 same:aD H H'
theorem j5.congr {H H':Hp}{r:Addr}{bs:List Addr}{f g:Nat->List Int} (h:j5 H H' r bs f) (e:∀ k,k < bs.length->f k=g k):j5 H H' r bs g:=
 ⟨h.new,h.news,h.nd,h.row,fun k b hb=>by rw [<- e k (bc5.mp hb).1]; exact h.rows k b hb,h.same⟩
theorem j5.app {H H':Hp}{r:Addr}{bs:List Addr}{f:Nat->List Int} (h:j5 H H' r bs f) {k:Nat}{b:Addr} (hb:bs[k]? = some b) (x:Int) :
  j5 H (upd H' b (.lst ((f k).map V.int ++ [V.int x]))) r bs (fun j=>if j=k then f j ++ [x] else f j):=by
 have hm:b ∈ bs:=bg9 hb
 refine⟨h.new,h.news,h.nd,by rw [aH (Ne.symm (h.news b hm).2)]; exact h.row,fun j c hc=>?_,fun c o e=>by rw [aH (cA e (h.news b hm).1)]; exact h.same c o e⟩
 by_cases hj:j=k
 ·subst hj
  rw [hb] at hc; cases hc
  rw [aW,if_pos rfl]; simp
 ·rw [if_neg hj]
  have ne:c ≠ b:=fun z=>by
   subst z
   obtain ⟨i1,e1⟩:=bc5.mp hb
   obtain ⟨i2,e2⟩:=bc5.mp hc
   refine hj (Nat.le_antisymm (bp4 fun z=>?_) (bp4 fun z=>?_))
   ·exact bf2.mp h.nd _ _ i1 i2 z (e1.trans e2.symm)
   ·exact bf2.mp h.nd _ _ i2 i1 z (e2.trans e1.symm)
  rw [aH ne]; exact h.rows j c hc
theorem pE (ls:List (Int × Int)) (k:Int):(aZ ls k).length<=2 * ls.length:=by
 induction ls with
 | nil=>exact bb6 _
 | cons l r ih=>
  have e:aZ (l :: r) k=((if l.1=k then [l.2] else []) ++ (if l.2=k then [l.1] else [])) ++ aZ r k:=rfl
  rw [e,bc4,bc4,be4]
  have h1:(if l.1=k then [l.2] else []).length<=1:=by split <;> simp
  have h2:(if l.2=k then [l.1] else []).length<=1:=by split <;> simp
  omega
theorem pF {α:Type}{xs:List α}{i:Int}{v:α} (h0:0<=i) (h:xs[i.toNat]? = some v):atI xs i=some v:=by
 have:=oS h
 rwa [show ((i.toNat:Nat):Int)=i by omega] at this
theorem iC {n:Nat} (h:n<=16000000):n < sizeLine:=by rw [sizeLine_eq]; omega
theorem ar7 {σ:St}{H:Hp}{A B:Hp->Prop} (h:A H):tX σ H fun b H4=>if b=true then A H4 else B H4:=by
 show if true=true then A H else B H
 rw [if_pos rfl]; exact h
theorem mZ {K:PySem.W.Frag}{H:Hp}{p:Addr}{xs:List V} (h:aL K H p xs):oT K "list" (.ref p) H:=.inl ⟨rfl,xs,h⟩
def nA (H:Hp) (y:V):Int × Int:=match C9 H y with
 | [a,b]=>(a,b)
 | _=>(0,0)
theorem pG {H:Hp}:∀ {zs:List V},(∀ y ∈ zs,∃ b,y = .ref b/\H b=some (.tup [.int (nA H y).1,.int (nA H y).2])/\C9 H y = [(nA H y).1,(nA H y).2])->l8 H zs (zs.map (nA H))
 | [],_=>.nil
 | y :: zs,h=>by
  obtain ⟨b,e,hb,_⟩:=h y bc2
  exact .cons ⟨b,e,hb⟩ (pG fun z hz=>h z (bc3 _ hz))
end L2
namespace Zp
open PySem PyProof.Rows
section
variable {prog : Program} {w : World} {A : Around} {E : Value → Shared → Prop} {s : Shared}
theorem E8 {it t:Addr}{i:Nat}{items:Array Value}{x:Value}{Q:Value->Shared->Prop} (hi:s.heap.IsTupleIter it t i) (ht:s.heap.IsTuple t items) (hx:items[i]? = some x)
  (q:∀ h',h'.IsTupleIter it t (i+1)->Heap.SameBut it s.heap h'->Q x { s with heap:=h' }):wpAny (model prog w) A (Builtin.SmallTypes.nextOf (.ref it)) Q E s:=by
 have T:=hi.typeIs
 obtain ⟨o,e1,e2,e3⟩:=hi
 obtain ⟨u,f1,_,k,f3⟩:=ht
 have slot:=PySem.F.slot_tuple_iterator_next
 have isref:(Value.ref t == Value.none)=false:=rfl
 unfold Builtin.SmallTypes.nextOf
 apply ba9
 apply bf3 (name:=Str.ofString "__next__") T slot
 apply be5 slot T PySem.F.entry_tuple_iterator_next _ (PySem.F.args_tuple_iterator_next_1 _)
 change wpAny _ _ (field (.ref it) 0 >>= _) _ _ s
 apply ba9
 refine bi4 e1 e3 (x:=.ref t) rfl ?_
 change wpAny _ _ (if (Value.ref t == Value.none)=true then _ else _) _ _ s
 simp only [isref,bd5,bh5]
 change wpAny _ _ (field (.ref it) 1 >>= _) _ _ s
 apply ba9
 refine bi4 e1 e3 (x:=.int i 0) rfl ?_
 change wpAny _ _ (seqItems? (.ref t) >>= _) _ _ s
 apply ba9
 apply bp9 f1 f3
 simp only [bi1,hx]
 apply ba9
 refine bm8 e1 e3 (by simp) ?_
 apply bb3
 refine⟨x,rfl,bb3 (q _ ⟨_,bi3 _ e1 (Obj.isFreed_of_fields (Obj.data_mapFields e3 _)),?_,?_⟩ (bh6 ..))⟩
 ·rw [Obj.cls_mapFields]; exact e2
 ·rw [Obj.data_mapFields e3]; simp [rawInt]
theorem E9 {it t:Addr}{i:Nat}{items:Array Value}{Q:Value->Shared->Prop} (hh:A.handled=none) (hi:s.heap.IsTupleIter it t i) (ht:s.heap.IsTuple t items) (hx:items[i]? = none)
  (q:∀ h' e,Heap.ExtBut it s.heap h'->(∃ o,h'.get? e=some o/\o.cls = .type "StopIteration")->E (.ref e) { s with heap:=h' }):wpAny (model prog w) A (Builtin.SmallTypes.nextOf (.ref it)) Q E s:=by
 have T:=hi.typeIs
 obtain ⟨o,e1,e2,e3⟩:=hi
 obtain ⟨u,f1,_,k,f3⟩:=ht
 have slot:=PySem.F.slot_tuple_iterator_next
 have isref:(Value.ref t == Value.none)=false:=rfl
 unfold Builtin.SmallTypes.nextOf
 apply ba9
 apply bf3 (name:=Str.ofString "__next__") T slot
 apply be5 slot T PySem.F.entry_tuple_iterator_next _ (PySem.F.args_tuple_iterator_next_1 _)
 change wpAny _ _ (field (.ref it) 0 >>= _) _ _ s
 apply ba9
 refine bi4 e1 e3 (x:=.ref t) rfl ?_
 change wpAny _ _ (if (Value.ref t == Value.none)=true then _ else _) _ _ s
 simp only [isref,bd5,bh5]
 change wpAny _ _ (field (.ref it) 1 >>= _) _ _ s
 apply ba9
 refine bi4 e1 e3 (x:=.int i 0) rfl ?_
 change wpAny _ _ (seqItems? (.ref t) >>= _) _ _ s
 apply ba9
 apply bp9 f1 f3
 simp only [bi1,hx]
 apply ba9
 apply bn7
 apply ba9
 refine bm8 e1 e3 (by simp) ?_
 apply ba9
 simp only [newExc,newTuple]
 apply ba9
 refine be8 ?_ (by size_fits)
 apply ba9
 refine wpAny_of_eq (a:=Value.none) (by first | rfl | (simp only [firstArgMember]; rfl)) ?_
 refine be8 ?_ (by size_fits)
 unfold raiseNew
 apply ba9
 apply wpAny_handled
 have quiet:A.in1.handled=none:=hh
 rw [quiet]
 refine wpAny_throw ?_
 exact q _ _ (((bh6 ..).extBut.push _).push _) ⟨_,bb9 _ rfl,rfl⟩
theorem ar8 (hh:A.handled=none) (it t:Addr) (ne:t ≠ it) (items:Array Value):Draws prog w A it [it,t] items.size (fun i v=>items[i]? = some v) (fun i h=>h.IsTupleIter it t i/\h.IsTuple t items) where
 live:=fun _ _ st=>st.1.elim fun o y=>⟨o,y.1⟩
 frame:=fun _ _ _ st k=>⟨st.1.at fun o e=>k it bc2 o e,st.2.elim fun o y=>⟨o,k t (bc3 _ bc2) o y.1,y.2⟩⟩
 item:=fun i s Q E lt st q=>E8 st.1 st.2 (bg2 lt) fun h' again sb=>q _ h' s.toks (bg2 lt) ⟨again,st.2.elim fun o y=>⟨o,sb.extBut t o ne y.1,y.2⟩⟩ sb
 done:=fun s Q E st q=>E9 hh st.1 st.2 (bm9 (bb6 _)) q
end
structure Ap (z TI TO i1 i2:Addr) (fp1 fp2:List Addr):Prop where
 TIz:TI ≠ z
 TOz:TO ≠ z
 TITO:TI ≠ TO
 z1:z ∉ fp1
 z2:z ∉ fp2
 o1:TO ∉ fp1
 o2:TO ∉ fp2
 t1:TI ∉ fp1
 t2:TI ∉ fp2
 m1:i1 ∈ fp1
 m2:i2 ∈ fp2
 n1:i1 ∉ fp2
 n2:i2 ∉ fp1
structure uG (z TI TO i1 i2:Addr) (St1 St2:Nat->Heap->Prop) (f0:Value) (i j:Nat) (h:Heap):Prop where
 zz:IsZip h z TI TO f0
 ti:IsPair h TI (.ref i1) (.ref i2)
 to_:∃ a b,IsPair h TO a b
 s1:St1 i h
 s2:St2 j h
section
variable {prog : Program} {w : World} {A : Around} {E : Value → Shared → Prop} {s : Shared} {z TI TO i1 i2 : Addr} {fp1 fp2 : List Addr} {n1 n2 : Nat} {P1 P2 : Nat → Value → Prop} {St1 St2 : Nat → Heap → Prop}
theorem l9 (ap:Ap z TI TO i1 i2 fp1 fp2) {b:Addr} (h:b ∉ fp1):b ≠ i1:=fun e=>h (e ▸ ap.m1)
theorem pH (ap:Ap z TI TO i1 i2 fp1 fp2) {b:Addr} (h:b ∉ fp2):b ≠ i2:=fun e=>h (e ▸ ap.m2)
theorem item (D1:Draws prog w A.in1 i1 fp1 n1 P1 St1) (D2:Draws prog w A.in1 i2 fp2 n2 P2 St2) (ap:Ap z TI TO i1 i2 fp1 fp2) {i:Nat} (l1:i < n1) (l2:i < n2) (st:uG z TI TO i1 i2 St1 St2 .none i i s.heap) {Q:Option Value->Shared->Prop}
  (q:∀ x y h' tk,P1 i x->P2 i y->uG z TI TO i1 i2 St1 St2 (rawInt s.heap.objs.size) (i+1) (i+1) h'->IsPair h' s.heap.objs.size x y->(∀ c o,c ≠ z->c ≠ TO->c ≠ i1->c ≠ i2->s.heap.get? c=some o->h'.get? c=some o)->
   h'.objs.size=s.heap.objs.size+1->Q (some (.ref s.heap.objs.size)) { s with heap:=h',toks:=tk }):wpAny (model prog w) A (pyNext (.ref z)) Q E s:=by
 obtain ⟨hz,hti,⟨a,b,hto⟩,h1,h2⟩:=st
 have T:s.TypeIs (.ref z) "zip":=⟨_,hz,rfl⟩
 have slot:=PySem.F.slot_zip_next
 unfold pyNext
 apply ba9
 apply bo0
 apply bf3 (name:=Str.ofString "__next__") T slot
 apply be5 slot T PySem.F.entry_zip_next _ (PySem.F.args_zip_next_1 _)
 change wpAny _ _ (field (.ref z) 2 >>= _) _ _ _
 apply ba9
 refine bi4 hz rfl (x:=.bool false) rfl ?_
 change wpAny _ _ (field (.ref z) 3 >>= _) _ _ _
 apply ba9
 refine bi4 hz rfl (x:=.ref TI) rfl ?_
 apply ba9
 apply bp9 hti rfl
 change wpAny _ _ (Builtin.SmallTypes.ownedTupleIsFree (.ref z) >>= _) _ _ _
 apply ba9
 unfold Builtin.SmallTypes.ownedTupleIsFree
 apply ba9
 refine bi4 hz rfl (x:=.none) rfl (bb3 ?_)
 simp only [if_true]
 apply ba9
 apply bn7
 apply ba9
 refine bi4 hz rfl (x:=.ref TO) rfl ?_
 apply ba9
 refine bj0 hz (by simp) fun g1 hz1 sb1=>?_
 have k1:∀ c o,c ≠ z->s.heap.get? c=some o->g1.get? c=some o:=fun c o c1 e=>sb1.extBut c o c1 e
 apply ba9
 simp only [List.zipIdx_cons,List.zipIdx_nil,List.forIn_cons,List.forIn_nil]
 apply ba9
 apply ba9
 apply wpAny_onRaise
 change wpAny _ _ (Builtin.SmallTypes.nextOf (.ref i1) >>= _) _ _ _
 apply ba9
 refine D1.item i { s with heap:=g1 } _ _ l1 (D1.frame _ _ _ h1 fun c hc o e=>k1 c o (fun y=>ap.z1 (y ▸ hc)) e) fun x g2 tk2 px st1 sb2=>bb3 ?_
 have k2:∀ c o,c ≠ z->c ≠ i1->s.heap.get? c=some o->g2.get? c=some o:=fun c o c1 c2 e=>sb2.extBut c o c2 (k1 c o c1 e)
 have to2:IsPair g2 TO a b:=k2 _ _ ap.TOz (l9 ap ap.o1) hto
 apply ba9
 apply bp9 to2 rfl
 apply ba9
 refine wpAny_updateSeq_pair to2 fun g3 to3 sb3=>?_
 have to3:IsPair g3 TO x b:=to3
 apply ba9
 apply wpAny_letGo
 apply bb3
 apply ba9
 apply ba9
 apply wpAny_onRaise
 change wpAny _ _ (Builtin.SmallTypes.nextOf (.ref i2) >>= _) _ _ _
 apply ba9
 have k3:∀ c o,c ≠ z->c ≠ i1->c ≠ TO->s.heap.get? c=some o->g3.get? c=some o:=fun c o c1 c2 c3 e=>sb3.extBut c o c3 (k2 c o c1 c2 e)
 refine D2.item i { s with heap:=g3,toks:=tk2 } _ _ l2 (D2.frame _ _ _ h2 fun c hc o e=>k3 c o (fun y=>ap.z2 (y ▸ hc)) (fun y=>ap.n1 (y ▸ hc)) (fun y=>ap.o2 (y ▸ hc)) e) fun y g4 tk4 py st2 sb4=>bb3 ?_
 have to4:IsPair g4 TO x b:=sb4.extBut _ _ (pH ap ap.o2) to3
 apply ba9
 apply bp9 to4 rfl
 apply ba9
 refine wpAny_updateSeq_pair to4 fun g5 to5 sb5=>?_
 have to5:IsPair g5 TO x y:=to5
 apply ba9
 apply wpAny_letGo
 apply bb3
 apply bb3
 apply ba9
 apply bp9 to5 rfl
 apply ba9
 refine wpAny_newTuple ?_ (by show 2<=sizeLine; decide)
 have size:g5.objs.size=s.heap.objs.size:=by rw [sb5.1,sb4.1,sb3.1,sb2.1,sb1.1]
 have k5:∀ c o,c ≠ z->c ≠ TO->c ≠ i1->c ≠ i2->s.heap.get? c=some o->g5.get? c=some o:=fun c o c1 c2 c3 c4 e=>sb5.extBut c o c2 (sb4.extBut c o c4 (k3 c o c1 c3 c2 e))
 have z5:IsZip g5 z TI TO .ellipsis:=sb5.extBut _ _ (Ne.symm ap.TOz) (sb4.extBut _ _ (pH ap ap.z2) (sb3.extBut _ _ (Ne.symm ap.TOz) (sb2.extBut _ _ (l9 ap ap.z1) hz1)))
 change wpAny _ _ (Builtin.SmallTypes.ownedTupleHandOut (.ref z) (.ref g5.objs.size) >>= _) _ _ _
 apply ba9
 unfold Builtin.SmallTypes.ownedTupleHandOut
 apply ba9
 have z6:IsZip (g5.push { cls:=.type "tuple",data:=.seq #[x,y] }) z TI TO .ellipsis:=bb1 _ z5
 refine bj0 z6 (by simp) fun g7 z7 sb7=>?_
 have z7:IsZip g7 z TI TO (rawInt g5.objs.size):=z7
 refine bj0 z7 (by simp) fun g8 z8 sb8=>?_
 have z8:IsZip g8 z TI TO (rawInt g5.objs.size):=z8
 have zlt:z < g5.objs.size:=bc7 z5
 have up:∀ c o,c ≠ z->g5.get? c=some o->g8.get? c=some o:=fun c o c1 e=>sb8.extBut c o c1 (sb7.extBut c o c1 (bb1 _ e))
 have p8:IsPair g8 g5.objs.size x y:=sb8.extBut _ _ (bi2 zlt) (sb7.extBut _ _ (bi2 zlt) (bb9 _ rfl))
 have s8:g8.objs.size=g5.objs.size+1:=by rw [sb8.1,sb7.1,bl3]
 have f1:St1 (i+1) g8:=D1.frame _ _ _ st1 fun c hc o e=>up c o (fun y=>ap.z1 (y ▸ hc)) (sb5.extBut c o (fun y=>ap.o1 (y ▸ hc)) (sb4.extBut c o (fun y=>ap.n2 (y ▸ hc)) (sb3.extBut c o (fun y=>ap.o1 (y ▸ hc)) e)))
 have f2:St2 (i+1) g8:=D2.frame _ _ _ st2 fun c hc o e=>up c o (fun y=>ap.z2 (y ▸ hc)) (sb5.extBut c o (fun y=>ap.o2 (y ▸ hc)) e)
 have ti8:IsPair g8 TI (.ref i1) (.ref i2):=up _ _ ap.TIz (k5 _ _ ap.TIz ap.TITO (l9 ap ap.t1) (pH ap ap.t2) hti)
 rw [size] at z8 p8 s8
 apply bb3
 refine⟨_,rfl,bb3 ?_⟩
 change Q (some (.ref g5.objs.size)) _
 rw [size]
 exact q x y g8 tk4 px py ⟨z8,ti8,⟨x,y,up _ _ ap.TOz to5⟩,f1,f2⟩ p8 (fun c o c1 c2 c3 c4 e=>up c o c1 (k5 c o c1 c2 c3 c4 e)) s8
theorem fin (D1:Draws prog w A.in1 i1 fp1 n1 P1 St1) (D2:Draws prog w A.in1 i2 fp2 n2 P2 St2) (ap:Ap z TI TO i1 i2 fp1 fp2) {i:Nat} (le:i=n1 ∨ (i < n1/\i=n2)) (st:uG z TI TO i1 i2 St1 St2 .none i i s.heap) {Q:Option Value->Shared->Prop}
  (q:∀ h' tk,(∀ c o,c ≠ z->c ≠ TO->c ≠ i1->c ≠ i2->s.heap.get? c=some o->h'.get? c=some o)->Q none { s with heap:=h',toks:=tk }):wpAny (model prog w) A (pyNext (.ref z)) Q E s:=by
 obtain ⟨hz,hti,⟨a,b,hto⟩,h1,h2⟩:=st
 have T:s.TypeIs (.ref z) "zip":=⟨_,hz,rfl⟩
 have slot:=PySem.F.slot_zip_next
 unfold pyNext
 apply ba9
 apply bo0
 apply bf3 (name:=Str.ofString "__next__") T slot
 apply be5 slot T PySem.F.entry_zip_next _ (PySem.F.args_zip_next_1 _)
 change wpAny _ _ (field (.ref z) 2 >>= _) _ _ _
 apply ba9
 refine bi4 hz rfl (x:=.bool false) rfl ?_
 change wpAny _ _ (field (.ref z) 3 >>= _) _ _ _
 apply ba9
 refine bi4 hz rfl (x:=.ref TI) rfl ?_
 apply ba9
 apply bp9 hti rfl
 change wpAny _ _ (Builtin.SmallTypes.ownedTupleIsFree (.ref z) >>= _) _ _ _
 apply ba9
 unfold Builtin.SmallTypes.ownedTupleIsFree
 apply ba9
 refine bi4 hz rfl (x:=.none) rfl (bb3 ?_)
 simp only [if_true]
 apply ba9
 apply bn7
 apply ba9
 refine bi4 hz rfl (x:=.ref TO) rfl ?_
 apply ba9
 refine bj0 hz (by simp) fun g1 hz1 sb1=>?_
 have k1:∀ c o,c ≠ z->s.heap.get? c=some o->g1.get? c=some o:=fun c o c1 e=>sb1.extBut c o c1 e
 apply ba9
 simp only [List.zipIdx_cons,List.zipIdx_nil,List.forIn_cons,List.forIn_nil]
 apply ba9
 apply ba9
 apply wpAny_onRaise
 change wpAny _ _ (Builtin.SmallTypes.nextOf (.ref i1) >>= _) _ _ _
 apply ba9
 have z1:IsZip g1 z TI TO .ellipsis:=hz1
 rcases le with rfl | ⟨lt,rfl⟩
 ·refine D1.done { s with heap:=g1 } _ _ (D1.frame _ _ _ h1 fun c hc o e=>k1 c o (fun y=>ap.z1 (y ▸ hc)) e) fun g2 e eb ex=>?_
  have z2:IsZip g2 z TI TO .ellipsis:=eb _ _ (l9 ap ap.z1) z1
  refine bj0 z2 (by simp) fun g3 z3 sb3=>?_
  obtain ⟨oe,eo,co⟩:=ex
  have ne:e ≠ z:=fun y=>by
   rw [y,z2] at eo
   have:=be0 eo
   rw [<- this] at co; exact absurd (show Value.type "zip" = Value.type "StopIteration" from co) (by decide)
  apply ba9
  refine bp5 (T:="StopIteration") (b:=true) ⟨oe,sb3.extBut _ _ ne eo,co⟩ isSubtype_stop ?_
  exact bb3 (q g3 s.toks fun c o c1 _ c3 _ e=>sb3.extBut c o c1 (eb c o c3 (k1 c o c1 e)))
 ·refine D1.item i { s with heap:=g1 } _ _ lt (D1.frame _ _ _ h1 fun c hc o e=>k1 c o (fun y=>ap.z1 (y ▸ hc)) e) fun x g2 tk2 px st1 sb2=>bb3 ?_
  have k2:∀ c o,c ≠ z->c ≠ i1->s.heap.get? c=some o->g2.get? c=some o:=fun c o c1 c2 e=>sb2.extBut c o c2 (k1 c o c1 e)
  have to2:IsPair g2 TO a b:=k2 _ _ ap.TOz (l9 ap ap.o1) hto
  apply ba9
  apply bp9 to2 rfl
  apply ba9
  refine wpAny_updateSeq_pair to2 fun g3 to3 sb3=>?_
  apply ba9
  apply wpAny_letGo
  apply bb3
  apply ba9
  apply ba9
  apply wpAny_onRaise
  change wpAny _ _ (Builtin.SmallTypes.nextOf (.ref i2) >>= _) _ _ _
  apply ba9
  have k3:∀ c o,c ≠ z->c ≠ i1->c ≠ TO->s.heap.get? c=some o->g3.get? c=some o:=fun c o c1 c2 c3 e=>sb3.extBut c o c3 (k2 c o c1 c2 e)
  refine D2.done { s with heap:=g3,toks:=tk2 } _ _ (D2.frame _ _ _ h2 fun c hc o e=>k3 c o (fun y=>ap.z2 (y ▸ hc)) (fun y=>ap.n1 (y ▸ hc)) (fun y=>ap.o2 (y ▸ hc)) e) fun g4 e eb ex=>?_
  have z4:IsZip g4 z TI TO .ellipsis:=eb _ _ (pH ap ap.z2) (sb3.extBut _ _ (Ne.symm ap.TOz) (sb2.extBut _ _ (l9 ap ap.z1) z1))
  refine bj0 z4 (by simp) fun g5 z5 sb5=>?_
  obtain ⟨oe,eo,co⟩:=ex
  have ne:e ≠ z:=fun y=>by
   rw [y,z4] at eo
   have:=be0 eo
   rw [<- this] at co; exact absurd (show Value.type "zip" = Value.type "StopIteration" from co) (by decide)
  apply ba9
  refine bp5 (T:="StopIteration") (b:=true) ⟨oe,sb5.extBut _ _ ne eo,co⟩ isSubtype_stop ?_
  exact bb3 (q g5 tk2 fun c o c1 c2 c3 c4 e=>sb5.extBut c o c1 (eb c o c4 (k3 c o c1 c3 c2 e)))
end
def fV (h:Heap) (t u:Addr):Heap:=
 ((((h.push { cls:=.type "tuple_iterator",data:=.fields #[.ref t,.int 0 0] }).push { cls:=.type "tuple_iterator",data:=.fields #[.ref u,.int 0 0] }).push { cls:=.type "tuple",data:=.seq #[.ref h.objs.size,.ref (h.objs.size+1)] }).push
  { cls:=.type "tuple",data:=.seq #[.none,.none] }).push { cls:=.type "zip",data:=.fields #[.none,.bool false,.bool false,.ref (h.objs.size+2),.ref (h.objs.size+3)] }
theorem ar9 (t u:Addr) (xs ys:Array Value):Meets (Builtin.«zip.__new__» ⟨[.type "zip",.ref t,.ref u],[]⟩) (fun _ R s=>s.heap.IsTuple t xs/\s.heap.IsTuple u ys/\R (.ok (.ret (.ref (s.heap.objs.size+4)))) { s with heap:=fV s.heap t u }):=
 .of_wp fun prog w A R s h=>by
  obtain ⟨hp,g,d,tk,os⟩:=s
  obtain ⟨ht,hu,h⟩:=h
  have sub:=sub_zip
  have a1:Heap.IsTuple (Shared.heap ⟨hp,g,d,tk,os⟩) t xs:=ht
  have a2:Heap.IsTuple (Shared.heap ⟨hp.push { cls:=.type "tuple_iterator",data:=.fields #[.ref t,.int 0 0] },g,d,tk,os⟩) u ys:=hu.elim fun o y=>⟨o,bb1 _ y.1,y.2⟩
  wp_walk using bn6 a1,bn6 a2
  have e:∀ (o:Obj) (k:Heap),(k.push o).objs.size=k.objs.size+1:=fun o k=>bl3 ..
  refine⟨_,rfl,?_⟩
  simp only [fV,e] at h ⊢
  exact h
section
variable {prog : Program} {w : World} {A : Around} {E : Value → Shared → Prop} {s : Shared}
theorem as0 {t u:Addr}{xs ys:Array Value}{Q:Value->Shared->Prop} (ht:s.heap.IsTuple t xs) (hu:s.heap.IsTuple u ys)
  (q:∀ h',IsZip h' (s.heap.objs.size+4) (s.heap.objs.size+2) (s.heap.objs.size+3) .none->IsPair h' (s.heap.objs.size+2) (.ref s.heap.objs.size) (.ref (s.heap.objs.size+1))->
   IsPair h' (s.heap.objs.size+3) .none .none->h'.IsTupleIter s.heap.objs.size t 0->h'.IsTupleIter (s.heap.objs.size+1) u 0->(∀ c o,s.heap.get? c=some o->h'.get? c=some o)->Q (.ref (s.heap.objs.size+4)) { s with heap:=h' }) :
  wpAny (model prog w) A (call (.type "zip") [.ref t,.ref u]) Q E s:=by
 refine callType_new PySem.F.called_zip (by decide) (PySem.F.typeCall_zip_2 _ _) (PySem.F.newCall_zip_2 _ _) (fun obj=>PySem.F.args_object_init_3 obj _ _) PySem.F.entry_zip_new (ar9 t u xs ys) ⟨ht,hu,?_⟩
 have e:∀ (o:Obj) (k:Heap),(k.push o).objs.size=k.objs.size+1:=fun o k=>bl3 ..
 have p0:∀ (k:Heap) (o:Obj) (m:Nat),o.isFreed=false->m=k.objs.size->(k.push o).get? m=some o:=fun k o m f z=>by rw [z]; exact bb9 _ f
 have g0:(fV s.heap t u).get? s.heap.objs.size=some { cls:=.type "tuple_iterator",data:=.fields #[.ref t,.int 0 0] }:=by
  unfold fV
  exact bb1 _ (bb1 _ (bb1 _ (bb1 _ (p0 _ _ _ rfl rfl))))
 have g1:(fV s.heap t u).get? (s.heap.objs.size+1)=some { cls:=.type "tuple_iterator",data:=.fields #[.ref u,.int 0 0] }:=by
  unfold fV
  exact bb1 _ (bb1 _ (bb1 _ (p0 _ _ _ rfl (by simp only [e]))))
 have g2:(fV s.heap t u).get? (s.heap.objs.size+2)=some { cls:=.type "tuple",data:=.seq #[.ref s.heap.objs.size,.ref (s.heap.objs.size+1)] }:=by
  unfold fV
  exact bb1 _ (bb1 _ (p0 _ _ _ rfl (by simp only [e])))
 have g3:(fV s.heap t u).get? (s.heap.objs.size+3)=some { cls:=.type "tuple",data:=.seq #[.none,.none] }:=by
  unfold fV
  exact bb1 _ (p0 _ _ _ rfl (by simp only [e]))
 have g4:(fV s.heap t u).get? (s.heap.objs.size+4)=some { cls:=.type "zip",data:=.fields #[.none,.bool false,.bool false,.ref (s.heap.objs.size+2),.ref (s.heap.objs.size+3)] }:=by
  unfold fV
  exact p0 _ _ _ rfl (by simp only [e])
 refine⟨⟨_,g4,rfl⟩,q _ g4 g2 g3 ⟨_,g0,rfl,rfl⟩ ⟨_,g1,rfl,rfl⟩ fun c o z=>?_⟩
 unfold fV
 exact bb1 _ (bb1 _ (bb1 _ (bb1 _ (bb1 _ z))))
end
end Zp
namespace L2
open PySem PySem.Spec PyProof.Rows
def uH (K:PySem.W.Frag) (a b:Addr):It:=
  ⟨fun i H=>∃ xs ys x y,aI K H a xs/\aI K H b ys/\xs[i]? = some x/\ys[i]? = some y,
   fun i H v H'=>∃ T x y,H T=none/\v = .ref T/\H'=upd H T (.tup [x,y])/\∀ xs ys,aI K H a xs->aI K H b ys->xs[i]? = some x/\ys[i]? = some y,
   fun i H=>∃ xs ys,aI K H a xs/\aI K H b ys/\(i=xs.length ∨ (i < xs.length/\i=ys.length))⟩
def Sq (t:Bool) (K:PySem.W.Frag) (H:Hp) (a:Addr) (xs:List V):Prop:=match t with
 | true=>aI K H a xs
 | false=>aL K H a xs
def fW (t:Bool) (h:Heap) (i a:Addr) (n:Nat):Prop:=match t with
 | true=>h.IsTupleIter i a n
 | false=>h.IsListIter i a n
def F0 (t:Bool) (h:Heap) (a:Addr) (xs:Array Value):Prop:=match t with
 | true=>h.IsTuple a xs
 | false=>h.IsList a xs
theorem fW.at {h h':Heap}{i a:Addr}{n:Nat}:∀ {t:Bool},fW t h i a n->(∀ o,h.get? i=some o->h'.get? i=some o)->fW t h' i a n
 | true,x,k=>Heap.IsTupleIter.at x k
 | false,x,k=>Heap.IsListIter.at x k
theorem fW.ob {h:Heap}{i a:Addr}{n:Nat}:∀ {t:Bool},fW t h i a n->∃ o,h.get? i=some o/\∀ v,o.data ≠ .cell v
 | true,⟨o,f,_,d⟩=>⟨o,f,fun v q=>by rw [d] at q; cases q⟩
 | false,⟨o,f,_,d⟩=>⟨o,f,fun v q=>by rw [d] at q; cases q⟩
theorem fW.draws {prog:Program}{w:World}{A:Around}:∀ (t:Bool) (hh:A.handled=none) (it a:Addr) (ne:a ≠ it) (items:Array Value),Draws prog w A it [it,a] items.size (fun i v=>items[i]? = some v) (fun i h=>fW t h it a i/\F0 t h a items)
 | true,hh,it,a,ne,items=>Zp.ar8 hh it a ne items
 | false,hh,it,a,ne,items=>Draws.list hh it a ne items
section
variable {X : Cx} {pins : List (Addr × Obj)} {σ : St} {H : Hp} {s : Shared} {a : Addr} {xs ys : List V}
theorem Sq.get (I:a6 X pins σ H s):∀ {t:Bool},Sq t X.K H a xs->∃ us,aJ xs us/\F0 t s.heap a us.toArray
 | true,h=>by obtain ⟨us,r,p,_⟩:=I.tuple h; exact⟨us,r,p⟩
 | false,h=>by obtain ⟨us,r,p,_⟩:=I.list h; exact⟨us,r,p.isList⟩
theorem Sq.inj (I:a6 X pins σ H s):∀ {t:Bool},Sq t X.K H a xs->Sq t X.K H a ys->xs=ys
 | true,h,g=>I.tuple_inj h g
 | false,h,g=>I.list_inj h g
theorem Sq.off (I:a6 X pins σ H s) (he:H a=none) (hb:X.base.get? a=none):∀ {t:Bool},Sq t X.K H a xs->False
 | true,h=>by
  rcases h with (h | ⟨_,h⟩) | ⟨o,_,_,h,_⟩
  ·rw [he] at h; cases h
  ·rw [he] at h; cases h
  ·have:=I.ok.mod.kin a o h
   rw [hb] at this; cases this
 | false,h=>by
  rcases h with (h | ⟨_,h⟩) | ⟨o,_,_,h,_⟩
  ·rw [he] at h; cases h
  ·rw [he] at h; cases h
  ·have:=I.ok.mod.kin a o h
   rw [hb] at this; cases this
end
def as1 (t1 t2:Bool) (K:PySem.W.Frag) (a b:Addr):It:=
  ⟨fun i H=>∃ xs ys x y,Sq t1 K H a xs/\Sq t2 K H b ys/\xs[i]? = some x/\ys[i]? = some y,
   fun i H v H'=>∃ T x y,H T=none/\v = .ref T/\H'=upd H T (.tup [x,y])/\∀ xs ys,Sq t1 K H a xs->Sq t2 K H b ys->xs[i]? = some x/\ys[i]? = some y,
   fun i H=>∃ xs ys,Sq t1 K H a xs/\Sq t2 K H b ys/\(i=xs.length ∨ (i < xs.length/\i=ys.length))⟩
structure uI (t1 t2:Bool) (z TI TO i1 i2 a b:Addr) (i:Nat) (h:Heap):Prop where
 zz:IsZip h z TI TO .none
 ti:IsPair h TI (.ref i1) (.ref i2)
 to_:∃ x y,IsPair h TO x y
 s1:fW t1 h i1 a i
 s2:fW t2 h i2 b i
theorem F1 (t1 t2:Bool) {P:Program}{w:World}{K:PySem.W.Frag}{elts:List Expr}{k:Nat}{pos:Pos} (a b z TI TO i1 i2:Addr) (d : [z,TI,TO,i1,i2].Nodup) :
  gP P w K (.Tuple elts k pos) (as1 t1 t2 K a b) [z,TI,TO,i1,i2] z (uI t1 t2 z TI TO i1 i2 a b):=by
 have nd:z ≠ TI/\z ≠ TO/\z ≠ i1/\z ≠ i2/\TI ≠ TO/\TI ≠ i1/\TI ≠ i2/\TO ≠ i1/\TO ≠ i2/\i1 ≠ i2:=by
  simp only [bq3,bb8,bd3,bi0,not_or] at d
  obtain ⟨⟨a1,a2,a3,a4⟩,⟨b1,b2,b3⟩,⟨c1,c2⟩,e1,_⟩:=d
  exact⟨a1,a2,a3,a4,b1,b2,b3,c1,c2,e1⟩
 obtain ⟨n1,n2,n3,n4,n5,n6,n7,n8,n9,n10⟩:=nd
 have offBase:∀ {X:Cx}{pins:List (Addr × Obj)}{σ:St}{H:Hp}{s:Shared},a6 X pins σ H s->(∀ c ∈ [z,TI,TO,i1,i2],fS X pins H c)->∀ c ∈ [z,TI,TO,i1,i2],X.base.get? c=none:=by
  intro X pins σ H s I hf c hc
  cases q:X.base.get? c with
  | none=>rfl
  | some o=>
   rcases (hf c hc).2.2.2.1 with h | h
   ·exact absurd h (I.ok.noex c o q)
   ·exact absurd (bd0 (bc7 q) (bf6 I.ok.bsz h)) (bg0 _)
 have off:∀ {t:Bool}{X:Cx}{pins:List (Addr × Obj)}{σ:St}{H:Hp}{s:Shared}{c:Addr}{zs:List V},a6 X pins σ H s->(∀ c ∈ [z,TI,TO,i1,i2],fS X pins H c)->Sq t X.K H c zs->c ∉ [z,TI,TO,i1,i2]:=by
  intro t X pins σ H s c zs I hf hc hm
  exact Sq.off I (hf c hm).1 (offBase I hf c hm) hc
 have ap:∀ {c e:Addr},c ∉ [z,TI,TO,i1,i2]->e ∉ [z,TI,TO,i1,i2]->Zp.Ap z TI TO i1 i2 [i1,c] [i2,e]:=fun {c e} hc he=>by
  simp only [bb8,bd3,bi0,not_or] at hc he
  obtain ⟨c1,c2,c3,c4,c5⟩:=hc
  obtain ⟨e1,e2,e3,e4,e5⟩:=he
  have two:∀ {q u v:Addr},q ≠ u->q ≠ v->q ∉ [u,v]:=fun {q u v} h1 h2 hm=>by
   simp only [bb8,bd3,bi0] at hm
   exact hm.elim h1 h2
  exact⟨n1.symm,n2.symm,n5,two n3 (Ne.symm c1),two n4 (Ne.symm e1),two n8 (Ne.symm c3),two n9 (Ne.symm e3),two n6 (Ne.symm c2),two n7 (Ne.symm e2),bc2,bc2,two n10 (Ne.symm e4),two n10.symm (Ne.symm c5)⟩
 refine⟨by simp,fun i h st c hc=>?_,fun i h h' st kp=>?_,?_,?_,fun A i s Q E st q=>wpAny_pyIter_zip st.zz q⟩
 ·simp only [bb8,bd3,bi0] at hc
  obtain ⟨x,y,to⟩:=st.to_
  rcases hc with rfl | rfl | rfl | rfl | rfl
  ·exact⟨_,st.zz,fun v q=>by cases q⟩
  ·exact⟨_,st.ti,fun v q=>by cases q⟩
  ·exact⟨_,to,fun v q=>by cases q⟩
  ·exact st.s1.ob
  ·exact st.s2.ob
 ·obtain ⟨x,y,to⟩:=st.to_
  exact⟨kp z (by simp) _ st.zz,kp TI (by simp) _ st.ti,⟨x,y,kp TO (by simp) _ to⟩,st.s1.at fun o e=>kp i1 (by simp) o e,st.s2.at fun o e=>kp i2 (by simp) o e⟩
 ·
  intro X hP hw hK hc i pins s σ H E I hf st hg
  subst hP hw hK
  obtain ⟨xs,ys,x,y,ha,hb,hx,hy⟩:=hg
  obtain ⟨us,ru,pu⟩:=Sq.get I ha
  obtain ⟨vs,rv,pv'⟩:=Sq.get I hb
  obtain ⟨ux,eux,rux⟩:=ru.get hx
  obtain ⟨vy,evy,rvy⟩:=rv.get hy
  have fa:=off I hf ha
  have fb:=off I hf hb
  have hh:X.A.in1.handled=none:=I.ok.hd hc
  have l1:i < us.toArray.size:=by simpa using (bc5.mp eux).1
  have l2:i < vs.toArray.size:=by simpa using (bc5.mp evy).1
  have fa':a ≠ i1:=fun q=>fa (by rw [q]; simp)
  have fb':b ≠ i2:=fun q=>fb (by rw [q]; simp)
  have D1:=fW.draws t1 (prog:=X.prog) (w:=X.w) hh i1 a fa' us.toArray
  have D2:=fW.draws t2 (prog:=X.prog) (w:=X.w) hh i2 b fb' vs.toArray
  refine Zp.item D1 D2 (ap fa fb) l1 l2 ⟨st.zz,st.ti,st.to_,⟨st.s1,pu⟩,⟨st.s2,pv'⟩⟩ fun p q h' tk hp hq st' pr kp sz=>⟨_,rfl,?_⟩
  obtain rfl:p=ux:=by
   have:us.toArray[i]? = some ux:=by simpa using eux
   rw [this] at hp; exact (be0 hp).symm
  obtain rfl:q=vy:=by
   have:vs.toArray[i]? = some vy:=by simpa using evy
   rw [this] at hq; exact (be0 hq).symm
  refine wpAny_letOwnedTupleGo_zip (s:={ s with heap:=h',toks:=tk }) st'.zz fun g zz sb=>?_
  have hzl:z < s.heap.objs.size:=bc7 st.zz
  have up:∀ c o,c ≠ z->c ≠ TO->c ≠ i1->c ≠ i2->s.heap.get? c=some o->g.get? c=some o:=fun c o c1 c2 c3 c4 e=>sb.extBut c o c1 (kp c o c1 c2 c3 c4 e)
  have hT:H s.heap.objs.size=none:=I.hok.fresh (bb6 _)
  have prG:IsPair g s.heap.objs.size p q:=sb.extBut _ _ (bi2 hzl) pr
  have fpn:∀ c u,H c=some u->c ∉ [z,TI,TO,i1,i2]:=fun c u e hm=>by rw [(hf c hm).1] at e; cases e
  have upH:∀ c o u,H c=some u->s.heap.get? c=some o->g.get? c=some o:=fun c o u e z=>by
   have:=fpn c u e
   simp only [bb8,bd3,bi0,not_or] at this
   exact up c o this.1 this.2.2.1 this.2.2.2.1 this.2.2.2.2 z
  have ns:∀ m,s.heap.Ns X.env.locals m->g.Ns X.env.locals m:=fun m hm=>by
   obtain ⟨o,es,ep,e1,e2⟩:=hm
   exact⟨o,es,ep,up _ o (Ne.symm (hf z (by simp)).2.1) (Ne.symm (hf TO (by simp)).2.1) (Ne.symm (hf i1 (by simp)).2.1) (Ne.symm (hf i2 (by simp)).2.1) e1,e2⟩
  have I2:a6 X pins σ (upd H s.heap.objs.size (.tup [x,y])) { s with heap:=g,toks:=tk }:=by
   refine I.step (g':=s.gens) (d':=s.drawn) (ch:=[z,TO,i1,i2]) (fun c hc'=>?_) (fun c o _ _ hc' e _=>?_) (fun c o _ _ hc' e _=>⟨o.slots,?_⟩) (fun c o _ e n=>?_) (fun c o hc' e=>⟨o,?_⟩)
    (fun c zs e=>by rw [aH (cA e hT)]; exact e) (fun c u zs e=>by rw [aH (cA e hT)]; exact e) (fun c ps e=>⟨#[],by rw [aH (cA e hT),e]; simp⟩) ns (fun c u e=>?_) I.bare
   ·have hm:c ∈ [z,TI,TO,i1,i2]:=by
     simp only [bb8,bd3,bi0] at hc' ⊢
     rcases hc' with h | h | h | h <;> simp [h]
    exact⟨(hf c hm).2.2.2.1,(hf c hm).2.1,(hf c hm).2.2.2.2.1,(hf c hm).2.2.2.2.2⟩
   ·simp only [bb8,bd3,bi0,not_or] at hc'
    exact up c o hc'.1 hc'.2.1 hc'.2.2.1 hc'.2.2.2 e
   ·simp only [bb8,bd3,bi0,not_or] at hc'
    exact up c o hc'.1 hc'.2.1 hc'.2.2.1 hc'.2.2.2 e
   ·rw [aH (be3 (bc7 e))]; exact n
   ·simp only [bb8,bd3,bi0,not_or] at hc'
    exact up c o hc'.1 hc'.2.1 hc'.2.2.1 hc'.2.2.2 e
   ·by_cases hcT:c=s.heap.objs.size
    ·subst hcT
     rw [aW] at e; cases e
     exact⟨by show 2<=sizeLine; decide,[p,q],.cons rux (.cons rvy .nil),⟨_,prG,rfl,_,rfl⟩,fun u e=>by rw [prG] at e; cases e; rfl⟩
    ·rw [aH hcT] at e
     refine (I.hok c u e).stay (fun c' o' hc2 q'=>?_) (fun c' q'=>by rw [aH (cA q' hT)]; exact q') fun c' zs q'=>by rw [aH (cA q' hT)]; exact q'
     rcases hc2 with rfl | hc2
     ·exact upH _ _ _ e q'
     ·exact upH _ _ _ hc2 q'
  obtain ⟨x',y',to'⟩:=st'.to_
  refine⟨.ref s.heap.objs.size,_,I2,rfl,⟨_,x,y,hT,rfl,rfl,fun xs' ys' ha' hb'=>?_⟩,⟨zz,sb.extBut _ _ n1.symm st'.ti,⟨x',y',sb.extBut _ _ n2.symm to'⟩,st'.s1.1.at fun o e=>sb.extBut _ o n3.symm e,st'.s2.1.at fun o e=>sb.extBut _ o n4.symm e⟩,fun c hc'=>?_⟩
  ·rw [Sq.inj I ha' ha,Sq.inj I hb' hb]; exact⟨hx,hy⟩
  ·obtain ⟨o,e,_⟩:∃ o,s.heap.get? c=some o/\True:=by
    simp only [bb8,bd3,bi0] at hc'
    obtain ⟨x2,y2,to2⟩:=st.to_
    obtain ⟨o1,f1,_⟩:=st.s1.ob
    obtain ⟨o2,f2,_⟩:=st.s2.ob
    rcases hc' with rfl | rfl | rfl | rfl | rfl
    ·exact⟨_,st.zz,trivial⟩
    ·exact⟨_,st.ti,trivial⟩
    ·exact⟨_,to2,trivial⟩
    ·exact⟨_,f1,trivial⟩
    ·exact⟨_,f2,trivial⟩
   rw [aH (be3 (bc7 e))]; exact (hf c hc').1
 ·
  intro X hP hw hK hc i pins s σ H E I hf st hg
  subst hP hw hK
  obtain ⟨xs,ys,ha,hb,hi⟩:=hg
  obtain ⟨us,ru,pu⟩:=Sq.get I ha
  obtain ⟨vs,rv,pv'⟩:=Sq.get I hb
  have fa:=off I hf ha
  have fb:=off I hf hb
  have hh:X.A.in1.handled=none:=I.ok.hd hc
  have fa':a ≠ i1:=fun q=>fa (by rw [q]; simp)
  have fb':b ≠ i2:=fun q=>fb (by rw [q]; simp)
  have D1:=fW.draws t1 (prog:=X.prog) (w:=X.w) hh i1 a fa' us.toArray
  have D2:=fW.draws t2 (prog:=X.prog) (w:=X.w) hh i2 b fb' vs.toArray
  have e1:=ru.length
  have e2:=rv.length
  refine Zp.fin D1 D2 (ap fa fb) (by simp only [bb5]; omega) ⟨st.zz,st.ti,st.to_,⟨st.s1,pu⟩,⟨st.s2,pv'⟩⟩ fun g tk kp=>⟨rfl,?_⟩
  have fpn:∀ c u,H c=some u->c ∉ [z,TI,TO,i1,i2]:=fun c u e hm=>by rw [(hf c hm).1] at e; cases e
  have upH:∀ c o u,H c=some u->s.heap.get? c=some o->g.get? c=some o:=fun c o u e z=>by
   have:=fpn c u e
   simp only [bb8,bd3,bi0,not_or] at this
   exact kp c o this.1 this.2.2.1 this.2.2.2.1 this.2.2.2.2 z
  have ns:∀ m,s.heap.Ns X.env.locals m->g.Ns X.env.locals m:=fun m hm=>by
   obtain ⟨o,es,ep,e1,e2⟩:=hm
   exact⟨o,es,ep,kp _ o (Ne.symm (hf z (by simp)).2.1) (Ne.symm (hf TO (by simp)).2.1) (Ne.symm (hf i1 (by simp)).2.1) (Ne.symm (hf i2 (by simp)).2.1) e1,e2⟩
  refine I.step (g':=s.gens) (d':=s.drawn) (ch:=[z,TO,i1,i2]) (fun c hc'=>?_) (fun c o _ _ hc' e _=>?_) (fun c o _ _ hc' e _=>⟨o.slots,?_⟩) (fun c o _ e n=>n) (fun c o hc' e=>⟨o,?_⟩)
   (fun c zs e=>e) (fun c u zs e=>e) (fun c ps e=>⟨#[],by rw [e]; simp⟩) ns (fun c u e=>?_) I.bare
  ·have hm:c ∈ [z,TI,TO,i1,i2]:=by
    simp only [bb8,bd3,bi0] at hc' ⊢
    rcases hc' with h | h | h | h <;> simp [h]
   exact⟨(hf c hm).2.2.2.1,(hf c hm).2.1,(hf c hm).2.2.2.2.1,(hf c hm).2.2.2.2.2⟩
  ·simp only [bb8,bd3,bi0,not_or] at hc'
   exact kp c o hc'.1 hc'.2.1 hc'.2.2.1 hc'.2.2.2 e
  ·simp only [bb8,bd3,bi0,not_or] at hc'
   exact kp c o hc'.1 hc'.2.1 hc'.2.2.1 hc'.2.2.2 e
  ·simp only [bb8,bd3,bi0,not_or] at hc'
   exact kp c o hc'.1 hc'.2.1 hc'.2.2.1 hc'.2.2.2 e
  ·refine (I.hok c u e).stay (fun c' o' hc2 q'=>?_) (fun _ q'=>q') fun _ _ q'=>q'
   rcases hc2 with rfl | hc2
   ·exact upH _ _ _ e q'
   ·exact upH _ _ _ hc2 q'
abbrev as2:=uI true true
theorem as3 {P:Program}{w:World}{K:PySem.W.Frag}{elts:List Expr}{k:Nat}{pos:Pos} (a b z TI TO i1 i2:Addr) (d : [z,TI,TO,i1,i2].Nodup) :
  gP P w K (.Tuple elts k pos) (uH K a b) [z,TI,TO,i1,i2] z (as2 z TI TO i1 i2 a b):=F1 true true a b z TI TO i1 i2 d
section
variable {X : Cx}
theorem as4 (hc:X.calm=true):cP X (.builtin "all") (fun xs H Q=>∃ (a:Addr) (bs:List Bool),xs = [.ref a]/\aL X.K H a (bs.map V.bl)/\Q (.bl (bs.all id)) H):=by
 intro pins s σ H xs us Q I r h
 obtain ⟨a,bs,rfl,hq,q⟩:=h
 obtain ⟨u,rfl,ru⟩:=fD r
 cases ru
 obtain ⟨its,rv,p,hz⟩:=I.list hq
 have hl:=rv.length
 rw [bb4] at hl
 have hlt:a < s.heap.objs.size:=by obtain ⟨o,e,_⟩:=p.isList; exact bc7 e
 refine call_all_walk (wpAny_pyIter_list p.isList ?_)
 have hh:X.A.in1.handled=none:=I.ok.hd hc
 refine⟨s.heap.objs.size,_,_,_,_,_,fun i=>bs.getD i false,rfl,Walks.list hh s.heap.objs.size a (be3 hlt) its.toArray,⟨⟨_,bb9 _ rfl,rfl,rfl⟩,p.isList.push _⟩,?_,fun h' tk kp=>?_⟩
 ·intro i v s' Q' E' hP hQ'
  have hi:its[i]? = some v:=by simpa using hP
  have hil:i < bs.length:=by rw [hl]; exact (bc5.mp hi).1
  obtain ⟨u,e1,e2⟩:=rv.get (i:=i) (x:=.bl bs[i]) (by simp [hil])
  rw [hi] at e1; cases e1
  cases e2
  have:bs.getD i false=bs[i]:=by rw [bc0,bb2 hil]; rfl
  have hQ2:Q' (bs.getD i false) s':=hQ'
  rw [this] at hQ2
  exact bq5 hQ2
 ·have all_eq:(List.range its.toArray.size).all (fun i=>bs.getD i false)=bs.all id:=by
   rw [bb5,<- hl]
   clear q rv hz hl hq hlt p hh kp
   induction bs with
   | nil=>rfl
   | cons b r ih=>
    rw [be4,List.range_succ_eq_map,bp2,List.all_map,bp2,<- ih]
    rfl
  rw [all_eq]
  refine⟨.bl (bs.all id),H,I.kept (t':=tk) (h':=h') fun b o e=>kp b o (fun z=>?_) (bb1 _ e),rfl,q⟩
  rw [bc1.mp z] at e
  exact absurd (bc7 e) (bg0 _)
end
end L2
namespace HT
open PySem PyProof.Rows
section
variable {prog : Program} {w : World} {A : Around} {E : Value → Shared → Prop} {s : Shared}
theorem as5 {t sl:Addr}{items:Array Value}{vl vu:Value}{lo hi:Option Int}{Q:Value->Shared->Prop} (ht:IsTup s.heap t items) (hs:s.heap.IsSliceOf sl vl vu .none) (pl:IsPart vl lo) (pu:IsPart vu hi)
  (h1:aT items.size 0 lo=0) (h2:aT items.size items.size hi=items.size) (h:Q (.ref t) s):wpAny (model prog w) A (getItem (.ref t) (.ref sl)) Q E s:=by
 obtain ⟨o,e1,e2,e3⟩:=id hs
 have T:s.TypeIs (.ref sl) "slice":=⟨o,e1,e2⟩
 unfold getItem
 try with_reducible refine bj9 ?_
 first | refine ba9 (bb3 ?_) | skip
 apply ba9
 apply wpAny_sequenceKey ht.typeIs (by decide)
 apply ba9
 apply bf3 (name:=Str.ofString "__getitem__") ht.typeIs bn2
 apply be5 bn2 ht.typeIs entry_tuple_getitem _ (args_tuple_getitem _ _)
 change wpAny _ _ (Builtin.Tuple.tupleItemsOf (.ref t) >>= _) _ _ s
 apply ba9
 apply tupleItemsOf_ ht
 apply ba9
 apply wpAny_typeOf T
 rw [if_pos (by decide)]
 apply ba9
 apply zL hs pl pu
 rw [h1,h2]
 have yes:((((0:Nat):Int) == 0 && (1:Int) == 1 && (items.size - 0) == items.size)=true):=by simp
 change wpAny _ _ (if ((((0:Nat):Int) == 0 && (1:Int) == 1 && (items.size - 0) == items.size)=true) then _ else _) _ _ s
 rw [if_pos yes]
 apply ba9
 unfold Builtin.Tuple.tupleIsExact
 apply ba9
 apply wpAny_typeOf ht.typeIs
 apply bb3
 change wpAny _ _ (rule "tuple.getitem.whole" >>= fun _=>ret (Value.ref t)) _ _ s
 apply ba9
 apply bn7
 exact bb3 ⟨_,rfl,bb3 h⟩
end
end HT
namespace L2
open PySem PySem.Spec PyProof.Rows
section
variable {X : Cx}
def as6 (K:PySem.W.Frag):V->Option Int->Option Int->Hp->VK->Prop:=fun x lo hi H Q=>∃ a xs,x = .ref a/\aI K H a xs/\(∀ p,H p=none->Q (.ref p) (upd H p (.tup (gS xs lo hi))))/\(gS xs lo hi=xs->Q (.ref a) H)
theorem as7:jL X (as6 X.K):=by
 intro pins s σ H x v vl vu lo hi sl Q I rx hs pl pu h
 obtain ⟨a,xs,ex,hx,q1,q2⟩:=h
 by_cases hw:HT.aT xs.length 0 lo=0/\HT.aT xs.length xs.length hi=xs.length
 ·subst ex
  cases rx
  obtain ⟨its,r,ht,hz⟩:=I.tuple hx
  have hlen:its.toArray.size=xs.length:=by rw [bb5]; exact r.length.symm
  refine⟨"tuple",_,PyProof.Rows.slot_tuple_getitem.lookup,ht.typeIs,?_⟩
  refine HT.as5 ht hs pl pu (by rw [hlen]; exact hw.1) (by rw [hlen]; exact hw.2) ⟨.ref a,H,I,rfl,q2 ?_⟩
  unfold gS
  rw [hw.1,hw.2]
  simp
 ·exact al2 pins s σ H x v vl vu lo hi sl Q I rx hs pl pu ⟨a,xs,ex,hx,hw,q1⟩
end
def uJ (K:PySem.W.Frag) (a b:Addr):It:=
  ⟨fun i H=>∃ xs ys x y,aL K H a xs/\aL K H b ys/\xs[i]? = some x/\ys[i]? = some y,
   fun i H v H'=>∃ T x y,H T=none/\v = .ref T/\H'=upd H T (.tup [x,y])/\∀ xs ys,aL K H a xs->aL K H b ys->xs[i]? = some x/\ys[i]? = some y,
   fun i H=>∃ xs ys,aL K H a xs/\aL K H b ys/\(i=xs.length ∨ (i < xs.length/\i=ys.length))⟩
abbrev as8:=uI false false
theorem as9 {P:Program}{w:World}{K:PySem.W.Frag}{elts:List Expr}{k:Nat}{pos:Pos} (a b z TI TO i1 i2:Addr) (d : [z,TI,TO,i1,i2].Nodup) :
  gP P w K (.Tuple elts k pos) (uJ K a b) [z,TI,TO,i1,i2] z (as8 z TI TO i1 i2 a b):=F1 false false a b z TI TO i1 i2 d
section
variable {X : Cx} {pins : List (Addr × Obj)} {σ : St} {H : Hp} {s : Shared} {a b : Addr} {A : Around} {E : Value → Shared → Prop}
theorem at0 {kvs more:List (aA × V)}{Q:Value->Shared->Prop} (I:a6 X pins σ H s) (ea:H a=some (.dK kvs)) (eb:H b=some (.dK more)) (hne:a ≠ b) (hl:kvs.length+more.length<=sizeLine)
  (h:∀ s',a6 X pins σ (upd H a (.dK (kA kvs more))) s'->Q .none s'):wpAny (model X.prog X.w) A (call (.builtin "dict.update") [.ref a,.ref b]) Q E s:=by
 obtain ⟨z,hd,vs,rel,dd⟩:=tO I.hok ea
 obtain ⟨z2,hd2,rs,rel2,dd2⟩:=tO I.hok eb
 have l1:=rel.length
 have l2:=rel2.length
 refine call_meetsIn PySem.F.slot_dict_update dd.typeIs PySem.F.entry_dict_update (PySem.F.args_dict_update_2 _ _) (meets_dict_update (eU X.prog X.w) a b hne hd2) ⟨vs,rs,dd,dd2,by omega,fun h' dd' _ hs=>h _ ?_⟩
 have he:∃ q,h'.get? a=some q:=let ⟨q,_,_,hq,_⟩:=dd'; ⟨q,hq⟩
 refine tP I (by rw [ea]; exact True.intro) hs he (A2 ?_ hd (rel2.merge rel) dd')
 have:=A9 more kvs
 omega
end
def F3 (td ty:TE):TE:=fun σ H Q=>td σ H fun x H1=>∃ a,x = .ref a/\B0 H1 a/\ty σ H1 fun y H2=>∃ (b:Addr) (kvs more:List (aA × V)),y = .ref b/\a ≠ b/\H2 a=some (.dK kvs)/\H2 b=some (.dK more)/\kvs.length+more.length<=sizeLine/\Q .non (upd H2 a (.dK (kA kvs more)))
section
variable {X : Cx} {o e : Expr} {apos cpos : Pos} {td ty : TE}
theorem at2 (ho:PE X o td) (he:PE X e ty) (m:M1 X o "update" apos e cpos):PE X (.Call (.Attribute o "update" apos) [e] [] cpos) (F3 td ty):=by
 intro pins s σ H Q I h
 refine wpAny_Call_method m.base m.few m.line PySem.F.plainAttrs_dict PySem.F.slot_dict_update PySem.F.type_dict_update (aN (ho pins s σ H _ I h) fun u s1 ⟨x,H1,I1,rx,a,ex,d,q1⟩=>?_)
 subst ex
 obtain rfl:u=Value.ref a:=rx
 obtain ⟨t1,t2,_⟩:=ao8 I1 d
 refine⟨t1,t2,?_⟩
 rw [m.trees]
 refine Calls.callWith_builtin rfl (Calls.evalArgs_plain (Calls.spliced_cons (aN (he pins s1 σ H1 _ I1 q1) fun iv s2 ⟨y,H2,I2,ry,b,kvs,more,ey,ne,ea,eb,l,q2⟩=>Calls.spliced_nil ?_)))
 subst ey
 obtain rfl:iv=Value.ref b:=ry
 exact at0 I2 ea eb ne l fun s3 I3=>⟨.non,_,I3,rfl,q2⟩
end
end L2
namespace PP
open PySem L2
inductive PV where
 | non | bl (b:Bool) | int (i:Int) | str (x:Str) | tup (xs:List PV) | lst (xs:List PV)
 | dK (kvs:List (aA × PV)) | dT (kvs:List (List aA × PV)) | scr (ns:List Int) | kt (xs:List PV) | exc (c:Str) | fK (kvs:List (aA × PV)) | fT (kvs:List (List aA × PV))
mutual
def flat:PV->Bool
 | .tup xs=>flats xs
 | .lst _=>false
 | .dK _=>false
 | .dT _=>false
 | .non=>true
 | .bl _=>true
 | .int _=>true
 | .str _=>true
 | .scr _=>true
 | .kt xs=>flats xs
 | .exc _=>true
 | .fK _=>false
 | .fT _=>false
def flats:List PV->Bool
 | []=>true
 | x :: r=>flat x && flats r
end
def j6 (K:PySem.W.Frag) (H:Hp) (a:Addr) (ns:List Int):Prop:=(∃ o,H a=some (.frz o (.lst (ns.map V.int)))) ∨
  ∃ (o:Obj) (its:Array Value) (n:Nat),K.lookup a=some o/\o.cls = .type "list"/\o.dict=none/\o.data = .seq its n/\its.size<=sizeLine/\aJ (ns.map V.int) its.toList
def lA (K:PySem.W.Frag) (a:Addr) (us:List V):Prop:=∃ (o:Obj) (its:Array Value) (n:Nat),K.lookup a=some o/\o.cls = .type "tuple"/\o.data = .seq its n/\its.size<=sizeLine/\aJ us its.toList
mutual
inductive aE (K:PySem.W.Frag) (M:Addr->Prop) (H:Hp):V->PV->Prop
 | non:aE K M H .non .non
 | bl (b:Bool):aE K M H (.bl b) (.bl b)
 | int (i:Int):aE K M H (.int i) (.int i)
 | str (x:Str):aE K M H (.str x) (.str x)
 | tup {a:Addr}{us:List V}{xs:List PV}:H a=some (.tup us)->Reps K M H us xs->aE K M H (.ref a) (.tup xs)
 | lst {a:Addr}{us:List V}{xs:List PV}:M a->H a=some (.lst us)->Reps K M H us xs->aE K M H (.ref a) (.lst xs)
 | dK {a:Addr}{kvs:List (aA × V)}{ps:List (aA × PV)}:M a->H a=some (.dK kvs)->kvs.map (·.1)=ps.map (·.1)->Reps K M H (kvs.map (·.2)) (ps.map (·.2))->aE K M H (.ref a) (.dK ps)
 | dT {a:Addr}{kvs:List (List aA × V)}{ps:List (List aA × PV)}:M a->H a=some (.dT kvs)->kvs.map (·.1)=ps.map (·.1)->Reps K M H (kvs.map (·.2)) (ps.map (·.2))->aE K M H (.ref a) (.dT ps)
 | scr {a:Addr}{ns:List Int}:j6 K H a ns->aE K M H (.ref a) (.scr ns)
 | kt {a:Addr}{us:List V}{xs:List PV}:lA K a us->Reps K M H us xs->aE K M H (.ref a) (.kt xs)
 | exc {a C:Addr}{o:Obj}{c:Str}:H a=some (.frz o (.own a))->PySem.W.nsIn K mainGlobals c=some (some (.ref C))->o.cls = .ref C->aE K M H (.ref a) (.exc c)
 | fK {a:Addr}{o:Obj}{kvs:List (aA × V)}{ps:List (aA × PV)}:H a=some (.frz o (.dK kvs))->kvs.map (·.1)=ps.map (·.1)->Reps K M H (kvs.map (·.2)) (ps.map (·.2))->aE K M H (.ref a) (.fK ps)
 | fT {a:Addr}{o:Obj}{kvs:List (List aA × V)}{ps:List (List aA × PV)}:H a=some (.frz o (.dT kvs))->kvs.map (·.1)=ps.map (·.1)->Reps K M H (kvs.map (·.2)) (ps.map (·.2))->aE K M H (.ref a) (.fT ps)
inductive Reps (K:PySem.W.Frag) (M:Addr->Prop) (H:Hp):List V->List PV->Prop
 | nil:Reps K M H [] []
 | cons {v:V}{x:PV}{vs:List V}{xs:List PV}:aE K M H v x->Reps K M H vs xs->Reps K M H (v :: vs) (x :: xs)
end
structure gF (M M':Addr->Prop) (H H':Hp):Prop where
 lst:∀ a us,M a->H a=some (.lst us)->M' a/\H' a=some (.lst us)
 dK:∀ a kvs,M a->H a=some (.dK kvs)->M' a/\H' a=some (.dK kvs)
 dT:∀ a kvs,M a->H a=some (.dT kvs)->M' a/\H' a=some (.dT kvs)
 tup:∀ a us,H a=some (.tup us)->H' a=some (.tup us)
 frz:∀ a o u,H a=some (.frz o u)->H' a=some (.frz o u)
theorem j6.keep {K:PySem.W.Frag}{H H':Hp}{a:Addr}{ns:List Int} (k:∀ a o u,H a=some (.frz o u)->H' a=some (.frz o u)) (h:j6 K H a ns):j6 K H' a ns:=
 h.elim (fun ⟨o,e⟩=>.inl ⟨o,k _ _ _ e⟩) .inr
mutual
theorem aE.keep {K:PySem.W.Frag}{M M':Addr->Prop}{H H':Hp} (k:gF M M' H H'):∀ {v:V}{x:PV},aE K M H v x->aE K M' H' v x
 | _,_,.non=>.non
 | _,_,.bl b=>.bl b
 | _,_,.int i=>.int i
 | _,_,.str x=>.str x
 | _,_,.tup h r=>.tup (k.tup _ _ h) (Reps.keep k r)
 | _,_,.lst m h r=>.lst (k.lst _ _ m h).1 (k.lst _ _ m h).2 (Reps.keep k r)
 | _,_,.dK m h e r=>.dK (k.dK _ _ m h).1 (k.dK _ _ m h).2 e (Reps.keep k r)
 | _,_,.dT m h e r=>.dT (k.dT _ _ m h).1 (k.dT _ _ m h).2 e (Reps.keep k r)
 | _,_,.scr h=>.scr (h.keep k.frz)
 | _,_,.kt h r=>.kt h (Reps.keep k r)
 | _,_,.exc h e c=>.exc (k.frz _ _ _ h) e c
 | _,_,.fK h e r=>.fK (k.frz _ _ _ h) e (Reps.keep k r)
 | _,_,.fT h e r=>.fT (k.frz _ _ _ h) e (Reps.keep k r)
theorem Reps.keep {K:PySem.W.Frag}{M M':Addr->Prop}{H H':Hp} (k:gF M M' H H'):∀ {vs:List V}{xs:List PV},Reps K M H vs xs->Reps K M' H' vs xs
 | _,_,.nil=>.nil
 | _,_,.cons r t=>.cons (aE.keep k r) (Reps.keep k t)
end
mutual
theorem aE.flat {K:PySem.W.Frag}{M M':Addr->Prop}{H:Hp}{v:V}{x:PV} (f:flat x=true) (r:aE K M H v x):aE K M' H v x:=by
 cases r with
 | non=>exact .non
 | bl b=>exact .bl b
 | int i=>exact .int i
 | str x=>exact .str x
 | tup h r=>exact .tup h (Reps.flat (by unfold PP.flat at f; exact f) r)
 | lst m h r=>unfold PP.flat at f; cases f
 | dK m h e r=>unfold PP.flat at f; cases f
 | dT m h e r=>unfold PP.flat at f; cases f
 | scr h=>exact .scr h
 | kt h r=>exact .kt h (Reps.flat (by unfold PP.flat at f; exact f) r)
 | exc h e c=>exact .exc h e c
 | fK h e r=>unfold PP.flat at f; cases f
 | fT h e r=>unfold PP.flat at f; cases f
theorem Reps.flat {K:PySem.W.Frag}{M M':Addr->Prop}{H:Hp}{vs:List V}{xs:List PV} (f:flats xs=true) (r:Reps K M H vs xs):Reps K M' H vs xs:=by
 cases r with
 | nil=>exact .nil
 | cons r t=>
  unfold PP.flats at f
  rw [bf0] at f
  exact .cons (aE.flat f.1 r) (Reps.flat f.2 t)
end
theorem gF.same {M M':Addr->Prop}{H H':Hp} (s:aD H H') (m:∀ a,M a->M' a):gF M M' H H':=
 ⟨fun a _ h e=>⟨m a h,s _ _ e⟩,fun a _ h e=>⟨m a h,s _ _ e⟩,fun a _ h e=>⟨m a h,s _ _ e⟩,fun _ _ e=>s _ _ e,fun _ _ _ e=>s _ _ e⟩
theorem aE.same {K:PySem.W.Frag}{M M':Addr->Prop}{H H':Hp}{v:V}{x:PV} (r:aE K M H v x) (s:aD H H') (m:∀ a,M a->M' a):aE K M' H' v x:=r.keep (.same s m)
theorem Reps.same {K:PySem.W.Frag}{M M':Addr->Prop}{H H':Hp}{v:List V}{x:List PV} (r:Reps K M H v x) (s:aD H H') (m:∀ a,M a->M' a):Reps K M' H' v x:=r.keep (.same s m)
def fJ:HO->Bool
 | .lst _=>true
 | .dK _=>true
 | .dT _=>true
 | _=>false
theorem gF.upd {M M':Addr->Prop}{H:Hp}{a:Addr}{o o':HO} (h:H a=some o') (mu:fJ o'=true) (m:∀ b,M b->b ≠ a/\M' b):gF M M' H (upd H a o):=
 ⟨fun b _ hb e=>⟨(m b hb).2,by rw [aH (m b hb).1]; exact e⟩,fun b _ hb e=>⟨(m b hb).2,by rw [aH (m b hb).1]; exact e⟩,fun b _ hb e=>⟨(m b hb).2,by rw [aH (m b hb).1]; exact e⟩,
  fun b _ e=>by rw [aH (fun z=>by rw [z,h] at e; cases e; cases mu)]; exact e,
  fun b _ _ e=>by rw [aH (fun z=>by rw [z,h] at e; cases e; cases mu)]; exact e⟩
theorem Reps.length {K:PySem.W.Frag}{M:Addr->Prop}{H:Hp}:∀ {vs:List V}{xs:List PV},Reps K M H vs xs->vs.length=xs.length
 | _,_,.nil=>rfl
 | _,_,.cons _ t=>congrArg (· + 1) t.length
theorem Reps.get {K:PySem.W.Frag}{M:Addr->Prop}{H:Hp}:∀ {vs:List V}{xs:List PV}{i:Nat}{v:V},Reps K M H vs xs->vs[i]? = some v->∃ x,xs[i]? = some x/\aE K M H v x
 | _,_,_,_,.nil,e=>by simp at e
 | _,_,0,_,.cons r _,e=>by simp at e; subst e; exact⟨_,rfl,r⟩
 | _,_,i+1,v,.cons _ t,e=>by
  rw [bi5] at e
  obtain ⟨x,h1,h2⟩:=t.get e
  exact⟨x,by rw [bi5]; exact h1,h2⟩
theorem Reps.at {K:PySem.W.Frag}{M:Addr->Prop}{H:Hp}:∀ {vs:List V}{xs:List PV}{i:Nat}{x:PV},Reps K M H vs xs->xs[i]? = some x->∃ v,vs[i]? = some v/\aE K M H v x
 | _,_,_,_,.nil,e=>by simp at e
 | _,_,0,_,.cons r _,e=>by simp at e; subst e; exact⟨_,rfl,r⟩
 | _,_,i+1,v,.cons _ t,e=>by
  rw [bi5] at e
  obtain ⟨x,h1,h2⟩:=t.at e
  exact⟨x,by rw [bi5]; exact h1,h2⟩
theorem Reps.append {K:PySem.W.Frag}{M:Addr->Prop}{H:Hp}:∀ {vs:List V}{xs:List PV}{us:List V}{ys:List PV},Reps K M H vs xs->Reps K M H us ys->Reps K M H (vs ++ us) (xs ++ ys)
 | _,_,_,_,.nil,s=>s
 | _,_,_,_,.cons r t,s=>.cons r (t.append s)
theorem Reps.set {K:PySem.W.Frag}{M:Addr->Prop}{H:Hp}{v:V}{x:PV} (q:aE K M H v x):∀ (i:Nat) {vs:List V}{xs:List PV},Reps K M H vs xs->Reps K M H (vs.set i v) (xs.set i x)
 | _,_,_,.nil=>.nil
 | 0,_,_,.cons r t=>.cons q t
 | i+1,_,_,.cons r t=>.cons r (Reps.set q i t)
theorem Reps.take {K:PySem.W.Frag}{M:Addr->Prop}{H:Hp}:∀ (n:Nat) {vs:List V}{xs:List PV},Reps K M H vs xs->Reps K M H (vs.take n) (xs.take n)
 | 0,_,_,_=>by simp; exact .nil
 | _+1,_,_,.nil=>.nil
 | n+1,_,_,.cons r t=>.cons r (Reps.take n t)
theorem Reps.drop {K:PySem.W.Frag}{M:Addr->Prop}{H:Hp}:∀ (n:Nat) {vs:List V}{xs:List PV},Reps K M H vs xs->Reps K M H (vs.drop n) (xs.drop n)
 | 0,_,_,r=>r
 | _+1,_,_,.nil=>.nil
 | n+1,_,_,.cons _ t=>Reps.drop n t
theorem Reps.eraseIdx {K:PySem.W.Frag}{M:Addr->Prop}{H:Hp}:∀ (n:Nat) {vs:List V}{xs:List PV},Reps K M H vs xs->Reps K M H (vs.eraseIdx n) (xs.eraseIdx n)
 | _,_,_,.nil=>.nil
 | 0,_,_,.cons _ t=>t
 | n+1,_,_,.cons r t=>.cons r (Reps.eraseIdx n t)
abbrev intz (ns:List Int):List PV:=ns.map PV.int
theorem Reps.intz {K:PySem.W.Frag}{M:Addr->Prop}{H:Hp}:∀ (ns:List Int),Reps K M H (ns.map V.int) (intz ns)
 | []=>.nil
 | n :: r=>.cons (.int n) (Reps.intz r)
theorem Reps.ofInts {K:PySem.W.Frag}{M:Addr->Prop}{H:Hp}:∀ {ns:List Int}{us:List V},Reps K M H us (PP.intz ns)->us=ns.map V.int
 | [],_,.nil=>rfl
 | n :: r,_,.cons q t=>by
  cases q
  rw [Reps.ofInts t]; rfl
theorem cE:∀ (ns:List Int),flats (intz ns)=true
 | []=>rfl
 | n :: r=>by show (flat (.int n) && flats (intz r))=true; rw [cE r]; rfl
inductive Tg | rd | sh | nw | fr
inductive Slot | sh (g:Bool) (x:PV) | own (x:PV)
def Slot.val:Slot->PV
 | .sh _ x=>x
 | .own x=>x
def Slot.tag:Slot->Tg
 | .sh true _=>.nw
 | .sh false _=>.sh
 | .own _=>.rd
abbrev b7:=List (Option Slot)
def Ms (H0:Hp) (W:Addr->Prop):Bool->Addr->Prop
 | false,a=>¬ W a
 | true,a=>¬ W a/\H0 a=none
def Mg (H0:Hp) (W:Addr->Prop) (Hs:Hp):Tg->Addr->Prop
 | .rd,_=>True
 | .sh,a=>¬ W a
 | .nw,a=>¬ W a/\H0 a=none
 | .fr,a=>Hs a=none
def gV (K:PySem.W.Frag) (M:Addr->Prop) (H:Hp) (a:Addr):PV->Prop
 | .lst xs=>∃ us,H a=some (.lst us)/\Reps K M H us xs
 | .dK ps=>∃ kvs,H a=some (.dK kvs)/\kvs.map (·.1)=ps.map (·.1)/\Reps K M H (kvs.map (·.2)) (ps.map (·.2))
 | .dT ps=>∃ kvs,H a=some (.dT kvs)/\kvs.map (·.1)=ps.map (·.1)/\Reps K M H (kvs.map (·.2)) (ps.map (·.2))
 | _=>False
def F4 (K:PySem.W.Frag) (H0:Hp) (W:Addr->Prop) (H:Hp) (v:V):Slot->Prop
 | .sh g x=>aE K (Ms H0 W g) H v x
 | .own x=>∃ a,v = .ref a/\W a/\gV K (Ms H0 W true) H a x
structure PX (K:PySem.W.Frag) (H0:Hp) (W:Addr->Prop) (σ:St) (ρ:b7) (H:Hp):Prop where
 len:ρ.length=σ.length
 same:aD H0 H
 wm:∀ a,W a->H0 a=none/\∃ o,H a=some o/\fJ o=true
 sl:∀ (i:Nat) (m:Slot),ρ[i]? = some (some m)->∃ v,σ[i]? = some (some v)/\F4 K H0 W H v m
 dis:∀ (i j:Nat) (x y:PV) (a:Addr),ρ[i]? = some (some (.own x))->ρ[j]? = some (some (.own y))->σ[i]? = some (some (.ref a))->σ[j]? = some (some (.ref a))->i=j
theorem gV.keep {K:PySem.W.Frag}{M M':Addr->Prop}{H H':Hp}{a:Addr} (k:gF M M' H H') (ha:∀ o,H a=some o->H' a=some o):∀ {x:PV},gV K M H a x->gV K M' H' a x
 | .lst _,⟨us,e,r⟩=>⟨us,ha _ e,r.keep k⟩
 | .dK _,⟨us,e,q,r⟩=>⟨us,ha _ e,q,r.keep k⟩
 | .dT _,⟨us,e,q,r⟩=>⟨us,ha _ e,q,r.keep k⟩
theorem gV.at {K:PySem.W.Frag}{M:Addr->Prop}{H:Hp}{a:Addr}:∀ {x:PV},gV K M H a x->∃ o,H a=some o/\fJ o=true
 | .lst _,⟨us,e,r⟩=>⟨_,e,rfl⟩
 | .dK _,⟨us,e,q,r⟩=>⟨_,e,rfl⟩
 | .dT _,⟨us,e,q,r⟩=>⟨_,e,rfl⟩
theorem gV.rep {K:PySem.W.Frag}{M M':Addr->Prop}{H:Hp}{a:Addr} (m:∀ b,M b->M' b) (ha:M' a):∀ {x:PV},gV K M H a x->aE K M' H (.ref a) x
 | .lst _,⟨us,e,r⟩=>.lst ha e (r.same (aD.refl _) m)
 | .dK _,⟨us,e,q,r⟩=>.dK ha e q (r.same (aD.refl _) m)
 | .dT _,⟨us,e,q,r⟩=>.dT ha e q (r.same (aD.refl _) m)
section
variable {K : PySem.W.Frag} {H0 : Hp} {W W' : Addr → Prop} {σ : St} {ρ : b7} {H H' : Hp}
theorem PX.mono (p:PX K H0 W σ ρ H) (s:aD H H'):PX K H0 W σ ρ H':=by
 refine⟨p.len,p.same.trans s,fun a h=>⟨(p.wm a h).1,let ⟨o,e,m⟩:=(p.wm a h).2; ⟨o,s _ _ e,m⟩⟩,fun i m h=>?_,p.dis⟩
 obtain ⟨v,e,r⟩:=p.sl i m h
 refine⟨v,e,?_⟩
 cases m with
 | sh g x=>exact aE.same r s fun _ z=>z
 | own x=>
  obtain ⟨a,e1,e2,r⟩:=r
  exact⟨a,e1,e2,r.keep (.same s fun _ z=>z) fun _ z=>s _ _ z⟩
theorem PX.new (p:PX K H0 W σ ρ H) {a:Addr} (h:H a=none) : ¬ W a/\H0 a=none:=
 ⟨fun z=>(by obtain ⟨_,o,e,_⟩:=p.wm a z; rw [h] at e; cases e),p.same.free h⟩
theorem Mg.back {g:Tg}{H1:Hp} (s:aD H H1) {a:Addr} (h:Mg H0 W H1 g a):Mg H0 W H g a:=by
 cases g with
 | fr=>exact s.free h
 | rd=>exact h
 | sh=>exact h
 | nw=>exact h
end
abbrev PK:=PV->Tg->Prop
abbrev aG:=b7->PK->Prop
abbrev c7:=b7->(Bool->Prop)->Prop
abbrev cZ:=b7->(List (PV × Tg)->Prop)->Prop
inductive gW (K:PySem.W.Frag) (H0:Hp) (W:Addr->Prop) (Hs H:Hp):List V->List (PV × Tg)->Prop
 | nil:gW K H0 W Hs H [] []
 | cons {v:V}{x:PV}{g:Tg}{vs:List V}{xs:List (PV × Tg)}:aE K (Mg H0 W Hs g) H v x->gW K H0 W Hs H vs xs->gW K H0 W Hs H (v :: vs) ((x,g) :: xs)
def pI (K:PySem.W.Frag) (H0:Hp) (W:Addr->Prop) (H:Hp) (Q:PK) (Q':VK):Prop:=∀ v H' x g,aD H H'->aE K (Mg H0 W H g) H' v x->Q x g->Q' v H'
def LE (X:Cx) (t:aG):TE:=fun σ H Q'=>∃ (W:Addr->Prop) (ρ:b7) (Q:PK),PX X.K X.H₀ W σ ρ H/\t ρ Q/\pI X.K X.H₀ W H Q Q'
def LT (X:Cx) (t:c7):TT:=fun σ H Q'=>∃ (W:Addr->Prop) (ρ:b7) (Q:Bool->Prop),PX X.K X.H₀ W σ ρ H/\t ρ Q/\∀ b H',aD H H'->Q b->Q' b H'
def LA (X:Cx) (t:cZ):TA:=fun σ H Q'=>∃ (W:Addr->Prop) (ρ:b7) (Q:List (PV × Tg)->Prop),PX X.K X.H₀ W σ ρ H/\t ρ Q/\∀ vs H' xs,aD H H'->gW X.K X.H₀ W H H' vs xs->Q xs->Q' vs H'
theorem gW.same {K:PySem.W.Frag}{H0:Hp}{W:Addr->Prop}{Hs Hs' H H':Hp} (s:aD H H') (b:aD Hs' Hs):∀ {vs:List V}{xs:List (PV × Tg)},gW K H0 W Hs H vs xs->gW K H0 W Hs' H' vs xs
 | _,_,.nil=>.nil
 | _,_,.cons r t=>.cons (r.same s fun _ z=>Mg.back b z) (t.same s b)
theorem gW.any {K:PySem.W.Frag}{H0:Hp}{W:Addr->Prop}{Hs H:Hp}:∀ {vs:List V}{xs:List (PV × Tg)},gW K H0 W Hs H vs xs->Reps K (fun _=>True) H vs (xs.map (·.1))
 | _,_,.nil=>.nil
 | _,_,.cons r t=>.cons (r.same (aD.refl _) fun _ _=>trivial) t.any
def Nw:Tg->PV->Prop
 | .fr,_=>True
 | .nw,_=>True
 | _,x=>flat x=true
section
variable {K : PySem.W.Frag} {H0 Hs H : Hp} {W : Addr → Prop} {σ : St} {ρ : b7}
theorem Nw.rep {g:Tg}{x:PV}{v:V} (px:PX K H0 W σ ρ Hs) (n:Nw g x) (r:aE K (Mg H0 W Hs g) H v x):aE K (Ms H0 W true) H v x:=by
 cases g with
 | fr=>exact r.same (aD.refl _) fun a z=>px.new z
 | nw=>exact r.same (aD.refl _) fun a z=>z
 | sh=>exact r.flat n
 | rd=>exact r.flat n
theorem pJ {v:V}{m:Slot} (r:F4 K H0 W H v m):aE K (Mg H0 W Hs m.tag) H v m.val:=by
 cases m with
 | sh g x=>
  cases g with
  | true=>exact aE.same r (aD.refl _) fun _ z=>z
  | false=>exact aE.same r (aD.refl _) fun _ z=>z
 | own x=>
  obtain ⟨a,rfl,_,r⟩:=r
  exact r.rep (fun _ _=>trivial) trivial
end
section
variable {X : Cx} {σ : St} {H : Hp} {Q' : VK} {ta tb : aG}
def a5 (i:Nat):aG:=fun ρ Q=>∃ m,ρ[i]? = some (some m)/\Q m.val m.tag
def qC (x:PV):aG:=fun _ Q=>Q x .fr
theorem at3 {i:Nat} (h:LE X (a5 i) σ H Q'):fR i σ H Q':=by
 obtain ⟨W,ρ,Q,px,⟨m,e,q⟩,k⟩:=h
 obtain ⟨v,ev,r⟩:=px.sl i m e
 exact⟨v,ev,k v H _ _ (aD.refl _) (pJ r) q⟩
theorem pK {x:PV}{v:V} (hr:∀ M,aE X.K M H v x) (h:LE X (qC x) σ H Q'):tC v σ H Q':=by
 obtain ⟨W,ρ,Q,px,q,k⟩:=h
 exact k v H _ _ (aD.refl _) (hr _) q
def eJ (X:Cx) (R:PV->Tg->PV->Tg->PK->Prop) (r:R2):Prop:=∀ (W:Addr->Prop) (Hs H:Hp) (u v:V) (x y:PV) (g g':Tg) (Q:PK) (Q':VK),aD Hs H->
 (∀ a,Hs a=none->¬ W a/\X.H₀ a=none)->aE X.K (Mg X.H₀ W Hs g) H u x->aE X.K (Mg X.H₀ W Hs g') H v y->R x g y g' Q->(∀ w H' z gz,aD H H'->aE X.K (Mg X.H₀ W Hs gz) H' w z->Q z gz->Q' w H')->r u v H Q'
def q2 (R:PV->Tg->PV->Tg->PK->Prop) (ta tb:aG):aG:=fun ρ Q=>ta ρ fun x g=>tb ρ fun y g'=>R x g y g' Q
theorem pL {R:PV->Tg->PV->Tg->PK->Prop}{r:R2} (c:eJ X R r) (h:LE X (q2 R ta tb) σ H Q'):mL r (LE X ta) (LE X tb) σ H Q':=by
 obtain ⟨W,ρ,Q,px,q,k⟩:=h
 refine⟨W,ρ,_,px,q,fun u H1 x g s1 r1 q1=>⟨W,ρ,_,px.mono s1,q1,fun v H2 y g' s2 r2 q2=>?_⟩⟩
 exact c W H H2 u v x y g g' Q Q' (s1.trans s2) (fun a z=>px.new z) (r1.same s2 fun _ z=>z) (r2.same (aD.refl _) fun _ z=>Mg.back s1 z) q2 fun w H' z gz s3 r3 q3=>k w H' z gz ((s1.trans s2).trans s3) r3 q3
def RI (C:Int->Int->Prop) (f:Int->Int->PV):PV->Tg->PV->Tg->PK->Prop:=fun x _ y _ Q=>∃ i j,x = .int i/\y = .int j/\C i j/\Q (f i j) .fr
def eW (f:Int->Int->PV):PV->Tg->PV->Tg->PK->Prop:=fun x _ y _ Q=>∃ i j,x = .int i/\y = .int j/\Q (f i j) .fr
theorem uK {C:Int->Int->Prop}{f:Int->Int->Int}:eJ X (RI C fun i j=>.int (f i j)) (rI C fun i j=>.int (f i j)):=by
 rintro W Hs H u v x y g g' Q Q' s n r1 r2 ⟨i,j,rfl,rfl,c,q⟩ k
 cases r1; cases r2
 exact⟨i,j,rfl,rfl,c,k _ _ _ _ (aD.refl _) (.int _) q⟩
theorem F5 {f:Int->Int->Int}:eJ X (eW fun i j=>.int (f i j)) (i9 fun i j=>.int (f i j)):=by
 rintro W Hs H u v x y g g' Q Q' s n r1 r2 ⟨i,j,rfl,rfl,q⟩ k
 cases r1; cases r2
 exact⟨i,j,rfl,rfl,k _ _ _ _ (aD.refl _) (.int _) q⟩
theorem lB {f:Int->Int->Bool}:eJ X (eW fun i j=>.bl (f i j)) (i9 fun i j=>.bl (f i j)):=by
 rintro W Hs H u v x y g g' Q Q' s n r1 r2 ⟨i,j,rfl,rfl,q⟩ k
 cases r1; cases r2
 exact⟨i,j,rfl,rfl,k _ _ _ _ (aD.refl _) (.bl _) q⟩
def kE (neg:Bool):PV->Tg->PV->Tg->PK->Prop:=fun x _ y _ Q=>(∃ i j,x = .int i/\y = .int j/\Q (.bl (if neg=true then !decide (i=j) else decide (i=j))) .fr) ∨ (∃ i j,x = .bl i/\y = .bl j/\Q (.bl (if neg=true then !decide (i=j) else decide (i=j))) .fr)
theorem F6 (i j:Int):decide (V.int i=V.int j)=decide (i=j):=by
 rw [bl5,bf5,bf5]; exact⟨fun z=>V.int.inj z,fun z=>congrArg V.int z⟩
theorem F7 (i j:Bool):decide (V.bl i=V.bl j)=decide (i=j):=by
 rw [bl5,bf5,bf5]; exact⟨fun z=>V.bl.inj z,fun z=>congrArg V.bl z⟩
theorem F8:eJ X (kE false) yQ:=by
 rintro W Hs H u v x y g g' Q Q' s n r1 r2 (⟨i,j,rfl,rfl,q⟩ | ⟨i,j,rfl,rfl,q⟩) k
 ·cases r1; cases r2
  exact⟨rfl,by rw [F6]; exact k _ _ _ _ (aD.refl _) (.bl _) q⟩
 ·cases r1; cases r2
  exact⟨rfl,by rw [F7]; exact k _ _ _ _ (aD.refl _) (.bl _) q⟩
theorem at4:eJ X (kE true) yR:=by
 rintro W Hs H u v x y g g' Q Q' s n r1 r2 (⟨i,j,rfl,rfl,q⟩ | ⟨i,j,rfl,rfl,q⟩) k
 ·cases r1; cases r2
  exact⟨rfl,by rw [F6]; exact k _ _ _ _ (aD.refl _) (.bl _) q⟩
 ·cases r1; cases r2
  exact⟨rfl,by rw [F7]; exact k _ _ _ _ (aD.refl _) (.bl _) q⟩
def bC (t:aG):c7:=fun ρ Q=>t ρ fun x _=>∃ b,x = .bl b/\Q b
theorem uL {t:aG}{Q':Bool->Hp->Prop} (h:LT X (bC t) σ H Q'):LE X t σ H fun x H'=>∃ k,x = .bl k/\Q' k H':=by
 obtain ⟨W,ρ,Q,px,q,k⟩:=h
 refine⟨W,ρ,_,px,q,?_⟩
 rintro v H1 x g s r ⟨b,rfl,q⟩
 cases r
 exact⟨b,rfl,k _ _ s q⟩
def nB (t u:c7):c7:=fun ρ Q=>t ρ fun c=>if c=true then u ρ Q else Q false
def pM (t u:c7):c7:=fun ρ Q=>t ρ fun c=>if c=true then Q true else u ρ Q
def nC (t:c7):c7:=fun ρ Q=>t ρ fun c=>Q (!c)
variable {t u : c7} {Qb : Bool → Hp → Prop}
theorem at5 (h:LT X (nB t u) σ H Qb):xX (LT X t) (LT X u) σ H Qb:=by
 obtain ⟨W,ρ,Q,px,q,k⟩:=h
 refine⟨W,ρ,_,px,q,fun b H1 s1 q1=>?_⟩
 cases b with
 | true=>exact bV ⟨W,ρ,Q,px.mono s1,by simpa using q1,fun b H2 s2 q2=>k _ _ (s1.trans s2) q2⟩
 | false=>exact b6 (k _ _ s1 (by simpa using q1))
theorem at6 (h:LT X (pM t u) σ H Qb):xY (LT X t) (LT X u) σ H Qb:=by
 obtain ⟨W,ρ,Q,px,q,k⟩:=h
 refine⟨W,ρ,_,px,q,fun b H1 s1 q1=>?_⟩
 cases b with
 | false=>exact b6 ⟨W,ρ,Q,px.mono s1,by simpa using q1,fun b H2 s2 q2=>k _ _ (s1.trans s2) q2⟩
 | true=>exact bV (k _ _ s1 (by simpa using q1))
theorem at7 (h:LT X (nC t) σ H Qb):xZ (LT X t) σ H Qb:=by
 obtain ⟨W,ρ,Q,px,q,k⟩:=h
 exact⟨W,ρ,_,px,q,fun b H1 s1 q1=>k _ _ s1 q1⟩
def lC (ta tb:aG):aG:=fun ρ Q=>ta ρ fun x _=>∃ c,x = .bl c/\if c=true then tb ρ Q else Q (.bl false) .fr
theorem pI.back {K:PySem.W.Frag}{H0:Hp}{W:Addr->Prop}{H H1:Hp}{Q:PK} (k:pI K H0 W H Q Q') (s:aD H H1):pI K H0 W H1 Q Q':=fun v H' x g s' r q=>k v H' x g (s.trans s') (r.same (aD.refl _) fun _ z=>Mg.back s z) q
theorem at8 (h:LE X (lC ta tb) σ H Q'):y9 (LE X ta) (LE X tb) σ H Q':=by
 obtain ⟨W,ρ,Q,px,q,k⟩:=h
 refine⟨W,ρ,_,px,q,?_⟩
 rintro v H1 x g s1 r ⟨c,rfl,q⟩
 cases r
 refine⟨c,rfl,?_⟩
 cases c with
 | true=>exact bV ⟨W,ρ,Q,px.mono s1,by simpa using q,k.back s1⟩
 | false=>exact b6 (k _ _ _ _ s1 (.bl _) (by simpa using q))
def a9:cZ:=fun _ Q=>Q []
def a7 (te:aG) (tr:cZ):cZ:=fun ρ Q=>te ρ fun x g=>tr ρ fun xs=>Q ((x,g) :: xs)
variable {Qa : List V → Hp → Prop} {tr : cZ}
theorem at9 (h:LA X a9 σ H Qa):iT σ H Qa:=by
 obtain ⟨W,ρ,Q,px,q,k⟩:=h
 exact k _ _ _ (aD.refl _) .nil q
theorem au0 (h:LA X (a7 ta tr) σ H Qa):gR (LE X ta) (LA X tr) σ H Qa:=by
 obtain ⟨W,ρ,Q,px,q,k⟩:=h
 refine⟨W,ρ,_,px,q,fun v H1 x g s1 r1 q1=>⟨W,ρ,_,px.mono s1,q1,fun vs H2 xs s2 r2 q2=>?_⟩⟩
 exact k _ _ _ (s1.trans s2) (.cons (r1.same s2 fun _ z=>z) (r2.same (aD.refl _) s1)) q2
def eY (t:cZ):aG:=fun ρ Q=>t ρ fun xs=>xs.length<=1000/\flats (xs.map (·.1))=true/\Q (.tup (xs.map (·.1))) .fr
def gG (t:cZ):aG:=fun ρ Q=>t ρ fun xs=>xs.length<=1000/\flats (xs.map (·.1))=true/\Q (.lst (xs.map (·.1))) .fr
theorem gW.length {K:PySem.W.Frag}{H0:Hp}{W:Addr->Prop}{Hs H:Hp}:∀ {vs:List V}{xs:List (PV × Tg)},gW K H0 W Hs H vs xs->vs.length=xs.length
 | _,_,.nil=>rfl
 | _,_,.cons _ t=>congrArg (· + 1) t.length
theorem uM {n:Nat} (h:n<=1000):n<=sizeLine:=bg6 (mW h)
theorem au1 (h:LE X (eY tr) σ H Q'):z9 (LA X tr) σ H Q':=by
 obtain ⟨W,ρ,Q,px,q,k⟩:=h
 refine⟨W,ρ,_,px,q,?_⟩
 rintro vs H1 xs s1 r ⟨hl,n,q⟩
 refine⟨by rw [r.length]; exact uM hl,fun p hp=>k _ _ _ .fr (s1.trans (b9 hp _)) (.tup aW ?_) q⟩
 exact (r.any.flat n).same (b9 hp _) fun _ z=>z
theorem au2 (h:LE X (gG tr) σ H Q'):zA (LA X tr) σ H Q':=by
 obtain ⟨W,ρ,Q,px,q,k⟩:=h
 refine⟨W,ρ,_,px,q,?_⟩
 rintro vs H1 xs s1 r ⟨hl,n,q⟩
 refine⟨by rw [r.length]; exact uM hl,fun p hp=>k _ _ _ .fr (s1.trans (b9 hp _)) (.lst (s1.free hp) aW ?_) q⟩
 exact (r.any.flat n).same (b9 hp _) fun _ z=>z
def eB (X:Cx) (R:List PV->(PV->Prop)->Prop) (r:List V->Hp->VK->Prop):Prop:=∀ (H:Hp) (vs:List V) (xs:List PV) (Q:PV->Prop) (Q':VK),Reps X.K (fun _=>True) H vs xs->R xs Q->
 (∀ w H' z,aD H H'->aE X.K (fun a=>H a=none) H' w z->Q z->Q' w H')->r vs H Q'
def aB (R:List PV->(PV->Prop)->Prop) (t:cZ):aG:=fun ρ Q=>t ρ fun xs=>R (xs.map (·.1)) fun z=>Q z .fr
theorem F9 {R:List PV->(PV->Prop)->Prop}{r:List V->Hp->VK->Prop} (c:eB X R r) (h:LE X (aB R tr) σ H Q'):t7 r (LA X tr) σ H Q':=by
 obtain ⟨W,ρ,Q,px,q,k⟩:=h
 refine⟨W,ρ,_,px,q,fun vs H1 xs s1 r1 q1=>c H1 vs _ _ Q' r1.any q1 fun w H' z s2 r2 q2=>k w H' z .fr (s1.trans s2) (r2.same (aD.refl _) fun _ z=>s1.free z) q2⟩
end
structure pN where
 nx:b7->Prop
 rt:PV->Prop
 bk:b7->Prop:=fun _=>False
 ct:b7->Prop:=fun _=>False
abbrev aP:=pN->b7->Prop
def Ev (W:Addr->Prop) (H:Hp) (W':Addr->Prop) (H':Hp):Prop:=∀ b o,H b=some o->¬ W b->H' b=some o/\¬ W' b
theorem Ev.trans {W W1 W2:Addr->Prop}{H H1 H2:Hp} (a:Ev W H W1 H1) (b:Ev W1 H1 W2 H2):Ev W H W2 H2:=fun c o h n=>let ⟨h1,n1⟩:=a c o h n; b c o h1 n1
theorem Ev.same {W:Addr->Prop}{H H':Hp} (s:aD H H'):Ev W H W H':=fun c o h n=>⟨s _ _ h,n⟩
theorem Ev.refl (W:Addr->Prop) (H:Hp):Ev W H W H:=Ev.same (aD.refl _)
structure pO (X:Cx) (W:Addr->Prop) (H:Hp) (D':pN) (D:cN):Prop where
 nx:∀ W' σ' H' ρ',Ev W H W' H'->PX X.K X.H₀ W' σ' ρ' H'->D'.nx ρ'->D.nx σ' H'
 rt:∀ v H' x,aD X.H₀ H'->aE X.K (fun a=>X.H₀ a=none) H' v x->D'.rt x->D.rt v H'
 bk:∀ W' σ' H' ρ',Ev W H W' H'->PX X.K X.H₀ W' σ' ρ' H'->D'.bk ρ'->D.bk σ' H'
 ct:∀ W' σ' H' ρ',Ev W H W' H'->PX X.K X.H₀ W' σ' ρ' H'->D'.ct ρ'->D.ct σ' H'
theorem pO.step {X:Cx}{W W1:Addr->Prop}{H H1:Hp}{D':pN}{D:cN} (k:pO X W H D' D) (e:Ev W H W1 H1):pO X W1 H1 D' D:=
 ⟨fun W' σ' H' ρ' e'=>k.nx W' σ' H' ρ' (e.trans e'),k.rt,fun W' σ' H' ρ' e'=>k.bk W' σ' H' ρ' (e.trans e'),fun W' σ' H' ρ' e'=>k.ct W' σ' H' ρ' (e.trans e')⟩
def LS (X:Cx) (t:aP):TS:=fun D σ H=>∃ (W:Addr->Prop) (ρ:b7) (D':pN),PX X.K X.H₀ W σ ρ H/\t D' ρ/\pO X W H D' D
theorem iD {α:Type}{l:List α}{i j:Nat}{a b:α} (h:(l.set i a)[j]? = some b):(j=i/\i < l.length/\b=a) ∨ (j ≠ i/\l[j]? = some b):=by
 by_cases e:j=i
 ·subst e
  have hl:j < (l.set j a).length:=(bc5.mp h).1
  rw [bk2] at hl
  rw [bk0 hl] at h
  exact .inl ⟨rfl,hl,(be0 h).symm⟩
 ·rw [be6 (Ne.symm e)] at h
  exact .inr ⟨e,h⟩
section
variable {K : PySem.W.Frag} {H0 : Hp} {W W' : Addr → Prop} {σ : St} {ρ : b7} {H H' Hs : Hp}
theorem PX.setSh {i:Nat}{v:V}{g:Bool}{x:PV} (p:PX K H0 W σ ρ H) (r:aE K (Ms H0 W g) H v x):PX K H0 W (σ.set i (some v)) (ρ.set i (some (.sh g x))) H:=by
 refine⟨by rw [bk2,bk2]; exact p.len,p.same,p.wm,fun j m h=>?_,fun j k y z a h1 h2 h3 h4=>?_⟩
 ·rcases iD h with ⟨rfl,hl,e⟩ | ⟨hne,h⟩
  ·cases e
   rw [p.len] at hl
   exact⟨v,bk0 hl,r⟩
  ·obtain ⟨u,e,q⟩:=p.sl j m h
   exact⟨u,by rw [be6 (Ne.symm hne)]; exact e,q⟩
 ·rcases iD h1 with ⟨_,_,e⟩ | ⟨n1,h1⟩
  ·cases e
  ·rcases iD h2 with ⟨_,_,e⟩ | ⟨n2,h2⟩
   ·cases e
   ·rw [be6 (Ne.symm n1)] at h3
    rw [be6 (Ne.symm n2)] at h4
    exact p.dis j k y z a h1 h2 h3 h4
def lD (W:Addr->Prop) (a:Addr):Addr->Prop:=fun b=>W b ∨ b=a
theorem uN {g:Bool}{a b:Addr} (n:b ≠ a) (h:Ms H0 W g b):Ms H0 (lD W a) g b:=by
 cases g with
 | true=>exact⟨fun z=>z.elim h.1 n,h.2⟩
 | false=>exact fun z=>z.elim h n
theorem PX.setOwn {i:Nat}{a:Addr}{x:PV} (p:PX K H0 W σ ρ Hs) (s:aD Hs H) (ha:Hs a=none) (r:gV K (Ms H0 (lD W a) true) H a x):PX K H0 (lD W a) (σ.set i (some (.ref a))) (ρ.set i (some (.own x))) H:=by
 have old:∀ b o,Hs b=some o->b ≠ a:=fun b o e z=>by rw [z,ha] at e; cases e
 have kp:∀ g,gF (Ms H0 W g) (Ms H0 (lD W a) g) Hs H:=fun g=>⟨fun b _ m e=>⟨uN (old _ _ e) m,s _ _ e⟩,fun b _ m e=>⟨uN (old _ _ e) m,s _ _ e⟩,fun b _ m e=>⟨uN (old _ _ e) m,s _ _ e⟩,fun _ _ e=>s _ _ e,fun _ _ _ e=>s _ _ e⟩
 have wa : ¬ W a:=(p.new ha).1
 refine⟨by rw [bk2,bk2]; exact p.len,p.same.trans s,fun b z=>?_,fun j m h=>?_,fun j k y z b h1 h2 h3 h4=>?_⟩
 ·rcases z with z | rfl
  ·obtain ⟨h1,o,h2,h3⟩:=p.wm b z
   exact⟨h1,o,s _ _ h2,h3⟩
  ·exact⟨(p.new ha).2,r.at⟩
 ·rcases iD h with ⟨rfl,hl,e⟩ | ⟨hne,h⟩
  ·cases e
   rw [p.len] at hl
   exact⟨_,bk0 hl,a,rfl,.inr rfl,r⟩
  ·obtain ⟨u,e,q⟩:=p.sl j m h
   refine⟨u,by rw [be6 (Ne.symm hne)]; exact e,?_⟩
   cases m with
   | sh g y=>exact aE.keep (kp g) q
   | own y=>
    obtain ⟨b,e1,e2,q⟩:=q
    exact⟨b,e1,.inl e2,q.keep (kp true) fun o z=>s _ _ z⟩
 ·have ne:∀ {j:Nat}{y:PV},ρ[j]? = some (some (.own y))->σ[j]? ≠ some (some (.ref a)):=fun {j y} h1 h2=>by
   obtain ⟨u,e,c,e1,e2,_⟩:=p.sl j _ h1
   rw [h2] at e
   cases e
   cases e1
   exact wa e2
  rcases iD h1 with ⟨e1,l1,_⟩ | ⟨n1,h1⟩
  ·rcases iD h2 with ⟨e2,_,_⟩ | ⟨n2,h2⟩
   ·rw [e1,e2]
   ·rw [e1,bk0 (by rw [<- p.len]; exact l1)] at h3
    rw [be6 (Ne.symm n2)] at h4
    cases h3
    exact absurd h4 (ne h2)
  ·rw [be6 (Ne.symm n1)] at h3
   rcases iD h2 with ⟨e2,l2,_⟩ | ⟨n2,h2⟩
   ·rw [e2,bk0 (by rw [<- p.len]; exact l2)] at h4
    cases h4
    exact absurd h3 (ne h1)
   ·rw [be6 (Ne.symm n2)] at h4
    exact p.dis j k y z b h1 h2 h3 h4
theorem Ev.own {a:Addr} (s:aD Hs H) (ha:Hs a=none):Ev W Hs (lD W a) H:=fun b o e n=>⟨s _ _ e,fun z=>z.elim n fun z=>by rw [z,ha] at e; cases e⟩
theorem jP {g:Bool}{a b:Addr} (wa:W a) (h:Ms H0 W g b):b ≠ a:=by
 cases g with
 | true=>exact fun z=>h.1 (by rw [z]; exact wa)
 | false=>exact fun z=>h (by rw [z]; exact wa)
theorem PX.updOwn {i:Nat}{a:Addr}{x y:PV}{o:HO} (p:PX K H0 W σ ρ H) (hi:ρ[i]? = some (some (.own x))) (ha:σ[i]? = some (some (.ref a))) (wa:W a) (mu:fJ o=true) (r:gV K (Ms H0 W true) (upd H a o) a y) :
  PX K H0 W σ (ρ.set i (some (.own y))) (upd H a o):=by
 obtain ⟨w0,o',e',mu'⟩:=p.wm a wa
 have kp:∀ g,gF (Ms H0 W g) (Ms H0 W g) H (upd H a o):=fun g=>.upd e' mu' fun b m=>⟨jP wa m,m⟩
 refine⟨by rw [bk2]; exact p.len,fun b u e=>by rw [aH (fun z=>by rw [z,w0] at e; cases e)]; exact p.same _ _ e,fun b z=>?_,fun j m h=>?_,fun j k y' z b h1 h2 h3 h4=>?_⟩
 ·by_cases e:b=a
  ·subst e; exact⟨w0,o,aW,mu⟩
  ·obtain ⟨h1,o2,h2,h3⟩:=p.wm b z
   exact⟨h1,o2,by rw [aH e]; exact h2,h3⟩
 ·rcases iD h with ⟨rfl,hl,e⟩ | ⟨hne,h⟩
  ·cases e
   exact⟨_,ha,a,rfl,wa,r⟩
  ·obtain ⟨u,e,q⟩:=p.sl j m h
   refine⟨u,e,?_⟩
   cases m with
   | sh g y=>exact aE.keep (kp g) q
   | own y=>
    obtain ⟨b,e1,e2,q⟩:=q
    have hb:b ≠ a:=fun z=>by
     subst e1
     rw [z] at e
     exact hne (p.dis j i _ _ a h hi e ha)
    exact⟨b,e1,e2,q.keep (kp true) fun o z=>by rw [aH hb]; exact z⟩
 ·have g1:∃ y,ρ[j]? = some (some (.own y)):=by
   rcases iD h1 with ⟨e,_,_⟩ | ⟨_,h⟩
   ·exact⟨x,by rw [e]; exact hi⟩
   ·exact⟨_,h⟩
  have g2:∃ y,ρ[k]? = some (some (.own y)):=by
   rcases iD h2 with ⟨e,_,_⟩ | ⟨_,h⟩
   ·exact⟨x,by rw [e]; exact hi⟩
   ·exact⟨_,h⟩
  obtain ⟨y1,g1⟩:=g1
  obtain ⟨y2,g2⟩:=g2
  exact p.dis j k y1 y2 b g1 g2 h3 h4
theorem Ev.upd {a:Addr}{o:HO} (wa:W a):Ev W H W (upd H a o):=fun b u e n=>⟨by rw [aH (fun z=>n (by rw [z]; exact wa))]; exact e,n⟩
end
section
variable {X : Cx} {σ : St} {H : Hp} {D : cN} {te : aG} {t u : aP}
def dA:aP:=fun D ρ=>D.nx ρ
def aK (t u:aP):aP:=fun D ρ=>t { D with nx:=u D } ρ
theorem au3 (h:LS X dA D σ H):yA D σ H:=by
 obtain ⟨W,ρ,D',px,q,k⟩:=h
 exact k.nx W σ H ρ (Ev.refl _ _) px q
theorem au4 (h:LS X (aK t u) D σ H):yB (LS X t) (LS X u) D σ H:=by
 obtain ⟨W,ρ,D',px,q,k⟩:=h
 exact⟨W,ρ,_,px,q,fun W' σ' H' ρ' e px' q'=>⟨W',ρ',D',px',q',k.step e⟩,k.rt,k.bk,k.ct⟩
def G0:Tg->PV->Bool
 | .fr,_=>true
 | .nw,_=>true
 | _,x=>flat x
def G1:Tg->PV->Prop
 | .rd,x=>flat x=true
 | _,_=>True
theorem au5 {K:PySem.W.Frag}{H0 Hs H:Hp}{W:Addr->Prop}{σ:St}{ρ:b7}{g:Tg}{x:PV}{v:V} (px:PX K H0 W σ ρ Hs) (n:G1 g x) (r:aE K (Mg H0 W Hs g) H v x):aE K (Ms H0 W (G0 g x)) H v x:=by
 cases g with
 | fr=>exact Nw.rep (g:=.fr) px trivial r
 | nw=>exact Nw.rep (g:=.nw) px trivial r
 | sh=>
  show aE K (Ms H0 W (flat x)) H v x
  cases e:flat x with
  | true=>exact r.flat e
  | false=>exact r.same (aD.refl _) fun _ z=>z
 | rd=>exact r.flat n
def aY (i:Nat) (te:aG):aP:=fun D ρ=>te ρ fun x g=>G1 g x/\D.nx (ρ.set i (some (.sh (G0 g x) x)))
theorem pP {i:Nat} (h:LS X (aY i te) D σ H):iS (LE X te) (cX i) D σ H:=by
 obtain ⟨W,ρ,D',px,q,k⟩:=h
 refine⟨W,ρ,_,px,q,?_⟩
 rintro v H1 x g s r ⟨n,q⟩
 exact k.nx W _ H1 _ (Ev.same s) ((px.mono s).setSh (au5 px n r)) q
def G2:PV->Bool
 | .lst xs=>flats xs
 | .dK ps=>flats (ps.map (·.2))
 | .dT ps=>flats (ps.map (·.2))
 | _=>false
theorem au6 {K:PySem.W.Frag}{M:Addr->Prop}{H:Hp}{v:V}{x:PV} (r:aE K M H v x) (o:G2 x=true):∃ a,v = .ref a/\M a/\∀ M',gV K M' H a x:=by
 cases r with
 | lst m e r=>exact⟨_,rfl,m,fun _=>⟨_,e,r.flat o⟩⟩
 | dK m e q r=>exact⟨_,rfl,m,fun _=>⟨_,e,q,r.flat o⟩⟩
 | dT m e q r=>exact⟨_,rfl,m,fun _=>⟨_,e,q,r.flat o⟩⟩
 | _=>cases o
def dS (i:Nat) (te:aG):aP:=fun D ρ=>te ρ fun x g=>g = .fr/\G2 x=true/\D.nx (ρ.set i (some (.own x)))
theorem au7 {i:Nat} (h:LS X (dS i te) D σ H):iS (LE X te) (cX i) D σ H:=by
 obtain ⟨W,ρ,D',px,q,k⟩:=h
 refine⟨W,ρ,_,px,q,?_⟩
 rintro v H1 x g s r ⟨rfl,o,q⟩
 obtain ⟨a,rfl,m,w⟩:=au6 r o
 exact k.nx _ _ H1 _ (Ev.own s m) (px.setOwn s m (w _)) q
def bO (te:aG):aP:=fun D ρ=>te ρ fun x g=>Nw g x/\D.rt x
theorem au8 (h:LS X (bO te) D σ H):sN (LE X te) D σ H:=by
 obtain ⟨W,ρ,D',px,q,k⟩:=h
 refine⟨W,ρ,_,px,q,?_⟩
 rintro v H1 x g s r ⟨n,q⟩
 exact k.rt v H1 x (px.same.trans s) ((Nw.rep px n r).same (aD.refl _) fun _ z=>z.2) q
def Slot.nw:Slot->Prop
 | .own _=>True
 | .sh true _=>True
 | .sh false x=>flat x=true
def kF (i:Nat):aP:=fun D ρ=>∃ m,ρ[i]? = some (some m)/\m.nw/\D.rt m.val
theorem au9 {i:Nat} (h:LS X (kF i) D σ H):sN (fR i) D σ H:=by
 obtain ⟨W,ρ,D',px,⟨m,hi,n,q⟩,k⟩:=h
 obtain ⟨v,ev,r⟩:=px.sl i _ hi
 refine⟨v,ev,k.rt v H _ px.same ?_ q⟩
 cases m with
 | own x=>
  obtain ⟨a,rfl,wa,r⟩:=r
  exact r.rep (fun _ z=>z.2) (px.wm a wa).1
 | sh g x=>
  cases g with
  | true=>exact aE.same r (aD.refl _) fun _ z=>z.2
  | false=>exact aE.flat n r
def dB (c:c7) (t u:aP):aP:=fun D ρ=>c ρ fun b=>if b=true then t D ρ else u D ρ
theorem av0 {c:c7} (h:LS X (dB c t u) D σ H):yC (LT X c) (LS X t) (LS X u) D σ H:=by
 obtain ⟨W,ρ,D',px,q,k⟩:=h
 refine⟨W,ρ,_,px,q,fun b H1 s q1=>?_⟩
 cases b with
 | true=>exact bV ⟨W,ρ,D',px.mono s,by simpa using q1,k.step (Ev.same s)⟩
 | false=>exact b6 ⟨W,ρ,D',px.mono s,by simpa using q1,k.step (Ev.same s)⟩
def uO (c:c7) (tb:aP):aP:=fun D ρ=>∃ I:Nat->b7->Prop,(∃ m,I m ρ)/\∀ m ρ',I m ρ'->c ρ' fun b=>if b=true then tb { D with nx:=fun ρ2=>∃ m',m' < m/\I m' ρ2,ct:=fun ρ2=>∃ m',m' < m/\I m' ρ2,bk:=D.nx } ρ' else D.nx ρ'
theorem av1 {c:c7}{tb:aP} (h:LS X (uO c tb) D σ H):yF (LT X c) (LS X tb) D σ H:=by
 obtain ⟨W,ρ,D',px,⟨I,⟨m0,i0⟩,turn⟩,k⟩:=h
 refine⟨fun m σ2 H2=>∃ W2 ρ2,PX X.K X.H₀ W2 σ2 ρ2 H2/\Ev W H W2 H2/\I m ρ2,⟨m0,W,ρ,px,Ev.refl _ _,i0⟩,?_⟩
 rintro m σ2 H2 ⟨W2,ρ2,px2,e2,i2⟩
 refine⟨W2,ρ2,_,px2,turn m ρ2 i2,fun b H3 s3 q3=>?_⟩
 cases b with
 | true=>
  refine bV ⟨fun σ4 H4=>∃ W4 ρ4,PX X.K X.H₀ W4 σ4 ρ4 H4/\Ev W H W4 H4/\∃ m',m' < m/\I m' ρ4,fun σ4 H4 ⟨W4,ρ4,a,b,m',c,d⟩=>⟨m',c,W4,ρ4,a,b,d⟩,W2,ρ2,_,px2.mono s3,by simpa using q3,?_⟩
  have e3:Ev W H W2 H3:=e2.trans (Ev.same s3)
  exact⟨fun W' σ' H' ρ' e p q=>⟨W',ρ',p,e3.trans e,q⟩,k.rt,fun W' σ' H' ρ' e p q=>k.nx W' σ' H' ρ' (e3.trans e) p q,fun W' σ' H' ρ' e p q=>⟨W',ρ',p,e3.trans e,q⟩⟩
 | false=>exact b6 (k.nx W2 σ2 H3 ρ2 (e2.trans (Ev.same s3)) (px2.mono s3) (by simpa using q3))
end
theorem lim {n:Nat} (h:n<=16000000):n<=sizeLine:=bg6 (iC h)
theorem aE.sqT {K:PySem.W.Frag}{M:Addr->Prop}{H:Hp}{v:V}{xs:List PV} (r:aE K M H v (.tup xs)):∃ a us,v = .ref a/\H a=some (.tup us)/\Reps K M H us xs:=by
 cases r with
 | tup e r=>exact⟨_,_,rfl,e,r⟩
theorem aE.sqL {K:PySem.W.Frag}{M:Addr->Prop}{H:Hp}{v:V}{xs:List PV} (r:aE K M H v (.lst xs)):∃ a us,v = .ref a/\M a/\H a=some (.lst us)/\Reps K M H us xs:=by
 cases r with
 | lst m e r=>exact⟨_,_,rfl,m,e,r⟩
theorem j6.sqL {K:PySem.W.Frag}{H:Hp}{a:Addr}{ns:List Int} (h:j6 K H a ns):aL K H a (ns.map V.int):=h.elim (fun z=>.inl (.inr z)) .inr
def gX:PV->Option (List PV)
 | .tup xs=>some xs
 | .lst xs=>some xs
 | .scr ns=>some (intz ns)
 | .kt xs=>some xs
 | _=>none
theorem aE.seq {K:PySem.W.Frag}{M:Addr->Prop}{H:Hp}{v:V}{x:PV}{xs:List PV} (r:aE K M H v x) (e:gX x=some xs):∃ a us,v = .ref a/\(aL K H a us ∨ aI K H a us)/\Reps K M H us xs:=by
 cases r with
 | tup h r=>cases e; exact⟨_,_,rfl,.inr (aI.of h),r⟩
 | lst m h r=>cases e; exact⟨_,_,rfl,.inl (aL.of h),r⟩
 | scr h=>cases e; exact⟨_,_,rfl,.inl h.sqL,Reps.intz _⟩
 | kt h r=>cases e; exact⟨_,_,rfl,.inr (.inr h),r⟩
 | _=>cases e
section
variable {X : Cx} {σ : St} {H : Hp} {D : cN} {te ti to : aG} {t u : aP} {Q' : VK}
theorem _root_.PP.PX.updL {K:PySem.W.Frag}{H0:Hp}{W:Addr->Prop}{σ:St}{ρ:b7}{H:Hp}{i:Nat}{a:Addr}{x:PV}{us:List V}{ys:List PV} (p:PX K H0 W σ ρ H) (hi:ρ[i]? = some (some (.own x))) (ha:σ[i]? = some (some (.ref a))) (wa:W a) (r:Reps K (Ms H0 W true) (upd H a (.lst us)) us ys) :
  PX K H0 W σ (ρ.set i (some (.own (.lst ys)))) (upd H a (.lst us)):=p.updOwn hi ha wa rfl (y:=.lst ys) ⟨us,aW,r⟩
def j7 (i:Nat) (te:aG):aP:=fun D ρ=>∃ xs,ρ[i]? = some (some (.own (.lst xs)))/\te ρ fun x g=>Nw g x/\xs.length < 16000000/\D.nx (ρ.set i (some (.own (.lst (xs ++ [x])))))
theorem av2 {i:Nat} (h:LS X (j7 i te) D σ H):oN (oU X.K "list" tK (fR i) (gR (LE X te) iT)) D σ H:=by
 obtain ⟨W,ρ,D',px,⟨xs,hi,q⟩,k⟩:=h
 obtain ⟨v,ev,a,rfl,wa,us,ea,r⟩:=px.sl i _ hi
 refine⟨_,ev,mZ (aL.of ea),W,ρ,_,px,q,?_⟩
 rintro w H1 x g s rx ⟨n,hl,q⟩
 have ea1:=s _ _ ea
 refine⟨a,us,w,rfl,rfl,ea1,iC (by rw [r.length]; omega),?_⟩
 refine k.nx W σ _ _ ((Ev.same s).trans (Ev.upd wa)) ((px.mono s).updL hi ev wa ?_) q
 exact ((r.same s fun _ z=>z).append (.cons (Nw.rep px n rx) .nil)).keep (.upd ea1 rfl fun b m=>⟨jP wa m,m⟩)
def uP (i:Nat) (tk te:aG):aP:=fun D ρ=>te ρ fun x g=>∃ xs,ρ[i]? = some (some (.own (.lst xs)))/\tk ρ fun y _=>∃ n j,y = .int n/\gT xs.length n=some j/\Nw g x/\D.nx (ρ.set i (some (.own (.lst (xs.set j x)))))
theorem av3 {i:Nat}{tk:aG} (h:LS X (uP i tk te) D σ H):iS (LE X te) (sT (fR i) (LE X tk) tG) D σ H:=by
 obtain ⟨W,ρ,D',px,q,k⟩:=h
 refine⟨W,ρ,_,px,q,?_⟩
 rintro w H1 x g s rx ⟨xs,hi,q1⟩
 obtain ⟨v,ev,a,rfl,wa,us,ea,r⟩:=(px.mono s).sl i _ hi
 refine⟨_,ev,W,ρ,_,px.mono s,q1,?_⟩
 rintro kv H2 y gy s2 ry ⟨n,j,rfl,hj,nw,q2⟩
 cases ry
 have ea2:=s2 _ _ ea
 refine⟨a,us,n,j,rfl,rfl,ea2,by rw [r.length]; exact hj,?_⟩
 refine k.nx W σ _ _ ((Ev.same (s.trans s2)).trans (Ev.upd wa)) ((px.mono (s.trans s2)).updL hi ev wa ?_) q2
 exact (Reps.set ((Nw.rep px nw rx).same s2 fun _ z=>z) j (r.same s2 fun _ z=>z)).keep (.upd ea2 rfl fun b m=>⟨jP wa m,m⟩)
theorem av4 {m n:Nat} (h:m < n):seqIndex? (m:Int) n=some m:=by
 have:=seqIndex_of (k:=(m:Int)) (n:=n) (by omega) (by omega)
 rw [this]; rfl
def nD (i j:Nat) (tk:aG):aP:=fun D ρ=>∃ ys xs,i ≠ j/\ρ[i]? = some (some (.own (.lst ys)))/\ρ[j]? = some (some (.own (.lst xs)))/\tk ρ fun n _=>∃ (m:Nat) (y:PV),n = .int m/\xs.length<=16000000/\ys.length < 16000000/\xs[m]? = some y/\
 D.nx ((ρ.set j (some (.own (.lst (xs.eraseIdx m))))).set i (some (.own (.lst (ys ++ [y])))))
theorem av5 {i j:Nat}{tk:aG} (h:LS X (nD i j tk) D σ H):oN (oU X.K "list" tK (fR i) (gR (oU X.K "list" zX (fR j) (gR (LE X tk) iT)) iT)) D σ H:=by
 obtain ⟨W,ρ,D',px,⟨ys,xs,hij,hi,hj,q⟩,k⟩:=h
 obtain ⟨v,ev,a,rfl,wa,us,ea,r⟩:=px.sl i _ hi
 obtain ⟨v2,ev2,b,rfl,wb,vs,eb,rb⟩:=px.sl j _ hj
 have hab:a ≠ b:=fun z=>by subst z; exact hij (px.dis i j _ _ a hi hj ev ev2)
 refine⟨_,ev,mZ (aL.of ea),_,ev2,mZ (aL.of eb),W,ρ,_,px,q,?_⟩
 rintro w H1 n g s rn ⟨m,y,rfl,hl,hl2,hm,q⟩
 cases rn
 have ea1:=s _ _ ea
 have eb1:=s _ _ eb
 have r1:=rb.same (M':=Ms X.H₀ W true) s fun _ z=>z
 have r0:=r.same (M':=Ms X.H₀ W true) s fun _ z=>z
 obtain ⟨w,hw,ry⟩:=r1.at hm
 have lm:m < vs.length:=(bc5.mp hw).1
 have lr:=rb.length
 refine⟨b,vs,m,m,w,rfl,rfl,eb1,by omega,by omega,av4 lm,hw,?_⟩
 have kp:gF (Ms X.H₀ W true) (Ms X.H₀ W true) H1 (upd H1 b (.lst (vs.eraseIdx m))):=.upd eb1 rfl fun b m=>⟨jP wb m,m⟩
 have ea2:upd H1 b (.lst (vs.eraseIdx m)) a=some (.lst us):=by rw [aH hab]; exact ea1
 refine⟨a,us,w,rfl,rfl,ea2,iC (by rw [r.length]; omega),?_⟩
 have px2:=(px.mono s).updL hj ev2 wb ((r1.eraseIdx m).keep kp)
 have hi2:(ρ.set j (some (Slot.own (.lst (xs.eraseIdx m)))))[i]? = some (some (.own (.lst ys))):=by rw [be6 (Ne.symm hij)]; exact hi
 have kp2:gF (Ms X.H₀ W true) (Ms X.H₀ W true) (upd H1 b (.lst (vs.eraseIdx m))) (upd (upd H1 b (.lst (vs.eraseIdx m))) a (.lst (us ++ [w]))):=.upd ea2 rfl fun b m=>⟨jP wa m,m⟩
 exact k.nx W _ _ _ (((Ev.same s).trans (Ev.upd wb)).trans (Ev.upd wa)) (px2.updL hi2 ev wa (((r0.keep kp).append (.cons (ry.keep kp) .nil)).keep kp2)) q
end
theorem Reps.atI {K:PySem.W.Frag}{M:Addr->Prop}{H:Hp}{us:List V}{xs:List PV}{i:Int}{z:PV} (r:Reps K M H us xs) (h:L2.atI xs i=some z):∃ v,L2.atI us i=some v/\aE K M H v z:=by
 unfold L2.atI at h ⊢
 rw [r.length]
 cases e:gT xs.length i with
 | none=>rw [e] at h; cases h
 | some j=>rw [e] at h; exact r.at h
section
variable {X : Cx} {σ : St} {H : Hp} {Q' : VK} {ta tb te : aG} {tr : cZ}
def uQ:PV->Tg->PV->Tg->PK->Prop:=fun x g y _ Q=>∃ xs i z,gX x=some xs/\y = .int i/\L2.atI xs i=some z/\Q z g
theorem av6:eJ X uQ (zS X.K):=by
 rintro W Hs H u v x y g g' Q Q' s n r1 r2 ⟨xs,i,z,e,rfl,hz,q⟩ k
 cases r2
 obtain ⟨a,us,rfl,hs,r⟩:=r1.seq e
 obtain ⟨v,hv,rv⟩:=r.atI hz
 rcases hs with hs | hs
 ·exact .inl ⟨a,us,i,v,rfl,rfl,hs,hv,k v H z g (aD.refl _) rv q⟩
 ·exact .inr (.inl ⟨a,us,i,v,rfl,rfl,hs,hv,k v H z g (aD.refl _) rv q⟩)
def uR:PV->Option Nat
 | .tup xs=>some xs.length
 | .lst xs=>some xs.length
 | .scr ns=>some ns.length
 | .dK ps=>some ps.length
 | .kt xs=>some xs.length
 | _=>none
def eZ:List PV->(PV->Prop)->Prop:=fun xs Q=>∃ x n,xs = [x]/\uR x=some n/\Q (.int n)
theorem Reps.one {K:PySem.W.Frag}{M:Addr->Prop}{H:Hp}{vs:List V}{x:PV} (r:Reps K M H vs [x]):∃ v,vs = [v]/\aE K M H v x:=by
 cases r with
 | cons r t=>cases t; exact⟨_,rfl,r⟩
theorem Reps.two {K:PySem.W.Frag}{M:Addr->Prop}{H:Hp}{vs:List V}{x y:PV} (r:Reps K M H vs [x,y]):∃ v w,vs = [v,w]/\aE K M H v x/\aE K M H w y:=by
 cases r with
 | cons r t=>
  obtain ⟨w,rfl,q⟩:=t.one
  exact⟨_,_,rfl,r,q⟩
theorem av7:eB X eZ (fun xs H Q=>(∃ p ys,xs = [.ref p]/\(aL X.K H p ys ∨ aI X.K H p ys)/\Q (.int ys.length) H) ∨ ∃ a kvs,xs = [V.ref a]/\H a=some (.dK kvs)/\Q (.int kvs.length) H):=by
 rintro H vs xs Q Q' r ⟨x,n,rfl,e,q⟩ k
 obtain ⟨v,rfl,r1⟩:=r.one
 have fin:∀ {m:Nat},m=n->Q' (.int m) H:=fun {m} z=>by rw [z]; exact k _ _ _ (aD.refl _) (.int _) q
 cases r1 with
 | tup h r2=>cases e; exact .inl ⟨_,_,rfl,.inr (aI.of h),fin r2.length⟩
 | lst m h r2=>cases e; exact .inl ⟨_,_,rfl,.inl (aL.of h),fin r2.length⟩
 | scr h=>cases e; exact .inl ⟨_,_,rfl,.inl h.sqL,fin (by rw [bb4])⟩
 | kt h r2=>cases e; exact .inl ⟨_,_,rfl,.inr (.inr h),fin r2.length⟩
 | dK m h e' r=>
  cases e
  refine .inr ⟨_,_,rfl,h,fin ?_⟩
  have:=congrArg List.length e'
  rw [bb4,bb4] at this
  exact this
 | _=>cases e
def seqT:PV->Option (List PV)
 | .kt _=>none
 | x=>gX x
def G3:List PV->(PV->Prop)->Prop:=fun xs Q=>∃ x ys,xs = [x]/\seqT x=some ys/\flats ys=true/\Q (.tup ys)
def lE:List PV->(PV->Prop)->Prop:=fun xs Q=>∃ x ys,xs = [x]/\gX x=some ys/\flats ys=true/\Q (.lst ys)
theorem av8:eB X (fun xs Q=>G3 xs Q/\∀ ns,xs ≠ [.scr ns]) (fun xs H Q=>∃ p ys,xs = [.ref p]/\((aL X.K H p ys/\∀ l,H l=none->Q (.ref l) (upd H l (.tup ys))) ∨ (aI X.K H p ys/\Q (.ref p) H))):=by
 rintro H vs xs Q Q' r ⟨⟨x,ys,rfl,e,f,q⟩,nsc⟩ k
 obtain ⟨v,rfl,r1⟩:=r.one
 cases r1 with
 | tup h r2=>cases e; exact⟨_,_,rfl,.inr ⟨aI.of h,k _ _ _ (aD.refl _) (.tup h (r2.flat f)) q⟩⟩
 | lst m h r2=>cases e; exact⟨_,_,rfl,.inl ⟨aL.of h,fun l hl=>k _ _ _ (b9 hl _) (.tup aW ((r2.flat f).same (b9 hl _) fun _ z=>z)) q⟩⟩
 | scr h=>exact absurd rfl (nsc _)
 | _=>cases e
theorem av9:eB X lE (fun xs H Q=>∃ p ys,xs = [.ref p]/\(aL X.K H p ys ∨ aI X.K H p ys)/\∀ l,H l=none->Q (.ref l) (upd H l (.lst ys))):=by
 rintro H vs xs Q Q' r ⟨x,ys,rfl,e,f,q⟩ k
 obtain ⟨v,rfl,r1⟩:=r.one
 obtain ⟨a,us,rfl,hs,r2⟩:=r1.seq e
 exact⟨_,_,rfl,hs,fun l hl=>k _ _ _ (b9 hl _) (.lst hl aW ((r2.flat f).same (b9 hl _) fun _ z=>z)) q⟩
def kG:List PV->(PV->Prop)->Prop:=fun xs Q=>∃ ns,xs = [.lst (intz ns)]/\ns.length < 64/\∀ ms:List Int,ms.Perm ns->ms.Pairwise (· <= ·)->Q (.lst (intz ms))
theorem aw0:eB X kG (C5 X.K):=by
 rintro H vs xs Q Q' r ⟨ns,rfl,hl,q⟩ k
 obtain ⟨v,rfl,r1⟩:=r.one
 obtain ⟨a,us,rfl,_,h,r2⟩:=r1.sqL
 obtain rfl:=r2.ofInts
 exact⟨a,ns,rfl,aL.of h,hl,fun l ms hl' p o=>k _ _ _ (b9 hl' _) (.lst hl' aW (Reps.intz ms)) (q ms p o)⟩
def nE:List PV->(PV->Prop)->Prop:=fun xs Q=>∃ bs:List Bool,xs = [.lst (bs.map PV.bl)]/\Q (.bl (bs.all id))
theorem Reps.ofBls {K:PySem.W.Frag}{M:Addr->Prop}{H:Hp}:∀ {ns:List Bool}{us:List V},Reps K M H us (ns.map PV.bl)->us=ns.map V.bl
 | [],_,.nil=>rfl
 | n :: r,_,.cons q t=>by
  cases q
  rw [Reps.ofBls t]; rfl
theorem aw1:eB X nE (fun xs H Q=>∃ (a:Addr) (bs:List Bool),xs = [.ref a]/\aL X.K H a (bs.map V.bl)/\Q (.bl (bs.all id)) H):=by
 rintro H vs xs Q Q' r ⟨bs,rfl,q⟩ k
 obtain ⟨v,rfl,r1⟩:=r.one
 obtain ⟨a,us,rfl,_,h,r2⟩:=r1.sqL
 obtain rfl:=r2.ofBls
 exact⟨a,bs,rfl,aL.of h,k _ _ _ (aD.refl _) (.bl _) q⟩
def pQ:List PV->(PV->Prop)->Prop:=fun xs Q=>∃ i j,xs = [.int i,.int j]/\Q (.int (if j < i then j else i))
def nF:List PV->(PV->Prop)->Prop:=fun xs Q=>∃ i j,xs = [.int i,.int j]/\Q (.int (if j > i then j else i))
theorem aw2:eB X pQ (fun xs H Q=>∃ i j,xs = [.int i,.int j]/\Q (.int (if j < i then j else i)) H):=by
 rintro H vs xs Q Q' r ⟨i,j,rfl,q⟩ k
 obtain ⟨v,w,rfl,r1,r2⟩:=r.two
 cases r1; cases r2
 exact⟨i,j,rfl,k _ _ _ (aD.refl _) (.int _) q⟩
theorem aw3:eB X nF (fun xs H Q=>∃ i j,xs = [.int i,.int j]/\Q (.int (if j > i then j else i)) H):=by
 rintro H vs xs Q Q' r ⟨i,j,rfl,q⟩ k
 obtain ⟨v,w,rfl,r1,r2⟩:=r.two
 cases r1; cases r2
 exact⟨i,j,rfl,k _ _ _ (aD.refl _) (.int _) q⟩
abbrev bD:=List PV->(PV->Prop)->Prop
def nG (K:PySem.W.Frag) (p:bD):Sp:=fun vs H Q _=>∃ xs Qp,Reps K (fun _=>True) H vs xs/\p xs Qp/\∀ v H' x,aD H H'->aE K (fun a=>H a=none) H' v x->Qp x->Q v H'
theorem aw4 {p:bD}{E:XK} (h:LE X (aB p tr) σ H Q'):t5 (nG X.K p) [] E (LA X tr) σ H Q':=by
 obtain ⟨W,ρ,Q,px,q,k⟩:=h
 refine⟨W,ρ,_,px,q,fun vs H1 xs s1 r1 q1=>⟨_,_,by rw [bf8]; exact r1.any,q1,fun v H' x s2 r2 q2=>k v H' x .fr (s1.trans s2) (r2.same (aD.refl _) fun _ z=>s1.free z) q2⟩⟩
def aw5:PV->Option Bool
 | .non=>some false
 | .bl b=>some b
 | .int i=>some (i != 0)
 | .tup xs=>some (!xs.isEmpty)
 | .lst xs=>some (!xs.isEmpty)
 | .dK ps=>some (!ps.isEmpty)
 | _=>none
def pR (t:aG):c7:=fun ρ Q=>t ρ fun x _=>∃ b,aw5 x=some b/\Q b
theorem uS {α β:Type}:∀ {l:List α}{m:List β},l.length=m.length->l.isEmpty=m.isEmpty
 | [],[],_=>rfl
 | _ :: _,_ :: _,_=>rfl
theorem aw6 {t:aG}{Qb:Bool->Hp->Prop} (h:LT X (pR t) σ H Qb):LE X t σ H fun x H'=>∃ k,t0 X.K x H' k/\Qb k H':=by
 obtain ⟨W,ρ,Q,px,q,k⟩:=h
 refine⟨W,ρ,_,px,q,?_⟩
 rintro v H1 x g s r ⟨b,e,q⟩
 refine⟨b,?_,k _ _ s q⟩
 cases r with
 | non=>cases e; rfl
 | bl b=>cases e; rfl
 | int i=>cases e; rfl
 | str x=>cases e
 | tup h r=>cases e; exact .inr (.inl ⟨_,aI.of h,by rw [uS r.length]⟩)
 | lst m h r=>cases e; exact .inl ⟨_,aL.of h,by rw [uS r.length]⟩
 | dK m h e' r=>
  cases e
  refine .inr (.inr ⟨_,h,?_⟩)
  have:=congrArg List.length e'
  rw [bb4,bb4] at this
  rw [uS this]
 | dT m h e' r=>cases e
 | scr h=>cases e
 | kt h r=>cases e
 | exc h e' c=>cases e
 | fK h e' r=>cases e
 | fT h e' r=>cases e
end
structure jQ (K:PySem.W.Frag) (H0:Hp) (W:Addr->Prop) (g:Bool) (H1:Hp) (J:It) (xs:List PV):Prop where
 go:∀ W' H' i,Ev W H1 W' H'->i < xs.length->J.go i H'
 yld:∀ W' H' i v H2,Ev W H1 W' H'->J.yld i H' v H2->i < xs.length->aD H' H2/\∃ x,xs[i]? = some x/\aE K (Ms H0 W' g) H2 v x
 stop:∀ W' H',Ev W H1 W' H'->J.stop xs.length H'
abbrev eL:=b7->(List PV->Bool->Prop)->Prop
def LI (X:Cx) (t:eL):TI:=fun σ H R=>∃ (W:Addr->Prop) (ρ:b7) (Q:List PV->Bool->Prop),PX X.K X.H₀ W σ ρ H/\t ρ Q/\∀ J H1 xs g,aD H H1->jQ X.K X.H₀ W g H1 J xs->Q xs g->R J H1
theorem Ev.keep {H0:Hp}{W W':Addr->Prop}{H H':Hp}{g:Bool} (e:Ev W H W' H') (tw:∀ a,W a->∃ o,H a=some o/\fJ o=true):gF (Ms H0 W g) (Ms H0 W' g) H H':=by
 have m:∀ {a:Addr}{o:HO},Ms H0 W g a->H a=some o->Ms H0 W' g a/\H' a=some o:=fun {a o} z h=>by
  cases g with
  | true=>
   obtain ⟨h1,h2⟩:=e a _ h z.1
   exact⟨⟨h2,z.2⟩,h1⟩
  | false=>
   obtain ⟨h1,h2⟩:=e a _ h z
   exact⟨h2,h1⟩
 refine⟨fun a _ z h=>m z h,fun a _ z h=>m z h,fun a _ z h=>m z h,fun a _ h=>(e a _ h fun z=>?_).1,fun a _ _ h=>(e a _ h fun z=>?_).1⟩
 ·obtain ⟨o,h',mu⟩:=tw a z; rw [h] at h'; cases h'; cases mu
 ·obtain ⟨o,h',mu⟩:=tw a z; rw [h] at h'; cases h'; cases mu
section
variable {X : Cx} {σ : St} {H : Hp} {te : aG} {tr : cZ} {R : It → Hp → Prop}
def G4 (K:PySem.W.Frag) (tl:TE):TI:=fun σ H R=>tl σ H fun x H1=>∃ a,x = .ref a/\((∃ xs,aL K H1 a xs/\R (kZ K a) H1) ∨ (∃ xs,aI K H1 a xs/\R (jK K a) H1))
def lF:Tg->List PV->Bool
 | .fr,_=>true
 | .nw,_=>true
 | _,xs=>flats xs
def eC (te:aG):eL:=fun ρ Q=>te ρ fun x g=>∃ xs,gX x=some xs/\(g = .rd->flat x=true)/\Q xs (lF g xs)
theorem G5 {K:PySem.W.Frag}{H0:Hp}{W:Addr->Prop}{g:Bool}{H1:Hp}{a:Addr}{us:List V}{xs:List PV} (tw:∀ a,W a->∃ o,H1 a=some o/\fJ o=true) (ha:∀ W' H',Ev W H1 W' H'->aL K H' a us) (r:Reps K (Ms H0 W g) H1 us xs):jQ K H0 W g H1 (kZ K a) xs:=by
 have lr:=r.length
 refine⟨fun W' H' i e hi=>⟨us,us[i]'(by omega),ha W' H' e,by simp⟩,fun W' H' i v H2 e y hi=>?_,fun W' H' e=>⟨us,ha W' H' e,by omega⟩⟩
 obtain ⟨rfl,y⟩:=y
 obtain ⟨x,hx,rx⟩:=r.get (y us (ha W' _ e))
 exact⟨aD.refl _,x,hx,rx.keep (e.keep tw)⟩
theorem G6 {K:PySem.W.Frag}{H0:Hp}{W:Addr->Prop}{g:Bool}{H1:Hp}{a:Addr}{us:List V}{xs:List PV} (tw:∀ a,W a->∃ o,H1 a=some o/\fJ o=true) (ha:∀ W' H',Ev W H1 W' H'->aI K H' a us) (r:Reps K (Ms H0 W g) H1 us xs):jQ K H0 W g H1 (jK K a) xs:=by
 have lr:=r.length
 refine⟨fun W' H' i e hi=>⟨us,us[i]'(by omega),ha W' H' e,by simp⟩,fun W' H' i v H2 e y hi=>?_,fun W' H' e=>⟨us,ha W' H' e,by omega⟩⟩
 obtain ⟨rfl,y⟩:=y
 obtain ⟨x,hx,rx⟩:=r.get (y us (ha W' _ e))
 exact⟨aD.refl _,x,hx,rx.keep (e.keep tw)⟩
theorem lG {K:PySem.W.Frag}{H0 Hs H:Hp}{W:Addr->Prop}{σ:St}{ρ:b7}{g:Tg}{us:List V}{xs:List PV} (px:PX K H0 W σ ρ Hs) (hg:g = .rd->flats xs=true) (r:Reps K (Mg H0 W Hs g) H us xs):Reps K (Ms H0 W (lF g xs)) H us xs:=by
 cases g with
 | fr=>exact r.same (aD.refl _) fun _ z=>px.new z
 | nw=>exact r.same (aD.refl _) fun _ z=>z
 | sh=>
  show Reps K (Ms H0 W (flats xs)) H us xs
  cases e:flats xs with
  | true=>exact r.flat e
  | false=>exact r.same (aD.refl _) fun _ z=>z
 | rd=>exact r.flat (hg rfl)
theorem aw7 (h:LI X (eC te) σ H R):G4 X.K (LE X te) σ H R:=by
 obtain ⟨W,ρ,Q,px,q,k⟩:=h
 refine⟨W,ρ,_,px,q,?_⟩
 rintro v H1 x g s r ⟨xs,e,hg,q⟩
 have px1:=px.mono s
 have tw:∀ a,W a->∃ o,H1 a=some o/\fJ o=true:=fun a z=>(px1.wm a z).2
 cases r with
 | tup h r=>
  cases e
  refine⟨_,rfl,.inr ⟨_,aI.of h,k _ _ _ _ s (G6 tw (fun W' H' e=>aI.of (e _ _ h fun z=>?_).1) (lG px (fun z=>by have:=hg z; unfold flat at this; exact this) r)) q⟩⟩
  obtain ⟨o,h',mu⟩:=tw _ z; rw [h] at h'; cases h'; cases mu
 | @lst a us xs' m h r=>
  cases e
  have wa : ¬ W a:=by
   cases g with
   | fr=>exact (px.new m).1
   | nw=>exact m.1
   | sh=>exact m
   | rd=>have:=hg rfl; unfold flat at this; cases this
  exact⟨_,rfl,.inl ⟨_,aL.of h,k _ _ _ _ s (G5 tw (fun W' H' e=>aL.of (e _ _ h wa).1) (lG px (fun z=>by have:=hg z; unfold flat at this; cases this) r)) q⟩⟩
 | scr h=>
  cases e
  refine⟨_,rfl,.inl ⟨_,h.sqL,k _ _ _ _ s (G5 tw (fun W' H' e=>(j6.keep (fun a o u hz=>(e _ _ hz fun z=>?_).1) h).sqL) (lG (g:=g) px (fun z=>cE _) (Reps.intz _))) q⟩⟩
  obtain ⟨o,h',mu⟩:=tw _ z; rw [hz] at h'; cases h'; cases mu
 | kt h r=>
  cases e
  exact⟨_,rfl,.inr ⟨_,.inr h,k _ _ _ _ s (G6 tw (fun W' H' e=>.inr h) (lG px (fun z=>by have:=hg z; unfold flat at this; exact this) r)) q⟩⟩
 | _=>cases e
def eM (lo:Int) (n:Nat):List PV:=(List.range n).map fun (i:Nat)=>PV.int (lo+(i:Int))
theorem eD (lo:Int) (n:Nat):(eM lo n).length=n:=by unfold eM; rw [bb4,bk9]
theorem G7 {lo:Int}{n i:Nat} (h:i < n):(eM lo n)[i]? = some (.int (lo+i)):=by unfold eM; rw [bc6,List.getElem?_range h]; rfl
def gY (te:aG):eL:=fun ρ Q=>te ρ fun x _=>∃ j:Int,x = .int j/\-1000000<=j/\j<=1000000/\Q (eM 0 j.toNat) true
def pT (ta tb:aG):eL:=fun ρ Q=>ta ρ fun x _=>tb ρ fun y _=>∃ i j:Int,x = .int i/\y = .int j/\(-1000000<=i/\i<=1000000/\-1000000<=j/\j<=1000000)/\Q (eM i (j - i).toNat) true
theorem G8 {K:PySem.W.Frag}{H0:Hp}{W:Addr->Prop}{H1:Hp} (lo:Int) (n:Nat):jQ K H0 W true H1 (mJ lo n) (eM lo n):=by
 refine⟨fun W' H' i e hi=>by rw [eD] at hi; exact hi,fun W' H' i v H2 e y hi=>?_,fun W' H' e=>by show n<=(eM lo n).length; rw [eD]; exact bb6 _⟩
 rw [eD] at hi
 obtain ⟨rfl,rfl⟩:=y
 exact⟨aD.refl _,_,G7 hi,.int _⟩
theorem aw8 (h:LI X (gY te) σ H R):yK (gR (LE X te) iT) σ H R:=by
 obtain ⟨W,ρ,Q,px,q,k⟩:=h
 refine⟨W,ρ,_,px,q,?_⟩
 rintro v H1 x g s r ⟨j,rfl,h1,h2,q⟩
 cases r
 exact⟨j,rfl,by omega,by omega,k _ _ _ _ s (G8 0 j.toNat) q⟩
theorem aw9 {ta tb:aG} (h:LI X (pT ta tb) σ H R):yL (gR (LE X ta) (gR (LE X tb) iT)) σ H R:=by
 obtain ⟨W,ρ,Q,px,q,k⟩:=h
 refine⟨W,ρ,_,px,q,fun v H1 x g s r q=>⟨W,ρ,_,px.mono s,q,?_⟩⟩
 rintro w H2 y g' s2 r2 ⟨i,j,rfl,rfl,h,q⟩
 cases r; cases r2
 exact⟨i,j,rfl,by omega,k _ _ _ _ (s.trans s2) (G8 i (j - i).toNat) q⟩
end
abbrev iE:=PV->Bool->b7->(b7->Prop)->Prop
def lH (K:PySem.W.Frag) (own:Nat->Prop) (p:iE) (t:TG):Prop:=∀ (H0:Hp) (W:Addr->Prop) (σ:St) (ρ:b7) (H:Hp) (v:V) (x:PV) (g:Bool) (Q:b7->Prop) (Q':St->Hp->Prop),
 PX K H0 W σ ρ H->aE K (Ms H0 W g) H v x->p x g ρ Q->(∀ σ' ρ',PX K H0 W σ' ρ' H->(∀ i,¬ own i->σ'[i]? = σ[i]?)->σ'.length=σ.length->Q ρ'->Q' σ' H)->t v σ H Q'
def bS (i:Nat):iE:=fun x g ρ Q=>Q (ρ.set i (some (.sh (g || flat x) x)))
theorem pU {K:PySem.W.Frag}{H0 H:Hp}{W:Addr->Prop}{v:V}{x:PV}{g:Bool} (r:aE K (Ms H0 W g) H v x):aE K (Ms H0 W (g || flat x)) H v x:=by
 cases g with
 | true=>exact r
 | false=>
  show aE K (Ms H0 W (flat x)) H v x
  cases e:flat x with
  | true=>exact r.flat e
  | false=>exact r
theorem nH (K:PySem.W.Frag) (i:Nat):lH K (· = i) (bS i) (cX i):=by
 intro H0 W σ ρ H v x g Q Q' px r q k
 exact k _ _ (px.setSh (pU r)) (fun j hj=>by rw [be6 (Ne.symm hj)]) (bk2 ..) q
def iF (i j:Nat):iE:=fun x g ρ Q=>∃ y z,x = .tup [y,z]/\Q ((ρ.set i (some (.sh (g || flat y) y))).set j (some (.sh (g || flat z) z)))
theorem uT (K:PySem.W.Frag) (i j:Nat):lH K (fun k=>k=i ∨ k=j) (iF i j) (mI K 2 (iR (cX i) (iR (cX j) mH))):=by
 intro H0 W σ ρ H v x g Q Q' px r q k
 obtain ⟨y,z,rfl,q⟩:=q
 obtain ⟨a,us,rfl,h,r⟩:=r.sqT
 obtain ⟨u1,u2,rfl,r1,r2⟩:=r.two
 refine⟨a,_,rfl,aI.of h,rfl,u1,_,rfl,u2,_,rfl,rfl,k _ _ ((px.setSh (pU r1)).setSh (pU r2)) (fun k hk=>?_) (by rw [bk2,bk2]) q⟩
 rw [be6 (fun e=>hk (.inr e.symm)),be6 (fun e=>hk (.inl e.symm))]
section
variable {X : Cx} {σ : St} {H : Hp} {D : cN}
def dH (ti:eL) (p:iE) (tb:aP):aP:=fun D ρ=>ti ρ fun xs g=>∃ I:Nat->b7->Prop,I 0 ρ/\(∀ i x ρ',xs[i]? = some x->I i ρ'->p x g ρ' fun ρ2=>tb { D with nx:=I (i+1),ct:=I (i+1),bk:=D.nx } ρ2)/\∀ ρ',I xs.length ρ'->D.nx ρ'
theorem ax0 {ti:eL}{p:iE}{g:TG}{tb:aP}{own:Nat->Prop} (hg:lH X.K own p g) (h:LS X (dH ti p tb) D σ H):yM (LI X ti) g (LS X tb) D σ H:=by
 obtain ⟨W,ρ,D',px,q,k⟩:=h
 refine⟨W,ρ,_,px,q,?_⟩
 rintro J H1 xs gb s it ⟨I,i0,turn,fin⟩
 refine⟨fun i m σ2 H2=>m=xs.length - i/\i<=xs.length/\∃ W2 ρ2,PX X.K X.H₀ W2 σ2 ρ2 H2/\Ev W H1 W2 H2/\I i ρ2,⟨xs.length,by omega,bf1 _,W,ρ,px.mono s,Ev.refl _ _,i0⟩,?_⟩
 rintro i m σ2 H2 ⟨rfl,hi,W2,ρ2,px2,e2,i2⟩
 have e0:Ev W H W2 H2:=(Ev.same s).trans e2
 by_cases hlt:i < xs.length
 ·refine .inr ⟨it.go W2 H2 i e2 hlt,fun σ3 H3=>∃ W3 ρ3,PX X.K X.H₀ W3 σ3 ρ3 H3/\Ev W H1 W3 H3/\I (i+1) ρ3,fun σ3 H3 ⟨W3,ρ3,a,b,c⟩=>⟨xs.length - (i+1),by omega,rfl,hlt,W3,ρ3,a,b,c⟩,fun v H3 y=>?_⟩
  obtain ⟨s3,x,hx,rx⟩:=it.yld W2 H2 i v H3 e2 y hlt
  refine hg X.H₀ W2 σ2 ρ2 H3 v x gb _ _ (px2.mono s3) rx (turn i x ρ2 hx i2) fun σ4 ρ4 px4 _ _ q4=>?_
  have e3:Ev W H1 W2 H3:=e2.trans (Ev.same s3)
  have e3':Ev W H W2 H3:=e0.trans (Ev.same s3)
  exact⟨W2,ρ4,_,px4,q4,fun W' σ' H' ρ' e p q=>⟨W',ρ',p,e3.trans e,q⟩,k.rt,fun W' σ' H' ρ' e p q=>k.nx W' σ' H' ρ' (e3'.trans e) p q,fun W' σ' H' ρ' e p q=>⟨W',ρ',p,e3.trans e,q⟩⟩
 ·have e:i=xs.length:=by omega
  subst e
  exact .inl ⟨it.stop W2 H2 e2,k.nx W2 σ2 H2 ρ2 e0 px2 (fin ρ2 i2)⟩
end
def jR (fr:List (Option Nat)) (ρ:b7):b7:=fr.map fun o=>o.bind fun j=>(ρ[j]?).join.map fun m=>Slot.sh false m.val
def fX (D:Addr):Addr->Prop:=fun a=>a=D
theorem ax1 {K:PySem.W.Frag}{H0:Hp}{W:Addr->Prop}{σ:St}{ρ:b7}{H1 H':Hp}{D:Addr}{acc:List V}{fr:List (Option Nat)} (px:PX K H0 W σ ρ H1) (hD:H1 D=none) (s:aD H1 H') (ha:H' D=some (.lst acc)) :
  PX K H1 (fX D) (dR fr σ) (jR fr ρ) H':=by
 have old:∀ {a:Addr}{o:HO},H1 a=some o->a ≠ D:=fun {a o} e z=>by rw [z,hD] at e; cases e
 refine⟨by unfold dR jR; rw [bb4,bb4],s,fun a z=>by cases z; exact⟨hD,_,ha,rfl⟩,fun i m h=>?_,fun i j x y a h1=>?_⟩
 ·unfold jR at h
  rw [bc6] at h
  cases ef:fr[i]? with
  | none=>rw [ef] at h; cases h
  | some o=>
   rw [ef] at h
   cases o with
   | none=>cases h
   | some j=>
    have h:some ((ρ[j]?).join.map fun m=>Slot.sh false m.val)=some (some m):=h
    cases er:ρ[j]? with
    | none=>rw [er] at h; cases h
    | some o=>
     rw [er] at h
     cases o with
     | none=>cases h
     | some m0=>
      cases h
      obtain ⟨v,ev,r⟩:=px.sl j m0 er
      refine⟨v,?_,?_⟩
      ·unfold dR
       rw [bc6,ef]
       show some ((σ[j]?).join)=_
       rw [ev]; rfl
      ·have r':aE K (fun _=>True) H1 v m0.val:=(pJ (Hs:=H1) r).same (aD.refl _) fun _ _=>trivial
       exact r'.keep ⟨fun a _ _ e=>⟨old e,s _ _ e⟩,fun a _ _ e=>⟨old e,s _ _ e⟩,fun a _ _ e=>⟨old e,s _ _ e⟩,fun _ _ e=>s _ _ e,fun _ _ _ e=>s _ _ e⟩
 ·unfold jR at h1
  rw [bc6] at h1
  cases ef:fr[i]? with
  | none=>rw [ef] at h1; cases h1
  | some o=>
   rw [ef] at h1
   cases o with
   | none=>cases h1
   | some j=>
    have h1:some ((ρ[j]?).join.map fun m=>Slot.sh false m.val)=some (some (Slot.own x)):=h1
    cases er:ρ[j]? with
    | none=>rw [er] at h1; cases h1
    | some o=>
     rw [er] at h1
     cases o with
     | none=>cases h1
     | some m0=>cases h1
section
variable {X : Cx} {σ : St} {H : Hp} {Q' : VK}
abbrev _root_.L2.Cx.frm (X:Cx) (H1:Hp):Cx:={ X with H₀:=H1 }
def dI (ti:eL) (fr:List (Option Nat)) (p:iE) (tc:c7) (te:aG):aG:=fun ρ Q=>ti ρ fun xs g=>xs.length<=16000000/\∃ I:Nat->List PV->Prop,I 0 []/\
 (∀ i x acc,xs[i]? = some x->I i acc->p x false (jR fr ρ) fun ρ2=>tc ρ2 fun b=>if b=true then te ρ2 fun y gy=>Nw gy y/\I (i+1) (acc ++ [y]) else I (i+1) acc)/\∀ acc,I xs.length acc->Q (.lst acc) .fr
theorem nI {ti:eL}{fr:List (Option Nat)}{p:iE}{g:TG}{tc:c7}{te:aG}{own:Nat->Prop} (hg:lH X.K own p g) (ho:∀ i,own i->fr[i]? = some none) (h:LE X (dI ti fr p tc te) σ H Q') :
  p6 (LI X ti) fr (fun _=>g) (fun H1=>LT (X.frm H1) tc) (fun H1=>LE (X.frm H1) te) σ H Q':=by
 obtain ⟨W,ρ,Q,px,q,k⟩:=h
 refine⟨W,ρ,_,px,q,?_⟩
 rintro J H1 xs gb s it ⟨hl,I,i0,turn,fin⟩ D hD
 have px1:=px.mono s
 refine⟨fun i m acc H'=>m=xs.length - i/\i<=xs.length/\aD H1 H'/\H' D=some (.lst acc)/\∃ ys,Reps X.K (Ms H1 (fX D) true) H' acc ys/\ys.length<=i/\I i ys,⟨xs.length,by omega,bf1 _,b9 hD _,aW,[],.nil,bb6 _,i0⟩,?_⟩
 rintro i m acc H' ⟨rfl,hi,sm,ha,ys,ry,hy,iy⟩
 refine⟨ha,?_⟩
 have ev:Ev W H1 (lD W D) H':=Ev.own sm hD
 by_cases hlt:i < xs.length
 ·refine .inr ⟨it.go _ H' i ev hlt,fun v H2 y=>?_⟩
  obtain ⟨s2,x,hx,rx⟩:=it.yld _ H' i v H2 ev y hlt
  have ha2:=s2 _ _ ha
  have pxb:PX X.K H1 (fX D) (dR fr σ) (jR fr ρ) H2:=ax1 px1 hD (sm.trans s2) ha2
  have rx':aE X.K (Ms H1 (fX D) false) H2 v x:=rx.same (aD.refl _) fun a z=>by
   cases gb with
   | true=>exact fun e=>z.1 (.inr e)
   | false=>exact fun e=>z (.inr e)
  refine hg H1 (fX D) _ _ H2 v x false _ _ pxb rx' (turn i x ys hx iy) fun σ2 ρ2 px2 hown hlen q2=>⟨⟨hlen.symm,fun j w e=>?_⟩,?_⟩
  ·by_cases oj:own j
   ·have:=ho j oj
    unfold dR at e
    rw [bc6,this] at e
    cases e
   ·rw [hown j oj]; exact e
  ·refine⟨fX D,ρ2,_,px2,q2,fun b H4 s4 q4=>?_⟩
   have ha4:=s4 _ _ ha2
   have sm4:=(sm.trans s2).trans s4
   cases b with
   | false=>
    refine b6 ⟨xs.length - (i+1),by omega,rfl,hlt,sm4,ha4,ys,ry.same (s2.trans s4) fun _ z=>z,by omega,by simpa using q4⟩
   | true=>
    refine bV ⟨fX D,ρ2,_,px2.mono s4,by simpa using q4,?_⟩
    rintro w H5 y gy s5 ryy ⟨nw,q5⟩
    have ha5:=s5 _ _ ha4
    have lr:=ry.length
    refine⟨ha5,iC (by omega),xs.length - (i+1),by omega,rfl,hlt,fun b o e=>?_,aW,ys ++ [y],?_,by rw [bc4,bk7]; omega,q5⟩
    ·rw [aH (fun z=>by rw [z,hD] at e; cases e)]
     exact s5 _ _ (sm4 _ _ e)
    ·exact ((ry.same ((s2.trans s4).trans s5) fun _ z=>z).append (.cons (Nw.rep (px2.mono s4) nw ryy) .nil)).keep (.upd ha5 rfl fun b m=>⟨m.1,m⟩)
 ·have e:i=xs.length:=by omega
  subst e
  refine .inl ⟨it.stop _ H' ev,k _ H' _ .fr (s.trans sm) (.lst (s.free hD) ha (ry.same (aD.refl _) fun _ z=>s.free z.2)) (fin ys iy)⟩
def dC:c7:=fun _ Q=>Q true
theorem ax2 {Qb:Bool->Hp->Prop} (h:LT X dC σ H Qb):tX σ H Qb:=by
 obtain ⟨W,ρ,Q,px,q,k⟩:=h
 exact k _ _ (aD.refl _) q
end
section
variable {κ : Type} [DecidableEq κ]
def bL (ps:List (κ × PV)) (k:κ):Option PV:=(ps.find? fun p=>decide (p.1=k)).map (·.2)
def cH (ps:List (κ × PV)) (k:κ) (x:PV):List (κ × PV):=if (ps.any fun p=>decide (p.1=k))=true then ps.map (fun p=>if p.1=k then (p.1,x) else p) else ps ++ [(k,x)]
variable {K : PySem.W.Frag} {M : Addr → Prop} {H : Hp}
theorem j8 (k:κ):∀ {kvs:List (κ × V)}{ps:List (κ × PV)},kvs.map (·.1)=ps.map (·.1)->Reps K M H (kvs.map (·.2)) (ps.map (·.2))->(bL ps k=none->eV kvs k=none)/\∀ x,bL ps k=some x->∃ v,eV kvs k=some v/\aE K M H v x
 | [],[],_,_=>⟨fun _=>rfl,fun x h=>by cases h⟩
 | [],_ :: _,e,_=>by cases e
 | _ :: _,[],e,_=>by cases e
 | (k1,v) :: kvs,(k2,x) :: ps,e,r=>by
  injection e with e1 e2
  have e1:k1=k2:=e1
  subst e1
  cases r with
  | cons r t=>
   obtain ⟨h1,h2⟩:=j8 k e2 t
   unfold bL eV at h1 h2 ⊢
   by_cases e:k1=k
   ·simp only [bm1,e,decide_true,Option.map_some]
    exact⟨fun z=>(by cases z),fun y z=>(by cases z; exact⟨v,rfl,r⟩)⟩
   ·simp only [bm1,e,decide_false]
    exact⟨h1,h2⟩
theorem ax3 (k:κ) {kvs:List (κ × V)}{ps:List (κ × PV)} (e:kvs.map (·.1)=ps.map (·.1)):(kvs.any fun p=>decide (p.1=k))=ps.any fun p=>decide (p.1=k):=by
 have h1:(kvs.any fun p=>decide (p.1=k))=(kvs.map (·.1)).any fun z=>decide (z=k):=by rw [List.any_map]; rfl
 have h2:(ps.any fun p=>decide (p.1=k))=(ps.map (·.1)).any fun z=>decide (z=k):=by rw [List.any_map]; rfl
 rw [h1,h2,e]
theorem G9 (k:κ) {w:V}{y:PV} (q:aE K M H w y):∀ {kvs:List (κ × V)}{ps:List (κ × PV)},kvs.map (·.1)=ps.map (·.1)->Reps K M H (kvs.map (·.2)) (ps.map (·.2))->
  (kvs.map fun kv=>if kv.1=k then (kv.1,w) else kv).map (·.1)=(ps.map fun kv=>if kv.1=k then (kv.1,y) else kv).map (·.1)/\Reps K M H ((kvs.map fun kv=>if kv.1=k then (kv.1,w) else kv).map (·.2)) ((ps.map fun kv=>if kv.1=k then (kv.1,y) else kv).map (·.2))
 | [],[],_,_=>⟨rfl,.nil⟩
 | [],_ :: _,e,_=>by cases e
 | _ :: _,[],e,_=>by cases e
 | (k1,v) :: kvs,(k2,x) :: ps,e,r=>by
  injection e with e1 e2
  have e1:k1=k2:=e1
  subst e1
  cases r with
  | cons r t=>
   obtain ⟨h1,h2⟩:=G9 k q e2 t
   by_cases e:k1=k
   ·simp only [bf4,e,if_true]
    exact⟨by rw [h1],.cons q h2⟩
   ·simp only [bf4,e,bh5]
    exact⟨by rw [h1],.cons r h2⟩
theorem uU (k:κ) {w:V}{y:PV} (q:aE K M H w y) {kvs:List (κ × V)}{ps:List (κ × PV)} (e:kvs.map (·.1)=ps.map (·.1)) (r:Reps K M H (kvs.map (·.2)) (ps.map (·.2))) :
  (dO kvs k w).map (·.1)=(cH ps k y).map (·.1)/\Reps K M H ((dO kvs k w).map (·.2)) ((cH ps k y).map (·.2)):=by
 unfold dO cH
 rw [ax3 k e]
 split
 ·exact G9 k q e r
 ·rw [bd7,bd7,bd7,bd7,e]
  exact⟨rfl,r.append (.cons q .nil)⟩
end
def kP:aA->PV
 | .inl i=>.int i
 | .inr x=>.str x
theorem uV {K:PySem.W.Frag}{M:Addr->Prop}{H:Hp}{v:V}{k:aA} (r:aE K M H v (kP k)):v=kV k:=by
 cases k with
 | inl i=>cases r; rfl
 | inr x=>cases r; rfl
theorem uW {K:PySem.W.Frag}{M:Addr->Prop}{H:Hp}:∀ {ks:List aA}{us:List V},Reps K M H us (ks.map kP)->us=ks.map kV
 | [],_,.nil=>rfl
 | k :: r,_,.cons q t=>by rw [uV q,uW t]; rfl
def pV:PV->PV
 | .fK ps=>.dK ps
 | .fT ps=>.dT ps
 | x=>x
def uX (x y:PV) (o:Option PV):Prop:=(∃ ps k,pV x = .dK ps/\y=kP k/\o=bL ps k) ∨ (∃ ps k,pV x = .dT ps/\y = .tup (k.map kP)/\o=bL ps k)
theorem uY {K:PySem.W.Frag}{M M2:Addr->Prop}{H:Hp}{v w:V}{x y:PV}{o:Option PV} (h:uX x y o) (rx:aE K M H v x) (ry:aE K M2 H w y):∃ a o',v = .ref a/\fF H a w o'/\(o=none->o'=none)/\∀ z,o=some z->∃ u,o'=some u/\aE K M H u z:=by
 rcases h with ⟨ps,k,ex,rfl,rfl⟩ | ⟨ps,k,ex,rfl,rfl⟩
 ·obtain rfl:=uV ry
  cases rx with
  | dK m h e r=>cases ex; exact⟨_,_,rfl,fF.k h,(j8 k e r).1,(j8 k e r).2⟩
  | fK h e r=>cases ex; exact⟨_,_,rfl,.inl ⟨_,k,.inr ⟨_,h⟩,rfl,rfl⟩,(j8 k e r).1,(j8 k e r).2⟩
  | _=>cases ex
 ·obtain ⟨b,us,rfl,hb,rb⟩:=ry.sqT
  obtain rfl:=uW rb
  cases rx with
  | dT m h e r=>cases ex; exact⟨_,_,rfl,fF.t h hb,(j8 k e r).1,(j8 k e r).2⟩
  | fT h e r=>cases ex; exact⟨_,_,rfl,.inr ⟨_,k,b,.inr ⟨_,h⟩,rfl,hb,rfl⟩,(j8 k e r).1,(j8 k e r).2⟩
  | _=>cases ex
section
variable {X : Cx} {σ : St} {H : Hp} {D : cN} {tk td te : aG} {Q' : VK}
def jS (neg:Bool) (tk td:aG):aG:=fun ρ Q=>tk ρ fun y _=>td ρ fun x _=>∃ o,uX x y o/\Q (.bl (if neg=true then !o.isSome else o.isSome)) .fr
theorem J0 {α β:Type}{o:Option α}{o':Option β}{P:β->α->Prop} (h1:o=none->o'=none) (h2:∀ z,o=some z->∃ u,o'=some u/\P u z):o'.isSome=o.isSome:=by
 cases o with
 | none=>rw [h1 rfl]; rfl
 | some z=>obtain ⟨u,e,_⟩:=h2 z rfl; rw [e]; rfl
theorem ax4 (h:LE X (jS false tk td) σ H Q'):A4 (LE X tk) (LE X td) σ H Q':=by
 obtain ⟨W,ρ,Q,px,q,k⟩:=h
 refine⟨W,ρ,_,px,q,fun w H1 y g s r q=>⟨W,ρ,_,px.mono s,q,?_⟩⟩
 rintro v H2 x g' s2 r2 ⟨o,ak,q⟩
 obtain ⟨a,o',rfl,dg,h1,h2⟩:=uY ak r2 (r.same s2 fun _ z=>z)
 refine⟨a,o',rfl,dg,?_⟩
 rw [J0 h1 h2]
 exact k _ _ _ .fr (s.trans s2) (.bl _) q
theorem ax5 (h:LE X (jS true tk td) σ H Q'):A5 (LE X tk) (LE X td) σ H Q':=by
 obtain ⟨W,ρ,Q,px,q,k⟩:=h
 refine⟨W,ρ,_,px,q,fun w H1 y g s r q=>⟨W,ρ,_,px.mono s,q,?_⟩⟩
 rintro v H2 x g' s2 r2 ⟨o,ak,q⟩
 obtain ⟨a,o',rfl,dg,h1,h2⟩:=uY ak r2 (r.same s2 fun _ z=>z)
 refine⟨a,o',rfl,dg,?_⟩
 rw [J0 h1 h2]
 exact k _ _ _ .fr (s.trans s2) (.bl _) q
def pW (td tk:aG):aG:=fun ρ Q=>td ρ fun x g=>tk ρ fun y _=>∃ z,uX x y (some z)/\Q z g
theorem ax6 (h:LE X (pW td tk) σ H Q'):A3 (LE X td) (LE X tk) σ H Q':=by
 obtain ⟨W,ρ,Q,px,q,k⟩:=h
 refine⟨W,ρ,_,px,q,fun v H1 x g s r q=>⟨W,ρ,_,px.mono s,q,?_⟩⟩
 rintro w H2 y g' s2 r2 ⟨z,ak,q⟩
 obtain ⟨a,o',rfl,dg,h1,h2⟩:=uY ak (r.same s2 fun _ z=>z) r2
 obtain ⟨u,rfl,ru⟩:=h2 z rfl
 exact⟨a,u,rfl,dg,k _ _ _ g (s.trans s2) ru q⟩
theorem PX.updD {K:PySem.W.Frag}{H0:Hp}{W:Addr->Prop}{σ:St}{ρ:b7}{H:Hp}{i:Nat}{a:Addr}{x:PV}{kvs:List (aA × V)}{ps:List (aA × PV)} (p:PX K H0 W σ ρ H) (hi:ρ[i]? = some (some (.own x))) (ha:σ[i]? = some (some (.ref a))) (wa:W a)
  (r:kvs.map (·.1)=ps.map (·.1)/\Reps K (Ms H0 W true) (upd H a (.dK kvs)) (kvs.map (·.2)) (ps.map (·.2))):PX K H0 W σ (ρ.set i (some (.own (.dK ps)))) (upd H a (.dK kvs)):=p.updOwn hi ha wa rfl (y:=.dK ps) ⟨kvs,aW,r⟩
theorem PX.updT {K:PySem.W.Frag}{H0:Hp}{W:Addr->Prop}{σ:St}{ρ:b7}{H:Hp}{i:Nat}{a:Addr}{x:PV}{kvs:List (List aA × V)}{ps:List (List aA × PV)} (p:PX K H0 W σ ρ H) (hi:ρ[i]? = some (some (.own x))) (ha:σ[i]? = some (some (.ref a))) (wa:W a)
  (r:kvs.map (·.1)=ps.map (·.1)/\Reps K (Ms H0 W true) (upd H a (.dT kvs)) (kvs.map (·.2)) (ps.map (·.2))):PX K H0 W σ (ρ.set i (some (.own (.dT ps)))) (upd H a (.dT kvs)):=p.updOwn hi ha wa rfl (y:=.dT ps) ⟨kvs,aW,r⟩
theorem lJ {κ α β:Type}{l:List (κ × α)}{m:List (κ × β)} (e:l.map (·.1)=m.map (·.1)):l.length=m.length:=by
 have:=congrArg List.length e
 rw [bb4,bb4] at this
 exact this
def nJ (i:Nat) (tk te:aG):aP:=fun D ρ=>te ρ fun z g=>∃ ps,ρ[i]? = some (some (.own (.dK ps)))/\tk ρ fun y _=>∃ k,y=kP k/\Nw g z/\ps.length < 16000000/\D.nx (ρ.set i (some (.own (.dK (cH ps k z)))))
def uZ (i:Nat) (tk te:aG):aP:=fun D ρ=>te ρ fun z g=>∃ ps,ρ[i]? = some (some (.own (.dT ps)))/\tk ρ fun y _=>∃ k,y = .tup (k.map kP)/\Nw g z/\ps.length < 16000000/\D.nx (ρ.set i (some (.own (.dT (cH ps k z)))))
theorem ax7 {i:Nat} (h:LS X (nJ i tk te) D σ H):tR (fR i) (LE X tk) (LE X te) D σ H:=by
 obtain ⟨W,ρ,D',px,q,k⟩:=h
 refine⟨W,ρ,_,px,q,?_⟩
 rintro w H1 z g s rz ⟨ps,hi,q⟩
 obtain ⟨v,ev,a,rfl,wa,kvs,ea,e1,r⟩:=(px.mono s).sl i _ hi
 refine⟨_,ev,W,ρ,_,px.mono s,q,?_⟩
 rintro kv H2 y g' s2 ry ⟨kk,rfl,nw,hl,q⟩
 obtain rfl:=uV ry
 have ea2:=s2 _ _ ea
 refine⟨a,_,rfl,jM.k ea2 (iC (by rw [lJ e1]; omega)),?_⟩
 refine k.nx W σ _ _ ((Ev.same (s.trans s2)).trans (Ev.upd wa)) ((px.mono (s.trans s2)).updD hi ev wa ?_) q
 obtain ⟨h1,h2⟩:=uU kk ((Nw.rep px nw rz).same s2 fun _ z=>z) e1 (r.same s2 fun _ z=>z)
 exact⟨h1,h2.keep (.upd ea2 rfl fun b m=>⟨jP wa m,m⟩)⟩
theorem ax8 {i:Nat} (h:LS X (uZ i tk te) D σ H):tR (fR i) (LE X tk) (LE X te) D σ H:=by
 obtain ⟨W,ρ,D',px,q,k⟩:=h
 refine⟨W,ρ,_,px,q,?_⟩
 rintro w H1 z g s rz ⟨ps,hi,q⟩
 obtain ⟨v,ev,a,rfl,wa,kvs,ea,e1,r⟩:=(px.mono s).sl i _ hi
 refine⟨_,ev,W,ρ,_,px.mono s,q,?_⟩
 rintro kv H2 y g' s2 ry ⟨kk,rfl,nw,hl,q⟩
 obtain ⟨b,us,rfl,hb,rb⟩:=ry.sqT
 obtain rfl:=uW rb
 have ea2:=s2 _ _ ea
 refine⟨a,_,rfl,jM.t ea2 hb (iC (by rw [lJ e1]; omega)),?_⟩
 refine k.nx W σ _ _ ((Ev.same (s.trans s2)).trans (Ev.upd wa)) ((px.mono (s.trans s2)).updT hi ev wa ?_) q
 obtain ⟨h1,h2⟩:=uU kk ((Nw.rep px nw rz).same s2 fun _ z=>z) e1 (r.same s2 fun _ z=>z)
 exact⟨h1,h2.keep (.upd ea2 rfl fun b m=>⟨jP wa m,m⟩)⟩
theorem ax9 (h:LE X (qC (.dK [])) σ H Q'):A7 σ H Q':=by
 obtain ⟨W,ρ,Q,px,q,k⟩:=h
 exact fun p hp=>k _ _ _ .fr (b9 hp _) (.dK hp aW rfl .nil) q
theorem ay0 (h:LE X (qC (.dT [])) σ H Q'):A8 σ H Q':=by
 obtain ⟨W,ρ,Q,px,q,k⟩:=h
 exact fun p hp=>k _ _ _ .fr (b9 hp _) (.dT hp aW rfl .nil) q
def gZ (ps more:List (aA × PV)):List (aA × PV):=more.foldl (fun acc kv=>cH acc kv.1 kv.2) ps
theorem J1 {K:PySem.W.Frag}{M:Addr->Prop}{H:Hp}:∀ {more:List (aA × V)}{mp:List (aA × PV)}{kvs:List (aA × V)}{ps:List (aA × PV)},more.map (·.1)=mp.map (·.1)->Reps K M H (more.map (·.2)) (mp.map (·.2))->kvs.map (·.1)=ps.map (·.1)->Reps K M H (kvs.map (·.2)) (ps.map (·.2))->
  (kA kvs more).map (·.1)=(gZ ps mp).map (·.1)/\Reps K M H ((kA kvs more).map (·.2)) ((gZ ps mp).map (·.2))
 | [],[],_,_,_,_,e,r=>⟨e,r⟩
 | [],_ :: _,_,_,e,_,_,_=>by cases e
 | _ :: _,[],_,_,e,_,_,_=>by cases e
 | (k1,v) :: more,(k2,x) :: mp,kvs,ps,e,r,e',r'=>by
  injection e with e1 e2
  have e1:k1=k2:=e1
  subst e1
  cases r with
  | cons q t=>
   obtain ⟨h1,h2⟩:=uU k1 q e' r'
   exact J1 (more:=more) (mp:=mp) e2 t h1 h2
def v4 (i:Nat) (te:aG):aP:=fun D ρ=>∃ ps,ρ[i]? = some (some (.own (.dK ps)))/\te ρ fun y g=>∃ mp,y = .dK mp/\(g = .fr ∨ (g = .nw/\False))/\ps.length+mp.length<=16000000/\D.nx (ρ.set i (some (.own (.dK (gZ ps mp)))))
theorem ay1 {i:Nat} (h:LS X (v4 i te) D σ H):oN (F3 (fR i) (LE X te)) D σ H:=by
 obtain ⟨W,ρ,D',px,⟨ps,hi,q⟩,k⟩:=h
 obtain ⟨v,ev,a,rfl,wa,kvs,ea,e1,r⟩:=px.sl i _ hi
 refine⟨_,ev,a,rfl,.inl ⟨kvs,.inl ea⟩,W,ρ,_,px,q,?_⟩
 rintro w H1 y g s ry ⟨mp,rfl,hg,hl,q⟩
 rcases hg with rfl | ⟨_,z⟩
 ·cases ry with
  | @dK b more _ m hb e2 rb=>
   have hab:a ≠ b:=fun z=>by subst z; rw [show H a=none from m] at ea; cases ea
   have ea1:=s _ _ ea
   refine⟨b,kvs,more,rfl,hab,ea1,hb,lim (by rw [lJ e1,lJ e2]; exact hl),?_⟩
   refine k.nx W σ _ _ ((Ev.same s).trans (Ev.upd wa)) ((px.mono s).updD hi ev wa ?_) q
   obtain ⟨h1,h2⟩:=J1 e2 (rb.same (M':=Ms X.H₀ W true) (aD.refl _) fun _ z=>px.new z) e1 (r.same s fun _ z=>z)
   exact⟨h1,h2.keep (.upd ea1 rfl fun b m=>⟨jP wa m,m⟩)⟩
 ·exact z.elim
end
def c8:Nat->PV->PV->Bool
 | _,.non,.non=>true
 | _,.bl a,.bl b=>a == b
 | _,.int a,.int b=>a == b
 | _,.str a,.str b=>a == b
 | n+1,.tup xs,.tup ys=>(xs.zip ys).all (fun p=>c8 n p.1 p.2) && xs.length == ys.length
 | n+1,.lst xs,.lst ys=>(xs.zip ys).all (fun p=>c8 n p.1 p.2) && xs.length == ys.length
 | n+1,.kt xs,.kt ys=>(xs.zip ys).all (fun p=>c8 n p.1 p.2) && xs.length == ys.length
 | _,_,_=>false
def eF:Nat->PV->PV->Bool
 | _,.non,.non=>true
 | _,.bl _,.bl _=>true
 | _,.int _,.int _=>true
 | _,.str _,.str _=>true
 | _,.non,.int _=>true
 | _,.int _,.non=>true
 | n+1,.tup xs,.tup ys=>(xs.zip ys).all (fun p=>eF n p.1 p.2)
 | n+1,.lst xs,.lst ys=>(xs.zip ys).all (fun p=>eF n p.1 p.2)
 | n+1,.kt xs,.kt ys=>(xs.zip ys).all (fun p=>eF n p.1 p.2)
 | _+1,.non,.tup _=>true
 | _+1,.tup _,.non=>true
 | _,_,_=>false
theorem ay2 (n:Nat) (a b:Int):c8 n (.int a) (.int b)=(a == b):=by cases n <;> rfl
theorem v5 (n:Nat):∀ (a b:List Int),((((intz a).zip (intz b)).all fun p=>c8 n p.1 p.2) && (intz a).length == (intz b).length)=decide (a=b)
 | [],[]=>rfl
 | [],_ :: _=>by simp
 | _ :: _,[]=>by simp
 | x :: a,y :: b=>by
  have ih:=v5 n a b
  simp only [bf4,bp7,bp2,be4,ay2] at ih ⊢
  by_cases e:x=y
  ·subst e
   have:((intz a).length+1 == (intz b).length+1)=((intz a).length == (intz b).length):=by simp
   rw [this,bk5,Bool.true_and,ih]
   simp
  ·have:(x == y)=false:=bp0.mpr e
   rw [this,Bool.false_and,Bool.false_and]
   simp [e]
theorem v6 (n:Nat) (a b:List Int):c8 (n+1) (.tup (intz a)) (.tup (intz b))=decide (a=b):=v5 n a b
theorem J2 (n:Nat) (a b:List Int):c8 (n+1) (.lst (intz a)) (.lst (intz b))=decide (a=b):=v5 n a b
theorem v7 (n:Nat):∀ (a b:List Int),(((intz a).zip (intz b)).all fun p=>eF n p.1 p.2)=true
 | [],_=>by simp
 | _ :: _,[]=>by simp
 | x :: a,y :: b=>by
  simp only [bf4,bp7,bp2,v7 n a b,Bool.and_true]
  cases n <;> rfl
theorem v8 (n:Nat) (a b:List Int):eF (n+1) (.tup (intz a)) (.tup (intz b))=true:=v7 n a b
theorem J3 (n:Nat) (a b:List Int):eF (n+1) (.lst (intz a)) (.lst (intz b))=true:=v7 n a b
def v9 (neg:Bool):PV->Tg->PV->Tg->PK->Prop:=fun x _ y _ Q=>∃ i ns,x = .int i/\gX y=some (intz ns)/\Q (.bl (if neg=true then !decide (i ∈ ns) else decide (i ∈ ns))) .fr
def jT (n:Nat) (neg:Bool):PV->Tg->PV->Tg->PK->Prop:=fun x _ y _ Q=>((∃ xs ys,x = .tup xs/\y = .tup ys) ∨ (∃ xs ys,x = .lst xs/\y = .lst ys))/\eF (n+1) x y=true/\Q (.bl (if neg=true then !c8 (n+1) x y else c8 (n+1) x y)) .fr
abbrev lK:=b7->(Option Int->Prop)->Prop
def j9 (xs:List PV) (lo hi:Option Int):List PV:=(xs.drop (HT.aT xs.length 0 lo)).take (HT.aT xs.length xs.length hi - HT.aT xs.length 0 lo)
def ay3:PV->List PV->PV
 | .tup _,ys=>.tup ys
 | .kt _,ys=>.tup ys
 | _,ys=>.lst ys
def pX:lK:=fun _ Q=>Q none
def pY (te:aG):lK:=fun ρ Q=>te ρ fun x _=>∃ i,x = .int i/\Q (some i)
def qA (te:aG) (tl th:lK):aG:=fun ρ Q=>te ρ fun x _=>tl ρ fun lo=>th ρ fun hi=>∃ xs,seqT x=some xs/\flats xs=true/\Q (ay3 x (j9 xs lo hi)) .fr
def fL (N:List Str) (xs:List PV):b7:=xs.map (fun x=>some (.sh (flat x) x)) ++ List.replicate (N.length - xs.length) none
abbrev jA (ta tb:aG):aG:=q2 (eW fun i j=>.int (i+j)) ta tb
abbrev qB (ta tb:aG):aG:=q2 (eW fun i j=>.int (i - j)) ta tb
abbrev gH (ta tb:aG):aG:=q2 (RI mM fun i j=>.int (i * j)) ta tb
abbrev dD (ta tb:aG):aG:=q2 (RI sX fun i j=>.int (i / j)) ta tb
abbrev bM (ta tb:aG):aG:=q2 (RI (fun _ j=>0 < j) fun i j=>.int (i % j)) ta tb
abbrev lN (ta tb:aG):aG:=q2 (eW fun i j=>.bl (decide (i < j))) ta tb
abbrev qD (ta tb:aG):aG:=q2 (eW fun i j=>.bl (decide (j < i))) ta tb
abbrev vA (ta tb:aG):aG:=q2 (eW fun i j=>.bl (decide (j<=i))) ta tb
abbrev jU (ta tb:aG):aG:=q2 (kE false) ta tb
abbrev qNe (ta tb:aG):aG:=q2 (kE true) ta tb
abbrev cB (ta tb:aG):aG:=q2 uQ ta tb
def dG:List PV->(PV->Prop)->Prop:=fun xs Q=>G3 xs Q/\∀ ns,xs ≠ [.scr ns]
def lO:aP:=fun _ _=>False
def QE (X:Cx) (e:Expr) (t:aG):Prop:=PE X e (LE X t)
def QT (X:Cx) (e:Expr) (t:c7):Prop:=PT X e (LT X t)
def QW (X:Cx) (e:Expr) (t:c7):Prop:=PW X e (LT X t)
def QA (X:Cx) (es:List Expr) (t:cZ):Prop:=PA X es (LA X t)
def QS (X:Cx) (st:Stmt) (t:aP):Prop:=PS X st (LS X t)
def fA (X:Cx) (st:List Stmt) (t:aP):Prop:=dZ X st (LS X t)
def QI (X:Cx) (tg iter:Expr) (t:eL):Prop:=PI X tg iter (LI X t)
section
variable {X : Cx}
theorem cO {e:Expr}{t t':TE} (h:PE X e t) (m:∀ σ H Q,t' σ H Q->t σ H Q):PE X e t':=fun pins s σ H Q I q=>h pins s σ H Q I (m σ H Q q)
theorem nK {e:Expr}{t t':TT} (h:PT X e t) (m:∀ σ H Q,t' σ H Q->t σ H Q):PT X e t':=fun pins s σ H Q I q=>h pins s σ H Q I (m σ H Q q)
theorem J4 {e:Expr}{t t':TT} (h:PW X e t) (m:∀ σ H Q,t' σ H Q->t σ H Q):PW X e t':=fun wh pins s σ H Q I q=>h wh pins s σ H Q I (m σ H Q q)
theorem J5 {e:List Expr}{t t':TA} (h:PA X e t) (m:∀ σ H Q,t' σ H Q->t σ H Q):PA X e t':=fun pos pins s σ H Q I q=>h pos pins s σ H Q I (m σ H Q q)
theorem dU {e:Stmt}{t t':TS} (h:PS X e t) (m:∀ D σ H,t' D σ H->t D σ H):PS X e t':=fun pins s σ H D I q=>h pins s σ H D I (m D σ H q)
theorem J6 {e:List Stmt}{t t':TS} (h:dZ X e t) (m:∀ D σ H,t' D σ H->t D σ H):dZ X e t':=fun pins s σ H D I q=>h pins s σ H D I (m D σ H q)
theorem nL {tg e:Expr}{t t':TI} (h:PI X tg e t) (m:∀ σ H R,t' σ H R->t σ H R):PI X tg e t':=fun pins s σ H R I q=>h pins s σ H R I (m σ H R q)
variable {a b c e o : Expr} {es cW : List Expr} {ta tb te to tk : aG} {tr : cZ} {tA tB' tc : c7} {pos p2 px : Pos} {st : Stmt} {sts : List Stmt} {t u : aP}
theorem qv (i:Nat) {x:Str}{pos:Pos} (hN:X.N[i]? = some x:=by rfl) (hv:fQ X.env.scope x:=by first | exact Or.inl rfl | exact Or.inr (Or.inl rfl) | exact Or.inr (Or.inr rfl)) (hd:(x == ("__debug__" : Str))=false:=by decide)
  (hcd:(x == ("__classdict__" : Str))=false:=by decide):QE X (.Name x pos) (a5 i):=cO (i8 hN hv hd hcd) fun _ _ _=>at3
theorem aF {i j}:QE X (.Constant (.int i) j pos) (qC (.int i)):=cO sK fun _ _ _=>pK fun _=>.int i
theorem qE {i j}:QE X (.Constant (.bool i) j pos) (qC (.bl i)):=cO ae5 fun _ _ _=>pK fun _=>.bl i
theorem J7 {i j}:QE X (.Constant (.str i) j pos) (qC (.str i)):=cO ae6 fun _ _ _=>pK fun _=>.str i
theorem kH {op:Operator}{R:PV->Tg->PV->Tg->PK->Prop}{r:R2} (ho:cK X (binaryOp op) r) (cv:eJ X R r) (ha:QE X a ta) (hb:QE X b tb):QE X (.BinOp a op b pos) (q2 R ta tb):=cO (ah4 ho ha hb) fun _ _ _=>pL cv
theorem jB (ha:QE X a ta) (hb:QE X b tb):QE X (.BinOp a .Add b pos) (q2 (eW fun i j=>.int (i+j)) ta tb):=kH ah5 F5 ha hb
theorem qF (ha:QE X a ta) (hb:QE X b tb):QE X (.BinOp a .Sub b pos) (q2 (eW fun i j=>.int (i - j)) ta tb):=kH ah6 F5 ha hb
theorem gI (ha:QE X a ta) (hb:QE X b tb):QE X (.BinOp a .Mult b pos) (q2 (RI mM fun i j=>.int (i * j)) ta tb):=kH ah7 uK ha hb
theorem dP (ha:QE X a ta) (hb:QE X b tb):QE X (.BinOp a .FloorDiv b pos) (q2 (RI sX fun i j=>.int (i / j)) ta tb):=kH ah8 uK ha hb
theorem bN (ha:QE X a ta) (hb:QE X b tb):QE X (.BinOp a .Mod b pos) (q2 (RI (fun _ j=>0 < j) fun i j=>.int (i % j)) ta tb):=kH ah9 uK ha hb
theorem nM {op:CmpOp}{R:PV->Tg->PV->Tg->PK->Prop}{r:R2} (ho:cK X (compareOp op) r) (cv:eJ X R r) (ha:QE X a ta) (hb:QE X b tb) (hm:behindInMarks op b=false):QE X (.Compare a [op] [b] pos) (q2 R ta tb):=cO (ai2 ho ha hb hm) fun _ _ _=>pL cv
theorem kI {op:CmpOp}{R:PV->Tg->PV->Tg->PK->Prop}{r:R2} (ho:cK X (compareOp op) r) (cv:eJ X R r) (ha:QE X a ta) (hb:QE X b tb) (hm:behindInMarks op b=false):QT X (.Compare a [op] [b] pos) (bC (q2 R ta tb)):=nK (ai4 ho ha hb hm) fun _ _ _ h=>pL cv (uL h)
theorem ay4 (ha:QE X a ta) (hb:QE X b tb):QE X (.Compare a [.Lt] [b] pos) (q2 (eW fun i j=>.bl (decide (i < j))) ta tb):=nM sY lB ha hb (gQ _)
theorem J8 (ha:QE X a ta) (hb:QE X b tb):QE X (.Compare a [.GtE] [b] pos) (q2 (eW fun i j=>.bl (decide (j<=i))) ta tb):=nM yX lB ha hb (gQ _)
theorem ay5 (ha:QE X a ta) (hb:QE X b tb):QE X (.Compare a [.Eq] [b] pos) (q2 (kE false) ta tb):=nM yW F8 ha hb (gQ _)
theorem nN (ha:QE X a ta) (hb:QE X b tb):QT X (.Compare a [.Lt] [b] pos) (bC (q2 (eW fun i j=>.bl (decide (i < j))) ta tb)):=kI sY lB ha hb (gQ _)
theorem qG (ha:QE X a ta) (hb:QE X b tb):QT X (.Compare a [.Gt] [b] pos) (bC (q2 (eW fun i j=>.bl (decide (j < i))) ta tb)):=kI ai1 lB ha hb (gQ _)
theorem ay6 (ha:QE X a ta) (hb:QE X b tb):QT X (.Compare a [.GtE] [b] pos) (bC (q2 (eW fun i j=>.bl (decide (j<=i))) ta tb)):=kI yX lB ha hb (gQ _)
theorem kJ (ha:QE X a ta) (hb:QE X b tb):QT X (.Compare a [.Eq] [b] pos) (bC (q2 (kE false) ta tb)):=kI yW F8 ha hb (gQ _)
theorem ay7 (ha:QE X a ta) (hb:QE X b tb):QT X (.Compare a [.NotEq] [b] pos) (bC (q2 (kE true) ta tb)):=kI ai0 at4 ha hb (gQ _)
theorem vB (hu:X.A.units+1 < cLine) (hk:QE X a tk) (hd:QE X b te) (hm:behindInMarks .In b=false:=by rfl):QT X (.Compare a [.In] [b] pos) (bC (jS false tk te)):=nK (ae9 (ao2 hu hk hd) hm) fun _ _ _ h=>ax4 (uL h)
theorem ay8 (hu:X.A.units+1 < cLine) (hk:QE X a tk) (hd:QE X b te) (hm:behindInMarks .NotIn b=false:=by rfl):QE X (.Compare a [.NotIn] [b] pos) (jS true tk te):=cO (ae8 (ao3 hu hk hd) hm) fun _ _ _ h=>ax5 h
theorem qH (h:QE X e te) (he:∀ whole,isTrue e X.env whole=(do let v <- whole; standAt e.pos; holding [v] (truthy v)):=by intro _; rfl):QT X e (bC te):=nK (af0 h he) fun _ _ _ h=>uL h
theorem J9 (h:QE X e te) (he:∀ whole,isTrue e X.env whole=(do let v <- whole; standAt e.pos; holding [v] (truthy v)):=by intro _; rfl):QT X e (pR te):=nK (ai7 h he) fun _ _ _ h=>aw6 h
theorem vC (ha:QT X a tA):QW X (.BoolOp .And [a] pos) tA:=af1 ha
theorem K0 (ha:QT X a tA):QW X (.BoolOp .Or [a] pos) tA:=af2 ha
theorem vD (ha:QT X a tA) (hb:QW X (.BoolOp .And (b :: cW) pos) tB'):QW X (.BoolOp .And (a :: b :: cW) pos) (nB tA tB'):=J4 (af3 ha hb) fun _ _ _=>at5
theorem K1 (ha:QT X a tA) (hb:QW X (.BoolOp .Or (b :: cW) pos) tB'):QW X (.BoolOp .Or (a :: b :: cW) pos) (pM tA tB'):=J4 (af4 ha hb) fun _ _ _=>at6
theorem nO (h:QW X e tA):QT X e tA:=PW.pt h
theorem vE (ha:QT X a tA):QT X (.UnaryOp .Not a pos) (nC tA):=nK (af5 ha) fun _ _ _=>at7
theorem vF {op} (h:QE X a ta):QE X (.BoolOp op [a] pos) ta:=af6 h
theorem vG (ha:QE X a ta) (hb:QE X (.BoolOp .And (b :: cW) pos) tb):QE X (.BoolOp .And (a :: b :: cW) pos) (lC ta tb):=cO (af7 ha hb) fun _ _ _=>at8
theorem aC:QA X [] a9:=J5 fU fun _ _ _=>at9
theorem a8 (ha:QE X e te) (hr:QA X es tr) (hs:starEach (e :: es) X.env=(false,eval e X.env) :: starEach es X.env:=by rfl):QA X (e :: es) (a7 te tr):=J5 (fE ha hr hs) fun _ _ _=>au0
theorem fY {x1} (h:QA X es tr):QE X (.Tuple es x1 pos) (eY tr):=cO (aj0 h) fun _ _ _=>au1
theorem iG (h:QA X es tr):QE X (.List es pos) (gG tr):=cO (zB h) fun _ _ _=>au2
theorem cF (ha:QE X a ta) (hb:QE X b tb) (hs:zO b:=by exact fun _ _=>rfl):QE X (.Subscript a b pos) (q2 uQ ta tb):=cO (mP al5 ha hb hs) fun _ _ _=>pL av6
theorem K2 (hu:X.A.units+1 < cLine) (ha:QE X a ta) (hb:QE X b tb) (hs:tQ b:=by exact fun _ _=>rfl):QE X (.Subscript a b pos) (pW ta tb):=cO (ao1 hu ha hb hs) fun _ _ _=>ax6
theorem vH:QE X (.Dict [] [] pos) (qC (.dK [])):=cO ao6 fun _ _ _=>ax9
theorem ay9:QE X (.Dict [] [] pos) (qC (.dT [])):=cO ao7 fun _ _ _=>ay0
theorem hG {x:Str}{id:String}{R:List PV->(PV->Prop)->Prop}{r:List V->Hp->VK->Prop} (hc:cP X (.builtin id) r) (cv:eB X R r) (hg:Gl X x) (hm:X.mg x=none) (hv:bootBuiltins x=some (.builtin id)) (ha:QA X (e :: es) tr) (hn:x ≠ "__name__":=by decide) (hdb:(x == ("__debug__" : Str))=false:=by decide)
  (he:starEach (e :: es) X.env=(false,eval e X.env) :: starEach es X.env:=by rfl) (hpl:(backTo pos (starEach es X.env)).any (·.1)=false:=by rfl):QE X (.Call (.Name x p2) (e :: es) [] pos) (aB R tr):=cO (aj3 hc hg hm hv ha hn hdb he hpl) fun _ _ _=>F9 cv
theorem vI {x:Str}{T:String}{R:List PV->(PV->Prop)->Prop}{r:List V->Hp->VK->Prop} (hc:cP X (.type T) r) (cv:eB X R r) (hg:Gl X x) (hm:X.mg x=none) (hv:bootBuiltins x=some (.type T)) (ha:QA X (e :: es) tr) (hn:x ≠ "__name__":=by decide) (hdb:(x == ("__debug__" : Str))=false:=by decide)
  (he:starEach (e :: es) X.env=(false,eval e X.env) :: starEach es X.env:=by rfl) (hpl:(backTo pos (starEach es X.env)).any (·.1)=false:=by rfl):QE X (.Call (.Name x p2) (e :: es) [] pos) (aB R tr):=cO (zI hc hg hm hv ha hn hdb he hpl) fun _ _ _=>F9 cv
theorem dJ:fA X [] dA:=J6 af9 fun _ _ _=>au3
theorem aM (h1:QS X st t) (h2:fA X sts u):fA X (st :: sts) (aK t u):=J6 (oM h1 h2) fun _ _ _=>au4
theorem aS (h1:QS X st t):fA X [st] t:=sM h1
theorem nP:QS X st lO:=dU ag2 fun _ _ _ ⟨_,_,_,_,h,_⟩=>h
theorem bI {i:Nat}{x:Str} (hN:X.N.Nodup) (he:QE X e te) (hi:X.N[i]? = some x:=by rfl) (hx:iP X.env.scope x:=by first | exact Or.inl rfl | exact Or.inr rfl) (hs:swapsWith e (some (.Name x p2)) pos.line X.env=pure false:=by rfl) (hf:X.fn x=true ∨ X.env.scope.names.lookup x=some .local:=by first | exact .inl rfl | exact .inr rfl) :
  QS X (.Assign [.Name x p2] e pos) (aY i te):=dU (yE hN hi hx he hs hf) fun _ _ _=>pP
theorem eN {i:Nat}{x:Str} (hN:X.N.Nodup) (he:QE X e te) (hi:X.N[i]? = some x:=by rfl) (hx:iP X.env.scope x:=by first | exact Or.inl rfl | exact Or.inr rfl) (hs:swapsWith e (some (.Name x p2)) pos.line X.env=pure false:=by rfl) (hf:X.fn x=true ∨ X.env.scope.names.lookup x=some .local:=by first | exact .inl rfl | exact .inr rfl) :
  QS X (.Assign [.Name x p2] e pos) (dS i te):=dU (yE hN hi hx he hs hf) fun _ _ _=>au7
theorem cG (he:QE X e te):QS X (.Return (some e) pos) (bO te):=dU (sO he) fun _ _ _=>au8
theorem qI (i:Nat) {x:Str} (hN:X.N[i]? = some x:=by rfl) (hv:fQ X.env.scope x:=by first | exact Or.inl rfl | exact Or.inr (Or.inl rfl) | exact Or.inr (Or.inr rfl)) (hd:(x == ("__debug__" : Str))=false:=by decide) (hcd:(x == ("__classdict__" : Str))=false:=by decide) :
  QS X (.Return (some (.Name x p2)) pos) (kF i):=dU (sO (i8 hN hv hd hcd)) fun _ _ _=>au9
theorem dL {sa sb:List Stmt} (hc:QT X c tc) (ha:fA X sa t) (hb:fA X sb u):QS X (.If c sa sb pos) (dB tc t u):=dU (ag0 hc ha hb) fun _ _ _=>av0
theorem az0 {body:List Stmt} (hp:PassesOwn (model X.prog X.w) X.A X.env X.xe) (hc:QT X c tc) (hb:fA X body t):QS X (.While c body [] pos) (uO tc t):=dU (ag5 hp hc hb) fun _ _ _=>av1
theorem kK (i:Nat) {x:Str}{apos cpos xpos:Pos} (he:QE X e te) (hN:X.N[i]? = some x:=by rfl) (hv:fQ X.env.scope x:=by first | exact Or.inl rfl | exact Or.inr (Or.inl rfl) | exact Or.inr (Or.inr rfl)) (hd:(x == ("__debug__" : Str))=false:=by decide) (hcd:(x == ("__classdict__" : Str))=false:=by decide)
  (hbase:attributeBase (.Name x xpos) "append" X.env (eval (.Name x xpos) X.env)=eval (.Name x xpos) X.env:=by rfl)
  (hfew:((backTo cpos (starEach [e] X.env)).all (fun x=>!x.1) && (backToKw cpos (keywordEach [] X.env)).all (fun x=>x.1.isSome) && decide (([e]:List Expr).length+([]:List Keyword).length+(if ([]:List Keyword).isEmpty then 0 else 1) < 30))=true:=by rfl)
  (hline:(apos.endLine == cpos.line)=true:=by rfl) (hs:starEach [e] X.env=(false,eval e X.env) :: starEach [] X.env:=by rfl) (hplain:(backTo cpos (starEach [] X.env)).any (·.1)=false:=by rfl)
  (hsw:swapsWith (.Call (.Attribute (.Name x xpos) "append" apos) [e] [] cpos) none pos.line X.env=pure false:=by rfl) :
  QS X (.Expr (.Call (.Attribute (.Name x xpos) "append" apos) [e] [] cpos) pos) (j7 i te):=
 dU (mG (mR bo7 PySem.F.slot_list_append PySem.F.type_list_append mS (i8 hN hv hd hcd) (fE he fU hs) hbase hfew hline hs hplain) hsw) fun _ _ _=>av2
theorem vJ {i:Nat}{x:Str}{xpos tpos:Pos} (hu:X.A.units+1 < cLine) (hk:QE X a tk) (he:QE X e te) (hN:X.N[i]? = some x:=by rfl) (hv:fQ X.env.scope x:=by first | exact Or.inl rfl | exact Or.inr (Or.inl rfl) | exact Or.inr (Or.inr rfl)) (hd:(x == ("__debug__" : Str))=false:=by decide) (hcd:(x == ("__classdict__" : Str))=false:=by decide)
  (hs:swapsWith e (some (.Subscript (.Name x xpos) a tpos)) pos.line X.env=pure false:=by rfl):QS X (.Assign [.Subscript (.Name x xpos) a tpos] e pos) (nJ i tk te):=dU (A6 hu (i8 hN hv hd hcd) hk he hs) fun _ _ _=>ax7
theorem az1 {i:Nat}{x:Str}{xpos tpos:Pos} (hu:X.A.units+1 < cLine) (hk:QE X a tk) (he:QE X e te) (hN:X.N[i]? = some x:=by rfl) (hv:fQ X.env.scope x:=by first | exact Or.inl rfl | exact Or.inr (Or.inl rfl) | exact Or.inr (Or.inr rfl)) (hd:(x == ("__debug__" : Str))=false:=by decide) (hcd:(x == ("__classdict__" : Str))=false:=by decide)
  (hs:swapsWith e (some (.Subscript (.Name x xpos) a tpos)) pos.line X.env=pure false:=by rfl):QS X (.Assign [.Subscript (.Name x xpos) a tpos] e pos) (uZ i tk te):=dU (A6 hu (i8 hN hv hd hcd) hk he hs) fun _ _ _=>ax8
theorem az2 {tg l:Expr}{tl:TE} (hl:PE X l tl):PI X tg l (G4 X.K tl):=by
 intro pins s σ H R I h
 refine aN (hl pins s σ H _ I h) fun v s1 ⟨x,H1,I1,r1,q1⟩=>?_
 obtain ⟨a,e,q⟩:=q1
 subst e
 cases r1
 rcases q with ⟨xs,hq,q⟩ | ⟨xs,hq,q⟩
 ·obtain ⟨its,rv,p,hz⟩:=I1.list hq
  refine wpAny_pyIter_list p.isList ?_
  refine⟨s1.heap.objs.size,[s1.heap.objs.size],_,_,H1,rfl,I1.kept (t':=s1.toks) fun b o e=>bb1 _ e,ag6 a _,⟨_,bb9 _ rfl,rfl,rfl⟩,fun b hb=>?_,q⟩
  have e:b=s1.heap.objs.size:=by simpa using hb
  subst e
  exact I1.fpOk (bb6 _) (I1.hok.fresh (bb6 _))
 ·obtain ⟨its,rv,p,hz⟩:=I1.tuple hq
  refine bn6 (show s1.heap.IsTuple a its.toArray from p) ?_
  refine⟨s1.heap.objs.size,[s1.heap.objs.size],_,_,H1,rfl,I1.kept (t':=s1.toks) fun b o e=>bb1 _ e,yH a _,⟨_,bb9 _ rfl,rfl,rfl⟩,fun b hb=>?_,q⟩
  have e:b=s1.heap.objs.size:=by simpa using hb
  subst e
  exact I1.fpOk (bb6 _) (I1.hok.fresh (bb6 _))
theorem fM {tg l:Expr} (hl:QE X l te):QI X tg l (eC te):=nL (az2 hl) fun _ _ _=>aw7
theorem jC {tg:Expr} (hg:Gl X "range") (hm:X.mg "range" = none) (ha:QE X a ta) (hs:starEach [a] X.env = [(false,eval a X.env)]:=by rfl):QI X tg (.Call (.Name "range" p2) [a] [] pos) (gY ta):=nL (ag9 hg hm (fE ha fU hs) hs) fun _ _ _=>aw8
theorem K3 {tg:Expr} (hg:Gl X "range") (hm:X.mg "range" = none) (ha:QE X a ta) (hb:QE X b tb) (hs:starEach [a,b] X.env = [(false,eval a X.env),(false,eval b X.env)]:=by rfl) (hs2:starEach [b] X.env = [(false,eval b X.env)]:=by rfl) :
  QI X tg (.Call (.Name "range" p2) [a,b] [] pos) (pT ta tb):=nL (ah0 hg hm (fE ha (fE hb fU hs2) (by rw [hs,hs2])) hs hs2) fun _ _ _=>aw9
theorem K4 {tg:Expr}{body:List Stmt}{ti:eL}{p:iE}{g:TG}{own:Nat->Prop} (hp:PassesOwn (model X.prog X.w) X.A X.env X.xe) (hc:X.calm=true) (hi:QI X tg e ti) (hg:PG X tg g) (ht:lH X.K own p g) (hb:fA X body t)
  (hs:∀ x,foldedSetIterable e X.env x=pure x:=by intro _; rfl):QS X (.For tg e body [] pos) (dH ti p t):=dU (yN hp hc hi hg hb hs) fun _ _ _=>ax0 ht
end
section
variable {X : Cx} {pins : List (Addr × Obj)} {σ : St} {H : Hp} {s : Shared} {K : PySem.W.Frag} {M M' : Addr → Prop}
theorem lA.inj {a:Addr}{us ws:List V} (h:lA K a us) (h':lA K a ws):us=ws:=by
 obtain ⟨o,its,n,e1,_,e2,_,v⟩:=h
 obtain ⟨o',its',n',e1',_,e2',_,v'⟩:=h'
 rw [e1] at e1'; cases e1'
 rw [e2] at e2'; cases e2'
 exact v.inj v'
theorem Reps.self_of {n:Nat} (ih:∀ {v:V}{x y:PV},aE K M H v x->aE K M' H v y->eF n x y=true->c8 n x y=true):∀ {vs:List V}{xs ys:List PV},Reps K M H vs xs->Reps K M' H vs ys->((xs.zip ys).all fun p=>eF n p.1 p.2)=true->(((xs.zip ys).all fun p=>c8 n p.1 p.2) && xs.length == ys.length)=true
 | _,_,_,.nil,.nil,_=>rfl
 | _,_,_,.cons r t,.cons r' t',o=>by
  simp only [bp7,bp2,bf0] at o
  have h1:=ih r r' o.1
  have h2:=Reps.self_of ih t t' o.2
  simp only [bp7,bp2,h1,Bool.true_and,be4] at h2 ⊢
  rw [<- h2]
  congr 1
  simp
theorem aE.self:∀ (n:Nat) {v:V}{x y:PV},aE K M H v x->aE K M' H v y->eF n x y=true->c8 n x y=true:=by
 intro n
 induction n with
 | zero=>
  intro v x y r r' o
  cases r with
  | non=>cases r'; rfl
  | bl b=>cases r'; exact bk5 b
  | int i=>cases r'; exact bk5 i
  | str z=>cases r'; exact bk5 z
  | _=>cases o
 | succ n ih=>
  intro v x y r r' o
  cases r with
  | non=>cases r'; rfl
  | bl b=>cases r'; exact bk5 b
  | int i=>cases r'; exact bk5 i
  | str z=>cases r'; exact bk5 z
  | tup h rr=>
   cases r' with
   | tup h' rr'=>rw [h] at h'; cases h'; exact Reps.self_of ih rr rr' o
   | _=>cases o
  | lst _ h rr=>
   cases r' with
   | lst _ h' rr'=>rw [h] at h'; cases h'; exact Reps.self_of ih rr rr' o
   | _=>cases o
  | kt h rr=>
   cases r' with
   | kt h' rr'=>cases lA.inj h h'; exact Reps.self_of ih rr rr' o
   | _=>cases o
  | _=>cases o
theorem Reps.self (n:Nat) {vs:List V}{xs ys:List PV} (r:Reps K M H vs xs) (r':Reps K M' H vs ys) (o:((xs.zip ys).all fun p=>eF n p.1 p.2)=true):(((xs.zip ys).all fun p=>c8 n p.1 p.2) && xs.length == ys.length)=true:=Reps.self_of (aE.self n) r r' o
theorem jD (n:Nat) (xs ys:List PV):(List.range (min xs.length ys.length)).all (fun j=>c8 n (xs.getD j .non) (ys.getD j .non))=(xs.zip ys).all fun p=>c8 n p.1 p.2:=by
 rw [bl5]
 simp only [bm4,bo3]
 constructor
 ·intro h p hp
  obtain ⟨j,hj,e⟩:=bj2 hp
  have hj':j < min xs.length ys.length:=by simpa using hj
  have:=h j hj'
  rw [List.getElem_zip] at e
  subst e
  have h1:j < xs.length:=by omega
  have h2:j < ys.length:=by omega
  simpa [bc0,h1,h2] using this
 ·intro h j hj
  have h1:j < xs.length:=by omega
  have h2:j < ys.length:=by omega
  have hz:j < (xs.zip ys).length:=by simp; omega
  have:=h _ (bh0 hz)
  rw [List.getElem_zip] at this
  simpa [bc0,h1,h2] using this
theorem az3 (I:a6 X pins σ H s):∀ (n:Nat) {A:Around}{v w:V}{x y:PV}{a b:Value},A.units+n < cLine->aE X.K M H v x->aE X.K M' H w y->aQ v a->aQ w b->eF n x y=true->SeqAt.EqAt A s a b (c8 n x y):=by
 intro n
 induction n with
 | zero=>
  intro A v w x y a b hu rx ry ra rb o
  cases rx with
  | non=>
   cases ra
   cases ry with
   | non=>cases rb; exact SeqAt.EqAt.same _
   | int i=>obtain ⟨t',rfl⟩:=rb; exact SeqAt.EqAt.none_int _ _
   | _=>cases o
  | bl i=>
   cases ra
   cases ry with
   | bl j=>cases rb; exact SeqAt.EqAt.bool_bool _ _
   | _=>cases o
  | int i=>
   obtain ⟨t,rfl⟩:=ra
   cases ry with
   | int j=>obtain ⟨t',rfl⟩:=rb; exact SeqAt.EqAt.int_int _ _ _ _
   | non=>cases rb; exact SeqAt.EqAt.int_none _ _
   | _=>cases o
  | str i=>
   obtain ⟨t,rfl⟩:=ra
   cases ry with
   | str j=>obtain ⟨t',rfl⟩:=rb; exact SeqAt.EqAt.str_str _ _ _ _
   | _=>cases o
  | _=>cases o
 | succ n ih=>
  intro A v w x y a b hu rx ry ra rb o
  have items:∀ {us ws:List V}{xs ys:List PV}{its its2:List Value},Reps X.K M H us xs->Reps X.K M' H ws ys->aJ us its->aJ ws its2->((xs.zip ys).all fun p=>eF n p.1 p.2)=true->
    ∀ j (h1:j < its.toArray.size) (h2:j < its2.toArray.size),SeqAt.EqAt A.in1 s its.toArray[j] its2.toArray[j] (c8 n (xs.getD j .non) (ys.getD j .non)):=fun {us ws xs ys its its2} r1 r2 v1 v2 ok j h1 h2=>by
   have l1:=v1.length
   have l2:=v2.length
   have m1:=r1.length
   have m2:=r2.length
   have k1:j < its.length:=by simpa using h1
   have k2:j < its2.length:=by simpa using h2
   have j1:j < us.length:=by omega
   have j2:j < ws.length:=by omega
   have i1:j < xs.length:=by omega
   have i2:j < ys.length:=by omega
   obtain ⟨u,hu',ru⟩:=v1.get (bb2 j1)
   obtain ⟨u2,hu2',ru2⟩:=v2.get (bb2 j2)
   obtain ⟨x,hx,rx⟩:=r1.get (bb2 j1)
   obtain ⟨y,hy,ry⟩:=r2.get (bb2 j2)
   have e1:its.toArray[j]=u:=by
    rw [bb2 k1] at hu'
    simpa using hu'
   have e2:its2.toArray[j]=u2:=by
    rw [bb2 k2] at hu2'
    simpa using hu2'
   have ok':eF n x y=true:=by
    rw [bm4] at ok
    have hz:j < (xs.zip ys).length:=by simp; omega
    have:=ok _ (bh0 hz)
    rw [List.getElem_zip] at this
    rw [bb2 i1] at hx
    rw [bb2 i2] at hy
    cases hx; cases hy
    exact this
   rw [e1,e2]
   have g1:xs.getD j .non=x:=by rw [bc0,hx]; rfl
   have g2:ys.getD j .non=y:=by rw [bc0,hy]; rfl
   rw [g1,g2]
   exact ih (by show A.units+1+n < cLine; omega) rx ry ru ru2 ok'
  have huA:A.units < cLine:=by omega
  cases rx with
  | @kt p us xs h1 r1=>
   obtain ⟨its,v1,p1,_⟩:=I.tuple (.inr h1)
   cases (show a=Value.ref p from ra)
   cases ry with
   | @kt p2 ws ys h2 r2=>
    obtain ⟨its2,v2,p2',_⟩:=I.tuple (.inr h2)
    cases (show b=Value.ref p2 from rb)
    by_cases e:p=p2
    ·subst e
     have:=aE.self (K:=X.K) (M:=M) (M':=M') (n+1) (.kt h1 r1) (.kt h2 r2) o
     rw [this]
     exact SeqAt.EqAt.same _
    ·have:=SeqAt.RcAt.tuples p1 p2' huA (items r1 r2 v1 v2 o)
     refine .of_refs e ?_
     have l1:=v1.length
     have l2:=v2.length
     have m1:=r1.length
     have m2:=r2.length
     rw [bb5,bb5,<- l1,<- l2,m1,m2,jD] at this
     exact this
   | _=>cases o
  | @tup p us xs h1 r1=>
   obtain ⟨its,v1,p1,_⟩:=I.tuple (aI.of (K:=X.K) h1)
   cases (show a=Value.ref p from ra)
   cases ry with
   | @tup p2 ws ys h2 r2=>
    obtain ⟨its2,v2,p2',_⟩:=I.tuple (aI.of (K:=X.K) h2)
    cases (show b=Value.ref p2 from rb)
    by_cases e:p=p2
    ·subst e
     have:=aE.self (K:=X.K) (M:=M) (M':=M') (n+1) (.tup h1 r1) (.tup h2 r2) o
     rw [this]
     exact SeqAt.EqAt.same _
    ·have:=SeqAt.RcAt.tuples p1 p2' huA (items r1 r2 v1 v2 o)
     refine .of_refs e ?_
     have l1:=v1.length
     have l2:=v2.length
     have m1:=r1.length
     have m2:=r2.length
     rw [bb5,bb5,<- l1,<- l2,m1,m2,jD] at this
     exact this
   | non=>cases rb; exact SeqAt.EqAt.tuple_none p1 huA
   | _=>cases o
  | @lst p us xs _ h1 r1=>
   obtain ⟨its,v1,p1,_⟩:=I.list (aL.of (K:=X.K) h1)
   cases (show a=Value.ref p from ra)
   cases ry with
   | @lst p2 ws ys _ h2 r2=>
    obtain ⟨its2,v2,p2',_⟩:=I.list (aL.of (K:=X.K) h2)
    cases (show b=Value.ref p2 from rb)
    have l1:=v1.length
    have l2:=v2.length
    have m1:=r1.length
    have m2:=r2.length
    by_cases e:p=p2
    ·subst e
     rw [h1] at h2; cases h2
     have:=Reps.self n r1 r2 o
     show SeqAt.EqAt A s _ _ ((xs.zip ys).all (fun p=>c8 n p.1 p.2) && xs.length == ys.length)
     rw [this]
     exact SeqAt.EqAt.same _
    ·refine .of_refs e ?_
     by_cases hl:xs.length=ys.length
     ·have:=SeqAt.RcAt.lists p1.isList p2'.isList (by rw [bb5,bb5]; omega) huA (items r1 r2 v1 v2 o)
      have hm:min xs.length ys.length=its.length:=by omega
      rw [bb5,<- hm,jD] at this
      show SeqAt.RcAt A s _ _ ((xs.zip ys).all (fun p=>c8 n p.1 p.2) && xs.length == ys.length)
      rw [show (xs.length == ys.length)=true by simpa using hl,Bool.and_true]
      exact this
     ·have:=SeqAt.RcAt.lists_lengths (A:=A) p1.isList p2'.isList (by rw [bb5,bb5]; simp; omega) huA
      show SeqAt.RcAt A s _ _ ((xs.zip ys).all (fun p=>c8 n p.1 p.2) && xs.length == ys.length)
      rw [show (xs.length == ys.length)=false by simpa using hl,Bool.and_false]
      exact this
   | _=>cases o
  | non=>
   cases ra
   cases ry with
   | non=>cases rb; exact SeqAt.EqAt.same _
   | int i=>obtain ⟨t',rfl⟩:=rb; exact SeqAt.EqAt.none_int _ _
   | @tup p2 ws ys h2 r2=>
    obtain ⟨its2,v2,p2',_⟩:=I.tuple (aI.of (K:=X.K) h2)
    cases (show b=Value.ref p2 from rb)
    exact SeqAt.EqAt.none_tuple p2' huA
   | _=>cases o
  | bl i=>
   cases ra
   cases ry with
   | bl j=>cases rb; exact SeqAt.EqAt.bool_bool _ _
   | _=>cases o
  | int i=>
   obtain ⟨t,rfl⟩:=ra
   cases ry with
   | int j=>obtain ⟨t',rfl⟩:=rb; exact SeqAt.EqAt.int_int _ _ _ _
   | non=>cases rb; exact SeqAt.EqAt.int_none _ _
   | _=>cases o
  | str i=>
   obtain ⟨t,rfl⟩:=ra
   cases ry with
   | str j=>obtain ⟨t',rfl⟩:=rb; exact SeqAt.EqAt.str_str _ _ _ _
   | _=>cases o
  | _=>cases o
end
structure Bt (mg:Str->Option Value):Prop where
 len:mg "len" = none
 range:mg "range" = none
 tuple:mg "tuple" = none
 list:mg "list" = none
 sorted:mg "sorted" = none
 all:mg "all" = none
 any:mg "any" = none
 zip:mg "zip" = none
 min:mg "min" = none
 max:mg "max" = none
 sum:mg "sum" = none
 isinst:mg "isinstance" = none
 int:mg "int" = none
 bool:mg "bool" = none
 enum:mg "enumerate" = none
section
variable {X : Cx} {a b c e o : Expr} {es cW : List Expr} {ta tb te to tk : aG} {tr : cZ} {tA tB' tc : c7} {pos p2 px : Pos} {st : Stmt} {sts : List Stmt} {t u : aP}
theorem gJ (B:Bt X.mg) (ha:QA X [e] tr) (hg:Gl X "len":=by rfl) (he:starEach [e] X.env=(false,eval e X.env) :: starEach [] X.env:=by rfl) (hpl:(backTo pos (starEach [] X.env)).any (·.1)=false:=by rfl):QE X (.Call (.Name "len" p2) [e] [] pos) (aB eZ tr):=
 hG (am4.or ap5) av7 hg B.len PySem.boot_len ha (he:=he) (hpl:=hpl)
theorem dQ (B:Bt X.mg) (ha:QA X [e] tr) (hg:Gl X "tuple":=by rfl) (he:starEach [e] X.env=(false,eval e X.env) :: starEach [] X.env:=by rfl) (hpl:(backTo pos (starEach [] X.env)).any (·.1)=false:=by rfl):QE X (.Call (.Name "tuple" p2) [e] [] pos) (aB dG tr):=
 vI am6 av8 hg B.tuple PyProof.Rows.boot_tuple ha (he:=he) (hpl:=hpl)
theorem qJ (B:Bt X.mg) (ha:QA X [e] tr) (hg:Gl X "list":=by rfl) (he:starEach [e] X.env=(false,eval e X.env) :: starEach [] X.env:=by rfl) (hpl:(backTo pos (starEach [] X.env)).any (·.1)=false:=by rfl):QE X (.Call (.Name "list" p2) [e] [] pos) (aB lE tr):=
 vI am5 av9 hg B.list PyProof.Rows.boot_list ha (he:=he) (hpl:=hpl)
theorem nQ (B:Bt X.mg) (ha:QA X [e] tr) (hg:Gl X "sorted":=by rfl) (he:starEach [e] X.env=(false,eval e X.env) :: starEach [] X.env:=by rfl) (hpl:(backTo pos (starEach [] X.env)).any (·.1)=false:=by rfl):QE X (.Call (.Name "sorted" p2) [e] [] pos) (aB kG tr):=
 hG C6 aw0 hg B.sorted bo1 ha (he:=he) (hpl:=hpl)
theorem K5 (B:Bt X.mg) (hc:X.calm=true) (ha:QA X [e] tr) (hg:Gl X "all":=by rfl) (he:starEach [e] X.env=(false,eval e X.env) :: starEach [] X.env:=by rfl) (hpl:(backTo pos (starEach [] X.env)).any (·.1)=false:=by rfl):QE X (.Call (.Name "all" p2) [e] [] pos) (aB nE tr):=
 hG (as4 hc) aw1 hg B.all PyProof.Rows.boot_all ha (he:=he) (hpl:=hpl)
theorem K6 (B:Bt X.mg) (hc:X.calm=true) (ha:QA X [a,b] tr) (hg:Gl X "min":=by rfl) (he:starEach [a,b] X.env=(false,eval a X.env) :: starEach [b] X.env:=by rfl) (hpl:(backTo pos (starEach [b] X.env)).any (·.1)=false:=by rfl):QE X (.Call (.Name "min" p2) [a,b] [] pos) (aB pQ tr):=
 hG (ai9 hc) aw2 hg B.min PyProof.Rows.boot_min ha (he:=he) (hpl:=hpl)
theorem vK (B:Bt X.mg) (hc:X.calm=true) (ha:QA X [a,b] tr) (hg:Gl X "max":=by rfl) (he:starEach [a,b] X.env=(false,eval a X.env) :: starEach [b] X.env:=by rfl) (hpl:(backTo pos (starEach [b] X.env)).any (·.1)=false:=by rfl):QE X (.Call (.Name "max" p2) [a,b] [] pos) (aB nF tr):=
 hG (ai8 hc) aw3 hg B.max PyProof.Rows.boot_max ha (he:=he) (hpl:=hpl)
theorem K7 (x:Int):∀ (xs:List Int),mQ (.int x) (xs.map V.int)=decide (x ∈ xs)
 | []=>by simp [mQ]
 | y :: r=>by
  have ih:=K7 x r
  unfold mQ at ih ⊢
  rw [bf4,List.any_cons,ih]
  by_cases e:y=x
  ·subst e; simp [gU]
  ·have:gU (.int y) (.int x)=false:=by simpa [gU] using e
   rw [this,Bool.false_or,bl5]
   simp [Ne.symm e]
theorem K8:∀ (xs:List Int),(xs.map V.int).all iW=true
 | []=>rfl
 | _ :: r=>by rw [bf4,bp2,K8 r]; rfl
theorem az4 (neg:Bool):eJ X (v9 neg) (zU X.K neg):=by
 rintro W Hs H u v x y g g' Q Q' s n r1 r2 ⟨i,ns,rfl,e,q⟩ k
 cases r1
 obtain ⟨a,us,rfl,hs,r⟩:=r2.seq e
 obtain rfl:=r.ofInts
 refine⟨a,_,rfl,hs,rfl,K8 ns,?_⟩
 have:=k _ _ _ .fr (aD.refl _) (.bl _) q
 rw [K7]
 cases neg <;> exact this
theorem az5 (ha:QE X a ta) (hb:QE X b tb) (hm:behindInMarks .NotIn b=false:=by rfl):QT X (.Compare a [.NotIn] [b] pos) (bC (q2 (v9 true) ta tb)):=kI am3 (az4 true) ha hb hm
theorem aE.kt_ {K:PySem.W.Frag}{M:Addr->Prop}{H:Hp}{v:V}{xs:List PV} (r:aE K M H v (.kt xs)):∃ a us,v = .ref a/\lA K a us/\Reps K M H us xs:=by
 cases r with
 | kt h r=>exact⟨_,_,rfl,h,r⟩
def vL (K:PySem.W.Frag) (n:Nat) (neg:Bool):R2:=fun v w H Q=>∃ x y,aE K (fun _=>True) H v x/\aE K (fun _=>True) H w y/\((∃ xs ys,x = .tup xs/\y = .tup ys) ∨ (∃ xs ys,x = .lst xs/\y = .lst ys) ∨ (∃ xs ys,x = .kt xs/\y = .kt ys))/\eF (n+1) x y=true/\Q (.bl (if neg=true then !c8 (n+1) x y else c8 (n+1) x y)) H
theorem lP {pins:List (Addr × Obj)}{σ:St}{H:Hp}{s:Shared}{M M':Addr->Prop} (I:a6 X pins σ H s) {n:Nat}{A:Around} (hu:A.units+(n+1) < cLine) {us ws:List V}{xs ys:List PV}{its its2:List Value} (r1:Reps X.K M H us xs) (r2:Reps X.K M' H ws ys) (v1:aJ us its) (v2:aJ ws its2)
  (ok:((xs.zip ys).all fun p=>eF n p.1 p.2)=true):∀ j (h1:j < its.toArray.size) (h2:j < its2.toArray.size),SeqAt.EqAt A.in1 s its.toArray[j] its2.toArray[j] (c8 n (xs.getD j .non) (ys.getD j .non)):=by
 intro j h1 h2
 have l1:=v1.length
 have l2:=v2.length
 have m1:=r1.length
 have m2:=r2.length
 have k1:j < its.length:=by simpa using h1
 have k2:j < its2.length:=by simpa using h2
 have j1:j < us.length:=by omega
 have j2:j < ws.length:=by omega
 have i1:j < xs.length:=by omega
 have i2:j < ys.length:=by omega
 obtain ⟨u,hu',ru⟩:=v1.get (bb2 j1)
 obtain ⟨u2,hu2',ru2⟩:=v2.get (bb2 j2)
 obtain ⟨x,hx,rx⟩:=r1.get (bb2 j1)
 obtain ⟨y,hy,ry⟩:=r2.get (bb2 j2)
 have e1:its.toArray[j]=u:=by
  rw [bb2 k1] at hu'
  simpa using hu'
 have e2:its2.toArray[j]=u2:=by
  rw [bb2 k2] at hu2'
  simpa using hu2'
 have ok':eF n x y=true:=by
  rw [bm4] at ok
  have hz:j < (xs.zip ys).length:=by simp; omega
  have:=ok _ (bh0 hz)
  rw [List.getElem_zip] at this
  rw [bb2 i1] at hx
  rw [bb2 i2] at hy
  cases hx; cases hy
  exact this
 rw [e1,e2]
 have g1:xs.getD j .non=x:=by rw [bc0,hx]; rfl
 have g2:ys.getD j .non=y:=by rw [bc0,hy]; rfl
 rw [g1,g2]
 exact az3 I n (by show A.units+1+n < cLine; omega) rx ry ru ru2 ok'
theorem az6 (n:Nat) (hu:X.A.units+(n+1) < cLine):cK X (compareOp .Eq) (vL X.K n false):=by
 intro pins s σ H v w a b Q I ra rb h
 obtain ⟨x,y,rx,ry,kd,o,q⟩:=h
 have hu0:X.A.units < cLine:=by omega
 rcases kd with ⟨xs,ys,rfl,rfl⟩ | ⟨xs,ys,rfl,rfl⟩ | ⟨xs,ys,rfl,rfl⟩
 ·obtain ⟨p,us,rfl,h1,r1⟩:=rx.sqT
  obtain ⟨p2,ws,rfl,h2,r2⟩:=ry.sqT
  cases ra; cases rb
  obtain ⟨its,v1,p1,_⟩:=I.tuple (aI.of (K:=X.K) h1)
  obtain ⟨its2,v2,p2',_⟩:=I.tuple (aI.of (K:=X.K) h2)
  have l1:=v1.length
  have l2:=v2.length
  have m1:=r1.length
  have m2:=r2.length
  have:=SeqAt.RcAt.tuples p1 p2' hu0 (lP I hu r1 r2 v1 v2 o)
  rw [bb5,bb5,<- l1,<- l2,m1,m2,jD] at this
  exact this _ _ _ _ ⟨.bl _,H,I,rfl,q⟩
 ·obtain ⟨p,us,rfl,_,h1,r1⟩:=rx.sqL
  obtain ⟨p2,ws,rfl,_,h2,r2⟩:=ry.sqL
  cases ra; cases rb
  obtain ⟨its,v1,p1,_⟩:=I.list (aL.of (K:=X.K) h1)
  obtain ⟨its2,v2,p2',_⟩:=I.list (aL.of (K:=X.K) h2)
  have l1:=v1.length
  have l2:=v2.length
  have m1:=r1.length
  have m2:=r2.length
  have q:Q (.bl ((xs.zip ys).all (fun p=>c8 n p.1 p.2) && xs.length == ys.length)) H:=q
  by_cases hl:xs.length=ys.length
  ·have:=SeqAt.RcAt.lists p1.isList p2'.isList (by rw [bb5,bb5]; omega) hu0 (lP I hu r1 r2 v1 v2 o)
   have hm:min xs.length ys.length=its.length:=by omega
   rw [bb5,<- hm,jD] at this
   rw [show (xs.length == ys.length)=true by simpa using hl,Bool.and_true] at q
   exact this _ _ _ _ ⟨.bl _,H,I,rfl,q⟩
  ·have:=SeqAt.RcAt.lists_lengths (A:=X.A) p1.isList p2'.isList (by rw [bb5,bb5]; simp; omega) hu0
   rw [show (xs.length == ys.length)=false by simpa using hl,Bool.and_false] at q
   exact this _ _ _ _ ⟨.bl _,H,I,rfl,q⟩
 ·obtain ⟨p,us,rfl,h1,r1⟩:=rx.kt_
  obtain ⟨p2,ws,rfl,h2,r2⟩:=ry.kt_
  cases ra; cases rb
  obtain ⟨its,v1,p1,_⟩:=I.tuple (.inr h1)
  obtain ⟨its2,v2,p2',_⟩:=I.tuple (.inr h2)
  have l1:=v1.length
  have l2:=v2.length
  have m1:=r1.length
  have m2:=r2.length
  have:=SeqAt.RcAt.tuples p1 p2' hu0 (lP I hu r1 r2 v1 v2 o)
  rw [bb5,bb5,<- l1,<- l2,m1,m2,jD] at this
  exact this _ _ _ _ ⟨.bl _,H,I,rfl,q⟩
theorem az7 (n:Nat) (hu:X.A.units+(n+1) < cLine):cK X (compareOp .NotEq) (vL X.K n true):=by
 intro pins s σ H v w a b Q I ra rb h
 obtain ⟨x,y,rx,ry,kd,o,q⟩:=h
 have hu0:X.A.units < cLine:=by omega
 rcases kd with ⟨xs,ys,rfl,rfl⟩ | ⟨xs,ys,rfl,rfl⟩ | ⟨xs,ys,rfl,rfl⟩
 ·obtain ⟨p,us,rfl,h1,r1⟩:=rx.sqT
  obtain ⟨p2,ws,rfl,h2,r2⟩:=ry.sqT
  cases ra; cases rb
  obtain ⟨its,v1,p1,_⟩:=I.tuple (aI.of (K:=X.K) h1)
  obtain ⟨its2,v2,p2',_⟩:=I.tuple (aI.of (K:=X.K) h2)
  have l1:=v1.length
  have l2:=v2.length
  have m1:=r1.length
  have m2:=r2.length
  have:=SeqAt.RcNeAt.tuples p1 p2' hu0 (lP I hu r1 r2 v1 v2 o)
  rw [bb5,bb5,<- l1,<- l2,m1,m2,jD] at this
  exact this _ _ _ _ ⟨.bl _,H,I,rfl,q⟩
 ·obtain ⟨p,us,rfl,_,h1,r1⟩:=rx.sqL
  obtain ⟨p2,ws,rfl,_,h2,r2⟩:=ry.sqL
  cases ra; cases rb
  obtain ⟨its,v1,p1,_⟩:=I.list (aL.of (K:=X.K) h1)
  obtain ⟨its2,v2,p2',_⟩:=I.list (aL.of (K:=X.K) h2)
  have l1:=v1.length
  have l2:=v2.length
  have m1:=r1.length
  have m2:=r2.length
  have q:Q (.bl (!((xs.zip ys).all (fun p=>c8 n p.1 p.2) && xs.length == ys.length))) H:=q
  by_cases hl:xs.length=ys.length
  ·have:=SeqAt.RcNeAt.lists p1.isList p2'.isList (by rw [bb5,bb5]; omega) hu0 (lP I hu r1 r2 v1 v2 o)
   have hm:min xs.length ys.length=its.length:=by omega
   rw [bb5,<- hm,jD] at this
   rw [show (xs.length == ys.length)=true by simpa using hl,Bool.and_true] at q
   exact this _ _ _ _ ⟨.bl _,H,I,rfl,q⟩
  ·have:=SeqAt.RcNeAt.lists_lengths (A:=X.A) p1.isList p2'.isList (by rw [bb5,bb5]; simp; omega) hu0
   rw [show (xs.length == ys.length)=false by simpa using hl,Bool.and_false] at q
   exact this _ _ _ _ ⟨.bl _,H,I,rfl,q⟩
 ·obtain ⟨p,us,rfl,h1,r1⟩:=rx.kt_
  obtain ⟨p2,ws,rfl,h2,r2⟩:=ry.kt_
  cases ra; cases rb
  obtain ⟨its,v1,p1,_⟩:=I.tuple (.inr h1)
  obtain ⟨its2,v2,p2',_⟩:=I.tuple (.inr h2)
  have l1:=v1.length
  have l2:=v2.length
  have m1:=r1.length
  have m2:=r2.length
  have:=SeqAt.RcNeAt.tuples p1 p2' hu0 (lP I hu r1 r2 v1 v2 o)
  rw [bb5,bb5,<- l1,<- l2,m1,m2,jD] at this
  exact this _ _ _ _ ⟨.bl _,H,I,rfl,q⟩
theorem K9 {n:Nat}{neg:Bool}:eJ X (jT n neg) (vL X.K n neg):=by
 rintro W Hs H u v x y g g' Q Q' s n r1 r2 ⟨kd,o,q⟩ k
 exact⟨x,y,r1.same (aD.refl _) fun _ _=>trivial,r2.same (aD.refl _) fun _ _=>trivial,kd.elim .inl fun z=>.inr (.inl z),o,k _ _ _ .fr (aD.refl _) (.bl _) q⟩
theorem L0 (hu:X.A.units+3 < cLine) (ha:QE X a ta) (hb:QE X b tb):QT X (.Compare a [.NotEq] [b] pos) (bC (q2 (jT 2 true) ta tb)):=kI (az7 2 hu) K9 ha hb (gQ _)
theorem L1 (hu:X.A.units+3 < cLine) (ha:QE X a ta) (hb:QE X b tb):QE X (.Compare a [.Eq] [b] pos) (q2 (jT 2 false) ta tb):=nM (az6 2 hu) K9 ha hb (gQ _)
end
end PP
namespace PP
open PySem L2 PyProof.Rows
def LO (X:Cx) (t:lK):TO:=fun σ H Q'=>∃ (W:Addr->Prop) (ρ:b7) (Q:Option Int->Prop),PX X.K X.H₀ W σ ρ H/\t ρ Q/\∀ o H',aD H H'->Q o->Q' o H'
def QO (X:Cx) (e:Option Expr) (t:lK):Prop:=PO X e (LO X t)
theorem Reps.cut {K:PySem.W.Frag}{M:Addr->Prop}{H:Hp}{us:List V}{xs:List PV} (r:Reps K M H us xs) (lo hi:Option Int):Reps K M H (gS us lo hi) (j9 xs lo hi):=by
 unfold gS j9
 rw [r.length]
 exact (r.drop _).take _
section
variable {X : Cx} {a b c e o : Expr} {es cW : List Expr} {ta tb te to tk : aG} {tr : cZ} {tA tB' tc : c7} {pos p2 px : Pos} {st : Stmt} {sts : List Stmt} {t u : aP}
theorem L3:QO X none pX:=fun pins s σ H Q I h=>ak8 pins s σ H Q I (by
 obtain ⟨W,ρ,Q1,px,q,k⟩:=h
 exact k _ _ (aD.refl _) q)
theorem L4 (h:QE X e te):QO X (some e) (pY te):=fun pins s σ H Q I hq=>ak9 h pins s σ H Q I (by
 obtain ⟨W,ρ,Q1,px,q,k⟩:=hq
 refine⟨W,ρ,_,px,q,?_⟩
 rintro v H1 x g s r ⟨i,rfl,q⟩
 cases r
 exact⟨i,rfl,k _ _ s q⟩)
theorem L5 {lo hi:Option Expr}{tl th:lK}{sp:Pos} (he:QE X e te) (hl:QO X lo tl) (hh:QO X hi th):QE X (.Subscript e (.Slice lo hi none sp) pos) (qA te tl th):=cO (al0 (am1.or as7) he hl hh) fun σ H Q' h=>by
 obtain ⟨W,ρ,Q,px,q,k⟩:=h
 refine⟨W,ρ,_,px,q,fun v H1 x g s1 r1 q1=>⟨W,ρ,_,px.mono s1,q1,fun lo H2 s2 q2=>⟨W,ρ,_,px.mono (s1.trans s2),q2,?_⟩⟩⟩
 rintro hi H3 s3 ⟨xs,e,f,q3⟩
 have S:=(s1.trans s2).trans s3
 have r3:=r1.same (M':=Mg X.H₀ W H g) (s2.trans s3) fun _ z=>z
 cases r3 with
 | tup h r=>
  cases e
  refine .inr ⟨_,_,rfl,aI.of h,fun p hp=>k _ _ _ .fr (S.trans (b9 hp _)) (.tup aW (((r.flat f).cut lo hi).same (b9 hp _) fun _ z=>z)) q3,fun ec=>k _ _ _ .fr S (.tup h ?_) q3⟩
  have:=(r.flat (M':=Mg X.H₀ W H .fr) f).cut lo hi
  rw [ec] at this
  exact this
 | lst m h r=>
  cases e
  exact .inl ⟨_,_,rfl,aL.of h,fun p hp=>k _ _ _ .fr (S.trans (b9 hp _)) (.lst (S.free hp) aW (((r.flat f).cut lo hi).same (b9 hp _) fun _ z=>z)) q3⟩
 | scr h=>
  cases e
  exact .inl ⟨_,_,rfl,h.sqL,fun p hp=>k _ _ _ .fr (S.trans (b9 hp _)) (.lst (S.free hp) aW (((Reps.intz _).cut lo hi).same (b9 hp _) fun _ z=>z)) q3⟩
 | _=>cases e
structure Df (P:Program) (w:World) (K:PySem.W.Frag) (mg:Str->Option Value) (base:Heap) (k:Nat) (x:Str) (ps:List Str) (p:bD):Prop where
 ex:∃ f fd,dE P w K mg base e8 k f fd ps (nG K p)/\iU K fd ps []/\PySem.W.keepIn K (.ref f)=true/\mg x=some (.ref f)
theorem bP {k j:Nat}{x:Str}{ps:List Str}{p:bD} (d:Df X.prog X.w X.K X.mg X.base k x ps p) (hr:cD j X.A) (ha:QA X (e :: es) tr) (hkj:k<=j:=by decide) (hg:Gl X x:=by rfl) (hdb:(x == ("__debug__" : Str))=false:=by decide)
  (he:starEach (e :: es) X.env=(false,eval e X.env) :: starEach es X.env:=by rfl) (hpl:(backTo pos (starEach es X.env)).any (·.1)=false:=by rfl):QE X (.Call (.Name x p2) (e :: es) [] pos) (aB p tr):=by
 obtain ⟨f,fd,F,b,kp,m⟩:=d.ex
 exact cO (t6 F (hr.mono hkj) hg m kp b .nil ap3 ha hdb he hpl) fun _ _ _=>aw4
theorem vM {K:PySem.W.Frag}{H:Hp}{N:List Str}{vs:List V}{xs:List PV} (r:Reps K (fun _=>True) H vs xs):PX K H (fun _=>False) (L2.gD N vs) (fL N xs) H:=by
 have lr:=r.length
 have own:∀ {i:Nat}{m:Slot},(fL N xs)[i]? = some (some m)->∃ x,xs[i]? = some x/\m = .sh (flat x) x:=fun {i m} h=>by
  unfold fL at h
  by_cases hi:i < xs.length
  ·rw [bn3 (by simpa using hi),bc6] at h
   rw [bb2 hi] at h ⊢
   cases h
   exact⟨_,rfl,rfl⟩
  ·rw [bp6 (by simpa using hi),List.getElem?_replicate] at h
   split at h <;> cases h
 refine⟨by unfold L2.gD fL; simp [lr],aD.refl _,fun a z=>z.elim,fun i m h=>?_,fun i j x y a h1=>?_⟩
 ·obtain ⟨x,hx,rfl⟩:=own h
  obtain ⟨v,hv,rx⟩:=r.at hx
  refine⟨v,?_,pU (g:=false) (rx.same (aD.refl _) fun _ _ z=>z)⟩
  have hi:i < vs.length:=(bc5.mp hv).1
  unfold L2.gD
  rw [bn3 (by simpa using hi),bc6,hv]; rfl
 ·obtain ⟨x,_,e⟩:=own h1
  cases e
theorem Df.of {P:Program}{w:World}{K:PySem.W.Frag}{mg:Str->Option Value}{base:Heap}{k:Nat}{x:Str}{ps N:List Str}{p:bD}{st:Stmt}{f:Addr}{fd:FuncData} (F:fG K x x st f fd) (m:mg x=some (.ref f)) (S:FnScope N ps (aU st))
  (hb:∀ (kV doc pm:Value) (an:Option Addr) (cdv ct:Value) (us:List Value),us.length=ps.length->bindArgs (PySem.W.fnOf x x (iY st) (eI st) (aU st) .none kV doc pm an cdv ct) ⟨us,[]⟩=pure (ps.zip us))
  (len:∀ xs Q,p xs Q->xs.length=ps.length)
  (body:∀ (cdv:Value) (A:Around) (outer:List Env) (s:Shared) (H:Hp) (E:XK),cD k (A.deeper (envOfC x (aU st) s.heap.objs.size f cdv))->
   ∃ t,fA (dF e8 P w K mg base N x (aU st) f cdv A outer s H E).nox (eI st) t/\∀ xs Q,p xs Q->t { nx:=fun _=>Q .non,rt:=Q } (fL N xs)):Df P w K mg base (k+1) x ps p:=by
 refine⟨f,fd,F.ok S (fun vs H Q E h=>?_) (fun cdv A outer s H vs Q E hr h=>?_),F.binds hb,F.kp,m⟩
 ·obtain ⟨xs,Qp,r,q,_⟩:=h
  rw [r.length]; exact len xs Qp q
 ·obtain ⟨xs,Qp,r,q,k⟩:=h
  obtain ⟨t,ht,hq⟩:=body cdv A outer s H E hr
  refine⟨_,ht,fun _=>False,fL N xs,_,vM r,hq xs Qp q,?_,?_,?_,?_⟩
  ·exact fun W' σ' H' ρ' e px q=>k _ _ _ px.same .non q
  ·exact fun v H' x s r q=>k _ _ _ s r q
  ·exact fun W' σ' H' ρ' e px q=>q
  ·exact fun W' σ' H' ρ' e px q=>q
theorem fZ (i:Nat) {x:Str}{tp:Pos}{body:List Stmt}{ti:eL} (hN:X.N.Nodup) (hi:QI X (.Name x tp) e ti) (hb:fA X body t) (hx:X.N[i]? = some x:=by rfl) (hl:iP X.env.scope x:=by first | exact Or.inl rfl | exact Or.inr rfl) (hf:X.fn x=true ∨ X.env.scope.names.lookup x=some .local:=by first | exact .inl rfl | exact .inr rfl)
  (hp:PassesOwn (model X.prog X.w) X.A X.env X.xe:=by exact PassesOwn.never) (hc:X.calm=true:=by rfl) (hs:∀ x,foldedSetIterable e X.env x=pure x:=by intro _; rfl):QS X (.For (.Name x tp) e body [] pos) (dH ti (bS i) t):=
 K4 hp hc hi (iQ hN hx hl hf) (nH _ i) hb hs
theorem vN (i j:Nat) {x y:Str}{tp xp yp:Pos}{kt:Nat}{body:List Stmt}{ti:eL} (hN:X.N.Nodup) (hi:QI X (.Tuple [.Name x xp,.Name y yp] kt tp) e ti) (hb:fA X body t) (hx:X.N[i]? = some x:=by rfl) (hy:X.N[j]? = some y:=by rfl) (hlx:iP X.env.scope x:=by first | exact Or.inl rfl | exact Or.inr rfl) (hly:iP X.env.scope y:=by first | exact Or.inl rfl | exact Or.inr rfl)
  (hfx:X.fn x=true ∨ X.env.scope.names.lookup x=some .local:=by first | exact .inl rfl | exact .inr rfl) (hfy:X.fn y=true ∨ X.env.scope.names.lookup y=some .local:=by first | exact .inl rfl | exact .inr rfl)
  (hp:PassesOwn (model X.prog X.w) X.A X.env X.xe:=by exact PassesOwn.never) (hc:X.calm=true:=by rfl) (hs:∀ x,foldedSetIterable e X.env x=pure x:=by intro _; rfl):QS X (.For (.Tuple [.Name x xp,.Name y yp] kt tp) e body [] pos) (dH ti (iF i j) t):=
 K4 hp hc hi (sR hc (kY (iQ hN hx hlx hfx) (kY (iQ hN hy hly hfy) sQ))) (uT _ i j) hb hs
abbrev cI:Value->Shared->Prop:=fun _ _=>False
section
variable {scope : Scope} {N : List Str} {fr : List (Option Nat)} {x y : Str} {tp xp yp : Pos} {kt : Nat} {iter elt : Expr} {ti : eL}
theorem qK {ifs:List Expr}{tcs:c7} (he:∀ (s:Shared) (H:Hp) (C:Addr) (fp:List Addr),QE (bF X scope N s H C fp cI) elt te) (hi:∀ (s:Shared) (H:Hp) (C:Addr) (fp:List Addr),jN (bF X scope N s H C fp cI) ifs (LT (bF X scope N s H C fp cI) tcs))
  (hN:N.Nodup) (h0:N[0]? = some x) (hl:∀ (s:Shared) (H:Hp) (C:Addr) (fp:List Addr),(bF X scope N s H C fp cI).env.scope.names.lookup x=some .local) (s:Shared) (H:Hp) :
  l6 X scope N (.Name x tp) ifs elt s H (cX 0) (LT (X.frm H) tcs) (LE (X.frm H) te):=
 ⟨fun C fp=>iQ (X:=bF X scope N s H C fp cI) hN h0 (.inl (hl s H C fp)) (.inr (hl s H C fp)),fun C fp=>hi s H C fp,fun C fp=>he s H C fp⟩
theorem qL {Y:Cx}:jN Y [] (LT Y dC):=fun pins s σ H Q I h=>B4 pins s σ H Q I (ax2 h)
theorem nR (hi:QI X (.Name x tp) iter ti) (he:∀ (s:Shared) (H:Hp) (C:Addr) (fp:List Addr),QE (bF X scope N s H C fp cI) elt te)
  (hc:X.calm=true:=by rfl) (S:cY X scope N fr:=by exact cY.of rfl rfl) (hN:N.Nodup:=by decide +kernel) (h0:N[0]? = some x:=by rfl) (hl:∀ (s:Shared) (H:Hp) (C:Addr) (fp:List Addr),(bF X scope N s H C fp cI).env.scope.names.lookup x=some .local:=by intro _ _ _ _; rfl) (hf:fr[0]? = some none:=by rfl)
  (hs:∀ x,foldedSetIterable iter X.env x=pure x:=by intro _; rfl):QE X (.ListComp elt [⟨.Name x tp,iter,[],0⟩] scope pos) (dI ti fr (bS 0) dC te):=
 cO (u6 (gh:=fun _=>cX 0) (tch:=fun H=>LT (X.frm H) dC) (teh:=fun H=>LE (X.frm H) te) hc S hi (qK he (fun _ _ _ _=>qL) hN h0 hl) hs) fun _ _ _=>nI (nH _ 0) (fun i e=>by subst e; exact hf)
theorem vO {c:Expr}{tcs:c7} (hi:QI X (.Name x tp) iter ti) (ht:∀ (s:Shared) (H:Hp) (C:Addr) (fp:List Addr),QT (bF X scope N s H C fp cI) c tcs) (he:∀ (s:Shared) (H:Hp) (C:Addr) (fp:List Addr),QE (bF X scope N s H C fp cI) elt te)
  (hc:X.calm=true:=by rfl) (S:cY X scope N fr:=by exact cY.of rfl rfl) (hN:N.Nodup:=by decide +kernel) (h0:N[0]? = some x:=by rfl) (hl:∀ (s:Shared) (H:Hp) (C:Addr) (fp:List Addr),(bF X scope N s H C fp cI).env.scope.names.lookup x=some .local:=by intro _ _ _ _; rfl) (hf:fr[0]? = some none:=by rfl)
  (hs:∀ x,foldedSetIterable iter X.env x=pure x:=by intro _; rfl):QE X (.ListComp elt [⟨.Name x tp,iter,[c],0⟩] scope pos) (dI ti fr (bS 0) tcs te):=
 cO (u6 (gh:=fun _=>cX 0) (tch:=fun H=>LT (X.frm H) tcs) (teh:=fun H=>LE (X.frm H) te) hc S hi (qK he (fun s H C fp=>B5 (ht s H C fp)) hN h0 hl) hs) fun _ _ _=>nI (nH _ 0) (fun i e=>by subst e; exact hf)
theorem L6 {i:Nat}{z:Str}{zp:Pos} (nd:X.N.Nodup) (hi:QI X (.Name x tp) iter ti) (he:∀ (s:Shared) (H:Hp) (C:Addr) (fp:List Addr),QE (bF X scope N s H C fp cI) elt te)
  (hz:X.N[i]? = some z:=by rfl) (hzl:X.env.scope.names.lookup z=some .local:=by rfl) (hsw:swapsWith (.ListComp elt [⟨.Name x tp,iter,[],0⟩] scope p2) (some (.Name z zp)) pos.line X.env=pure true:=by rfl)
  (hc:X.calm=true:=by rfl) (S:cY X scope N fr:=by exact cY.of rfl rfl) (hN:N.Nodup:=by decide +kernel) (h0:N[0]? = some x:=by rfl) (hl:∀ (s:Shared) (H:Hp) (C:Addr) (fp:List Addr),(bF X scope N s H C fp cI).env.scope.names.lookup x=some .local:=by intro _ _ _ _; rfl) (hf:fr[0]? = some none:=by rfl)
  (hs:∀ x,foldedSetIterable iter X.env x=pure x:=by intro _; rfl):QS X (.Assign [.Name z zp] (.ListComp elt [⟨.Name x tp,iter,[],0⟩] scope p2) pos) (aY i (dI ti fr (bS 0) dC te)):=
 dU (u7 (gh:=fun _=>cX 0) (tch:=fun H=>LT (X.frm H) dC) (teh:=fun H=>LE (X.frm H) te) hc S hi (qK he (fun _ _ _ _=>qL) hN h0 hl) nd hz hzl hsw hs) fun D σ H h=>nI (nH _ 0) (fun i e=>by subst e; exact hf) (pP h)
end
theorem az8 (i:Nat) {x:Str}{apos cpos xpos:Pos} (he:QE X e te) (hm:M1 X (.Name x xpos) "update" apos e cpos:=by exact⟨rfl,rfl,rfl,rfl⟩) (hN:X.N[i]? = some x:=by rfl) (hv:fQ X.env.scope x:=by first | exact Or.inl rfl | exact Or.inr (Or.inl rfl) | exact Or.inr (Or.inr rfl)) (hd:(x == ("__debug__" : Str))=false:=by decide) (hcd:(x == ("__classdict__" : Str))=false:=by decide)
  (hsw:swapsWith (.Call (.Attribute (.Name x xpos) "update" apos) [e] [] cpos) none pos.line X.env=pure false:=by rfl):QS X (.Expr (.Call (.Attribute (.Name x xpos) "update" apos) [e] [] cpos) pos) (v4 i te):=
 dU (mG (at2 (i8 hN hv hd hcd) he hm) hsw) fun _ _ _=>ay1
theorem az9 {i:Nat}{x:Str}{xpos tpos:Pos} (hk:QE X a tk) (he:QE X e te) (hN:X.N[i]? = some x:=by rfl) (hv:fQ X.env.scope x:=by first | exact Or.inl rfl | exact Or.inr (Or.inl rfl) | exact Or.inr (Or.inr rfl)) (hd:(x == ("__debug__" : Str))=false:=by decide) (hcd:(x == ("__classdict__" : Str))=false:=by decide)
  (hp:∀ (tx:TE) (tg:TE),PE X (.Name x xpos) tx->PE X a tg->PG X (.Subscript (.Name x xpos) a tpos) (sT tx tg tG):=by intro _ _ h1 h2; exact ag3 h1 h2 al7)
  (hs:swapsWithSole [.Subscript (.Name x xpos) a tpos] e pos.line X.env=pure false:=by rfl) (hw:swappedStores [.Subscript (.Name x xpos) a tpos] e X.env=pure none:=by rfl) :
  QS X (.Assign [.Subscript (.Name x xpos) a tpos] e pos) (uP i tk te):=dU (ag4 he (hp _ _ (i8 hN hv hd hcd) hk) hs hw) fun _ _ _=>av3
end
end PP
namespace SO
open PySem PyProof.Rows
section
variable (rk : Keyed → Int)
def Kr (xs:Array Keyed) (i:Nat):Int:=((xs[i]?).map rk).getD 0
def Up (xs:Array Keyed) (lo hi:Nat):Prop:=∀ i j,lo<=i->i<=j->j < hi->Kr rk xs i<=Kr rk xs j
def Dn (xs:Array Keyed) (lo hi:Nat):Prop:=∀ i j,lo<=i->i<=j->j < hi->Kr rk xs j<=Kr rk xs i
end
variable {rk : Keyed → Int}
theorem kL {xs ys:Array Keyed}{i j:Nat} (h:xs[i]? = ys[j]?):Kr rk xs i=Kr rk ys j:=by unfold Kr; rw [h]
theorem qM {xs:Array Keyed}{i j:Nat} (hj:j<=xs.size) (k:Nat):Kr rk (mirror xs i j ((j - i) / 2)) k=Kr rk xs (if i<=k/\k < j then i+j - 1 - k else k):=by
 refine kL ?_
 rw [getElem?_mirror_all hj]
 split <;> rfl
theorem vP {xs:Array Keyed}{i j:Nat} (hj:j<=xs.size) (e:∀ k,i<=k->k < j->Kr rk xs k=Kr rk xs (j - 1)) (k:Nat):Kr rk (mirror xs i j ((j - i) / 2)) k=Kr rk xs k:=by
 rw [qM hj]
 split
 ·rename_i h; rw [e k h.1 h.2,e _ (by omega) (by omega)]
 ·rfl
theorem aA0 {xs:Array Keyed}{src d:Nat} (hs:src < xs.size) (hd:d<=src) (k:Nat):Kr rk (bubble xs src d) k=Kr rk xs (if k=src - d then src else if src - d < k/\k<=src then k - 1 else k):=by
 refine kL ?_
 rw [getElem?_bubble hs d hd]
 repeat' split
 all_goals rfl
structure SB (κ:SortKind) (a0:Array Keyed) (pd:Array (Nat × Nat × Nat)) (st:SortSt):Prop where
 pm:(arrOf st).Perm a0
 kd:kindOf st=κ
 ok:failedOf st=none
 pd:pendingOf st=pd
section
variable {κ : SortKind} {a0 : Array Keyed} {pd : Array (Nat × Nat × Nat)} {st : SortSt} {prog : Program} {w : World} {A : Around} {E : Value → Shared → Prop} {s : Shared} {Ok : Keyed → Prop}
theorem SB.sz (h:SB κ a0 pd st):(arrOf st).size=a0.size:=h.pm.size_eq
theorem SB.put (h:SB κ a0 pd st) {xs:Array Keyed} (hp:xs.Perm (arrOf st)):SB κ a0 pd (setArr st xs):=⟨hp.trans h.pm,h.kd,h.ok,h.pd⟩
def cJ (prog:Program) (w:World) (A:Around) (E:Value->Shared->Prop) (s:Shared) (κ:SortKind) (Ok:Keyed->Prop) (rk:Keyed->Int):Prop:=
 ∀ (x y:Keyed),Ok x->Ok y->∀ (st:SortSt) (Q:Option Bool->SortSt->Prop),kindOf st=κ->Q (some (decide (rk x < rk y))) st->wpS (model prog w) A E s (lt' x y) Q st
def bJ (Ok:Keyed->Prop) (xs:Array Keyed):Prop:=∀ x ∈ xs,Ok x
theorem SB.all (h:SB κ a0 pd st) (o:bJ Ok a0):bJ Ok (arrOf st):=fun x hx=>o x (h.pm.mem_iff.mp hx)
theorem cT {xs:Array Keyed}{i:Nat}{Q:Keyed->SortSt->Prop} (hi:i < xs.size) (h:Q xs[i] st):wpS (model prog w) A E s (elem' xs i) Q st:=by
 rw [elem'_eq,getElem?_pos xs i hi]; exact bd2 h
theorem c9 {xs:Array Keyed}{i:Nat} (hi:i < xs.size):Kr rk xs i=rk xs[i]:=by unfold Kr; rw [getElem?_pos xs i hi]; rfl
theorem nS (c:cJ prog w A E s κ Ok rk) (o:bJ Ok a0) (b:SB κ a0 pd st) {i j:Nat}{Q:Option Bool->SortSt->Prop} (hi:i < a0.size) (hj:j < a0.size)
  (h:Q (some (decide (Kr rk (arrOf st) i < Kr rk (arrOf st) j))) st):wpS (model prog w) A E s (ltAt' i j) Q st:=by
 have hi':i < (arrOf st).size:=by rw [b.sz]; exact hi
 have hj':j < (arrOf st).size:=by rw [b.sz]; exact hj
 rw [ltAt'_eq]
 refine bc8 (wpS_get (bc8 (cT hi' (bc8 (cT hj' ?_)))))
 refine c _ _ (b.all o _ (bh1 hi')) (b.all o _ (bh1 hj')) st Q b.kd ?_
 rw [<- c9 (rk:=rk) hi',<- c9 (rk:=rk) hj']; exact h
theorem qN {i j:Nat}{Q:Unit->SortSt->Prop} (h:Q () (setArr st (mirror (arrOf st) i j ((j - i) / 2)))):wpS (model prog w) A E s (reverseSlice' i j) Q st:=by
 rw [reverseSlice'_eq]; exact wpS_modify h
abbrev CS:=Option (Option Nat) × Nat
abbrev DS:=Option (Option Nat) × Nat × Nat
def nT (lo b nrem:Nat):StateT SortSt Sem CS:=forIn [b:nrem] ((none,b):CS) fun _ r=>do
 match <- ltAt' (lo+r.2) (lo+r.2 - 1) with
 | some q=>if q=true then pure (ForInStep.done (none,r.2)) else pure (ForInStep.yield (none,r.2+1))
 | _=>pure (ForInStep.done (some none,r.2))
def vQ (lo b nrem:Nat):StateT SortSt Sem DS:=forIn [b:nrem] ((none,b,0):DS) fun _ r=>do
 match <- ltAt' (lo+r.2.1) (lo+r.2.1 - 1) with
 | some q=>
  if q=true then (if r.2.2 > 0 then do reverseSlice' (lo+r.2.1 - (r.2.2+1)) (lo+r.2.1); pure (ForInStep.yield (none,r.2.1+1,0)) else pure (ForInStep.yield (none,r.2.1+1,0)))
  else do
   match <- ltAt' (lo+r.2.1 - 1) (lo+r.2.1) with
   | some q=>if q=true then pure (ForInStep.done (none,r.2.1,r.2.2)) else pure (ForInStep.yield (none,r.2.1+1,r.2.2+1))
   | _=>pure (ForInStep.done (some none,r.2.1,r.2.2))
 | _=>pure (ForInStep.done (some none,r.2.1,r.2.2))
theorem L7 (c:cJ prog w A E s κ Ok rk) (o:bJ Ok a0) (b:SB κ a0 pd st) {lo n nrem:Nat}{Q:CS->SortSt->Prop} (hz:lo+nrem<=a0.size) (h1:1<=n) (hn:n<=nrem) (u:Up rk (arrOf st) lo (lo+n))
  (h:∀ m,n<=m->m<=nrem->Up rk (arrOf st) lo (lo+m)->(m=nrem ∨ Kr rk (arrOf st) (lo+m) < Kr rk (arrOf st) (lo+m - 1))->Q (none,m) st):wpS (model prog w) A E s (nT lo n nrem) Q st:=by
 unfold nT
 refine bk1 (I:=fun x r st'=>st'=st/\r=(none,x)/\Up rk (arrOf st) lo (lo+x)) ?_ ?_ ⟨rfl,rfl,u⟩
 ·rintro x r st' hx hx' ⟨rfl,rfl,u'⟩
  refine bc8 (nS c o b (by omega) (by omega) ?_)
  by_cases hq:Kr rk (arrOf st') (lo+x) < Kr rk (arrOf st') (lo+x - 1)
  ·rw [bc9 hq]
   exact bd2 (h x hx (by omega) u' (.inr hq))
  ·rw [bb7 hq]
   refine bd2 ⟨rfl,rfl,fun i j hi hij hj=>?_⟩
   rcases bh2 j (lo+x) with z | z
   ·exact u' i j hi hij z
   ·have ej:j=lo+x:=by omega
    subst ej
    rcases bq0 hij with z | z
    ·rw [z]; exact bp3 _
    ·have:=u' i (lo+x - 1) hi (by omega) (by omega)
     omega
 ·rintro r st' ⟨rfl,rfl,u'⟩
  have em:max n nrem=nrem:=by omega
  rw [em] at u' ⊢
  exact h nrem hn (bb6 _) u' (.inl rfl)
structure nU (rk:Keyed->Int) (xs ys:Array Keyed) (lo m q:Nat):Prop where
 dn:Dn rk ys lo (lo+m)
 le:q+1<=m
 eq:∀ i,lo+m - (q+1)<=i->i < lo+m->Kr rk ys i=Kr rk ys (lo+m - 1)
 low:∀ i,i < lo->Kr rk ys i=Kr rk xs i
theorem aA1 (c:cJ prog w A E s κ Ok rk) (o:bJ Ok a0) (b:SB κ a0 pd st) {lo n nrem:Nat}{xs:Array Keyed}{Q:DS->SortSt->Prop} (hz:lo+nrem<=a0.size) (h1:1<=n) (hn:n<=nrem) (u:nU rk xs (arrOf st) lo n 0)
  (h:∀ m q st',SB κ a0 pd st'->n<=m->m<=nrem->nU rk xs (arrOf st') lo m q->Q (none,m,q) st'):wpS (model prog w) A E s (vQ lo n nrem) Q st:=by
 unfold vQ
 refine bk1 (I:=fun x r st'=>∃ q,r=(none,x,q)/\SB κ a0 pd st'/\nU rk xs (arrOf st') lo x q) ?_ ?_ ⟨0,rfl,b,u⟩
 ·rintro x r st' hx hx' ⟨q,rfl,b',f⟩
  have sz:=b'.sz
  dsimp only
  refine bc8 (nS c o b' (by omega) (by omega) ?_)
  by_cases hq:Kr rk (arrOf st') (lo+x) < Kr rk (arrOf st') (lo+x - 1)
  ·rw [bc9 hq]
   have nx:∀ ys:Array Keyed,(∀ k,Kr rk ys k=Kr rk (arrOf st') k)->nU rk xs ys lo (x+1) 0:=fun ys e=>by
    refine⟨fun i j hi hij hj=>?_,by omega,fun i h1 h2=>by rw [show i=lo+(x+1) - 1 by omega],fun i hi=>(e i).trans (f.low i hi)⟩
    rw [e,e]
    rcases bh2 j (lo+x) with z | z
    ·exact f.dn i j hi hij z
    ·have ej:j=lo+x:=by omega
     subst ej
     rcases bq0 hij with z | z
     ·rw [z]; exact bp3 _
     ·have:=f.dn i (lo+x - 1) hi (by omega) (by omega)
      omega
   dsimp only
   rw [if_pos rfl]
   by_cases hp:q > 0
   ·rw [if_pos hp]
    exact bc8 (qN (bd2 ⟨0,rfl,b'.put (mirror_perm _ _ _ _),nx _ (vP (by omega) f.eq)⟩))
   ·rw [if_neg hp]
    exact bd2 ⟨0,rfl,b',nx _ fun _=>rfl⟩
  ·rw [bb7 hq]
   dsimp only
   rw [if_neg bd4]
   refine bc8 (nS c o b' (by omega) (by omega) ?_)
   by_cases hl:Kr rk (arrOf st') (lo+x - 1) < Kr rk (arrOf st') (lo+x)
   ·rw [bc9 hl]
    exact bd2 (h x q st' b' hx (by omega) f)
   ·rw [bb7 hl]
    have ex:Kr rk (arrOf st') (lo+x)=Kr rk (arrOf st') (lo+x - 1):=by omega
    refine bd2 ⟨q+1,rfl,b',fun i j hi hij hj=>?_,by have:=f.le; omega,fun i h1 h2=>?_,f.low⟩
    ·rcases bh2 j (lo+x) with z | z
     ·exact f.dn i j hi hij z
     ·have ej:j=lo+x:=by omega
      subst ej
      rcases bq0 hij with z | z
      ·rw [z]; exact bp3 _
      ·rw [ex]; exact f.dn i (lo+x - 1) hi (by omega) (by omega)
    ·rw [show lo+(x+1) - 1=lo+x by omega]
     rcases bh2 i (lo+x) with z | z
     ·rw [ex]; exact f.eq i (by omega) z
     ·rw [show i=lo+x by omega]
 ·rintro r st' ⟨q,rfl,b',f⟩
  have em:max n nrem=nrem:=by omega
  rw [em] at f ⊢
  exact h nrem q st' b' hn (bb6 _) f
theorem L8 (c:cJ prog w A E s κ Ok rk) (o:bJ Ok a0) (b:SB κ a0 pd st) {lo nrem:Nat} (n:Nat) {xs:Array Keyed}{Q:Option Nat->SortSt->Prop}{K:DS->StateT SortSt Sem (Option Nat)}{k:CS->StateT SortSt Sem (Option Nat)} (hz:lo+nrem<=a0.size) (hn:n+1<=nrem)
  (hK:∀ m q,K (none,m,q)=if q > 0 then reverseSlice' (lo+m - (q+1)) (lo+m) >>= fun _=>reverseSlice' lo (lo+m) >>= fun _=>nT lo m nrem >>= k else reverseSlice' lo (lo+m) >>= fun _=>nT lo m nrem >>= k)
  (hk:∀ m,k (none,m)=pure (some m)) (u:nU rk xs (arrOf st) lo (n+1) 0)
  (h:∀ m st',SB κ a0 pd st'->1<=m->m<=nrem->Up rk (arrOf st') lo (lo+m)->(∀ i,i < lo->Kr rk (arrOf st') i=Kr rk xs i)->Q (some m) st'):wpS (model prog w) A E s (liftM (rule "list.sort.descending-run") >>= fun _=>vQ lo (n+1) nrem >>= K) Q st:=by
 refine bc8 (wpS_lift (bn7 ⟨rfl,?_⟩))
 refine bc8 (aA1 c o b hz (by omega) hn u fun m q st1 b1 m1 m2 f=>?_)
 have fin:∀ st2:SortSt,SB κ a0 pd st2->(∀ k,Kr rk (arrOf st2) k=Kr rk (arrOf st1) k)->
   wpS (model prog w) A E s (reverseSlice' lo (lo+m) >>= fun _=>nT lo m nrem >>= k) Q st2:=fun st2 b2 e=>by
  have sz:=b2.sz
  have low:∀ i,i < lo->Kr rk (mirror (arrOf st2) lo (lo+m) ((lo+m - lo) / 2)) i=Kr rk xs i:=fun i hi=>by
   rw [qM (by omega),if_neg (by omega),e]
   exact f.low i hi
  refine bc8 (qN (bc8 (L7 (κ:=κ) c o (b2.put (mirror_perm _ _ _ _)) hz (by omega) m2 ?_ fun m' h1 h2 up _=>by rw [hk]; exact bd2 (h m' _ (b2.put (mirror_perm _ _ _ _)) (by omega) h2 up low))))
  ·intro i j hi hij hj
   show Kr rk (mirror (arrOf st2) lo (lo+m) _) i<=Kr rk (mirror (arrOf st2) lo (lo+m) _) j
   rw [qM (by omega),qM (by omega),if_pos (by omega),if_pos (by omega),e,e]
   exact f.dn _ _ (by omega) (by omega) (by omega)
 rw [hK]
 by_cases hp:q > 0
 ·rw [if_pos hp]
  have sz:=b1.sz
  exact bc8 (qN (fin _ (b1.put (mirror_perm _ _ _ _)) (vP (by omega) f.eq)))
 ·rw [if_neg hp]
  exact fin st1 b1 fun _=>rfl
theorem aA2 (c:cJ prog w A E s κ Ok rk) (o:bJ Ok a0) (b:SB κ a0 pd st) {lo nrem:Nat}{Q:Option Nat->SortSt->Prop} (hz:lo+nrem<=a0.size) (h1:1<=nrem)
  (h:∀ m st',SB κ a0 pd st'->1<=m->m<=nrem->Up rk (arrOf st') lo (lo+m)->(∀ i,i < lo->Kr rk (arrOf st') i=Kr rk (arrOf st) i)->Q (some m) st'):wpS (model prog w) A E s (countRun' lo nrem) Q st:=by
 rw [countRun'_eq]
 refine bc8 (L7 (n:=1) c o b hz (bb6 _) h1 (fun i j hi hij hj=>by rw [show i=j by omega]; exact bp3 _) fun n n1 n2 un on=>?_)
 dsimp only
 by_cases en:(n == nrem)=true
 ·rw [if_pos en]
  exact bd2 (h n st b n1 n2 un fun _ _=>rfl)
 ·rw [if_neg en]
  have en':n ≠ nrem:=by simpa using en
  have lt:=on.resolve_left en'
  have sz:=b.sz
  by_cases g:n > 1
  ·rw [if_pos g]
   refine bc8 (nS c o b (by omega) (by omega) ?_)
   by_cases hq:Kr rk (arrOf st) lo < Kr rk (arrOf st) (lo+n - 1)
   ·rw [bc9 hq]
    exact bd2 (h n st b n1 n2 un fun _ _=>rfl)
   ·rw [bb7 hq]
    dsimp only
    rw [if_neg bd4]
    have all:∀ k,lo<=k->k < lo+n->Kr rk (arrOf st) k=Kr rk (arrOf st) (lo+n - 1):=fun k k1 k2=>by
     have a1:=un lo k (bb6 _) k1 k2
     have a2:=un k (lo+n - 1) k1 (by omega) (by omega)
     omega
    have sm:=vP (rk:=rk) (xs:=arrOf st) (i:=lo) (j:=lo+n) (by omega) all
    refine bc8 (qN (L8 (xs:=arrOf st) (κ:=κ) c o (b.put (mirror_perm _ _ _ _)) n hz (by omega) (fun _ _=>rfl) (fun _=>rfl) ⟨fun i j hi hij hj=>?_,by omega,fun i h1 h2=>by rw [show i=lo+(n+1) - 1 by omega],fun i _=>sm i⟩ h))
    show Kr rk (mirror (arrOf st) lo (lo+n) _) j<=Kr rk (mirror (arrOf st) lo (lo+n) _) i
    rw [sm,sm]
    rcases bh2 j (lo+n) with z | z
    ·rw [all i hi (by omega),all j (by omega) z]; exact bp3 _
    ·have ej:j=lo+n:=by omega
     subst ej
     rcases bq0 hij with z | z
     ·rw [z]; exact bp3 _
     ·rw [all i hi (by omega)]; exact Int.le_of_lt lt
  ·rw [if_neg g]
   have e1:n=1:=by omega
   subst e1
   refine L8 (xs:=arrOf st) c o b 1 hz (by omega) (fun _ _=>rfl) (fun _=>rfl) ⟨fun i j hi hij hj=>?_,by omega,fun i h1 h2=>by rw [show i=lo+(1+1) - 1 by omega],fun i _=>rfl⟩ h
   rcases bq0 hij with z | z
   ·rw [z]; exact bp3 _
   ·have ei:i=lo+1 - 1:=by omega
    have ej:j=lo+1:=by omega
    rw [ei,ej]; exact Int.le_of_lt lt
theorem aA3 (c:cJ prog w A E s κ Ok rk) (o:bJ Ok a0) (b:SB κ a0 pd st) {lo n q:Nat}{Q:Bool->SortSt->Prop} (hz:lo+n<=a0.size) (hq:q<=n) (u:Up rk (arrOf st) lo (lo+q))
  (h:∀ st',SB κ a0 pd st'->Up rk (arrOf st') lo (lo+n)->(∀ i,i < lo->Kr rk (arrOf st') i=Kr rk (arrOf st) i)->Q true st'):wpS (model prog w) A E s (binarySort' lo n q) Q st:=by
 rw [binarySort'_eq]
 refine bc8 (bq8 (bk1 (I:=fun k r st'=>r=(none,())/\SB κ a0 pd st'/\Up rk (arrOf st') lo (lo+min k n)/\∀ i,i < lo->Kr rk (arrOf st') i=Kr rk (arrOf st) i)
  (Q:=fun r st'=>r=(none,())/\SB κ a0 pd st'/\Up rk (arrOf st') lo (lo+n)/\∀ i,i < lo->Kr rk (arrOf st') i=Kr rk (arrOf st) i) ?_ ?_ ?_) ?_)
 ·rintro k r st1 hk hkn ⟨rfl,b1,u1,l1⟩
  rw [show min k n=k by omega] at u1
  have hk0:lo+k < a0.size:=by omega
  have sz:=b1.sz
  refine bc8 (bq8 (bk1 (I:=fun x r st'=>st'=st1/\∃ l g,r=(none,l,g)/\l<=g/\g<=k/\g - l<=k - x/\(∀ i,i < l->Kr rk (arrOf st1) (lo+i)<=Kr rk (arrOf st1) (lo+k))/\∀ i,g<=i->i < k->Kr rk (arrOf st1) (lo+k) < Kr rk (arrOf st1) (lo+i))
   (Q:=fun r st'=>st'=st1/\∃ l g,r=(none,l,g)/\l<=k/\(∀ i,i < l->Kr rk (arrOf st1) (lo+i)<=Kr rk (arrOf st1) (lo+k))/\∀ i,l<=i->i < k->Kr rk (arrOf st1) (lo+k) < Kr rk (arrOf st1) (lo+i)) ?_ ?_ ?_) ?_)
  ·rintro x r st2 _ hx ⟨rfl,l,g,rfl,d1,d2,d3,f1,f2⟩
   dsimp only
   by_cases hlg:l >= g
   ·rw [if_pos hlg]
    have e:g=l:=by omega
    subst e
    exact bd2 ⟨rfl,g,g,rfl,d2,f1,f2⟩
   ·rw [if_neg hlg]
    refine bc8 (nS c o b1 hk0 (by omega) ?_)
    by_cases hc:Kr rk (arrOf st2) (lo+k) < Kr rk (arrOf st2) (lo+(l+g) / 2)
    ·rw [bc9 hc]
     refine bd2 ⟨rfl,l,(l+g) / 2,rfl,by omega,by omega,by omega,f1,fun i i1 i2=>?_⟩
     have:=u1 (lo+(l+g) / 2) (lo+i) (by omega) (by omega) (by omega)
     omega
    ·rw [bb7 hc]
     refine bd2 ⟨rfl,(l+g) / 2+1,g,rfl,by omega,d2,by omega,fun i i1=>?_,f2⟩
     have:=u1 (lo+i) (lo+(l+g) / 2) (by omega) (by omega) (by omega)
     omega
  ·rintro r st2 ⟨rfl,l,g,rfl,d1,d2,d3,f1,f2⟩
   have e:g=l:=by omega
   subst e
   exact⟨rfl,g,g,rfl,d2,f1,f2⟩
  ·exact⟨rfl,0,k,rfl,by omega,by omega,by omega,fun i hi=>absurd hi (by omega),fun i i1 i2=>absurd i1 (by omega)⟩
  ·rintro r st2 ⟨rfl,l,g,rfl,d,f1,f2⟩
   dsimp only
   rw [moveDown'_eq]
   have kb:∀ i,Kr rk (bubble (arrOf st2) (lo+k) (lo+k - (lo+l))) i=Kr rk (arrOf st2) (if i=lo+l then lo+k else if lo+l < i/\i<=lo+k then i - 1 else i):=fun i=>by
    rw [aA0 (by omega) (by omega),show lo+k - (lo+k - (lo+l))=lo+l by omega]
   refine bc8 (wpS_modify (bd2 ⟨rfl,b1.put (bubble_perm _ _ _),fun i j hi hij hj=>?_,fun i hi=>?_⟩))
   ·show Kr rk (bubble (arrOf st2) (lo+k) (lo+k - (lo+l))) i<=Kr rk (bubble (arrOf st2) (lo+k) (lo+k - (lo+l))) j
    rw [kb,kb]
    rw [show min (k+1) n=k+1 by omega] at hj
    have v1:∀ p,lo<=p->p < lo+l->Kr rk (arrOf st2) p<=Kr rk (arrOf st2) (lo+k):=fun p p1 p2=>by have:=f1 (p - lo) (by omega); rwa [show lo+(p - lo)=p by omega] at this
    have v2:∀ p,lo+l<=p->p < lo+k->Kr rk (arrOf st2) (lo+k) < Kr rk (arrOf st2) p:=fun p p1 p2=>by have:=f2 (p - lo) (by omega) (by omega); rwa [show lo+(p - lo)=p by omega] at this
    repeat' split
    all_goals first
     | (exfalso; omega)
     | exact bp3 _
     | exact v1 _ (by omega) (by omega)
     | exact Int.le_of_lt (v2 _ (by omega) (by omega))
     | exact u1 _ _ (by omega) (by omega) (by omega)
   ·show Kr rk (bubble (arrOf st2) (lo+k) (lo+k - (lo+l))) i=_
    rw [kb,if_neg (by omega),if_neg (by omega)]
    exact l1 i hi
 ·rintro r st1 ⟨rfl,b1,u1,l1⟩
  rw [show min (max (max q 1) n) n=n by omega] at u1
  exact⟨rfl,b1,u1,l1⟩
 ·refine⟨rfl,b,fun i j hi hij hj=>?_,fun _ _=>rfl⟩
  rcases bh2 j (lo+q) with z | z
  ·exact u i j hi hij z
  ·rw [show i=j by omega]; exact bp3 _
 ·rintro r st1 ⟨rfl,b1,u1,l1⟩
  exact bd2 (h st1 b1 u1 l1)
end
def jV:Bool->Keyed->Array Keyed->Nat->Nat->Nat->StateT SortSt Sem (Option Nat):=sortPriv% PySem.Builtin.gallop
def kM (lf:Bool) (key:Keyed) (xs:Array Keyed) (bs i:Nat):StateT SortSt Sem (Option Bool):=do
 let z <- elem' xs (bs+i)
 if lf then lt' z key else return (<- lt' key z).map (!·)
theorem aA4 (lf:Bool) (key:Keyed) (xs:Array Keyed) (bs n h:Nat):jV lf key xs bs n h=(do
 let mut la:=0
 let mut of:=1
 let mut l:=0
 let mut g:=0
 let some rt <- kM lf key xs bs h | return none
 if rt then
  let mx:=n - h
  for _ in [0:n] do
   if of >= mx then break
   let some mr <- kM lf key xs bs (h+of) | return none
   if !mr then break
   la:=of
   of:=2 * of+1
  l:=h+la+1
  g:=h+min of mx
 else
  let mx:=h+1
  for _ in [0:n] do
   if of >= mx then break
   let some fd <- kM lf key xs bs (h - of) | return none
   if fd then break
   la:=of
   of:=2 * of+1
  l:=h+1 - min of mx
  g:=h - la
 for _ in [0:n] do
  if l >= g then break
  let m:=l+(g - l) / 2
  let some mr <- kM lf key xs bs m | return none
  if mr then l:=m+1 else g:=m
 return some g):=rfl
section
variable {rk : Keyed → Int} {κ : SortKind} {st : SortSt} {prog : Program} {w : World} {A : Around} {E : Value → Shared → Prop} {s : Shared} {Ok : Keyed → Prop}
def bW (rk:Keyed->Int) (lf:Bool) (key:Keyed) (xs:Array Keyed) (bs i:Nat):Bool:=if lf then decide (Kr rk xs (bs+i) < rk key) else decide (Kr rk xs (bs+i)<=rk key)
theorem qO (c:cJ prog w A E s κ Ok rk) (hk:kindOf st=κ) {lf:Bool}{key:Keyed}{xs:Array Keyed}{bs i:Nat}{Q:Option Bool->SortSt->Prop} (ok:Ok key) (o:bJ Ok xs) (hi:bs+i < xs.size)
  (h:Q (some (bW rk lf key xs bs i)) st):wpS (model prog w) A E s (kM lf key xs bs i) Q st:=by
 unfold kM
 refine bc8 (cT hi ?_)
 unfold bW at h
 rw [c9 hi] at h
 cases lf with
 | true=>
  simp only [if_true] at h ⊢
  exact c _ _ (o _ (bh1 hi)) ok st Q hk h
 | false=>
  simp only [bd5,bh5] at h ⊢
  refine bc8 (c _ _ ok (o _ (bh1 hi)) st _ hk (bd2 ?_))
  have e:(!decide (rk key < rk xs[bs+i]))=decide (rk xs[bs+i]<=rk key):=by
   by_cases z:rk xs[bs+i]<=rk key
   ·rw [bc9 z,bb7 (by omega)]; rfl
   ·rw [bb7 z,bc9 (by omega)]; rfl
  show Q (some (!decide (rk key < rk xs[bs+i]))) st
  rw [e]; exact h
abbrev GS:=Option (Option Nat) × Nat × Nat
def L9 (lf:Bool) (key:Keyed) (xs:Array Keyed) (bs n l g:Nat):StateT SortSt Sem GS:=forIn [0:n] ((none,l,g):GS) fun _ r=>
 if r.2.1 >= r.2.2 then pure (ForInStep.done (none,r.2.1,r.2.2)) else do
  match <- kM lf key xs bs (r.2.1+(r.2.2 - r.2.1) / 2) with
  | some q=>if q=true then pure (ForInStep.yield (none,r.2.1+(r.2.2 - r.2.1) / 2+1,r.2.2)) else pure (ForInStep.yield (none,r.2.1,r.2.1+(r.2.2 - r.2.1) / 2))
  | _=>pure (ForInStep.done (some none,r.2.1,r.2.2))
theorem M0 (c:cJ prog w A E s κ Ok rk) (hk:kindOf st=κ) {lf:Bool}{key:Keyed}{xs:Array Keyed}{bs n l g:Nat}{Q:GS->SortSt->Prop} (ok:Ok key) (o:bJ Ok xs) (hz:bs+n<=xs.size)
  (mono:∀ i j,i<=j->j < n->bW rk lf key xs bs j=true->bW rk lf key xs bs i=true) (hlg:l<=g) (hg:g<=n) (h1:∀ i,i < l->bW rk lf key xs bs i=true) (h2:∀ i,g<=i->i < n->bW rk lf key xs bs i=false)
  (hq:∀ k,k<=n->(∀ i,i < k->bW rk lf key xs bs i=true)->(∀ i,k<=i->i < n->bW rk lf key xs bs i=false)->Q (none,k,k) st):wpS (model prog w) A E s (L9 lf key xs bs n l g) Q st:=by
 unfold L9
 refine bk1 (I:=fun x r st'=>st'=st/\∃ l g,r=(none,l,g)/\l<=g/\g<=n/\g - l<=n - x/\(∀ i,i < l->bW rk lf key xs bs i=true)/\∀ i,g<=i->i < n->bW rk lf key xs bs i=false) ?_ ?_ ⟨rfl,l,g,rfl,hlg,hg,by omega,h1,h2⟩
 ·rintro x r st' _ hx ⟨rfl,l,g,rfl,d1,d2,d3,f1,f2⟩
  dsimp only
  by_cases hc:l >= g
  ·rw [if_pos hc]
   have e:g=l:=by omega
   subst e
   exact bd2 (hq g d2 f1 f2)
  ·rw [if_neg hc]
   refine bc8 (qO c hk ok o (by omega) ?_)
   cases z:bW rk lf key xs bs (l+(g - l) / 2) with
   | true=>exact bd2 ⟨rfl,_,_,rfl,by omega,d2,by omega,fun i hi=>mono i (l+(g - l) / 2) (by omega) (by omega) z,f2⟩
   | false=>
    refine bd2 ⟨rfl,_,_,rfl,by omega,by omega,by omega,f1,fun i i1 i2=>?_⟩
    cases y:bW rk lf key xs bs i with
    | false=>rfl
    | true=>rw [mono _ i i1 i2 y] at z; cases z
 ·rintro r st' ⟨rfl,l,g,rfl,d1,d2,d3,f1,f2⟩
  have e:g=l:=by omega
  subst e
  exact hq g d2 f1 f2
theorem lQ (c:cJ prog w A E s κ Ok rk) (hk:kindOf st=κ) {lf:Bool}{key:Keyed}{xs:Array Keyed}{bs n h:Nat}{Q:Option Nat->SortSt->Prop} (ok:Ok key) (o:bJ Ok xs) (hh:h < n) (hz:bs+n<=xs.size) (u:Up rk xs bs (bs+n))
  (hq:∀ k,k<=n->(∀ i,i < k->bW rk lf key xs bs i=true)->(∀ i,k<=i->i < n->bW rk lf key xs bs i=false)->Q (some k) st):wpS (model prog w) A E s (jV lf key xs bs n h) Q st:=by
 have mono:∀ i j,i<=j->j < n->bW rk lf key xs bs j=true->bW rk lf key xs bs i=true:=fun i j hij hj e=>by
  have:=u (bs+i) (bs+j) (by omega) (by omega) (by omega)
  unfold bW at e ⊢
  cases lf with
  | true=>simp only [if_true,bf5] at e ⊢; omega
  | false=>simp only [bd5,bh5,bf5] at e ⊢; omega
 have monf:∀ i j,i<=j->j < n->bW rk lf key xs bs i=false->bW rk lf key xs bs j=false:=fun i j hij hj e=>by
  cases z:bW rk lf key xs bs j with
  | false=>rfl
  | true=>rw [mono i j hij hj z] at e; cases e
 rw [aA4]
 refine bc8 (qO c hk ok o (by omega) ?_)
 dsimp only
 cases z:bW rk lf key xs bs h with
 | true=>
  rw [if_pos rfl]
  refine bc8 (bq8 (bk1 (I:=fun x r st'=>st'=st/\∃ la of,r=(none,la,of)/\la < of/\x < of/\h+la < n/\bW rk lf key xs bs (h+la)=true)
   (Q:=fun r st'=>st'=st/\∃ la of,r=(none,la,of)/\la < of/\h+la < n/\bW rk lf key xs bs (h+la)=true/\(of < n - h->bW rk lf key xs bs (h+of)=false)) ?_ ?_ ⟨rfl,0,1,rfl,by omega,by omega,by omega,z⟩) ?_)
  ·rintro x r st' _ hx ⟨rfl,la,of,rfl,d1,d2,d3,f⟩
   dsimp only
   by_cases hc:of >= n - h
   ·rw [if_pos hc]
    exact bd2 ⟨rfl,la,of,rfl,d1,d3,f,fun y=>absurd y (by omega)⟩
   ·rw [if_neg hc]
    refine bc8 (qO c hk ok o (by omega) ?_)
    cases y:bW rk lf key xs bs (h+of) with
    | true=>exact bd2 ⟨rfl,of,2 * of+1,rfl,by omega,by omega,by omega,y⟩
    | false=>exact bd2 ⟨rfl,la,of,rfl,d1,d3,f,fun _=>y⟩
  ·rintro r st' ⟨rfl,la,of,rfl,d1,d2,d3,f⟩
   exact⟨rfl,la,of,rfl,d1,d3,f,fun y=>absurd y (by omega)⟩
  ·rintro r st' ⟨rfl,la,of,rfl,d1,d3,f,ft⟩
   dsimp only
   refine bc8 (M0 (l:=h+la+1) (g:=h+min of (n - h)) c hk ok o hz mono (by omega) (by omega) (fun i hi=>mono i (h+la) (by omega) d3 f) (fun i i1 i2=>?_) fun k k1 k2 k3=>bd2 (hq k k1 k2 k3))
   rcases bh2 of (n - h) with y | y
   ·exact monf (h+of) i (by omega) i2 (ft y)
   ·exact absurd i1 (by omega)
 | false=>
  rw [if_neg bd4]
  refine bc8 (bq8 (bk1 (I:=fun x r st'=>st'=st/\∃ la of,r=(none,la,of)/\la < of/\x < of/\la<=h/\bW rk lf key xs bs (h - la)=false)
   (Q:=fun r st'=>st'=st/\∃ la of,r=(none,la,of)/\la < of/\la<=h/\bW rk lf key xs bs (h - la)=false/\(of < h+1->bW rk lf key xs bs (h - of)=true)) ?_ ?_ ⟨rfl,0,1,rfl,by omega,by omega,by omega,z⟩) ?_)
  ·rintro x r st' _ hx ⟨rfl,la,of,rfl,d1,d2,d3,f⟩
   dsimp only
   by_cases hc:of >= h+1
   ·rw [if_pos hc]
    exact bd2 ⟨rfl,la,of,rfl,d1,d3,f,fun y=>absurd y (by omega)⟩
   ·rw [if_neg hc]
    refine bc8 (qO c hk ok o (by omega) ?_)
    cases y:bW rk lf key xs bs (h - of) with
    | false=>exact bd2 ⟨rfl,of,2 * of+1,rfl,by omega,by omega,by omega,y⟩
    | true=>exact bd2 ⟨rfl,la,of,rfl,d1,d3,f,fun _=>y⟩
  ·rintro r st' ⟨rfl,la,of,rfl,d1,d2,d3,f⟩
   exact⟨rfl,la,of,rfl,d1,d3,f,fun y=>absurd y (by omega)⟩
  ·rintro r st' ⟨rfl,la,of,rfl,d1,d3,f,ft⟩
   dsimp only
   refine bc8 (M0 (l:=h+1 - min of (h+1)) (g:=h - la) c hk ok o hz mono (by omega) (by omega) (fun i hi=>?_) (fun i i1 i2=>monf (h - la) i i1 i2 f) fun k k1 k2 k3=>bd2 (hq k k1 k2 k3))
   rcases bh2 of (h+1) with y | y
   ·exact mono i (h - of) (by omega) (by omega) (ft y)
   ·exact absurd hi (by omega)
end
def lR:Nat->StateT SortSt Sem Unit:=sortPriv% PySem.Builtin.setMinGallop
def vR:Array Keyed->Array Keyed->StateT SortSt Sem (Array Keyed):=sortPriv% PySem.Builtin.mergeLo
theorem aA5 (g:Nat):lR g=modify (fun st=>SortSt.mk' (kindOf st) (arrOf st) (pendingOf st) g (failedOf st)):=rfl
abbrev LS:=Option (Array Keyed) × Array Keyed × Nat × Nat × Nat × Nat × Nat
abbrev vS:=Option (Array Keyed) × Array Keyed × Nat × Nat × Nat × Nat
abbrev LO:=Option (Array Keyed) × Array Keyed × Nat × Nat × Nat
def qP (x y o:Array Keyed) (i j mg p q:Nat):StateT SortSt Sem (ForInStep LS):=do
 let v <- elem' x i
 if (i+1+1 == x.size)=true then pure (.done (some (o.push v ++ y.extract j y.size ++ x.extract (i+1) x.size),o.push v,i+1,j,mg,p,q))
 else if (decide (p < 7) && decide (q < 7))=true then pure (.done (none,o.push v,i+1,j,mg,p,q)) else pure (.yield (none,o.push v,i+1,j,mg,p,q))
def qQ (x y o:Array Keyed) (i j mg p q:Nat):StateT SortSt Sem (ForInStep LS):=do
 let v <- elem' y j
 if (j+1 == y.size)=true then pure (.done (some (o.push v ++ x.extract i x.size ++ y.extract (j+1) y.size),o.push v,i,j+1,mg,p,q)) else do
  let u <- elem' x i
  match <- jV true u y (j+1) (y.size - (j+1)) 0 with
  | some k=>
   if k > 0 then
    if (j+1+k == y.size)=true then pure (.done (some (o.push v ++ y.extract (j+1) (j+1+k) ++ x.extract i x.size ++ y.extract (j+1+k) y.size),o.push v ++ y.extract (j+1) (j+1+k),i,j+1+k,mg,p,k))
    else qP x y (o.push v ++ y.extract (j+1) (j+1+k)) i (j+1+k) mg p k
   else qP x y (o.push v) i (j+1) mg p k
  | _=>pure (.done (some (o.push v ++ x.extract i x.size ++ y.extract (j+1) y.size),o.push v,i,j+1,mg,p,q))
def qR (x y o:Array Keyed) (i j mg p q:Nat):StateT SortSt Sem (ForInStep LS):=do
 lR mg
 let v <- elem' y j
 match <- jV false v x i (x.size - i) 0 with
 | some k=>
  if k > 0 then
   if (i+k+1 == x.size)=true then pure (.done (some (o ++ x.extract i (i+k) ++ y.extract j y.size ++ x.extract (i+k) x.size),o ++ x.extract i (i+k),i+k,j,mg,k,q))
   else if (i+k == x.size)=true then pure (.done (some (o ++ x.extract i (i+k) ++ x.extract (i+k) x.size ++ y.extract j y.size),o ++ x.extract i (i+k),i+k,j,mg,k,q))
   else qQ x y (o ++ x.extract i (i+k)) (i+k) j mg k q
  else qQ x y o i j mg k q
 | _=>pure (.done (some (o ++ x.extract i x.size ++ y.extract j y.size),o,i,j,mg,p,q))
def vT (x y o:Array Keyed) (i j mg p q:Nat):StateT SortSt Sem LS:=forIn [0:x.size+y.size] ((none,o,i,j,mg,p,q):LS) fun _ r=>
 if r.2.2.2.2.1 > 1 then qR x y r.2.1 r.2.2.1 r.2.2.2.1 (r.2.2.2.2.1 - 1) r.2.2.2.2.2.1 r.2.2.2.2.2.2 else qR x y r.2.1 r.2.2.1 r.2.2.2.1 r.2.2.2.2.1 r.2.2.2.2.2.1 r.2.2.2.2.2.2
def vU (x y o:Array Keyed) (i j mg:Nat):StateT SortSt Sem vS:=forIn [0:x.size+y.size] ((none,o,i,j,0,0):vS) fun _ r=>do
 let v <- elem' y r.2.2.2.1
 let u <- elem' x r.2.2.1
 match <- lt' v u with
 | some q=>
  if q=true then do
   let v <- elem' y r.2.2.2.1
   if (r.2.2.2.1+1 == y.size)=true then pure (.done (some (r.2.1.push v ++ x.extract r.2.2.1 x.size ++ y.extract (r.2.2.2.1+1) y.size),r.2.1.push v,r.2.2.1,r.2.2.2.1+1,0,r.2.2.2.2.2+1))
   else if r.2.2.2.2.2+1 >= mg then pure (.done (none,r.2.1.push v,r.2.2.1,r.2.2.2.1+1,0,r.2.2.2.2.2+1)) else pure (.yield (none,r.2.1.push v,r.2.2.1,r.2.2.2.1+1,0,r.2.2.2.2.2+1))
  else do
   let u <- elem' x r.2.2.1
   if (r.2.2.1+1+1 == x.size)=true then pure (.done (some (r.2.1.push u ++ y.extract r.2.2.2.1 y.size ++ x.extract (r.2.2.1+1) x.size),r.2.1.push u,r.2.2.1+1,r.2.2.2.1,r.2.2.2.2.1+1,0))
   else if r.2.2.2.2.1+1 >= mg then pure (.done (none,r.2.1.push u,r.2.2.1+1,r.2.2.2.1,r.2.2.2.2.1+1,0)) else pure (.yield (none,r.2.1.push u,r.2.2.1+1,r.2.2.2.1,r.2.2.2.2.1+1,0))
 | _=>pure (.done (some (r.2.1 ++ x.extract r.2.2.1 x.size ++ y.extract r.2.2.2.1 y.size),r.2.1,r.2.2.1,r.2.2.2.1,r.2.2.2.2.1,r.2.2.2.2.2))
def M3 (x y o:Array Keyed) (i j mg:Nat):StateT SortSt Sem LO:=forIn [0:x.size+y.size] ((none,o,i,j,mg):LO) fun _ r=>do
 let u <- vU x y r.2.1 r.2.2.1 r.2.2.2.1 r.2.2.2.2
 match u.1 with
 | some z=>pure (.done (some z,u.2.1,u.2.2.1,u.2.2.2.1,r.2.2.2.2))
 | none=>do
  liftM (rule "list.sort.gallop")
  let v <- vT x y u.2.1 u.2.2.1 u.2.2.2.1 (r.2.2.2.2+1) u.2.2.2.2.1 u.2.2.2.2.2
  match v.1 with
  | some z=>pure (.done (some z,v.2.1,v.2.2.1,v.2.2.2.1,v.2.2.2.2.1))
  | none=>do
   lR (v.2.2.2.2.1+1)
   pure (.yield (none,v.2.1,v.2.2.1,v.2.2.2.1,v.2.2.2.2.1+1))
theorem aA6 (x y:Array Keyed):vR x y=(do
 liftM (rule "list.sort.merge-lo")
 let v <- elem' y 0
 if (1 == y.size)=true then pure (#[v] ++ x.extract 0 x.size ++ y.extract 1 y.size)
 else if (0+1 == x.size)=true then pure (#[v] ++ y.extract 1 y.size ++ x.extract 0 x.size)
 else do
  let z <- get
  let r <- M3 x y #[v] 0 1 (gallopOf z)
  match r.1 with
  | some z=>pure z
  | none=>unsupported "internal:list.sort.merge-bound"):=by kernel_rfl
section
variable (rk : Keyed → Int)
def Sd (l:List Keyed):Prop:=l.Pairwise fun a b=>rk a<=rk b
structure MI (xs ys o:List Keyed) (i j:Nat):Prop where
 pm:o.Perm (xs.take i ++ ys.take j)
 sx:Sd rk (o ++ xs.drop i)
 sy:Sd rk (o ++ ys.drop j)
end
variable {rk : Keyed → Int} {xs ys o : List Keyed} {i j : Nat}
theorem Sd.ins {o a b d:List Keyed} (h1:Sd rk (o ++ a)) (h2:Sd rk (o ++ (b ++ d))) (h:∀ u ∈ b,∀ t ∈ a,rk u<=rk t):Sd rk ((o ++ b) ++ a):=by
 unfold Sd at *
 rw [bd6]
 obtain ⟨p1,p2,p3⟩:=bf9.mp h1
 obtain ⟨q1,q2,q3⟩:=bf9.mp h2
 obtain ⟨r1,r2,r3⟩:=bf9.mp q2
 refine bf9.mpr ⟨p1,bf9.mpr ⟨r1,p2,h⟩,fun u hu t ht=>?_⟩
 rcases be1.mp ht with z | z
 ·exact q3 u hu t (bo4 _ z)
 ·exact p3 u hu t z
theorem MI.ofy (m:MI rk xs ys o i j) (k:Nat) (h:∀ u ∈ (ys.drop j).take k,∀ t ∈ xs.drop i,rk u<=rk t):MI rk xs ys (o ++ (ys.drop j).take k) i (j+k):=by
 have e:(ys.drop j).take k ++ ys.drop (j+k)=ys.drop j:=by rw [<- List.drop_drop]; exact be9 k _
 refine⟨?_,Sd.ins m.sx (d:=ys.drop (j+k)) (by rw [e]; exact m.sy) h,by rw [bd6,e]; exact m.sy⟩
 rw [List.take_add,<- bd6]
 exact m.pm.append_right _
theorem MI.ofx (m:MI rk xs ys o i j) (k:Nat) (h:∀ u ∈ (xs.drop i).take k,∀ t ∈ ys.drop j,rk u<=rk t):MI rk xs ys (o ++ (xs.drop i).take k) (i+k) j:=by
 have e:(xs.drop i).take k ++ xs.drop (i+k)=xs.drop i:=by rw [<- List.drop_drop]; exact be9 k _
 refine⟨?_,by rw [bd6,e]; exact m.sx,Sd.ins m.sy (d:=xs.drop (i+k)) (by rw [e]; exact m.sx) h⟩
 rw [List.take_add]
 refine (m.pm.append_right _).trans ?_
 rw [bd6,bd6]
 exact (List.perm_append_comm).append_left _
theorem MI.fin (m:MI rk xs ys o i j) (h:xs.length<=i ∨ ys.length<=j):(o ++ xs.drop i ++ ys.drop j).Perm (xs ++ ys)/\Sd rk (o ++ xs.drop i ++ ys.drop j):=by
 refine⟨?_,?_⟩
 ·rw [bd6]
  refine (m.pm.append_right _).trans ?_
  have e1:xs=xs.take i ++ xs.drop i:=(be9 i xs).symm
  have e2:ys=ys.take j ++ ys.drop j:=(be9 j ys).symm
  conv=>rhs; rw [e1,e2]
  rw [bd6,bd6]
  refine List.Perm.append_left _ ?_
  rw [<- bd6,<- bd6]
  exact (List.perm_append_comm).append_right _
 ·rcases h with h | h
  ·rw [List.drop_eq_nil_of_le h,bf8]; exact m.sy
  ·rw [List.drop_eq_nil_of_le h,bf8]; exact m.sx
theorem MI.lst (m:MI rk xs ys o i j) (h:∀ u ∈ ys,∀ t ∈ xs.drop i,rk u<=rk t):(o ++ ys.drop j ++ xs.drop i).Perm (xs ++ ys)/\Sd rk (o ++ ys.drop j ++ xs.drop i):=by
 have m2:=m.ofy ys.length fun u hu t ht=>h u (List.mem_of_mem_drop (List.mem_of_mem_take hu)) t ht
 have e:(ys.drop j).take ys.length=ys.drop j:=bh8 (by simp)
 rw [e] at m2
 have f:=m2.fin (.inr (by omega))
 rw [List.drop_eq_nil_of_le (as:=ys) (i:=j+ys.length) (by omega),bf8] at f
 exact f
theorem M4 {x:Array Keyed}{i k:Nat}{u:Keyed} (h:u ∈ (x.toList.drop i).take k):∃ t,t < k/\i+t < x.size/\rk u=Kr rk x (i+t):=by
 obtain ⟨t,ht,e⟩:=bj2 h
 have h1:t < k/\i+t < x.size:=by simp at ht; omega
 refine⟨t,h1.1,h1.2,?_⟩
 rw [c9 h1.2,<- e]
 simp
theorem nV {x:Array Keyed}{i:Nat}{u:Keyed} (h:u ∈ x.toList.drop i):∃ t,i+t < x.size/\rk u=Kr rk x (i+t):=by
 obtain ⟨t,ht,e⟩:=bj2 h
 have h1:i+t < x.size:=by simp at ht; omega
 refine⟨t,h1,?_⟩
 rw [c9 h1,<- e]
 simp
theorem Sd.up {x:Array Keyed} (h:Sd rk x.toList) (lo hi:Nat) (hh:hi<=x.size):Up rk x lo hi:=fun i j _ hij hj=>by
 rw [c9 (by omega:i < x.size),c9 (by omega:j < x.size)]
 rcases bq0 hij with z | z
 ·subst z; exact bp3 _
 ·have:=bf2.mp h i j (by simp; omega) (by simp; omega) z
  simpa using this
theorem M5 (x:Array Keyed) (i k:Nat):(x.extract i (i+k)).toList=(x.toList.drop i).take k:=by
 simp [List.extract]
theorem qS (x:Array Keyed) (i:Nat):(x.extract i x.size).toList=x.toList.drop i:=by
 simp [List.extract]
 exact bh8 (by simp)
theorem kN {x:Array Keyed}{i:Nat} (h:i < x.size) : [x[i]]=(x.toList.drop i).take 1:=by
 rw [bl8 (by simpa using h)]; simp
structure Gq (st st':SortSt):Prop where
 kd:kindOf st'=kindOf st
 ar:arrOf st'=arrOf st
 pd:pendingOf st'=pendingOf st
 ok:failedOf st'=failedOf st
theorem Gq.refl (st:SortSt):Gq st st:=⟨rfl,rfl,rfl,rfl⟩
section
variable {κ : SortKind} {st : SortSt} {prog : Program} {w : World} {A : Around} {E : Value → Shared → Prop} {s : Shared} {Ok : Keyed → Prop}
theorem qT {st0:SortSt}{g:Nat}{Q:Unit->SortSt->Prop} (q:Gq st0 st) (h:∀ st',Gq st0 st'->Q () st'):wpS (model prog w) A E s (lR g) Q st:=by
 rw [aA5]; exact wpS_modify (h _ ⟨q.kd,q.ar,q.pd,q.ok⟩)
def dW (rk:Keyed->Int) (x y r:Array Keyed):Prop:=r.toList.Perm (x.toList ++ y.toList)/\Sd rk r.toList
theorem MI.y1 {x y o:Array Keyed} (m:MI rk x.toList y.toList o.toList i j) (hj:j < y.size) (h:∀ t,i+t < x.size->rk y[j]<=Kr rk x (i+t)):MI rk x.toList y.toList (o.push y[j]).toList i (j+1):=by
 have:=m.ofy 1 fun u hu t ht=>?_
 ·rw [<- kN hj] at this; simpa using this
 ·rw [<- kN hj,bc1] at hu
  subst hu
  obtain ⟨q,q1,q2⟩:=nV (rk:=rk) ht
  rw [q2]; exact h q q1
theorem MI.x1 {x y o:Array Keyed} (m:MI rk x.toList y.toList o.toList i j) (hi:i < x.size) (h:∀ t,j+t < y.size->rk x[i]<=Kr rk y (j+t)):MI rk x.toList y.toList (o.push x[i]).toList (i+1) j:=by
 have:=m.ofx 1 fun u hu t ht=>?_
 ·rw [<- kN hi] at this; simpa using this
 ·rw [<- kN hi,bc1] at hu
  subst hu
  obtain ⟨q,q1,q2⟩:=nV (rk:=rk) ht
  rw [q2]; exact h q q1
theorem MI.yk {x y o:Array Keyed} (m:MI rk x.toList y.toList o.toList i j) (k:Nat) (h:∀ p t,p < k->j+p < y.size->i+t < x.size->Kr rk y (j+p)<=Kr rk x (i+t)):MI rk x.toList y.toList (o ++ y.extract j (j+k)).toList i (j+k):=by
 have:=m.ofy k fun u hu t ht=>?_
 ·rw [<- M5] at this; rw [bj3]; exact this
 ·obtain ⟨p,p1,p2,p3⟩:=M4 (rk:=rk) hu
  obtain ⟨q,q1,q2⟩:=nV (rk:=rk) ht
  rw [q2,p3]; exact h p q p1 p2 q1
theorem MI.xk {x y o:Array Keyed} (m:MI rk x.toList y.toList o.toList i j) (k:Nat) (h:∀ p t,p < k->i+p < x.size->j+t < y.size->Kr rk x (i+p)<=Kr rk y (j+t)):MI rk x.toList y.toList (o ++ x.extract i (i+k)).toList (i+k) j:=by
 have:=m.ofx k fun u hu t ht=>?_
 ·rw [<- M5] at this; rw [bj3]; exact this
 ·obtain ⟨p,p1,p2,p3⟩:=M4 (rk:=rk) hu
  obtain ⟨q,q1,q2⟩:=nV (rk:=rk) ht
  rw [q2,p3]; exact h p q p1 p2 q1
theorem lT {key:Keyed}{xs:Array Keyed}{bs i:Nat}:bW rk false key xs bs i=decide (Kr rk xs (bs+i)<=rk key):=rfl
theorem lU {key:Keyed}{xs:Array Keyed}{bs i:Nat}:bW rk true key xs bs i=decide (Kr rk xs (bs+i) < rk key):=rfl
def GI (rk:Keyed->Int) (x y:Array Keyed) (lb:Nat) (st:SortSt) (c:LS) (st':SortSt):Prop:=Gq st st'/\∃ o i j mg p q,c=(none,o,i,j,mg,p,q)/\MI rk x.toList y.toList o.toList i j/\i+1 < x.size/\j < y.size/\lb<=i+j
def GQ (rk:Keyed->Int) (x y:Array Keyed) (lb:Nat) (st:SortSt) (c:LS) (st':SortSt):Prop:=Gq st st'/\((∃ r o i j mg p q,c=(some r,o,i,j,mg,p,q)/\dW rk x y r) ∨ ∃ o i j mg p q,c=(none,o,i,j,mg,p,q)/\MI rk x.toList y.toList o.toList i j/\i+1 < x.size/\j < y.size/\lb<=i+j)
def GR (rk:Keyed->Int) (x y:Array Keyed) (lb:Nat) (st:SortSt) (r:ForInStep LS) (st':SortSt):Prop:=match r with | .done c=>GQ rk x y lb st c st' | .yield c=>GI rk x y lb st c st'
theorem MI.done {x y o:Array Keyed} (m:MI rk x.toList y.toList o.toList i j) (hh:x.size<=i ∨ y.size<=j):dW rk x y (o ++ x.extract i x.size ++ y.extract j y.size):=by
 unfold dW
 rw [bj3,bj3,qS,qS]
 exact m.fin (by simpa using hh)
theorem MI.last {x y o:Array Keyed} (m:MI rk x.toList y.toList o.toList i j) (x0:0 < x.size) (hl:∀ u ∈ y.toList,rk u<=rk x[x.size - 1]) (hh:i+1=x.size):dW rk x y (o ++ y.extract j y.size ++ x.extract i x.size):=by
 unfold dW
 rw [bj3,bj3,qS,qS]
 refine m.lst fun u hu t ht=>?_
 obtain ⟨q,q1,q2⟩:=nV (rk:=rk) ht
 have e:i+q=x.size - 1:=by omega
 rw [q2,e,c9 (by omega)]
 exact hl u hu
theorem M6 {st0:SortSt}{x y o:Array Keyed}{mg p q lb:Nat} (x0:0 < x.size) (hl:∀ u ∈ y.toList,rk u<=rk x[x.size - 1]) (g:Gq st0 st) (m:MI rk x.toList y.toList o.toList i j) (hi:i+1 < x.size) (hj:j < y.size) (hb:lb<=i+j)
  (hm:∀ t,j+t < y.size->rk x[i]<=Kr rk y (j+t)):wpS (model prog w) A E s (qP x y o i j mg p q) (GR rk x y lb st0) st:=by
 unfold qP
 have hi':i < x.size:=by omega
 have m':=m.x1 hi' hm
 refine bc8 (cT hi' ?_)
 by_cases he:(i+1+1 == x.size)=true
 ·rw [if_pos he]
  have he:i+1+1=x.size:=by simpa using he
  exact bd2 ⟨g,.inl ⟨_,_,_,_,_,_,_,rfl,m'.last x0 hl he⟩⟩
 ·rw [if_neg he]
  have he:i+1+1 ≠ x.size:=by simpa using he
  split
  ·exact bd2 ⟨g,.inr ⟨_,_,_,_,_,_,rfl,m',by omega,hj,by omega⟩⟩
  ·exact bd2 ⟨g,_,_,_,_,_,_,rfl,m',by omega,hj,by omega⟩
theorem M7 (c:cJ prog w A E s κ Ok rk) {st0:SortSt} (hk:kindOf st0=κ) {x y o:Array Keyed}{mg p q lb:Nat} (ox:bJ Ok x) (oy:bJ Ok y) (sx:Sd rk x.toList) (sy:Sd rk y.toList) (x0:0 < x.size) (hl:∀ u ∈ y.toList,rk u<=rk x[x.size - 1]) (g:Gq st0 st) (m:MI rk x.toList y.toList o.toList i j) (hi:i+1 < x.size) (hj:j < y.size) (hb:lb<=i+j)
  (hm:∀ t,i+t < x.size->rk y[j]<=Kr rk x (i+t)):wpS (model prog w) A E s (qQ x y o i j mg p q) (GR rk x y lb st0) st:=by
 unfold qQ
 have hi':i < x.size:=by omega
 have m':=m.y1 hj hm
 refine bc8 (cT hj ?_)
 by_cases he:(j+1 == y.size)=true
 ·rw [if_pos he]
  have he:j+1=y.size:=by simpa using he
  exact bd2 ⟨g,.inl ⟨_,_,_,_,_,_,_,rfl,m'.done (.inr (by omega))⟩⟩
 ·rw [if_neg he]
  have he:j+1 ≠ y.size:=by simpa using he
  refine bc8 (cT hi' (bc8 (lQ c (g.kd.trans hk) (ox _ (bh1 hi')) oy (by omega) (by omega) (sy.up _ _ (by omega)) fun k k1 k2 k3=>?_)))
  dsimp only
  have ux:=sx.up 0 _ (bb6 x.size)
  have mk:=m'.yk k fun p t hp _ ht=>by
   have a1:=k2 p hp
   rw [lU,bf5] at a1
   have a2:=ux i (i+t) (by omega) (by omega) ht
   rw [c9 hi'] at a2
   omega
  have km:∀ t,j+1+k+t < y.size->rk x[i]<=Kr rk y (j+1+k+t):=fun t ht=>by
   have a1:=k3 (k+t) (by omega) (by omega)
   rw [lU,bm5,<- Nat.add_assoc] at a1
   omega
  by_cases hk0:k > 0
  ·rw [if_pos hk0]
   by_cases hf:(j+1+k == y.size)=true
   ·rw [if_pos hf]
    have hf:j+1+k=y.size:=by simpa using hf
    exact bd2 ⟨g,.inl ⟨_,_,_,_,_,_,_,rfl,mk.done (.inr (by omega))⟩⟩
   ·rw [if_neg hf]
    have hf:j+1+k ≠ y.size:=by simpa using hf
    exact M6 x0 hl g mk hi (by omega) (by omega) km
  ·rw [if_neg hk0]
   have e0:k=0:=by omega
   subst e0
   exact M6 x0 hl g m' hi (by omega) (by omega) km
theorem M8 (c:cJ prog w A E s κ Ok rk) {st0:SortSt} (hk:kindOf st0=κ) {x y o:Array Keyed}{mg p q lb:Nat} (ox:bJ Ok x) (oy:bJ Ok y) (sx:Sd rk x.toList) (sy:Sd rk y.toList) (x0:0 < x.size) (hl:∀ u ∈ y.toList,rk u<=rk x[x.size - 1]) (g:Gq st0 st) (m:MI rk x.toList y.toList o.toList i j) (hi:i+1 < x.size) (hj:j < y.size) (hb:lb<=i+j) :
  wpS (model prog w) A E s (qR x y o i j mg p q) (GR rk x y lb st0) st:=by
 unfold qR
 refine bc8 (qT g fun st4 q4=>bc8 (cT hj (bc8 (lQ c (q4.kd.trans hk) (oy _ (bh1 hj)) ox (by omega) (by omega) (sx.up _ _ (by omega)) fun k k1 k2 k3=>?_))))
 dsimp only
 have uy:=sy.up 0 _ (bb6 y.size)
 have mk:=m.xk k fun p t hp _ ht=>by
  have a1:=k2 p hp
  rw [lT,bf5] at a1
  have a2:=uy j (j+t) (by omega) (by omega) ht
  rw [c9 hj] at a2
  omega
 have km:∀ t,i+k+t < x.size->rk y[j]<=Kr rk x (i+k+t):=fun t ht=>by
  have a1:=k3 (k+t) (by omega) (by omega)
  rw [lT,bm5,<- Nat.add_assoc] at a1
  omega
 by_cases hk0:k > 0
 ·rw [if_pos hk0]
  by_cases he:(i+k+1 == x.size)=true
  ·rw [if_pos he]
   exact bd2 ⟨q4,.inl ⟨_,_,_,_,_,_,_,rfl,mk.last x0 hl (by simpa using he)⟩⟩
  ·rw [if_neg he]
   have he:i+k+1 ≠ x.size:=by simpa using he
   by_cases hf:(i+k == x.size)=true
   ·rw [if_pos hf]
    have hf:i+k=x.size:=by simpa using hf
    exact bd2 ⟨q4,.inl ⟨_,_,_,_,_,_,_,rfl,mk.done (.inl (by omega))⟩⟩
   ·rw [if_neg hf]
    have hf:i+k ≠ x.size:=by simpa using hf
    exact M7 c hk ox oy sx sy x0 hl q4 mk (by omega) hj (by omega) km
 ·rw [if_neg hk0]
  have e0:k=0:=by omega
  subst e0
  exact M7 c hk ox oy sx sy x0 hl q4 m hi hj hb km
theorem aA7 (c:cJ prog w A E s κ Ok rk) {st0:SortSt} (hk:kindOf st0=κ) {x y o:Array Keyed}{mg p q lb:Nat} (ox:bJ Ok x) (oy:bJ Ok y) (sx:Sd rk x.toList) (sy:Sd rk y.toList) (x0:0 < x.size) (hl:∀ u ∈ y.toList,rk u<=rk x[x.size - 1]) (g:Gq st0 st) (m:MI rk x.toList y.toList o.toList i j) (hi:i+1 < x.size) (hj:j < y.size) (hb:lb<=i+j) :
  wpS (model prog w) A E s (vT x y o i j mg p q) (GQ rk x y lb st0) st:=by
 unfold vT
 refine bk1 (I:=fun _=>GI rk x y lb st0) ?_ ?_ ⟨g,o,i,j,_,p,q,rfl,m,hi,hj,hb⟩
 ·rintro t c3 st3 _ _ ⟨q3,o,i,j,mg,p,q,rfl,m,hi,hj,pr3⟩
  dsimp only
  split
  ·exact bq8 (M8 c hk ox oy sx sy x0 hl q3 m hi hj pr3) fun r _ hr=>by cases r <;> exact hr
  ·exact bq8 (M8 c hk ox oy sx sy x0 hl q3 m hi hj pr3) fun r _ hr=>by cases r <;> exact hr
 ·rintro c3 st3 ⟨q3,o,i,j,mg,p,q,rfl,m,hi,hj,pr3⟩
  exact⟨q3,.inr ⟨_,_,_,_,_,_,rfl,m,hi,hj,pr3⟩⟩
theorem aA8 (c:cJ prog w A E s κ Ok rk) {st0:SortSt} (hk:kindOf st0=κ) {x y o:Array Keyed}{mg:Nat}{Q:vS->SortSt->Prop} (ox:bJ Ok x) (oy:bJ Ok y) (sx:Sd rk x.toList) (sy:Sd rk y.toList) (x0:0 < x.size) (hl:∀ u ∈ y.toList,rk u<=rk x[x.size - 1]) (g:Gq st0 st) (m:MI rk x.toList y.toList o.toList i j) (hi:i+1 < x.size) (hj:j < y.size)
  (h1:∀ r o' i' j' p q st',Gq st0 st'->dW rk x y r->Q (some r,o',i',j',p,q) st')
  (h2:∀ o' i' j' p q st',Gq st0 st'->MI rk x.toList y.toList o'.toList i' j'->i'+1 < x.size->j' < y.size->i+j+1<=i'+j'->Q (none,o',i',j',p,q) st') :
  wpS (model prog w) A E s (vU x y o i j mg) Q st:=by
 have ux:Up rk x 0 x.size:=sx.up 0 _ (bb6 _)
 have uy:Up rk y 0 y.size:=sy.up 0 _ (bb6 _)
 unfold vU
 refine bk1 (I:=fun t c st'=>Gq st0 st'/\∃ o i' j' p q,c=(none,o,i',j',p,q)/\MI rk x.toList y.toList o.toList i' j'/\i'+1 < x.size/\j' < y.size/\i+j+t<=i'+j') ?_ ?_ ⟨g,o,i,j,0,0,rfl,m,hi,hj,by omega⟩
 ·rintro t c2 st2 _ ht ⟨q2,o,i',j',p,q,rfl,m,hi,hj,pr2⟩
  dsimp only
  have hi':i' < x.size:=by omega
  refine bc8 (cT hj (bc8 (cT hi' (bc8 (c _ _ (oy _ (bh1 hj)) (ox _ (bh1 hi')) st2 _ (q2.kd.trans hk) ?_)))))
  by_cases hc:rk y[j'] < rk x[i']
  ·rw [bc9 hc]
   dsimp only
   rw [if_pos rfl]
   have m':=m.y1 hj fun t ht=>by
    have:=ux i' (i'+t) (by omega) (by omega) ht
    rw [c9 hi'] at this
    omega
   refine bc8 (cT hj ?_)
   by_cases he:(j'+1 == y.size)=true
   ·rw [if_pos he]
    have he:j'+1=y.size:=by simpa using he
    exact bd2 (h1 _ _ _ _ _ _ _ q2 (m'.done (.inr (by omega))))
   ·rw [if_neg he]
    have he:j'+1 ≠ y.size:=by simpa using he
    split
    ·exact bd2 (h2 _ _ _ _ _ _ q2 m' hi (by omega) (by omega))
    ·exact bd2 ⟨q2,_,_,_,_,_,rfl,m',hi,by omega,by omega⟩
  ·rw [bb7 hc]
   dsimp only
   rw [if_neg bd4]
   have m':=m.x1 hi' fun t ht=>by
    have:=uy j' (j'+t) (by omega) (by omega) ht
    rw [c9 hj] at this
    omega
   refine bc8 (cT hi' ?_)
   by_cases he:(i'+1+1 == x.size)=true
   ·rw [if_pos he]
    exact bd2 (h1 _ _ _ _ _ _ _ q2 (m'.last x0 hl (by simpa using he)))
   ·rw [if_neg he]
    have he:i'+1+1 ≠ x.size:=by simpa using he
    split
    ·exact bd2 (h2 _ _ _ _ _ _ q2 m' (by omega) hj (by omega))
    ·exact bd2 ⟨q2,_,_,_,_,_,rfl,m',by omega,hj,by omega⟩
 ·rintro c2 st2 ⟨q2,o,i',j',p,q,rfl,m,hi,hj,pr2⟩
  exact h2 _ _ _ _ _ _ q2 m hi hj (by omega)
theorem aA9 (c:cJ prog w A E s κ Ok rk) (hk:kindOf st=κ) {x y:Array Keyed}{Q:Array Keyed->SortSt->Prop} (ox:bJ Ok x) (oy:bJ Ok y) (sx:Sd rk x.toList) (sy:Sd rk y.toList) (x0:0 < x.size) (y0:0 < y.size)
  (hf:∀ t ∈ x.toList,rk y[0]<=rk t) (hl:∀ u ∈ y.toList,rk u<=rk x[x.size - 1])
  (h:∀ r st',Gq st st'->dW rk x y r->Q r st'):wpS (model prog w) A E s (vR x y) Q st:=by
 rw [aA6]
 refine bc8 (wpS_lift (bn7 ⟨rfl,bc8 (cT y0 ?_)⟩))
 have m0:MI rk x.toList y.toList (#[y[0]]:Array Keyed).toList 0 1:=by
  have mm:MI rk x.toList y.toList [] 0 0:=⟨by simp,sx,sy⟩
  have:=mm.ofy 1 fun u hu t ht=>?_
  ·rw [<- kN y0] at this; exact this
  ·rw [<- kN y0,bc1] at hu
   subst hu
   exact hf t ht
 by_cases e1:(1 == y.size)=true
 ·rw [if_pos e1]
  have e1:1=y.size:=by simpa using e1
  exact bd2 (h _ st (Gq.refl st) (m0.done (.inr (by omega))))
 ·rw [if_neg e1]
  have e1:1 ≠ y.size:=by simpa using e1
  by_cases e2:(0+1 == x.size)=true
  ·rw [if_pos e2]
   exact bd2 (h _ st (Gq.refl st) (m0.last x0 hl (by simpa using e2)))
  ·rw [if_neg e2]
   have e2:0+1 ≠ x.size:=by simpa using e2
   refine bc8 (wpS_get ?_)
   unfold M3
   refine bc8 (bq8 (bk1
    (I:=fun n c st'=>Gq st st'/\∃ o i j mg,c=(none,o,i,j,mg)/\MI rk x.toList y.toList o.toList i j/\i+1 < x.size/\j < y.size/\n+1<=i+j)
    (Q:=fun c st'=>Gq st st'/\∃ r o i j mg,c=(some r,o,i,j,mg)/\dW rk x y r) ?_ ?_ ⟨Gq.refl st,_,0,1,_,rfl,m0,by omega,by omega,by omega⟩) ?_)
   ·rintro n c1 st1 _ hn ⟨q1,o,i,j,mg,rfl,m,hi,hj,pr⟩
    dsimp only
    refine bc8 (aA8 c hk ox oy sx sy x0 hl q1 m hi hj (fun r o' i' j' p q st' g md=>bd2 ⟨g,r,_,_,_,_,rfl,md⟩) fun o' i' j' p q st' g m' hi' hj' pr'=>?_)
    refine bc8 (wpS_lift (bn7 ⟨rfl,?_⟩))
    refine bc8 (bq8 (aA7 c hk ox oy sx sy x0 hl g m' hi' hj' pr') ?_)
    rintro c3 st3 ⟨q3,⟨r,o,i3,j3,mg,p,q,rfl,md⟩ | ⟨o,i3,j3,mg,p,q,rfl,m,hi,hj,pr3⟩⟩
    ·exact bd2 ⟨q3,r,_,_,_,_,rfl,md⟩
    ·exact bc8 (qT q3 fun st4 q4=>bd2 ⟨q4,o,i3,j3,_,rfl,m,hi,hj,by omega⟩)
   ·rintro c1 st1 ⟨q1,o,i,j,mg,rfl,m,hi,hj,pr⟩
    exact absurd pr (by omega)
   ·rintro c1 st1 ⟨q1,r,o,i,j,mg,rfl,md⟩
    exact bd2 (h r _ q1 md)
end
def vV:Array Keyed->Array Keyed->StateT SortSt Sem (Array Keyed):=sortPriv% PySem.Builtin.mergeHi
abbrev LH:=Option (Array Keyed) × Nat × Nat × Array Keyed × Nat × Nat × Nat
abbrev vW:=Option (Array Keyed) × Nat × Nat × Array Keyed × Nat × Nat
abbrev LP:=Option (Array Keyed) × Nat × Nat × Array Keyed × Nat
def qU (x y o:Array Keyed) (i j mg p q:Nat):StateT SortSt Sem (ForInStep LH):=do
 let v <- elem' x (i - 1)
 if (i - 1 == 0)=true then pure (.done (some (x.extract 0 (i - 1) ++ y.extract 0 j ++ (o.push v).reverse),i - 1,j,o.push v,mg,p,q))
 else if (decide (p < 7) && decide (q < 7))=true then pure (.done (none,i - 1,j,o.push v,mg,p,q)) else pure (.yield (none,i - 1,j,o.push v,mg,p,q))
def qV (x y o:Array Keyed) (i j mg p q:Nat):StateT SortSt Sem (ForInStep LH):=do
 let v <- elem' y (j - 1)
 if (j - 1 == 1)=true then pure (.done (some (y.extract 0 (j - 1) ++ x.extract 0 i ++ (o.push v).reverse),i,j - 1,o.push v,mg,p,q)) else do
  let u <- elem' x (i - 1)
  match <- jV true u y 0 (j - 1) (j - 1 - 1) with
  | some z=>
   if j - 1 - z > 0 then
    if (z == 1)=true then pure (.done (some (y.extract 0 z ++ x.extract 0 i ++ (o.push v ++ (y.extract z (j - 1)).reverse).reverse),i,z,o.push v ++ (y.extract z (j - 1)).reverse,mg,p,j - 1 - z))
    else if (z == 0)=true then pure (.done (some (x.extract 0 i ++ y.extract 0 z ++ (o.push v ++ (y.extract z (j - 1)).reverse).reverse),i,z,o.push v ++ (y.extract z (j - 1)).reverse,mg,p,j - 1 - z))
    else qU x y (o.push v ++ (y.extract z (j - 1)).reverse) i z mg p (j - 1 - z)
   else qU x y (o.push v) i (j - 1) mg p (j - 1 - z)
  | _=>pure (.done (some (x.extract 0 i ++ y.extract 0 (j - 1) ++ (o.push v).reverse),i,j - 1,o.push v,mg,p,q))
def qW (x y o:Array Keyed) (i j mg p q:Nat):StateT SortSt Sem (ForInStep LH):=do
 lR mg
 let v <- elem' y (j - 1)
 match <- jV false v x 0 i (i - 1) with
 | some z=>
  if i - z > 0 then
   if (z == 0)=true then pure (.done (some (x.extract 0 z ++ y.extract 0 j ++ (o ++ (x.extract z i).reverse).reverse),z,j,o ++ (x.extract z i).reverse,mg,i - z,q))
   else qV x y (o ++ (x.extract z i).reverse) z j mg (i - z) q
  else qV x y o i j mg (i - z) q
 | _=>pure (.done (some (x.extract 0 i ++ y.extract 0 j ++ o.reverse),i,j,o,mg,p,q))
def gK (x y o:Array Keyed) (i j mg p q:Nat):StateT SortSt Sem LH:=forIn [0:x.size+y.size] ((none,i,j,o,mg,p,q):LH) fun _ r=>
 if r.2.2.2.2.1 > 1 then qW x y r.2.2.2.1 r.2.1 r.2.2.1 (r.2.2.2.2.1 - 1) r.2.2.2.2.2.1 r.2.2.2.2.2.2 else qW x y r.2.2.2.1 r.2.1 r.2.2.1 r.2.2.2.2.1 r.2.2.2.2.2.1 r.2.2.2.2.2.2
def vX (x y o:Array Keyed) (i j mg:Nat):StateT SortSt Sem vW:=forIn [0:x.size+y.size] ((none,i,j,o,0,0):vW) fun _ r=>do
 let v <- elem' y (r.2.2.1 - 1)
 let u <- elem' x (r.2.1 - 1)
 match <- lt' v u with
 | some q=>
  if q=true then do
   let u <- elem' x (r.2.1 - 1)
   if (r.2.1 - 1 == 0)=true then pure (.done (some (x.extract 0 (r.2.1 - 1) ++ y.extract 0 r.2.2.1 ++ (r.2.2.2.1.push u).reverse),r.2.1 - 1,r.2.2.1,r.2.2.2.1.push u,r.2.2.2.2.1+1,0))
   else if r.2.2.2.2.1+1 >= mg then pure (.done (none,r.2.1 - 1,r.2.2.1,r.2.2.2.1.push u,r.2.2.2.2.1+1,0)) else pure (.yield (none,r.2.1 - 1,r.2.2.1,r.2.2.2.1.push u,r.2.2.2.2.1+1,0))
  else do
   let v <- elem' y (r.2.2.1 - 1)
   if (r.2.2.1 - 1 == 1)=true then pure (.done (some (y.extract 0 (r.2.2.1 - 1) ++ x.extract 0 r.2.1 ++ (r.2.2.2.1.push v).reverse),r.2.1,r.2.2.1 - 1,r.2.2.2.1.push v,0,r.2.2.2.2.2+1))
   else if r.2.2.2.2.2+1 >= mg then pure (.done (none,r.2.1,r.2.2.1 - 1,r.2.2.2.1.push v,0,r.2.2.2.2.2+1)) else pure (.yield (none,r.2.1,r.2.2.1 - 1,r.2.2.2.1.push v,0,r.2.2.2.2.2+1))
 | _=>pure (.done (some (x.extract 0 r.2.1 ++ y.extract 0 r.2.2.1 ++ r.2.2.2.1.reverse),r.2.1,r.2.2.1,r.2.2.2.1,r.2.2.2.2.1,r.2.2.2.2.2))
def M9 (x y o:Array Keyed) (i j mg:Nat):StateT SortSt Sem LP:=forIn [0:x.size+y.size] ((none,i,j,o,mg):LP) fun _ r=>do
 let u <- vX x y r.2.2.2.1 r.2.1 r.2.2.1 r.2.2.2.2
 match u.1 with
 | some z=>pure (.done (some z,u.2.1,u.2.2.1,u.2.2.2.1,r.2.2.2.2))
 | none=>do
  liftM (rule "list.sort.gallop")
  let v <- gK x y u.2.2.2.1 u.2.1 u.2.2.1 (r.2.2.2.2+1) u.2.2.2.2.1 u.2.2.2.2.2
  match v.1 with
  | some z=>pure (.done (some z,v.2.1,v.2.2.1,v.2.2.2.1,v.2.2.2.2.1))
  | none=>do
   lR (v.2.2.2.2.1+1)
   pure (.yield (none,v.2.1,v.2.2.1,v.2.2.2.1,v.2.2.2.2.1+1))
theorem aB0 (x y:Array Keyed):vV x y=(do
 liftM (rule "list.sort.merge-hi")
 let v <- elem' x (x.size - 1)
 if (x.size - 1 == 0)=true then pure (x.extract 0 (x.size - 1) ++ y.extract 0 y.size ++ (#[v]:Array Keyed).reverse)
 else if (y.size == 1)=true then pure (y.extract 0 y.size ++ x.extract 0 (x.size - 1) ++ (#[v]:Array Keyed).reverse)
 else do
  let z <- get
  let r <- M9 x y #[v] (x.size - 1) y.size (gallopOf z)
  match r.1 with
  | some z=>pure z
  | none=>unsupported "internal:list.sort.merge-bound"):=by kernel_rfl
structure MH (rk:Keyed->Int) (xs ys o:List Keyed) (i j:Nat):Prop where
 pm:o.Perm (xs.drop i ++ ys.drop j)
 sx:Sd rk (xs.take i ++ o)
 sy:Sd rk (ys.take j ++ o)
variable {rk : Keyed → Int} {xs ys o : List Keyed} {i j : Nat}
theorem Sd.insR {o a b d:List Keyed} (h1:Sd rk (a ++ o)) (h2:Sd rk ((d ++ b) ++ o)) (h:∀ t ∈ a,∀ u ∈ b,rk t<=rk u):Sd rk (a ++ (b ++ o)):=by
 unfold Sd at *
 obtain ⟨p1,p2,p3⟩:=bf9.mp h1
 obtain ⟨q1,q2,q3⟩:=bf9.mp h2
 obtain ⟨r1,r2,r3⟩:=bf9.mp q1
 refine bf9.mpr ⟨p1,bf9.mpr ⟨r2,p2,fun u hu t ht=>q3 u (bf7 _ hu) t ht⟩,fun u hu t ht=>?_⟩
 rcases be1.mp ht with z | z
 ·exact h u hu t z
 ·exact p3 u hu t z
theorem qX (l:List Keyed) {z j:Nat} (h:z<=j):l.take z ++ (l.take j).drop z=l.take j:=by
 have e:l.take z=(l.take j).take z:=by rw [List.take_take,Nat.min_eq_left h]
 rw [e]; exact be9 z _
theorem vY (l:List Keyed) {z j:Nat} (h:z<=j):(l.take j).drop z ++ l.drop j=l.drop z:=by
 rw [br5,show l.drop j=(l.drop z).drop (j - z) by rw [List.drop_drop,Nat.add_sub_cancel' h]]
 exact be9 _ _
theorem MH.ofy (m:MH rk xs ys o i j) {z:Nat} (hz:z<=j) (h:∀ t ∈ xs.take i,∀ u ∈ (ys.take j).drop z,rk t<=rk u):MH rk xs ys ((ys.take j).drop z ++ o) i z:=by
 refine⟨?_,Sd.insR m.sx (d:=ys.take z) (by rw [qX _ hz]; exact m.sy) h,by rw [<- bd6,qX _ hz]; exact m.sy⟩
 rw [<- vY ys hz]
 refine (m.pm.append_left _).trans ?_
 rw [<- bd6,<- bd6]
 exact (List.perm_append_comm).append_right _
theorem MH.ofx (m:MH rk xs ys o i j) {z:Nat} (hz:z<=i) (h:∀ t ∈ ys.take j,∀ u ∈ (xs.take i).drop z,rk t<=rk u):MH rk xs ys ((xs.take i).drop z ++ o) z j:=by
 refine⟨?_,by rw [<- bd6,qX _ hz]; exact m.sx,Sd.insR m.sy (d:=xs.take z) (by rw [qX _ hz]; exact m.sx) h⟩
 rw [<- vY xs hz,bd6]
 exact m.pm.append_left _
theorem MH.fin (m:MH rk xs ys o i j) (h:i=0 ∨ j=0):(xs.take i ++ ys.take j ++ o).Perm (xs ++ ys)/\Sd rk (xs.take i ++ ys.take j ++ o):=by
 refine⟨?_,?_⟩
 ·have e1:xs=xs.take i ++ xs.drop i:=(be9 i xs).symm
  have e2:ys=ys.take j ++ ys.drop j:=(be9 j ys).symm
  conv=>rhs; rw [e1,e2]
  rw [bd6,bd6]
  refine List.Perm.append_left _ ((m.pm.append_left _).trans ?_)
  rw [<- bd6,<- bd6]
  exact (List.perm_append_comm).append_right _
 ·rcases h with h | h
  ·subst h; simpa using m.sy
  ·subst h; simpa using m.sx
theorem MH.fst (m:MH rk xs ys o i j) (h:∀ t ∈ ys.take j,∀ u ∈ xs,rk t<=rk u):(ys.take j ++ xs.take i ++ o).Perm (xs ++ ys)/\Sd rk (ys.take j ++ xs.take i ++ o):=by
 have m2:=m.ofx (bf1 i) fun t ht u hu=>h t ht u (List.mem_of_mem_take (List.mem_of_mem_drop hu))
 have f:=m2.fin (.inl rfl)
 simpa using f
theorem nW {x:Array Keyed}{i:Nat}{u:Keyed} (h:u ∈ x.toList.take i):∃ t,t < i/\t < x.size/\rk u=Kr rk x t:=by
 obtain ⟨t,ht,e⟩:=bj2 h
 have h1:t < i/\t < x.size:=by simp at ht; omega
 refine⟨t,h1.1,h1.2,?_⟩
 rw [c9 h1.2,<- e]
 simp
theorem nX {x:Array Keyed}{z i:Nat}{u:Keyed} (h:u ∈ (x.toList.take i).drop z):∃ t,z<=t/\t < i/\t < x.size/\rk u=Kr rk x t:=by
 obtain ⟨t,ht,e⟩:=bj2 h
 have h1:z+t < i/\z+t < x.size:=by simp at ht; omega
 refine⟨z+t,by omega,h1.1,h1.2,?_⟩
 rw [c9 h1.2,<- e]
 simp
theorem kO (x:Array Keyed) (z i:Nat):(x.extract z i).toList=(x.toList.take i).drop z:=by
 rw [br5]; simp [List.extract]
theorem qY (x:Array Keyed) (i:Nat):(x.extract 0 i).toList=x.toList.take i:=by
 simp [List.extract]
theorem nY {x:Array Keyed}{i:Nat} (h:i < x.size) : [x[i]]=(x.toList.take (i+1)).drop i:=by
 rw [br5,kN h,show i+1 - i=1 by omega]
section
variable {κ : SortKind} {st : SortSt} {prog : Program} {w : World} {A : Around} {E : Value → Shared → Prop} {s : Shared} {Ok : Keyed → Prop}
theorem MH.y1 {x y o:Array Keyed} (m:MH rk x.toList y.toList o.toList.reverse i (j+1)) (hj:j < y.size) (h:∀ t,t < i->t < x.size->Kr rk x t<=rk y[j]):MH rk x.toList y.toList (o.push y[j]).toList.reverse i j:=by
 have:=m.ofy (bq7 j) fun t ht u hu=>?_
 ·rw [<- nY hj] at this; simpa using this
 ·rw [<- nY hj,bc1] at hu
  subst hu
  obtain ⟨q,q1,q2,q3⟩:=nW (rk:=rk) ht
  rw [q3]; exact h q q1 q2
theorem MH.x1 {x y o:Array Keyed} (m:MH rk x.toList y.toList o.toList.reverse (i+1) j) (hi:i < x.size) (h:∀ t,t < j->t < y.size->Kr rk y t<=rk x[i]):MH rk x.toList y.toList (o.push x[i]).toList.reverse i j:=by
 have:=m.ofx (bq7 i) fun t ht u hu=>?_
 ·rw [<- nY hi] at this; simpa using this
 ·rw [<- nY hi,bc1] at hu
  subst hu
  obtain ⟨q,q1,q2,q3⟩:=nW (rk:=rk) ht
  rw [q3]; exact h q q1 q2
theorem MH.yk {x y o:Array Keyed} (m:MH rk x.toList y.toList o.toList.reverse i j) {z:Nat} (hz:z<=j) (h:∀ t p,t < i->t < x.size->z<=p->p < j->p < y.size->Kr rk x t<=Kr rk y p):MH rk x.toList y.toList (o ++ (y.extract z j).reverse).toList.reverse i z:=by
 have:=m.ofy hz fun t ht u hu=>?_
 ·rw [<- kO] at this; simpa using this
 ·obtain ⟨q,q1,q2,q3⟩:=nW (rk:=rk) ht
  obtain ⟨p,p1,p2,p3,p4⟩:=nX (rk:=rk) hu
  rw [q3,p4]; exact h q p q1 q2 p1 p2 p3
theorem MH.xk {x y o:Array Keyed} (m:MH rk x.toList y.toList o.toList.reverse i j) {z:Nat} (hz:z<=i) (h:∀ t p,t < j->t < y.size->z<=p->p < i->p < x.size->Kr rk y t<=Kr rk x p):MH rk x.toList y.toList (o ++ (x.extract z i).reverse).toList.reverse z j:=by
 have:=m.ofx hz fun t ht u hu=>?_
 ·rw [<- kO] at this; simpa using this
 ·obtain ⟨q,q1,q2,q3⟩:=nW (rk:=rk) ht
  obtain ⟨p,p1,p2,p3,p4⟩:=nX (rk:=rk) hu
  rw [q3,p4]; exact h q p q1 q2 p1 p2 p3
theorem MH.done {x y o:Array Keyed} (m:MH rk x.toList y.toList o.toList.reverse i j) (hh:i=0 ∨ j=0):dW rk x y (x.extract 0 i ++ y.extract 0 j ++ o.reverse):=by
 unfold dW
 rw [bj3,bj3,qY,qY,Array.toList_reverse]
 exact m.fin hh
theorem MH.frst {x y o:Array Keyed} (m:MH rk x.toList y.toList o.toList.reverse i j) (y0:0 < y.size) (hf:∀ t ∈ x.toList,rk y[0]<=rk t) (hh:j=1):dW rk x y (y.extract 0 j ++ x.extract 0 i ++ o.reverse):=by
 unfold dW
 rw [bj3,bj3,qY,qY,Array.toList_reverse]
 refine m.fst fun t ht u hu=>?_
 subst hh
 obtain ⟨q,q1,q2,q3⟩:=nW (rk:=rk) ht
 have e:q=0:=by omega
 subst e
 rw [q3,c9 y0]
 exact hf u hu
structure HB (rk:Keyed->Int) (x y:Array Keyed) (lb i j:Nat) (o:Array Keyed):Prop where
 m:MH rk x.toList y.toList o.toList.reverse i j
 i0:0 < i
 i1:i < x.size
 j0:1 < j
 j1:j<=y.size
 pr:i+j+lb<=x.size+y.size
def HI (rk:Keyed->Int) (x y:Array Keyed) (lb:Nat) (st:SortSt) (c:LH) (st':SortSt):Prop:=Gq st st'/\∃ i j o mg p q,c=(none,i,j,o,mg,p,q)/\HB rk x y lb i j o
def HQ (rk:Keyed->Int) (x y:Array Keyed) (lb:Nat) (st:SortSt) (c:LH) (st':SortSt):Prop:=Gq st st'/\((∃ r i j o mg p q,c=(some r,i,j,o,mg,p,q)/\dW rk x y r) ∨ ∃ i j o mg p q,c=(none,i,j,o,mg,p,q)/\HB rk x y lb i j o)
def HR (rk:Keyed->Int) (x y:Array Keyed) (lb:Nat) (st:SortSt) (r:ForInStep LH) (st':SortSt):Prop:=match r with | .done c=>HQ rk x y lb st c st' | .yield c=>HI rk x y lb st c st'
theorem N0 {st0:SortSt}{x y o:Array Keyed}{i j mg p q lb:Nat} (g:Gq st0 st) (b:HB rk x y lb (i+1) j o) (hm:∀ (hi:i < x.size) t,t < j->t < y.size->Kr rk y t<=rk x[i]):wpS (model prog w) A E s (qU x y o (i+1) j mg p q) (HR rk x y lb st0) st:=by
 unfold qU
 obtain ⟨m,i0,i1,j0,j1,pr⟩:=b
 have hi':i < x.size:=by omega
 have m':=m.x1 hi' (hm hi')
 simp only [Nat.add_sub_cancel]
 refine bc8 (cT hi' ?_)
 by_cases he:(i == 0)=true
 ·rw [if_pos he]
  have he:i=0:=by simpa using he
  exact bd2 ⟨g,.inl ⟨_,_,_,_,_,_,_,rfl,m'.done (.inl he)⟩⟩
 ·rw [if_neg he]
  have he:i ≠ 0:=by simpa using he
  split
  ·exact bd2 ⟨g,.inr ⟨_,_,_,_,_,_,rfl,m',by omega,by omega,j0,j1,by omega⟩⟩
  ·exact bd2 ⟨g,_,_,_,_,_,_,rfl,m',by omega,by omega,j0,j1,by omega⟩
theorem N1 (c:cJ prog w A E s κ Ok rk) {st0:SortSt} (hk:kindOf st0=κ) {x y o:Array Keyed}{i j mg p q lb:Nat} (ox:bJ Ok x) (oy:bJ Ok y) (sx:Sd rk x.toList) (sy:Sd rk y.toList) (y0:0 < y.size) (hf:∀ t ∈ x.toList,rk y[0]<=rk t) (g:Gq st0 st) (b:HB rk x y lb (i+1) (j+1) o)
  (hm:∀ (hj:j < y.size) t,t < i+1->t < x.size->Kr rk x t<=rk y[j]):wpS (model prog w) A E s (qV x y o (i+1) (j+1) mg p q) (HR rk x y lb st0) st:=by
 unfold qV
 obtain ⟨m,i0,i1,j0,j1,pr⟩:=b
 have hi':i < x.size:=by omega
 have hj:j < y.size:=by omega
 have m':=m.y1 hj (hm hj)
 simp only [Nat.add_sub_cancel]
 refine bc8 (cT hj ?_)
 by_cases he:(j == 1)=true
 ·rw [if_pos he]
  have he:j=1:=by simpa using he
  exact bd2 ⟨g,.inl ⟨_,_,_,_,_,_,_,rfl,m'.frst y0 hf he⟩⟩
 ·rw [if_neg he]
  have he:j ≠ 1:=by simpa using he
  refine bc8 (cT hi' (bc8 (lQ c (g.kd.trans hk) (ox _ (bh1 hi')) oy (by omega) (by omega) (sy.up _ _ (by omega)) fun z k1 k2 k3=>?_)))
  dsimp only
  have ux:=sx.up 0 _ (bb6 x.size)
  have mk:=m'.yk k1 fun t p ht ht' hp hp' _=>by
   have a1:=k3 p hp hp'
   rw [lU,bm5,Nat.zero_add] at a1
   have a2:=ux t i (by omega) (by omega) hi'
   rw [c9 (i:=i) hi'] at a2
   omega
  have km:∀ (hi:i < x.size) t,t < z->t < y.size->Kr rk y t<=rk x[i]:=fun _ t ht _=>by
   have a1:=k2 t ht
   rw [lU,bf5,Nat.zero_add] at a1
   omega
  by_cases hk0:j - z > 0
  ·rw [if_pos hk0]
   by_cases h1:(z == 1)=true
   ·rw [if_pos h1]
    have h1:z=1:=by simpa using h1
    exact bd2 ⟨g,.inl ⟨_,_,_,_,_,_,_,rfl,mk.frst y0 hf h1⟩⟩
   ·rw [if_neg h1]
    have h1:z ≠ 1:=by simpa using h1
    by_cases h0:(z == 0)=true
    ·rw [if_pos h0]
     have h0:z=0:=by simpa using h0
     exact bd2 ⟨g,.inl ⟨_,_,_,_,_,_,_,rfl,mk.done (.inr h0)⟩⟩
    ·rw [if_neg h0]
     have h0:z ≠ 0:=by simpa using h0
     exact N0 g ⟨mk,by omega,i1,by omega,by omega,by omega⟩ km
  ·rw [if_neg hk0]
   have e0:z=j:=by omega
   subst e0
   exact N0 g ⟨m',by omega,i1,by omega,by omega,by omega⟩ km
theorem N3 (c:cJ prog w A E s κ Ok rk) {st0:SortSt} (hk:kindOf st0=κ) {x y o:Array Keyed}{i j mg p q lb:Nat} (ox:bJ Ok x) (oy:bJ Ok y) (sx:Sd rk x.toList) (sy:Sd rk y.toList) (y0:0 < y.size) (hf:∀ t ∈ x.toList,rk y[0]<=rk t) (g:Gq st0 st) (b:HB rk x y lb i (j+1) o) :
  wpS (model prog w) A E s (qW x y o i (j+1) mg p q) (HR rk x y lb st0) st:=by
 unfold qW
 obtain ⟨m,i0,i1,j0,j1,pr⟩:=b
 have hj:j < y.size:=by omega
 simp only [Nat.add_sub_cancel]
 refine bc8 (qT g fun st4 q4=>bc8 (cT hj (bc8 (lQ c (q4.kd.trans hk) (oy _ (bh1 hj)) ox (by omega) (by omega) (sx.up _ _ (by omega)) fun z k1 k2 k3=>?_))))
 dsimp only
 have uy:=sy.up 0 _ (bb6 y.size)
 have mk:=m.xk k1 fun t p ht ht' hp hp' _=>by
  have a1:=k3 p hp hp'
  rw [lT,bm5,Nat.zero_add] at a1
  have a2:=uy t j (by omega) (by omega) hj
  rw [c9 (i:=j) hj] at a2
  omega
 have km:∀ (hj:j < y.size) t,t < z->t < x.size->Kr rk x t<=rk y[j]:=fun _ t ht _=>by
  have a1:=k2 t ht
  rw [lT,bf5,Nat.zero_add] at a1
  exact a1
 by_cases hk0:i - z > 0
 ·rw [if_pos hk0]
  by_cases he:(z == 0)=true
  ·rw [if_pos he]
   exact bd2 ⟨q4,.inl ⟨_,_,_,_,_,_,_,rfl,mk.done (.inl (by simpa using he))⟩⟩
  ·rw [if_neg he]
   have he:z ≠ 0:=by simpa using he
   obtain ⟨z2,rfl⟩:∃ z2,z=z2+1:=⟨z - 1,by omega⟩
   exact N1 c hk ox oy sx sy y0 hf q4 ⟨mk,by omega,by omega,j0,j1,by omega⟩ km
 ·rw [if_neg hk0]
  have e0:z=i:=by omega
  subst e0
  obtain ⟨z2,rfl⟩:∃ z2,z=z2+1:=⟨z - 1,by omega⟩
  exact N1 c hk ox oy sx sy y0 hf q4 ⟨m,i0,i1,j0,j1,pr⟩ km
theorem aB1 (c:cJ prog w A E s κ Ok rk) {st0:SortSt} (hk:kindOf st0=κ) {x y o:Array Keyed}{i j mg p q lb:Nat} (ox:bJ Ok x) (oy:bJ Ok y) (sx:Sd rk x.toList) (sy:Sd rk y.toList) (y0:0 < y.size) (hf:∀ t ∈ x.toList,rk y[0]<=rk t) (g:Gq st0 st) (b:HB rk x y lb i j o) :
  wpS (model prog w) A E s (gK x y o i j mg p q) (HQ rk x y lb st0) st:=by
 unfold gK
 refine bk1 (I:=fun _=>HI rk x y lb st0) ?_ ?_ ⟨g,i,j,o,_,p,q,rfl,b⟩
 ·rintro t c3 st3 _ _ ⟨q3,i,j,o,mg,p,q,rfl,b3⟩
  obtain ⟨j3,rfl⟩:∃ j3,j=j3+1:=⟨j - 1,by have:=b3.j0; omega⟩
  dsimp only
  split
  ·exact bq8 (N3 c hk ox oy sx sy y0 hf q3 b3) fun r _ hr=>by cases r <;> exact hr
  ·exact bq8 (N3 c hk ox oy sx sy y0 hf q3 b3) fun r _ hr=>by cases r <;> exact hr
 ·rintro c3 st3 ⟨q3,i,j,o,mg,p,q,rfl,b3⟩
  exact⟨q3,.inr ⟨_,_,_,_,_,_,rfl,b3⟩⟩
theorem aB2 (c:cJ prog w A E s κ Ok rk) {st0:SortSt} (hk:kindOf st0=κ) {x y o:Array Keyed}{i j mg n:Nat}{Q:vW->SortSt->Prop} (ox:bJ Ok x) (oy:bJ Ok y) (sx:Sd rk x.toList) (sy:Sd rk y.toList) (y0:0 < y.size) (hf:∀ t ∈ x.toList,rk y[0]<=rk t) (g:Gq st0 st) (b:HB rk x y n i j o)
  (h1:∀ r i' j' o' p q st',Gq st0 st'->dW rk x y r->Q (some r,i',j',o',p,q) st') (h2:∀ i' j' o' p q st',Gq st0 st'->HB rk x y (n+1) i' j' o'->Q (none,i',j',o',p,q) st') :
  wpS (model prog w) A E s (vX x y o i j mg) Q st:=by
 have ux:Up rk x 0 x.size:=sx.up 0 _ (bb6 _)
 have uy:Up rk y 0 y.size:=sy.up 0 _ (bb6 _)
 unfold vX
 refine bk1 (I:=fun t c st'=>Gq st0 st'/\∃ i j o p q,c=(none,i,j,o,p,q)/\HB rk x y (n+t) i j o) ?_ ?_ ⟨g,i,j,o,0,0,rfl,b⟩
 ·rintro t c2 st2 _ ht ⟨q2,i',j',o,p,q,rfl,m,i0,i1,j0,j1,pr⟩
  obtain ⟨i2,rfl⟩:∃ i2,i'=i2+1:=⟨i' - 1,by omega⟩
  obtain ⟨j2,rfl⟩:∃ j2,j'=j2+1:=⟨j' - 1,by omega⟩
  simp only [Nat.add_sub_cancel]
  have hi:i2 < x.size:=by omega
  have hj:j2 < y.size:=by omega
  refine bc8 (cT hj (bc8 (cT hi (bc8 (c _ _ (oy _ (bh1 hj)) (ox _ (bh1 hi)) st2 _ (q2.kd.trans hk) ?_)))))
  by_cases hc:rk y[j2] < rk x[i2]
  ·rw [bc9 hc]
   dsimp only
   rw [if_pos rfl]
   have m':=m.x1 hi fun t ht _=>by
    have:=uy t j2 (by omega) (by omega) hj
    rw [c9 hj] at this
    omega
   refine bc8 (cT hi ?_)
   by_cases he:(i2 == 0)=true
   ·rw [if_pos he]
    exact bd2 (h1 _ _ _ _ _ _ _ q2 (m'.done (.inl (by simpa using he))))
   ·rw [if_neg he]
    have he:i2 ≠ 0:=by simpa using he
    split
    ·exact bd2 (h2 _ _ _ _ _ _ q2 ⟨m',by omega,by omega,j0,j1,by omega⟩)
    ·exact bd2 ⟨q2,_,_,_,_,_,rfl,m',by omega,by omega,j0,j1,by omega⟩
  ·rw [bb7 hc]
   dsimp only
   rw [if_neg bd4]
   have m':=m.y1 hj fun t ht _=>by
    have:=ux t i2 (by omega) (by omega) hi
    rw [c9 hi] at this
    omega
   refine bc8 (cT hj ?_)
   by_cases he:(j2 == 1)=true
   ·rw [if_pos he]
    exact bd2 (h1 _ _ _ _ _ _ _ q2 (m'.frst y0 hf (by simpa using he)))
   ·rw [if_neg he]
    have he:j2 ≠ 1:=by simpa using he
    split
    ·exact bd2 (h2 _ _ _ _ _ _ q2 ⟨m',i0,i1,by omega,by omega,by omega⟩)
    ·exact bd2 ⟨q2,_,_,_,_,_,rfl,m',i0,i1,by omega,by omega,by omega⟩
 ·rintro c2 st2 ⟨q2,i',j',o,p,q,rfl,m,i0,i1,j0,j1,pr⟩
  exact h2 _ _ _ _ _ _ q2 ⟨m,i0,i1,j0,j1,by omega⟩
theorem aB3 (c:cJ prog w A E s κ Ok rk) (hk:kindOf st=κ) {x y:Array Keyed}{Q:Array Keyed->SortSt->Prop} (ox:bJ Ok x) (oy:bJ Ok y) (sx:Sd rk x.toList) (sy:Sd rk y.toList) (x0:0 < x.size) (y0:0 < y.size)
  (hf:∀ t ∈ x.toList,rk y[0]<=rk t) (hl:∀ u ∈ y.toList,rk u<=rk x[x.size - 1])
  (h:∀ r st',Gq st st'->dW rk x y r->Q r st'):wpS (model prog w) A E s (vV x y) Q st:=by
 rw [aB0]
 refine bc8 (wpS_lift (bn7 ⟨rfl,bc8 (cT (by omega:x.size - 1 < x.size) ?_)⟩))
 have m0:MH rk x.toList y.toList (#[x[x.size - 1]]:Array Keyed).toList.reverse (x.size - 1) y.size:=by
  have mm:MH rk x.toList y.toList [] x.size y.size:=⟨by simp,by rw [bh8 (by simp),bf8]; exact sx,by rw [bh8 (by simp),bf8]; exact sy⟩
  have e:=nY (x:=x) (i:=x.size - 1) (by omega)
  rw [show x.size - 1+1=x.size by omega] at e
  have:=mm.ofx (Nat.sub_le x.size 1) fun t ht u hu=>?_
  ·rw [<- e] at this; simpa using this
  ·rw [<- e,bc1] at hu
   subst hu
   exact hl t (List.mem_of_mem_take ht)
 by_cases e1:(x.size - 1 == 0)=true
 ·rw [if_pos e1]
  exact bd2 (h _ st (Gq.refl st) (m0.done (.inl (by simpa using e1))))
 ·rw [if_neg e1]
  have e1:x.size - 1 ≠ 0:=by simpa using e1
  by_cases e2:(y.size == 1)=true
  ·rw [if_pos e2]
   exact bd2 (h _ st (Gq.refl st) (m0.frst y0 hf (by simpa using e2)))
  ·rw [if_neg e2]
   have e2:y.size ≠ 1:=by simpa using e2
   refine bc8 (wpS_get ?_)
   unfold M9
   refine bc8 (bq8 (bk1
    (I:=fun n c st'=>Gq st st'/\∃ i j o mg,c=(none,i,j,o,mg)/\HB rk x y (n+1) i j o)
    (Q:=fun c st'=>Gq st st'/\∃ r i j o mg,c=(some r,i,j,o,mg)/\dW rk x y r) ?_ ?_ ⟨Gq.refl st,_,_,_,_,rfl,m0,by omega,by omega,by omega,by omega,by omega⟩) ?_)
   ·rintro n c1 st1 _ hn ⟨q1,i,j,o,mg,rfl,b⟩
    dsimp only
    refine bc8 (aB2 c hk ox oy sx sy y0 hf q1 b (fun r o' i' j' p q st' g md=>bd2 ⟨g,r,_,_,_,_,rfl,md⟩) fun i' j' o' p q st' g b'=>?_)
    refine bc8 (wpS_lift (bn7 ⟨rfl,?_⟩))
    refine bc8 (bq8 (aB1 c hk ox oy sx sy y0 hf g b') ?_)
    rintro c3 st3 ⟨q3,⟨r,i3,j3,o,mg,p,q,rfl,md⟩ | ⟨i3,j3,o,mg,p,q,rfl,b3⟩⟩
    ·exact bd2 ⟨q3,r,_,_,_,_,rfl,md⟩
    ·exact bc8 (qT q3 fun st4 q4=>bd2 ⟨q4,i3,j3,o,_,rfl,b3⟩)
   ·rintro c1 st1 ⟨q1,i,j,o,mg,rfl,b⟩
    have:=b.pr
    exact absurd this (by omega)
   ·rintro c1 st1 ⟨q1,r,i,j,o,mg,rfl,md⟩
    exact bd2 (h r _ q1 md)
end
theorem aB4 (i:Nat):mergeAt' i=(do
 let z <- get
 let (some (sa,na,pw),some (sb,nb,_)):=((pendingOf z)[i]?,(pendingOf z)[i+1]?) | unsupported "internal:list.sort.pending"
 set (SortSt.mk' (kindOf z) (arrOf z) (((pendingOf z).setIfInBounds i (sa,na+nb,pw)).eraseIdxIfInBounds (i+1)) (gallopOf z) (failedOf z))
 let some k <- jV false (<- elem' (arrOf z) sb) (arrOf z) sa na 0 | return false
 let (sa,na):=(sa+k,na - k)
 if na == 0 then return true
 let some nb <- jV true (<- elem' (arrOf z) (sa+na - 1)) (arrOf z) sb nb (nb - 1) | return false
 if nb == 0 then return true
 let x:=(arrOf z).extract sa sb
 let y:=(arrOf z).extract sb (sb+nb)
 let m <- if na<=nb then vR x y else vV x y
 modify fun z=>setArr z (m.toList.zipIdx.foldl (fun a (p,j)=>a.setIfInBounds (sa+j) p) (arrOf z))
 return (failedOf (<- get)).isNone):=rfl
variable {rk : Keyed → Int}
theorem aB5 {σ:Type}{M:Model}{A:Around}{E:Value->Shared->Prop}{s:Shared}{a b:σ}{Q:PUnit->σ->Prop} (h:Q ⟨⟩ a):wpS M A E s (set a:StateT σ Sem PUnit) Q b:=by
 unfold wpS; rw [StateT.run_set]; exact bb3 ⟨rfl,h⟩
theorem N4 (o:Nat):∀ (m:List Keyed) (n:Nat) (a:Array Keyed) (t:Nat),o+n+m.length<=a.size->
  ((m.zipIdx n).foldl (fun a (p,j)=>a.setIfInBounds (o+j) p) a)[t]? = if o+n<=t/\t < o+n+m.length then m[t - (o+n)]? else a[t]?
 | [],n,a,t,_=>by
  show a[t]? = _
  rw [if_neg (fun z=>Nat.not_lt_of_ge z.1 z.2)]
 | p :: m,n,a,t,h=>by
  rw [List.zipIdx_cons,List.foldl_cons]
  have h':o+(n+1)+m.length<=(a.setIfInBounds (o+n) p).size:=by rw [Array.size_setIfInBounds]; simp at h; omega
  have ih:=N4 o m (n+1) (a.setIfInBounds (o+n) p) t h'
  refine ih.trans ?_
  have hs:o+n < a.size:=by simp at h; omega
  rw [Array.getElem?_setIfInBounds]
  by_cases e:o+n=t
  ·subst e
   rw [if_neg (by omega),if_pos rfl,if_pos hs,if_pos (by simp),Nat.sub_self]; rfl
  ·rw [if_neg e]
   by_cases c:o+n<=t/\t < o+n+(p :: m).length
   ·rw [if_pos c,if_pos (by simp at c; omega)]
    rw [show t - (o+n)=(t - (o+(n+1)))+1 by omega]; rfl
   ·rw [if_neg c,if_neg (by simp at c ⊢; omega)]
theorem N5 {a:Array Keyed}{lo hi:Nat} (u:Up rk a lo hi) (hh:hi<=a.size):Sd rk (a.extract lo hi).toList:=by
 unfold Sd
 rw [bf2]
 intro i j hi' hj hij
 have h2:lo+j < hi:=by simp at hj; omega
 have:=u (lo+i) (lo+j) (by omega) (by omega) h2
 rw [c9 (by omega:lo+i < a.size),c9 (by omega:lo+j < a.size)] at this
 simpa using this
theorem N6 {a:Array Keyed}{lo mid hi:Nat} (u:Up rk a lo mid) (v:Up rk a mid hi) (h0:lo < mid) (h1:mid < hi) (h:Kr rk a (mid - 1)<=Kr rk a mid):Up rk a lo hi:=fun i j hi' hij hj=>by
 rcases bh2 j mid with z | z
 ·exact u i j hi' hij z
 ·rcases bh2 i mid with y | y
  ·have a1:=u i (mid - 1) hi' (by omega) (by omega)
   have a2:=v mid j (bb6 _) z hj
   omega
  ·exact v i j y hij hj
theorem N7 {a:Array Keyed}{lo hi t:Nat} (h:t < hi - lo) (hh:hi<=a.size):Kr rk (a.extract lo hi) t=Kr rk a (lo+t):=by
 refine kL ?_
 rw [Array.getElem?_extract_of_lt (by omega)]
 exact (getElem?_pos a (lo+t) (by omega)).symm
section
variable {κ : SortKind} {a0 : Array Keyed} {pd : Array (Nat × Nat × Nat)} {st : SortSt} {prog : Program} {w : World} {A : Around} {E : Value → Shared → Prop} {s : Shared} {Ok : Keyed → Prop}
theorem aB6 {a m:Array Keyed}{p x e:Nat} (hpx:p<=x) (hxe:x<=e) (he:e<=a.size) (md:dW rk (a.extract p x) (a.extract x e) m) :
  let r:=m.toList.zipIdx.foldl (fun a (q,j)=>a.setIfInBounds (p+j) q) a
  r.Perm a/\(∀ t,(t < p ∨ e<=t)->Kr rk r t=Kr rk a t)/\(∀ t t',p<=t->t<=t'->t' < e->Kr rk r t<=Kr rk r t')/\∀ t,p<=t->t < e->∃ t',p<=t'/\t' < e/\Kr rk r t=Kr rk a t':=by
 intro r
 have ml:m.toList.length=e - p:=by
  rw [md.1.length_eq]; simp; omega
 have g:∀ t,r[t]? = if p<=t/\t < e then m[t - p]? else a[t]?:=fun t=>by
  have:=N4 p m.toList 0 a t (by omega)
  rw [show r=(m.toList.zipIdx 0).foldl (fun a (q,j)=>a.setIfInBounds (p+j) q) a from rfl,this]
  simp only [Nat.add_zero,ml,show p+(e - p)=e by omega,bg3]
 have ex:(a.extract p x).toList ++ (a.extract x e).toList=(a.toList.take e).drop p:=by
  rw [kO,kO,br5,br5,br5]
  rw [show x=p+(x - p) by omega,<- List.drop_drop,show p+(x - p) - p=x - p by omega,show e - (p+(x - p))=(e - p) - (x - p) by omega]
  have:=be9 (x - p) ((a.toList.drop p).take (e - p))
  rw [List.take_take,br5,Nat.min_eq_left (by omega)] at this
  exact this
 have rl:r.toList=a.toList.take p ++ (m.toList ++ a.toList.drop e):=by
  apply List.ext_getElem?
  intro t
  rw [bg3,g]
  rcases bh2 t p with z | z
  ·rw [if_neg (by omega),bn3 (by simp; omega),List.getElem?_take_of_lt z,bg3]
  ·rw [bp6 (by simp; omega)]
   have lp:(a.toList.take p).length=p:=by simp; omega
   rw [lp]
   rcases bh2 t e with y | y
   ·rw [if_pos ⟨z,y⟩,bn3 (by omega),bg3]
   ·rw [if_neg (by omega),bp6 (by omega),ml,List.getElem?_drop,bg3]
    congr 1; omega
 have mp:m.toList.Perm ((a.toList.take e).drop p):=ex ▸ md.1
 refine⟨?_,fun t ht=>kL (by rw [g,if_neg (by omega)]),fun t t' h1 h2 h3=>?_,fun t h1 h2=>?_⟩
 ·refine Array.perm_iff_toList_perm.mpr ?_
  rw [rl]
  have:a.toList=a.toList.take p ++ ((a.toList.take e).drop p ++ a.toList.drop e):=by
   rw [vY _ (by omega:p<=e)]; exact (be9 p _).symm
  conv=>rhs; rw [this]
  exact (mp.append_right _).append_left _
 ·have e1:Kr rk r t=Kr rk m (t - p):=kL (by rw [g,if_pos (by omega)])
  have e2:Kr rk r t'=Kr rk m (t' - p):=kL (by rw [g,if_pos (by omega)])
  rw [e1,e2]
  have ms:m.size=e - p:=by rw [<- ml]; simp
  exact md.2.up 0 m.size (bb6 _) (t - p) (t' - p) (by omega) (by omega) (by omega)
 ·have e1:Kr rk r t=Kr rk m (t - p):=kL (by rw [g,if_pos (by omega)])
  have ms:m.size=e - p:=by rw [<- ml]; simp
  have hm:t - p < m.size:=by omega
  have mm:m[t - p] ∈ (a.toList.take e).drop p:=mp.mem_iff.mp (by simp)
  obtain ⟨t',q1,q2,q3,q4⟩:=nX (rk:=rk) mm
  exact⟨t',q1,q2,by rw [e1,c9 hm]; exact q4⟩
theorem aB7 (c:cJ prog w A E s κ Ok rk) (o:bJ Ok a0) (b:SB κ a0 pd st) {i sa na pw sb nb pw':Nat}{Q:Bool->SortSt->Prop} (e1:pd[i]? = some (sa,na,pw)) (e2:pd[i+1]? = some (sb,nb,pw')) (hs:sb=sa+na) (n0:0 < na) (m0:0 < nb) (hz:sb+nb<=a0.size)
  (u:Up rk (arrOf st) sa sb) (v:Up rk (arrOf st) sb (sb+nb))
  (h:∀ st',SB κ a0 ((pd.setIfInBounds i (sa,na+nb,pw)).eraseIdxIfInBounds (i+1)) st'->Up rk (arrOf st') sa (sb+nb)->(∀ t,(t < sa ∨ sb+nb<=t)->Kr rk (arrOf st') t=Kr rk (arrOf st) t)->Q true st'):wpS (model prog w) A E s (mergeAt' i) Q st:=by
 have sz:=b.sz
 rw [aB4]
 refine bc8 (wpS_get ?_)
 rw [b.pd,e1,e2]
 dsimp only
 refine bc8 (aB5 ?_)
 generalize hst:SortSt.mk' (kindOf st) (arrOf st) ((pd.setIfInBounds i (sa,na+nb,pw)).eraseIdxIfInBounds (i+1)) (gallopOf st) (failedOf st)=st1
 have b1:SB κ a0 ((pd.setIfInBounds i (sa,na+nb,pw)).eraseIdxIfInBounds (i+1)) st1:=by rw [<- hst]; exact⟨b.pm,b.kd,b.ok,rfl⟩
 have ar:arrOf st1=arrOf st:=by rw [<- hst]
 have oa:=b.all o
 have hsb:sb < (arrOf st).size:=by omega
 refine bc8 (cT hsb (bc8 (lQ c b1.kd (oa _ (bh1 hsb)) oa n0 (by omega) (hs ▸ u) fun k k1 k2 k3=>?_)))
 dsimp only
 have k2':∀ t,sa<=t->t < sa+k->Kr rk (arrOf st) t<=Kr rk (arrOf st) sb:=fun t t1 t2=>by
  have:=k2 (t - sa) (by omega)
  rw [lT,bf5,show sa+(t - sa)=t by omega] at this
  rw [c9 hsb]; exact this
 have k3':∀ t,sa+k<=t->t < sb->Kr rk (arrOf st) sb < Kr rk (arrOf st) t:=fun t t1 t2=>by
  have:=k3 (t - sa) (by omega) (by omega)
  rw [lT,bm5,show sa+(t - sa)=t by omega] at this
  rw [c9 hsb]; omega
 by_cases ek:(na - k == 0)=true
 ·rw [if_pos ek]
  have ek:na - k=0:=by simpa using ek
  refine bd2 (h st1 b1 ?_ fun t _=>by rw [ar])
  rw [ar]
  exact N6 u v (by omega) (by omega) (k2' (sb - 1) (by omega) (by omega))
 ·rw [if_neg ek]
  have ek:na - k ≠ 0:=by simpa using ek
  have el:sa+k+(na - k) - 1=sb - 1:=by omega
  rw [el]
  have hsl:sb - 1 < (arrOf st).size:=by omega
  refine bc8 (cT hsl (bc8 (lQ c b1.kd (oa _ (bh1 hsl)) oa (by omega) (by omega) v fun l l1 l2 l3=>?_)))
  dsimp only
  have l2':∀ t,sb<=t->t < sb+l->Kr rk (arrOf st) t < Kr rk (arrOf st) (sb - 1):=fun t t1 t2=>by
   have:=l2 (t - sb) (by omega)
   rw [lU,bf5,show sb+(t - sb)=t by omega] at this
   rw [c9 hsl]; exact this
  have l3':∀ t,sb+l<=t->t < sb+nb->Kr rk (arrOf st) (sb - 1)<=Kr rk (arrOf st) t:=fun t t1 t2=>by
   have:=l3 (t - sb) (by omega) (by omega)
   rw [lU,bm5,show sb+(t - sb)=t by omega] at this
   rw [c9 hsl]; omega
  by_cases en:(l == 0)=true
  ·rw [if_pos en]
   have en:l=0:=by simpa using en
   subst en
   refine bd2 (h st1 b1 ?_ fun t _=>by rw [ar])
   rw [ar]
   exact N6 u v (by omega) (by omega) (l3' sb (by omega) (by omega))
  ·rw [if_neg en]
   have en:l ≠ 0:=by simpa using en
   have sub:∀ p e,bJ Ok ((arrOf st).extract p e):=fun p e z hz=>oa z (by
    have:z ∈ ((arrOf st).extract p e).toList:=Array.mem_toList_iff.mpr hz
    rw [kO] at this
    exact Array.mem_toList_iff.mp (List.mem_of_mem_take (List.mem_of_mem_drop this)))
   have sx:Sd rk ((arrOf st).extract (sa+k) sb).toList:=N5 (fun i j h1 h2 h3=>u i j (by omega) h2 h3) (by omega)
   have sy:Sd rk ((arrOf st).extract sb (sb+l)).toList:=N5 (fun i j h1 h2 h3=>v i j h1 h2 (by omega)) (by omega)
   have x0:0 < ((arrOf st).extract (sa+k) sb).size:=by simp; omega
   have y0:0 < ((arrOf st).extract sb (sb+l)).size:=by simp; omega
   have hf:∀ t ∈ ((arrOf st).extract (sa+k) sb).toList,rk ((arrOf st).extract sb (sb+l))[0]<=rk t:=fun t ht=>by
    rw [kO] at ht
    obtain ⟨t',q1,q2,q3,q4⟩:=nX (rk:=rk) ht
    rw [q4,<- c9 (rk:=rk) y0,N7 (by omega) (by omega)]
    exact Int.le_of_lt (k3' t' q1 q2)
   have hl:∀ t ∈ ((arrOf st).extract sb (sb+l)).toList,rk t<=rk ((arrOf st).extract (sa+k) sb)[((arrOf st).extract (sa+k) sb).size - 1]:=fun t ht=>by
    rw [kO] at ht
    obtain ⟨t',q1,q2,q3,q4⟩:=nX (rk:=rk) ht
    have e:((arrOf st).extract (sa+k) sb).size=sb - (sa+k):=by simp; omega
    rw [q4,<- c9 (rk:=rk) (by omega),N7 (by omega) (by omega),e,show sa+k+(sb - (sa+k) - 1)=sb - 1 by omega]
    exact Int.le_of_lt (l2' t' q1 q2)
   have fin:∀ (m:Array Keyed) (st2:SortSt),Gq st1 st2->dW rk ((arrOf st).extract (sa+k) sb) ((arrOf st).extract sb (sb+l)) m->
     wpS (model prog w) A E s (do modify (fun z=>setArr z (m.toList.zipIdx.foldl (fun a (p,j)=>a.setIfInBounds (sa+k+j) p) (arrOf z))); return (failedOf (<- get)).isNone) Q st2:=fun m st2 g md=>by
    have b2:SB κ a0 ((pd.setIfInBounds i (sa,na+nb,pw)).eraseIdxIfInBounds (i+1)) st2:=⟨by rw [g.ar]; exact b1.pm,g.kd.trans b1.kd,g.ok.trans b1.ok,g.pd.trans b1.pd⟩
    have a2:arrOf st2=arrOf st:=g.ar.trans ar
    obtain ⟨r1,r2,r3,r4⟩:=aB6 (by omega) (by omega) (by omega) md
    generalize hr:m.toList.zipIdx.foldl (fun a (q,j)=>a.setIfInBounds (sa+k+j) q) (arrOf st)=r at r1 r2 r3 r4
    refine bc8 (wpS_modify (bc8 (wpS_get (bd2 ?_))))
    have b3:=b2.put (xs:=m.toList.zipIdx.foldl (fun a (q,j)=>a.setIfInBounds (sa+k+j) q) (arrOf st2)) (by rw [a2,hr]; exact r1)
    have er:arrOf (setArr st2 (m.toList.zipIdx.foldl (fun a (q,j)=>a.setIfInBounds (sa+k+j) q) (arrOf st2)))=r:=by rw [<- hr,a2]
    have tr:(failedOf (setArr st2 (m.toList.zipIdx.foldl (fun a (q,j)=>a.setIfInBounds (sa+k+j) q) (arrOf st2)))).isNone=true:=by rw [b3.ok]; rfl
    rw [tr]
    refine h _ b3 (fun i j hi hij hj=>?_) fun t ht=>?_
    ·rw [er]
     have bl:∀ t,sa<=t->t < sa+k->∀ t',sa+k<=t'->t' < sb+l->Kr rk (arrOf st) t<=Kr rk (arrOf st) t':=fun t t1 t2 t' t3 t4=>by
      rcases bh2 t' sb with z | z
      ·exact u t t' t1 (by omega) z
      ·have a1:=k2' t t1 t2
       have a2:=v sb t' (bb6 _) z (by omega)
       omega
     have br:∀ t,sb+l<=t->t < sb+nb->∀ t',sa+k<=t'->t' < sb+l->Kr rk (arrOf st) t'<=Kr rk (arrOf st) t:=fun t t1 t2 t' t3 t4=>by
      rcases bh2 t' sb with z | z
      ·have a1:=u t' (sb - 1) (by omega) (by omega) (by omega)
       have a2:=l3' t t1 t2
       omega
      ·exact v t' t z (by omega) t2
     have blr:∀ t,sa<=t->t < sa+k->∀ t',sb+l<=t'->t' < sb+nb->Kr rk (arrOf st) t<=Kr rk (arrOf st) t':=fun t t1 t2 t' t3 t4=>by
      have a1:=bl t t1 t2 (sb - 1) (by omega) (by omega)
      have a2:=l3' t' t3 t4
      omega
     rcases bh2 i (sa+k) with z | z
     ·rw [r2 i (.inl z)]
      rcases bh2 j (sa+k) with y | y
      ·rw [r2 j (.inl y)]; exact u i j hi hij (by omega)
      ·rcases bh2 j (sb+l) with x | x
       ·obtain ⟨t',q1,q2,q3⟩:=r4 j y x
        rw [q3]; exact bl i hi z t' q1 q2
       ·rw [r2 j (.inr x)]; exact blr i hi z j x hj
     ·rcases bh2 j (sb+l) with x | x
      ·exact r3 i j z hij x
      ·rw [r2 j (.inr x)]
       rcases bh2 i (sb+l) with y | y
       ·obtain ⟨t',q1,q2,q3⟩:=r4 i z y
        rw [q3]; exact br j x hj t' q1 q2
       ·rw [r2 i (.inr y)]; exact v i j (by omega) hij hj
    ·rw [er]; exact r2 t (by omega)
   by_cases hle:na - k<=l
   ·rw [if_pos hle]
    exact bc8 (aA9 c b1.kd (sub _ _) (sub _ _) sx sy x0 y0 hf hl fun m st2 g md=>fin m st2 g md)
   ·rw [if_neg hle]
    exact bc8 (aB3 c b1.kd (sub _ _) (sub _ _) sx sy x0 y0 hf hl fun m st2 g md=>fin m st2 g md)
end
def Ch:Nat->List (Nat × Nat)->Nat->Prop
 | a,[],b=>a=b
 | a,(p,n) :: r,b=>p=a/\0 < n/\Ch (a+n) r b
theorem Ch.split:∀ {l l':List (Nat × Nat)}{a b:Nat},Ch a (l ++ l') b->∃ m,Ch a l m/\Ch m l' b
 | [],_,a,_,h=>⟨a,rfl,h⟩
 | (p,n) :: l,l',a,b,h=>by
  obtain ⟨h1,h2,h3⟩:=h
  obtain ⟨m,q1,q2⟩:=Ch.split h3
  exact⟨m,⟨h1,h2,q1⟩,q2⟩
theorem Ch.join:∀ {l l':List (Nat × Nat)}{a m b:Nat},Ch a l m->Ch m l' b->Ch a (l ++ l') b
 | [],_,a,m,_,h,h'=>by cases (show a=m from h); exact h'
 | (p,n) :: l,l',a,m,b,h,h'=>⟨h.1,h.2.1,Ch.join h.2.2 h'⟩
theorem Ch.len:∀ {l:List (Nat × Nat)}{a b:Nat},Ch a l b->a+l.length<=b
 | [],a,b,h=>by cases (show a=b from h); simp
 | (p,n) :: l,a,b,h=>by
  have:=Ch.len h.2.2
  have:=h.2.1
  simp; omega
theorem Ch.mem:∀ {l:List (Nat × Nat)}{a b:Nat}{r:Nat × Nat},Ch a l b->r ∈ l->a<=r.1/\r.1+r.2<=b/\0 < r.2
 | (p,n) :: l,a,b,r,h,hr=>by
  obtain ⟨h1,h2,h3⟩:=h
  have hb:=Ch.len h3
  rcases bb8.mp hr with e | e
  ·subst e
   have h1:p=a:=h1
   refine⟨?_,?_,h2⟩
   ·show a<=p; omega
   ·show p+n<=b; omega
  ·have:=Ch.mem h3 e
   exact⟨by omega,this.2.1,this.2.2⟩
def sk (pd:Array (Nat × Nat × Nat)):List (Nat × Nat):=pd.toList.map fun r=>(r.1,r.2.1)
theorem qZ (pd:Array (Nat × Nat × Nat)):(sk pd).length=pd.size:=by simp [sk]
structure Rn (rk:Keyed->Int) (a:Array Keyed) (l:List (Nat × Nat)) (lo:Nat):Prop where
 ch:Ch 0 l lo
 up:∀ r ∈ l,Up rk a r.1 (r.1+r.2)
variable {rk : Keyed → Int} {κ : SortKind} {a0 : Array Keyed} {pd : Array (Nat × Nat × Nat)} {st : SortSt} {prog : Program} {w : World} {A : Around} {E : Value → Shared → Prop} {s : Shared} {Ok : Keyed → Prop}
theorem Rn.same {a b:Array Keyed}{l:List (Nat × Nat)}{lo:Nat} (h:Rn rk a l lo) (e:∀ t,t < lo->Kr rk b t=Kr rk a t):Rn rk b l lo:=⟨h.ch,fun r hr i j hi hij hj=>by
 have:=(h.ch.mem hr).2.1
 rw [e i (by omega),e j (by omega)]
 exact h.up r hr i j hi hij hj⟩
theorem N8 (c:cJ prog w A E s κ Ok rk) (o:bJ Ok a0) (b:SB κ a0 pd st) {i lo:Nat}{Q:Bool->SortSt->Prop} (hi:i+1 < pd.size) (hz:lo<=a0.size) (rn:Rn rk (arrOf st) (sk pd) lo)
  (h:∀ pd' st',SB κ a0 pd' st'->pd'.size+1=pd.size->Rn rk (arrOf st') (sk pd') lo->(∀ t,lo<=t->Kr rk (arrOf st') t=Kr rk (arrOf st) t)->Q true st'):wpS (model prog w) A E s (mergeAt' i) Q st:=by
 obtain ⟨⟨sa,na,pw⟩,e1⟩:∃ r,pd[i]? = some r:=⟨pd[i],getElem?_pos pd i (by omega)⟩
 obtain ⟨⟨sb,nb,pw'⟩,e2⟩:∃ r,pd[i+1]? = some r:=⟨pd[i+1],getElem?_pos pd (i+1) hi⟩
 have d1:pd.toList=pd.toList.take i ++ (sa,na,pw) :: (sb,nb,pw') :: pd.toList.drop (i+2):=by
  have hl:i < pd.toList.length:=by simp; omega
  have hl2:i+1 < pd.toList.length:=by simpa using hi
  have g1:pd.toList[i]=(sa,na,pw):=by rw [getElem?_pos pd i (by omega)] at e1; simpa using e1
  have g2:pd.toList[i+1]=(sb,nb,pw'):=by rw [getElem?_pos pd (i+1) hi] at e2; simpa using e2
  have:=be9 i pd.toList
  rw [bl8 hl,bl8 hl2,g1,g2] at this
  exact this.symm
 have li:(pd.toList.take i).length=i:=by simp; omega
 have d2:((pd.setIfInBounds i (sa,na+nb,pw)).eraseIdxIfInBounds (i+1)).toList=pd.toList.take i ++ (sa,na+nb,pw) :: pd.toList.drop (i+2):=by
  have e:((pd.setIfInBounds i (sa,na+nb,pw)).eraseIdxIfInBounds (i+1)).toList=(pd.toList.set i (sa,na+nb,pw)).eraseIdx (i+1):=by
   unfold Array.eraseIdxIfInBounds
   rw [dif_pos (by rw [Array.size_setIfInBounds]; exact hi),Array.toList_eraseIdx,Array.toList_setIfInBounds]
  rw [e]
  conv=>lhs; rw [d1]
  rw [List.set_append_right _ _ (by omega),li,Nat.sub_self,List.set_cons_zero,List.eraseIdx_append_of_length_le (by omega),li,show i+1 - i=1 by omega]
  rfl
 have k1:sk pd=(pd.toList.take i).map (fun r=>(r.1,r.2.1)) ++ (sa,na) :: (sb,nb) :: (pd.toList.drop (i+2)).map (fun r=>(r.1,r.2.1)):=by
  unfold sk; conv=>lhs; rw [d1]
  simp
 have k2:sk ((pd.setIfInBounds i (sa,na+nb,pw)).eraseIdxIfInBounds (i+1))=(pd.toList.take i).map (fun r=>(r.1,r.2.1)) ++ (sa,na+nb) :: (pd.toList.drop (i+2)).map (fun r=>(r.1,r.2.1)):=by
  unfold sk; rw [d2]
  simp
 have ch:=rn.ch
 rw [k1] at ch
 obtain ⟨m,c1,c2⟩:=ch.split
 obtain ⟨f1,f2,f3,f4,f5⟩:=c2
 have f1:sa=m:=f1
 have f3:sb=m+na:=f3
 have up:=rn.up
 rw [k1] at up
 have lo2:=f5.len
 refine aB7 c o b e1 e2 (by omega) f2 f4 (by omega) (by have:=up (sa,na) (by simp); rw [f3,<- f1]; exact this) (up (sb,nb) (by simp)) fun st' b' u' fr=>h _ st' b' ?_ ⟨?_,?_⟩ fun t ht=>fr t (by omega)
 ·rw [<- qZ,<- qZ,k1,k2]; simp; omega
 ·rw [k2]
  refine c1.join ⟨f1,by omega,?_⟩
  rw [<- Nat.add_assoc]; exact f5
 ·intro r hr
  rw [k2] at hr
  rcases be1.mp hr with z | z
  ·intro p q h1 h2 h3
   have:=(c1.mem z).2.1
   rw [fr p (by omega),fr q (by omega)]
   exact up r (bo4 _ z) p q h1 h2 h3
  ·rcases bb8.mp z with z | z
   ·subst z
    show Up rk (arrOf st') sa (sa+(na+nb))
    rw [show sa+(na+nb)=sb+nb by omega]; exact u'
   ·intro p q h1 h2 h3
    have:=(f5.mem z).1
    rw [fr p (by omega),fr q (by omega)]
    exact up r (bf7 _ (bc3 _ (bc3 _ z))) p q h1 h2 h3
abbrev RS:=Option Unit × Nat
def N9 (sz pw:Nat):StateT SortSt Sem (Option Unit × Unit):=forIn [0:sz] ((none,()):Option Unit × Unit) fun _ _=>do
 let z <- get
 match (if (pendingOf z).size > 1 then (pendingOf z)[(pendingOf z).size - 2]? else none) with
 | some (_,_,o)=>if o<=pw then pure (.done (none,())) else do
   let q <- mergeAt' ((pendingOf z).size - 2)
   if (!q)=true then pure (.done (some (),())) else pure (.yield (none,()))
 | _=>pure (.done (none,()))
def jn (sz lo n:Nat):StateT SortSt Sem (ForInStep RS):=do
 let z <- get
 match (pendingOf z).back? with
 | some (s1,n1,_)=>do
  let r <- N9 sz (power' sz (2 * s1+n1) (2 * s1+n1+n1+n) sz)
  match r.1 with
  | some u=>pure (.done (some u,lo))
  | none=>do
   modify fun s=>setPending s ((pendingOf s).modify ((pendingOf s).size - 1) fun x=>(x.1,x.2.1,power' sz (2 * s1+n1) (2 * s1+n1+n1+n) sz))
   modify fun s=>setPending s ((pendingOf s).push (lo,n,0))
   pure (.yield (none,lo+n))
 | _=>do
  modify fun s=>setPending s ((pendingOf s).push (lo,n,0))
  pure (.yield (none,lo+n))
def O0 (sz mr lo:Nat):StateT SortSt Sem (ForInStep RS):=if lo >= sz then pure (.done (none,lo)) else do
 match <- countRun' lo (sz - lo) with
 | some n=>
  if n < mr then
   liftM (rule "list.sort.binary-insertion")
   let q <- binarySort' lo (min (sz - lo) mr) n
   if (!q)=true then pure (.done (some (),lo)) else jn sz lo (min (sz - lo) mr)
  else jn sz lo n
 | _=>pure (.done (some (),lo))
def O1 (sz:Nat):StateT SortSt Sem (Option Unit × Unit):=forIn [0:sz] ((none,()):Option Unit × Unit) fun _ _=>do
 let z <- get
 if (pendingOf z).size<=1 then pure (.done (none,())) else do
  let q <- mergeAt' (if ((if (pendingOf z).size - 2 > 0 then (pendingOf z)[(pendingOf z).size - 2 - 1]?.map (·.2.1) else none).any (· < ((pendingOf z)[(pendingOf z).size - 2+1]?.elim 0 (·.2.1))))=true then (pendingOf z).size - 2 - 1 else (pendingOf z).size - 2)
  if (!q)=true then pure (.done (some (),())) else pure (.yield (none,()))
theorem aB8:sortRuns'=(do
 let z <- get
 let r <- (forIn [0:(arrOf z).size] ((none,0):RS) fun _ r=>O0 (arrOf z).size (minRun' (arrOf z).size (arrOf z).size 0) r.2)
 match r.1 with
 | some u=>pure u
 | none=>do
  let q <- O1 (arrOf z).size
  match q.1 with
  | some u=>pure u
  | none=>pure ()):=by kernel_rfl
theorem O2 {lo nn:Nat} (n1:0 < nn) {pd:Array (Nat × Nat × Nat)}{a:Array Keyed} (r:Rn rk a (sk pd) lo) (u:Up rk a lo (lo+nn)):Rn rk a (sk (pd.push (lo,nn,0))) (lo+nn):=by
 have e:sk (pd.push (lo,nn,0))=sk pd ++ [(lo,nn)]:=by simp [sk]
 refine⟨by rw [e]; exact r.ch.join ⟨rfl,n1,rfl⟩,fun q hq=>?_⟩
 rw [e] at hq
 rcases be1.mp hq with z | z
 ·exact r.up q z
 ·rw [bc1] at z
  subst z
  exact u
theorem O3 (c:cJ prog w A E s κ Ok rk) (o:bJ Ok a0) (b:SB κ a0 pd st) {lo n:Nat}{Q:ForInStep RS->SortSt->Prop} (n1:1<=n) (n2:lo+n<=a0.size) (rn:Rn rk (arrOf st) (sk pd) lo) (u:Up rk (arrOf st) lo (lo+n))
  (h:∀ pd' st',SB κ a0 pd' st'->Rn rk (arrOf st') (sk pd') (lo+n)->Q (.yield (none,lo+n)) st'):wpS (model prog w) A E s (jn a0.size lo n) Q st:=by
 unfold jn
 refine bc8 (wpS_get ?_)
 rw [b.pd]
 cases hb:pd.back? with
 | none=>exact bc8 (wpS_modify (bd2 (h (pd.push (lo,n,0)) _ ⟨b.pm,b.kd,b.ok,by show (pendingOf st).push _=_; rw [b.pd]⟩ (O2 n1 rn u))))
 | some q=>
  obtain ⟨s1,m1,q3⟩:=q
  dsimp only
  generalize power' a0.size (2 * s1+m1) (2 * s1+m1+m1+n) a0.size=pw
  unfold N9
  refine bc8 (bq8 (bk1
   (I:=fun _ r st'=>r=(none,())/\∃ pd,SB κ a0 pd st'/\Rn rk (arrOf st') (sk pd) lo/\Up rk (arrOf st') lo (lo+n))
   (Q:=fun r st'=>r=(none,())/\∃ pd,SB κ a0 pd st'/\Rn rk (arrOf st') (sk pd) lo/\Up rk (arrOf st') lo (lo+n)) ?_ (fun _ _ z=>z) ⟨rfl,pd,b,rn,u⟩) ?_)
  ·rintro t r st4 _ ht ⟨rfl,pd4,b4,r4,u4⟩
   refine bc8 (wpS_get ?_)
   rw [b4.pd]
   cases ho:(if pd4.size > 1 then pd4[pd4.size - 2]? else none) with
   | none=>exact bd2 ⟨rfl,pd4,b4,r4,u4⟩
   | some z=>
    obtain ⟨z1,z2,z3⟩:=z
    have h1:pd4.size > 1:=by
     by_cases y:pd4.size > 1
     ·exact y
     ·rw [if_neg y] at ho; cases ho
    dsimp only
    by_cases hp:z3<=pw
    ·rw [if_pos hp]
     exact bd2 ⟨rfl,pd4,b4,r4,u4⟩
    ·rw [if_neg hp]
     refine bc8 (N8 c o b4 (by omega) (by omega) r4 fun pd5 st5 b5 _ r5 f5=>?_)
     exact bd2 ⟨rfl,pd5,b5,r5,fun i j hi hij hj=>by rw [f5 i hi,f5 j (by omega)]; exact u4 i j hi hij hj⟩
  ·rintro r st4 ⟨rfl,pd4,b4,r4,u4⟩
   refine bc8 (wpS_modify (bc8 (wpS_modify (bd2 ?_))))
   have e:sk (pd4.modify (pd4.size - 1) fun x=>(x.1,x.2.1,pw))=sk pd4:=by
    unfold sk
    rw [Array.toList_modify]
    apply List.ext_getElem?
    intro t
    rw [bc6,bc6,List.getElem?_modify]
    cases pd4.toList[t]? with
    | none=>simp
    | some v=>by_cases y:pd4.size - 1=t <;> simp [y]
   refine h ((pd4.modify (pd4.size - 1) fun x=>(x.1,x.2.1,pw)).push (lo,n,0)) _ ⟨b4.pm,b4.kd,b4.ok,?_⟩ (O2 n1 (by rw [e]; exact r4) u4)
   show ((pendingOf st4).modify ((pendingOf st4).size - 1) fun x=>(x.1,x.2.1,pw)).push _=_
   rw [b4.pd]
theorem aB9 (c:cJ prog w A E s κ Ok rk) (o:bJ Ok a0) (b:SB κ a0 #[] st) {Q:Unit->SortSt->Prop} (h2:1<=a0.size)
  (h:∀ st',(arrOf st').Perm a0->failedOf st'=none->Up rk (arrOf st') 0 a0.size->Q () st'):wpS (model prog w) A E s sortRuns' Q st:=by
 rw [aB8]
 refine bc8 (wpS_get ?_)
 rw [b.sz]
 generalize minRun' a0.size a0.size 0=mr
 refine bc8 (bq8 (bk1
  (I:=fun x r st'=>∃ lo pd,r=(none,lo)/\x<=lo/\lo<=a0.size/\SB κ a0 pd st'/\Rn rk (arrOf st') (sk pd) lo)
  (Q:=fun r st'=>∃ pd,r=(none,a0.size)/\SB κ a0 pd st'/\Rn rk (arrOf st') (sk pd) a0.size) ?_ ?_ ⟨0,#[],rfl,bb6 _,bf1 _,b,⟨rfl,fun r hr=>absurd hr (by simp [sk])⟩⟩) ?_)
 ·rintro x r st1 _ hx ⟨lo,pd,rfl,xl,lz,b1,rn⟩
  unfold O0
  dsimp only
  by_cases hd:lo >= a0.size
  ·rw [if_pos hd]
   have e:lo=a0.size:=by omega
   subst e
   exact bd2 ⟨pd,rfl,b1,rn⟩
  ·rw [if_neg hd]
   refine bc8 (aA2 c o b1 (by omega) (by omega) fun n st2 b2 n1 n2 u2 l2=>?_)
   have rn2:=rn.same l2
   dsimp only
   by_cases hmr:n < mr
   ·rw [if_pos hmr]
    refine bc8 (wpS_lift (bn7 ⟨rfl,?_⟩))
    refine bc8 (aA3 c o b2 (by omega) (by omega) u2 fun st3 b3 u3 l3=>?_)
    rw [if_neg (by decide)]
    exact O3 c o b3 (by omega) (by omega) (rn2.same l3) u3 fun pd' st' b' r'=>⟨_,pd',rfl,by omega,by omega,b',r'⟩
   ·rw [if_neg hmr]
    exact O3 c o b2 n1 (by omega) rn2 u2 fun pd' st' b' r'=>⟨lo+n,pd',rfl,by omega,by omega,b',r'⟩
 ·rintro r st1 ⟨lo,pd,rfl,xl,lz,b1,rn⟩
  have e:lo=a0.size:=by omega
  subst e
  exact⟨pd,rfl,b1,rn⟩
 ·rintro r st1 ⟨pd,rfl,b1,rn⟩
  dsimp only
  unfold O1
  refine bc8 (bq8 (bk1
   (I:=fun t r st'=>r=(none,())/\∃ pd,SB κ a0 pd st'/\Rn rk (arrOf st') (sk pd) a0.size/\(pd.size+t<=a0.size ∨ pd.size<=1))
   (Q:=fun r st'=>r=(none,())/\∃ pd,SB κ a0 pd st'/\Rn rk (arrOf st') (sk pd) a0.size/\pd.size<=1) ?_ ?_ ⟨rfl,pd,b1,rn,.inl (by have:=rn.ch.len; rw [qZ] at this; omega)⟩) ?_)
  ·rintro t r st2 _ ht ⟨rfl,pd,b2,rn2,pr⟩
   refine bc8 (wpS_get ?_)
   rw [b2.pd]
   by_cases h1:pd.size<=1
   ·rw [if_pos h1]
    exact bd2 ⟨rfl,pd,b2,rn2,h1⟩
   ·rw [if_neg h1]
    refine bc8 (N8 c o b2 ?_ (bb6 _) rn2 fun pd' st3 b3 sz3 rn3 _=>?_)
    ·split <;> split <;> omega
    ·exact bd2 ⟨rfl,pd',b3,rn3,by omega⟩
  ·rintro r st2 ⟨rfl,pd,b2,rn2,pr⟩
   exact⟨rfl,pd,b2,rn2,by omega⟩
  ·rintro r st2 ⟨rfl,pd,b2,rn2,pr⟩
   refine bd2 (h st2 b2.pm b2.ok ?_)
   have ch:=rn2.ch
   have up:=rn2.up
   rw [<- qZ] at pr
   cases e:sk pd with
   | nil=>rw [e] at ch; exact absurd (show 0=a0.size from ch) (by omega)
   | cons r l=>
    rw [e] at ch up pr
    have el:l = []:=List.eq_nil_of_length_eq_zero (by have:=pr; rw [be4] at this; omega)
    subst el
    obtain ⟨p,n⟩:=r
    obtain ⟨q1,q2,q3⟩:=ch
    have q1:p=0:=q1
    have q3:0+n=a0.size:=q3
    subst q1
    have:=up (0,n) (by simp)
    rw [<- q3]; exact this
end SO
namespace L2
open PySem PySem.Spec PyProof.Rows SO
abbrev fB (h:Heap) (a:Addr) (vs:List Value):Heap:=((h.update a (Obj.mapSeq fun _=>#[])).push (seqObj "tuple" vs.toArray 0)).push (seqObj "list" #[] 0)
abbrev fN (h:Heap) (vs:List Value):Heap:=((h.push (seqObj "list" #[] 0)).update h.objs.size (Obj.mapSeq (· ++ vs.toArray))).push (seqObj "list" vs.toArray 0)
theorem aC0 {h:Heap}{vs:List Value}{b:Addr}{o:Obj} (e:h.get? b=some o):(fN h vs).get? b=some o:=by
 have l:=bc7 e
 refine bb1 _ ?_
 rw [Heap.get?_update_ne _ _ _ _ (be3 l)]
 exact bb1 _ e
theorem aC1 {h:Heap}{vs:List Value}{a b:Addr}{o:Obj} (hb:b ≠ a) (e:h.get? b=some o):(fB h a vs).get? b=some o:=by
 refine bb1 _ (bb1 _ ?_)
 rw [Heap.get?_update_ne _ _ _ _ hb]; exact e
theorem aC2 {prog:Program}{w:World}{A:Around}{E:Value->Shared->Prop}{s:Shared}{a:Addr}{vs:List Value}{n:Nat}{P:PySem.Fin->Shared->Prop}{κ:SortKind}{Ok:Keyed->Prop}{rk:Keyed->Int}
  (e:s.heap.get? a=some (seqObj "list" vs.toArray n)) (h2:2<=vs.length) (big:vs.length<=sizeLine)
  (hk:∀ Q:SortKind->Shared->Prop,Q κ { s with heap:=fB s.heap a vs }->wpAny (model prog w) A (keyKind' vs.toArray) Q E { s with heap:=fB s.heap a vs })
  (c:cJ prog w A E { s with heap:=fB s.heap a vs } κ Ok rk) (o:∀ v ∈ vs,Ok (v,v))
  (q:∀ out:List Value,out.Perm vs->out.Pairwise (fun u v=>rk (u,u)<=rk (v,v))->P (.done (.ret .none)) { s with heap:=sortedHeap s.heap a vs out.toArray }):wpAny (model prog w) A (Builtin.«list.sort» ⟨[.ref a],[]⟩) P E s:=by
 have la:=bc7 e
 have cc : ¬ vs.toArray.size < 2:=by simpa using h2
 obtain ⟨k,ek⟩:∃ k,(s.heap.update a (Obj.mapSeq fun _=>#[])).get? a=some (seqObj "list" #[] k):=⟨_,get?_update_seq e fun _=>#[]⟩
 have there:(fB s.heap a vs).get? a=some (seqObj "list" #[] k):=bb1 _ (bb1 _ ek)
 rw [list_sort_plain]
 apply ba9
 apply listItems_at e rfl
 apply ba9
 refine listUpdate_at e rfl ?_ (by simpa using big) (bf1 _)
 apply ba9
 apply seqEpoch_at ek rfl
 apply ba9
 refine wpAny_newTuple ?_ big
 apply ba9
 refine br1 ?_ (bf1 _)
 apply bj9
 simp only [cc,bh5]
 apply ba9
 refine hk _ ?_
 have zl:(vs.toArray.zip vs.toArray).toList=vs.zip vs:=by simp
 apply ba9
 refine bj6 (aB9 (a0:=vs.toArray.zip vs.toArray) (Q:=fun _ st'=>(arrOf st').Perm (vs.toArray.zip vs.toArray)/\failedOf st'=none/\Up rk (arrOf st') 0 (vs.toArray.zip vs.toArray).size) c (fun x hx=>?_) ⟨Array.Perm.refl _,rfl,rfl,rfl⟩ (by simp; omega) fun st' a1 a2 a3=>⟨a1,a2,a3⟩) ?_ fun _ _ z=>z
 ·have hx':x ∈ vs.zip vs:=by rw [<- zl]; exact Array.mem_toList_iff.mpr hx
  obtain ⟨y1,y2⟩:=mem_zip_self hx'
  have:=o x.1 y2
  have ex:x=(x.1,x.1):=Prod.ext rfl y1.symm
  rw [ex]; exact this
 ·rintro ⟨⟨⟩,st'⟩ s' ⟨rfl,pm,ok,up⟩
  have lp:(arrOf st').toList.Perm (vs.zip vs):=by rw [<- zl]; exact Array.perm_iff_toList_perm.mp pm
  have out:(arrOf st').map (·.2)=((arrOf st').toList.map (·.2)).toArray:=by apply Array.toList_inj.mp; rw [Array.toList_map]
  have op:((arrOf st').toList.map (·.2)).Perm vs:=by
   have:=lp.map (·.2)
   rw [pD] at this; exact this
  have sz:(arrOf st').size=vs.length:=by rw [pm.size_eq]; simp
  dsimp only
  apply ba9
  apply seqEpoch_at there rfl
  apply ba9
  refine listUpdate_at there rfl ?_ (bf1 _) (by rw [Array.size_map,sz]; exact Nat.le_succ_of_le big)
  rw [ok]
  simp only [bne_self_eq_false,bd5,bh5]
  refine bb3 ?_
  have hq:=q _ op ?_
  ·rw [<- out] at hq; exact hq
  ·rw [bg4,bf2]
   intro i j hi hj hij
   have hi':i < (arrOf st').size:=by simpa using hi
   have hj':j < (arrOf st').size:=by simpa using hj
   have h1:=up i j (bf1 _) (bg6 hij) (by simp; omega)
   rw [c9 hi',c9 hj'] at h1
   have dg:∀ x ∈ (arrOf st').toList,(x.2,x.2)=x:=fun x hx=>Prod.ext (mem_zip_self (lp.mem_iff.mp hx)).1.symm rfl
   rw [dg _ (bh0 hi),dg _ (bh0 hj)]
   simpa using h1
theorem aC3 {prog:Program}{w:World}{A:Around}{E:Value->Shared->Prop}{s:Shared}{l:Addr}{vs:List Value}{Q:Value->Shared->Prop}{κ:SortKind}{Ok:Keyed->Prop}{rk:Keyed->Int}
  (hl:s.heap.IsList l vs.toArray) (h2:2<=vs.length) (big:vs.length<=sizeLine)
  (hk:∀ (A:Around) (E:Value->Shared->Prop) (Q:SortKind->Shared->Prop),Q κ { s with heap:=fB (fN s.heap vs) (s.heap.objs.size+1) vs }->wpAny (model prog w) A (keyKind' vs.toArray) Q E { s with heap:=fB (fN s.heap vs) (s.heap.objs.size+1) vs })
  (c:∀ (A:Around) (E:Value->Shared->Prop),cJ prog w A E { s with heap:=fB (fN s.heap vs) (s.heap.objs.size+1) vs } κ Ok rk) (o:∀ v ∈ vs,Ok (v,v))
  (q:∀ out:List Value,out.Perm vs->out.Pairwise (fun u v=>rk (u,u)<=rk (v,v))->Q (.ref (s.heap.objs.size+1)) { s with heap:=sortedAll s.heap vs out.toArray }):wpAny (model prog w) A (call (.builtin "sorted") [.ref l]) Q E s:=by
 apply bn4 kind_sorted plain_sorted entry_sorted (args_sorted1 _)
 simp only [Builtin.«sorted»]
 apply ba9 (m:=checkCount "sorted" 1 1 _)
 apply bb3
 apply ba9
 refine collect_list hl ?_ big
 apply ba9
 refine br1 ?_ big
 have one:((s.heap.push (seqObj "list" #[] 0)).update s.heap.objs.size (Obj.mapSeq (· ++ vs.toArray))).objs.size=s.heap.objs.size+1:=(Heap.size_update _ _ _).trans (size_push' _ _)
 have at1:(fN s.heap vs).get? (s.heap.objs.size+1)=some (seqObj "list" vs.toArray 0):=one ▸ bb9 _ rfl
 change wpAny _ _ _ _ _ { s with heap:=fN s.heap vs }
 rw [one]
 apply ba9
 apply bj9
 refine be5 slot_list_sort ⟨_,at1,rfl⟩ entry_list_sort ?_ (args_list_sort _)
 exact aC2 (s:={ s with heap:=fN s.heap vs }) at1 h2 big (hk _ _) (c _ _) o fun out a1 a2=>⟨_,rfl,bb3 ⟨_,rfl,q out a1 a2⟩⟩
def r6 (h:Heap) (B:Int) (x:Keyed):Int:=match x.1 with
 | .ref b=>match h.get? b with
  | some ob=>match ob.data with
   | .seq us _=>numOf (us.getD 0 .none) * B+numOf (us.getD 1 .none)
   | _=>0
  | none=>0
 | _=>0
structure jE (h:Heap) (M:Int) (v:Value) (p q:Int):Prop where
 at_:∃ b ob us n,v = .ref b/\h.get? b=some ob/\ob.cls = .type "tuple"/\ob.data = .seq (List.toArray us) n/\IntsAre us [p,q]
 lo : -M<=q
 hi:q<=M
theorem jE.rk {h:Heap}{M B:Int}{x:Keyed}{p q:Int} (z:jE h M x.1 p q):r6 h B x=p * B+q:=by
 obtain ⟨b,ob,us,n,e1,e2,_,e4,e5⟩:=z.at_
 cases e5 with
 | cons _ t e6=>cases e6 with
  | cons _ u e7=>cases e7; unfold r6; rw [e1]; dsimp only; rw [e2]; dsimp only; rw [e4]; rfl
theorem O4 {p q p' q' M:Int} (h1 : -M<=q) (h2:q<=M) (h3 : -M<=q') (h4:q'<=M):HT.bH [p,q] [p',q']=decide (p * (2 * M+1)+q < p' * (2 * M+1)+q'):=by
 rw [HT.iA]
 have mm:∀ {a b:Int},a < b->a * (2 * M+1)+(2 * M+1)<=b * (2 * M+1):=fun {a b} z=>by
  have:=Int.mul_le_mul_of_nonneg_right (show a+1<=b by omega) (show 0<=2 * M+1 by omega)
  rw [Int.add_mul,Int.one_mul] at this
  exact this
 by_cases e:p=p'
 ·subst e
  rw [if_pos rfl,HT.iA]
  by_cases e2:q=q'
  ·subst e2
   rw [if_pos rfl,HT.t8,bb7 (by omega)]
  ·rw [if_neg e2]
   by_cases l:q < q'
   ·rw [bc9 l,bc9 (by omega)]
   ·rw [bb7 l,bb7 (by omega)]
 ·rw [if_neg e]
  by_cases l:p < p'
  ·have:=mm l
   rw [bc9 l,bc9 (by omega)]
  ·have:=mm (show p' < p by omega)
   rw [bb7 l,bb7 (by omega)]
theorem aC4 {prog:Program}{w:World}{A:Around}{E:Value->Shared->Prop}{s:Shared}{M:Int}:cJ prog w A E s (tuples' true) (fun x=>∃ p q,jE s.heap M x.1 p q) (r6 s.heap (2 * M+1)):=by
 rintro x y ⟨p,q,z⟩ ⟨p',q',z'⟩ st Q hk hq
 rw [z.rk,z'.rk] at hq
 rw [<- O4 z.lo z.hi z'.lo z'.hi] at hq
 obtain ⟨b,ob,us,n,e1,e2,e3,e4,e5⟩:=z.at_
 obtain ⟨b',ob',us',n',e1',e2',e3',e4',e5'⟩:=z'.at_
 rw [lt'_eq]
 refine bc8 (wpS_get ?_)
 rw [hk,e1,e1']
 refine bc8 (wpS_lift (bo0 (PySem.W.kat_lt e2 e4 e2' e4' ?_)))
 have:=uF (prog:=prog) (w:=w) (A:=A) (s:=s) (Q:=fun a s'=>s'=s/\wpS (model prog w) A E s (pure (some a)) Q st) 0 e5 e5' ⟨rfl,bd2 hq⟩
 simpa using this
theorem aC5 {vs vs':List Value} (h:vs.Perm vs'):∀ {xs:List V},aJ xs vs->∃ xs',xs'.Perm xs/\aJ xs' vs':=by
 induction h with
 | nil=>intro xs r; exact⟨xs,bo5 _,r⟩
 | cons v _ ih=>
  intro xs r
  cases r with
  | cons r t=>
   obtain ⟨xs',p,r'⟩:=ih t
   exact⟨_ :: xs',p.cons _,.cons r r'⟩
 | swap u v l=>
  intro xs r
  cases r with
  | cons r t=>cases t with
   | cons r2 t2=>exact⟨_,List.Perm.swap _ _ _,.cons r2 (.cons r t2)⟩
 | trans _ _ ih1 ih2=>
  intro xs r
  obtain ⟨x1,p1,r1⟩:=ih1 r
  obtain ⟨x2,p2,r2⟩:=ih2 r1
  exact⟨x2,p2.trans p1,r2⟩
theorem O5 {α:Type} (f:α->Int):∀ l:List α,∃ M:Int,∀ y ∈ l,-M<=f y/\f y<=M
 | []=>⟨0,fun _ h=>nomatch h⟩
 | x :: l=>by
  obtain ⟨M,h⟩:=O5 f l
  refine⟨max M (max (f x) (- f x)),fun y hy=>?_⟩
  rcases bb8.mp hy with e | e
  ·subst e; omega
  ·have:=h y e; omega
def O6 (K:PySem.W.Frag):List V->Hp->VK->Prop:=fun xs H Q=>∃ (a:Addr) (ys:List V) (key:V->List Int),xs = [.ref a]/\aL K H a ys/\ys.length<=4096/\(∀ y ∈ ys,∃ b,y = .ref b/\aI K H b ((key y).map V.int)/\(key y).length=2)/\
 ∀ l (zs:List V),H l=none->zs.Perm ys->zs.Pairwise (fun u v=>HT.bH (key v) (key u)=false)->Q (.ref l) (upd H l (.lst zs))
theorem aC6 {X:Cx}:cP X (.builtin "sorted") (O6 X.K):=by
 intro pins s σ H xs us Q I r h
 obtain ⟨a,ys,key,rfl,hs,hz4,hk,q⟩:=h
 obtain ⟨u,rfl,ru⟩:=fD r
 cases ru
 obtain ⟨its,rv,p,hz⟩:=I.list hs
 have hl:=rv.length
 have hn:s.heap.objs.size<=s.heap.objs.size+1:=bq7 _
 by_cases h2:its.length < 2
 ·refine C4 p.isList h2 ?_
  obtain ⟨e,he⟩:=sortedAll_at s.heap its its.toArray
  refine⟨.ref (s.heap.objs.size+1),upd H (s.heap.objs.size+1) (.lst ys),I.laid (t':=s.toks) (fun _ _=>sortedAll_old) hn ⟨hz,its,e,rv,he⟩,rfl,q _ ys (I.hok.fresh hn) (bo5 _) ?_⟩
  match ys,hl with
  | [],_=>exact List.Pairwise.nil
  | [_],_=>exact bg1 _ _
  | _ :: _ :: _,hl=>simp at hl; omega
 ·obtain ⟨M,hM⟩:=O5 (fun y=>(key y).getD 1 0) ys
  have pv:∀ {y:V}{v:Value},aQ y v->y ∈ ys->∃ pp qq,key y = [pp,qq]/\jE (fB (fN s.heap its) (s.heap.objs.size+1) its) M v pp qq:=fun {y v} ry hy=>by
   obtain ⟨b,rfl,sq,l2⟩:=hk y hy
   cases ry
   obtain ⟨us,ru,⟨ob,e1,c1,n1,d1⟩,_⟩:=I.tuple sq
   have ia:=iB ru
   have mm:=hM _ hy
   match hkk:key (V.ref b),l2 with
   | [pp,qq],_=>
    rw [hkk] at ia mm
    exact⟨pp,qq,rfl,⟨b,ob,us,n1,rfl,aC1 (be3 (Nat.lt_succ_of_lt (bc7 e1))) (aC0 e1),c1,d1,ia⟩,mm.1,mm.2⟩
  have pvs:∀ {xs:List V}{vs:List Value},aJ xs vs->(∀ y ∈ xs,y ∈ ys)->∀ v ∈ vs,∃ pp qq,jE (fB (fN s.heap its) (s.heap.objs.size+1) its) M v pp qq:=by
   intro xs vs r
   induction r with
   | nil=>intro _ v hv; cases hv
   | cons rx rt ih=>
    intro hh v hv
    rcases bb8.mp hv with z | z
    ·subst z
     obtain ⟨pp,qq,_,z⟩:=pv rx (hh _ bc2)
     exact⟨pp,qq,z⟩
    ·exact ih (fun y hy=>hh y (bc3 _ hy)) v z
  have firsts:∀ {vs:List Value},(∀ v ∈ vs,∃ pp qq,jE (fB (fN s.heap its) (s.heap.objs.size+1) its) M v pp qq)->∃ fs:List Value,PySem.W.KatTups (fB (fN s.heap its) (s.heap.objs.size+1) its) vs fs/\fs.length=vs.length/\∀ v ∈ fs,∃ i t,v=Value.int i t:=by
   intro vs
   induction vs with
   | nil=>intro _; exact⟨[],PySem.W.KatTups.nil,rfl,fun _ z=>nomatch z⟩
   | cons v vs ih=>
    intro hh
    obtain ⟨fs,t1,t2,t3⟩:=ih fun y hy=>hh y (bc3 _ hy)
    obtain ⟨pp,qq,z⟩:=hh v bc2
    obtain ⟨b,ob,us,n,rfl,e2,e3,e4,e5⟩:=z.at_
    cases e5 with
    | cons _ t e6=>exact⟨Value.int pp t :: fs,PySem.W.KatTups.cons e2 e3 e4 (by simp) t1,by simp [t2],fun v hv=>(bb8.mp hv).elim (fun z=>⟨pp,t,z⟩) (t3 v)⟩
  have allp:=pvs rv fun _ h=>h
  obtain ⟨fs,t1,t2,t3⟩:=firsts allp
  refine aC3 (κ:=tuples' true) (Ok:=fun x=>∃ pp qq,jE (fB (fN s.heap its) (s.heap.objs.size+1) its) M x.1 pp qq) (rk:=r6 (fB (fN s.heap its) (s.heap.objs.size+1) its) (2 * M+1)) p.isList (by omega) (by rw [<- hl]; exact hz)
   (fun A E Q hQ=>?_) (fun A E=>aC4 (s:={ s with heap:=fB (fN s.heap its) (s.heap.objs.size+1) its })) (fun v hv=>allp v hv) fun out pm so=>?_
  ·refine PySem.W.kat_kind (T:=.type "int") t1 (by omega) (fun v hv=>?_) (by decide) ?_
   ·obtain ⟨i,t,rfl⟩:=t3 v hv
    exact PySem.W.Looks.now
   ·have eT:(Value.type "int" != Value.type "tuple")=true:=by decide
    rw [eT]; exact hQ
  ·obtain ⟨zs,pz,rz⟩:=aC5 pm.symm rv
   obtain ⟨e,he⟩:=sortedAll_at s.heap its out.toArray
   refine⟨.ref (s.heap.objs.size+1),upd H (s.heap.objs.size+1) (.lst zs),I.laid (t':=s.toks) (fun _ _=>sortedAll_old) hn ⟨by rw [pz.length_eq]; exact hz,out,e,rz,he⟩,rfl,q _ zs (I.hok.fresh hn) pz ?_⟩
   have lz:=rz.length
   rw [bf2]
   intro i j hi hj hij
   have s1:=bf2.mp so i j (by omega) (by omega) hij
   have gi:=mY i hi rz
   have gj:=mY j hj rz
   simp only [bc0,bb2 hi,bb2 hj,bb2 (show i < out.length by omega),bb2 (show j < out.length by omega),Option.getD_some] at gi gj
   obtain ⟨pi,qi,ki,vi⟩:=pv gi (pz.mem_iff.mp (bh0 hi))
   obtain ⟨pj,qj,kj,vj⟩:=pv gj (pz.mem_iff.mp (bh0 hj))
   rw [jE.rk (x:=(out[i],out[i])) vi,jE.rk (x:=(out[j],out[j])) vj] at s1
   rw [ki,kj,O4 vj.lo vj.hi vi.lo vi.hi]
   exact bb7 (by omega)
end L2
namespace L2
open PySem PySem.Spec PyProof.Rows
theorem bT.at {P:Program}{w:World}{H:Hp}{h:Heap}{a:Addr}{o:HO} (x:bT P w H h a o):∃ ob,h.get? a=some ob:=by
 cases o with
 | lst xs=>obtain ⟨_,_,_,_,e⟩:=x; exact⟨_,e⟩
 | tup xs=>obtain ⟨_,_,_,⟨_,e,_⟩,_⟩:=x; exact⟨_,e⟩
 | dK kvs=>obtain ⟨_,_,_,_,_,_,_,e,_⟩:=x; exact⟨_,e⟩
 | dT kvs=>obtain ⟨_,_,_,_,_,_,_,e,_⟩:=x; exact⟨_,e⟩
 | set S n=>obtain ⟨_,_,_,_,e,_⟩:=x; exact⟨_,e⟩
 | ins C dx fs=>obtain ⟨_,_,_,e,_⟩:=x; exact⟨_,e⟩
 | own y=>exact x
 | xd fs=>obtain ⟨_,⟨_,_,_,e,_⟩,_⟩:=x; exact⟨_,e⟩
 | rng lo hi=>obtain ⟨_,_,_,e⟩:=x; exact⟨_,e⟩
 | frz ob u=>obtain ⟨e,_⟩:=x; exact⟨_,e⟩
 | tbl ps=>exact⟨_,x⟩
 | met f y=>exact⟨_,x⟩
 | ext φ=>exact x.2.1
structure vZ (P:Program) (w:World) (outer:List Env) (H:Hp) (s:Shared) (H':Hp) (B:Heap) (a C:Addr) (s':Shared):Prop where
 os:s'.os=s.os
 bare:AllBare s'.gens
 un:Un (bX outer) [] H H' s.heap s'.heap
 hok:bU P w H' s'.heap
 fly:∃ a0,Heap.FlyingW B outer a (.ref C) a0 s'.heap
 b0:∀ b o,s.heap.get? b=some o->b ∉ bX outer->∃ o',B.get? b=some o'
 b1:∀ b o,s.heap.get? b=some o->H b=none->b ∉ bX outer->B.get? b=some o
 b2:∀ b u o,H' b=some u->s'.heap.get? b=some o->B.get? b=some o
def eO (P:Program) (w:World):gC:=fun outer H s E e s'=>∃ (H':Hp) (B:Heap) (a C:Addr),e = .ref a/\vZ P w outer H s H' B a C s'/\E (.ref C) none H'
section
variable {P : Program} {w : World} {outer : List Env} {H H' : Hp} {s s' : Shared} {B h2 : Heap} {a C : Addr}
theorem vZ.hok2 (f:vZ P w outer H s H' B a C s') (k:B.StaysIn h2):bU P w H' h2:=fun b u e=>
 (f.hok b u e).stay (fun c v hc q=>by
  rcases hc with z | z
  ·subst z; exact k _ _ (f.b2 _ _ _ e q)
  ·exact k _ _ (f.b2 _ _ _ z q)) (fun _ q=>q) fun _ _ q=>q
end
section
variable {P : Program} {w : World} {K : PySem.W.Frag} {mg : Str → Option Value} {base : Heap} {N : List Str} {qual : Str} {scope : Scope} {f : Addr} {cd : Value} {A : Around} {outer : List Env} {s₀ : Shared} {H₀ : Hp} {E₀ E₁ : XK}
theorem r9 {pins:List (Addr × Obj)}{σ:St}{H:Hp}{s:Shared} (I:a6 (dF (eO P w) P w K mg base N qual scope f cd A outer s₀ H₀ E₀) pins σ H s) {b:Addr}{o:Obj} (e:s₀.heap.get? b=some o) (n:b ∉ bX outer) :
  b ∉ bX (envOfC qual scope s₀.heap.objs.size f cd :: outer):=fun z=>by
 rcases bb8.mp (I.stkSub b z) with y | y
 ·have l:=bc7 e
  have y:b=s₀.heap.objs.size:=y
  exact absurd l (by rw [y]; exact bg0 _)
 ·exact n y
theorem aC7 (hE:∀ c d H',E₁ c d H'->E₀ c d H'):mO (eO P w) (dF (eO P w) P w K mg base N qual scope f cd A outer s₀ H₀ E₀) E₁:=by
 intro pins σ H s e s' I hx
 obtain ⟨H',B,a,C,e1,fl,q⟩:=hx
 subst e1
 have I':=I.call' fl.os fl.un fl.hok fl.bare (ch:=[]) (fun b z=>absurd z (by simp))
 obtain ⟨a0,fly⟩:=fl.fly
 refine wpAny_leaves_onW I.ok.frames rfl fly fun h' fly' up=>?_
 have slot:∀ b o,s₀.heap.get? b=some o->b ∈ bX outer->∃ sl,h'.get? b=some { o with slots:=sl }:=fun b o e hb=>by
  obtain ⟨sl,e1⟩:=I'.base.slot b o e (I.ok.frf b hb) hb (fun z=>nomatch z)
  obtain ⟨_,o2,e2,nf⟩:=I.ok.funs.mem hb
  rw [show (dF (eO P w) P w K mg base N qual scope f cd A outer s₀ H₀ E₀).s₀=s₀ from rfl,e] at e2
  cases e2
  obtain ⟨sl',e3⟩:=up b _ e1 nf
  exact⟨sl',e3⟩
 have old:∀ b o,s₀.heap.get? b=some o->H₀ b=none->b ∉ bX outer->B.get? b=some o:=fun b o e n hb=>
  fl.b1 b o (I.base.keep b o e n hb (fun z=>nomatch z)) (I.base.free b o e n (fun z=>nomatch z)) (r9 I e hb)
 have old0:∀ b o,s₀.heap.get? b=some o->b ∉ bX outer->∃ o',B.get? b=some o':=fun b o e hb=>by
  obtain ⟨o1,e1⟩:=I.base.there b o e (fun z=>nomatch z)
  exact fl.b0 b o1 e1 (r9 I e hb)
 refine⟨H',B,a,C,rfl,⟨I'.os,I'.bare,⟨fun b o e n hb _=>fly'.1 _ _ (old b o e n hb),fun b o e n hb _=>slot b o e hb,fun b o e n hx=>I'.base.free b o e n hx,fun b o e _=>?_,I'.base.tups,I'.base.frzs,I'.base.tbls⟩,fl.hok2 fly'.1,⟨a0,fly'⟩,old0,old,fun b u o e h=>?_⟩,hE _ _ _ q⟩
 ·by_cases hb:b ∈ bX outer
  ·obtain ⟨sl,e1⟩:=slot b o e hb
   exact⟨_,e1⟩
  ·obtain ⟨o',e1⟩:=old0 b o e hb
   exact⟨o',fly'.1 _ _ e1⟩
 ·obtain ⟨ob,e1⟩:=(fl.hok b u e).at
  have e2:=fl.b2 b u ob e e1
  have e3:=fly'.1 _ _ e2
  have h:h'.get? b=some o:=h
  rw [h] at e3; cases e3; exact e2
theorem aC8 {pins:List (Addr × Obj)}{σ:St}{H:Hp}{s:Shared}{h':Heap}{e C:Addr}{args:List Value} (I:a6 (dF (eO P w) P w K mg base N qual scope f cd A outer s₀ H₀ E₀) pins σ H s) (mx:Heap.MadeExcOf s.heap h' e (.ref C) args) (q:E₀ (.ref C) none H) :
  (dF (eO P w) P w K mg base N qual scope f cd A outer s₀ H₀ E₀).xe (.ref e) { s with heap:=h' }:=by
 have tr:∀ b u,H b=some u->b ∉ bX (envOfC qual scope s₀.heap.objs.size f cd :: outer):=fun b u z n=>by
  rw [I.stkFree b n] at z; cases z
 have inB:∀ b o,s.heap.get? b=some o->b ∉ bX (envOfC qual scope s₀.heap.objs.size f cd :: outer)->(PySem.W.hideAll s.heap (bX (envOfC qual scope s₀.heap.objs.size f cd :: outer))).get? b=some o:=fun b o z n=>PySem.W.hideAll_get _ z n
 refine wpAny_leaves_madeW (base:=PySem.W.hideAll s.heap (bX (envOfC qual scope s₀.heap.objs.size f cd :: outer))) I.ok.frames rfl (fun b o z=>PySem.W.of_hideAll _ z) (PySem.W.funFrames_hide I.stack fun env he b hb=>List.mem_filterMap.mpr ⟨env,he,hb⟩) mx fun h'' t fly _ _ up=>?_
 have slot:∀ b o,s₀.heap.get? b=some o->b ∈ bX outer->∃ sl,h''.get? b=some { o with slots:=sl }:=fun b o e hb=>by
  obtain ⟨sl,e1⟩:=I.base.slot b o e (I.ok.frf b hb) hb (fun z=>nomatch z)
  obtain ⟨_,o2,e2,nf⟩:=I.ok.funs.mem hb
  rw [show (dF (eO P w) P w K mg base N qual scope f cd A outer s₀ H₀ E₀).s₀=s₀ from rfl,e] at e2
  cases e2
  obtain ⟨sl',e3⟩:=up b _ (mx.keeps _ _ e1) nf
  exact⟨sl',e3⟩
 have old:∀ b o,s₀.heap.get? b=some o->H₀ b=none->b ∉ bX outer->(PySem.W.hideAll s.heap (bX (envOfC qual scope s₀.heap.objs.size f cd :: outer))).get? b=some o:=fun b o e n hb=>
  inB b o (I.base.keep b o e n hb (fun z=>nomatch z)) (r9 I e hb)
 have old0:∀ b o,s₀.heap.get? b=some o->b ∉ bX outer->∃ o',(PySem.W.hideAll s.heap (bX (envOfC qual scope s₀.heap.objs.size f cd :: outer))).get? b=some o':=fun b o e hb=>by
  obtain ⟨o1,e1⟩:=I.base.there b o e (fun z=>nomatch z)
  exact⟨o1,inB b o1 e1 (r9 I e hb)⟩
 refine⟨H,_,e,C,rfl,⟨I.os,I.bare,⟨fun b o e n hb _=>fly.1 _ _ (old b o e n hb),fun b o e n hb _=>slot b o e hb,fun b o e n hx=>I.base.free b o e n hx,fun b o e _=>?_,I.base.tups,I.base.frzs,I.base.tbls⟩,fun b u z=>?_,⟨_,fly⟩,old0,old,fun b u o z h=>?_⟩,q⟩
 ·by_cases hb:b ∈ bX outer
  ·obtain ⟨sl,e1⟩:=slot b o e hb
   exact⟨_,e1⟩
  ·obtain ⟨o',e1⟩:=old0 b o e hb
   exact⟨o',fly.1 _ _ e1⟩
 ·refine (I.hok b u z).stay (fun c v hc y=>?_) (fun _ y=>y) fun _ _ y=>y
  rcases hc with z' | z'
  ·subst z'; exact fly.1 _ _ (inB _ _ y (tr _ _ z))
  ·exact fly.1 _ _ (inB _ _ y (tr _ _ z'))
 ·obtain ⟨ob,e1⟩:=(I.hok b u z).at
  have e2:=inB b ob e1 (tr b u z)
  have e3:=fly.1 _ _ e2
  have h:h''.get? b=some o:=h
  rw [h] at e3; cases e3; exact e2
end
structure lV (X:Cx) (E:XK):Prop where
 pass:mO (eO X.prog X.w) X E
 made:∀ (pins:List (Addr × Obj)) (σ:St) (H:Hp) (s:Shared) (h':Heap) (e C:Addr) (args:List Value),a6 X pins σ H s->Heap.MadeExcOf s.heap h' e (.ref C) args->E (.ref C) none H->X.xe (.ref e) { s with heap:=h' }
 own:PassesOwn (model X.prog X.w) X.A X.env X.xe
theorem aC9 {P:Program}{w:World}{K:PySem.W.Frag}{mg:Str->Option Value}{base:Heap}{N:List Str}{qual:Str}{scope:Scope}{f:Addr}{cd:Value}{A:Around}{outer:List Env}{s₀:Shared}{H₀:Hp}{E₀ E₁:XK} (hE:∀ c d H',E₁ c d H'->E₀ c d H') :
  lV (dF (eO P w) P w K mg base N qual scope f cd A outer s₀ H₀ E₀) E₁:=
 ⟨aC7 hE,fun _ _ _ _ _ _ _ _ I mx q=>aC8 I mx (hE _ _ _ q),PassesOwn.leaving⟩
def O7 (E:XK) (C:Addr) (t:TA):TS:=fun _ σ H=>t σ H fun vs H1=>vs.length<=sizeLine/\E (.ref C) none H1
theorem aD0 {X:Cx}{E:XK}{x:Str}{C:Addr}{bm:List Value}{B newId initId:String}{np cpos pos:Pos}{e:Expr}{es:List Expr}{t:TA} (hX:lV X E) (hc:X.calm=true) (O:OwnCls x C bm newId X.mg X.base) (FB:ExcBaseFacts B newId initId bm) (ha:PA X (e :: es) t) (hg:Gl X x)
  (hd:(x == ("__debug__" : Str))=false:=by decide) (he:starEach (e :: es) X.env=(false,eval e X.env) :: starEach es X.env:=by rfl) (hpl:(backTo cpos (starEach es X.env)).any (·.1)=false:=by rfl) :
  PS X (.Raise (some (.Call (.Name x np) (e :: es) [] cpos)) none pos) (O7 E C t):=by
 intro pins s σ H D I h
 obtain ⟨tl,Na,nm,qn,bs,hx,sn,sub,ab,col,dd,k0,k1,k2,k3,k5,mN,hC,hN,hni,T⟩:=O.obj
 refine wpAny_Raise_call_subT (nm:=nm) (q:=qn) (N:=Na) (bs:=bs) (bm:=tl) (hdct:=hx) (sn:=sn) (sub:=sub) (ab:=ab) (col:=col) (dd:=dd) (k0:=k0) (k1:=k1) (k2:=k2) (k3:=k3) (k5:=k5) FB (C:=C) (mN:=mN) (T.hasType FB.hasBase) (I.ok.hd hc) (by rw [he]; show (false || (backTo cpos (starEach es X.env)).any (·.1))=false; rw [hpl]; rfl) hni (sL I hg O.bound ⟨rfl,?_⟩ hd)
 have h1:=ha cpos pins s σ H _ I h
 rw [he] at h1 ⊢
 refine Calls.evalArgs_plain (bj6 h1 (fun us s2 h2=>?_) fun _ _ y=>y)
 obtain ⟨vs,H2,I2,r,hl,q⟩:=h2
 have r:aJ vs us:=r
 exact⟨rfl,by show us.length<=sizeLine; rw [<- r.length]; exact hl,I2.bk _ _ hC,hN.keeps I2.bk,T.keeps I2.bk,fun h' e' mx=>hX.made pins σ H2 s2 h' e' C _ I2 mx q⟩
theorem fG.okX {P:Program}{w:World}{K:PySem.W.Frag}{mg:Str->Option Value}{base:Heap}{x qual:Str}{st:Stmt}{f:Addr}{fd:FuncData}{N ps:List Str}{k:Nat}{sp:Sp} (F:fG K x qual st f fd) (S:FnScope N ps (aU st)) (len:∀ vs H Q E,sp vs H Q E->vs.length=ps.length)
  (hbody:∀ (cdv:Value) (A:Around) (outer:List Env) (s:Shared) (H:Hp) (vs:List V) (Q:VK) (E:XK),cD k (A.deeper (envOfC qual (aU st) s.heap.objs.size f cdv))->sp vs H Q E->
   ∃ t,dZ (dF (eO P w) P w K mg base N qual (aU st) f cdv A outer s H E) (eI st) t/\t { nx:=fun _ H'=>Q .non H',rt:=Q } (gD N vs) H):dE P w K mg base (eO P w) (k+1) f fd ps sp:=by
 obtain ⟨oc,od,kV,doc,pm,an,cdv,ct,osl,rfl,lk,hcd⟩:=F.ex
 exact zH lk hcd S len fun A outer s H vs Q E hr hsp=>hbody cdv A outer s H vs Q E hr hsp
section
variable {X : Cx} {pins : List (Addr × Obj)} {σ : St} {H H1 H' : Hp} {s s1 s' : Shared} {B h2 : Heap} {a C : Addr}
abbrev Cx.suite (X:Cx) (a:Addr):Cx:={ X with A:=X.A.mark (some (.ref a)),calm:=false,xe:=fun _ _=>False }
end
abbrev TB:=cN->XK->St->Hp->Prop
section
variable {X : Cx} {pins : List (Addr × Obj)} {σ : St} {H H' : Hp} {s : Shared} {a : Addr}
theorem a6.reH (I:a6 X pins σ H s) (d:∀ b,b ≠ a->H' b=H b) (ha:∃ x,H a=some x) (tup:∀ xs,H a ≠ some (.tup xs)) (frz:∀ o v,X.H₀ a ≠ some (.frz o v)) (tbl:∀ ps,H a ≠ some (.tbl ps)) (hok:bU X.prog X.w H' s.heap):a6 X pins σ H' s:=by
 have none:∀ b,H b=none->H' b=none:=fun b e=>by
  rw [d b fun z=>?_]; exact e
  obtain ⟨x,hx⟩:=ha
  rw [z,hx] at e; cases e
 refine⟨I.ok,I.os,I.bare,⟨I.base.keep,I.base.slot,fun b o e n hx=>none b (I.base.free b o e n hx),I.base.there,fun b xs q=>?_,fun b o u q=>?_,fun b ps q=>?_⟩,I.loc,I.cell,none _ I.free,fun x c e=>none c (I.freeC x c e),fun p hp=>?_,hok,I.len⟩
 ·have e:=I.base.tups b xs q
  rw [d b fun z=>tup xs (by rw [<- z]; exact e)]; exact e
 ·rw [d b fun z=>frz o u (by rw [<- z]; exact q)]; exact I.base.frzs b o u q
 ·obtain ⟨more,e⟩:=I.base.tbls b ps q
  exact⟨more,by rw [d b fun z=>tbl _ (by rw [<- z]; exact e)]; exact e⟩
 ·obtain ⟨e,n,r⟩:=I.pin p hp
  exact⟨e,none _ n,r⟩
theorem a6.thaw {o:Obj}{u:HO} (I:a6 X pins σ H s) (h:H a=some (.frz o u)) (n:∀ o v,X.H₀ a ≠ some (.frz o v)):a6 X pins σ (upd H a u) s:=by
 have own:∀ {c:Addr}{y:Addr},H c=some (.own y)->c ≠ a:=fun {c y} q z=>by rw [z,h] at q; cases q
 have tp:∀ {c:Addr}{xs:List V},H c=some (.tup xs)->c ≠ a:=fun {c xs} q z=>by rw [z,h] at q; cases q
 refine I.reH (a:=a) (fun b n=>aH n) ⟨_,h⟩ (fun xs q=>by rw [h] at q; cases q) n (fun ps q=>by rw [h] at q; cases q) fun b v q=>?_
 by_cases hb:b=a
 ·subst hb
  rw [aW] at q; cases q
  exact bT.stay (I.hok b _ h).2 (fun _ _ _ q=>q) (fun c q=>by rw [aH (own q)]; exact q) fun c xs q=>by rw [aH (tp q)]; exact q
 ·rw [aH hb] at q
  exact (I.hok b v q).stay (fun _ _ _ q=>q) (fun c q=>by rw [aH (own q)]; exact q) fun c xs q=>by rw [aH (tp q)]; exact q
end
def O8 (a:Addr) (o:Obj) (ys:List V):It:=
 ⟨fun i H=>(∃ u,H a=some (.frz o u))/\i < ys.length,fun i H v H'=>H'=H/\ys[i]? = some v,fun i H=>(∃ u,H a=some (.frz o u))/\i=ys.length⟩
theorem aD1 {P:Program}{w:World}{K:PySem.W.Frag}{tg:Expr}{o:Obj}{es:Array DictEntry}{ep:Nat}{ys:List V} (a it:Addr) (od:o.ExactDict/\o.data = .dict es ep) (vl:aJ ys (es.toList.map (·.key))) :
  gP P w K tg (O8 a o ys) [it] it (fun i h=>h.IsKeyIter it a i es.size ep):=by
 have hs:es.size=ys.length:=by
  have:=vl.length
  rw [bb4,bd9] at this
  exact this.symm
 refine⟨by simp,fun i h st b hb=>?_,fun i h h' st k=>st.at fun o e=>k it (by simp) o e,?_,?_,fun _ _ _ _ _ st q=>wpAny_pyIter_keyiter st q⟩
 ·obtain rfl:b=it:=by simpa using hb
  obtain ⟨o,e,c,d⟩:=st
  exact⟨o,e,fun v z=>by rw [d] at z; cases z⟩
 ·intro X hP hw hK hc i pins s σ H E I hf st hg
  subst hP hw hK
  obtain ⟨⟨u,hu⟩,hi⟩:=hg
  obtain ⟨f0,f1,f2,f3,f4,f5⟩:=hf it (by simp)
  refine Raw.turn (I.ok.hd hc) st ⟨o,(I.hok a _ hu).1,od.1,od.2⟩ (fun lt h' again sb=>?_) (fun ge=>absurd ge (by omega))
  have I1:a6 X pins σ H { s with heap:=h' }:=I.turned (t':=s.toks) (fun b o hb e=>(sb.2 b hb).trans e) f0 f1 f3 f4 f5
  have hv:=bb2 hi
  obtain ⟨key,hk,rv⟩:=vl.get hv
  obtain rfl:key=es[i].key:=by
   rw [bc6] at hk
   simp [lt] at hk
   exact hk.symm
  obtain ⟨o',e,c,d⟩:=id again
  exact⟨es[i].key,rfl,oP (s:={ s with heap:=h' }) e c d (by decide) ⟨_,H,I1,rv,⟨rfl,hv⟩,again,fun b hb=>(hf b hb).1⟩⟩
 ·intro X hP hw hK hc i pins s σ H E I hf st hg
  subst hP hw hK
  obtain ⟨⟨u,hu⟩,hi⟩:=hg
  obtain ⟨f0,f1,f2,f3,f4,f5⟩:=hf it (by simp)
  exact Raw.turn (I.ok.hd hc) st ⟨o,(I.hok a _ hu).1,od.1,od.2⟩ (fun lt=>absurd lt (by omega)) fun _ h' eb=>⟨rfl,I.turned (t':=s.toks) (fun b o hb e=>eb b o hb e) f0 f1 f3 f4 f5⟩
section
variable {X : Cx} {tg l : Expr} {tl : TE}
def O9 (X:Cx) (t:TE):TE:=fun σ H Q=>t σ H fun v H'=>∃ a o u,H' a=some (.frz o u)/\(∀ o' v',X.H₀ a ≠ some (.frz o' v'))/\Q v (upd H' a u)
end
end L2
namespace Core
open PySem L2 PP
def gL (ns:List Int):Bool:=((ns.zip (ns.drop 1)).map fun p=>decide (p.1 < p.2)).all id
theorem aD2 {α β:Type}{l:List α}{f:α->β}{i:Nat}{x:α} (h:l[i]? = some x):(l.take (i+1)).map f=(l.take i).map f ++ [f x]:=by
 rw [bi9,h]; simp
theorem eQ:∀ {ns:List Int},gL ns=true->ns.Pairwise (· < ·)
 | [],_=>.nil
 | [x],_=>bg1 _ _
 | x :: y :: r,h=>by
  have e:gL (x :: y :: r)=(decide (x < y) && gL (y :: r)):=rfl
  rw [e,bf0] at h
  have ih:=eQ h.2
  refine List.pairwise_cons.mpr ⟨fun z hz=>?_,ih⟩
  rcases bb8.mp hz with rfl | hz
  ·exact bi8 h.1
  ·exact Int.lt_trans (bi8 h.1) (List.rel_of_pairwise_cons ih hz)
theorem P0:∀ {ns:List Int},ns.Pairwise (· < ·)->gL ns=true
 | [],_=>rfl
 | [x],_=>rfl
 | x :: y :: r,h=>by
  have e:gL (x :: y :: r)=(decide (x < y) && gL (y :: r)):=rfl
  have h':=List.pairwise_cons.mp h
  rw [e,P0 h'.2,Bool.and_true]
  exact bc9 (h'.1 y bc2)
def kin (ws:List Int) (ls:List (Int × Int)) (S:List Int) (h:Int):Bool:=!decide (h ∈ S) && decide (ws.getD h.toNat 0<=(((aZ ls h).filter fun x=>decide (x ∈ S)).length:Int))
def nextOf (ws:List Int) (ls:List (Int × Int)) (S:List Int):List Int:=((List.range ws.length).map fun (i:Nat)=>(i:Int)).filter (kin ws ls S)
def aR (ws:List Int) (ls:List (Int × Int)) (S:List Int):Nat->List Int
 | 0=>S
 | k+1=>aR ws ls S k ++ nextOf ws ls (aR ws ls S k)
def cold (ws:List Int) (S:List Int):Nat:=(((List.range ws.length).map fun (i:Nat)=>(i:Int)).filter fun x=>!decide (x ∈ S)).length
theorem w4 {α:Type} (p q:α->Bool) (h:∀ x,q x=true->p x=false):∀ L:List α,(L.filter fun x=>!p x && !q x).length+(L.filter q).length=(L.filter fun x=>!p x).length
 | []=>rfl
 | x :: r=>by
  have ih:=w4 p q h r
  cases e1:p x with
  | true=>
   have e2:q x=false:=by
    cases e:q x with
    | false=>rfl
    | true=>have:=h x e; rw [e1] at this; cases this
   simp only [List.filter_cons,e1,e2,Bool.not_true,Bool.false_and,bd5,bh5]
   exact ih
  | false=>
   cases e2:q x with
   | true=>
    simp only [List.filter_cons,e1,e2,Bool.not_true,Bool.not_false,Bool.and_false,bd5,bh5,if_true,be4]
    omega
   | false=>
    simp only [List.filter_cons,e1,e2,Bool.not_false,Bool.and_true,bd5,bh5,if_true,be4]
    omega
theorem w5 {ws:List Int}{ls:List (Int × Int)}{S:List Int}{x:Int} (h:kin ws ls S x=true):decide (x ∈ S)=false:=by
 unfold kin at h
 cases e:decide (x ∈ S) with
 | false=>rfl
 | true=>rw [e] at h; cases h
theorem w6 (ws:List Int) (ls:List (Int × Int)) (S:List Int):cold ws (S ++ nextOf ws ls S)+(nextOf ws ls S).length=cold ws S:=by
 have e:=w4 (fun x=>decide (x ∈ S)) (kin ws ls S) (fun x h=>w5 h) ((List.range ws.length).map fun (i:Nat)=>(i:Int))
 unfold cold
 rw [<- e]
 congr 2
 refine List.filter_congr fun x hx=>?_
 have:decide (x ∈ S ++ nextOf ws ls S)=(decide (x ∈ S) || kin ws ls S x):=by
  rw [bl5]
  unfold nextOf
  simp only [bf5,be1,bl4,Bool.or_eq_true]
  exact⟨fun z=>z.elim .inl fun z=>.inr z.2,fun z=>z.elim .inl fun z=>.inr ⟨hx,z⟩⟩
 rw [this]
 cases decide (x ∈ S) <;> cases kin ws ls S x <;> rfl
theorem aD3 (ws:List Int) (S:List Int):cold ws S<=ws.length:=by
 unfold cold
 refine bf6 (bn5 _ _) ?_
 rw [bb4,bk9]; exact bb6 _
theorem aD4 (ws:List Int) (ls:List (Int × Int)) (S:List Int):(nextOf ws ls S).length<=ws.length:=by
 unfold nextOf
 refine bf6 (bn5 _ _) ?_
 rw [bb4,bk9]; exact bb6 _
def after (ws:List Int) (ls:List (Int × Int)) (S:List Int) (m:Nat):List (List Int):=(List.range m).map fun k=>nextOf ws ls (aR ws ls S k)
theorem P3 (ws:List Int) (ls:List (Int × Int)) (S:List Int) (m:Nat):after ws ls S (m+1)=after ws ls S m ++ [nextOf ws ls (aR ws ls S m)]:=by
 unfold after
 rw [List.range_succ,bd7]; rfl
theorem P4 (ws:List Int) (ls:List (Int × Int)) (ns:List Int):∀ k,(aR ws ls ns k).length+cold ws (aR ws ls ns k)=ns.length+cold ws ns
 | 0=>rfl
 | k+1=>by
  have ih:=P4 ws ls ns k
  have cs:=w6 ws ls (aR ws ls ns k)
  show (aR ws ls ns k ++ nextOf ws ls (aR ws ls ns k)).length+cold ws (aR ws ls ns k ++ nextOf ws ls (aR ws ls ns k))=_
  rw [bc4]; omega
theorem P5 {ws ns:List Int} (hu:ns.Pairwise (· < ·)) (hin:∀ x ∈ ns,0<=x/\x < (ws.length:Int)):ns.length+cold ws ns<=ws.length:=by
 have nd:ns.Nodup:=hu.imp fun h=>Int.ne_of_lt h
 have sub:ns ⊆ ((List.range ws.length).map fun (i:Nat)=>(i:Int)).filter fun x=>decide (x ∈ ns):=fun x hx=>by
  refine bl4.mpr ⟨bd1.mpr ⟨x.toNat,bo3.mpr ?_,?_⟩,bc9 hx⟩
  ·have:=hin x hx; omega
  ·have:=hin x hx; omega
 have h1:=nd.length_le_of_subset sub
 have h2:=w4 (fun _=>false) (fun x=>decide (x ∈ ns)) (fun _ _=>rfl) ((List.range ws.length).map fun (i:Nat)=>(i:Int))
 have h3:(((List.range ws.length).map fun (i:Nat)=>(i:Int)).filter fun x=>!false && !decide (x ∈ ns)).length=cold ws ns:=rfl
 have h4:(((List.range ws.length).map fun (i:Nat)=>(i:Int)).filter fun x=>!false).length<=ws.length:=by
  refine bf6 (bn5 _ _) ?_
  rw [bb4,bk9]; exact bb6 _
 rw [h3] at h2
 omega
theorem w9 (ws:List Int) (ls:List (Int × Int)) (ns:List Int):∀ m,(ns :: after ws ls ns m).flatten=aR ws ls ns m
 | 0=>by simp [after,aR]
 | m+1=>by
  rw [P3,<- List.cons_append,List.flatten_append,w9 ws ls ns m]
  simp [aR]
def cN (ws:List Int) (ls:List (Int × Int)) (ns:List Int) (m:Nat):Prop:=(∀ k < m,nextOf ws ls (aR ws ls ns k) ≠ [])/\nextOf ws ls (aR ws ls ns m) = []
theorem P6 {ws:List Int}{ls:List (Int × Int)}{ns:List Int}:∀ (m:Nat),(∀ k < m,nextOf ws ls (aR ws ls ns k) ≠ [])->m+cold ws (aR ws ls ns m)<=ws.length
 | 0,_=>by have:=aD3 ws ns; show 0+cold ws ns<=_; omega
 | m+1,h=>by
  have ih:=P6 m fun k hk=>h k (by omega)
  have cs:=w6 ws ls (aR ws ls ns m)
  have:1<=(nextOf ws ls (aR ws ls ns m)).length:=by
   cases e:nextOf ws ls (aR ws ls ns m) with
   | nil=>exact absurd e (h m (by omega))
   | cons _ _=>exact Nat.succ_le_succ (bf1 _)
  show m+1+cold ws (aR ws ls ns m ++ nextOf ws ls (aR ws ls ns m))<=_
  omega
theorem hJ {ns:List Int}{i:Nat}{x:PV} (h:(intz ns)[i]? = some x):∃ n,x = .int n/\ns[i]? = some n:=by
 rw [bc6] at h
 cases e:ns[i]? with
 | none=>rw [e] at h; cases h
 | some n=>rw [e] at h; exact⟨n,(be0 h).symm,rfl⟩
theorem iH {lo:Int}{n i:Nat}{x:PV} (h:(eM lo n)[i]? = some x):x = .int (lo+i)/\i < n:=by
 have hi:i < n:=by
  have:=(bc5.mp h).1
  rwa [eD] at this
 rw [G7 hi] at h
 exact⟨(be0 h).symm,hi⟩
def rng (n:Nat):List Int:=(List.range n).map fun (i:Nat)=>(i:Int)
theorem fO (n:Nat):(rng n).length=n:=by unfold rng; rw [bb4,bk9]
theorem aD5 {n i:Nat} (h:i < n):(rng n)[i]? = some (i:Int):=by unfold rng; rw [bc6,List.getElem?_range h]; rfl
theorem bQ {n:Nat}{x:Int}:x ∈ rng n ↔ 0<=x/\x < (n:Int):=by
 unfold rng
 rw [bd1]
 constructor
 ·rintro ⟨i,hi,rfl⟩
  have:=bo3.mp hi
  omega
 ·intro h
  exact⟨x.toNat,bo3.mpr (by omega),by omega⟩
theorem rA {α:Type}{l:List α}{p:α->Bool}{i:Nat}{x:α} (h:l[i]? = some x):(l.take (i+1)).filter p=(l.take i).filter p ++ (if p x=true then [x] else []):=by
 rw [bi9,h,List.filter_append]
 congr 1
 cases e:p x <;> simp [e]
theorem gM (a b:List Int):intz (a ++ b)=intz a ++ intz b:=bd7
theorem bA (a:List Int):(intz a).length=a.length:=bb4 _
def bG (ws:List Int) (ls:List (Int × Int)):PV:=.tup [.tup (intz ws),.tup (ls.map fun l=>.tup [.int l.1,.int l.2])]
structure Wb (ws:List Int) (ls:List (Int × Int)):Prop where
 few:ws.length<=40
 most:ls.length<=1700
 links:∀ l ∈ ls,(0<=l.1/\l.1 < ws.length)/\0<=l.2/\l.2 < ws.length
def cQ (x:PV) (ns:List Int):Prop:=x = .tup (intz ns) ∨ x = .lst (intz ns)
theorem cQ.seq {x:PV}{ns:List Int} (h:cQ x ns):gX x=some (intz ns):=by rcases h with rfl | rfl <;> rfl
theorem cQ.seqT {x:PV}{ns:List Int} (h:cQ x ns):seqT x=some (intz ns):=by rcases h with rfl | rfl <;> rfl
theorem hV:∀ (ls:List (Int × Int)),flats (ls.map fun l=>PV.tup [.int l.1,.int l.2])=true
 | []=>rfl
 | l :: r=>by
  show (flat (.tup [.int l.1,.int l.2]) && flats (r.map fun l=>PV.tup [.int l.1,.int l.2]))=true
  rw [hV r]; rfl
theorem rB (ws:List Int) (ls:List (Int × Int)):flat (bG ws ls)=true:=by
 show flats [.tup (intz ws),.tup (ls.map fun l=>PV.tup [.int l.1,.int l.2])]=true
 show (flat (.tup (intz ws)) && (flat (.tup (ls.map fun l=>PV.tup [.int l.1,.int l.2])) && true))=true
 show (flats (intz ws) && (flats (ls.map fun l=>PV.tup [.int l.1,.int l.2]) && true))=true
 rw [cE,hV]; rfl
theorem wA (ns:List Int):flat (.tup (intz ns))=true:=cE ns
def jF:bD:=fun xs Q=>∃ ws ls,xs = [bG ws ls]/\Q (.int ws.length)
def P7:aP:=(bO (aB eZ (a7 (cB (a5 0) (qC (.int 0))) a9)))
abbrev cU (t:aP) (N:List Str) (p:bD):Prop:=∀ xs Q,p xs Q->t { nx:=fun _=>Q .non,rt:=Q } (fL N xs)
theorem aD6:cU P7 ["web"] jF:=by
 rintro xs Q ⟨ws,ls,rfl,q⟩
 refine⟨_,rfl,_,_,_,rfl,rfl,rfl,_,_,rfl,rfl,trivial,?_⟩
 rw [bA]; exact q
def P8:bD:=fun xs Q=>∃ x ns,xs = [x]/\cQ x ns/\ns.length<=1000/\Q (.bl (gL ns))
def inB (n:Nat) (x:Int):Bool:=decide (0<=x) && decide (x < (n:Int))
def nZ:bD:=fun xs Q=>∃ ws ls n,xs = [bG ws ls,.int n]/\Q (.bl (inB ws.length n))
def P9:aP:=(bO (lC (vA (a5 1) (qC (.int 0))) (lN (a5 1) (aB jF (a7 (a5 0) a9)))))
theorem aD7:cU P9 ["web","number"] nZ:=by
 rintro xs Q ⟨ws,ls,n,rfl,q⟩
 refine⟨_,rfl,_,_,rfl,rfl,_,rfl,?_⟩
 unfold inB at q
 by_cases h:(0:Int)<=n
 ·rw [bc9 h] at q ⊢
  refine bV ⟨_,rfl,_,rfl,ws,ls,rfl,_,_,rfl,rfl,trivial,?_⟩
  simpa using q
 ·rw [bb7 h] at q ⊢
  exact b6 ⟨trivial,by simpa using q⟩
def bB (n:Nat) (ns:List Int):Bool:=gL ns && (ns.map (inB n)).all id
def wB:bD:=fun xs Q=>∃ ws ls x ns,xs = [bG ws ls,x]/\cQ x ns/\ns.length<=1000/\Q (.bl (bB ws.length ns))
def aD8:aP:=(bO (lC (aB P8 (a7 (a5 1) a9)) (aB nE (a7 (dI (eC (a5 1)) [none,some 0] (bS 0) dC (aB nZ (a7 (a5 1) (a7 (a5 0) a9)))) a9))))
theorem o0 {x:PV}{ns:List Int} (h:cQ x ns):(Slot.sh (flat x) x).tag = .rd->flat x=true:=by
 cases flat x <;> intro z <;> cases z
theorem aD9:cU aD8 ["web","numbers"] wB:=by
 rintro xs Q ⟨ws,ls,x,ns,rfl,hx,hl,q⟩
 refine⟨_,rfl,x,ns,rfl,hx,hl,_,rfl,?_⟩
 unfold bB at q
 cases h:gL ns with
 | false=>rw [h] at q; exact b6 ⟨trivial,q⟩
 | true=>
  rw [h] at q
  refine bV ⟨_,rfl,_,hx.seq,o0 hx,by rw [bA]; omega,fun i acc=>acc=(((ns.take i).map (inB ws.length)).map PV.bl),rfl,?_,?_⟩
  ·rintro i y acc hy rfl
   obtain ⟨n,rfl,hn⟩:=hJ hy
   have tk:((ns.take (i+1)).map (inB ws.length)).map PV.bl=((ns.take i).map (inB ws.length)).map PV.bl ++ [PV.bl (inB ws.length n)]:=by rw [aD2 hn,bd7]; rfl
   exact⟨_,rfl,_,rfl,ws,ls,n,rfl,trivial,tk.symm⟩
  ·rintro acc rfl
   rw [bA,bj8]
   exact⟨_,rfl,trivial,by simpa using q⟩
theorem cQ.noscr {x:PV}{ns:List Int} (h:cQ x ns):∀ ms,([x]:List PV) ≠ [.scr ms]:=by
 rcases h with rfl | rfl <;> intro ms z <;> cases z
structure DS (ps:List (aA × PV)) (S:List Int):Prop where
 has:∀ i:Int,(bL ps (Sum.inl i:aA)).isSome=decide (i ∈ S)
 len:ps.length<=S.length
 fl:flats (ps.map (·.2))=true
theorem DS.nil:DS [] []:=⟨fun i=>rfl,bb6 _,rfl⟩
section
variable {κ : Type} [DecidableEq κ]
theorem aE0 {k:κ}:bL ([]:List (κ × PV)) k=none:=rfl
theorem iI {p:κ × PV}{r:List (κ × PV)}{k:κ} (e:p.1=k):bL (p :: r) k=some p.2:=by simp [bL,bm1,e]
theorem iJ {p:κ × PV}{r:List (κ × PV)}{k:κ} (e : ¬ p.1=k):bL (p :: r) k=bL r k:=by simp [bL,bm1,e]
theorem wC (k:κ):∀ kvs:List (κ × PV),(kvs.any fun kv=>decide (kv.1=k))=(bL kvs k).isSome
 | []=>rfl
 | p :: r=>by
  rw [List.any_cons]
  by_cases e:p.1=k
  ·simp only [iI e,bc9 e,Bool.true_or,Option.isSome_some]
  ·rw [iJ e,bb7 e,Bool.false_or]; exact wC k r
theorem Q0 (k j:κ) (y:PV):∀ kvs:List (κ × PV),bL (kvs.map fun kv=>if kv.1=k then (kv.1,y) else kv) j=(bL kvs j).map fun x=>if j=k then y else x
 | []=>rfl
 | p :: r=>by
  have ih:=Q0 k j y r
  rw [bf4]
  by_cases h:p.1=k
  ·rw [if_pos h]
   by_cases e:p.1=j
   ·rw [iI (p:=(p.1,y)) e,iI e,Option.map_some,if_pos (e.symm.trans h)]
   ·rw [iJ (p:=(p.1,y)) e,iJ e,ih]
  ·rw [if_neg h]
   by_cases e:p.1=j
   ·rw [iI (p:=p) e,iI e,Option.map_some,if_neg (fun z=>h (e.trans z))]
   ·rw [iJ (p:=p) e,iJ e,ih]
theorem Q2 (k j:κ) (y:PV):∀ kvs:List (κ × PV),bL kvs k=none->bL (kvs ++ [(k,y)]) j=if j=k then some y else bL kvs j
 | [],_=>by
  by_cases e:k=j
  ·rw [if_pos e.symm]; exact iI (p:=(k,y)) e
  ·rw [if_neg (fun z=>e z.symm)]; exact iJ (p:=(k,y)) e
 | p :: r,hn=>by
  rw [List.cons_append]
  have hk : ¬ p.1=k:=fun z=>by rw [iI z] at hn; cases hn
  rw [iJ hk] at hn
  have ih:=Q2 k j y r hn
  by_cases e:p.1=j
  ·rw [iI e,iI e,if_neg (fun z=>hk (e.trans z))]
  ·rw [iJ e,iJ e,ih]
theorem Q3 (kvs:List (κ × PV)) (k j:κ) (y:PV):bL (cH kvs k y) j=if j=k then some y else bL kvs j:=by
 unfold cH
 by_cases a:(kvs.any fun kv=>decide (kv.1=k))=true
 ·rw [if_pos a,Q0]
  rw [wC] at a
  by_cases e:j=k
  ·obtain ⟨x,hx⟩:=Option.isSome_iff_exists.mp a
   rw [if_pos e,e,hx,Option.map_some,if_pos rfl]
  ·rw [if_neg e]
   cases bL kvs j with
   | none=>rfl
   | some x=>rw [Option.map_some,if_neg e]
 ·rw [if_neg a]
  refine Q2 k j y kvs ?_
  rw [wC] at a
  cases q:bL kvs k with
  | none=>rfl
  | some x=>rw [q] at a; exact (a rfl).elim
theorem wD (kvs:List (κ × PV)) (k:κ) (v:PV):(cH kvs k v).length<=kvs.length+1:=by
 unfold cH
 split
 ·rw [bb4]; omega
 ·rw [bc4,be4,List.length_nil]; omega
end
theorem Q4:∀ (xs:List PV),flats xs=true ↔ ∀ x ∈ xs,flat x=true
 | []=>by simp [flats]
 | x :: r=>by
  unfold flats
  rw [bf0,Q4 r]; simp
theorem aE1 {κ:Type} [DecidableEq κ] {ps:List (κ × PV)}{k:κ}{v:PV}{p:κ × PV} (h:p ∈ cH ps k v):p.2=v ∨ p ∈ ps:=by
 unfold cH at h
 split at h
 ·obtain ⟨q,hq,e⟩:=bd1.mp h
  split at e
  ·subst e; exact .inl rfl
  ·subst e; exact .inr hq
 ·rcases be1.mp h with h | h
  ·exact .inr h
  ·rw [bc1.mp h]; exact .inl rfl
theorem wE {κ:Type} [DecidableEq κ] {ps:List (κ × PV)}{k:κ}{v:PV} (h:flats (ps.map (·.2))=true) (hv:flat v=true):flats ((cH ps k v).map (·.2))=true:=by
 rw [Q4] at h ⊢
 intro x hx
 obtain ⟨p,hp,rfl⟩:=bd1.mp hx
 rcases aE1 hp with e | e
 ·rw [e]; exact hv
 ·exact h _ (bd1.mpr ⟨p,e,rfl⟩)
theorem DS.put {ps:List (aA × PV)}{S:List Int} (h:DS ps S) (x:Int) (v:PV) (hv:flat v=true):DS (cH ps (Sum.inl x:aA) v) (S ++ [x]):=by
 refine⟨fun i=>?_,?_,wE h.fl hv⟩
 ·rw [Q3]
  by_cases e:i=x
  ·subst e; rw [if_pos rfl]; simp
  ·rw [if_neg (fun z=>e (Sum.inl.inj z)),h.has]
   simp [e]
 ·have:=wD ps (Sum.inl x:aA) v
  have:=h.len
  rw [bc4,bk7]; omega
theorem DS.merge {S:List Int}:∀ {mp ps:List (aA × PV)}{T:List Int},DS ps S->DS mp T->DS (gZ ps mp) (S ++ T):=by
 have key:∀ (mp:List (aA × PV)) {ps:List (aA × PV)} (i:Int),(bL (gZ ps mp) (Sum.inl i:aA)).isSome=((bL ps (Sum.inl i:aA)).isSome || (bL mp (Sum.inl i:aA)).isSome):=fun mp=>by
  induction mp with
  | nil=>intro ps i; show (bL ps (Sum.inl i:aA)).isSome=_; rw [aE0]; simp
  | cons p r ih=>
   intro ps i
   show (bL (gZ (cH ps p.1 p.2) r) (Sum.inl i:aA)).isSome=_
   rw [ih,Q3]
   by_cases e:(Sum.inl i:aA)=p.1
   ·rw [if_pos e,iI e.symm]; simp
   ·rw [if_neg e,iJ (Ne.symm e)]
 have keyl:∀ (mp:List (aA × PV)) {ps:List (aA × PV)},(gZ ps mp).length<=ps.length+mp.length:=fun mp=>by
  induction mp with
  | nil=>intro ps; exact bb6 _
  | cons p r ih=>
   intro ps
   have h1:=ih (ps:=cH ps p.1 p.2)
   have h2:=wD ps p.1 p.2
   show (gZ (cH ps p.1 p.2) r).length<=_
   rw [be4]; omega
 have keyf:∀ (mp:List (aA × PV)) {ps:List (aA × PV)},flats (ps.map (·.2))=true->flats (mp.map (·.2))=true->flats ((gZ ps mp).map (·.2))=true:=fun mp=>by
  induction mp with
  | nil=>intro ps h _; exact h
  | cons p r ih=>
   intro ps h g
   have g:(flat p.2 && flats (r.map (·.2)))=true:=g
   rw [bf0] at g
   exact ih (ps:=cH ps p.1 p.2) (wE h g.1) g.2
 intro mp ps T h g
 refine⟨fun i=>?_,?_,keyf mp h.fl g.fl⟩
 ·rw [key,h.has,g.has,bl5]; simp
 ·have:=keyl mp (ps:=ps)
  have:=h.len
  have:=g.len
  rw [bc4]; omega
def o4:bD:=fun xs Q=>∃ x ns,xs = [x]/\cQ x ns/\ns.length<=1000/\∀ ps,DS ps ns->Q (.dK ps)
def Q5:aP:=(aK (dS 1 (qC (.dK [])))
 (aK (dH (eC (a5 0)) (bS 2)
  (nJ 1 (a5 2) (qC (.bl true))))
 (kF 1)))
theorem aE2:cU Q5 ["hearths","inside","hearth"] o4:=by
 rintro xs Q ⟨x,ns,rfl,hx,hl,q⟩
 refine⟨rfl,rfl,_,rfl,_,hx.seq,o0 hx,fun i ρ=>∃ y ps,ρ = [some (.sh (flat x) x),some (.own (.dK ps)),y]/\DS ps (ns.take i),⟨none,[],rfl,DS.nil⟩,?_,?_⟩
 ·rintro i y ρ hy ⟨y0,ps,rfl,d⟩
  obtain ⟨n,rfl,hn⟩:=hJ hy
  have hlen:=d.len
  rw [bk4] at hlen
  refine⟨_,rfl,_,rfl,Sum.inl n,rfl,trivial,by omega,_,_,rfl,?_⟩
  rw [bi9,hn]
  exact d.put n _ rfl
 ·rintro ρ ⟨y,ps,rfl,d⟩
  rw [bA,bj8] at d
  exact⟨_,rfl,trivial,q ps d⟩
def wF:bD:=fun xs Q=>∃ x ns ps S,xs = [x,.dK ps]/\cQ x ns/\DS ps S/\ns.length<=10000/\Q (.int ((ns.filter fun x=>decide (x ∈ S)).length:Nat))
def aE3:aP:=(bO (aB eZ (a7 (dI (eC (a5 0)) [none,some 1] (bS 0) (bC (jS false (a5 0) (a5 1))) (a5 0)) a9)))
def jW (n:Nat) (ls:List (Int × Int)):List PV:=(List.range n).map fun (k:Nat)=>PV.lst (intz (aZ ls k))
def o5:bD:=fun xs Q=>∃ ws ls,xs = [bG ws ls]/\Wb ws ls/\Q (.lst (jW ws.length ls))
theorem Q6 {n:Nat}{ls:List (Int × Int)}{h:Int} (h0:0<=h) (h1:h < (n:Int)):atI (jW n ls) h=some (.lst (intz (aZ ls h))):=by
 refine pF h0 ?_
 unfold jW
 rw [bc6,List.getElem?_range (by omega)]
 show some (PV.lst (intz (aZ ls ((h.toNat:Nat):Int))))=_
 rw [show ((h.toNat:Nat):Int)=h by omega]
def rC:bD:=fun xs Q=>∃ ws ls ps S h,xs = [bG ws ls,.lst (jW ws.length ls),.dK ps,.int h]/\Wb ws ls/\DS ps S/\0<=h/\h < (ws.length:Int)/\Q (.bl (kin ws ls S h))
def Q7:aP:=(bO (lC (jS true (a5 3) (a5 2)) (vA (aB wF (a7 (cB (a5 1) (a5 3)) (a7 (a5 2) a9))) (cB (cB (a5 0) (qC (.int 0))) (a5 3)))))
theorem lW {ws:List Int}{h:Int} (h0:0<=h) (h1:h < (ws.length:Int)):atI (intz ws) h=some (.int (ws.getD h.toNat 0)):=by
 refine pF h0 ?_
 have:h.toNat < ws.length:=by omega
 rw [bc6,bc0,bb2 this]; rfl
theorem aE4:cU Q7 ["web","around","burning","hearth"] rC:=by
 rintro xs Q ⟨ws,ls,ps,S,h,rfl,wb,d,h0,h1,q⟩
 refine⟨_,rfl,_,rfl,_,.inl ⟨ps,Sum.inl h,rfl,rfl,rfl⟩,_,rfl,?_⟩
 show if (!(bL ps (Sum.inl h:aA)).isSome)=true then _ else _
 rw [d.has h]
 unfold kin at q
 by_cases hm:h ∈ S
 ·rw [bc9 hm] at q ⊢
  exact b6 ⟨trivial,by simpa using q⟩
 ·rw [bb7 hm] at q ⊢
  have nl:=pE ls h
  have:=wb.most
  refine bV ⟨_,rfl,_,rfl,_,_,_,rfl,rfl,Q6 h0 h1,_,rfl,_,aZ ls h,ps,S,rfl,.inr rfl,d,by omega,_,rfl,_,_,_,rfl,rfl,rfl,_,rfl,_,_,_,rfl,rfl,lW h0 h1,_,_,rfl,rfl,trivial,?_⟩
  simpa using q
def o6:bD:=fun xs Q=>∃ ws ls ps S,xs = [bG ws ls,.lst (jW ws.length ls),.dK ps]/\Wb ws ls/\DS ps S/\Q (.tup (intz (nextOf ws ls S)))
def Q8:aP:=(bO (aB dG (a7 (dI (gY (aB jF (a7 (a5 0) a9))) [none,some 0,some 1,some 2] (bS 0) (bC (aB rC (a7 (a5 1) (a7 (a5 2) (a7 (a5 3) (a7 (a5 0) a9)))))) (a5 0)) a9)))
theorem aE5:cU Q8 ["web","around","burning"] o6:=by
 rintro xs Q ⟨ws,ls,ps,S,rfl,wb,d,q⟩
 have few:=wb.few
 refine⟨_,rfl,ws,ls,rfl,_,rfl,by omega,by omega,by rw [eD]; omega,fun i acc=>acc=intz (((rng ws.length).take i).filter (kin ws ls S)),rfl,?_,?_⟩
 ·rintro i y acc hy rfl
  obtain ⟨rfl,hi⟩:=iH hy
  have hi':i < ws.length:=by omega
  have tk:=rA (p:=kin ws ls S) (aD5 hi')
  have e0:(0:Int)+(i:Int)=(i:Int):=by omega
  refine⟨_,rfl,_,rfl,_,rfl,_,rfl,ws,ls,ps,S,_,rfl,wb,d,by omega,by omega,_,rfl,?_⟩
  show if kin ws ls S ((0:Int)+(i:Int))=true then _ else _
  rw [e0]
  cases h:kin ws ls S (i:Int) with
  | true=>
   refine bV ⟨_,rfl,trivial,?_⟩
   rw [h,if_pos rfl] at tk
   show _=intz (List.filter _ (List.take (i+1) _))
   rw [tk,gM]
   show _ ++ [PV.int _]=_
   rfl
  | false=>
   refine b6 ?_
   rw [h,if_neg (by decide),bf8] at tk
   show _=intz (List.filter _ (List.take (i+1) _))
   rw [tk]
 ·rintro acc rfl
  rw [eD,bh8 (by rw [fO]; omega)]
  exact⟨⟨_,_,rfl,rfl,cE _,trivial,q⟩,fun ns z=>by cases z⟩
def tups (rs:List (List Int)):List PV:=rs.map fun r=>PV.tup (intz r)
theorem aE6 {rs:List (List Int)}{i:Nat}{x:PV} (h:(tups rs)[i]? = some x):∃ r,x = .tup (intz r)/\rs[i]? = some r:=by
 unfold tups at h
 rw [bc6] at h
 cases e:rs[i]? with
 | none=>rw [e] at h; cases h
 | some n=>rw [e] at h; exact⟨n,(be0 h).symm,rfl⟩
theorem Q9 (rs:List (List Int)):(tups rs).length=rs.length:=bb4 _
theorem cL {n:Nat}{ns:List Int} (h:bB n ns=true):gL ns=true/\∀ x ∈ ns,0<=x/\x < (n:Int):=by
 unfold bB at h
 rw [bf0,bm4] at h
 refine⟨h.1,fun x hx=>?_⟩
 have:=h.2 _ (bd1.mpr ⟨x,hx,rfl⟩)
 unfold inB at this
 simpa using this
theorem iK {n:Nat}{ns:List Int} (h:bB n ns=true):ns.length<=n:=by
 obtain ⟨h1,h2⟩:=cL h
 have:=P5 (ws:=List.replicate n (0:Int)) (eQ h1) (by rw [List.length_replicate]; exact h2)
 rw [List.length_replicate] at this
 omega
theorem lX {ws:List Int}{ls:List (Int × Int)}{ns:List Int} (h:bB ws.length ns=true) (k:Nat):(aR ws ls ns k).length<=ws.length:=by
 have h1:=P4 ws ls ns k
 have h2:=P5 (eQ (cL h).1) (cL h).2
 omega
end Core
namespace PP
open PySem L2
def o7 (te:aG):aG:=fun ρ Q=>te ρ fun x _=>∃ n:Int,x = .int n/\0<=n/\n<=1000000/\Q (.lst (eM 0 n.toNat)) .fr
def wG:PV->Tg->PV->Tg->PK->Prop:=fun x _ y _ Q=>∃ xs n,x = .tup xs/\y = .int n/\flats xs=true/\xs ≠ []/\2<=n/\n<=1000000/\xs.length<=10/\Q (.tup (List.replicate n.toNat xs).flatten) .fr
abbrev aE7 (ta tb:aG):aG:=q2 wG ta tb
def rD:List PV->(PV->Prop)->Prop:=fun xs Q=>∃ ys:List (List Int),xs = [.lst (ys.map fun r=>PV.tup (intz r))]/\ys.length < 64/\(∀ y ∈ ys,y ≠ [])/\∀ zs:List (List Int),zs.Perm ys->zs.Pairwise (fun u v=>HT.bH v u=false)->Q (.lst (zs.map fun r=>PV.tup (intz r)))
def wH:List PV->(PV->Prop)->Prop:=fun xs Q=>∃ ps:List (List aA × PV),xs = [.dT ps]/\Q (.lst (ps.map fun p=>PV.tup (p.1.map kP)))
end PP
namespace Core
open PySem L2 PP
theorem o8 (g:Tg) (n:Int):Nw g (.int n):=by cases g <;> first | exact trivial | rfl
def iL (x:PV) (ns:List Int):Prop:=x = .scr ns ∨ x = .lst (intz ns)
theorem iL.seq {x:PV}{ns:List Int} (h:iL x ns):gX x=some (intz ns):=by rcases h with rfl | rfl <;> rfl
theorem iL.len {x:PV}{ns:List Int} (h:iL x ns):uR x=some ns.length:=by
 rcases h with rfl | rfl
 ·rfl
 ·show some (intz ns).length=_
  rw [bA]
def g9:bD:=fun xs Q=>∃ x ns k,xs = [x,.int k]/\iL x ns/\0<=k/\Q (.int (ns.getD k.toNat 0))
def R3:aP:=(aK (dB (bC (lN (a5 1) (aB eZ (a7 (a5 0) a9)))) (bO (cB (a5 0) (a5 1))) dA)
 (bO (qC (.int 0))))
theorem aE8:cU R3 ["script","k"] g9:=by
 rintro xs Q ⟨x,ns,k,rfl,hx,h0,q⟩
 refine⟨_,rfl,_,rfl,_,_,rfl,hx.len,_,_,rfl,rfl,_,rfl,?_⟩
 by_cases h:k < (ns.length:Int)
 ·rw [bc9 h]
  exact bV ⟨_,rfl,_,rfl,_,_,_,hx.seq,rfl,lW h0 h,o8 _ _,q⟩
 ·rw [bb7 h]
  rw [bc0,List.getElem?_eq_none (by omega)] at q
  exact b6 ⟨trivial,q⟩
def bE (ls:List (Int × Int)):List PV:=ls.map fun l=>PV.tup [.int l.1,.int l.2]
theorem R4 (ls:List (Int × Int)):(bE ls).length=ls.length:=bb4 _
def eR (l m:Int × Int):Prop:=l.1 < m.1 ∨ (l.1=m.1/\l.2 < m.2)
structure iM (n:Int) (ls:List (Int × Int)) (a b:Int):Prop where
 inn:∀ l ∈ ls,0<=l.1/\l.1 < l.2/\l.2 < n
 ord:ls.Pairwise eR
 low:∀ l ∈ ls,eR l (a,b)
theorem iM.mono {n a b a' b':Int}{ls:List (Int × Int)} (h:iM n ls a b) (m:a < a' ∨ (a=a'/\b<=b')):iM n ls a' b':=
 ⟨h.inn,h.ord,fun l hl=>by have:=h.low l hl; unfold eR at *; dsimp only at *; omega⟩
theorem iM.add {n a b:Int}{ls:List (Int × Int)} (h:iM n ls a b) (h0:0<=a/\a < b/\b < n):iM n (ls ++ [(a,b)]) a (b+1):=by
 refine⟨fun l hl=>?_,?_,fun l hl=>?_⟩
 ·rcases be1.mp hl with hl | hl
  ·exact h.inn l hl
  ·rw [bc1.mp hl]; exact h0
 ·exact bf9.mpr ⟨h.ord,bg1 _ _,fun l hl m hm=>by rw [bc1.mp hm]; exact h.low l hl⟩
 ·rcases be1.mp hl with hl | hl
  ·have:=h.low l hl; unfold eR at *; dsimp only at *; omega
  ·rw [bc1.mp hl]; unfold eR; dsimp only; omega
def aE9:aP:=(aK (dS 4 (gG a9))
 (aK (dH (gY (a5 2)) (bS 5)
  (aK (j7 4 (bM (a5 0) (a5 3)))
  (aY 0 (dD (a5 0) (a5 3)))))
 (aK (dS 6 (gG a9))
 (aK (dH (gY (a5 2)) (bS 7)
  (dH (pT (jA (a5 7) (qC (.int 1))) (a5 2)) (bS 8)
   (aK (dB (bC (jU (bM (a5 1) (qC (.int 2))) (qC (.int 1)))) (j7 6 (eY (a7 (a5 7) (a7 (a5 8) a9)))) dA)
   (aY 1 (dD (a5 1) (qC (.int 2)))))))
 (bO (eY (a7 (aB dG (a7 (a5 4) a9)) (a7 (aB dG (a7 (a5 6) a9)) a9))))))))
abbrev si (n:Int):Option Slot:=some (.sh true (.int n))
theorem cQ.len {x:PV}{ns:List Int} (h:cQ x ns):uR x=some ns.length:=by
 rcases h with rfl | rfl <;> (show some (intz ns).length=_; rw [bA])
theorem wI {ls:List (Int × Int)}{i:Nat}{x:PV} (h:(bE ls)[i]? = some x):∃ l,x = .tup [.int l.1,.int l.2]/\ls[i]? = some l:=by
 unfold bE at h
 rw [bc6] at h
 cases e:ls[i]? with
 | none=>rw [e] at h; cases h
 | some n=>rw [e] at h; exact⟨n,(be0 h).symm,rfl⟩
end Core
namespace PySem
theorem aF0:fillsNumberSlot (.type "tuple") "mul" = pure false:=
 fillsNumberSlot_seq (id:="tuple.__mul__") (r:=some (.builtin "tuple.__rmul__")) F.slot_tuple_mul.lookup (by decide +kernel) F.slot_tuple_rmul.lookup (by decide +kernel)
theorem aF1:seqRepeat? (.type "tuple")=pure (some (.builtin "tuple.__mul__")):=by
 unfold seqRepeat?
 rw [seqSlot_of (T:="tuple") (name:="__mul__") (id:="tuple.__mul__") F.slot_tuple_mul.lookup (by decide +kernel),seqSlot_of (T:="tuple") (name:="__rmul__") (id:="tuple.__rmul__") F.slot_tuple_rmul.lookup (by decide +kernel)]
 rfl
theorem aF2 (a:Int) (t:Tok) (l:Addr) (items:Array Value) (n:Nat) (dd:Option Addr) (sl:Array (Option Value)) :
  Meets (Builtin.«int.__rmul__» ⟨[.int a t,.ref l],[]⟩) (fun _ R s=>s.heap.get? l=some { cls:=.type "tuple",dict:=dd,data:=.seq items n,slots:=sl }/\R (.ok (.ret Value.notImplemented)) s):=
 .of_wp fun prog w A R s h=>by obtain ⟨hp,g,d,tk,os⟩:=s; obtain ⟨hl,h⟩:=h; wp_walk; exact⟨_,rfl,h⟩
theorem aF3 (l:Addr) (items:Array Value) (n:Nat) (dd:Option Addr) (sl:Array (Option Value)) (x:Int) (u:Tok) (h0:items.isEmpty=false) (h1:2<=x) (h2:items.size * x.toNat<=sizeLine) (h3:x<=1000000) :
  Meets (Builtin.«tuple.__mul__» ⟨[.ref l,.int x u],[]⟩) (fun _ R s=>s.heap.get? l=some { cls:=.type "tuple",dict:=dd,data:=.seq items n,slots:=sl }/\R (.ok (.ret (Value.ref s.heap.objs.size))) { s with heap:=s.heap.push { cls:=Value.type "tuple",data:=Data.seq (List.foldl (fun x1 x2=>x1 ++ x2) #[] (List.replicate x.toNat items)) } }):=
 .of_wp fun prog w A R s h=>by
  obtain ⟨hp,g,d,tk,os⟩:=s; obtain ⟨hl,h⟩:=h
  have c1:(decide (x < -(2 ^ 63)) || decide (x >= 2 ^ 63))=false:=by
   rw [Bool.or_eq_false_iff]; exact⟨bb7 (by omega),bb7 (by omega)⟩
  have c2:(items.isEmpty || x == 1)=false:=by rw [h0,Bool.false_or]; exact bp0.mpr (by omega)
  have c3:(decide (x<=0) || items.isEmpty)=false:=by rw [h0,Bool.or_false]; exact bb7 (by omega)
  have hsz:((items.size:Nat):Int) * x=((items.size * x.toNat:Nat):Int):=by rw [Int.natCast_mul]; congr 1; omega
  have hl63:(sizeLine:Nat)<=(2 ^ 63 - 1) / 8:=by decide
  have c4:decide (((items.size:Nat):Int) * x > (2 ^ 63 - 1) / 8)=false:=bb7 (by rw [hsz]; omega)
  have c5:Builtin.Tuple.tupleTooMany (((items.size:Nat):Int) * x)=false:=by
   rw [hsz]
   unfold Builtin.Tuple.tupleTooMany
   exact bb7 (by omega)
  wp_walk
  refine wpAny_ite_false (by rw [c1]; rfl) ?_
  wp_walk
  refine wpAny_ite_false (by rw [c2]; rfl) ?_
  wp_walk
  refine wpAny_ite_false (by rw [c3]; rfl) ?_
  wp_walk
  refine wpAny_ite_false c4 ?_
  wp_walk
  refine wpAny_ite_false (by rw [c5]; rfl) ?_
  wp_walk
  have f0:∀ (m:Nat) (acc:Array Value),(List.foldl (fun x1 x2=>x1 ++ x2) acc (List.replicate m items)).size=acc.size+m * items.size:=fun m=>by
   induction m with
   | zero=>intro acc; simp
   | succ m ih=>intro acc; rw [bj1,List.foldl_cons,ih,Array.size_append,Nat.succ_mul]; omega
  have c6:decide ((List.foldl (fun x1 x2=>x1 ++ x2) #[] (List.replicate x.toNat items)).size > sizeLine)=false:=bb7 (by
   rw [f0 x.toNat #[]]
   have:x.toNat * items.size=items.size * x.toNat:=Nat.mul_comm _ _
   simp only [Array.size_empty]
   omega)
  refine wpAny_ite_false c6 ?_
  wp_walk
  exact⟨_,rfl,h⟩
end PySem
namespace PP
open PySem L2 PyProof.Rows
def R5 (K:PySem.W.Frag):R2:=fun x y H Q=>∃ l k xs,x = .ref l/\y = .int k/\aI K H l xs/\xs ≠ []/\2<=k/\k<=1000000/\xs.length * k.toNat<=sizeLine/\∀ p,H p=none->Q (.ref p) (upd H p (.tup (List.replicate k.toNat xs).flatten))
theorem aF4 {X:Cx}:cK X (binaryOp .Mult) (R5 X.K):=by
 intro pins s σ H x y v u Q I rx ry h
 obtain ⟨l,k,xs,rfl,rfl,hH,hne,h1,h2,hz,q⟩:=h
 cases rx
 obtain ⟨t,rfl⟩:=ry
 obtain ⟨its,r,p,_⟩:=I.tuple hH
 obtain ⟨⟨cls,dd,data,sl⟩,ho,hc,n,hd⟩:=id p
 simp only at hc hd
 subst hc hd
 have hl:=r.length
 have hemp:its.toArray.isEmpty=false:=by
  cases its with
  | nil=>exact absurd (r.nil_iff.mp rfl) hne
  | cons a b=>rfl
 refine wpAny_binaryOp_repeat_ref (T:="tuple") (U:="int") (by decide) ⟨_,ho,rfl⟩ (fun s'=>typeIs_int s' k t) aF0 F.fills_int_mul F.slot_int_rmul aF1 F.slot_int_index.lookup
  (call_meets F.slot_int_rmul (typeIs_int s k t) F.entry_int_rmul (F.args_int_rmul_2 _ _) (aF2 k t l its.toArray n dd sl)
   ⟨ho,rfl,⟨_,ho,rfl⟩,call_meets F.slot_tuple_mul ⟨_,ho,rfl⟩ F.entry_tuple_mul (F.args_tuple_mul_2 _ _) (aF3 l its.toArray n dd sl k t hemp h1 (by rw [bb5,<- hl]; exact hz) h2) ⟨ho,?_⟩⟩)
 have f0:List.foldl (fun x1 x2=>x1 ++ x2) #[] (List.replicate k.toNat its.toArray)=(List.replicate k.toNat its).flatten.toArray:=by
  have:=zW its k.toNat []
  rw [List.nil_append] at this
  exact this
 rw [f0]
 refine⟨.ref s.heap.objs.size,_,I.laid (t':=s.toks) (o:=.tup (List.replicate k.toNat xs).flatten) (fun b ob q=>bb1 _ q) (bb6 _) ?_,rfl,q _ (I.hok.fresh (bb6 _))⟩
 exact⟨by rw [an2,Nat.mul_comm]; exact hz,_,r.rep k.toNat,IsTup.new _ _,i7.new _ _ rfl⟩
theorem Reps.rep {K:PySem.W.Frag}{M:Addr->Prop}{H:Hp}{us:List V}{xs:List PV} (r:Reps K M H us xs):∀ k:Nat,Reps K M H (List.replicate k us).flatten (List.replicate k xs).flatten
 | 0=>.nil
 | k+1=>by rw [bj1,bj1,bl9,bl9]; exact r.append (Reps.rep r k)
section
variable {X : Cx} {a b e : Expr} {ta tb te : aG} {tr : cZ} {pos p2 p3 pos2 : Pos}
theorem aF5:eJ X wG (R5 X.K):=by
 rintro W Hs H u v x y g g' Q Q' s n r1 r2 ⟨xs,m,rfl,rfl,f,ne,h1,h2,hl,q⟩ k
 cases r2
 obtain ⟨a,us,rfl,h,r⟩:=r1.sqT
 have lr:=r.length
 refine⟨a,m,us,rfl,rfl,aI.of h,fun z=>ne (by cases xs with | nil=>rfl | cons _ _=>rw [z] at lr; cases lr),h1,h2,lim ?_,fun p hp=>k _ _ _ .fr (b9 hp _) (.tup aW (((r.flat f).rep m.toNat).same (b9 hp _) fun _ z=>z)) q⟩
 have h3:us.length<=10:=by omega
 have h4:m.toNat<=1000000:=by omega
 calc us.length * m.toNat<=10 * 1000000:=Nat.mul_le_mul h3 h4
  _<=16000000:=by decide
theorem aF6 (ha:QE X a ta) (hb:QE X b tb):QE X (.BinOp a .Mult b pos) (q2 wG ta tb):=kH aF4 aF5 ha hb
theorem aF7 {tA:TA} (hg:Gl X "range") (hm:X.mg "range" = none) (ha:PA X [a] tA) (hs:starEach [a] X.env = [(false,eval a X.env)]:=by rfl) :
  PE X (.Call (.Name "range" p2) [a] [] pos) (fun σ H Q=>tA σ H fun vs H1=>∃ j:Int,vs = [.int j]/\∀ r,H1 r=none->Q (.ref r) (upd H1 r (.rng 0 j))):=by
 intro pins s σ H Q I h
 refine Call_ (k7 I hg hm boot_range (bk8 (aN (ha pos pins s σ H _ I h) fun us s1 ⟨vs,H1,I1,r1,q1⟩=>?_) hs rfl))
 obtain ⟨j,e,q⟩:=q1
 subst e
 cases r1 with
 | cons r rr=>
  cases rr
  obtain ⟨t,rfl⟩:=r
  refine call_range_1 ?_
  exact⟨.ref s1.heap.objs.size,_,I1.laid (o:=.rng 0 j) (fun b ob q=>bb1 _ q) (bb6 _) ⟨_,_,_,bb9 _ rfl⟩,rfl,q _ (I1.hok.fresh (bb6 _))⟩
theorem R6:∀ {xs:List V}{us:List Value},xs.length=us.length->(∀ (i:Nat) x u,xs[i]? = some x->us[i]? = some u->aQ x u)->aJ xs us
 | [],[],_,_=>.nil
 | x :: xs,u :: us,hl,h=>.cons (h 0 x u rfl rfl) (R6 (by simpa using hl) fun i y w h1 h2=>h (i+1) y w (by rw [bi5]; exact h1) (by rw [bi5]; exact h2))
theorem aF8 {n:Nat}{acc:Array Value} (h:ItemsOf (fun i v=>∃ t,v = .int (0+(i:Int) * 1) t) acc n):aJ (j4 0 n) acc.toList:=by
 obtain ⟨h1,h2⟩:=h
 refine R6 (by rw [u8]; simp [h1]) fun i x u hx hu=>?_
 have hi:i < n:=by
  have:=(bc5.mp hx).1
  rwa [u8] at this
 unfold j4 at hx
 rw [bc6,List.getElem?_range hi] at hx
 cases hx
 obtain ⟨t,rfl⟩:=h2 i u (by rw [<- bg3]; exact hu)
 exact⟨t,by congr 1; omega⟩
theorem aF9 (hc:X.calm=true):cP X (.type "list") (fun xs H Q=>∃ r j,xs = [.ref r]/\H r=some (.rng 0 j)/\0<=j/\j<=1000000/\∀ l,H l=none->Q (.ref l) (upd H l (.lst (j4 0 j.toNat)))):=by
 intro pins s σ H xs us Q I r h
 obtain ⟨p,j,rfl,hq,h0,h1,q⟩:=h
 obtain ⟨u,rfl,rx⟩:=fD r
 cases rx
 obtain ⟨t,u,v,ho⟩:=(show bT X.prog X.w H s.heap p (.rng 0 j) from I.hok p _ hq)
 refine PySem.call_list_range (a:=0) (b:=j) (c:=1) (n:=j.toNat) (I.ok.hd hc) ho (small_one (by decide) (by decide) (by omega) (by omega)) (by rw [rangeSize_one]; split <;> omega) (by omega) fun h' tk acc' c' kp e it=>?_
 have vv:=aF8 it
 have eq:acc'.toList.toArray=acc':=by simp
 exact⟨.ref s.heap.objs.size,_,I.laid (t':=tk) (o:=.lst (j4 0 j.toNat)) kp (bb6 _) ⟨by rw [u8]; exact lim (by omega),acc'.toList,c',vv,by rw [eq]; exact e⟩,rfl,q _ (I.hok.fresh (bb6 _))⟩
theorem aG0 {K:PySem.W.Frag}{M:Addr->Prop}{H:Hp} (lo:Int) (n:Nat):Reps K M H (j4 lo n) (eM lo n):=by
 unfold j4 eM
 generalize List.range n=l
 induction l with
 | nil=>exact .nil
 | cons a r ih=>exact .cons (.int _) ih
theorem wJ (B:Bt X.mg) (ha:QE X a ta) (hc:X.calm=true:=by rfl) (hg:Gl X "list":=by rfl) (hgr:Gl X "range":=by rfl) (hs:starEach [a] X.env = [(false,eval a X.env)]:=by rfl)
  (he:starEach [.Call (.Name "range" p3) [a] [] pos2] X.env=(false,eval (.Call (.Name "range" p3) [a] [] pos2) X.env) :: starEach [] X.env:=by rfl) (hpl:(backTo pos (starEach [] X.env)).any (·.1)=false:=by rfl) :
  QE X (.Call (.Name "list" p2) [.Call (.Name "range" p3) [a] [] pos2] [] pos) (o7 ta):=
 cO (zI (aF9 hc) hg B.list PyProof.Rows.boot_list (fE (aF7 hgr B.range (fE ha fU hs) hs) fU he) (he:=he) (hpl:=hpl)) fun σ H Q' h=>by
  obtain ⟨W,ρ,Q,px,q,k⟩:=h
  refine⟨W,ρ,_,px,q,?_⟩
  rintro v H1 x g s r ⟨n,rfl,h0,h1,q⟩
  cases r
  refine⟨n,rfl,fun r hr=>⟨r,n,rfl,aW,h0,h1,fun l hl=>?_⟩⟩
  have S:aD H (upd (upd H1 r (.rng 0 n)) l (.lst (j4 0 n.toNat))):=(s.trans (b9 hr _)).trans (b9 hl _)
  exact k _ _ _ .fr S (.lst (((s.trans (b9 hr _))).free hl) aW (aG0 0 n.toNat)) q
theorem aG1:eB X wH (fun xs H Q=>∃ a kvs,xs = [.ref a]/\H a=some (.dT kvs)/\∀ l ys,H l=none->Paired (l7 H) ys (kvs.map (·.1))->Q (.ref l) (upd H l (.lst ys))):=by
 rintro H vs xs Q Q' r ⟨ps,rfl,q⟩ k
 obtain ⟨v,rfl,r1⟩:=r.one
 cases r1 with
 | @dT a kvs _ m h e r2=>
  refine⟨a,kvs,rfl,h,fun l ys hl pr=>k _ _ _ (b9 hl _) (.lst hl aW ?_) q⟩
  have kv:∀ (k:List aA),Reps X.K (fun a=>H a=none) H (k.map kV) (k.map kP):=fun k=>by
   induction k with
   | nil=>exact .nil
   | cons a r ih=>exact .cons (by cases a <;> constructor) ih
  have go:∀ {ys:List V}{ks:List (List aA)},Paired (l7 H) ys ks->Reps X.K (fun a=>H a=none) H ys (ks.map fun k=>PV.tup (k.map kP)):=fun {ys ks} pr=>by
   induction pr with
   | nil=>exact .nil
   | cons h t ih=>
    obtain ⟨q,rfl,hq⟩:=h
    exact .cons (.tup hq (kv _)) ih
  have e2:(ps.map fun p=>PV.tup (p.1.map kP))=(kvs.map (·.1)).map fun k=>PV.tup (k.map kP):=by rw [e,bn0]; rfl
  rw [e2]
  exact (go pr).same (b9 hl _) fun _ z=>z
theorem aG2 (B:Bt X.mg) (hc:X.calm=true) (ha:QA X [e] tr) (hg:Gl X "list":=by rfl) (he:starEach [e] X.env=(false,eval e X.env) :: starEach [] X.env:=by rfl) (hpl:(backTo pos (starEach [] X.env)).any (·.1)=false:=by rfl):QE X (.Call (.Name "list" p2) [e] [] pos) (aB wH tr):=
 vI (ar4 hc) aG1 hg B.list PyProof.Rows.boot_list ha (he:=he) (hpl:=hpl)
def wK:V->Int
 | .int i=>i
 | _=>0
def jG (H:Hp):V->List Int
 | .ref a=>match H a with
  | some (.tup us)=>us.map wK
  | _=>[]
 | _=>[]
theorem aG3 {H:Hp}{a:Addr}{ns:List Int} (h:H a=some (.tup (ns.map V.int))):jG H (.ref a)=ns:=by
 show (match H a with | some (.tup us)=>us.map wK | _=>[])=ns
 rw [h]
 show (ns.map V.int).map wK=ns
 rw [bn0]
 exact List.map_id _
theorem wL {K:PySem.W.Frag}{M:Addr->Prop}{H:Hp}:∀ {us:List V}{ys:List (List Int)},Reps K M H us (ys.map fun r=>PV.tup (intz r))->us.map (jG H)=ys/\∀ u ∈ us,∃ b,u = .ref b/\H b=some (.tup ((jG H u).map V.int))
 | _,[],.nil=>⟨rfl,fun u h=>nomatch h⟩
 | _,y :: ys,.cons r t=>by
  obtain ⟨a,us,rfl,h,r1⟩:=r.sqT
  obtain rfl:=r1.ofInts
  obtain ⟨h1,h2⟩:=wL t
  have hk:=aG3 h
  refine⟨by rw [bf4,h1,hk],fun u hu=>?_⟩
  rcases bb8.mp hu with rfl | hu
  ·exact⟨a,rfl,by rw [hk]; exact h⟩
  ·exact h2 u hu
theorem wM {K:PySem.W.Frag}{M:Addr->Prop}{H:Hp}:∀ {us:List V},(∀ u ∈ us,∃ b,u = .ref b/\H b=some (.tup ((jG H u).map V.int)))->Reps K M H us ((us.map (jG H)).map fun r=>PV.tup (intz r))
 | [],_=>.nil
 | u :: us,h=>by
  obtain ⟨b,rfl,hb⟩:=h u bc2
  exact .cons (.tup hb (Reps.intz _)) (wM fun v hv=>h v (bc3 _ hv))
theorem aG4:eB X rD (E1 X.K):=by
 rintro H vs xs Q Q' r ⟨ys,rfl,hl,hne,q⟩ k
 obtain ⟨v,rfl,r1⟩:=r.one
 obtain ⟨a,us,rfl,_,h,r2⟩:=r1.sqL
 obtain ⟨h1,h2⟩:=wL r2
 have lr:=r2.length
 rw [bb4] at lr
 refine⟨a,us,jG H,rfl,aL.of h,by omega,fun y hy=>?_,fun l zs hl' pm so=>?_⟩
 ·obtain ⟨b,rfl,hb⟩:=h2 y hy
  refine⟨b,rfl,aI.of hb,hne _ ?_⟩
  rw [<- h1]; exact bd1.mpr ⟨_,hy,rfl⟩
 ·have hz:∀ u ∈ zs,∃ b,u = .ref b/\H b=some (.tup ((jG H u).map V.int)):=fun u hu=>h2 u (pm.mem_iff.mp hu)
  refine k _ _ _ (b9 hl' _) (.lst hl' aW ((wM hz).same (b9 hl' _) fun _ z=>z)) (q _ ?_ ?_)
  ·rw [<- h1]; exact pm.map _
  ·rw [bg4]; exact so
theorem R7 (B:Bt X.mg) (ha:QA X [e] tr) (hg:Gl X "sorted":=by rfl) (he:starEach [e] X.env=(false,eval e X.env) :: starEach [] X.env:=by rfl) (hpl:(backTo pos (starEach [] X.env)).any (·.1)=false:=by rfl):QE X (.Call (.Name "sorted" p2) [e] [] pos) (aB rD tr):=
 hG ar2 aG4 hg B.sorted bo1 ha (he:=he) (hpl:=hpl)
end
def aG5 (K:PySem.W.Frag):Sp:=fun vs H Q _=>∃ (a:Addr) (ns:List Int),vs = [.ref a]/\(aI K H a (ns.map V.int) ∨ aL K H a (ns.map V.int))/\ns.length<=1000/\∀ H',aD H H'->Q (.bl (Core.gL ns)) H'
def R8:Sp:=fun vs H Q _=>∃ v ws ls,vs = [v]/\E7 H v ws ls/\ws.length<=1000/\ls.length<=2000/\(∀ l ∈ ls,(0<=l.1/\l.1 < ws.length)/\0<=l.2/\l.2 < ws.length)/\
 ∀ (r:Addr) (bs:List Addr) (H':Hp),bs.length=ws.length->j5 H H' r bs (fun k=>aZ ls k)->Q (.ref r) H'
section
variable {P : Program} {w : World} {K : PySem.W.Frag} {mg : Str → Option Value} {base : Heap} {f : Addr} {fd : FuncData} {k : Nat}
theorem R9 (F:dE P w K mg base e8 k f fd ["things"] (aG5 K)) (b:iU K fd ["things"] []) (kp:PySem.W.keepIn K (.ref f)=true) (m:mg "rises" = some (.ref f)):Df P w K mg base k "rises" ["things"] Core.P8:=by
 refine⟨f,fd,F.imp fun vs H Q E h=>?_,b,kp,m⟩
 obtain ⟨xs,Qp,r,⟨x,ns,rfl,hx,hl,q⟩,k⟩:=h
 obtain ⟨v,rfl,r1⟩:=r.one
 rcases hx with rfl | rfl
 ·obtain ⟨a,us,rfl,h,r2⟩:=r1.sqT
  obtain rfl:=r2.ofInts
  exact⟨a,ns,rfl,.inl (aI.of h),hl,fun H' s=>k _ H' _ s (.bl _) q⟩
 ·obtain ⟨a,us,rfl,_,h,r2⟩:=r1.sqL
  obtain rfl:=r2.ofInts
  exact⟨a,ns,rfl,.inr (aL.of h),hl,fun H' s=>k _ H' _ s (.bl _) q⟩
theorem pG {M:Addr->Prop}{H:Hp}:∀ {us:List V}{ls:List (Int × Int)},Reps K M H us (ls.map fun l=>PV.tup [.int l.1,.int l.2])->l8 H us ls
 | _,[],.nil=>.nil
 | _,l :: ls,.cons r t=>by
  obtain ⟨a,us,rfl,h,r1⟩:=r.sqT
  obtain ⟨u1,u2,rfl,q1,q2⟩:=r1.two
  cases q1; cases q2
  exact .cons ⟨a,rfl,h⟩ (pG t)
theorem aG6 {M:Addr->Prop}{H:Hp}{v:V}{ws:List Int}{ls:List (Int × Int)} (r:aE K M H v (Core.bG ws ls)):E7 H v ws ls:=by
 obtain ⟨a,us,rfl,h,r1⟩:=aE.sqT r
 obtain ⟨u1,u2,rfl,q1,q2⟩:=r1.two
 obtain ⟨p,up,rfl,hp,rp⟩:=q1.sqT
 obtain ⟨q,uq,rfl,hq,rq⟩:=q2.sqT
 obtain rfl:=rp.ofInts
 exact⟨a,p,q,uq,rfl,h,hp,hq,pG rq⟩
theorem S0 {M:Addr->Prop}{H:Hp}:∀ {bs:List Addr}{ls:List (Int × Int)} (off:Nat),(∀ b ∈ bs,M b)->(∀ (k:Nat) b,bs[k]? = some b->H b=some (.lst ((aZ ls ((off+k:Nat):Int)).map V.int)))->Reps K M H (bs.map V.ref) ((List.range' off bs.length).map fun (k:Nat)=>PV.lst (intz (aZ ls k)))
 | [],_,_,_,_=>.nil
 | b :: bs,ls,off,hm,h=>by
  refine .cons (.lst (hm b bc2) (h 0 b rfl) (Reps.intz _)) (S0 (off+1) (fun c hc=>hm c (bc3 _ hc)) fun k c hk=>?_)
  have:=h (k+1) c (by rw [bi5]; exact hk)
  rw [show off+1+k=off+(k+1) by omega]; exact this
theorem aG7 (F:dE P w K mg base e8 k f fd ["web"] R8) (b:iU K fd ["web"] []) (kp:PySem.W.keepIn K (.ref f)=true) (m:mg "near_lists" = some (.ref f)):Df P w K mg base k "near_lists" ["web"] Core.o5:=by
 refine⟨f,fd,F.imp fun vs H Q E h=>?_,b,kp,m⟩
 obtain ⟨xs,Qp,r,⟨ws,ls,rfl,wb,q⟩,k⟩:=h
 obtain ⟨v,rfl,r1⟩:=r.one
 have:=wb.few
 have:=wb.most
 refine⟨v,ws,ls,rfl,aG6 r1,by omega,by omega,wb.links,fun t bs H' hb R=>k _ H' _ R.same (.lst R.new R.row ?_) q⟩
 have:=S0 (K:=K) (M:=fun a=>H a=none) (H:=H') (bs:=bs) (ls:=ls) 0 (fun b hb=>(R.news b hb).1) fun k b hk=>by rw [Nat.zero_add]; exact R.rows k b hk
 rw [hb,<- List.range_eq_range'] at this
 exact this
end
end PP
namespace Core
open PySem L2 PP
theorem kQ (n:Nat):eM 0 n=intz (rng n):=by
 unfold eM rng
 show _=List.map PV.int (List.map (fun (i:Nat)=>(i:Int)) (List.range n))
 rw [bn0]
 refine List.map_congr_left fun i _=>?_
 show PV.int (0+(i:Int))=PV.int (i:Int)
 rw [Int.zero_add]
theorem wN (n:Nat):(rng n).Nodup:=by
 unfold rng
 rw [List.nodup_iff_pairwise_ne,bg4]
 exact (List.nodup_range (n:=n)).imp fun h e=>h (by omega)
def two (l:Int × Int):List Int:=[l.1,l.2]
def o9 (r:List Int):Int × Int:=(r.getD 0 0,r.getD 1 0)
theorem lY (ls:List (Int × Int)):bE ls=(ls.map two).map fun r=>PV.tup (intz r):=by
 unfold bE
 rw [bn0]; rfl
theorem wO {zs:List (List Int)}{ls:List (Int × Int)} (h:zs.Perm (ls.map two)):∃ ls':List (Int × Int),zs=ls'.map two/\ls'.Perm ls:=by
 refine⟨zs.map o9,?_,?_⟩
 ·rw [bn0]
  have:∀ z ∈ zs,(two ∘ o9) z=z:=fun z hz=>by
   obtain ⟨l,_,rfl⟩:=bd1.mp (h.mem_iff.mp hz)
   rfl
  rw [List.map_congr_left this,List.map_id']
 ·have:=h.map o9
  rw [bn0] at this
  have e:ls.map (o9 ∘ two)=ls:=by
   have:∀ l ∈ ls,(o9 ∘ two) l=id l:=fun l _=>rfl
   rw [List.map_congr_left this,List.map_id]
  rw [e] at this
  exact this
theorem aG8 (n:Nat):(List.replicate n [PV.int 1]).flatten=intz (List.replicate n 1):=by
 induction n with
 | zero=>rfl
 | succ n ih=>rw [bj1,bl9,ih,bj1]; rfl
def aG9:aP:=(aK (dS 2 (o7 (a5 1)))
 (aK (dS 3 (gG a9))
 (aK (dH (gY (a5 1)) (bS 4)
  (aK (aY 5 (bM (gH (jA (jA (bM (a5 0) (qC (.int 1000000007))) (gH (a5 4) (a5 4))) (qC (.int 1))) (qC (.int 48271))) (qC (.int 2147483647))))
  (nD 3 2 (bM (dD (bM (gH (a5 5) (a5 5)) (qC (.int 1000003))) (qC (.int 8))) (aB eZ (a7 (a5 2) a9))))))
 (aK (dS 6 (gG a9))
 (aK (dH (pT (qC (.int 1)) (a5 1)) (bS 4)
  (j7 6 (eY (a7 (aB pQ (a7 (cB (a5 3) (qB (a5 4) (qC (.int 1)))) (a7 (cB (a5 3) (a5 4)) a9))) (a7 (aB nF (a7 (cB (a5 3) (qB (a5 4) (qC (.int 1)))) (a7 (cB (a5 3) (a5 4)) a9))) a9)))))
 (bO (eY (a7 (aE7 (eY (a7 (qC (.int 1)) a9)) (a5 1)) (a7 (aB dG (a7 (aB rD (a7 (a5 6) a9)) a9)) a9)))))))))
theorem wP (f:Int->PV):∀ (l:List Int) (i:Nat),(l.map f).eraseIdx i=(l.eraseIdx i).map f
 | [],_=>rfl
 | _ :: _,0=>rfl
 | a :: r,i+1=>by
  show f a :: (r.map f).eraseIdx i=f a :: (r.eraseIdx i).map f
  rw [wP f r i]
theorem S2 {left row:List Int}{m:Nat}{y:Int} (h:left[m]? = some y):(left.eraseIdx m ++ (row ++ [y])).Perm (left ++ row):=by
 have hm:m < left.length:=(bc5.mp h).1
 have e:left=left.take m ++ y :: left.drop (m+1):=by
  have h1:=(be9 m left).symm
  rw [bl8 hm] at h1
  rw [bb2 hm] at h
  cases h
  exact h1
 rw [List.eraseIdx_eq_take_drop_succ]
 conv=>rhs; rw [e]
 rw [bd6,bd6]
 refine List.Perm.append_left _ ?_
 rw [List.cons_append,<- bd6]
 exact List.perm_append_singleton y _
theorem S3 {ls:List (Int × Int)} (so:(ls.map two).Pairwise fun u v=>HT.bH v u=false) (nd:ls.Nodup):ls.Pairwise eR:=by
 rw [bg4] at so
 refine (List.pairwise_and_iff.mpr ⟨so,nd⟩).imp fun {a b} h=>?_
 obtain ⟨h1,h2⟩:=h
 unfold two at h1
 rw [HT.iA] at h1
 unfold eR
 by_cases e:b.1=a.1
 ·rw [if_pos e,HT.iA] at h1
  by_cases e2:b.2=a.2
  ·exact absurd (Prod.ext e.symm e2.symm) h2
  ·rw [if_neg e2] at h1
   have:=bp8 h1
   omega
 ·rw [if_neg e] at h1
  have:=bp8 h1
  omega
structure rE (row:List Int) (ls:List (Int × Int)) (j:Nat):Prop where
 nd:ls.Nodup
 src:∀ l ∈ ls,∃ i,i < j/\∃ a b,row[i]? = some a/\row[i+1]? = some b/\((l.1=a/\l.2=b) ∨ (l.1=b/\l.2=a))
theorem rE.add {row:List Int}{ls:List (Int × Int)}{j:Nat}{p r:Int}{l:Int × Int} (h:rE row ls j) (nd:row.Nodup) (hp:row[j]? = some p) (hr:row[j+1]? = some r) (hl:(l.1=p/\l.2=r) ∨ (l.1=r/\l.2=p)):rE row (ls ++ [l]) (j+1):=by
 have same:∀ {i k:Nat}{a:Int},row[i]? = some a->row[k]? = some a->i=k:=fun {i k a} h1 h2=>by
  obtain ⟨i1,e1⟩:=bc5.mp h1
  obtain ⟨k1,e2⟩:=bc5.mp h2
  have pw:=bf2.mp nd
  rcases Nat.lt_trichotomy i k with h | h | h
  ·exact absurd (e1.trans e2.symm) (pw i k i1 k1 h)
  ·exact h
  ·exact absurd (e2.trans e1.symm) (pw k i k1 i1 h)
 refine⟨bl0.mpr ⟨h.nd,bg1 _ _,fun x hx y hy e=>?_⟩,fun m hm=>?_⟩
 ·rw [bc1.mp hy] at e
  obtain ⟨i,hi,a,b,ha,hb,c⟩:=h.src x hx
  rw [e] at c
  rcases hl with ⟨l1,l2⟩ | ⟨l1,l2⟩ <;> rcases c with ⟨c1,c2⟩ | ⟨c1,c2⟩
  ·have:=same (a:=r) hr (by rw [<- l2,c2]; exact hb); omega
  ·have:=same (a:=r) hr (by rw [<- l2,c2]; exact ha); omega
  ·have:=same (a:=r) hr (by rw [<- l1,c1]; exact ha); omega
  ·have:=same (a:=r) hr (by rw [<- l1,c1]; exact hb); omega
 ·rcases be1.mp hm with hm | hm
  ·obtain ⟨i,hi,r⟩:=h.src m hm
   exact⟨i,by omega,r⟩
  ·rw [bc1.mp hm]
   exact⟨j,by omega,p,r,hp,hr,hl⟩
theorem S4 (ws:List Int) (ls:List (Int × Int)):flats [.tup (intz ws),.tup (bE ls)]=true:=rB ws ls
def S5:aP:=(aK (dS 3 (gG a9))
 (aK (dH (gY (a5 1)) (bS 4)
  (aK (aY 5 (aB g9 (a7 (a5 0) (a7 (a5 4) a9))))
  (j7 3 (cB (gG (a7 (bM (dD (a5 5) (qC (.int 5))) (qC (.int 4))) (a7 (bM (dD (a5 5) (qC (.int 5))) (qC (.int 3))) (a7 (bM (dD (a5 5) (qC (.int 5))) (qC (.int 6))) (a7 (bM (dD (a5 5) (qC (.int 5))) (qC (.int 61))) a9))))) (bM (a5 2) (qC (.int 4)))))))
 (aK (dS 6 (qC (.dT [])))
 (aK (dH (eC (a5 0)) (bS 5)
  (dB (bC (qD (a5 1) (qC (.int 1)))) (aK (aY 7 (bM (a5 5) (a5 1)))
   (aK (aY 8 (bM (dD (bM (gH (bM (a5 5) (qC (.int 1000000007))) (qC (.int 48271))) (qC (.int 2147483647))) (qC (.int 89))) (a5 1)))
   (dB (bC (qNe (a5 7) (a5 8))) (uZ 6 (eY (a7 (aB pQ (a7 (a5 7) (a7 (a5 8) a9))) (a7 (aB nF (a7 (a5 7) (a7 (a5 8) a9))) a9))) (qC (.bl true))) dA))) dA))
 (bO (eY (a7 (aB dG (a7 (a5 3) a9)) (a7 (aB dG (a7 (aB rD (a7 (aB wH (a7 (a5 6) a9)) a9)) a9)) a9))))))))
theorem aH0 {a b c d:PV}{i:Int} (h0:0<=i) (h1:i < 4):∃ z,atI [a,b,c,d] i=some z/\(z=a ∨ z=b ∨ z=c ∨ z=d):=by
 have:i=0 ∨ i=1 ∨ i=2 ∨ i=3:=by omega
 rcases this with rfl | rfl | rfl | rfl
 ·exact⟨a,rfl,.inl rfl⟩
 ·exact⟨b,rfl,.inr (.inl rfl)⟩
 ·exact⟨c,rfl,.inr (.inr (.inl rfl))⟩
 ·exact⟨d,rfl,.inr (.inr (.inr rfl))⟩
theorem S6 {a b c d:Int}{i:Int} (h0:0<=i) (h1:i < 4):∃ z:Int,atI [PV.int a,PV.int b,PV.int c,PV.int d] i=some (.int z)/\(z=a ∨ z=b ∨ z=c ∨ z=d):=by
 obtain ⟨z,h,e⟩:=aH0 (a:=PV.int a) (b:=PV.int b) (c:=PV.int c) (d:=PV.int d) h0 h1
 rcases e with rfl | rfl | rfl | rfl
 ·exact⟨a,h,.inl rfl⟩
 ·exact⟨b,h,.inr (.inl rfl)⟩
 ·exact⟨c,h,.inr (.inr (.inl rfl))⟩
 ·exact⟨d,h,.inr (.inr (.inr rfl))⟩
def kR (l:Int × Int):List aA:=[Sum.inl l.1,Sum.inl l.2]
structure DL (n:Int) (ps:List (List aA × PV)) (i:Nat):Prop where
 key:∀ p ∈ ps,∃ l:Int × Int,p.1=kR l/\0<=l.1/\l.1 < l.2/\l.2 < n
 len:ps.length<=i
 fl:flats (ps.map (·.2))=true
 nd:(ps.map (·.1)).Nodup
theorem aH1 {κ:Type} [DecidableEq κ] {ps:List (κ × PV)} (k:κ) (v:PV) (h:(ps.map (·.1)).Nodup):((cH ps k v).map (·.1)).Nodup:=by
 unfold cH
 split
 ·rw [bn0]
  have:((fun x:κ × PV=>x.1) ∘ fun kv:κ × PV=>if kv.1=k then (kv.1,v) else kv)=fun x=>x.1:=by
   funext x
   show (if x.1=k then (x.1,v) else x).1=x.1
   split <;> rfl
  rw [this]; exact h
 ·rename_i hn
  rw [bd7]
  refine bl0.mpr ⟨h,bg1 _ _,fun x hx y hy e=>hn ?_⟩
  obtain ⟨p,hp,rfl⟩:=bd1.mp hx
  rw [bc1.mp hy] at e
  exact List.any_eq_true.mpr ⟨p,hp,bc9 e⟩
theorem aH2 {κ:Type} [DecidableEq κ] {ps:List (κ × PV)}{k:κ}{v:PV}{p:κ × PV} (h:p ∈ cH ps k v):p.1=k ∨ ∃ q ∈ ps,q.1=p.1:=by
 unfold cH at h
 split at h
 ·obtain ⟨q,hq,e⟩:=bd1.mp h
  split at e
  ·subst e; exact .inr ⟨q,hq,rfl⟩
  ·subst e; exact .inr ⟨q,hq,rfl⟩
 ·rcases be1.mp h with h | h
  ·exact .inr ⟨p,h,rfl⟩
  ·rw [bc1.mp h]; exact .inl rfl
theorem DL.put {n:Int}{ps:List (List aA × PV)}{i:Nat} (h:DL n ps i) (l:Int × Int) (hl:0<=l.1/\l.1 < l.2/\l.2 < n):DL n (cH ps (kR l) (.bl true)) (i+1):=by
 refine⟨fun p hp=>?_,?_,wE h.fl rfl,aH1 _ _ h.nd⟩
 ·rcases aH2 hp with e | ⟨q,hq,e⟩
  ·exact⟨l,e,hl⟩
  ·obtain ⟨l',e',h'⟩:=h.key q hq
   exact⟨l',e ▸ e',h'⟩
 ·have:=wD ps (kR l) (.bl true)
  have:=h.len
  omega
theorem DL.links {n:Int}:∀ {ps:List (List aA × PV)},(∀ p ∈ ps,∃ l:Int × Int,p.1=kR l/\0<=l.1/\l.1 < l.2/\l.2 < n)->∃ ls:List (Int × Int),(ps.map fun p=>PV.tup (p.1.map kP))=bE ls/\(∀ l ∈ ls,0<=l.1/\l.1 < l.2/\l.2 < n)/\ls.length=ps.length/\ps.map (·.1)=ls.map kR
 | [],_=>⟨[],rfl,(fun _ h=>nomatch h),rfl,rfl⟩
 | p :: ps,h=>by
  obtain ⟨l,e,hl⟩:=h p bc2
  obtain ⟨ls,h1,h2,h3,h4⟩:=DL.links (ps:=ps) fun q hq=>h q (bc3 _ hq)
  refine⟨l :: ls,?_,fun m hm=>?_,by rw [be4,be4,h3],by rw [bf4,bf4,h4,e]⟩
  ·rw [bf4,h1,e]; rfl
  ·rcases bb8.mp hm with rfl | hm
   ·exact hl
   ·exact h2 m hm
theorem aH3 {x:PV}{ns:List Int} (h:iL x ns):(Slot.sh (flat x) x).tag = .rd->flat x=true:=by
 cases flat x <;> intro z <;> cases z
theorem aH4 (ns:List Int) {k:Int} (h:0<=k):j9 (intz ns) (some k) none=intz (ns.drop k.toNat):=by
 unfold j9
 have e1:HT.aT (intz ns).length 0 (some k)=min k.toNat (intz ns).length:=by
  have:=HT.ak0 (intz ns).length 0 k.toNat
  rw [show ((k.toNat:Nat):Int)=k by omega] at this
  exact this
 have e2:HT.aT (intz ns).length (intz ns).length none=(intz ns).length:=rfl
 rw [e1,e2,bA]
 rw [bh8 (by rw [bm3,bA]; omega)]
 show _=List.map PV.int _
 rw [List.map_drop]
 by_cases hk:k.toNat<=ns.length
 ·rw [Nat.min_eq_left hk]
 ·rw [Nat.min_eq_right (by omega),List.drop_of_length_le (by rw [bA]; omega),List.drop_of_length_le (by rw [bA]; omega)]
structure dX (i:Int) (ms:List Int):Prop where
 up:ms.Pairwise (· < ·)
 inn:∀ x ∈ ms,0<=x/\x < i
 len:(ms.length:Int)<=i
theorem dX.nil:dX 0 []:=⟨.nil,(fun _ h=>nomatch h),bp3 _⟩
theorem dX.skip {i:Nat}{ms:List Int} (h:dX (i:Int) ms):dX ((i+1:Nat):Int) ms:=⟨h.up,fun x hx=>by have:=h.inn x hx; omega,by have:=h.len; omega⟩
theorem dX.take {i:Nat}{ms:List Int} (h:dX (i:Int) ms):dX ((i+1:Nat):Int) (ms ++ [(0:Int)+(i:Int)]):=by
 refine⟨bf9.mpr ⟨h.up,bg1 _ _,fun x hx y hy=>?_⟩,fun x hx=>?_,?_⟩
 ·rw [bc1.mp hy]; have:=h.inn x hx; omega
 ·rcases be1.mp hx with hx | hx
  ·have:=h.inn x hx; omega
  ·rw [bc1.mp hx]; omega
 ·rw [bc4,bk7]; have:=h.len; omega
def oA:bD:=fun xs Q=>∃ x ns k n,xs = [x,.int k,.int n]/\iL x ns/\0<=k/\0<=n/\n<=1000/\∀ ms,dX n ms->Q (.tup (intz ms))
def S7:aP:=(aK (aY 3 (aB g9 (a7 (a5 0) (a7 (a5 1) a9))))
 (aK (dS 4 (gG a9))
 (aK (dB (bC (jU (bM (a5 3) (qC (.int 2))) (qC (.int 1)))) (aK (dH (gY (a5 2)) (bS 5)
   (aK (aY 3 (dD (a5 3) (qC (.int 2))))
   (dB (bC (jU (bM (a5 3) (qC (.int 2))) (qC (.int 1)))) (j7 4 (a5 5)) dA)))
  (bO (aB dG (a7 (a5 4) a9)))) dA)
 (aK (aY 3 (bM (gH (jA (bM (a5 3) (qC (.int 1000000007))) (qC (.int 1))) (qC (.int 48271))) (qC (.int 2147483647))))
 (aK (dH (gY (a5 2)) (bS 5)
  (aK (aY 6 (bM (gH (jA (jA (a5 3) (gH (gH (qC (.int 977)) (a5 5)) (a5 5))) (a5 5)) (qC (.int 40692))) (qC (.int 2147483399))))
  (dB (bC (lN (bM (dD (bM (gH (a5 6) (a5 6)) (qC (.int 2147483399))) (qC (.int 8))) (qC (.int 7))) (jA (qC (.int 1)) (bM (dD (a5 3) (qC (.int 8))) (qC (.int 4)))))) (j7 4 (a5 5)) dA)))
 (bO (aB dG (a7 (a5 4) a9))))))))
theorem aH5:cU S7 ["script","at","many","cell","some","hearth","number"] oA:=by
 rintro xs Q ⟨x,ns,k,n,rfl,hx,k0,n0,n1,q⟩
 refine⟨_,rfl,_,rfl,x,ns,k,rfl,hx,k0,trivial,?_⟩
 generalize ns.getD k.toNat 0=cell
 refine⟨by decide,rfl,rfl,rfl,?_⟩
 refine⟨_,rfl,_,_,rfl,rfl,(by show (0:Int) < 2; decide),.inl ⟨_,_,rfl,rfl,_,rfl,?_⟩⟩
 have ret:∀ {ρ:b7}{ms:List Int},ρ[4]? = some (some (.own (.lst (intz ms))))->dX n ms->(bO (aB dG (a7 (a5 4) a9))) { nx:=fun _=>Q .non,rt:=Q } ρ:=fun {ρ ms} h u=>
  ⟨_,h,⟨_,_,rfl,rfl,cE _,trivial,q ms u⟩,fun ns z=>by cases z⟩
 cases hc:(decide (cell % 2=1)) with
 | true=>
  refine bV ⟨_,rfl,n,rfl,by omega,by omega,fun i ρ=>∃ (c:Int) (y:Option Slot) (ms:List Int),ρ = [some (.sh (flat x) x),si k,si n,si c,some (.own (.lst (intz ms))),y,none]/\dX (i:Int) ms,⟨cell,none,[],rfl,dX.nil⟩,?_,?_⟩
  ·rintro i y ρ hy ⟨c,y0,ms,rfl,u⟩
   obtain ⟨rfl,hi⟩:=iH hy
   have ul:=u.len
   refine⟨_,rfl,_,_,rfl,rfl,⟨by decide,by decide⟩,trivial,?_⟩
   refine⟨_,rfl,_,_,rfl,rfl,(by show (0:Int) < 2; decide),.inl ⟨_,_,rfl,rfl,_,rfl,?_⟩⟩
   cases hc2:(decide (c / 2 % 2=1)) with
   | true=>
    refine bV ⟨_,rfl,_,rfl,trivial,by rw [bA]; omega,c / 2,si (0+(i:Int)),ms ++ [(0:Int)+(i:Int)],?_,u.take⟩
    rw [gM]; rfl
   | false=>exact b6 ⟨c / 2,si (0+(i:Int)),ms,rfl,u.skip⟩
  ·rintro ρ ⟨c,y0,ms,rfl,u⟩
   rw [eD,show ((n.toNat:Nat):Int)=n by omega] at u
   exact ret rfl u
 | false=>
  refine b6 ⟨_,rfl,_,_,rfl,rfl,(by show (0:Int) < 1000000007; decide),_,_,rfl,rfl,_,_,rfl,rfl,.inr ⟨by decide,by decide⟩,_,_,rfl,rfl,(by show (0:Int) < 2147483647; decide),trivial,?_⟩
  dsimp only
  generalize hcl:(cell % 1000000007+1) * 48271 % 2147483647=cl
  refine⟨_,rfl,n,rfl,by omega,by omega,fun i ρ=>∃ (y z:Option Slot) (ms:List Int),ρ = [some (.sh (flat x) x),si k,si n,si cl,some (.own (.lst (intz ms))),y,z]/\dX (i:Int) ms,⟨none,none,[],rfl,dX.nil⟩,?_,?_⟩
  ·rintro i y ρ hy ⟨y0,z0,ms,rfl,u⟩
   obtain ⟨rfl,hi⟩:=iH hy
   have ul:=u.len
   refine⟨_,rfl,_,rfl,_,_,rfl,rfl,.inl ⟨by decide,by decide⟩,_,rfl,_,_,rfl,rfl,.inr ⟨by omega,by omega⟩,_,_,rfl,rfl,_,rfl,_,_,rfl,rfl,_,_,rfl,rfl,.inr ⟨by decide,by decide⟩,_,_,rfl,rfl,(by show (0:Int) < 2147483399; decide),trivial,?_⟩
   dsimp only
   generalize hnum:(cl+977 * (0+(i:Int)) * (0+(i:Int))+(0+(i:Int))) * 40692 % 2147483399=num
   have b1:0<=num:=by rw [<- hnum]; exact bj5 _ (by decide)
   have b2:num < 2147483399:=by rw [<- hnum]; exact bh3 _ (by decide)
   refine⟨_,rfl,_,rfl,_,_,rfl,rfl,.inl ⟨by omega,by omega⟩,_,_,rfl,rfl,(by show (0:Int) < 2147483399; decide),_,_,rfl,rfl,⟨by decide,by decide⟩,_,_,rfl,rfl,(by show (0:Int) < 7; decide),_,rfl,_,_,rfl,rfl,⟨by decide,by decide⟩,_,_,rfl,rfl,(by show (0:Int) < 4; decide),_,_,rfl,rfl,_,_,rfl,rfl,_,rfl,?_⟩
   dsimp only
   cases hc2:(decide (num * num % 2147483399 / 8 % 7 < 1+cl / 8 % 4)) with
   | true=>
    refine bV ⟨_,rfl,_,rfl,trivial,by rw [bA]; omega,si (0+(i:Int)),si num,ms ++ [(0:Int)+(i:Int)],?_,u.take⟩
    rw [gM]; rfl
   | false=>exact b6 ⟨si (0+(i:Int)),si num,ms,rfl,u.skip⟩
  ·rintro ρ ⟨y0,z0,ms,rfl,u⟩
   rw [eD,show ((n.toNat:Nat):Int)=n by omega] at u
   exact ret rfl u
theorem dX.set {n:Nat}{ms:List Int} (h:dX (n:Int) ms):bB n ms=true:=by
 unfold bB
 rw [P0 h.up,Bool.true_and,bm4]
 intro b hb
 obtain ⟨x,hx,rfl⟩:=bd1.mp hb
 have:=h.inn x hx
 unfold inB
 simp [this]
theorem aH6:∀ {a b:List Int},a.Perm b->a.Pairwise (· <= ·)->b.Pairwise (· <= ·)->a=b:=by
 intro a b h ha hb
 exact h.eq_of_pairwise (fun x y _ _ h1 h2=>Int.le_antisymm h1 h2) ha hb
def S8:bD:=fun xs Q=>∃ ns:List Int,xs = [.scr ns]/\ns.length<=63/\Q (.bl true)
end Core
namespace PP
open PySem L2 PyProof.Rows
theorem aH7 {P:Program}{w:World}{K:PySem.W.Frag}{mg:Str->Option Value}{base:Heap}{k:Nat}{x:Str}{ps N:List Str}{p:bD}{st:Stmt}{f:Addr}{fd:FuncData} (F:fG K x x st f fd) (S:FnScope N ps (aU st))
  (len:∀ xs Q,p xs Q->xs.length=ps.length)
  (body:∀ (cdv:Value) (A:Around) (outer:List Env) (s:Shared) (H:Hp) (E:XK),cD k (A.deeper (envOfC x (aU st) s.heap.objs.size f cdv))->
   ∃ t,fA (dF e8 P w K mg base N x (aU st) f cdv A outer s H E).nox (eI st) t/\∀ xs Q,p xs Q->t { nx:=fun _=>Q .non,rt:=Q } (fL N xs)):dE P w K mg base e8 (k+1) f fd ps (nG K p):=by
 refine F.ok S (fun vs H Q E h=>?_) (fun cdv A outer s H vs Q E hr h=>?_)
 ·obtain ⟨xs,Qp,r,q,_⟩:=h
  rw [r.length]; exact len xs Qp q
 ·obtain ⟨xs,Qp,r,q,k⟩:=h
  obtain ⟨t,ht,hq⟩:=body cdv A outer s H E hr
  refine⟨_,ht,fun _=>False,fL N xs,_,vM r,hq xs Qp q,?_,?_,?_,?_⟩
  ·exact fun W' σ' H' ρ' e px q=>k _ _ _ px.same .non q
  ·exact fun v H' x s r q=>k _ _ _ s r q
  ·exact fun W' σ' H' ρ' e px q=>q
  ·exact fun W' σ' H' ρ' e px q=>q
def rF (K:PySem.W.Frag):Sp:=fun vs H Q _=>∃ (a:Addr) (ns:List Int),vs = [.ref a]/\j6 K H a ns/\ns.length<=63/\∀ H',Q (.bl true) H'
theorem aH8 {P:Program}{w:World}{K:PySem.W.Frag}{mg:Str->Option Value}{base:Heap}{k:Nat}{f:Addr}{fd:FuncData} (F:dE P w K mg base e8 k f fd ["script"] (nG K Core.S8)):dE P w K mg base e8 k f fd ["script"] (rF K):=
 F.imp fun vs H Q E h=>by
  obtain ⟨a,ns,rfl,hs,hl,q⟩:=h
  refine⟨[.scr ns],fun z=>z = .bl true,.cons (.scr hs) .nil,⟨ns,rfl,hl,rfl⟩,?_⟩
  rintro v H' x _ r rfl
  cases r
  exact q H'
theorem aH9 {K:PySem.W.Frag}{H:Hp}{a:Addr}{ns:List Int} (hO:oV H) (h:aL K H a (ns.map V.int)):j6 K H a ns:=by
 rcases h with (h | ⟨o,h⟩) | h
 ·rcases hO a with e | ⟨o,xs,e⟩ <;> (rw [h] at e; cases e)
 ·exact .inl ⟨o,h⟩
 ·exact .inr h
section
variable {X : Cx} {e : Expr} {te : aG} {pos : Pos}
theorem S9 (i j:Nat) {x y:Str}{apos cpos xpos apos2 cpos2 ypos:Pos} (he:QE X e te) (hxN:X.N[i]? = some x:=by rfl) (hxv:fQ X.env.scope x:=by first | exact Or.inl rfl | exact Or.inr (Or.inl rfl) | exact Or.inr (Or.inr rfl)) (hxd:(x == ("__debug__" : Str))=false:=by decide) (hxc:(x == ("__classdict__" : Str))=false:=by decide) (hyN:X.N[j]? = some y:=by rfl) (hyv:fQ X.env.scope y:=by first | exact Or.inl rfl | exact Or.inr (Or.inl rfl) | exact Or.inr (Or.inr rfl)) (hyd:(y == ("__debug__" : Str))=false:=by decide) (hyc:(y == ("__classdict__" : Str))=false:=by decide)
  (hb1:attributeBase (.Name x xpos) "append" X.env (eval (.Name x xpos) X.env)=eval (.Name x xpos) X.env:=by rfl) (hb2:attributeBase (.Name y ypos) "pop" X.env (eval (.Name y ypos) X.env)=eval (.Name y ypos) X.env:=by rfl)
  (hfew1:((backTo cpos (starEach [.Call (.Attribute (.Name y ypos) "pop" apos2) [e] [] cpos2] X.env)).all (fun x=>!x.1) && (backToKw cpos (keywordEach [] X.env)).all (fun x=>x.1.isSome) && decide (([.Call (.Attribute (.Name y ypos) "pop" apos2) [e] [] cpos2]:List Expr).length+([]:List Keyword).length+(if ([]:List Keyword).isEmpty then 0 else 1) < 30))=true:=by rfl)
  (hfew2:((backTo cpos2 (starEach [e] X.env)).all (fun x=>!x.1) && (backToKw cpos2 (keywordEach [] X.env)).all (fun x=>x.1.isSome) && decide (([e]:List Expr).length+([]:List Keyword).length+(if ([]:List Keyword).isEmpty then 0 else 1) < 30))=true:=by rfl)
  (hl1:(apos.endLine == cpos.line)=true:=by rfl) (hl2:(apos2.endLine == cpos2.line)=true:=by rfl)
  (hs1:starEach [.Call (.Attribute (.Name y ypos) "pop" apos2) [e] [] cpos2] X.env=(false,eval (.Call (.Attribute (.Name y ypos) "pop" apos2) [e] [] cpos2) X.env) :: starEach [] X.env:=by rfl) (hs2:starEach [e] X.env=(false,eval e X.env) :: starEach [] X.env:=by rfl)
  (hp1:(backTo cpos (starEach [] X.env)).any (·.1)=false:=by rfl) (hp2:(backTo cpos2 (starEach [] X.env)).any (·.1)=false:=by rfl)
  (hsw:swapsWith (.Call (.Attribute (.Name x xpos) "append" apos) [.Call (.Attribute (.Name y ypos) "pop" apos2) [e] [] cpos2] [] cpos) none pos.line X.env=pure false:=by rfl) :
  QS X (.Expr (.Call (.Attribute (.Name x xpos) "append" apos) [.Call (.Attribute (.Name y ypos) "pop" apos2) [e] [] cpos2] [] cpos) pos) (nD i j te):=
 dU (mG (mR bo7 PySem.F.slot_list_append PySem.F.type_list_append mS (i8 hxN hxv hxd hxc) (fE (mR bo7 PySem.F.slot_list_pop PySem.F.type_list_pop an0 (i8 hyN hyv hyd hyc) (fE he fU hs2) hb2 hfew2 hl2 hs2 hp2) fU hs1) hb1 hfew1 hl1 hs1 hp1) hsw) fun _ _ _=>av5
end
end PP
namespace PyProof.Rows
open PySem
section
variable {prog : Program} {w : World} {A : Around} {E : Value → Shared → Prop} {s : Shared}
theorem aI0 {l:Addr}{vs:List Value}{Q:List Value->Shared->Prop} (hl:s.heap.IsTuple l vs.toArray)
  (h:Q vs { s with heap:=(s.heap.push (seqObj "list" #[] 0)).update s.heap.objs.size (Obj.mapSeq (· ++ vs.toArray)) }) (hsz:vs.length<=sizeLine) :
  wpAny (model prog w) A (collect (.ref l)) Q E s:=by
 obtain ⟨o,ho,hc,n,hd⟩:=id hl
 unfold collect
 refine ba9 (wpAny_runValue (codeAny_builtin entry_proto_collect' ?_))
 show wpAny _ _ (do again (.builtin "list.__iadd__" ⟨[<- newList [],.ref l],[]⟩)) _ _ s
 refine ba9 (br1 (bb3 ⟨Code.quiet_builtin _ (by decide +kernel),codeAny_builtin entry_list_iadd' ?_⟩))
 show wpAny _ _ (Builtin.List.listExtendWith (.ref s.heap.objs.size) (.ref l) (.ref s.heap.objs.size)) _ _ { s with heap:=s.heap.push (seqObj "list" #[] 0) }
 unfold Builtin.List.listExtendWith
 have ho':(s.heap.push (seqObj "list" #[] 0)).get? l=some o:=bb1 _ ho
 refine ba9 (wpAny_typeOf (T:="tuple") ⟨o,ho',hc⟩ ?_)
 have ht:(Value.type "tuple" == Value.type "tuple")=true:=by rfl
 rw [if_pos (by rw [ht]; simp)]
 refine ba9 (listItems_at ho' hd ?_)
 refine ba9 (listItems_at (xs:=#[]) (n:=0) (bb9 _ rfl) rfl ?_)
 rw [if_neg (by simp)]
 refine ba9 (listUpdate_at (xs:=#[]) (n:=0) (bb9 _ rfl) rfl ?_ (bf1 _) (by show (#[] ++ vs.toArray).size<=sizeLine+1; simp only [Array.size_append,bb5,List.length_nil]; omega))
 refine bb3 ?_
 show wpAny (model prog w) A (do
   let o <- load s.heap.objs.size
   match o.data with
   | .seq xs _=>pure xs.toList
   | _=>unsupported "internal:collect") Q E { s with heap:=(s.heap.push (seqObj "list" #[] 0)).update s.heap.objs.size (Obj.mapSeq (· ++ vs.toArray)) }
 refine ba9 (wpAny_load (get?_update_seq (bb9 _ rfl) _) ?_)
 show wpAny _ _ (pure ((#[]:Array Value) ++ vs.toArray).toList) Q E _
 rw [show ((#[]:Array Value) ++ vs.toArray).toList=vs by simp]
 exact bb3 h
theorem aI1 {l:Addr}{vs:List Value}{ns:List Int}{Q:Value->Shared->Prop} (hl:s.heap.IsTuple l vs.toArray) (hI:IntsAre vs ns) (h64:vs.length < 64)
  (h:∀ (out:Array Value) (ns':List Int),IntsAre out.toList ns'->ns'.Perm ns->ns'.Pairwise (· <= ·)->Q (.ref (s.heap.objs.size+1)) { s with heap:=sortedAll s.heap vs out }) :
  wpAny (model prog w) A (call (.builtin "sorted") [.ref l]) Q E s:=by
 have hsl:vs.length<=sizeLine:=bf6 (bg6 h64) (by decide)
 refine bn4 kind_sorted plain_sorted entry_sorted (args_sorted1 _) ?_
 unfold Builtin.«sorted»
 refine ba9 (m:=checkCount "sorted" 1 1 _) (bb3 ?_)
 refine ba9 (aI0 hl ?_ hsl)
 refine ba9 (br1 ?_)
 have hsz:((s.heap.push (seqObj "list" #[] 0)).update s.heap.objs.size (Obj.mapSeq (· ++ vs.toArray))).objs.size=s.heap.objs.size+1:=by
  rw [Heap.size_update,size_push']
 have hoL:(((s.heap.push (seqObj "list" #[] 0)).update s.heap.objs.size (Obj.mapSeq (· ++ vs.toArray))).push (seqObj "list" vs.toArray 0)).get? (s.heap.objs.size+1)=some (seqObj "list" vs.toArray 0):=by
  rw [<- hsz]; exact bb9 _ rfl
 show wpAny _ _ _ _ _ { s with heap:=((s.heap.push (seqObj "list" #[] 0)).update s.heap.objs.size (Obj.mapSeq (· ++ vs.toArray))).push (seqObj "list" vs.toArray 0) }
 rw [hsz]
 refine ba9 (bj9 (be5 slot_list_sort ⟨_,hoL,rfl⟩ entry_list_sort (list_sort_tree hoL hI h64 fun out ns' a1 a2 a3=>⟨_,rfl,?_⟩) (args_list_sort _)))
 exact bb3 ⟨_,rfl,h out ns' a1 a2 a3⟩
end
end PyProof.Rows
namespace PP
open PySem L2 PyProof.Rows
section
variable {X : Cx} {a b e : Expr} {ta tb te : aG} {tr : cZ} {pos p2 : Pos}
theorem aI2:cP X (.builtin "sorted") (fun xs H Q=>∃ a ns,xs = [.ref a]/\(aL X.K H a (ns.map V.int) ∨ aI X.K H a (ns.map V.int))/\ns.length < 64/\∀ l (ms:List Int),H l=none->ms.Perm ns->ms.Pairwise (· <= ·)->Q (.ref l) (upd H l (.lst (ms.map V.int)))):=by
 intro pins s σ H xs us Q I r h
 obtain ⟨a,ns,rfl,hs,h64,q⟩:=h
 rcases hs with hs | hs
 ·exact C6 pins s σ H _ us Q I r ⟨a,ns,rfl,hs,h64,q⟩
 obtain ⟨u,rfl,ru⟩:=fD r
 cases ru
 obtain ⟨its,rv,p,hz⟩:=I.tuple hs
 have hl:=rv.length
 rw [bb4] at hl
 refine aI1 p (iB rv) (by omega) fun out ns' a1 a2 a3=>?_
 obtain ⟨e,he⟩:=sortedAll_at s.heap its out
 have hn:s.heap.objs.size<=s.heap.objs.size+1:=bq7 _
 have hlen:ns'.length=ns.length:=a2.length_eq
 refine⟨.ref (s.heap.objs.size+1),upd H (s.heap.objs.size+1) (.lst (ns'.map V.int)),I.laid (t':=s.toks) (fun _ _=>sortedAll_old) hn ⟨?_,out.toList,e,mV a1,by simpa using he⟩,rfl,q _ ns' (I.hok.fresh hn) a2 a3⟩
 rw [bb4,hlen]
 exact bg6 (mW (by omega))
def rG:List PV->(PV->Prop)->Prop:=fun xs Q=>∃ x ns,xs = [x]/\gX x=some (intz ns)/\ns.length < 64/\∀ ms:List Int,ms.Perm ns->ms.Pairwise (· <= ·)->Q (.lst (intz ms))
theorem aI3:eB X rG (fun xs H Q=>∃ a ns,xs = [.ref a]/\(aL X.K H a (ns.map V.int) ∨ aI X.K H a (ns.map V.int))/\ns.length < 64/\∀ l (ms:List Int),H l=none->ms.Perm ns->ms.Pairwise (· <= ·)->Q (.ref l) (upd H l (.lst (ms.map V.int)))):=by
 rintro H vs xs Q Q' r ⟨x,ns,rfl,e,hl,q⟩ k
 obtain ⟨v,rfl,r1⟩:=r.one
 obtain ⟨a,us,rfl,hs,r2⟩:=r1.seq e
 obtain rfl:=r2.ofInts
 exact⟨a,ns,rfl,hs,hl,fun l ms hl' p o=>k _ _ _ (b9 hl' _) (.lst hl' aW (Reps.intz ms)) (q ms p o)⟩
theorem aI4 (B:Bt X.mg) (ha:QA X [e] tr) (hg:Gl X "sorted":=by rfl) (he:starEach [e] X.env=(false,eval e X.env) :: starEach [] X.env:=by rfl) (hpl:(backTo pos (starEach [] X.env)).any (·.1)=false:=by rfl):QE X (.Call (.Name "sorted" p2) [e] [] pos) (aB rG tr):=
 hG aI2 aI3 hg B.sorted bo1 ha (he:=he) (hpl:=hpl)
def wQ:PV->Tg->PV->Tg->PK->Prop:=fun x _ y _ Q=>∃ xs ys,x = .lst xs/\y = .lst ys/\flats xs=true/\flats ys=true/\xs.length+ys.length<=16000000/\Q (.lst (xs ++ ys)) .fr
abbrev rH (ta tb:aG):aG:=q2 wQ ta tb
theorem aI5:eJ X wQ zY:=by
 rintro W Hs H u v x y g g' Q Q' s n r1 r2 ⟨xs,ys,rfl,rfl,f1,f2,hl,q⟩ k
 obtain ⟨a,us,rfl,_,h1,q1⟩:=r1.sqL
 obtain ⟨b,ws,rfl,_,h2,q2⟩:=r2.sqL
 have l1:=q1.length
 have l2:=q2.length
 refine⟨a,b,us,ws,rfl,rfl,h1,h2,lim (by omega),fun p hp=>k _ _ _ .fr (b9 hp _) (.lst (s.free hp) aW (((q1.flat f1).append (q2.flat f2)).same (b9 hp _) fun _ z=>z)) q⟩
theorem wR (ha:QE X a ta) (hb:QE X b tb):QE X (.BinOp a .Add b pos) (rH ta tb):=kH an1 aI5 ha hb
end
end PP
namespace L2
open PySem PySem.Spec PyProof.Rows
def wS (K:PySem.W.Frag) (a:Addr):It:=
  ⟨fun i H=>∃ xs x,aL K H a xs/\xs[i]? = some x,
   fun i H v H'=>∃ T x,H T=none/\v = .ref T/\H'=upd H T (.tup [.int i,x])/\∀ xs,aL K H a xs->xs[i]? = some x,
   fun i H=>∃ xs,aL K H a xs/\xs.length<=i⟩
structure aI6 (e it a:Addr) (i:Nat) (h:Heap):Prop where
 ee:∃ old,IsEnum h e it i old
 s1:h.IsListIter it a i
theorem aI7 {P:Program}{w:World}{K:PySem.W.Frag}{elts:List Expr}{k:Nat}{pos:Pos} (a e it:Addr) (d:e ≠ it) :
  gP P w K (.Tuple elts k pos) (wS K a) [e,it] e (aI6 e it a):=by
 refine⟨by simp,fun i h st c hc=>?_,fun i h h' st kp=>?_,?_,?_,fun A i s Q E st q=>?_⟩
 ·simp only [bb8,bd3,bi0] at hc
  obtain ⟨old,ee⟩:=st.ee
  obtain ⟨o1,f1,g1,d1⟩:=st.s1
  rcases hc with rfl | rfl
  ·exact⟨_,ee,fun v q=>by cases q⟩
  ·exact⟨_,f1,fun v q=>by rw [d1] at q; cases q⟩
 ·obtain ⟨old,ee⟩:=st.ee
  exact⟨⟨old,kp e (by simp) _ ee⟩,st.s1.at fun o z=>kp it (by simp) o z⟩
 ·intro X hP hw hK hc i pins s σ H E I hf st hg
  subst hP hw hK
  obtain ⟨xs,x,ha,hx⟩:=hg
  obtain ⟨us,ru,pu,lu⟩:=I.list ha
  obtain ⟨ux,eux,rux⟩:=ru.get hx
  obtain ⟨old,ee⟩:=st.ee
  refine wpAny_pyNext_enum_item ee st.s1 pu.isList (by simpa using eux) d fun h' eo it' pr sz kp=>⟨_,rfl,?_⟩
  refine wpAny_letOwnedTupleGo_enum (s:={ s with heap:=h',toks:=s.toks+1 }) eo fun g zz sb=>?_
  have hzl:e < s.heap.objs.size:=bc7 ee
  have up:∀ c o,c ≠ e->c ≠ it->s.heap.get? c=some o->g.get? c=some o:=fun c o c1 c2 z=>sb.extBut c o c1 (kp c o c1 c2 z)
  have hT:H s.heap.objs.size=none:=I.hok.fresh (bb6 _)
  have prG:g.get? s.heap.objs.size=some { cls:=.type "tuple",data:=.seq #[.int i s.toks,ux] }:=sb.extBut _ _ (bi2 hzl) pr
  have fpn:∀ c u,H c=some u->c ∉ [e,it]:=fun c u z hm=>by rw [(hf c hm).1] at z; cases z
  have upH:∀ c o u,H c=some u->s.heap.get? c=some o->g.get? c=some o:=fun c o u q z=>by
   have:=fpn c u q
   simp only [bb8,bd3,bi0,not_or] at this
   exact up c o this.1 this.2 z
  have ns:∀ m,s.heap.Ns X.env.locals m->g.Ns X.env.locals m:=fun m hm=>by
   obtain ⟨o,es,ep,e1,e2⟩:=hm
   exact⟨o,es,ep,up _ o (Ne.symm (hf e (by simp)).2.1) (Ne.symm (hf it (by simp)).2.1) e1,e2⟩
  have I2:a6 X pins σ (upd H s.heap.objs.size (.tup [.int i,x])) { s with heap:=g,toks:=s.toks+1 }:=by
   refine I.step (g':=s.gens) (d':=s.drawn) (ch:=[e,it]) (fun c hc'=>?_) (fun c o _ _ hc' z _=>?_) (fun c o _ _ hc' z _=>⟨o.slots,?_⟩) (fun c o _ z n=>?_) (fun c o hc' z=>⟨o,?_⟩)
    (fun c zs z=>by rw [aH (cA z hT)]; exact z) (fun c u zs z=>by rw [aH (cA z hT)]; exact z) (fun c ps z=>⟨#[],by rw [aH (cA z hT),z]; simp⟩) ns (fun c u z=>?_) I.bare
   ·exact⟨(hf c hc').2.2.2.1,(hf c hc').2.1,(hf c hc').2.2.2.2.1,(hf c hc').2.2.2.2.2⟩
   ·simp only [bb8,bd3,bi0,not_or] at hc'
    exact up c o hc'.1 hc'.2 z
   ·simp only [bb8,bd3,bi0,not_or] at hc'
    exact up c o hc'.1 hc'.2 z
   ·rw [aH (be3 (bc7 z))]; exact n
   ·simp only [bb8,bd3,bi0,not_or] at hc'
    exact up c o hc'.1 hc'.2 z
   ·by_cases hcT:c=s.heap.objs.size
    ·subst hcT
     rw [aW] at z; cases z
     exact⟨by show 2<=sizeLine; decide,[.int i s.toks,ux],.cons ⟨_,rfl⟩ (.cons rux .nil),⟨_,prG,rfl,_,rfl⟩,fun u e=>by rw [prG] at e; cases e; rfl⟩
    ·rw [aH hcT] at z
     refine (I.hok c u z).stay (fun c' o' hc2 q'=>?_) (fun c' q'=>by rw [aH (cA q' hT)]; exact q') fun c' zs q'=>by rw [aH (cA q' hT)]; exact q'
     rcases hc2 with rfl | hc2
     ·exact upH _ _ _ z q'
     ·exact upH _ _ _ hc2 q'
  refine⟨.ref s.heap.objs.size,_,I2,rfl,⟨_,x,hT,rfl,rfl,fun xs' ha'=>?_⟩,⟨⟨ux,by push_cast; exact zz⟩,it'.at fun o z=>sb.extBut _ o (Ne.symm d) z⟩,fun c hc'=>?_⟩
  ·rw [I.list_inj ha' ha]; exact hx
  ·obtain ⟨o,z⟩:∃ o,s.heap.get? c=some o:=by
    simp only [bb8,bd3,bi0] at hc'
    obtain ⟨o1,f1,_⟩:=st.s1
    rcases hc' with rfl | rfl
    ·exact⟨_,ee⟩
    ·exact⟨_,f1⟩
   rw [aH (be3 (bc7 z))]; exact (hf c hc').1
 ·intro X hP hw hK hc i pins s σ H E I hf st hg
  subst hP hw hK
  obtain ⟨xs,ha,hi⟩:=hg
  obtain ⟨us,ru,pu,lu⟩:=I.list ha
  obtain ⟨old,ee⟩:=st.ee
  have hh:X.A.handled=none:=I.ok.hd hc
  have e1:=ru.length
  refine wpAny_pyNext_enum_end hh ee st.s1 pu.isList (by rw [bm9]; simp only [bb5]; omega) fun g kp=>⟨rfl,?_⟩
  have fpn:∀ c u,H c=some u->c ∉ [e,it]:=fun c u z hm=>by rw [(hf c hm).1] at z; cases z
  have upH:∀ c o u,H c=some u->s.heap.get? c=some o->g.get? c=some o:=fun c o u q z=>by
   have:=fpn c u q
   simp only [bb8,bd3,bi0,not_or] at this
   exact kp c o this.2 z
  have ns:∀ m,s.heap.Ns X.env.locals m->g.Ns X.env.locals m:=fun m hm=>by
   obtain ⟨o,es,ep,e1,e2⟩:=hm
   exact⟨o,es,ep,kp _ o (Ne.symm (hf it (by simp)).2.1) e1,e2⟩
  refine I.step (g':=s.gens) (d':=s.drawn) (ch:=[it]) (fun c hc'=>?_) (fun c o _ _ hc' z _=>?_) (fun c o _ _ hc' z _=>⟨o.slots,?_⟩) (fun c o _ z n=>n) (fun c o hc' z=>⟨o,?_⟩)
   (fun c zs z=>z) (fun c u zs z=>z) (fun c ps z=>⟨#[],by rw [z]; simp⟩) ns (fun c u z=>?_) I.bare
  ·have hm:c ∈ [e,it]:=bc3 _ hc'
   exact⟨(hf c hm).2.2.2.1,(hf c hm).2.1,(hf c hm).2.2.2.2.1,(hf c hm).2.2.2.2.2⟩
  ·exact kp c o (fun y=>hc' (by rw [y]; simp)) z
  ·exact kp c o (fun y=>hc' (by rw [y]; simp)) z
  ·exact kp c o (fun y=>hc' (by rw [y]; simp)) z
  ·refine (I.hok c u z).stay (fun c' o' hc2 q'=>?_) (fun _ q'=>q') fun _ _ q'=>q'
   rcases hc2 with rfl | hc2
   ·exact upH _ _ _ z q'
   ·exact upH _ _ _ hc2 q'
 ·obtain ⟨old,ee⟩:=st.ee
  exact wpAny_pyIter_enum ee q
end L2
namespace Zp
open PySem PyProof.Rows
section
variable {prog : Program} {w : World} {A : Around} {E : Value → Shared → Prop} {s : Shared}
theorem aI8 {e it t:Addr}{i:Nat}{items:Array Value}{x old:Value}{Q:Option Value->Shared->Prop} (he:IsEnum s.heap e it i old) (hi:s.heap.IsTupleIter it t i) (ht:s.heap.IsTuple t items) (hx:items[i]? = some x) (ne:e ≠ it)
  (q:∀ h',IsEnumOut h' e it ((i:Int)+1) x s.heap.objs.size->h'.IsTupleIter it t (i+1)->h'.get? s.heap.objs.size=some { cls:=.type "tuple",data:=.seq #[.int i s.toks,x] }->h'.objs.size=s.heap.objs.size+1->
   (∀ b o,b ≠ e->b ≠ it->s.heap.get? b=some o->h'.get? b=some o)->Q (some (.ref s.heap.objs.size)) { s with heap:=h',toks:=s.toks+1 }):wpAny (model prog w) A (pyNext (.ref e)) Q E s:=by
 have T:s.TypeIs (.ref e) "enumerate":=⟨_,he,rfl⟩
 have slot:=PySem.F.slot_enumerate_next
 unfold pyNext
 apply ba9
 apply bo0
 apply bf3 (name:=Str.ofString "__next__") T slot
 apply be5 slot T PySem.F.entry_enumerate_next _ (PySem.F.args_enumerate_next_1 _)
 change wpAny _ _ (field (.ref e) 2 >>= _) _ _ _
 apply ba9
 refine bi4 he rfl (x:=.ref it) rfl ?_
 apply ba9
 refine E8 hi ht hx fun g1 it1 sb1=>?_
 have e1:IsEnum g1 e it i old:=sb1.extBut _ _ ne he
 change wpAny _ _ (field (.ref e) 3 >>= _) _ _ _
 apply ba9
 refine bi4 e1 rfl (x:=rawInt i) rfl ?_
 change wpAny _ _ (field (.ref e) 4 >>= _) _ _ _
 apply ba9
 refine bi4 e1 rfl (x:=.none) rfl ?_
 change wpAny _ _ (mkInt i >>= _) _ _ _
 apply ba9
 refine wpAny_mkInt ?_
 change wpAny _ _ (setField (.ref e) 3 (rawInt ((i:Int)+1)) >>= _) _ _ _
 apply ba9
 refine bj0 e1 (by simp) fun g2 e2 sb2=>?_
 apply ba9
 refine bj0 e2 (by simp) fun g3 e3 sb3=>?_
 have e3:IsEnum g3 e it ((i:Int)+1) old:=e3
 apply ba9
 refine wpAny_newTuple ?_ (by show 2<=sizeLine; decide)
 have e4:IsEnum (g3.push { cls:=.type "tuple",data:=.seq #[.int i s.toks,x] }) e it ((i:Int)+1) old:=bb1 _ e3
 have size:g3.objs.size=s.heap.objs.size:=by rw [sb3.1,sb2.1,sb1.1]
 change wpAny _ _ (Builtin.SmallTypes.ownedTupleIsFree (.ref e) >>= _) _ _ _
 apply ba9
 unfold Builtin.SmallTypes.ownedTupleIsFree
 apply ba9
 refine bi4 e4 rfl (x:=.none) rfl (bb3 ?_)
 simp only [if_true]
 apply ba9
 apply bn7
 apply ba9
 refine bi4 e4 rfl (x:=old) rfl ?_
 apply ba9
 refine bj0 e4 (by simp) fun g5 e5 sb5=>?_
 apply ba9
 unfold Builtin.SmallTypes.ownedTupleHandOut
 apply ba9
 refine bj0 e5 (by simp) fun g6 e6 sb6=>?_
 refine bj0 e6 (by simp) fun g7 e7 sb7=>?_
 have e7:IsEnumOut g7 e it ((i:Int)+1) x g3.objs.size:=e7
 have elt:e < g3.objs.size:=bc7 e3
 have up:∀ c o,c ≠ e->(g3.push { cls:=.type "tuple",data:=.seq #[.int i s.toks,x] }).get? c=some o->g7.get? c=some o:=fun c o c1 z=>sb7.extBut c o c1 (sb6.extBut c o c1 (sb5.extBut c o c1 z))
 have up3:∀ c o,c ≠ e->g1.get? c=some o->g7.get? c=some o:=fun c o c1 z=>up c o c1 (bb1 _ (sb3.extBut c o c1 (sb2.extBut c o c1 z)))
 have p7:g7.get? g3.objs.size=some { cls:=.type "tuple",data:=.seq #[.int i s.toks,x] }:=up _ _ (bi2 elt) (bb9 _ rfl)
 have s7:g7.objs.size=g3.objs.size+1:=by rw [sb7.1,sb6.1,sb5.1,bl3]
 apply ba9
 apply wpAny_letGo
 apply bb3
 rw [size] at e7 p7 s7
 refine⟨_,rfl,bb3 ?_⟩
 change Q (some (.ref g3.objs.size)) _
 rw [size]
 exact q g7 e7 (it1.at fun o z=>up3 it o (Ne.symm ne) z) p7 s7 fun b o b1 b2 z=>up3 b o b1 (sb1.extBut b o b2 z)
theorem aI9 {e it t:Addr}{i:Nat}{items:Array Value}{old:Value}{Q:Option Value->Shared->Prop} (hh:A.handled=none) (he:IsEnum s.heap e it i old) (hi:s.heap.IsTupleIter it t i) (ht:s.heap.IsTuple t items) (hx:items[i]? = none)
  (q:∀ h',Heap.ExtBut it s.heap h'->Q none { s with heap:=h' }):wpAny (model prog w) A (pyNext (.ref e)) Q E s:=by
 have T:s.TypeIs (.ref e) "enumerate":=⟨_,he,rfl⟩
 have slot:=PySem.F.slot_enumerate_next
 unfold pyNext
 apply ba9
 apply bo0
 apply bf3 (name:=Str.ofString "__next__") T slot
 apply be5 slot T PySem.F.entry_enumerate_next _ (PySem.F.args_enumerate_next_1 _)
 change wpAny _ _ (field (.ref e) 2 >>= _) _ _ _
 apply ba9
 refine bi4 he rfl (x:=.ref it) rfl ?_
 apply ba9
 refine E9 hh hi ht hx fun g2 ex eb exo=>?_
 obtain ⟨oe,eo,co⟩:=exo
 apply ba9
 refine bp5 (T:="StopIteration") (b:=true) ⟨oe,eo,co⟩ isSubtype_stop ?_
 exact bb3 (q g2 eb)
theorem aJ0 {M:Model}{A:Around}{E:Value->Shared->Prop}{s:Shared}{α:Type}{c:Prop} [Decidable c] {m n:Sem α}{Q:α->Shared->Prop} (h1:wpAny M A m Q E s) (h2:wpAny M A n Q E s):wpAny M A (if c then m else n) Q E s:=by
 split
 ·exact h1
 ·exact h2
theorem aJ1 (t:Addr) (xs:Array Value):Meets (Builtin.«enumerate.__new__» ⟨[.type "enumerate",.ref t],[]⟩) (fun _ R s=>s.heap.IsTuple t xs/\R (.ok (.ret (.ref (s.heap.objs.size+1)))) { s with heap:=(s.heap.push { cls:=.type "tuple_iterator",data:=.fields #[.ref t,.int 0 0] }).push { cls:=.type "enumerate",data:=.fields #[.none,.bool false,.ref s.heap.objs.size,rawInt 0,.none,.none] } }):=
 .of_wp fun prog w A R s h=>by
  obtain ⟨hp,g,d,tk,os⟩:=s
  obtain ⟨ht,h⟩:=h
  have sub:=sub_enumerate
  have a1:Heap.IsTuple (Shared.heap ⟨hp,g,d,tk,os⟩) t xs:=ht
  wp_walk using bn6 a1
  refine wpAny_stack_any fun st=>bb3 ?_
  refine aJ0 ?_ ?_
  all_goals
   apply ba9
   refine wpAny_of_eq (a:=(Value.ref t,none)) rfl ?_
   wp_walk using bn6 a1
   have e:∀ (o:Obj) (k:Heap),(k.push o).objs.size=k.objs.size+1:=fun o k=>bl3 ..
   refine⟨_,rfl,?_⟩
   simp only [e] at h ⊢
   exact h
theorem aJ2 {t:Addr}{xs:Array Value}{Q:Value->Shared->Prop} (ht:s.heap.IsTuple t xs)
  (q:∀ h',IsEnum h' (s.heap.objs.size+1) s.heap.objs.size 0 .none->h'.IsTupleIter s.heap.objs.size t 0->h'.objs.size=s.heap.objs.size+2->(∀ c o,s.heap.get? c=some o->h'.get? c=some o)->Q (.ref (s.heap.objs.size+1)) { s with heap:=h' }) :
  wpAny (model prog w) A (call (.type "enumerate") [.ref t]) Q E s:=by
 refine callType_new PySem.F.called_enumerate (by decide) (PySem.F.typeCall_enumerate_1 _) (PySem.F.newCall_enumerate_1 _) (fun obj=>PySem.F.args_object_init_2 obj _) PySem.F.entry_enumerate_new (aJ1 t xs) ⟨ht,?_⟩
 have e:∀ (o:Obj) (k:Heap),(k.push o).objs.size=k.objs.size+1:=fun o k=>bl3 ..
 have g0:((s.heap.push { cls:=.type "tuple_iterator",data:=.fields #[.ref t,.int 0 0] }).push { cls:=.type "enumerate",data:=.fields #[.none,.bool false,.ref s.heap.objs.size,rawInt 0,.none,.none] }).get? s.heap.objs.size=some { cls:=.type "tuple_iterator",data:=.fields #[.ref t,.int 0 0] }:=bb1 _ (bb9 _ rfl)
 have g1:((s.heap.push { cls:=.type "tuple_iterator",data:=.fields #[.ref t,.int 0 0] }).push { cls:=.type "enumerate",data:=.fields #[.none,.bool false,.ref s.heap.objs.size,rawInt 0,.none,.none] }).get? (s.heap.objs.size+1)=some { cls:=.type "enumerate",data:=.fields #[.none,.bool false,.ref s.heap.objs.size,rawInt 0,.none,.none] }:=by
  have:=bb9 (h:=s.heap.push { cls:=.type "tuple_iterator",data:=.fields #[.ref t,.int 0 0] }) (o:={ cls:=.type "enumerate",data:=.fields #[.none,.bool false,.ref s.heap.objs.size,rawInt 0,.none,.none] }) rfl
  rw [e] at this; exact this
 exact⟨⟨_,g1,rfl⟩,q _ g1 ⟨_,g0,rfl,rfl⟩ (by rw [e,e]) fun c o z=>bb1 _ (bb1 _ z)⟩
end
end Zp
namespace L2
open PySem PySem.Spec PyProof.Rows
def wT (K:PySem.W.Frag) (a:Addr):It:=
  ⟨fun i H=>∃ xs x,aI K H a xs/\xs[i]? = some x,
   fun i H v H'=>∃ T x,H T=none/\v = .ref T/\H'=upd H T (.tup [.int i,x])/\∀ xs,aI K H a xs->xs[i]? = some x,
   fun i H=>∃ xs,aI K H a xs/\xs.length<=i⟩
structure aJ3 (e it a:Addr) (i:Nat) (h:Heap):Prop where
 ee:∃ old,IsEnum h e it i old
 s1:h.IsTupleIter it a i
theorem aJ4 {P:Program}{w:World}{K:PySem.W.Frag}{elts:List Expr}{k:Nat}{pos:Pos} (a e it:Addr) (d:e ≠ it) :
  gP P w K (.Tuple elts k pos) (wT K a) [e,it] e (aJ3 e it a):=by
 refine⟨by simp,fun i h st c hc=>?_,fun i h h' st kp=>?_,?_,?_,fun A i s Q E st q=>?_⟩
 ·simp only [bb8,bd3,bi0] at hc
  obtain ⟨old,ee⟩:=st.ee
  obtain ⟨o1,f1,g1,d1⟩:=st.s1
  rcases hc with rfl | rfl
  ·exact⟨_,ee,fun v q=>by cases q⟩
  ·exact⟨_,f1,fun v q=>by rw [d1] at q; cases q⟩
 ·obtain ⟨old,ee⟩:=st.ee
  exact⟨⟨old,kp e (by simp) _ ee⟩,st.s1.at fun o z=>kp it (by simp) o z⟩
 ·intro X hP hw hK hc i pins s σ H E I hf st hg
  subst hP hw hK
  obtain ⟨xs,x,ha,hx⟩:=hg
  obtain ⟨us,ru,pu,lu⟩:=I.tuple ha
  obtain ⟨ux,eux,rux⟩:=ru.get hx
  obtain ⟨old,ee⟩:=st.ee
  refine Zp.aI8 ee st.s1 pu (by simpa using eux) d fun h' eo it' pr sz kp=>⟨_,rfl,?_⟩
  refine wpAny_letOwnedTupleGo_enum (s:={ s with heap:=h',toks:=s.toks+1 }) eo fun g zz sb=>?_
  have hzl:e < s.heap.objs.size:=bc7 ee
  have up:∀ c o,c ≠ e->c ≠ it->s.heap.get? c=some o->g.get? c=some o:=fun c o c1 c2 z=>sb.extBut c o c1 (kp c o c1 c2 z)
  have hT:H s.heap.objs.size=none:=I.hok.fresh (bb6 _)
  have prG:g.get? s.heap.objs.size=some { cls:=.type "tuple",data:=.seq #[.int i s.toks,ux] }:=sb.extBut _ _ (bi2 hzl) pr
  have fpn:∀ c u,H c=some u->c ∉ [e,it]:=fun c u z hm=>by rw [(hf c hm).1] at z; cases z
  have upH:∀ c o u,H c=some u->s.heap.get? c=some o->g.get? c=some o:=fun c o u q z=>by
   have:=fpn c u q
   simp only [bb8,bd3,bi0,not_or] at this
   exact up c o this.1 this.2 z
  have ns:∀ m,s.heap.Ns X.env.locals m->g.Ns X.env.locals m:=fun m hm=>by
   obtain ⟨o,es,ep,e1,e2⟩:=hm
   exact⟨o,es,ep,up _ o (Ne.symm (hf e (by simp)).2.1) (Ne.symm (hf it (by simp)).2.1) e1,e2⟩
  have I2:a6 X pins σ (upd H s.heap.objs.size (.tup [.int i,x])) { s with heap:=g,toks:=s.toks+1 }:=by
   refine I.step (g':=s.gens) (d':=s.drawn) (ch:=[e,it]) (fun c hc'=>?_) (fun c o _ _ hc' z _=>?_) (fun c o _ _ hc' z _=>⟨o.slots,?_⟩) (fun c o _ z n=>?_) (fun c o hc' z=>⟨o,?_⟩)
    (fun c zs z=>by rw [aH (cA z hT)]; exact z) (fun c u zs z=>by rw [aH (cA z hT)]; exact z) (fun c ps z=>⟨#[],by rw [aH (cA z hT),z]; simp⟩) ns (fun c u z=>?_) I.bare
   ·exact⟨(hf c hc').2.2.2.1,(hf c hc').2.1,(hf c hc').2.2.2.2.1,(hf c hc').2.2.2.2.2⟩
   ·simp only [bb8,bd3,bi0,not_or] at hc'
    exact up c o hc'.1 hc'.2 z
   ·simp only [bb8,bd3,bi0,not_or] at hc'
    exact up c o hc'.1 hc'.2 z
   ·rw [aH (be3 (bc7 z))]; exact n
   ·simp only [bb8,bd3,bi0,not_or] at hc'
    exact up c o hc'.1 hc'.2 z
   ·by_cases hcT:c=s.heap.objs.size
    ·subst hcT
     rw [aW] at z; cases z
     exact⟨by show 2<=sizeLine; decide,[.int i s.toks,ux],.cons ⟨_,rfl⟩ (.cons rux .nil),⟨_,prG,rfl,_,rfl⟩,fun u e=>by rw [prG] at e; cases e; rfl⟩
    ·rw [aH hcT] at z
     refine (I.hok c u z).stay (fun c' o' hc2 q'=>?_) (fun c' q'=>by rw [aH (cA q' hT)]; exact q') fun c' zs q'=>by rw [aH (cA q' hT)]; exact q'
     rcases hc2 with rfl | hc2
     ·exact upH _ _ _ z q'
     ·exact upH _ _ _ hc2 q'
  refine⟨.ref s.heap.objs.size,_,I2,rfl,⟨_,x,hT,rfl,rfl,fun xs' ha'=>?_⟩,⟨⟨ux,by push_cast; exact zz⟩,it'.at fun o z=>sb.extBut _ o (Ne.symm d) z⟩,fun c hc'=>?_⟩
  ·rw [I.tuple_inj ha' ha]; exact hx
  ·obtain ⟨o,z⟩:∃ o,s.heap.get? c=some o:=by
    simp only [bb8,bd3,bi0] at hc'
    obtain ⟨o1,f1,_⟩:=st.s1
    rcases hc' with rfl | rfl
    ·exact⟨_,ee⟩
    ·exact⟨_,f1⟩
   rw [aH (be3 (bc7 z))]; exact (hf c hc').1
 ·intro X hP hw hK hc i pins s σ H E I hf st hg
  subst hP hw hK
  obtain ⟨xs,ha,hi⟩:=hg
  obtain ⟨us,ru,pu,lu⟩:=I.tuple ha
  obtain ⟨old,ee⟩:=st.ee
  have hh:X.A.handled=none:=I.ok.hd hc
  have e1:=ru.length
  refine Zp.aI9 hh ee st.s1 pu (by rw [bm9]; simp only [bb5]; omega) fun g kp=>⟨rfl,?_⟩
  have fpn:∀ c u,H c=some u->c ∉ [e,it]:=fun c u z hm=>by rw [(hf c hm).1] at z; cases z
  have upH:∀ c o u,H c=some u->s.heap.get? c=some o->g.get? c=some o:=fun c o u q z=>by
   have:=fpn c u q
   simp only [bb8,bd3,bi0,not_or] at this
   exact kp c o this.2 z
  have ns:∀ m,s.heap.Ns X.env.locals m->g.Ns X.env.locals m:=fun m hm=>by
   obtain ⟨o,es,ep,e1,e2⟩:=hm
   exact⟨o,es,ep,kp _ o (Ne.symm (hf it (by simp)).2.1) e1,e2⟩
  refine I.step (g':=s.gens) (d':=s.drawn) (ch:=[it]) (fun c hc'=>?_) (fun c o _ _ hc' z _=>?_) (fun c o _ _ hc' z _=>⟨o.slots,?_⟩) (fun c o _ z n=>n) (fun c o hc' z=>⟨o,?_⟩)
   (fun c zs z=>z) (fun c u zs z=>z) (fun c ps z=>⟨#[],by rw [z]; simp⟩) ns (fun c u z=>?_) I.bare
  ·have hm:c ∈ [e,it]:=bc3 _ hc'
   exact⟨(hf c hm).2.2.2.1,(hf c hm).2.1,(hf c hm).2.2.2.2.1,(hf c hm).2.2.2.2.2⟩
  ·exact kp c o (fun y=>hc' (by rw [y]; simp)) z
  ·exact kp c o (fun y=>hc' (by rw [y]; simp)) z
  ·exact kp c o (fun y=>hc' (by rw [y]; simp)) z
  ·refine (I.hok c u z).stay (fun c' o' hc2 q'=>?_) (fun _ q'=>q') fun _ _ q'=>q'
   rcases hc2 with rfl | hc2
   ·exact upH _ _ _ z q'
   ·exact upH _ _ _ hc2 q'
 ·obtain ⟨old,ee⟩:=st.ee
  exact wpAny_pyIter_enum ee q
section
variable {X : Cx}
def T0 (K:PySem.W.Frag) (ta:TA):TI:=fun σ H R=>ta σ H fun vs H1=>∃ a,vs = [.ref a]/\((∃ xs,aL K H1 a xs/\R (wS K a) H1) ∨ (∃ xs,aI K H1 a xs/\R (wT K a) H1))
theorem aJ5 {elts:List Expr}{kt:Nat}{pt:Pos}{a:Expr}{ta:TA}{p pos:Pos} (hg:Gl X "enumerate") (hm:X.mg "enumerate" = none) (ha:PA X [a] ta) (hs:starEach [a] X.env = [(false,eval a X.env)]:=by rfl) :
  PI X (.Tuple elts kt pt) (.Call (.Name "enumerate" p) [a] [] pos) (T0 X.K ta):=by
 intro pins s σ H R I h
 refine Call_ (k7 I hg hm PyProof.Rows.boot_enumerate (bk8 (aN (ha pos pins s σ H _ I h) fun us s1 ⟨vs,H1,I1,r1,q1⟩=>?_) (by rw [hs]; rfl) (by rfl)))
 obtain ⟨a',e,q⟩:=q1
 subst e
 have fresh:∀ k,H1 (s1.heap.objs.size+k)=none:=fun k=>I1.hok.fresh (bn8 _ _)
 cases r1 with
 | cons r rr=>
  cases rr
  cases r
  rcases q with ⟨xs,h1,q⟩ | ⟨xs,h1,q⟩
  ·obtain ⟨us,_,p1,_⟩:=I1.list h1
   refine call_enumerate_list p1.isList fun h' z s1' sz kp=>wpAny_pyIter_enum z ?_
   refine⟨s1.heap.objs.size+1,[s1.heap.objs.size+1,s1.heap.objs.size],_,_,H1,rfl,I1.kept (t':=s1.toks) kp,
    aI7 a' _ _ (Nat.succ_ne_self _),⟨⟨_,z⟩,s1'⟩,fun c hc=>?_,q⟩
   simp only [bb8,bd3,bi0] at hc
   rcases hc with rfl | rfl
   ·exact I1.fpOk (bn8 _ _) (fresh 1)
   ·exact I1.fpOk (bb6 _) (fresh 0)
  ·obtain ⟨us,_,p1,_⟩:=I1.tuple h1
   refine Zp.aJ2 p1 fun h' z s1' sz kp=>wpAny_pyIter_enum z ?_
   refine⟨s1.heap.objs.size+1,[s1.heap.objs.size+1,s1.heap.objs.size],_,_,H1,rfl,I1.kept (t':=s1.toks) kp,
    aJ4 a' _ _ (Nat.succ_ne_self _),⟨⟨_,z⟩,s1'⟩,fun c hc=>?_,q⟩
   simp only [bb8,bd3,bi0] at hc
   rcases hc with rfl | rfl
   ·exact I1.fpOk (bn8 _ _) (fresh 1)
   ·exact I1.fpOk (bb6 _) (fresh 0)
end
end L2
namespace PP
open PySem L2 PyProof.Rows
def jH (xs:List PV):List PV:=xs.mapIdx fun i x=>PV.tup [.int (i:Int),x]
theorem oB (xs:List PV):(jH xs).length=xs.length:=by unfold jH; rw [List.length_mapIdx]
theorem T1 {xs:List PV}{i:Nat}{x:PV} (h:xs[i]? = some x):(jH xs)[i]? = some (.tup [.int (i:Int),x]):=by
 unfold jH; rw [List.getElem?_mapIdx,h]; rfl
theorem wU {xs:List PV}{i:Nat}{z:PV} (h:(jH xs)[i]? = some z):∃ x,xs[i]? = some x/\z = .tup [.int (i:Int),x]:=by
 unfold jH at h
 rw [List.getElem?_mapIdx] at h
 cases e:xs[i]? with
 | none=>rw [e] at h; cases h
 | some x=>rw [e] at h; exact⟨x,rfl,(be0 h).symm⟩
def oC (te:aG):eL:=fun ρ Q=>te ρ fun x g=>∃ xs,(x = .lst xs ∨ x = .tup xs)/\(g = .rd->flat x=true)/\Q (jH xs) (lF g xs)
theorem aJ6 {K:PySem.W.Frag}{H0:Hp}{W:Addr->Prop}{g:Bool}{H1:Hp}{a:Addr}{us:List V}{xs:List PV} (tw:∀ a,W a->∃ o,H1 a=some o/\fJ o=true) (ha:∀ W' H',Ev W H1 W' H'->aL K H' a us) (r:Reps K (Ms H0 W g) H1 us xs):jQ K H0 W g H1 (wS K a) (jH xs):=by
 have lr:=r.length
 have ll:=oB xs
 refine⟨fun W' H' i e hi=>⟨us,us[i]'(by omega),ha W' H' e,by simp⟩,fun W' H' i v H2 e y hi=>?_,fun W' H' e=>⟨us,ha W' H' e,by omega⟩⟩
 obtain ⟨T,x,hT,rfl,rfl,y⟩:=y
 obtain ⟨z,hz,rz⟩:=r.get (y us (ha W' _ e))
 have sm:=b9 hT (HO.tup [.int (i:Int),x])
 exact⟨sm,_,T1 hz,.tup aW (.cons (.int _) (.cons ((rz.keep (e.keep tw)).same sm fun _ q=>q) .nil))⟩
theorem aJ7 {K:PySem.W.Frag}{H0:Hp}{W:Addr->Prop}{g:Bool}{H1:Hp}{a:Addr}{us:List V}{xs:List PV} (tw:∀ a,W a->∃ o,H1 a=some o/\fJ o=true) (ha:∀ W' H',Ev W H1 W' H'->aI K H' a us) (r:Reps K (Ms H0 W g) H1 us xs):jQ K H0 W g H1 (wT K a) (jH xs):=by
 have lr:=r.length
 have ll:=oB xs
 refine⟨fun W' H' i e hi=>⟨us,us[i]'(by omega),ha W' H' e,by simp⟩,fun W' H' i v H2 e y hi=>?_,fun W' H' e=>⟨us,ha W' H' e,by omega⟩⟩
 obtain ⟨T,x,hT,rfl,rfl,y⟩:=y
 obtain ⟨z,hz,rz⟩:=r.get (y us (ha W' _ e))
 have sm:=b9 hT (HO.tup [.int (i:Int),x])
 exact⟨sm,_,T1 hz,.tup aW (.cons (.int _) (.cons ((rz.keep (e.keep tw)).same sm fun _ q=>q) .nil))⟩
section
variable {X : Cx} {σ : L2.St} {H : Hp} {te : aG} {R : It → Hp → Prop}
theorem aJ8 (h:LI X (oC te) σ H R):T0 X.K (gR (LE X te) iT) σ H R:=by
 obtain ⟨W,ρ,Q,px,q,k⟩:=h
 refine⟨W,ρ,_,px,q,?_⟩
 rintro v H1 x g s r ⟨xs,hx,hg,q⟩
 have px1:=px.mono s
 have tw:∀ a,W a->∃ o,H1 a=some o/\fJ o=true:=fun a z=>(px1.wm a z).2
 rcases hx with rfl | rfl
 ·obtain ⟨a,us,rfl,m,h,r⟩:=r.sqL
  have wa : ¬ W a:=by
   cases g with
   | fr=>exact (px.new m).1
   | nw=>exact m.1
   | sh=>exact m
   | rd=>have:=hg rfl; unfold flat at this; cases this
  exact⟨a,rfl,.inl ⟨us,aL.of h,k _ _ _ _ s (aJ6 tw (fun W' H' e=>aL.of (e _ _ h wa).1) (lG px (fun z=>by have:=hg z; unfold flat at this; cases this) r)) q⟩⟩
 ·obtain ⟨a,us,rfl,h,r⟩:=r.sqT
  refine⟨a,rfl,.inr ⟨us,aI.of h,k _ _ _ _ s (aJ7 tw (fun W' H' e=>aI.of (e _ _ h fun z=>?_).1) (lG px (fun z=>by have:=hg z; unfold flat at this; exact this) r)) q⟩⟩
  obtain ⟨o,h',mu⟩:=tw _ z; rw [h] at h'; cases h'; cases mu
theorem wV {elts:List Expr}{kt:Nat}{pt p2 pos:Pos}{a:Expr}{ta:aG} (hg:Gl X "enumerate") (hm:X.mg "enumerate" = none) (ha:QE X a ta) (hs:starEach [a] X.env = [(false,eval a X.env)]:=by rfl):QI X (.Tuple elts kt pt) (.Call (.Name "enumerate" p2) [a] [] pos) (oC ta):=
 nL (aJ5 hg hm (fE ha fU hs) hs) fun _ _ _=>aJ8
end
section
variable {X : Cx} {e : Expr} {te : aG} {pos p2 : Pos} {scope : Scope} {N : List Str} {fr : List (Option Nat)} {x y : Str} {tp xp yp : Pos} {kt : Nat} {iter elt : Expr} {ti : eL}
abbrev lZ (x y:Str) (xp yp:Pos) (kt:Nat) (tp:Pos):Expr:=.Tuple [.Name x xp,.Name y yp] kt tp
theorem T2 {ifs:List Expr}{tcs:c7} (hc:X.calm=true) (he:∀ (s:Shared) (H:Hp) (C:Addr) (fp:List Addr),QE (bF X scope N s H C fp cI) elt te) (hi:∀ (s:Shared) (H:Hp) (C:Addr) (fp:List Addr),jN (bF X scope N s H C fp cI) ifs (LT (bF X scope N s H C fp cI) tcs))
  (hN:N.Nodup) (h0:N[0]? = some x) (h1:N[1]? = some y) (hl:∀ (s:Shared) (H:Hp) (C:Addr) (fp:List Addr),(bF X scope N s H C fp cI).env.scope.names.lookup x=some .local) (hl2:∀ (s:Shared) (H:Hp) (C:Addr) (fp:List Addr),(bF X scope N s H C fp cI).env.scope.names.lookup y=some .local) (s:Shared) (H:Hp) :
  l6 X scope N (lZ x y xp yp kt tp) ifs elt s H (mI X.K 2 (iR (cX 0) (iR (cX 1) mH))) (LT (X.frm H) tcs) (LE (X.frm H) te):=
 ⟨fun C fp=>sR (X:=bF X scope N s H C fp cI) hc (kY (iQ hN h0 (.inl (hl s H C fp)) (.inr (hl s H C fp))) (kY (iQ hN h1 (.inl (hl2 s H C fp)) (.inr (hl2 s H C fp))) sQ)),fun C fp=>hi s H C fp,fun C fp=>he s H C fp⟩
theorem T3 (hi:QI X (lZ x y xp yp kt tp) iter ti) (he:∀ (s:Shared) (H:Hp) (C:Addr) (fp:List Addr),QE (bF X scope N s H C fp cI) elt te)
  (hc:X.calm=true:=by rfl) (S:cY X scope N fr:=by exact cY.of rfl rfl) (hN:N.Nodup:=by decide +kernel) (h0:N[0]? = some x:=by rfl) (h1:N[1]? = some y:=by rfl) (hl:∀ (s:Shared) (H:Hp) (C:Addr) (fp:List Addr),(bF X scope N s H C fp cI).env.scope.names.lookup x=some .local:=by intro _ _ _ _; rfl) (hl2:∀ (s:Shared) (H:Hp) (C:Addr) (fp:List Addr),(bF X scope N s H C fp cI).env.scope.names.lookup y=some .local:=by intro _ _ _ _; rfl) (hf:fr[0]? = some none:=by rfl) (hf2:fr[1]? = some none:=by rfl)
  (hs:∀ x,foldedSetIterable iter X.env x=pure x:=by intro _; rfl):QE X (.ListComp elt [⟨lZ x y xp yp kt tp,iter,[],0⟩] scope pos) (dI ti fr (iF 0 1) dC te):=
 cO (u6 (gh:=fun _=>mI X.K 2 (iR (cX 0) (iR (cX 1) mH))) (tch:=fun H=>LT (X.frm H) dC) (teh:=fun H=>LE (X.frm H) te) hc S hi (T2 hc he (fun _ _ _ _=>qL) hN h0 h1 hl hl2) hs) fun _ _ _=>nI (uT _ 0 1) (fun i e=>by rcases e with e | e <;> (subst e; assumption))
theorem aJ9 {c:Expr}{tcs:c7}{i:Nat}{z:Str}{zp:Pos} (nd:X.N.Nodup) (hi:QI X (lZ x y xp yp kt tp) iter ti) (ht:∀ (s:Shared) (H:Hp) (C:Addr) (fp:List Addr),QT (bF X scope N s H C fp cI) c tcs) (he:∀ (s:Shared) (H:Hp) (C:Addr) (fp:List Addr),QE (bF X scope N s H C fp cI) elt te)
  (hz:X.N[i]? = some z:=by rfl) (hzl:X.env.scope.names.lookup z=some .local:=by rfl) (hsw:swapsWith (.ListComp elt [⟨lZ x y xp yp kt tp,iter,[c],0⟩] scope p2) (some (.Name z zp)) pos.line X.env=pure true:=by rfl)
  (hc:X.calm=true:=by rfl) (S:cY X scope N fr:=by exact cY.of rfl rfl) (hN:N.Nodup:=by decide +kernel) (h0:N[0]? = some x:=by rfl) (h1:N[1]? = some y:=by rfl) (hl:∀ (s:Shared) (H:Hp) (C:Addr) (fp:List Addr),(bF X scope N s H C fp cI).env.scope.names.lookup x=some .local:=by intro _ _ _ _; rfl) (hl2:∀ (s:Shared) (H:Hp) (C:Addr) (fp:List Addr),(bF X scope N s H C fp cI).env.scope.names.lookup y=some .local:=by intro _ _ _ _; rfl) (hf:fr[0]? = some none:=by rfl) (hf2:fr[1]? = some none:=by rfl)
  (hs:∀ x,foldedSetIterable iter X.env x=pure x:=by intro _; rfl):QS X (.Assign [.Name z zp] (.ListComp elt [⟨lZ x y xp yp kt tp,iter,[c],0⟩] scope p2) pos) (aY i (dI ti fr (iF 0 1) tcs te)):=
 dU (u7 (gh:=fun _=>mI X.K 2 (iR (cX 0) (iR (cX 1) mH))) (tch:=fun H=>LT (X.frm H) tcs) (teh:=fun H=>LE (X.frm H) te) hc S hi (T2 hc he (fun s H C fp=>B5 (ht s H C fp)) hN h0 h1 hl hl2) nd hz hzl hsw hs) fun D σ H h=>nI (uT _ 0 1) (fun i e=>by rcases e with e | e <;> (subst e; assumption)) (pP h)
end
section
variable {X : Cx} {a b e o f : Expr} {ta tb te td tk tx : aG} {pos p2 apos cpos : Pos} {σ : L2.St} {H : Hp} {Q' : VK}
theorem T4 {x:Str}{n:Int}{t:Nat} (hg:Gl X x) (hm:X.mg x=some (.int n t)) (hd:(x == ("__debug__" : Str))=false:=by decide):QE X (.Name x pos) (qC (.int n)):=
 cO (ae7 (v:=.int n) hg hm ⟨t,rfl⟩ hd) fun _ _ _=>pK fun _=>.int n
end
end PP
namespace Core
open PySem L2 PP
section
variable (ws : List Int) (ls : List (Int × Int)) (os ns : List Int)
def gA:Nat->List Int
 | 0=>[]
 | k+1=>gA k ++ (os.find? (kin ws ls (ns ++ gA k))).toList
def oD (k:Nat):Option Int:=os.find? (kin ws ls (ns ++ gA ws ls os ns k))
end
section
variable {ws : List Int} {ls : List (Int × Int)} {os ns : List Int}
theorem aK0 {k:Nat}{h:Int} (e:oD ws ls os ns k=some h):gA ws ls os ns (k+1)=gA ws ls os ns k ++ [h]:=by
 show gA ws ls os ns k ++ (oD ws ls os ns k).toList=_
 rw [e]; rfl
def aK1 (ws:List Int) (ls:List (Int × Int)) (T:List Int):Prop:=∀ h ∈ rng ws.length,kin ws ls T h=false
theorem aK2 {k:Nat}{h:Int} (e:oD ws ls os ns k=some h):h ∈ os/\h ∉ ns ++ gA ws ls os ns k:=
 ⟨List.mem_of_find?_eq_some e,bp8 (w5 (List.find?_some e))⟩
theorem aK3 (po:os.Perm (rng ws.length)) (hs:bB ws.length ns=true):∀ k,(ns ++ gA ws ls os ns k).Nodup/\∀ x ∈ ns ++ gA ws ls os ns k,x ∈ rng ws.length
 | 0=>by
  rw [show gA ws ls os ns 0 = [] from rfl,bf8]
  exact⟨(eQ (cL hs).1).imp fun h=>Int.ne_of_lt h,fun x hx=>bQ.mpr ((cL hs).2 x hx)⟩
 | k+1=>by
  obtain ⟨i1,i2⟩:=aK3 po hs k
  cases e:oD ws ls os ns k with
  | none=>
   have:gA ws ls os ns (k+1)=gA ws ls os ns k:=by
    show gA ws ls os ns k ++ (oD ws ls os ns k).toList=_
    rw [e]; exact bf8 _
   rw [this]; exact⟨i1,i2⟩
  | some h=>
   obtain ⟨n1,n2⟩:=aK2 e
   rw [aK0 e,<- bd6]
   refine⟨bl0.mpr ⟨i1,bg1 _ _,fun x hx y hy=>?_⟩,fun x hx=>?_⟩
   ·rw [bc1.mp hy]; intro z; subst z; exact n2 hx
   ·rcases be1.mp hx with hx | hx
    ·exact i2 x hx
    ·rw [bc1.mp hx]; exact po.mem_iff.mp n1
theorem m3 (hs:bB ws.length ns=true):∀ k,(aR ws ls ns k).Nodup
 | 0=>(eQ (cL hs).1).imp fun h=>Int.ne_of_lt h
 | k+1=>by
  show (aR ws ls ns k ++ nextOf ws ls (aR ws ls ns k)).Nodup
  refine bl0.mpr ⟨m3 hs k,(wN ws.length).filter _,fun x hx y hy=>?_⟩
  intro z; subst z
  exact bp8 (w5 (bl4.mp hy).2) hx
end
def aK4:bD:=fun xs Q=>∃ ws ls x os,xs = [bG ws ls,x]/\ws.length<=40/\cQ x os/\os.Perm (rng ws.length)/\Q (.bl true)
def T5:aP:=(bO (q2 (jT 2 false) (aB rG (a7 (a5 1) a9)) (o7 (aB jF (a7 (a5 0) a9)))))
theorem aK5 (n:Nat):(rng n).Pairwise (· <= ·):=by
 unfold rng
 rw [bg4]
 exact List.pairwise_lt_range.imp fun h=>by omega
theorem aK6:cU T5 ["web","numbers"] aK4:=by
 rintro xs Q ⟨ws,ls,x,os,rfl,few,hx,po,q⟩
 have lo:=po.length_eq
 rw [fO] at lo
 refine⟨_,rfl,_,os,rfl,hx.seq,by omega,fun ms pm sm=>?_⟩
 obtain rfl:ms=rng ws.length:=aH6 (pm.trans po) sm (aK5 _)
 refine⟨_,rfl,ws,ls,rfl,_,rfl,by omega,by omega,?_⟩
 rw [kQ]
 refine⟨.inr ⟨_,_,rfl,rfl⟩,J3 2 _ _,trivial,?_⟩
 show Q (.bl (c8 3 (.lst (intz (rng ws.length))) (.lst (intz (rng ((ws.length:Int).toNat))))))
 rw [show ((ws.length:Int).toNat)=ws.length from rfl,J2,bc9 rfl]
 exact q
def rJ:bD:=fun xs Q=>∃ n c:Int,xs = [.int n,.int c]/\0<=n/\n<=40/\∀ os:List Int,os.Perm (rng n.toNat)->Q (.lst (intz os))
def T6:aP:=(aK (dS 2 (o7 (a5 0)))
 (aK (dS 3 (gG a9))
 (aK (aY 4 (jU (bM (a5 1) (qC (.int 2))) (qC (.int 1))))
 (aK (aY 5 (dD (a5 1) (qC (.int 2))))
 (aK (dH (gY (a5 0)) (bS 6)
  (aK (aY 7 (bM (gH (jA (jA (bM (a5 1) (qC (.int 1000000007))) (gH (a5 6) (a5 6))) (qC (.int 1))) (qC (.int 48271))) (qC (.int 2147483647))))
  (aK (aY 8 (bM (dD (bM (gH (a5 7) (a5 7)) (qC (.int 1000003))) (qC (.int 8))) (aB eZ (a7 (a5 2) a9))))
  (aK (dB (pR (a5 4)) (aY 8 (bM (a5 5) (aB eZ (a7 (a5 2) a9)))) dA)
  (aK (aY 5 (dD (a5 5) (aB eZ (a7 (a5 2) a9))))
  (nD 3 2 (a5 8)))))))
 (kF 3))))))
theorem aK7:cU T6 ["many","cell","left","places","digits","rest","k","number","spot"] rJ:=by
 rintro xs Q ⟨n,c,rfl,n0,n1,q⟩
 refine⟨_,rfl,n,rfl,by omega,by omega,rfl,?_,?_⟩
 ·show flats (eM 0 n.toNat)=true
  rw [kQ]; exact cE _
 rw [kQ]
 refine⟨by decide,rfl,rfl,rfl,?_⟩
 refine⟨_,rfl,_,_,rfl,rfl,(by show (0:Int) < 2; decide),.inl ⟨_,_,rfl,rfl,trivial,?_⟩⟩
 refine⟨_,rfl,_,_,rfl,rfl,⟨by decide,by decide⟩,trivial,?_⟩
 dsimp only
 generalize decide (c % 2=1)=dg
 refine⟨_,rfl,n,rfl,by omega,by omega,fun i ρ=>∃ (r:Int) (y6 y7 y8:Option Slot) (left row:List Int),ρ = [si n,si c,some (.own (.lst (intz left))),some (.own (.lst (intz row))),some (.sh true (.bl dg)),si r,y6,y7,y8]/\(left ++ row).Perm (rng n.toNat)/\row.length=i,
  ⟨c / 2,none,none,none,rng n.toNat,[],rfl,by rw [bf8],rfl⟩,?_,?_⟩
 ·rintro i y ρ hy ⟨r,y6,y7,y8,left,row,rfl,pm,hr⟩
  obtain ⟨rfl,hi⟩:=iH hy
  have hll:left.length+row.length=n.toNat:=by
   have:=pm.length_eq
   rw [bc4,fO] at this
   exact this
  refine⟨_,rfl,_,_,rfl,rfl,(by show (0:Int) < 1000000007; decide),_,rfl,_,rfl,_,_,rfl,rfl,.inl ⟨by omega,by omega⟩,_,_,rfl,rfl,_,_,rfl,rfl,_,_,rfl,rfl,.inr ⟨by decide,by decide⟩,_,_,rfl,rfl,(by show (0:Int) < 2147483647; decide),trivial,?_⟩
  dsimp only
  generalize hnum:((c % 1000000007+(0+(i:Int)) * (0+(i:Int))+1) * 48271) % 2147483647=num
  have b1:0<=num:=by rw [<- hnum]; exact bj5 _ (by decide)
  have b2:num < 2147483647:=by rw [<- hnum]; exact bh3 _ (by decide)
  have gK:(0:Int) < ((intz left).length:Nat):=by rw [bA]; omega
  refine⟨_,rfl,_,rfl,_,_,rfl,rfl,.inl ⟨by omega,by omega⟩,_,_,rfl,rfl,(by show (0:Int) < 1000003; decide),_,_,rfl,rfl,⟨by decide,by decide⟩,_,rfl,_,_,rfl,rfl,_,_,rfl,rfl,gK,trivial,?_⟩
  dsimp only
  have last:∀ v:Int,0<=v->v < ((intz left).length:Nat)->(aK (aY 5 (dD (a5 5) (aB eZ (a7 (a5 2) a9)))) (nD 3 2 (a5 8))) { nx:=fun ρ=>∃ (r:Int) (y6 y7 y8:Option Slot) (left row:List Int),ρ = [si n,si c,some (.own (.lst (intz left))),some (.own (.lst (intz row))),some (.sh true (.bl dg)),si r,y6,y7,y8]/\(left ++ row).Perm (rng n.toNat)/\row.length=i+1,rt:=Q,ct:=fun ρ=>∃ (r:Int) (y6 y7 y8:Option Slot) (left row:List Int),ρ = [si n,si c,some (.own (.lst (intz left))),some (.own (.lst (intz row))),some (.sh true (.bl dg)),si r,y6,y7,y8]/\(left ++ row).Perm (rng n.toNat)/\row.length=i+1,bk:=(kF 3) { nx:=fun _=>Q .non,rt:=Q } }
    [si n,si c,some (.own (.lst (intz left))),some (.own (.lst (intz row))),some (.sh true (.bl dg)),si r,si (0+(i:Int)),si num,si v]:=fun v v1 v2=>by
   have v3:v.toNat < left.length:=by rw [bA] at v2; omega
   refine⟨_,rfl,_,rfl,_,_,rfl,rfl,_,_,rfl,rfl,⟨gK,by rw [bA]; omega⟩,trivial,?_⟩
   refine⟨_,_,by decide,rfl,rfl,_,rfl,?_⟩
   refine⟨v.toNat,.int left[v.toNat],congrArg PV.int (by omega),by rw [bA]; omega,by rw [bA]; omega,by rw [bc6,bb2 v3]; rfl,?_⟩
   refine⟨r / (((intz left).length:Nat):Int),si (0+(i:Int)),si num,si v,left.eraseIdx v.toNat,row ++ [left[v.toNat]],?_,(S2 (bb2 v3)).trans pm,by rw [bc4,hr]; rfl⟩
   have e1:(intz left).eraseIdx v.toNat=intz (left.eraseIdx v.toNat):=wP _ _ _
   rw [gM,<- e1]; rfl
  refine⟨_,rfl,_,rfl,?_⟩
  cases dg with
  | false=>exact b6 (last _ (bj5 _ (by omega)) (bh3 _ gK))
  | true=>exact bV ⟨_,rfl,_,rfl,_,_,rfl,rfl,_,_,rfl,rfl,gK,trivial,last _ (bj5 _ (by omega)) (bh3 _ gK)⟩
 rintro ρ ⟨r,y6,y7,y8,left,row,rfl,pm,hr⟩
 rw [eD] at hr
 have hll:left.length+row.length=n.toNat:=by
  have:=pm.length_eq
  rw [bc4,fO] at this
  exact this
 have hl0:left = []:=List.length_eq_zero_iff.mp (by omega)
 subst hl0
 rw [List.nil_append] at pm
 exact⟨_,rfl,trivial,q row pm⟩
theorem aK8 {i:Nat}{h:Int}{g:Bool}{ρ:b7}{Q:b7->Prop} (q:Q (ρ.set i (some (.sh true (.int h))))):bS i (.int h) g ρ Q:=by
 show Q (ρ.set i (some (.sh (g || true) (.int h))))
 rw [Bool.or_true]; exact q
def aV (ns S:List Int):Int:=(ns.length:Int) - (((ns.filter fun x=>decide (x ∈ S)).length:Nat):Int)
def dY (ws:List Int) (ls:List (Int × Int)) (S:List Int) (h:Int):Bool:=decide (aV (aZ ls h) S < ws.getD h.toNat 0)
def stay (ws:List Int) (ls:List (Int × Int)) (S:List Int):List Int:=S.filter (dY ws ls S)
section
variable {ws : List Int} {ls : List (Int × Int)} {S T : List Int}
theorem aK9 {ns:List Int} (st:∀ x ∈ T,x ∈ S):aV ns S<=aV ns T:=by
 have h2:(ns.filter fun x=>decide (x ∈ T)).length<=(ns.filter fun x=>decide (x ∈ S)).length:=by
  rw [<- List.countP_eq_length_filter,<- List.countP_eq_length_filter]
  exact List.countP_mono_left fun x _ hx=>bc9 (st x (bi8 hx))
 unfold aV; omega
theorem aL0 {h:Int} (st:∀ x ∈ T,x ∈ S) (hs:dY ws ls T h=true):dY ws ls S h=true:=by
 unfold dY at hs ⊢
 have h1:=bi8 hs
 have h2:=aK9 (ns:=aZ ls h) st
 exact bc9 (by omega)
structure jX (ws:List Int) (ls:List (Int × Int)) (S G:List Int):Prop where
 cold:stay ws ls G=G
 sub:∀ x ∈ G,x ∈ S
 most:∀ U,stay ws ls U=U->(∀ x ∈ U,x ∈ S)->∀ x ∈ U,x ∈ G
theorem aL1 {S T:List Int}{h:Int} (hin:h ∉ S) (ht:∀ x,x ∈ aZ ls h->(x ∈ T ↔ x ∉ S)):kin ws ls S h = !dY ws ls T h:=by
 have e:(((aZ ls h).filter fun x=>decide (x ∈ S)).length:Int)=aV (aZ ls h) T:=by
  unfold aV
  have:∀ L:List Int,(∀ x,x ∈ L->(x ∈ T ↔ x ∉ S))->(L.filter fun x=>decide (x ∈ S)).length+(L.filter fun x=>decide (x ∈ T)).length=L.length:=fun L hL=>by
   induction L with
   | nil=>rfl
   | cons a r ih=>
    have i:=ih fun x hx=>hL x (bc3 _ hx)
    have ha:=hL a bc2
    by_cases h1:a ∈ S
    ·have h2:a ∉ T:=fun z=>ha.mp z h1
     simp only [List.filter_cons,bc9 h1,bb7 h2,if_true,bd5,bh5,be4]; omega
    ·have h2:a ∈ T:=ha.mpr h1
     simp only [List.filter_cons,bc9 h2,bb7 h1,if_true,bd5,bh5,be4]; omega
  have:=this _ ht
  omega
 unfold kin dY
 rw [e,bb7 hin]
 simp only [Bool.not_false,Bool.true_and]
 by_cases hc:ws.getD h.toNat 0<=aV (aZ ls h) T
 ·rw [bc9 hc,bb7 (by omega)]; rfl
 ·rw [bb7 hc,bc9 (by omega)]; rfl
end
section
variable {ws : List Int} {ls : List (Int × Int)} {ns : List Int}
theorem T7 (wb:Wb ws ls) {h x:Int} (hx:x ∈ aZ ls h):x ∈ rng ws.length:=by
 unfold aZ at hx
 obtain ⟨l,hl,hx⟩:=List.mem_flatMap.mp hx
 have:=wb.links l hl
 rcases be1.mp hx with hx | hx
 ·split at hx
  ·rw [bc1.mp hx]; exact bQ.mpr this.2
  ·cases hx
 ·split at hx
  ·rw [bc1.mp hx]; exact bQ.mpr this.1
  ·cases hx
def eG (n:Nat) (S:List Int):List Int:=(rng n).filter fun x=>!decide (x ∈ S)
theorem bK {n:Nat}{S:List Int}{x:Int}:x ∈ eG n S ↔ x ∈ rng n/\x ∉ S:=by
 unfold eG; rw [bl4]; simp
theorem rK (n:Nat) (S:List Int):bB n (eG n S)=true:=by
 have u:dX (n:Int) (eG n S):=⟨by
   refine List.Pairwise.filter _ ?_
   unfold rng
   rw [bg4]
   exact List.pairwise_lt_range.imp fun h=>by omega,fun x hx=>bQ.mp (bK.mp hx).1,by
   have:=bn5 (fun x=>!decide (x ∈ S)) (rng n)
   rw [fO] at this
   show ((List.filter (fun x=>!decide (x ∈ S)) (rng n)).length:Int)<=_
   omega⟩
 exact u.set
theorem T8 (wb:Wb ws ls) {S:List Int}{h:Int} (hin:h ∉ S):kin ws ls S h = !dY ws ls (eG ws.length S) h:=
 aL1 hin fun x hx=>⟨fun z=>(bK.mp z).2,fun z=>bK.mpr ⟨T7 wb hx,z⟩⟩
theorem wW (wb:Wb ws ls) {m:Nat} (en:cN ws ls ns m):jX ws ls (eG ws.length ns) (eG ws.length (aR ws ls ns m)):=by
 have grow:∀ k,∀ x ∈ ns,x ∈ aR ws ls ns k:=fun k x hx=>by
  induction k with
  | zero=>exact hx
  | succ k ih=>exact bo4 _ ih
 refine⟨List.filter_eq_self.mpr fun h hh=>?_,fun x hx=>?_,fun U hU us x hx=>?_⟩
 ·have hm:=bK.mp hh
  have h1:=List.filter_eq_nil_iff.mp (show (rng ws.length).filter (kin ws ls (aR ws ls ns m)) = [] from en.2) h hm.1
  rw [T8 wb hm.2] at h1
  simpa using h1
 ·have hm:=bK.mp hx
  exact bK.mpr ⟨hm.1,fun z=>hm.2 (grow m x z)⟩
 ·have key:∀ k,∀ y ∈ U,y ∉ aR ws ls ns k:=fun k=>by
   induction k with
   | zero=>exact fun y hy=>(bK.mp (us y hy)).2
   | succ k ih=>
    intro y hy z
    rcases be1.mp (show y ∈ aR ws ls ns k ++ nextOf ws ls (aR ws ls ns k) from z) with z | z
    ·exact ih y hy z
    ·have hk:=(bl4.mp z).2
     rw [T8 wb (ih y hy)] at hk
     have sy:dY ws ls U y=true:=(bl4.mp (show y ∈ stay ws ls U by rw [hU]; exact hy)).2
     have:=aL0 (S:=eG ws.length (aR ws ls ns k)) (fun v hv=>bK.mpr ⟨(bK.mp (us v hv)).1,ih v hv⟩) sy
     rw [this] at hk; cases hk
  exact bK.mpr ⟨(bK.mp (us x hx)).1,key m x hx⟩
end
end Core
namespace Raw
open PySem PySem.W PyProof.Rows
section
variable {prog : Program} {w : World} {A : Around} {E : Value → Shared → Prop} {s : Shared} {T : String} {r d : Addr} {n : Nat} {P : Nat → Value → Prop} {OK : Heap → Prop}
theorem aL2 {R:Result->Shared->Prop} (K:KdlSrc prog w T r d n P OK) (hh:A.handled=none) (hok:OK s.heap) (hn:n<=sizeLine)
  (hR:∀ h' tk acc c,(∀ b o,b ≠ s.heap.objs.size->(s.heap.push { cls:=.type "list",data:=.seq ([]:List Value).toArray }).get? b=some o->h'.get? b=some o)->h'.get? s.heap.objs.size=some { cls:=.type "list",dict:=none,data:=.seq acc c,slots:=#[] }->ItemsOf P acc n->R (.ok (.ret (.ref s.heap.objs.size))) { s with heap:=h',toks:=tk }) :
  codeAny (model prog w) A (.builtin "proto.collect" ⟨[.ref r],[]⟩) R s:=by
 have lt:=K.there _ hok
 refine codeAny_builtin PySem.F.entry_proto_collect ?_
 rw [Around.under_plainId PySem.F.plain_proto_collect _]
 show wpAny _ A.in1 (newList [] >>= fun l=>again (.builtin "list.__iadd__" ⟨[l,.ref r],[]⟩)) _ _ s
 refine ba9 (be8 ?_)
 refine bb3 ⟨plainId_quiet PySem.F.plain_list_iadd _,codeAny_builtin PySem.F.entry_list_iadd ?_⟩
 rw [Around.under_plainId PySem.F.plain_list_iadd _]
 show wpAny _ A.in1 (Builtin.List.listExtendWith (.ref s.heap.objs.size) (.ref r) (.ref s.heap.objs.size)) _ _ _
 exact kdl_extend (s:={ s with heap:=s.heap.push { cls:=.type "list",data:=.seq ([]:List Value).toArray } }) (R:=R) K hh (K.keep _ _ hok fun b _ o e=>bb1 _ e) s.heap.objs.size (bi2 lt.1) (bi2 lt.2) _ 0 (bb9 _ rfl) hR hn
theorem aL3 {Q:List Value->Shared->Prop} (K:KdlSrc prog w T r d n P OK) (hh:A.handled=none) (hok:OK s.heap) (hn:n<=sizeLine)
  (hQ:∀ h' tk acc,(∀ b o,s.heap.get? b=some o->h'.get? b=some o)->s.heap.objs.size<=h'.objs.size->ItemsOf P acc n->Q acc.toList { s with heap:=h',toks:=tk }) :
  wpAny (model prog w) A (collect (.ref r)) Q E s:=by
 unfold collect
 refine ba9 (wpAny_runValue (aL2 (s:=s) K hh hok hn fun h' tk acc c kp at1 it=>?_))
 show wpAny _ A (load s.heap.objs.size >>= _) _ _ _
 refine ba9 (wpAny_load at1 ?_)
 exact bb3 (hQ h' tk acc (fun b o e=>kp b o (be3 (bc7 e)) (bb1 _ e)) (bg6 (bc7 at1)) it)
theorem aL4 {Q:Value->Shared->Prop}{G:List Int->Prop} (K:KdlSrc prog w T r d n P OK) (hh:A.handled=none) (hok:OK s.heap) (hn:n < 64)
  (hI:∀ acc,ItemsOf P acc n->∃ ns,IntsAre acc.toList ns/\G ns)
  (h:∀ h' tk a (out:Array Value) (ns ns':List Int) e,(∀ b o,s.heap.get? b=some o->h'.get? b=some o)->s.heap.objs.size<=a->h'.get? a=some (seqObj "list" out e)->IntsAre out.toList ns'->G ns->ns'.Perm ns->ns'.Pairwise (· <= ·)->Q (.ref a) { s with heap:=h',toks:=tk }) :
  wpAny (model prog w) A (call (.builtin "sorted") [.ref r]) Q E s:=by
 have hsl:n<=sizeLine:=bf6 (bg6 hn) (by decide)
 refine bn4 kind_sorted plain_sorted entry_sorted (args_sorted1 _) ?_
 unfold Builtin.«sorted»
 refine ba9 (m:=checkCount "sorted" 1 1 _) (bb3 ?_)
 refine ba9 (aL3 (s:=s) K hh hok hsl fun h' tk acc kp hs it=>?_)
 obtain ⟨ns,hi,g⟩:=hI acc it
 have hz:acc.toList.length < 64:=by rw [bd9,it.1]; exact hn
 refine ba9 (br1 ?_ (bf6 (bg6 hz) (by decide)))
 have hoL:(h'.push (seqObj "list" acc.toList.toArray 0)).get? h'.objs.size=some (seqObj "list" acc.toList.toArray 0):=bb9 _ rfl
 show wpAny _ _ _ _ _ { s with heap:=h'.push (seqObj "list" acc.toList.toArray 0),toks:=tk }
 refine ba9 (bj9 (be5 slot_list_sort ⟨_,hoL,rfl⟩ entry_list_sort (list_sort_tree hoL hi hz fun out ns' a1 a2 a3=>⟨_,rfl,?_⟩) (args_list_sort _)))
 obtain ⟨e,he⟩:=sortedHeap_at (vs:=acc.toList) (out:=out) hoL
 refine bb3 ⟨_,rfl,h _ tk h'.objs.size out ns ns' e (fun b o hb=>?_) hs he a1 g a2 a3⟩
 have lt:=bc7 (kp b o hb)
 rw [sortedHeap_old (be3 lt) (by rw [size_push']; exact Nat.lt_succ_of_lt lt)]
 exact bb1 _ (kp b o hb)
end
end Raw
namespace L2
open PySem PySem.Spec PyProof.Rows
section
variable {X : Cx}
theorem aL5 (hc:X.calm=true):cP X (.builtin "sorted") (fun xs H Q=>∃ a kvs ns,xs = [.ref a]/\H a=some (.dK kvs)/\kvs.map (·.1)=ns.map Sum.inl/\ns.length < 64/\∀ l (ms:List Int),H l=none->ms.Perm ns->ms.Pairwise (· <= ·)->Q (.ref l) (upd H l (.lst (ms.map V.int)))):=by
 intro pins s σ H xs us Q I r h
 obtain ⟨a,kvs,ns,rfl,ha,hk,h64,q⟩:=h
 obtain ⟨u,rfl,ru⟩:=fD r
 cases ru
 obtain ⟨es,ep,rd,far,vk,z⟩:=E3 I ha
 have hl:=vk.length
 have hl2:=congrArg List.length hk
 rw [bb4,bb4] at hl hl2
 have hsz:es.toList.length=es.size:=bd9
 have e1:(kvs.map fun p=>kV p.1)=ns.map V.int:=by
  have:(kvs.map fun p=>kV p.1)=(kvs.map (·.1)).map kV:=by rw [bn0]; rfl
  rw [this,hk,bn0]; rfl
 rw [e1] at vk
 refine Raw.aL4 (G:=fun ms=>ms=ns) (Raw.E2 far) (I.ok.hd hc) rd (by omega) (fun acc it=>⟨ns,by rw [E5 it]; exact iB vk,rfl⟩) fun h' tk l out ns1 ns' e kp hn he a1 g a2 a3=>?_
 subst g
 have hlen:ns'.length=ns1.length:=a2.length_eq
 refine⟨.ref l,upd H l (.lst (ns'.map V.int)),I.laid (t':=tk) kp hn ⟨?_,out.toList,e,mV a1,by simpa using he⟩,rfl,q _ ns' (I.hok.fresh hn) a2 a3⟩
 rw [bb4,hlen]
 exact bg6 (mW (by omega))
end
end L2
namespace PP
open PySem L2 PyProof.Rows
section
variable {X : Cx} {a b e : Expr} {ta tb te : aG} {tr : cZ} {pos p2 : Pos}
def wX:List PV->(PV->Prop)->Prop:=fun xs Q=>∃ (ps:List (aA × PV)) (ns:List Int),xs = [.dK ps]/\ps.map (·.1)=ns.map Sum.inl/\ns.length < 64/\∀ ms:List Int,ms.Perm ns->ms.Pairwise (· <= ·)->Q (.lst (intz ms))
theorem aL6:eB X wX (fun xs H Q=>∃ a kvs ns,xs = [.ref a]/\H a=some (.dK kvs)/\kvs.map (·.1)=ns.map Sum.inl/\ns.length < 64/\∀ l (ms:List Int),H l=none->ms.Perm ns->ms.Pairwise (· <= ·)->Q (.ref l) (upd H l (.lst (ms.map V.int)))):=by
 rintro H vs xs Q Q' r ⟨ps,ns,rfl,e,hl,q⟩ k
 obtain ⟨v,rfl,r1⟩:=r.one
 cases r1 with
 | @dK a kvs _ m h e2 r2=>
  exact⟨a,kvs,ns,rfl,h,e2.trans e,hl,fun l ms hl' p o=>k _ _ _ (b9 hl' _) (.lst hl' aW (Reps.intz ms)) (q ms p o)⟩
theorem aL7 (B:Bt X.mg) (hc:X.calm=true) (ha:QA X [e] tr) (hg:Gl X "sorted":=by rfl) (he:starEach [e] X.env=(false,eval e X.env) :: starEach [] X.env:=by rfl) (hpl:(backTo pos (starEach [] X.env)).any (·.1)=false:=by rfl):QE X (.Call (.Name "sorted" p2) [e] [] pos) (aB wX tr):=
 hG (aL5 hc) aL6 hg B.sorted bo1 ha (he:=he) (hpl:=hpl)
end
end PP
namespace Core
open PySem L2 PP
def gN (k:Nat) (r:List Int):List (aA × PV):=r.map fun h=>((Sum.inl h:aA),PV.int (k:Int))
def jI (rs:List (List Int)):List (aA × PV):=(rs.mapIdx gN).flatten
theorem aL8 (rs:List (List Int)) (r:List Int):jI (rs ++ [r])=jI rs ++ gN rs.length r:=by
 unfold jI
 rw [List.mapIdx_append,List.flatten_append]
 simp
theorem T9 (k:Nat) (r:List Int):(gN k r).map (·.1)=r.map Sum.inl:=by
 unfold gN; rw [bn0]; rfl
theorem U0:∀ (rs:List (List Int)) (g:Nat->Nat),((rs.mapIdx fun i r=>gN (g i) r).flatten).map (·.1)=rs.flatten.map (Sum.inl:Int->aA)
 | [],_=>rfl
 | r :: t,g=>by
  rw [List.mapIdx_cons,bl9,bl9,bd7,bd7,T9,U0 t fun i=>g (i+1)]
theorem U1 (rs:List (List Int)):(jI rs).map (·.1)=rs.flatten.map (Sum.inl:Int->aA):=U0 rs fun i=>i
theorem aL9 {ps:List (aA × PV)}{h:Int}{v:PV}{S:List Int} (e:ps.map (·.1)=S.map Sum.inl) (hn:h ∉ S):cH ps (Sum.inl h:aA) v=ps ++ [(Sum.inl h,v)]:=by
 unfold cH
 rw [if_neg]
 intro z
 rw [List.any_eq_true] at z
 obtain ⟨p,hp,hq⟩:=z
 have:p.1 ∈ ps.map (·.1):=bd1.mpr ⟨p,hp,rfl⟩
 rw [e,bi8 hq] at this
 obtain ⟨y,hy,e2⟩:=bd1.mp this
 exact hn (Sum.inl.inj e2 ▸ hy)
theorem aM0 {k:Nat}{r:List Int}{i:Nat}{n:Int} (h:r[i]? = some n):gN k (r.take (i+1))=gN k (r.take i) ++ [(Sum.inl n,PV.int (k:Int))]:=by
 unfold gN
 rw [bi9,h,bd7]; rfl
section
variable {ws : List Int} {ls : List (Int × Int)} {ns : List Int} {m : Nat}
def aM1 (ws:List Int) (ls:List (Int × Int)) (ns:List Int):Nat->List Int
 | 0=>ns
 | k+1=>nextOf ws ls (aR ws ls ns k)
theorem U2 {x:Int}:∀ k,x ∈ aR ws ls ns k ↔ ∃ j,j<=k/\x ∈ aM1 ws ls ns j
 | 0=>by
  constructor
  ·exact fun h=>⟨0,bb6 _,h⟩
  ·rintro ⟨j,hj,h⟩
   obtain rfl:j=0:=by omega
   exact h
 | k+1=>by
  show x ∈ aR ws ls ns k ++ nextOf ws ls (aR ws ls ns k) ↔ _
  rw [be1,U2 k]
  constructor
  ·rintro (⟨j,hj,h⟩ | h)
   ·exact⟨j,by omega,h⟩
   ·exact⟨k+1,bb6 _,h⟩
  ·rintro ⟨j,hj,h⟩
   by_cases e:j=k+1
   ·subst e; exact .inr h
   ·exact .inl ⟨j,by omega,h⟩
end
theorem m5 {ws:List Int}{ls:List (Int × Int)}{ns:List Int} (hs:bB ws.length ns=true) {k:Nat}{x:Int} (h:x ∈ aR ws ls ns k):0<=x/\x < (ws.length:Int):=by
 obtain ⟨j,_,hj⟩:=(U2 k).mp h
 cases j with
 | zero=>exact (cL hs).2 x hj
 | succ j=>
  have hj:x ∈ nextOf ws ls (aR ws ls ns j):=hj
  unfold nextOf at hj
  exact bQ.mp (bl4.mp hj).1
end Core
namespace PP
open PySem L2 PyProof.Rows
def iN (xs ys:List PV):List PV:=List.zipWith (fun x y=>PV.tup [x,y]) xs ys
theorem wY (xs ys:List PV):(iN xs ys).length=min xs.length ys.length:=by unfold iN; rw [List.length_zipWith]
theorem U3 {xs ys:List PV}{i:Nat}{x y:PV} (h:xs[i]? = some x) (h':ys[i]? = some y):(iN xs ys)[i]? = some (.tup [x,y]):=by
 unfold iN; rw [List.getElem?_zipWith,h,h']
theorem aM2 {xs ys:List PV}{i:Nat}{z:PV} (h:(iN xs ys)[i]? = some z):∃ x y,xs[i]? = some x/\ys[i]? = some y/\z = .tup [x,y]:=by
 unfold iN at h
 rw [List.getElem?_zipWith] at h
 cases e:xs[i]? with
 | none=>rw [e] at h; cases h
 | some x=>
  cases e':ys[i]? with
  | none=>rw [e,e'] at h; cases h
  | some y=>rw [e,e'] at h; exact⟨x,y,rfl,rfl,(be0 h).symm⟩
theorem aM3 {K:PySem.W.Frag}{H0:Hp}{W:Addr->Prop}{g:Bool}{H1:Hp}{a b:Addr}{us vs:List V}{xs ys:List PV} (tw:∀ a,W a->∃ o,H1 a=some o/\fJ o=true) (ha:∀ W' H',Ev W H1 W' H'->aI K H' a us) (hb:∀ W' H',Ev W H1 W' H'->aI K H' b vs)
  (r:Reps K (Ms H0 W g) H1 us xs) (r':Reps K (Ms H0 W g) H1 vs ys):jQ K H0 W g H1 (uH K a b) (iN xs ys):=by
 have lr:=r.length
 have lr':=r'.length
 have ll:=wY xs ys
 refine⟨fun W' H' i e hi=>⟨us,vs,us[i]'(by omega),vs[i]'(by omega),ha W' H' e,hb W' H' e,by simp,by simp⟩,fun W' H' i v H2 e y hi=>?_,fun W' H' e=>⟨us,vs,ha W' H' e,hb W' H' e,by omega⟩⟩
 obtain ⟨T,x,y',hT,rfl,rfl,y⟩:=y
 obtain ⟨h1,h2⟩:=y us vs (ha W' _ e) (hb W' _ e)
 obtain ⟨z,hz,rz⟩:=r.get h1
 obtain ⟨z',hz',rz'⟩:=r'.get h2
 have sm:=b9 hT (HO.tup [x,y'])
 exact⟨sm,_,U3 hz hz',.tup aW (.cons ((rz.keep (e.keep tw)).same sm fun _ q=>q) (.cons ((rz'.keep (e.keep tw)).same sm fun _ q=>q) .nil))⟩
end PP
namespace Core
open PySem L2 PP
theorem pD {ls:List (Int × Int)}{wts:List Int} (e:wts.length=ls.length):(ls.zip wts).map (·.2)=wts:=by
 rw [List.map_snd_zip]; omega
section
variable {ws : List Int} {ls : List (Int × Int)} {ns wts : List Int} {m : Nat}
def loose (ls:List (Int × Int)) (wts ns:List Int):List ((Int × Int) × Int):=(ls.zip wts).filter fun z=>!(decide (z.1.1 ∈ ns) && decide (z.1.2 ∈ ns))
end
end Core
set_option maxHeartbeats 1000000
set_option maxHeartbeats 1000000
set_option maxHeartbeats 1000000
set_option maxHeartbeats 1000000
namespace PP
open PySem L2 PyProof.Rows
abbrev eS:=(Str->Prop)->bD
def EX (K:PySem.W.Frag) (H0:Hp) (Ep:Str->Prop):XK:=fun c d H'=>d=none/\aD H0 H'/\∃ n C,c = .ref C/\PySem.W.nsIn K mainGlobals n=some (some (.ref C))/\Ep n
def U4 (K:PySem.W.Frag) (p:eS):Sp:=fun vs H Q E=>∃ xs Qp Ep,Reps K (fun _=>True) H vs xs/\p Ep xs Qp/\(∀ v H' x,aD H H'->aE K (fun a=>H a=none) H' v x->Qp x->Q v H')/\
 ∀ n C H',aD H H'->PySem.W.nsIn K mainGlobals n=some (some (.ref C))->Ep n->E (.ref C) none H'
structure cM (P:Program) (w:World) (K:PySem.W.Frag) (mg:Str->Option Value) (base:Heap) (k:Nat) (x:Str) (ps:List Str) (p:eS):Prop where
 ex:∃ f fd,dE P w K mg base (eO P w) k f fd ps (U4 K p)/\iU K fd ps []/\PySem.W.keepIn K (.ref f)=true/\mg x=some (.ref f)
section
variable {X : Cx} {σ : L2.St} {H : Hp} {D : cN} {tr : cZ} {Q' : VK} {a b c e : Expr} {es : List Expr} {pos p2 cp np hp : Pos} {t : aP} {te : aG} {tc : c7}
def m6 (Ep:Str->Prop) (p:eS) (t:cZ):aG:=aB (p Ep) t
theorem U5 {p:eS}{Ep:Str->Prop} (h:LE X (m6 Ep p tr) σ H Q'):t5 (U4 X.K p) [] (EX X.K X.H₀ Ep) (LA X tr) σ H Q':=by
 obtain ⟨W,ρ,Q,px,q,k⟩:=h
 refine⟨W,ρ,_,px,q,fun vs H1 xs s1 r1 q1=>⟨_,_,Ep,by rw [bf8]; exact r1.any,q1,fun v H' x s2 r2 q2=>k v H' x .fr (s1.trans s2) (r2.same (aD.refl _) fun _ z=>s1.free z) q2,fun n C H' s2 z1 z2=>⟨rfl,(px.same.trans s1).trans s2,n,C,rfl,z1,z2⟩⟩⟩
theorem rL {Ep:Str->Prop}{k j:Nat}{x:Str}{ps:List Str}{p:eS} (hX:lV X (EX X.K X.H₀ Ep)) (d:cM X.prog X.w X.K X.mg X.base k x ps p) (hr:cD j X.A) (ha:QA X (e :: es) tr) (hkj:k<=j:=by decide) (hg:Gl X x:=by rfl) (hdb:(x == ("__debug__" : Str))=false:=by decide)
  (he:starEach (e :: es) X.env=(false,eval e X.env) :: starEach es X.env:=by rfl) (hpl:(backTo pos (starEach es X.env)).any (·.1)=false:=by rfl):QE X (.Call (.Name x p2) (e :: es) [] pos) (m6 Ep p tr):=by
 obtain ⟨f,fd,F,b,kp,m⟩:=d.ex
 exact cO (t6 F (hr.mono hkj) hg m kp b .nil hX.pass ha hdb he hpl) fun _ _ _=>U5
theorem jY {k j:Nat}{x:Str}{ps:List Str}{p:eS} (d:cM X.prog X.w X.K X.mg X.base k x ps p) (hr:cD j X.A) (ha:QA X (e :: es) tr) (hkj:k<=j:=by decide) (hg:Gl X x:=by rfl) (hdb:(x == ("__debug__" : Str))=false:=by decide)
  (he:starEach (e :: es) X.env=(false,eval e X.env) :: starEach es X.env:=by rfl) (hpl:(backTo pos (starEach es X.env)).any (·.1)=false:=by rfl):QE X (.Call (.Name x p2) (e :: es) [] pos) (aB (p fun _=>False) tr):=by
 obtain ⟨f,fd,F,b,kp,m⟩:=d.ex
 refine cO (t6 F (E:=EX X.K X.H₀ fun _=>False) (hr.mono hkj) hg m kp b .nil (fun _ _ _ _ _ _ _ h=>?_) ha hdb he hpl) fun _ _ _ h=>U5 (Ep:=fun _=>False) h
 obtain ⟨_,_,_,_,_,_,_,_,_,_,_,_,z⟩:=h
 exact z.elim
def rM (Ep:Str->Prop) (n:Str) (t:cZ):aP:=fun _ ρ=>t ρ fun xs=>xs.length<=1000/\Ep n
theorem aM4 {Ep:Str->Prop}{n:Str}{C:Addr} (hn:PySem.W.nsIn X.K mainGlobals n=some (some (.ref C))) (h:LS X (rM Ep n tr) D σ H):O7 (EX X.K X.H₀ Ep) C (LA X tr) D σ H:=by
 obtain ⟨W,ρ,D',px,q,k⟩:=h
 exact⟨W,ρ,_,px,q,fun vs H1 xs s1 r z=>⟨by rw [r.length]; exact uM z.1,rfl,px.same.trans s1,n,C,rfl,hn,z.2⟩⟩
structure Xc (K:PySem.W.Frag) (mg:Str->Option Value) (base:Heap) (n:Str):Prop where
 ex:∃ C B newId initId bm,OwnCls n C bm newId mg base/\ExcBaseFacts B newId initId bm/\PySem.W.nsIn K mainGlobals n=some (some (.ref C))
theorem U6 {Ep:Str->Prop}{n:Str} (hX:lV X (EX X.K X.H₀ Ep)) (x:Xc X.K X.mg X.base n) (ha:QA X (e :: es) tr) (hc:X.calm=true:=by rfl) (hg:Gl X n:=by rfl) (hd:(n == ("__debug__" : Str))=false:=by decide)
  (he:starEach (e :: es) X.env=(false,eval e X.env) :: starEach es X.env:=by rfl) (hpl:(backTo cp (starEach es X.env)).any (·.1)=false:=by rfl):QS X (.Raise (some (.Call (.Name n np) (e :: es) [] cp)) none pos) (rM Ep n tr):=by
 obtain ⟨C,B,newId,initId,bm,O,FB,hn⟩:=x.ex
 exact dU (aD0 hX hc O FB ha hg hd he hpl) fun _ _ _=>aM4 hn
def oT:V->Value
 | .ref a=>.ref a
 | .ty n=>.type n
 | _=>.none
end
structure wZ (K:PySem.W.Frag) (C:Addr):Prop where
 cls:PySem.W.isClsIn K C=true
 ty:PySem.W.typeIn K (.ref C)=some (.type "type")
 ga:PySem.W.findIn K (.ref C) "__getattribute__" = some (some (.builtin "BaseException.__getattribute__"))
 gt:PySem.W.findIn K (.ref C) "__getattr__" = some none
 fc:PySem.W.findIn K (.ref C) "__class__" = some (some (.builtin "object.__class__"))
 fg:PySem.W.specialIn K (.builtin "object.__class__") "__get__" = some (some (.builtin "getset_descriptor.__get__"))
 ft:PySem.W.takesIn K (.builtin "object.__class__")=some true
 ob:PySem.W.mroIn K C (.type "object")=some true
 be:PySem.W.mroIn K C (.type "BaseException")=some true
theorem U7 {K:PySem.W.Frag}{h₀:Heap}{mg:Str->Option Value}{x:Str}{C:Addr}{bmB:List Value}{newId:String} (X:K.In h₀) (m:mg x=some (.ref C)) (q:PySem.W.excIn K C bmB newId=true):OwnCls x C bmB newId mg h₀:=by
 refine⟨m,?_⟩
 unfold PySem.W.excIn at q
 split at q
 case h_2=>cases q
 rename_i dd cd sl ho
 split at q
 case h_2=>cases q
 rename_i C' bm k0 k1 k2 k3 n k5 hm hs
 simp only [bf0,beq_iff_eq,Bool.not_eq_true'] at q
 obtain ⟨⟨⟨⟨⟨rfl,rfl⟩,dl⟩,ht⟩,hok⟩,hni⟩:=q
 obtain ⟨nm,bs,mro,ns,qn,hd,sn,sub,ab,col,del⟩:=cd
 dsimp only at hm dl hok hni
 subst hm dl
 obtain rfl:sl = #[k0,k1,k2,k3,some (.builtin n),k5]:=by
  obtain ⟨l⟩:=sl
  exact congrArg Array.mk hs
 exact⟨bm,ns,nm,qn,bs,hd,sn,sub,ab,col,dd,k0,k1,k2,k3,k5,_,X _ _ ho,.of_isNs (PySem.W.isNs_of_in X hok),PySem.W.nsMap_none_of_in X hok hni,PySem.W.tail_of_in X ht⟩
theorem cM.of {P:Program}{w:World}{K:PySem.W.Frag}{mg:Str->Option Value}{base:Heap}{k:Nat}{x:Str}{ps N:List Str}{p:eS}{st:Stmt}{f:Addr}{fd:FuncData} (F:fG K x x st f fd) (m:mg x=some (.ref f)) (S:FnScope N ps (aU st))
  (hb:∀ (kV doc pm:Value) (an:Option Addr) (cdv ct:Value) (us:List Value),us.length=ps.length->bindArgs (PySem.W.fnOf x x (iY st) (eI st) (aU st) .none kV doc pm an cdv ct) ⟨us,[]⟩=pure (ps.zip us))
  (t:(Str->Prop)->aP) (len:∀ Ep xs Q,p Ep xs Q->xs.length=ps.length) (rd:∀ Ep xs Q,p Ep xs Q->t Ep { nx:=fun _=>Q .non,rt:=Q } (fL N xs))
  (body:∀ (cdv:Value) (A:Around) (outer:List Env) (s:Shared) (H:Hp) (E:XK) (Ep:Str->Prop),cD k (A.deeper (envOfC x (aU st) s.heap.objs.size f cdv))->lV (dF (eO P w) P w K mg base N x (aU st) f cdv A outer s H E) (EX K H Ep)->
   fA (dF (eO P w) P w K mg base N x (aU st) f cdv A outer s H E) (eI st) (t Ep)):cM P w K mg base (k+1) x ps p:=by
 refine⟨f,fd,F.okX S (fun vs H Q E h=>?_) (fun cdv A outer s H vs Q E hr h=>?_),F.binds hb,F.kp,m⟩
 ·obtain ⟨xs,Qp,Ep,r,q,_⟩:=h
  rw [r.length]; exact len Ep xs Qp q
 ·obtain ⟨xs,Qp,Ep,r,q,k,ke⟩:=h
  have ht:=body cdv A outer s H E Ep hr (aC9 fun c d H' z=>?_)
  ·refine⟨_,ht,fun _=>False,fL N xs,_,vM r,rd Ep xs Qp q,?_,?_,?_,?_⟩
   ·exact fun W' σ' H' ρ' e px q=>k _ _ _ px.same .non q
   ·exact fun v H' x s r q=>k _ _ _ s r q
   ·exact fun W' σ' H' ρ' e px q=>q
   ·exact fun W' σ' H' ρ' e px q=>q
  ·obtain ⟨rfl,s1,n,C,rfl,z1,z2⟩:=z
   exact ke n C H' s1 z1 z2
end PP
namespace Core
open PySem L2 PP
abbrev m7 (t:(Str->Prop)->aP) (N:List Str) (p:eS):Prop:=∀ Ep xs Q,p Ep xs Q->t Ep { nx:=fun _=>Q .non,rt:=Q } (fL N xs)
def m8:eS:=fun Ep xs Q=>∃ ws ls x ns,xs = [bG ws ls,x]/\cQ x ns/\ns.length<=1000/\(bB ws.length ns=true->Q (.tup (intz ns)))/\(bB ws.length ns=false->Ep "BadSet")
def U8 (Ep:Str->Prop):aP:=(aK (dB (nC (bC (aB wB (a7 (a5 0) (a7 (a5 1) a9))))) (rM Ep "BadSet" (a7 (qC (.str "a set is of rising hearths of the web")) a9)) dA)
 (bO (aB dG (a7 (a5 1) a9))))
theorem aM5:m7 U8 ["web","hearths"] m8:=by
 rintro Ep xs Q ⟨ws,ls,x,ns,rfl,hx,hl,q1,q2⟩
 refine⟨_,rfl,_,rfl,ws,ls,x,ns,rfl,hx,hl,_,rfl,?_⟩
 cases h:bB ws.length ns with
 | true=>exact b6 ⟨_,rfl,⟨_,_,rfl,hx.seqT,cE _,trivial,q1 h⟩,hx.noscr⟩
 | false=>exact bV ⟨by decide,q2 h⟩
end Core
namespace PP
open PySem L2
theorem Reps.keys {K:PySem.W.Frag}{M:Addr->Prop}{H:Hp}:∀ (k:List aA),Reps K M H (k.map kV) (k.map kP)
 | []=>.nil
 | .inl i :: r=>.cons (.int i) (Reps.keys r)
 | .inr x :: r=>.cons (.str x) (Reps.keys r)
theorem U9 {α β:Type}{F:α->β->Prop}:∀ {l:List α}{m:List β}{i:Nat}{x:α},Paired F l m->l[i]? = some x->∃ y,m[i]? = some y/\F x y
 | _,_,_,_,.nil,e=>by simp at e
 | _,_,0,_,.cons r _,e=>by simp at e; subst e; exact⟨_,rfl,r⟩
 | _,_,i+1,x,.cons _ t,e=>by
  rw [bi5] at e
  obtain ⟨y,h1,h2⟩:=U9 t e
  exact⟨y,by rw [bi5]; exact h1,h2⟩
theorem V0:∀ {xs:List PV}{y:PV},flats xs=true->flat y=true->flats (xs ++ [y])=true
 | [],y,_,f=>by show (flat y && flats [])=true; rw [f]; rfl
 | x :: r,y,h,f=>by
  unfold flats at h
  rw [bf0] at h
  show (flat x && flats (r ++ [y]))=true
  rw [h.1,V0 h.2 f]; rfl
theorem rN {us:List Value} (h:us.length=1):∃ a,us = [a]:=List.length_eq_one_iff.mp h
theorem x3 {us:List Value} (h:us.length=2):∃ a b,us = [a,b]:=by
 cases us with
 | nil=>cases h
 | cons a r=>
  obtain ⟨b,rfl⟩:=rN (us:=r) (by simpa using h)
  exact⟨a,b,rfl⟩
theorem x4 {us:List Value} (h:us.length=3):∃ a b c,us = [a,b,c]:=by
 cases us with
 | nil=>cases h
 | cons a r=>
  obtain ⟨b,c,rfl⟩:=x3 (us:=r) (by simpa using h)
  exact⟨a,b,c,rfl⟩
theorem V1 {us:List Value} (h:us.length=4):∃ a b c d,us = [a,b,c,d]:=by
 cases us with
 | nil=>cases h
 | cons a r=>
  obtain ⟨b,c,d,rfl⟩:=x4 (us:=r) (by simpa using h)
  exact⟨a,b,c,d,rfl⟩
end PP
namespace Core
open PySem L2 PP
theorem x5:∀ (m:Nat) (l:List Nat),l.Nodup->(∀ x ∈ l,x < m)->l.length<=m
 | 0,[],_,_=>bb6 _
 | 0,x :: _,_,h=>absurd (h x bc2) (Nat.not_lt_zero _)
 | m+1,l,nd,h=>by
  by_cases hm:m ∈ l
  ·have h1:=x5 m (l.erase m) (nd.erase m) fun x hx=>by
    obtain ⟨h2,h3⟩:=(nd.mem_erase_iff).mp hx
    have:=h x h3
    omega
   rw [List.length_erase_of_mem hm] at h1
   omega
  ·have h1:=x5 m l nd fun x hx=>by
    have:=h x hx
    have:x ≠ m:=fun z=>hm (z ▸ hx)
    omega
   omega
end Core
namespace PP
open PySem L2
section
variable {X : Cx} {e : Expr} {tr : cZ} {pos p2 : Pos}
def x6:List PV->(PV->Prop)->Prop:=fun xs Q=>∃ ys:List (List Int),xs = [.lst (ys.map fun r=>PV.tup (intz r))]/\ys.length<=4096/\(∀ y ∈ ys,y.length=2)/\∀ zs:List (List Int),zs.Perm ys->zs.Pairwise (fun u v=>HT.bH v u=false)->Q (.lst (zs.map fun r=>PV.tup (intz r)))
theorem aM6:eB X x6 (O6 X.K):=by
 rintro H vs xs Q Q' r ⟨ys,rfl,hl,hne,q⟩ k
 obtain ⟨v,rfl,r1⟩:=r.one
 obtain ⟨a,us,rfl,_,h,r2⟩:=r1.sqL
 obtain ⟨h1,h2⟩:=wL r2
 have lr:=r2.length
 rw [bb4] at lr
 refine⟨a,us,jG H,rfl,aL.of h,by omega,fun y hy=>?_,fun l zs hl' pm so=>?_⟩
 ·obtain ⟨b,rfl,hb⟩:=h2 y hy
  refine⟨b,rfl,aI.of hb,hne _ ?_⟩
  rw [<- h1]; exact bd1.mpr ⟨_,hy,rfl⟩
 ·have hz:∀ u ∈ zs,∃ b,u = .ref b/\H b=some (.tup ((jG H u).map V.int)):=fun u hu=>h2 u (pm.mem_iff.mp hu)
  refine k _ _ _ (b9 hl' _) (.lst hl' aW ((wM hz).same (b9 hl' _) fun _ z=>z)) (q _ ?_ ?_)
  ·rw [<- h1]; exact pm.map _
  ·rw [bg4]; exact so
theorem aM7 (B:Bt X.mg) (ha:QA X [e] tr) (hg:Gl X "sorted":=by rfl) (he:starEach [e] X.env=(false,eval e X.env) :: starEach [] X.env:=by rfl) (hpl:(backTo pos (starEach [] X.env)).any (·.1)=false:=by rfl):QE X (.Call (.Name "sorted" p2) [e] [] pos) (aB x6 tr):=
 hG aC6 aM6 hg B.sorted bo1 ha (he:=he) (hpl:=hpl)
end
end PP
namespace Core
open PySem L2 PP
structure WL (n:Int) (ws:List Int) (ls:List (Int × Int)):Prop where
 many:(ws.length:Int)=n
 inn:∀ l ∈ ls,0<=l.1/\l.1 < l.2/\l.2 < n
 most:ls.length<=1700
 ord:ls.Pairwise eR
 pos:∀ w ∈ ws,0<=w
theorem WL.perm {n:Int}{ws:List Int}{ls ls':List (Int × Int)} (h1:(ws.length:Int)=n) (h2:∀ l ∈ ls,0<=l.1/\l.1 < l.2/\l.2 < n) (h3:ls.length<=1700) (nd:ls.Nodup) (h4:∀ w ∈ ws,0<=w) (p:ls'.Perm ls) (so:(ls'.map two).Pairwise fun u v=>HT.bH v u=false):WL n ws ls':=
 ⟨h1,fun l hl=>h2 l (p.mem_iff.mp hl),by rw [p.length_eq]; exact h3,S3 so (p.nodup_iff.mpr nd),h4⟩
theorem WL.wb {n:Int}{ws:List Int}{ls:List (Int × Int)} (h:WL n ws ls) (hn:n<=40):Wb ws ls:=
 ⟨by have:=h.many; omega,h.most,fun l hl=>by have:=h.inn l hl; have:=h.many; omega⟩
def x8 (f:List Int->List (Int × Int)->List Int->(PV->Prop)->Prop):eS:=fun Ep xs Q=>∃ ws ls x ns,xs = [bG ws ls,x]/\Wb ws ls/\cQ x ns/\ns.length<=1000/\(bB ws.length ns=true->f ws ls ns Q)/\(bB ws.length ns=false->Ep "BadSet")
def rO:eS:=x8 fun ws ls ns Q=>∀ m,cN ws ls ns m->Q (.lst (tups (ns :: after ws ls ns m)))
def rP:eS:=x8 fun ws ls ns Q=>∀ m,cN ws ls ns m->Q (.dK (jI (ns :: after ws ls ns m)))
def jJ:eS:=x8 fun ws ls ns Q=>∀ ms m,cN ws ls ns m->ms.Perm (aR ws ls ns m)->ms.Pairwise (· <= ·)->Q (.tup (intz ms))
def V2 (Ep:Str->Prop):aP:=(aK (dS 2 (gG (a7 (m6 Ep m8 (a7 (a5 0) (a7 (a5 1) a9))) a9)))
 (aK (dS 3 (aB o4 (a7 (cB (a5 2) (qC (.int 0))) a9)))
 (aK (aY 4 (aB o5 (a7 (a5 0) a9)))
 (aK (aY 5 (aB o6 (a7 (a5 0) (a7 (a5 4) (a7 (a5 3) a9)))))
 (aK (uO (pR (a5 5))
  (aK (j7 2 (a5 5))
  (aK (v4 3 (aB o4 (a7 (a5 5) a9)))
  (aY 5 (aB o6 (a7 (a5 0) (a7 (a5 4) (a7 (a5 3) a9))))))))
 (kF 2))))))
theorem aM8:m7 V2 ["web","seeds","told","burning","around","lit"] rO:=by
 rintro Ep xs Q ⟨ws,ls,x,ns,rfl,wb,hx,hl,q,qe⟩
 have few:=wb.few
 refine⟨_,rfl,_,rfl,ws,ls,x,ns,rfl,hx,hl,fun hs=>?_,qe⟩
 have q:=q hs
 have ln:=iK hs
 refine⟨by show 1<=1000; decide,?_,rfl,?_,?_⟩
 ·show (flat (.tup (intz ns)) && true)=true
  rw [wA]; rfl
 ·show (flat (.tup (intz ns)) && true)=true
  rw [wA]; rfl
 refine⟨_,rfl,_,_,_,rfl,rfl,rfl,_,ns,rfl,.inl rfl,by omega,fun ps d=>⟨rfl,d.fl,?_⟩⟩
 refine⟨_,rfl,ws,ls,rfl,wb,trivial,?_⟩
 refine⟨_,rfl,_,rfl,_,rfl,ws,ls,ps,ns,rfl,wb,d,trivial,?_⟩
 refine⟨fun n ρ=>∃ k ps,ρ = [some (.sh (flat (bG ws ls)) (bG ws ls)),some (.sh (flat x) x),some (.own (.lst (tups (ns :: after ws ls ns k)))),some (.own (.dK ps)),some (.sh true (.lst (jW ws.length ls))),some (.sh true (.tup (intz (nextOf ws ls (aR ws ls ns k)))))]/\
   n=cold ws (aR ws ls ns k)/\DS ps (aR ws ls ns k)/\∀ j < k,nextOf ws ls (aR ws ls ns j) ≠ [],⟨_,0,ps,rfl,rfl,d,fun _ z=>absurd z (Nat.not_lt_zero _)⟩,?_⟩
 rintro n ρ ⟨k,ps,rfl,rfl,d,ne⟩
 refine⟨_,rfl,_,rfl,?_⟩
 cases hn:nextOf ws ls (aR ws ls ns k) with
 | nil=>exact b6 ⟨_,rfl,trivial,q k ⟨ne,hn⟩⟩
 | cons y yr=>
  refine bV ?_
  rw [<- hn]
  have cs:=w6 ws ls (aR ws ls ns k)
  have nl:1<=(nextOf ws ls (aR ws ls ns k)).length:=by rw [hn]; exact Nat.succ_le_succ (bf1 _)
  have nle:=aD4 ws ls (aR ws ls ns k)
  have sl:=lX (ls:=ls) hs k
  have dl:=d.len
  have ke:=P6 k ne
  refine⟨_,rfl,_,rfl,trivial,?_,?_⟩
  ·rw [Q9,be4]
   unfold after
   rw [bb4,bk9]; omega
  refine⟨_,rfl,_,rfl,_,_,rfl,.inl rfl,by omega,fun mp dm=>⟨mp,rfl,.inl rfl,?_,?_⟩⟩
  ·have:=dm.len; omega
  have D7:DS (gZ ps mp) (aR ws ls ns (k+1)):=d.merge dm
  refine⟨_,rfl,_,rfl,_,rfl,ws,ls,_,_,rfl,wb,D7,trivial,?_⟩
  refine⟨_,?_,k+1,gZ ps mp,?_,rfl,D7,fun j hj=>?_⟩
  ·show cold ws (aR ws ls ns k ++ nextOf ws ls (aR ws ls ns k)) < _
   omega
  ·rw [P3,<- List.cons_append]
   unfold tups
   rw [bd7]; rfl
  ·by_cases e:j=k
   ·rw [e,hn]; exact fun z=>nomatch z
   ·exact ne j (by omega)
def V3 (Ep:Str->Prop):aP:=(aK (dS 2 (qC (.dK [])))
 (aK (dH (oC (m6 Ep rO (a7 (a5 0) (a7 (a5 1) a9)))) (iF 3 4)
  (dH (eC (a5 4)) (bS 5)
   (nJ 2 (a5 5) (a5 3))))
 (kF 2)))
theorem aM9:m7 V3 ["web","seeds","ranks","rank","lit","hearth"] rP:=by
 rintro Ep xs Q ⟨ws,ls,x,ns,rfl,wb,hx,hl,q,qe⟩
 have few:=wb.few
 refine⟨rfl,rfl,_,rfl,_,rfl,ws,ls,x,ns,rfl,wb,hx,hl,fun hs m en=>⟨_,.inl rfl,fun z=>(by cases z),?_⟩,qe⟩
 have q:=q hs
 have fl:=w9 ws ls ns m
 have sl:=lX (ls:=ls) hs m
 have nd:=m3 (ls:=ls) hs m
 generalize hrs:ns :: after ws ls ns m=rs at fl
 rw [<- fl] at sl nd
 refine⟨fun i ρ=>∃ y z u,ρ = [some (.sh (flat (bG ws ls)) (bG ws ls)),some (.sh (flat x) x),some (.own (.dK (jI (rs.take i)))),y,z,u],⟨none,none,none,rfl⟩,?_,?_⟩
 ·rintro i y ρ hy ⟨y0,z0,u0,rfl⟩
  obtain ⟨y,hy2,rfl⟩:=wU hy
  obtain ⟨r,rfl,hr⟩:=aE6 hy2
  have tk:rs.take (i+1)=rs.take i ++ [r]:=by rw [bi9,hr]; rfl
  have il:(rs.take i).length=i:=by
   have:=(bc5.mp hr).1
   rw [bk4]; omega
  have nd2:((rs.take i).flatten ++ r).Nodup/\((rs.take i).flatten ++ r).length<=rs.flatten.length:=by
   have e:rs.flatten=((rs.take i).flatten ++ r) ++ (rs.drop (i+1)).flatten:=by
    rw [<- List.flatten_singleton (l:=r),<- List.flatten_append,<- tk,<- List.flatten_append,be9]
   rw [e] at nd ⊢
   exact⟨(bl0.mp nd).1,by rw [bc4 (as:=(rs.take i).flatten ++ r)]; omega⟩
  refine⟨_,_,rfl,_,rfl,_,rfl,fun z=>(by cases z),fun j ρ=>∃ u,ρ = [some (.sh (flat (bG ws ls)) (bG ws ls)),some (.sh (flat x) x),some (.own (.dK (jI (rs.take i) ++ gN i (r.take j)))),some (.sh true (.int (i:Int))),some (.sh true (.tup (intz r))),u],⟨u0,?_⟩,?_,?_⟩
  ·rw [show gN i (r.take 0) = [] from rfl,bf8]
   rfl
  ·rintro j y ρ hy ⟨u1,rfl⟩
   obtain ⟨n,rfl,hn⟩:=hJ hy
   have ke:(jI (rs.take i) ++ gN i (r.take j)).map (·.1)=((rs.take i).flatten ++ r.take j).map (Sum.inl:Int->aA):=by
    rw [bd7,bd7,U1,T9]
   have nn:n ∉ (rs.take i).flatten ++ r.take j:=by
    have:=nd2.1
    rw [<- be9 j r,bl8 (bc5.mp hn).1,(bc5.mp hn).2,<- bd6] at this
    exact fun z=>(bl0.mp this).2.2 n z n bc2 rfl
   have le:(jI (rs.take i) ++ gN i (r.take j)).length<=40:=by
    have e1:=congrArg List.length ke
    have e2:=nd2.2
    rw [bb4,bb4,bc4,bc4,bk4] at e1
    rw [bc4] at e2
    rw [bc4]
    omega
   refine⟨_,rfl,_,rfl,_,rfl,Sum.inl n,rfl,trivial,by omega,si n,?_⟩
   rw [aL9 ke nn,aM0 hn,bd6]
   rfl
  ·rintro ρ ⟨u,rfl⟩
   refine⟨some (.sh true (.int i)),some (.sh true (.tup (intz r))),u,?_⟩
   rw [bA,bj8,tk,aL8,il]
 ·rintro ρ ⟨y,z,u,rfl⟩
  rw [oB,Q9,bj8,<- hrs]
  exact⟨_,rfl,trivial,q m en⟩
def V4 (Ep:Str->Prop):aP:=(bO (aB dG (a7 (aB wX (a7 (m6 Ep rP (a7 (a5 0) (a7 (a5 1) a9))) a9)) a9)))
theorem aN0:m7 V4 ["web","seeds"] jJ:=by
 rintro Ep xs Q ⟨ws,ls,x,ns,rfl,wb,hx,hl,q,qe⟩
 have few:=wb.few
 refine⟨_,rfl,_,rfl,ws,ls,x,ns,rfl,wb,hx,hl,fun hs m en=>?_,qe⟩
 have sl:=lX (ls:=ls) hs m
 refine⟨_,aR ws ls ns m,rfl,?_,by omega,fun ms hp ho=>⟨⟨_,_,rfl,rfl,cE _,trivial,q hs ms m en hp ho⟩,fun ns z=>by cases z⟩⟩
 rw [U1,w9]
abbrev V5 (bs:List Bool):List PV:=bs.map PV.bl
section
variable {ws : List Int} {ls : List (Int × Int)}
def cne (ws:List Int) (ls:List (Int × Int)) (S:List Int):Bool:=!decide (S = []) && decide (stay ws ls S=S)
end
def far (ns S:List Int):Bool:=decide (((S.filter fun x=>decide (x ∈ ns)).length:Int)=0)
def V6 (ws:List Int) (ls:List (Int × Int)):List Int->List Int->Bool
 | _,[]=>true
 | B,h :: R=>inB ws.length h && (kin ws ls B h && V6 ws ls (B ++ [h]) R)
end Core
namespace Raw
open PySem PySem.W PySem.Calls PyProof.Rows
theorem x9 {xs:List Nat} (a:xs.Pairwise (· < ·)) {i k:Nat} (hk:k < xs.length) (h:i<=k):xs.getD i 0<=xs.getD k 0:=by
 rcases bh2 i k with z | z
 ·have:=bf2.mp a i k (by omega) hk z
  rw [bc0,bc0,bb2 (by omega),bb2 hk]
  exact bg6 this
 ·rw [Nat.le_antisymm h z]; exact bb6 _
theorem aN1 {xs:Array Nat}{i j:Nat} (h:i < xs.size):xs.getD i j=xs.toList.getD i 0:=by
 rw [bc0,bg3,bm6,bg2 h]; rfl
theorem xA {xs:Array Nat}{j:Nat} (a:xs.toList.Pairwise (· < ·)):∀ (fuel lo hi:Nat),lo<=hi->hi<=xs.size->hi - lo<=fuel->(∀ i,i < lo->xs.toList.getD i 0 < j)->(∀ i,hi<=i->i < xs.size->j<=xs.toList.getD i 0)->
  SetTable.below.go xs j fuel lo hi<=xs.size/\(∀ i,i < SetTable.below.go xs j fuel lo hi->xs.toList.getD i 0 < j)/\∀ i,SetTable.below.go xs j fuel lo hi<=i->i < xs.size->j<=xs.toList.getD i 0
 | 0,lo,hi,h1,h2,h3,h4,h5=>by
  have e:lo=hi:=by omega
  subst e
  exact⟨h2,h4,h5⟩
 | fuel+1,lo,hi,h1,h2,h3,h4,h5=>by
  have sz:xs.toList.length=xs.size:=bd9
  unfold SetTable.below.go
  by_cases lt:lo < hi
  ·rw [if_pos lt]
   dsimp only
   have m1:lo<=(lo+hi) / 2:=by omega
   have m2:(lo+hi) / 2 < hi:=by omega
   rw [aN1 (by omega)]
   by_cases c:xs.toList.getD ((lo+hi) / 2) 0 < j
   ·rw [if_pos c]
    exact xA a fuel _ _ (by omega) h2 (by omega) (fun i hi'=>Nat.lt_of_le_of_lt (x9 a (by omega) (by omega)) c) h5
   ·rw [if_neg c]
    exact xA a fuel _ _ (by omega) (by omega) (by omega) h4 fun i h6 h7=>bf6 (bp4 c) (x9 a (by omega) h6)
  ·rw [if_neg lt]
   have e:lo=hi:=by omega
   subst e
   exact⟨h2,h4,h5⟩
theorem xB {xs:Array Nat}{j:Nat} (a:xs.toList.Pairwise (· < ·)):SetTable.below xs j<=xs.size/\(∀ i,i < SetTable.below xs j->xs.toList.getD i 0 < j)/\∀ i,SetTable.below xs j<=i->i < xs.size->j<=xs.toList.getD i 0:=
 xA a xs.size 0 xs.size (bf1 _) (bb6 _) (by omega) (fun i h=>absurd h (Nat.not_lt_zero _)) fun i h1 h2=>absurd h2 (by omega)
theorem aN2 {α:Type} (xs:Array α) (p:Nat) (x:α):(SetTable.insertAt xs p x).toList=xs.toList.take p ++ x :: xs.toList.drop p:=by
 unfold SetTable.insertAt
 simp
 exact bh8 (by simp)
theorem aN3 {xs:Array Nat}{j:Nat} (a:xs.toList.Pairwise (· < ·)) (ne:xs[SetTable.below xs j]? ≠ some j):(SetTable.insertAt xs (SetTable.below xs j) j).toList.Pairwise (· < ·):=by
 obtain ⟨b1,b2,b3⟩:=xB (j:=j) a
 have sz:xs.toList.length=xs.size:=bd9
 rw [aN2]
 refine bf9.mpr ⟨a.sublist (List.take_sublist _ _),List.pairwise_cons.mpr ⟨fun x hx=>?_,a.sublist (List.drop_sublist _ _)⟩,fun x hx y hy=>?_⟩
 ·obtain ⟨i,hi,e⟩:=bj2 hx
  rw [bm3] at hi
  rw [List.getElem_drop] at e
  have h1:=b3 (SetTable.below xs j) (bb6 _) (by omega)
  have h2:=x9 a (i:=SetTable.below xs j) (k:=SetTable.below xs j+i) (by omega) (by omega)
  have h3:xs.toList.getD (SetTable.below xs j+i) 0=x:=by rw [bc0,bb2 (by omega),e]; rfl
  rcases bh2 j x with z | z
  ·exact z
  ·exfalso
   have h4:xs.toList.getD (SetTable.below xs j) 0=j:=by omega
   rw [bc0,bb2 (by omega)] at h4
   refine ne ?_
   rw [<- bg3,bb2 (by omega)]
   exact congrArg some h4
 ·have hx':x < j:=by
   obtain ⟨i,hi,e⟩:=bj2 hx
   rw [bk4] at hi
   rw [List.getElem_take] at e
   have:=b2 i (by omega)
   rw [bc0,bb2 (by omega),e] at this
   exact this
  rcases bb8.mp hy with e | hy
  ·rw [e]; exact hx'
  ·obtain ⟨i,hi,e⟩:=bj2 hy
   rw [bm3] at hi
   rw [List.getElem_drop] at e
   have:=b3 (SetTable.below xs j+i) (by omega) (by omega)
   rw [bc0,bb2 (by omega),e] at this
   exact bd0 hx' this
structure gO (b:Bool) (t:SetTable):Prop where
 asc:t.place.toList.Pairwise (· < ·)
 dm:t.dummies = #[]
 led:t.led=b
theorem V7 (j:Nat):SetTable.has #[] j=false:=by
 unfold SetTable.has
 simp
theorem V8 {t:SetTable} (dm:t.dummies = #[]) {h:Int}{j:Nat}{d:Option Nat}:∀ (fuel:Nat) (p:SetTable.Probe),p.dummy=none->SetTable.probe.go t (fun _=>h+1) h fuel p=some (.empty j d)->d=none/\t.slot j = .empty
 | 0,p,_,e=>by cases e
 | fuel+1,p,hp,e=>by
  unfold SetTable.probe.go at e
  have adv:∀ p:SetTable.Probe,p.dummy=none->(t.advance p).dummy=none:=fun p hp=>by
   unfold SetTable.advance
   split <;> exact hp
  cases hs:t.slot p.j with
  | empty=>
   rw [hs] at e
   cases e
   exact⟨hp,hs⟩
  | dummy=>
   exfalso
   unfold SetTable.slot at hs
   dsimp only at hs
   rw [dm,V7] at hs
   split at hs <;> cases hs
  | live i=>
   rw [hs] at e
   dsimp only at e
   rw [if_neg (by simp; omega)] at e
   exact V8 dm fuel _ (adv p hp) e
theorem aN4 {t:SetTable} (dm:t.dummies = #[]) {h:Int}{sl:Nat}{d:Bool} (e:t.freeSlot h=some (sl,d)):t.slot sl = .empty:=by
 unfold SetTable.freeSlot at e
 split at e
 ·rename_i j dummy hm
  obtain ⟨e1,e2⟩:=V8 dm _ _ rfl hm
  subst e1
  cases e
  exact e2
 ·cases e
theorem rQ {b:Bool}{t:SetTable} (h:gO b t) (n:Nat):gO b (t.standIn n):=⟨by
 show (Array.range n).toList.Pairwise (· < ·)
 rw [Array.toList_range]; exact List.pairwise_lt_range,rfl,h.led⟩
theorem aN5 {b:Bool}{t:SetTable} (h:gO b t) {j:Nat} (hs:t.slot j = .empty):gO b (t.put j).1:=by
 refine⟨?_,?_,h.led⟩
 ·refine aN3 h.asc fun e=>?_
  unfold SetTable.slot at hs
  dsimp only at hs
  rw [if_pos (by rw [e]; exact bk5 _)] at hs
  cases hs
 ·show (if SetTable.has t.dummies j then SetTable.eraseAt t.dummies (SetTable.below t.dummies j) else t.dummies) = #[]
  rw [h.dm,V7]; rfl
theorem aN6 {b:Bool}{t:SetTable} (h:gO b t) (es:Array (Int × Value)) (k:Int) (x:Value):gO b (layNew t es k x).2.1:=by
 unfold layNew
 split
 ·rename_i sl wd e
  have p:=aN5 h (aN4 h.dm e)
  show gO b (SetTable.orStandIn _ _)
  unfold SetTable.orStandIn
  split
  ·exact p
  ·exact rQ p _
 ·exact rQ h _
theorem aN7 {b:Bool}{t:SetTable} (h:gO b t) (es:Array (Int × Value)) (n:Nat):gO b (relayAll t es n).2.1:=by
 unfold relayAll
 split
 ·rename_i t' order e
  dsimp only
  split
  ·show gO b t'
   unfold SetTable.relaid SetTable.laid at e
   cases hc:SetTable.layClean (SetTable.sizeAbove n - 1) (es.map (·.1)) with
   | none=>rw [hc] at e; cases e
   | some owner=>
    rw [hc] at e
    cases e
    refine⟨?_,rfl,h.led⟩
    show (List.map _ _).Pairwise (· < ·)
    refine bg4.mpr (List.Pairwise.filterMap _ (R:=(· < ·)) ?_ List.pairwise_lt_range)
    intro i i' hlt x hx y hy
    cases ho:owner.getD i none with
    | none=>rw [ho] at hx; cases hx
    | some v=>
     rw [ho] at hx
     cases ho2:owner.getD i' none with
     | none=>rw [ho2] at hy; cases hy
     | some v2=>
      rw [ho2] at hy
      cases hx; cases hy
      exact hlt
  ·exact rQ h _
 ·exact rQ h _
theorem xC {us vs:List Value} (p:us.Perm vs):∀ {ns:List Int},IntsAre vs ns->∃ ms,IntsAre us ms/\ms.Perm ns:=by
 induction p with
 | nil=>intro ns h; exact⟨ns,h,bo5 _⟩
 | cons x _ ih=>
  intro ns h
  cases h with
  | cons n t r=>
   obtain ⟨ms,h1,h2⟩:=ih r
   exact⟨n :: ms,.cons n t h1,h2.cons n⟩
 | swap x y l=>
  intro ns h
  cases h with
  | cons n t r=>
   cases r with
   | cons n' t' r=>
    exact⟨n' :: n :: _,.cons n' t' (.cons n t r),List.Perm.swap _ _ _⟩
 | trans _ _ ih1 ih2=>
  intro ns h
  obtain ⟨ms,h1,h2⟩:=ih2 h
  obtain ⟨ms',h3,h4⟩:=ih1 h1
  exact⟨ms',h3,h4.trans h2⟩
theorem V9:∀ {us:List Value}{ns:List Int},IntsAre us ns->∀ (k:Int) (t:Nat),IntsAre (us ++ [.int k t]) (ns ++ [k])
 | _,_,.nil,k,t=>.cons k t .nil
 | _,_,.cons n u r,k,t=>.cons n u (V9 r k t)
theorem rR:∀ {us:List Value}{ns:List Int},IntsAre us ns->∀ k:Int,k ∈ ns ↔ ∃ t,Value.int k t ∈ us
 | _,_,.nil,k=>⟨(fun h=>nomatch h),(fun ⟨_,h⟩=>nomatch h)⟩
 | _,_,.cons n u r,k=>by
  constructor
  ·intro h
   rcases bb8.mp h with e | h
   ·exact⟨u,by rw [e]; exact bc2⟩
   ·obtain ⟨t,ht⟩:=(rR r k).mp h
    exact⟨t,bc3 _ ht⟩
  ·rintro ⟨t,h⟩
   rcases bb8.mp h with e | h
   ·cases e; exact bc2
   ·exact bc3 _ ((rR r k).mpr ⟨t,h⟩)
abbrev cV (es:Array (Int × Value)) (ep:Nat) (t:SetTable):Obj:={ cls:=.type "set",dict:=none,data:=.set es ep t,slots:=#[] }
section
variable {prog : Program} {w : World} {A : Around} {E : Value → Shared → Prop} {s : Shared}
def oE (prog:Program) (w:World) (es:Array (Int × Value)) (t:SetTable) (ms:List Int):Prop:=ElemsOf (intKind prog w) es.toList/\IntsAre (es.toList.map (·.2)) ms/\es.size < scanBound/\t.fits es.size=true/\gO (!w.params.followText "set-order") t
def W0 (prog:Program) (w:World) (h:Heap) (a:Addr) (ms:List Int):Prop:=∃ es ep t,h.get? a=some (cV es ep t)/\oE prog w es t ms
theorem W5 {h:Heap}{a:Addr}{es es':Array (Int × Value)}{ep:Nat}{t t':SetTable} (ho:h.get? a=some (cV es ep t)):(h.update a (Obj.putSet es' t')).get? a=some (cV es' (ep+1) t'):=by
 have:=bi3 (Obj.putSet es' t') ho (by rw [putSet_of es' t' (rfl:(cV es ep t).data=_)]; rfl)
 rw [putSet_of es' t' (rfl:(cV es ep t).data=_)] at this
 exact this
theorem add_int {a:Addr}{ms:List Int}{k:Int}{u:Nat}{Q:Bool->Shared->Prop} (hS:W0 prog w s.heap a ms) (room:ms.length+1 < scanBound)
  (h:∀ b h' ms',Heap.SameBut a s.heap h'->W0 prog w h' a ms'->(k ∈ ms->ms'.Perm ms)->(k ∉ ms->ms'.Perm (ms ++ [k]))->Q b { s with heap:=h' }) :
  wpAny (model prog w) A (setAddHashed a (.int k u) ((intKind prog w).hash k)) Q E s:=by
 obtain ⟨es,ep,t,ho,hel,hi,hb,hf,tk⟩:=hS
 have key:(intKind prog w).is k (.int k u)=true:=intKind_is _ _ _ _
 have ln:ms.length=es.size:=by
  have:=IntsAre.length hi
  rw [bb4,bd9] at this
  exact this.symm
 have isk:∀ v,(intKind prog w).is k v=true->∃ u,v = .int k u:=fun v hv=>Value.isInt_shape hv
 unfold setAddHashed setAddHashedIn
 refine bj9 (ba9 (bq9 ho rfl hf ?_))
 dsimp only
 rw [byScan_of (knd:=intKind prog w) (x:=.int k u) rfl hb hel,if_pos rfl]
 unfold setAddByScan
 refine ba9 (ba9 (bn7 ?_))
 refine ba9 (wpAny_setScan_of key ho rfl hf hel ?_)
 cases hr:List.findIdx? (fun e=>(intKind prog w).is k e.2) es.toList with
 | some j=>
  dsimp only
  obtain ⟨hj,hp,_⟩:=List.findIdx?_eq_some_iff_getElem.mp hr
  have km:k ∈ ms:=by
   obtain ⟨u',e⟩:=isk _ hp
   exact (rR hi k).mpr ⟨u',by rw [<- e]; exact bd1.mpr ⟨_,bh0 hj,rfl⟩⟩
  have e:s={ s with heap:=s.heap }:=by cases s; rfl
  rw [e]
  exact bb3 (bb3 (h _ s.heap ms (Heap.SameBut.refl a s.heap) ⟨es,ep,t,ho,hel,hi,hb,hf,tk⟩ (fun _=>bo5 _) fun n=>absurd km n))
 | none=>
  dsimp only
  have km:k ∉ ms:=fun z=>by
   obtain ⟨u',hm⟩:=(rR hi k).mp z
   obtain ⟨e,he,e2⟩:=bd1.mp hm
   have:=List.findIdx?_eq_none_iff.mp hr e he
   rw [e2,intKind_is _ _ _ _] at this; cases this
  have lp:=layNew_perm t es ((intKind prog w).hash k) (.int k u)
  have lf:=layNew_fits t es ((intKind prog w).hash k) (.int k u)
  have lk:=aN6 tk es ((intKind prog w).hash k) (.int k u)
  generalize hL:layNew t es ((intKind prog w).hash k) (.int k u)=L at lp lf lk ⊢
  obtain ⟨es1,t1,wd,gave⟩:=L
  dsimp only at lp lf lk ⊢
  rw [Array.toList_push] at lp
  have el1:ElemsOf (intKind prog w) es1.toList:=(hel.push key rfl).perm lp
  have sz1:es1.size=es.size+1:=by rw [<- bd9,lp.length_eq,bc4,bd9]; rfl
  obtain ⟨ms1,i1,p1⟩:∃ ms1,IntsAre (es1.toList.map (·.2)) ms1/\ms1.Perm (ms ++ [k]):=xC (lp.map (·.2)) (by rw [bd7]; exact V9 hi k u)
  have hb1:es1.size < scanBound:=by omega
  have gw:∀ (b:Bool) (s₁:Shared) (Q':Unit->Shared->Prop),Q' () s₁->wpAny (model prog w) A (match b with | true=>rule "set.scan.the-table-gave-way" | false=>pure ()) Q' E s₁:=fun b s₁ Q' hq=>by
   cases b
   ·exact bb3 hq
   ·exact bn7 hq
  refine ba9 (gw _ _ _ ?_)
  split <;> (
   show wpAny _ _ (storeSet a es1 t1 >>= _) _ _ _
   simp only [↓reduceIte]
   refine ba9 (wpAny_storeSet_of ho rfl ?_ (fits_of_scanBound hb1))
   have ho1:=W5 (es':=es1) (t':=t1) ho
   have sb1:=bh6 s.heap a (Obj.putSet es1 t1)
   split
   ·have rp:=relayAll_perm t1 es1 (SetTable.grown es1.size)
    have rf:=relayAll_fits t1 es1 (SetTable.grown es1.size)
    have rk:=aN7 lk es1 (SetTable.grown es1.size)
    generalize relayAll t1 es1 (SetTable.grown es1.size)=L at rp rf rk ⊢
    obtain ⟨es2,t2,gave2⟩:=L
    dsimp only at rp rf rk ⊢
    have sz2:es2.size=es1.size:=by rw [<- bd9,rp.length_eq,bd9]
    obtain ⟨ms2,i2,p2⟩:=xC (rp.map (·.2)) i1
    refine ba9 (gw _ _ _ ?_)
    refine ba9 (wpAny_storeSet_of ho1 rfl ?_ (fits_of_scanBound (by omega)))
    exact bb3 (bb3 (h _ _ ms2 (sb1.trans (bh6 _ a _)) ⟨es2,_,t2,W5 ho1,el1.perm rp,i2,by omega,rf,rk⟩ (fun z=>absurd z km) fun _=>p2.trans p1))
   ·exact bb3 (bb3 (h _ _ ms1 sb1 ⟨es1,_,t1,ho1,el1,i1,hb1,lf,lk⟩ (fun z=>absurd z km) fun _=>p1)))
end
theorem aN8:entryFor table "set.__iter__" = some Builtin.«frozenset.__iter__»:=entryFor_alias (id':="frozenset.__iter__") (by kernel_rfl) rfl (by decide +kernel) (by kernel_rfl)
theorem hZ:Slot "set_iterator" "__next__" "set_iterator.__next__":=
 .of (owner:="set_iterator") (n:="__next__") (by rw [typeLookup_type,builtinLookup_eq_fast]; kernel_rfl) (by decide +kernel) (by decide +kernel) (by decide +kernel) (by first | exact .inl (by decide +kernel) | exact .inr (by decide +kernel)) (by rw [isSubtype_type]; kernel_rfl)
theorem rS:entryFor table "set_iterator.__next__" = some Builtin.«set_iterator.__next__»:=entryFor_of_tree (by kernel_rfl)
theorem W6:Manifest.owners.lookup (String.ofList ['r','o','t','a','r','e','t','i','_','t','e','s'].reverse)=some Manifest.sig_set_iterator:=by kernel_rfl
theorem rT (a:Value):argsOk "set_iterator.__next__" ⟨[a],[]⟩:=by
 unfold argsOk; rw [signature?_of (id:="set_iterator.__next__") (n:=['_','_','t','x','e','n','_','_']) (o:=['r','o','t','a','r','e','t','i','_','t','e','s']) (by kernel_rfl) W6]; kernel_rfl
theorem aN9:entryFor table "set_iterator.__iter__" = some Builtin.«dict_keyiterator.__iter__»:=
 entryFor_alias (id':="dict_keyiterator.__iter__") (by kernel_rfl) (by first | rfl | decide +kernel | (unfold String.splitOn; simp +decide [String.splitOnAux])) (by decide +kernel) (by kernel_rfl)
theorem W7:Slot "set_iterator" "__iter__" "set_iterator.__iter__":=
 .of (owner:="set_iterator") (n:="__iter__") (by rw [typeLookup_type,builtinLookup_eq_fast]; kernel_rfl) (by decide +kernel) (by decide +kernel) (by decide +kernel) (by first | exact .inl (by decide +kernel) | exact .inr (by decide +kernel)) (by rw [isSubtype_type]; kernel_rfl)
theorem aO0 (a:Value):argsOk "set_iterator.__iter__" ⟨[a],[]⟩:=by
 unfold argsOk; rw [signature?_of (id:="set_iterator.__iter__") (n:=['_','_','r','e','t','i','_','_']) (o:=['r','o','t','a','r','e','t','i','_','t','e','s']) (by kernel_rfl) W6]; kernel_rfl
section
variable {prog : Program} {w : World} {A : Around} {E : Value → Shared → Prop} {s : Shared} {I a : Addr} {es : Array (Int × Value)} {ep : Nat} {t : SetTable}
abbrev gB (f:Value) (i:Nat) (a:Addr) (n ep:Nat):Obj:={ cls:=.type "set_iterator",data:=.fields #[f,.int i 0,.ref a,.int n 0,.int ep 0] }
theorem aO1 {f:Value}{i:Nat}{Q:Option Value->Shared->Prop} (hi:s.heap.get? I=some (gB f i a es.size ep)) (ha:s.heap.get? a=some (cV es ep t)) (hf:t.fits es.size=true) (ne:I ≠ a) {sl sl':Nat}{x:Value} (ef:f = .int sl 0)
  (hn:∀ (s:Shared) (Q:Option (Value × Nat)->Shared->Prop) (E:Value->Shared->Prop) (A:Around),s.heap.get? a=some (cV es ep t)->Q (some (x,sl')) s->wpAny (model prog w) A (setNext a sl i ep) Q E s)
  (hQ:∀ h',h'.get? I=some (gB (.int sl' 0) (i+1) a es.size ep)->Heap.SameBut I s.heap h'->Q (some x) { s with heap:=h' }):wpAny (model prog w) A (pyNext (.ref I)) Q E s:=by
 have hT:s.TypeIs (.ref I) "set_iterator":=⟨_,hi,rfl⟩
 subst ef
 unfold pyNext
 refine ba9 (bo0 (bf3 (name:=Str.ofString "__next__") hT hZ (be5 hZ hT rS ?_ (rT _))))
 unfold Builtin.«set_iterator.__next__»
 refine ba9 (bb3 ?_)
 refine ba9 (wpAny_fieldsOf hi rfl ?_)
 dsimp only
 refine ba9 (wpAny_setEntries_of ha rfl hf ?_)
 rw [if_neg (by simp)]
 refine ba9 (hn _ _ _ _ ha ?_)
 dsimp only
 refine ba9 (bm8 hi rfl (by simp) ?_)
 have h1:(s.heap.update I (Obj.mapFields (·.setIfInBounds 0 (rawInt sl')))).get? I=some (gB (.int sl' 0) i a es.size ep):=by
  have:=bi3 (Obj.mapFields (·.setIfInBounds 0 (rawInt sl'))) hi rfl
  exact this
 refine ba9 (bm8 h1 rfl (by simp) ?_)
 have h2:=bi3 (Obj.mapFields (·.setIfInBounds 1 (rawInt ((i:Int)+1)))) h1 rfl
 exact bb3 ⟨_,rfl,bb3 (hQ _ h2 ((bh6 ..).trans (bh6 ..)))⟩
theorem aO2 {f:Value}{i:Nat}{Q:Option Value->Shared->Prop} (hh:A.handled=none) (hi:s.heap.get? I=some (gB f i a es.size ep)) (ha:s.heap.get? a=some (cV es ep t)) (hf:t.fits es.size=true) {sl:Nat} (ef:f = .int sl 0)
  (hn:∀ (s:Shared) (Q:Option (Value × Nat)->Shared->Prop) (E:Value->Shared->Prop) (A:Around),s.heap.get? a=some (cV es ep t)->Q none s->wpAny (model prog w) A (setNext a sl i ep) Q E s)
  (hQ:∀ h',Heap.ExtBut I s.heap h'->Q none { s with heap:=h' }):wpAny (model prog w) A (pyNext (.ref I)) Q E s:=by
 have hT:s.TypeIs (.ref I) "set_iterator":=⟨_,hi,rfl⟩
 subst ef
 unfold pyNext
 refine ba9 (bo0 (bf3 (name:=Str.ofString "__next__") hT hZ (be5 hZ hT rS ?_ (rT _))))
 unfold Builtin.«set_iterator.__next__»
 refine ba9 (bb3 ?_)
 refine ba9 (wpAny_fieldsOf hi rfl ?_)
 dsimp only
 refine ba9 (wpAny_setEntries_of ha rfl hf ?_)
 rw [if_neg (by simp)]
 refine ba9 (hn _ _ _ _ ha ?_)
 dsimp only
 refine ba9 (bm8 hi rfl (by simp) ?_)
 refine ba9 ?_
 simp only [newExc,newTuple]
 refine ba9 (be8 ?_ (by size_fits))
 refine ba9 (m:=firstArgMember _ _) (wpAny_of_eq (a:=Value.none) (by first | rfl | (simp only [firstArgMember]; rfl)) ?_)
 refine be8 ?_ (by size_fits)
 simp only [raiseNew]
 refine ba9 (wpAny_handled ?_)
 rw [show A.in1.handled=none from hh]
 refine ba9 (bb3 (wpAny_throw ?_))
 refine ba9 (bp5 (T:="StopIteration") (b:=true) ⟨_,bb9 _ rfl,rfl⟩ isSubtype_stop ?_)
 exact bb3 (hQ _ (((bh6 ..).extBut.push _).push _))
end
section
variable {prog : Program} {w : World} {A : Around} {E : Value → Shared → Prop} {s : Shared} {I a : Addr} {es : Array (Int × Value)} {ep : Nat} {t : SetTable}
theorem W8 {f:Value}{i n:Nat}{Q:Value->Shared->Prop} (hi:s.heap.get? I=some (gB f i a n ep)) (h:Q (.ref I) s):wpAny (model prog w) A (pyIter (.ref I)) Q E s:=by
 have hT:s.TypeIs (.ref I) "set_iterator":=⟨_,hi,rfl⟩
 refine wpAny_pyIter_slot hT W7 (be5 W7 hT aN9 ?_ (aO0 _))
 show wpAny _ _ (ret (.ref I)) _ _ s
 exact bb3 ⟨_,rfl,"set_iterator",_,hT,hZ.lookup,h⟩
theorem aO3 (hh:A.handled=none) (ne:I ≠ a) (hf:t.fits es.size=true) (O:List Value) (len:O.length=es.size) (sl:Nat->Nat)
  (hn:∀ i x,O[i]? = some x->∀ (s:Shared) (Q:Option (Value × Nat)->Shared->Prop) (E:Value->Shared->Prop) (A:Around),s.heap.get? a=some (cV es ep t)->Q (some (x,sl (i+1))) s->wpAny (model prog w) A (setNext a (sl i) i ep) Q E s)
  (he:∀ (s:Shared) (Q:Option (Value × Nat)->Shared->Prop) (E:Value->Shared->Prop) (A:Around),s.heap.get? a=some (cV es ep t)->Q none s->wpAny (model prog w) A (setNext a (sl es.size) es.size ep) Q E s) :
  Walks prog w A I [I,a] [I] es.size (fun i v=>O[i]? = some v) (fun i h=>h.get? I=some (gB (.int (sl i) 0) i a es.size ep)/\h.get? a=some (cV es ep t)) where
 sub:=fun b hb=>by rw [bc1.mp hb]; exact bc2
 frame:=fun _ _ _ st hk=>⟨hk I bc2 _ st.1,hk a (bc3 _ bc2) _ st.2⟩
 item:=fun i s Q E hi st hQ=>by
  have ho:O[i]? = some O[i]:=bb2 (by omega)
  refine aO1 st.1 st.2 hf ne rfl (hn i _ ho) fun h' g sb=>?_
  have e:s={ s with heap:=s.heap }:=by cases s; rfl
  exact hQ _ h' s.toks ho ⟨g,by rw [sb.2 a (Ne.symm ne)]; exact st.2⟩ fun b o hb e=>by rw [sb.2 b fun z=>hb (by rw [z]; exact List.mem_singleton_self _)]; exact e
 done:=fun s Q E st hQ=>aO2 hh st.1 st.2 hf rfl he fun h' eb=>hQ h' s.toks fun b o hb e=>eb b o (fun z=>hb (by rw [z]; exact List.mem_singleton_self _)) e
 self:=fun i s Q E st hQ=>W8 st.1 hQ
theorem W9 (bt:w.params.followText "set-order" = true) (hf:t.fits es.size=true) {i:Nat}{sl:Nat}{Q:Option (Value × Nat)->Shared->Prop} (ha:s.heap.get? a=some (cV es ep t))
  (h:Q (((pickOrder (w.params.setOrder a ep) es)[i]?).map fun e=>(e.2,sl)) s):wpAny (model prog w) A (setNext a sl i ep) Q E s:=by
 unfold setNext setsByText
 refine ba9 (bq9 ha rfl hf ?_)
 refine ba9 (ba9 (wpAny_askSetting (bb3 ?_)))
 rw [show ((⟨(model prog w).prog,(model prog w).w.params⟩:Setting).params.followText "set-order")=true from bt,if_pos rfl,if_neg (by simp)]
 refine ba9 ?_
 unfold setWalk setsByText
 refine ba9 (bq9 ha rfl hf ?_)
 refine ba9 (ba9 (wpAny_askSetting (bb3 ?_)))
 rw [show ((⟨(model prog w).prog,(model prog w).w.params⟩:Setting).params.followText "set-order")=true from bt,if_pos rfl]
 refine ba9 (wpAny_askSetting (bb3 ?_))
 exact bb3 h
theorem X0 (bt:w.params.followText "set-order" = false) (hf:t.fits es.size=true) (tk:gO (!w.params.followText "set-order") t) (pl:(!t.plain && decide (es.size > 1))=false) {i sl:Nat}{Q:Option (Value × Nat)->Shared->Prop} (ha:s.heap.get? a=some (cV es ep t))
  (h:Q (match es[SetTable.below t.place sl]?,t.place[SetTable.below t.place sl]? with | some (_,x),some j=>some (x,j+1) | _,_=>none) s):wpAny (model prog w) A (setNext a sl i ep) Q E s:=by
 unfold setNext setsByText
 refine ba9 (bq9 ha rfl hf ?_)
 refine ba9 (ba9 (wpAny_askSetting (bb3 ?_)))
 rw [show ((⟨(model prog w).prog,(model prog w).w.params⟩:Setting).params.followText "set-order")=false from bt,if_neg (by decide)]
 have ld:t.led=true:=by rw [tk.led,bt]; rfl
 show wpAny _ _ (if (!t.plain && decide (es.size > 1))=true then _ else _) _ _ _
 rw [pl,if_neg (by decide)]
 refine ba9 ?_
 show wpAny _ _ (if (!t.led && !es.isEmpty)=true then _ else _) _ _ _
 rw [ld,if_neg (by simp)]
 exact bb3 (bb3 h)
end
theorem X1 {α:Type}{l:List α}{i:Nat} (h:i < l.length):(l[i] :: l.eraseIdx i).Perm l:=by
 have e:l=l.take i ++ l[i] :: l.drop (i+1):=by rw [<- bl8 h,be9]
 rw [List.eraseIdx_eq_take_drop_succ]
 exact List.perm_middle.symm.trans (by rw [<- e])
theorem X2 {prog:Program}{w:World}{A:Around}{E:Value->Shared->Prop}{s:Shared}{p:Addr}{o:Obj}{xs:Array Value}{n:Nat}{Q:Option (Array Value)->Shared->Prop} (ho:s.heap.get? p=some o) (hd:o.data = .seq xs n) (h:Q (some xs) s):wpAny (model prog w) A (seqItems? (.ref p)) Q E s:=by
 unfold seqItems?
 refine ba9 (wpAny_load ho ?_)
 rw [hd]
 exact bb3 h
theorem X3 {α:Type}{next:Nat->Nat}:∀ (fuel k:Nat) (left:List α) (out:Array α),left.length<=fuel->(pickOrder.go next fuel k left out).toList.Perm (out.toList ++ left)
 | 0,k,left,out,h=>by
  have:left = []:=List.eq_nil_of_length_eq_zero (by omega)
  subst this
  rw [bf8]; exact bo5 _
 | fuel+1,k,left,out,h=>by
  unfold pickOrder.go
  cases hx:left[next k % left.length]? with
  | none=>
   have:left = []:=by
    cases left with
    | nil=>rfl
    | cons a r=>
     have:=List.getElem?_eq_none_iff.mp hx
     have:=Nat.mod_lt (next k) (show 0 < (a :: r).length from Nat.zero_lt_succ _)
     omega
   subst this
   rw [bf8]
  | some x=>
   obtain ⟨hi,e⟩:=bc5.mp hx
   have p:=X1 hi
   rw [e] at p
   have lp:=p.length_eq
   rw [be4] at lp
   refine (X3 fuel (k+1) _ _ (by omega)).trans ?_
   rw [Array.toList_push,bd6]
   exact p.append_left _
theorem X4 {α:Type} (next:Nat->Nat) (xs:Array α):(pickOrder next xs).toList.Perm xs.toList:=X3 xs.size 0 xs.toList #[] (by rw [bd9]; exact bb6 _)
def jZ (xs:List Nat):Nat->Nat
 | 0=>0
 | i+1=>xs.getD i 0+1
theorem X5 {xs:Array Nat} (a:xs.toList.Pairwise (· < ·)):∀ i,i<=xs.size->SetTable.below xs (jZ xs.toList i)=i
 | 0,_=>by
  obtain ⟨_,b2,_⟩:=xB (j:=jZ xs.toList 0) a
  rcases Nat.eq_zero_or_pos (SetTable.below xs (jZ xs.toList 0)) with z | z
  ·exact z
  ·exact absurd (b2 0 z) (Nat.not_lt_zero _)
 | i+1,hi=>by
  obtain ⟨b1,b2,b3⟩:=xB (j:=jZ xs.toList (i+1)) a
  have sz:xs.toList.length=xs.size:=bd9
  have e:jZ xs.toList (i+1)=xs.toList.getD i 0+1:=rfl
  rcases Nat.lt_trichotomy (SetTable.below xs (jZ xs.toList (i+1))) (i+1) with z | z | z
  ·have:=b3 i (by omega) (by omega)
   omega
  ·exact z
  ·have h1:=b2 (i+1) z
   have h2:=bf2.mp a i (i+1) (by omega) (by omega) (by omega)
   rw [e,bc0,bc0,bb2 (by omega),bb2 (by omega)] at h1
   exact absurd h1 (by show ¬ xs.toList[i+1] < xs.toList[i]+1; omega)
theorem aO4 {prog:Program}{w:World}{A:Around}{E:Value->Shared->Prop}{s:Shared}{src:Source}{n:Nat}{Q:Nat->Shared->Prop} (hn:n ≠ 0) (h:∀ i d,i < n->Q i { s with drawn:=d }):wpAny (model prog w) A (choose src n) Q E s:=
 fun _ _ _=>⟨hn,h _ _ (Nat.mod_lt _ (Nat.pos_of_ne_zero hn))⟩
section
variable {prog : Program} {w : World} {A : Around} {E : Value → Shared → Prop}
theorem X6 {α:Type}:∀ (n:Nat) (xs:List α) (s:Shared) {Q:List α->Shared->Prop},xs.length<=n->(∀ ys d,ys.Perm xs->Q ys { s with drawn:=d })->wpAny (model prog w) A (drawOrder n xs) Q E s
 | 0,xs,s,Q,hl,h=>by
  have:xs = []:=List.eq_nil_of_length_eq_zero (by omega)
  subst this
  exact bb3 (h [] s.drawn (bo5 _))
 | n+1,[],s,Q,hl,h=>bb3 (h [] s.drawn (bo5 _))
 | n+1,x :: r,s,Q,hl,h=>by
  unfold drawOrder
  refine ba9 (aO4 (Nat.succ_ne_zero _) fun i d hi=>?_)
  rw [bb2 hi]
  have p:=X1 hi
  have lp:=p.length_eq
  rw [be4] at lp
  refine ba9 (X6 n _ _ (by omega) fun ys d' py=>bb3 ?_)
  exact h _ d' ((py.cons _).trans p)
end
section
variable {prog : Program} {w : World} {A : Around} {E : Value → Shared → Prop} {s : Shared} {I a p : Addr} {es : Array (Int × Value)} {ep : Nat} {t : SetTable}
theorem aO5 {i j:Nat}{ps:Array Value}{x:Int × Value}{Q:Option Value->Shared->Prop} (hi:s.heap.get? I=some (gB (.ref p) i a es.size ep)) (ha:s.heap.get? a=some (cV es ep t)) (hf:t.fits es.size=true) (hp:s.heap.IsTuple p ps) (hj:ps[i]? = some (.int j 0)) (hx:es[j]? = some x)
  (hQ:∀ h',h'.get? I=some (gB (.ref p) (i+1) a es.size ep)->Heap.SameBut I s.heap h'->Q (some x.2) { s with heap:=h' }):wpAny (model prog w) A (pyNext (.ref I)) Q E s:=by
 have hT:s.TypeIs (.ref I) "set_iterator":=⟨_,hi,rfl⟩
 obtain ⟨op,hop,hc,nl,hd⟩:=hp
 unfold pyNext
 refine ba9 (bo0 (bf3 (name:=Str.ofString "__next__") hT hZ (be5 hZ hT rS ?_ (rT _))))
 unfold Builtin.«set_iterator.__next__»
 refine ba9 (bb3 ?_)
 refine ba9 (wpAny_fieldsOf hi rfl ?_)
 dsimp only
 refine ba9 (wpAny_setEntries_of ha rfl hf ?_)
 rw [if_neg (by simp)]
 refine ba9 (X2 hop hd ?_)
 dsimp only
 rw [bi1,hj]
 dsimp only
 unfold setNextDrawn
 refine ba9 (ba9 (bq9 ha rfl hf ?_))
 dsimp only
 rw [if_neg (by simp),bi1,hx]
 refine bb3 ?_
 refine ba9 (bm8 hi rfl (by simp) ?_)
 have h2:=bi3 (Obj.mapFields (·.setIfInBounds 1 (rawInt ((i:Int)+1)))) hi rfl
 exact bb3 ⟨_,rfl,bb3 (hQ _ h2 (bh6 ..))⟩
theorem aO6 {i:Nat}{ps:Array Value}{Q:Option Value->Shared->Prop} (hh:A.handled=none) (hi:s.heap.get? I=some (gB (.ref p) i a es.size ep)) (ha:s.heap.get? a=some (cV es ep t)) (hf:t.fits es.size=true) (hp:s.heap.IsTuple p ps) (hj:ps[i]? = none)
  (hQ:∀ h',Heap.ExtBut I s.heap h'->Q none { s with heap:=h' }):wpAny (model prog w) A (pyNext (.ref I)) Q E s:=by
 have hT:s.TypeIs (.ref I) "set_iterator":=⟨_,hi,rfl⟩
 obtain ⟨op,hop,hc,nl,hd⟩:=hp
 unfold pyNext
 refine ba9 (bo0 (bf3 (name:=Str.ofString "__next__") hT hZ (be5 hZ hT rS ?_ (rT _))))
 unfold Builtin.«set_iterator.__next__»
 refine ba9 (bb3 ?_)
 refine ba9 (wpAny_fieldsOf hi rfl ?_)
 dsimp only
 refine ba9 (wpAny_setEntries_of ha rfl hf ?_)
 rw [if_neg (by simp)]
 refine ba9 (X2 hop hd ?_)
 dsimp only
 rw [bi1,hj]
 dsimp only
 refine ba9 (bm8 hi rfl (by simp) ?_)
 have h1:(s.heap.update I (Obj.mapFields (·.setIfInBounds 0 (rawInt 0)))).get? I=some (gB (.int 0 0) i a es.size ep):=bi3 (Obj.mapFields (·.setIfInBounds 0 (rawInt 0))) hi rfl
 refine ba9 (bm8 h1 rfl (by simp) ?_)
 refine ba9 ?_
 simp only [newExc,newTuple]
 refine ba9 (be8 ?_ (by size_fits))
 refine ba9 (m:=firstArgMember _ _) (wpAny_of_eq (a:=Value.none) (by first | rfl | (simp only [firstArgMember]; rfl)) ?_)
 refine be8 ?_ (by size_fits)
 simp only [raiseNew]
 refine ba9 (wpAny_handled ?_)
 rw [show A.in1.handled=none from hh]
 refine ba9 (bb3 (wpAny_throw ?_))
 refine ba9 (bp5 (T:="StopIteration") (b:=true) ⟨_,bb9 _ rfl,rfl⟩ isSubtype_stop ?_)
 exact bb3 (hQ _ ((((bh6 ..).trans (bh6 ..)).extBut.push _).push _))
theorem aO7 (hh:A.handled=none) (ne:I ≠ a) (nep:I ≠ p) (hf:t.fits es.size=true) {ps:Array Value}{js:List Nat} (hps:ps=(js.map fun j:Nat=>Value.int j 0).toArray) (len:js.length=es.size) (inn:∀ j ∈ js,j < es.size) :
  Walks prog w A I [I,a,p] [I] es.size (fun i v=>(js.map fun j=>(es.toList.map (·.2)).getD j .none)[i]? = some v) (fun i h=>h.get? I=some (gB (.ref p) i a es.size ep)/\h.get? a=some (cV es ep t)/\h.IsTuple p ps) where
 sub:=fun b hb=>by rw [bc1.mp hb]; exact bc2
 frame:=fun _ _ _ st hk=>⟨hk I bc2 _ st.1,hk a (bc3 _ bc2) _ st.2.1,st.2.2.at fun o e=>hk p (bc3 _ (bc3 _ bc2)) o e⟩
 item:=fun i s Q E hi st hQ=>by
  have hl:i < js.length:=by omega
  have hj:=inn js[i] (bh0 hl)
  have h1:ps[i]? = some (.int js[i] 0):=by rw [hps]; simp [hl]
  have h2:es[js[i]]? = some es[js[i]]:=bg2 hj
  refine aO5 st.1 st.2.1 hf st.2.2 h1 h2 fun h' g sb=>?_
  refine hQ _ h' s.toks ?_ ⟨g,by rw [sb.2 a (Ne.symm ne)]; exact st.2.1,st.2.2.at fun o e=>by rw [sb.2 p (Ne.symm nep)]; exact e⟩ fun b o hb e=>by rw [sb.2 b fun z=>hb (by rw [z]; exact List.mem_singleton_self _)]; exact e
  simp [hl,hj]
 done:=fun s Q E st hQ=>aO6 hh st.1 st.2.1 hf st.2.2 (by rw [hps]; simp [len]) fun h' eb=>hQ h' s.toks fun b o hb e=>eb b o (fun z=>hb (by rw [z]; exact List.mem_singleton_self _)) e
 self:=fun i s Q E st hQ=>W8 st.1 hQ
end
section
variable {prog : Program} {w : World} {A : Around} {E : Value → Shared → Prop} {s : Shared} {a : Addr} {es : Array (Int × Value)} {ep : Nat} {t : SetTable} {ms : List Int}
theorem aO8 (hh:A.handled=none) (ha:s.heap.get? a=some (cV es ep t)) (ok:oE prog w es t ms) {Q:Value->Shared->Prop}
  (h:∀ (I:Addr) (h1:Heap) (d1:Drawn) (O:List Value) (fp:List Addr) (St:Nat->Heap->Prop),(∀ b o,s.heap.get? b=some o->h1.get? b=some o)->s.heap.objs.size<=I->(∀ b ∈ fp,b=a ∨ s.heap.objs.size<=b)->O.Perm (es.toList.map (·.2))->
   Walks prog w A I fp [I] es.size (fun i v=>O[i]? = some v) St->St 0 h1->Q (.ref I) { s with heap:=h1,drawn:=d1 }):wpAny (model prog w) A (pyIter (.ref a)) Q E s:=by
 obtain ⟨hel,hi,hb,hf,tk⟩:=ok
 have hT:s.TypeIs (.ref a) "set":=⟨_,ha,rfl⟩
 have lt:=bc7 ha
 have sz:es.toList.length=es.size:=bd9
 refine wpAny_pyIter_slot hT F.slot_set_iter (be5 F.slot_set_iter hT aN8 ?_ (F.args_set_iter_1 _))
 unfold Builtin.«frozenset.__iter__» Builtin.Frozenset.slot0 Builtin.Frozenset.sizeOf
 refine ba9 (ba9 (bb3 (bb3 ?_)))
 refine ba9 (ba9 (wpAny_setEntries_of ha rfl hf (bb3 ?_)))
 refine ba9 ?_
 unfold setDrawn setsByText
 refine ba9 (bq9 ha rfl hf ?_)
 refine ba9 (ba9 (wpAny_askSetting (bb3 ?_)))
 refine bb3 ?_
 show wpAny _ _ (if (!w.params.followText "set-order" && (!t.plain && decide (es.size > 1)))=true then _ else _) _ _ _
 have fin:∀ (d1:Drawn) (sl:Nat->Nat) (O:List Value),O.Perm (es.toList.map (·.2))->sl 0=0->
   (∀ i x,O[i]? = some x->∀ (s:Shared) (Q:Option (Value × Nat)->Shared->Prop) (E:Value->Shared->Prop) (A:Around),s.heap.get? a=some (cV es ep t)->Q (some (x,sl (i+1))) s->wpAny (model prog w) A (setNext a (sl i) i ep) Q E s)->
   (∀ (s:Shared) (Q:Option (Value × Nat)->Shared->Prop) (E:Value->Shared->Prop) (A:Around),s.heap.get? a=some (cV es ep t)->Q none s->wpAny (model prog w) A (setNext a (sl es.size) es.size ep) Q E s)->
   Q (.ref s.heap.objs.size) { s with heap:=s.heap.push (gB (.int 0 0) 0 a es.size ep),drawn:=d1 }:=fun d1 sl O po s0 hn he=>
  h s.heap.objs.size _ d1 O [s.heap.objs.size,a] _ (fun b o e=>bb1 _ e) (bb6 _) (fun b hb=>by
   rcases bb8.mp hb with e | hb
   ·exact .inr (Nat.le_of_eq e.symm)
   ·exact .inl (bc1.mp hb)) po (aO3 (I:=s.heap.objs.size) hh (bi2 lt) hf O (by rw [po.length_eq,bb4,sz]) sl hn he) ⟨by rw [s0]; exact bb9 _ rfl,bb1 _ ha⟩
 have last:∀ q:Q (.ref s.heap.objs.size) { s with heap:=s.heap.push (gB (.int 0 0) 0 a es.size ep) },wpAny (model prog w) A.in1 (do
   let first <- pure (rawInt 0)
   (fun first=>do
    let e <- setEpoch a
    let o <- newFields "set_iterator" [first,rawInt 0,Value.ref a,rawInt es.size,rawInt e]
    ret o) first) (fun fin s'=>∃ v,fin = .done (.ret v)/\∃ T' r,s'.TypeIs v T'/\typeLookup (.type T') (Str.ofString "__next__")=pure (some r)/\Q v s') E s:=fun q=>by
  refine ba9 (bb3 ?_)
  refine ba9 (wpAny_setEpoch_of ha rfl hf ?_)
  exact ba9 (be8 (bb3 ⟨_,rfl,"set_iterator",_,⟨_,bb9 _ rfl,rfl⟩,hZ.lookup,q⟩))
 cases bt:w.params.followText "set-order" with
 | true=>
  rw [if_neg (by simp)]
  refine last (fin s.drawn (fun _=>0) ((pickOrder (w.params.setOrder a ep) es).toList.map (·.2)) ((X4 _ _).map _) rfl (fun i x hx s Q E A ha q=>W9 bt hf ha ?_) fun s Q E A ha q=>W9 bt hf ha ?_)
  ·rw [bc6,bg3] at hx
   cases hp:(pickOrder (w.params.setOrder a ep) es)[i]? with
   | none=>rw [hp] at hx; cases hx
   | some e=>rw [hp] at hx; cases hx; exact q
  ·have:=(X4 (w.params.setOrder a ep) es).length_eq
   rw [bd9,bd9] at this
   rw [bm9 (by omega)]; exact q
 | false=>
  have ps:t.place.size=es.size:=by
   unfold SetTable.fits at hf
   rw [bf0] at hf
   exact eq_of_beq hf.1
  cases pl:(!t.plain && decide (es.size > 1)) with
  | false=>
   rw [if_neg (by simp)]
   refine last (fin s.drawn (jZ t.place.toList) (es.toList.map (·.2)) (bo5 _) rfl (fun i x hx s Q E A ha q=>X0 bt hf tk pl ha ?_) fun s Q E A ha q=>X0 bt hf tk pl ha ?_)
   ·have il:i < es.size:=by
     have:=(bc5.mp hx).1
     rw [bb4,sz] at this; exact this
    rw [X5 tk.asc i (by omega),bg2 il,bg2 (by omega)]
    rw [bc6,bg3,bg2 il] at hx
    cases hx
    have e:jZ t.place.toList (i+1)=t.place[i]+1:=by
     show t.place.toList.getD i 0+1=_
     rw [bc0,bg3,bg2 (by omega)]; rfl
    rw [e] at q; exact q
   ·rw [X5 tk.asc es.size (by omega),bm9 (bb6 _)]; exact q
  | true=>
   rw [if_pos (by simp)]
   refine ba9 (X6 es.size (List.range es.size) s (by rw [bk9]; exact bb6 _) fun js d pj=>?_)
   have jl:js.length=es.size:=by rw [pj.length_eq,bk9]
   simp only [newTuple]
   refine ba9 (be8 ?_ (by show (List.map _ js).toArray.size<=sizeLine; rw [bb5,bb4,jl]; exact fits_of_scanBound hb))
   have ha1:=bb1 { cls:=.type "tuple",data:=.seq (js.map fun (i:Nat)=>rawInt i).toArray } ha
   refine ba9 (wpAny_setEpoch_of ha1 rfl hf ?_)
   refine ba9 (be8 (bb3 ⟨_,rfl,"set_iterator",_,⟨_,bb9 _ rfl,rfl⟩,hZ.lookup,?_⟩))
   have sp:(s.heap.push { cls:=.type "tuple",data:=.seq (js.map fun (i:Nat)=>rawInt i).toArray }).objs.size=s.heap.objs.size+1:=bl3 ..
   have hp1:=bb9 s.heap (o:={ cls:=.type "tuple",data:=.seq (js.map fun (i:Nat)=>rawInt i).toArray }) rfl
   have inn:∀ j ∈ js,j < es.size:=fun j hj=>bo3.mp (pj.mem_iff.mp hj)
   refine h _ _ d (js.map fun j=>(es.toList.map (·.2)).getD j .none) [_,a,s.heap.objs.size] _ (fun b o e=>bb1 _ (bb1 _ e)) (by show _<=(s.heap.push _).objs.size; rw [sp]; exact bq7 _) (fun b hb=>?_) ?_ (aO7 (p:=s.heap.objs.size) hh (by show (s.heap.push _).objs.size ≠ a; rw [sp]; exact bi2 (Nat.lt_succ_of_lt lt)) (by show (s.heap.push _).objs.size ≠ s.heap.objs.size; rw [sp]; exact Nat.succ_ne_self _) hf rfl jl inn) ⟨bb9 _ rfl,bb1 _ ha1,_,bb1 _ hp1,rfl,_,rfl⟩
   ·rcases bb8.mp hb with e | hb
    ·rw [e]; exact .inr (by show _<=(s.heap.push _).objs.size; rw [sp]; exact bq7 _)
    ·rcases bb8.mp hb with e | hb
     ·exact .inl e
     ·exact .inr (Nat.le_of_eq (bc1.mp hb).symm)
   ·refine (pj.map _).trans ?_
    have e:(List.range es.size).map (fun j=>(es.toList.map (·.2)).getD j .none)=es.toList.map (·.2):=by
     refine List.ext_getElem (by simp) fun i h1 h2=>?_
     simp at h1 h2 ⊢
     simp [h2]
    rw [e]
end
end Raw
namespace Raw
open PySem PySem.W PyProof.Rows
section
variable {prog : Program} {w : World} {A : Around} {E : Value → Shared → Prop} {s : Shared} {a : Addr} {es : Array (Int × Value)} {ep : Nat} {t : SetTable} {ms : List Int}
theorem aO9 {Q:Bool->Shared->Prop} (hT:s.TypeIs (.ref a) "set") (h:Q false s):wpAny (model prog w) A (Builtin.List.listLengthHint (.ref a)) Q E s:=by
 unfold Builtin.List.listLengthHint
 refine ba9 (wpAny_specialOf hT PySem.F.slot_set_len.lookup ?_)
 generalize hid:("set.__len__" : String)=id0
 wp_delta
 rw [show splitId id0=some ("set","__len__") from by subst hid; decide +kernel]
 subst hid
 refine ba9 (bp5 (T:="set") (b:=true) hT (by rw [isSubtype_type]; kernel_rfl) ?_)
 refine wpAny_ite_split (fun hab=>absurd hab (by decide)) (fun _=>?_)
 refine wpAny_ite_split (fun _=>?_) (fun hab=>absurd (by decide +kernel) hab)
 refine ba9 (wpAny_typeOf hT ?_)
 exact bb3 h
theorem aP0 {O:List Value}{acc:Array Value}{n:Nat} (h:ItemsOf (fun i v=>O[i]? = some v) acc n) (hn:O.length=n):acc.toList=O:=by
 refine List.ext_getElem (by rw [bd9,h.1,hn]) fun i h1 h2=>?_
 rw [bd9] at h1
 have this:O[i]? = some acc[i]:=h.2 i acc[i] (bg2 h1)
 rw [bb2 h2] at this
 rw [Array.getElem_toList]
 exact (be0 this).symm
theorem aP1 {R:Result->Shared->Prop} (hh:A.handled=none) (ha:s.heap.get? a=some (cV es ep t)) (ok:oE prog w es t ms) (S:Addr) (nSa:S ≠ a) (res:Value) (c0:Nat) (hS:s.heap.get? S=some { cls:=.type "list",data:=.seq #[] c0 })
  (hR:∀ h' tk d acc c,(∀ b o,b ≠ S->s.heap.get? b=some o->h'.get? b=some o)->h'.get? S=some { cls:=.type "list",dict:=none,data:=.seq acc c,slots:=#[] }->acc.toList.Perm (es.toList.map (·.2))->R (.ok (.ret res)) { s with heap:=h',toks:=tk,drawn:=d }) :
  wpAny (model prog w) A.in1 (Builtin.List.listExtendWith (.ref S) (.ref a) res)
   (fun fin s'=>match fin with | .done f=>R (.ok f) s' | .again c'=>c'.quiet=true/\codeAny (model prog w) A c' R s') (fun e s'=>R (.error e) s') s:=by
 have hT:s.TypeIs (.ref a) "set":=⟨_,ha,rfl⟩
 have lS:=bc7 hS
 have hn:es.size<=sizeLine:=fits_of_scanBound ok.2.2.1
 unfold Builtin.List.listExtendWith
 refine ba9 (wpAny_typeOf (T:="set") hT ?_)
 have e1:Builtin.List.listSameRef (.ref S) (.ref a)=false:=by simp [Builtin.List.listSameRef,nSa]
 simp only [e1,show (Value.type "set" == Value.type "list")=false by decide,show (Value.type "set" == Value.type "tuple")=false by decide,Bool.or_false,bd5,bh5]
 refine ba9 (aO8 (A:=A.in1) hh ha ok fun I h1 d1 O fp St kp lI fpo po W st=>?_)
 have nSf:S ∉ fp:=fun z=>(fpo S z).elim nSa fun z=>absurd (bd0 lS z) (bg0 _)
 have ol:O.length=es.size:=by rw [po.length_eq,bb4,bd9]
 have key:∀ (h:Heap) (c1 tk:Nat),St 0 h->(∀ b o,b ≠ S->s.heap.get? b=some o->h.get? b=some o)->h.get? S=some { cls:=.type "list",data:=.seq #[] c1 }->codeAny (model prog w) A (.builtin "list.extend.loop" ⟨[.ref S,.ref I,res],[]⟩) R { s with heap:=h,toks:=tk,drawn:=d1 }:=by
  intro h c1 tk hst hk hS1
  refine codeAny_extend_loopS W.toS hn S nSf res es.size 0 _ #[] c1 rfl (bf1 _) hst hS1 (ItemsOf.nil _) fun s' acc c hm hS' it=>?_
  rw [Moved.eq_with hm]
  refine hR s'.heap s'.toks d1 acc c (fun b o hb e=>hm.heap b o (fun z=>?_) (hk b o hb e)) hS' (by rw [aP0 it ol]; exact po)
  rcases bb8.mp z with z | z
  ·exact hb z
  ·rw [bc1.mp z] at e
   exact absurd (bd0 (bc7 e) lI) (bg0 _)
 have hS1:=kp _ _ hS
 refine ba9 (bj9 (aO9 ⟨_,kp _ _ ha,rfl⟩ ?_))
 refine wpAny_ite_split (fun _=>?_) (fun _=>bb3 ⟨plainId_quiet PySem.F.plain_extend_loop _,key _ c0 _ st (fun b o _ e=>kp _ _ e) hS1⟩)
 refine ba9 (bn7 ?_)
 refine ba9 ?_
 show wpAny _ _ (updateSeq S (·.push .none) >>= fun _=>updateSeq S (·.pop)) _ _ _
 refine ba9 (wpAny_updateSeq hS1 rfl ?_)
 have hS2:=bi3 (Obj.mapSeq (·.push Value.none)) hS1 rfl
 refine wpAny_updateSeq (hz:=by seq_fits) hS2 rfl ?_
 have hS3:=bi3 (Obj.mapSeq (·.pop)) hS2 rfl
 refine bb3 ⟨plainId_quiet PySem.F.plain_extend_loop _,key _ _ _ ?_ (fun b o hb e=>?_) hS3⟩
 ·refine W.frame 0 _ _ st fun b hb o e=>?_
  have hbS:b ≠ S:=fun z=>nSf (z ▸ hb)
  exact (bm7 _ _ (Ne.symm hbS)).trans ((bm7 _ _ (Ne.symm hbS)).trans e)
 ·exact (bm7 _ _ (Ne.symm hb)).trans ((bm7 _ _ (Ne.symm hb)).trans (kp _ _ e))
theorem aP2 {R:Result->Shared->Prop} (hh:A.handled=none) (ha:s.heap.get? a=some (cV es ep t)) (ok:oE prog w es t ms)
  (hR:∀ h' tk d acc c,(∀ b o,b ≠ s.heap.objs.size->(s.heap.push { cls:=.type "list",data:=.seq ([]:List Value).toArray }).get? b=some o->h'.get? b=some o)->h'.get? s.heap.objs.size=some { cls:=.type "list",dict:=none,data:=.seq acc c,slots:=#[] }->acc.toList.Perm (es.toList.map (·.2))->R (.ok (.ret (.ref s.heap.objs.size))) { s with heap:=h',toks:=tk,drawn:=d }) :
  codeAny (model prog w) A (.builtin "proto.collect" ⟨[.ref a],[]⟩) R s:=by
 refine codeAny_builtin PySem.F.entry_proto_collect ?_
 rw [Around.under_plainId PySem.F.plain_proto_collect _]
 show wpAny _ A.in1 (newList [] >>= fun l=>again (.builtin "list.__iadd__" ⟨[l,.ref a],[]⟩)) _ _ s
 refine ba9 (be8 ?_)
 refine bb3 ⟨plainId_quiet PySem.F.plain_list_iadd _,codeAny_builtin PySem.F.entry_list_iadd ?_⟩
 rw [Around.under_plainId PySem.F.plain_list_iadd _]
 show wpAny _ A.in1 (Builtin.List.listExtendWith (.ref s.heap.objs.size) (.ref a) (.ref s.heap.objs.size)) _ _ _
 exact aP1 (s:={ s with heap:=s.heap.push { cls:=.type "list",data:=.seq ([]:List Value).toArray } }) (R:=R) hh (bb1 _ ha) ok s.heap.objs.size (bi2 (bc7 ha)) _ 0 (bb9 _ rfl) hR
theorem xD {Q:Value->Shared->Prop} (hh:A.handled=none) (ha:s.heap.get? a=some (cV es ep t)) (ok:oE prog w es t ms) (hn:ms.length < 64)
  (h:∀ h' tk d l (out:Array Value) (ms':List Int) e,(∀ b o,s.heap.get? b=some o->h'.get? b=some o)->s.heap.objs.size<=l->h'.get? l=some (seqObj "list" out e)->IntsAre out.toList ms'->ms'.Perm ms->ms'.Pairwise (· <= ·)->Q (.ref l) { s with heap:=h',toks:=tk,drawn:=d }) :
  wpAny (model prog w) A (call (.builtin "sorted") [.ref a]) Q E s:=by
 refine bn4 kind_sorted plain_sorted entry_sorted (args_sorted1 _) ?_
 unfold Builtin.«sorted»
 refine ba9 (m:=checkCount "sorted" 1 1 _) (bb3 ?_)
 unfold collect
 refine ba9 (ba9 (wpAny_runValue (aP2 (s:=s) hh ha ok fun h' tk d acc c kp at1 pa=>?_)))
 show wpAny _ _ (load s.heap.objs.size >>= _) _ _ _
 refine ba9 (wpAny_load at1 ?_)
 refine bb3 ?_
 obtain ⟨ks,hi,pk⟩:=xC pa ok.2.1
 have hz:acc.toList.length < 64:=by rw [IntsAre.length hi,pk.length_eq]; exact hn
 refine ba9 (br1 ?_ (bf6 (bg6 hz) (by decide)))
 have hoL:(h'.push (seqObj "list" acc.toList.toArray 0)).get? h'.objs.size=some (seqObj "list" acc.toList.toArray 0):=bb9 _ rfl
 show wpAny _ _ _ _ _ { s with heap:=h'.push (seqObj "list" acc.toList.toArray 0),toks:=tk,drawn:=d }
 refine ba9 (bj9 (be5 slot_list_sort ⟨_,hoL,rfl⟩ entry_list_sort (list_sort_tree hoL hi hz fun out ns' a1 a2 a3=>⟨_,rfl,?_⟩) (args_list_sort _)))
 obtain ⟨e,he⟩:=sortedHeap_at (vs:=acc.toList) (out:=out) hoL
 have kq:∀ b o,s.heap.get? b=some o->h'.get? b=some o:=fun b o e=>kp b o (be3 (bc7 e)) (bb1 _ e)
 refine bb3 ⟨_,rfl,h _ tk d h'.objs.size out ns' e (fun b o hb=>?_) (bg6 (bc7 at1)) he a1 (a2.trans pk) a3⟩
 have lt:=bc7 (kq b o hb)
 rw [sortedHeap_old (be3 lt) (by rw [size_push']; exact Nat.lt_succ_of_lt lt)]
 exact bb1 _ (kq b o hb)
end
end Raw
namespace Core
open PySem L2 PP
theorem aP3 {n:Nat}{ks:List Int} (up:ks.Pairwise (· < ·)) (inn:∀ x ∈ ks,0<=x/\x < (n:Int)):bB n ks=true:=by
 have nd:ks.Nodup:=up.imp fun h=>Int.ne_of_lt h
 have:=nd.length_le_of_subset fun x hx=>bQ.mpr (inn x hx)
 rw [fO] at this
 have u:dX (n:Int) ks:=⟨up,inn,by omega⟩
 exact u.set
def aP4:bD:=fun xs Q=>∃ ws ls x os,xs = [bG ws ls,x]/\ws.length<=40/\cQ x os/\os.length < 64/\¬ os.Perm (rng ws.length)/\Q (.bl false)
def aP5:aP:=(bO (q2 (jT 2 false) (aB rG (a7 (a5 1) a9)) (o7 (aB jF (a7 (a5 0) a9)))))
theorem aP6:cU aP5 ["web","numbers"] aP4:=by
 rintro xs Q ⟨ws,ls,x,os,rfl,few,hx,lo,po,q⟩
 refine⟨_,rfl,_,os,rfl,hx.seq,lo,fun ms pm sm=>?_⟩
 refine⟨_,rfl,ws,ls,rfl,_,rfl,by omega,by omega,?_⟩
 rw [kQ]
 refine⟨.inr ⟨_,_,rfl,rfl⟩,J3 2 _ _,trivial,?_⟩
 show Q (.bl (c8 3 (.lst (intz ms)) (.lst (intz (rng ((ws.length:Int).toNat))))))
 rw [show ((ws.length:Int).toNat)=ws.length from rfl,J2,bb7 (fun z=>po (by rw [<- z]; exact pm.symm))]
 exact q
theorem aP7 {n k:Nat} (h:k < n):gT n (k:Int)=some k:=by
 unfold gT
 rw [if_pos (by omega),if_pos (by omega),bi1]
theorem aP8 (ps:List Int) (k:Nat) (v:Int):(intz ps).set k (.int v)=intz (ps.set k v):=by
 show (List.map PV.int ps).set k _=List.map PV.int _
 rw [List.map_set]
def uB (ws:List Int) (ls:List (Int × Int)) (ns R:List Int):Prop:=V6 ws ls ns R=true/\aK1 ws ls (ns ++ R)
end Core
namespace PP
open PySem L2
section
variable {X : Cx} {a b : Expr} {ta tb : aG} {pos : Pos}
def X7:PV->Tg->PV->Tg->PK->Prop:=fun x _ y _ Q=>∃ ns ms:List Int,x = .tup (intz ns)/\y = .tup (intz ms)/\Q (.bl (HT.bH ns ms)) .fr
theorem aP9:eJ X X7 (t9 X.K):=by
 rintro W Hs H u v x y g g' Q Q' s n r1 r2 ⟨ns,ms,rfl,rfl,q⟩ k
 obtain ⟨p1,us,rfl,h1,r1⟩:=r1.sqT
 obtain ⟨p2,vs,rfl,h2,r2⟩:=r2.sqT
 obtain rfl:=r1.ofInts
 obtain rfl:=r2.ofInts
 exact⟨p1,p2,ns,ms,rfl,rfl,aI.of h1,aI.of h2,k _ _ _ _ (aD.refl _) (.bl _) q⟩
end
end PP
namespace L2
open PySem PySem.Spec PyProof.Rows PP
section
variable {prog : Program} {w : World} {A : Around} {R : Result → Shared → Prop} {I S : Addr} {n : Nat} {l : Addr} {its : Array Value} {s0 : Shared} {bt : Nat → Nat → Bool}
abbrev at_ (s:Shared) (h:Heap) (k:Nat):Shared:={ s with heap:=h,toks:=k }
abbrev aQ0 (g h:Heap):Prop:=∀ b o,g.get? b=some o->h.get? b=some o
def cJ (prog:Program) (w:World) (A:Around) (s0:Shared) (its:Array Value) (bt:Nat->Nat->Bool):Prop:=
 ∀ (i j:Nat) (v u:Value) (h:Heap) (k:Nat) (Q E:Value->Shared->Prop),its[i]? = some v->its[j]? = some u->aQ0 s0.heap h->Q (.bool (bt i j)) (at_ s0 h k)->wpAny (model prog w) A (richCompare .Lt v u) Q E (at_ s0 h k)
end
end L2
namespace Core
open PySem L2 PP
def FB (L:List (List Int)) (f:List Int->Int) (r:List Int):Prop:=∃ i,L[i]? = some r/\(∀ (j:Nat) (s:List Int),j < i->L[j]? = some s->f s < f r)/\∀ s ∈ L,f s<=f r
end Core
namespace L2
open PySem PySem.Spec PyProof.Rows
section
variable {prog : Program} {w : World} {A : Around} {E : Value → Shared → Prop} {s : Shared} {l : Addr} {xs : Array (Int × Tok)}
theorem X8 {Q:Value->Shared->Prop} (hl:s.heap.IsTuple l (intItems xs))
  (h:∀ h2:Heap,(h2.IsTupleIter s.heap.objs.size l 0/\h2.IsTuple l (intItems xs))->(∀ b ∈ [s.heap.objs.size,l],b < h2.objs.size)->l ≠ s.heap.objs.size->(∀ b o,s.heap.get? b=some o->b ∉ [s.heap.objs.size]/\h2.get? b=some o)->Q (.ref s.heap.objs.size) { s with heap:=h2 }):wpAny (model prog w) A (pyIter (.ref l)) Q E s:=by
 have lb:l < s.heap.objs.size:=by obtain ⟨_,e,_⟩:=hl; exact bc7 e
 refine bn6 hl (h _ ⟨⟨_,bb9 _ rfl,rfl,rfl⟩,hl.push _⟩ (fun b hb=>?_) (be3 lb) fun b o e=>⟨fun hm=>?_,bb1 _ e⟩)
 ·rw [bl3]
  rcases bb8.mp hb with rfl | hb
  ·exact Nat.lt_succ_self _
  ·rw [bc1.mp hb]; exact Nat.lt_succ_of_lt lb
 ·rw [bc1.mp hm] at e
  exact absurd (bc7 e) (bg0 _)
theorem aQ1 {Q:Value->Shared->Prop} (hh:A.handled=none) (hl:s.heap.IsTuple l (intItems xs)) (hne:0 < xs.size)
  (h:∀ v h' tk,(intItems xs)[argBest (fun i j=>decide (numAt xs i > numAt xs j)) (xs.size - 1)]? = some v->(∀ b o,s.heap.get? b=some o->h'.get? b=some o)->Q v { s with heap:=h',toks:=tk }):wpAny (model prog w) A (call (.builtin "max") [.ref l]) Q E s:=by
 refine call_max_walk (X8 hl fun h2 st hfp ne old=>?_)
 exact⟨_,_,_,_,_,_,_,rfl,Walks.tuple (A:=A.in1) hh _ l ne (intItems xs),st,hfp,by simpa [intItems] using hne,CmpOf.ints_gt (numAt xs) (fun _ _=>intItems_at),fun v h' tk hP hk=>h v h' tk (by simpa [intItems] using hP) fun b o e=>hk b o (old b o e).1 (old b o e).2⟩
theorem aQ2 {Q:Value->Shared->Prop} (hh:A.handled=none) (hl:s.heap.IsTuple l (intItems xs)) (hne:0 < xs.size)
  (h:∀ v h' tk,(intItems xs)[argBest (fun i j=>decide (numAt xs i < numAt xs j)) (xs.size - 1)]? = some v->(∀ b o,s.heap.get? b=some o->h'.get? b=some o)->Q v { s with heap:=h',toks:=tk }):wpAny (model prog w) A (call (.builtin "min") [.ref l]) Q E s:=by
 refine call_min_walk (X8 hl fun h2 st hfp ne old=>?_)
 exact⟨_,_,_,_,_,_,_,rfl,Walks.tuple (A:=A.in1) hh _ l ne (intItems xs),st,hfp,by simpa [intItems] using hne,CmpOf.ints_lt (numAt xs) (fun _ _=>intItems_at),fun v h' tk hP hk=>h v h' tk (by simpa [intItems] using hP) fun b o e=>hk b o (old b o e).1 (old b o e).2⟩
end
section
variable {X : Cx}
theorem aQ3 (hc:X.calm=true):cP X (.builtin "max") (fun xs H Q=>∃ (a:Addr) (ns:List Int),xs = [.ref a]/\aI X.K H a (ns.map V.int)/\ns ≠ []/\∀ M:Int,M ∈ ns->(∀ x ∈ ns,x<=M)->Q (.int M) H):=by
 intro pins s σ H xs us Q I r h
 obtain ⟨a,ns,rfl,hq,ne,q⟩:=h
 obtain ⟨u,rfl,ru⟩:=fD r
 cases ru
 obtain ⟨its,rv,p,hz⟩:=I.tuple hq
 have ia:=iB rv
 obtain ⟨ys,ey⟩:=ia.allInts.items
 have en:ns=ys.toList.map (·.1):=by
  have e1:=nums_intItems ys
  rw [<- ey] at e1
  exact ia.numsOf.symm.trans e1
 have pos:0 < ys.size:=Nat.pos_of_ne_zero fun z=>ne (by rw [en,Array.eq_empty_of_size_eq_zero z]; rfl)
 have hl:s.heap.IsTuple a (intItems ys):=by rw [<- ey]; exact p
 refine aQ1 (I.ok.hd hc) hl pos fun v h' tk ev old=>?_
 obtain ⟨t,rfl⟩:=intItems_at ev
 have best:=argBest_gt (numAt ys) (ys.size - 1)
 have mem:∀ x:Int,x ∈ ns ↔ ∃ j,j < ys.size/\numAt ys j=x:=fun x=>by
  rw [en]
  constructor
  ·intro z
   obtain ⟨j,hj,e⟩:=mem_getD z
   exact⟨j,by simpa using hj,by rw [numAt_eq]; exact e⟩
  ·rintro ⟨j,hj,rfl⟩
   rw [numAt_eq]
   exact getD_mem (by simpa using hj)
 refine⟨.int _,H,I.kept (t':=tk) (h':=h') old,⟨t,rfl⟩,q _ ?_ fun x hx=>?_⟩
 ·exact (mem _).mpr ⟨_,by have:=best.1; omega,rfl⟩
 ·obtain ⟨j,hj,rfl⟩:=(mem x).mp hx
  exact best.2 j (by omega)
theorem aQ4 (hc:X.calm=true):cP X (.builtin "min") (fun xs H Q=>∃ (a:Addr) (ns:List Int),xs = [.ref a]/\aI X.K H a (ns.map V.int)/\ns ≠ []/\∀ M:Int,M ∈ ns->(∀ x ∈ ns,M<=x)->Q (.int M) H):=by
 intro pins s σ H xs us Q I r h
 obtain ⟨a,ns,rfl,hq,ne,q⟩:=h
 obtain ⟨u,rfl,ru⟩:=fD r
 cases ru
 obtain ⟨its,rv,p,hz⟩:=I.tuple hq
 have ia:=iB rv
 obtain ⟨ys,ey⟩:=ia.allInts.items
 have en:ns=ys.toList.map (·.1):=by
  have e1:=nums_intItems ys
  rw [<- ey] at e1
  exact ia.numsOf.symm.trans e1
 have pos:0 < ys.size:=Nat.pos_of_ne_zero fun z=>ne (by rw [en,Array.eq_empty_of_size_eq_zero z]; rfl)
 have hl:s.heap.IsTuple a (intItems ys):=by rw [<- ey]; exact p
 refine aQ2 (I.ok.hd hc) hl pos fun v h' tk ev old=>?_
 obtain ⟨t,rfl⟩:=intItems_at ev
 have best:=argBest_lt (numAt ys) (ys.size - 1)
 have mem:∀ x:Int,x ∈ ns ↔ ∃ j,j < ys.size/\numAt ys j=x:=fun x=>by
  rw [en]
  constructor
  ·intro z
   obtain ⟨j,hj,e⟩:=mem_getD z
   exact⟨j,by simpa using hj,by rw [numAt_eq]; exact e⟩
  ·rintro ⟨j,hj,rfl⟩
   rw [numAt_eq]
   exact getD_mem (by simpa using hj)
 refine⟨.int _,H,I.kept (t':=tk) (h':=h') old,⟨t,rfl⟩,q _ ?_ fun x hx=>?_⟩
 ·exact (mem _).mpr ⟨_,by have:=best.1; omega,rfl⟩
 ·obtain ⟨j,hj,rfl⟩:=(mem x).mp hx
  exact best.2 j (by omega)
end
end L2
namespace PP
open PySem L2
section
variable {X : Cx} {a b e : Expr} {ta tb : aG} {tr : cZ} {pos p2 : Pos}
def xE:List PV->(PV->Prop)->Prop:=fun xs Q=>∃ ns:List Int,xs = [.tup (intz ns)]/\ns ≠ []/\∀ M:Int,M ∈ ns->(∀ x ∈ ns,x<=M)->Q (.int M)
def xF:List PV->(PV->Prop)->Prop:=fun xs Q=>∃ ns:List Int,xs = [.tup (intz ns)]/\ns ≠ []/\∀ M:Int,M ∈ ns->(∀ x ∈ ns,M<=x)->Q (.int M)
theorem aQ5:eB X xE (fun xs H Q=>∃ (a:Addr) (ns:List Int),xs = [.ref a]/\aI X.K H a (ns.map V.int)/\ns ≠ []/\∀ M:Int,M ∈ ns->(∀ x ∈ ns,x<=M)->Q (.int M) H):=by
 rintro H vs xs Q Q' r ⟨ns,rfl,ne,q⟩ k
 obtain ⟨v,rfl,r1⟩:=r.one
 obtain ⟨a,us,rfl,h,r2⟩:=r1.sqT
 rw [r2.ofInts] at h
 exact⟨a,ns,rfl,aI.of h,ne,fun M m1 m2=>k _ _ _ (aD.refl _) (.int M) (q M m1 m2)⟩
theorem aQ6:eB X xF (fun xs H Q=>∃ (a:Addr) (ns:List Int),xs = [.ref a]/\aI X.K H a (ns.map V.int)/\ns ≠ []/\∀ M:Int,M ∈ ns->(∀ x ∈ ns,M<=x)->Q (.int M) H):=by
 rintro H vs xs Q Q' r ⟨ns,rfl,ne,q⟩ k
 obtain ⟨v,rfl,r1⟩:=r.one
 obtain ⟨a,us,rfl,h,r2⟩:=r1.sqT
 rw [r2.ofInts] at h
 exact⟨a,ns,rfl,aI.of h,ne,fun M m1 m2=>k _ _ _ (aD.refl _) (.int M) (q M m1 m2)⟩
theorem aQ7 (B:Bt X.mg) (hc:X.calm=true) (ha:QA X [e] tr) (hg:Gl X "max":=by rfl) (he:starEach [e] X.env=(false,eval e X.env) :: starEach [] X.env:=by rfl) (hpl:(backTo pos (starEach [] X.env)).any (·.1)=false:=by rfl):QE X (.Call (.Name "max" p2) [e] [] pos) (aB xE tr):=
 hG (aQ3 hc) aQ5 hg B.max PyProof.Rows.boot_max ha (he:=he) (hpl:=hpl)
theorem aQ8 (B:Bt X.mg) (hc:X.calm=true) (ha:QA X [e] tr) (hg:Gl X "min":=by rfl) (he:starEach [e] X.env=(false,eval e X.env) :: starEach [] X.env:=by rfl) (hpl:(backTo pos (starEach [] X.env)).any (·.1)=false:=by rfl):QE X (.Call (.Name "min" p2) [e] [] pos) (aB xF tr):=
 hG (aQ4 hc) aQ6 hg B.min PyProof.Rows.boot_min ha (he:=he) (hpl:=hpl)
def X9 (K:PySem.W.Frag):R2:=fun x y H Q=>i9 (fun i j=>.bl (decide (i < j))) x y H Q ∨ t9 K x y H Q
theorem aQ9 (hu:X.A.units < cLine):cK X (compareOp .Lt) (X9 X.K):=by
 intro pins s σ H x y v u Q I rx ry h
 rcases h with h | h
 ·exact sY pins s σ H x y v u Q I rx ry h
 ·exact al3 hu pins s σ H x y v u Q I rx ry h
def rU:PV->Tg->PV->Tg->PK->Prop:=fun x g y g' Q=>eW (fun i j=>.bl (decide (i < j))) x g y g' Q ∨ X7 x g y g' Q
theorem aR0:eJ X rU (X9 X.K):=by
 intro W Hs H u v x y g g' Q Q' s n r1 r2 h k
 rcases h with h | h
 ·exact .inl (lB W Hs H u v x y g g' Q Q' s n r1 r2 h k)
 ·exact .inr (aP9 W Hs H u v x y g g' Q Q' s n r1 r2 h k)
theorem aR1 (hu:X.A.units+1 < cLine) (ha:QE X a ta) (hb:QE X b tb):QE X (.Compare a [.Lt] [b] pos) (q2 rU ta tb):=nM (aQ9 (by omega)) aR0 ha hb (gQ _)
end
end PP
namespace L2
open PySem PySem.Spec PyProof.Rows
section
variable {X : Cx}
def Y0 (K:PySem.W.Frag) (ta:TA):TI:=fun σ H R=>ta σ H fun vs H1=>∃ a b,vs = [.ref a,.ref b]/\((∃ xs ys,aI K H1 a xs/\aI K H1 b ys/\R (uH K a b) H1) ∨ ∃ xs ys,aL K H1 a xs/\aL K H1 b ys/\R (uJ K a b) H1)
theorem aR2 {elts:List Expr}{kt:Nat}{pt:Pos}{a b:Expr}{ta:TA}{p pos:Pos} (hg:Gl X "zip") (hm:X.mg "zip" = none) (ha:PA X [a,b] ta) (hs:starEach [a,b] X.env = [(false,eval a X.env),(false,eval b X.env)]:=by rfl) (hs2:starEach [b] X.env = [(false,eval b X.env)]:=by rfl) :
  PI X (.Tuple elts kt pt) (.Call (.Name "zip" p) [a,b] [] pos) (Y0 X.K ta):=by
 intro pins s σ H R I h
 refine Call_ (k7 I hg hm PyProof.Rows.boot_zip (bk8 (aN (ha pos pins s σ H _ I h) fun us s1 ⟨vs,H1,I1,r1,q1⟩=>?_) (by rw [hs,hs2]) (by rw [hs2]; rfl)))
 obtain ⟨a',b',e,q1⟩:=q1
 subst e
 obtain ⟨u1,u2,rfl,r,r'⟩:=aJ.two r1
 cases r
 cases r'
 have fresh:∀ k,H1 (s1.heap.objs.size+k)=none:=fun k=>I1.hok.fresh (bn8 _ _)
 have fp:∀ c ∈ [s1.heap.objs.size+4,s1.heap.objs.size+2,s1.heap.objs.size+3,s1.heap.objs.size,s1.heap.objs.size+1],fS X pins H1 c:=fun c hc=>by
  simp only [bb8,bd3,bi0] at hc
  rcases hc with rfl | rfl | rfl | rfl | rfl
  ·exact I1.fpOk (bn8 _ _) (fresh 4)
  ·exact I1.fpOk (bn8 _ _) (fresh 2)
  ·exact I1.fpOk (bn8 _ _) (fresh 3)
  ·exact I1.fpOk (bb6 _) (fresh 0)
  ·exact I1.fpOk (bn8 _ _) (fresh 1)
 rcases q1 with ⟨xs,ys,h1,h2,q⟩ | ⟨xs,ys,h1,h2,q⟩
 ·obtain ⟨us,_,p1,_⟩:=I1.tuple h1
  obtain ⟨ws,_,p2,_⟩:=I1.tuple h2
  refine Zp.as0 p1 p2 fun h' z ti to s1' s2' kp=>wpAny_pyIter_zip z ?_
  exact⟨s1.heap.objs.size+4,[s1.heap.objs.size+4,s1.heap.objs.size+2,s1.heap.objs.size+3,s1.heap.objs.size,s1.heap.objs.size+1],_,_,H1,rfl,I1.kept (t':=s1.toks) kp,as3 a' b' _ _ _ _ _ (by simp),⟨z,ti,⟨_,_,to⟩,s1',s2'⟩,fp,q⟩
 ·obtain ⟨us,_,p1,_⟩:=I1.list h1
  obtain ⟨ws,_,p2,_⟩:=I1.list h2
  refine call_zip_2 p1.isList p2.isList fun h' z ti to s1' s2' _ kp=>wpAny_pyIter_zip z ?_
  exact⟨s1.heap.objs.size+4,[s1.heap.objs.size+4,s1.heap.objs.size+2,s1.heap.objs.size+3,s1.heap.objs.size,s1.heap.objs.size+1],_,_,H1,rfl,I1.kept (t':=s1.toks) kp,as9 a' b' _ _ _ _ _ (by simp),⟨z,ti,⟨_,_,to⟩,s1',s2'⟩,fp,q⟩
end
end L2
namespace PP
open PySem L2
theorem aR3 {K:PySem.W.Frag}{H0:Hp}{W:Addr->Prop}{g:Bool}{H1:Hp}{a b:Addr}{us vs:List V}{xs ys:List PV} (tw:∀ a,W a->∃ o,H1 a=some o/\fJ o=true) (ha:∀ W' H',Ev W H1 W' H'->aL K H' a us) (hb:∀ W' H',Ev W H1 W' H'->aL K H' b vs)
  (r:Reps K (Ms H0 W g) H1 us xs) (r':Reps K (Ms H0 W g) H1 vs ys):jQ K H0 W g H1 (uJ K a b) (iN xs ys):=by
 have lr:=r.length
 have lr':=r'.length
 have ll:=wY xs ys
 refine⟨fun W' H' i e hi=>⟨us,vs,us[i]'(by omega),vs[i]'(by omega),ha W' H' e,hb W' H' e,by simp,by simp⟩,fun W' H' i v H2 e y hi=>?_,fun W' H' e=>⟨us,vs,ha W' H' e,hb W' H' e,by omega⟩⟩
 obtain ⟨T,x,y',hT,rfl,rfl,y⟩:=y
 obtain ⟨h1,h2⟩:=y us vs (ha W' _ e) (hb W' _ e)
 obtain ⟨z,hz,rz⟩:=r.get h1
 obtain ⟨z',hz',rz'⟩:=r'.get h2
 have sm:=b9 hT (HO.tup [x,y'])
 exact⟨sm,_,U3 hz hz',.tup aW (.cons ((rz.keep (e.keep tw)).same sm fun _ q=>q) (.cons ((rz'.keep (e.keep tw)).same sm fun _ q=>q) .nil))⟩
section
variable {X : Cx} {σ : L2.St} {H : Hp} {ta tb : aG} {R : It → Hp → Prop}
def xG (ta tb:aG):eL:=fun ρ Q=>ta ρ fun x g0=>tb ρ fun y g=>∃ xs ys,((x = .tup xs/\y = .tup ys) ∨ (x = .lst xs/\y = .lst ys/\g0 ≠ .rd/\g ≠ .rd))/\flats xs=true/\flats ys=true/\Q (iN xs ys) true
theorem Y1 {K:PySem.W.Frag}{H0 Hs:Hp}{W:Addr->Prop}{σ:L2.St}{ρ:b7}{g:Tg}{b:Addr} (px:PX K H0 W σ ρ Hs) (ng:g ≠ .rd) (m:Mg H0 W Hs g b) : ¬ W b:=by
 cases g with
 | fr=>exact (px.new m).1
 | nw=>exact m.1
 | sh=>exact m
 | rd=>exact absurd rfl ng
theorem aR4 (h:LI X (xG ta tb) σ H R):Y0 X.K (gR (LE X ta) (gR (LE X tb) iT)) σ H R:=by
 obtain ⟨W,ρ,Q,px,q,k⟩:=h
 refine⟨W,ρ,_,px,q,fun v0 H0 x0 g0 s0 r0 q0=>⟨W,ρ,_,px.mono s0,q0,?_⟩⟩
 rintro v H1 x g s r ⟨xs,ys,c,fx,fy,q⟩
 have S:=s0.trans s
 have px1:=px.mono S
 have tw:∀ a,W a->∃ o,H1 a=some o/\fJ o=true:=fun a z=>(px1.wm a z).2
 rcases c with ⟨rfl,rfl⟩ | ⟨rfl,rfl,n0,n1⟩
 ·obtain ⟨a,us,rfl,h1,ra⟩:=(r0.same (M':=fun _=>True) s fun _ _=>trivial).sqT
  obtain ⟨b,vs,rfl,h2,rb⟩:=r.sqT
  have sta:∀ {c us},H1 c=some (.tup us)->∀ W' H',Ev W H1 W' H'->aI X.K H' c us:=fun {c us} hc W' H' e=>aI.of (e _ _ hc fun z=>by obtain ⟨o,h',mu⟩:=tw _ z; rw [hc] at h'; cases h'; cases mu).1
  exact⟨a,b,rfl,.inl ⟨us,vs,aI.of h1,aI.of h2,k _ _ _ _ S (aM3 tw (sta h1) (sta h2) (ra.flat fx) (rb.flat fy)) q⟩⟩
 ·obtain ⟨a,us,rfl,m0,h1,ra⟩:=(r0.same s fun _ z=>z).sqL
  obtain ⟨b,vs,rfl,m1,h2,rb⟩:=r.sqL
  have w0:=Y1 px n0 m0
  have w1:=Y1 (px.mono s0) n1 m1
  exact⟨a,b,rfl,.inr ⟨us,vs,aL.of h1,aL.of h2,k _ _ _ _ S (aR3 tw (fun W' H' e=>aL.of (e _ _ h1 w0).1) (fun W' H' e=>aL.of (e _ _ h2 w1).1) (ra.flat fx) (rb.flat fy)) q⟩⟩
theorem aR5 {elts:List Expr}{kt:Nat}{pt p2 pos:Pos}{a b:Expr} (B:Bt X.mg) (ha:QE X a ta) (hb:QE X b tb) (hg:Gl X "zip":=by rfl) (hs:starEach [a,b] X.env = [(false,eval a X.env),(false,eval b X.env)]:=by rfl) (hs2:starEach [b] X.env = [(false,eval b X.env)]:=by rfl):QI X (.Tuple elts kt pt) (.Call (.Name "zip" p2) [a,b] [] pos) (xG ta tb):=
 nL (aR2 hg B.zip (fE ha (fE hb fU hs2) (by rw [hs,hs2])) hs hs2) fun _ _ _=>aR4
end
end PP
namespace Core
open PySem L2 PP
theorem aR6 (xs:List PV):j9 xs (some 1) none=xs.drop 1:=by
 unfold j9
 have e1:HT.aT xs.length 0 (some 1)=min 1 xs.length:=by
  show (if (1:Int) < 0 then ((1:Int)+(xs.length:Int)).toNat else min (1:Int).toNat xs.length)=_
  rw [if_neg (by decide)]; rfl
 rw [e1]
 show (xs.drop (min 1 xs.length)).take (xs.length - min 1 xs.length)=_
 rw [bh8 (by rw [bm3]; exact bb6 _)]
 cases xs with
 | nil=>rfl
 | cons x xs=>rw [show min 1 (x :: xs).length=1 by simp]
def rV {α:Type} (lt:α->α->Bool) (A:List α):Bool:=((A.zip (A.drop 1)).map fun p=>lt p.1 p.2).all id
def m9:bD:=fun xs Q=>∃ x,xs = [x]/\((∃ ns,cQ x ns/\ns.length<=1000/\Q (.bl (gL ns))) ∨ ∃ ls:List (Int × Int),x = .lst (bE ls)/\ls.length<=4096/\∀ b:Bool,(b=true ↔ ls.Pairwise eR)->Q (.bl b))
def xH:aP:=(bO (aB nE (a7 (dI (xG (a5 0) (qA (a5 0) (pY (qC (.int 1))) pX)) [none,none] (iF 0 1) dC (q2 rU (a5 0) (a5 1))) a9)))
theorem Y2 {α:Type} (f:α->PV) (lt:α->α->Bool) (fl:∀ a,flat (f a)=true) (hlt:∀ (a b:α) (g g':Tg) (K:PK),K (.bl (lt a b)) .fr->rU (f a) g (f b) g' K) (A:List α) (la:A.length<=10000) (x:PV) (hx:x = .tup (A.map f) ∨ x = .lst (A.map f)) {Q:PV->Prop} (q:Q (.bl (rV lt A))) :
  xH { nx:=fun _=>Q .non,rt:=Q } [some (.sh (flat x) x)]:=by
 have fls:∀ B:List α,flats (B.map f)=true:=fun B=>by
  induction B with
  | nil=>rfl
  | cons b B ih=>show (flat (f b) && flats (B.map f))=true; rw [fl,ih]; rfl
 have sx:seqT x=some (A.map f):=by rcases hx with rfl | rfl <;> rfl
 have cut:j9 (A.map f) (some 1) none=(A.drop 1).map f:=by rw [aR6,List.map_drop]
 refine⟨_,rfl,_,rfl,_,rfl,_,sx,fls A,?_⟩
 rw [cut]
 refine⟨A.map f,(A.drop 1).map f,?_,fls A,fls _,?_⟩
 ·rcases hx with rfl | rfl
  ·exact .inl ⟨rfl,rfl⟩
  ·refine .inr ⟨rfl,rfl,?_,fun z=>by cases z⟩
   cases flat (.lst (A.map f)) <;> intro z <;> cases z
 have zl:(iN (A.map f) ((A.drop 1).map f)).length=A.length - 1:=by rw [wY,bb4,bb4,bm3]; omega
 refine⟨by rw [zl]; omega,fun i acc=>acc=V5 (((A.zip (A.drop 1)).take i).map fun p=>lt p.1 p.2),rfl,?_,?_⟩
 ·rintro i y acc hy rfl
  obtain ⟨u,v,h1,h2,rfl⟩:=aM2 hy
  rw [bc6] at h1 h2
  cases ha:A[i]? with
  | none=>rw [ha] at h1; cases h1
  | some a=>
   cases hb:(A.drop 1)[i]? with
   | none=>rw [hb] at h2; cases h2
   | some b=>
    rw [ha] at h1
    rw [hb] at h2
    cases h1
    cases h2
    have hz:(A.zip (A.drop 1))[i]? = some (a,b):=List.getElem?_zip_eq_some.mpr ⟨ha,hb⟩
    refine⟨_,_,rfl,_,rfl,_,rfl,hlt a b _ _ _ ⟨trivial,?_⟩⟩
    dsimp only
    rw [bi9,hz,bd7]
    unfold V5
    rw [bd7]; rfl
 ·rintro acc rfl
  rw [bh8 (by rw [zl,List.length_zip,bm3]; omega)]
  exact⟨_,rfl,trivial,q⟩
theorem aR7 (ls:List (Int × Int)):rV (fun a b=>HT.bH [a.1,a.2] [b.1,b.2]) ls=true ↔ ls.Pairwise eR:=by
 have lt2:∀ a b:Int × Int,HT.bH [a.1,a.2] [b.1,b.2]=true ↔ eR a b:=fun a b=>by
  unfold eR
  rw [HT.iA,HT.iA,HT.t8]
  by_cases h1:a.1=b.1
  ·rw [if_pos h1]
   by_cases h2:a.2=b.2
   ·rw [if_pos h2]
    exact⟨fun z=>(by cases z),fun z=>(by omega)⟩
   ·rw [if_neg h2,bf5]; omega
  ·rw [if_neg h1,bf5]; omega
 induction ls with
 | nil=>exact⟨fun _=>.nil,fun _=>rfl⟩
 | cons a r ih=>
  cases r with
  | nil=>exact⟨fun _=>bg1 _ _,fun _=>rfl⟩
  | cons b r=>
   have e:rV (fun a b:Int × Int=>HT.bH [a.1,a.2] [b.1,b.2]) (a :: b :: r)=(HT.bH [a.1,a.2] [b.1,b.2] && rV (fun a b:Int × Int=>HT.bH [a.1,a.2] [b.1,b.2]) (b :: r)):=rfl
   rw [e,bf0,lt2,List.pairwise_cons]
   refine⟨fun ⟨h1,h2⟩=>⟨fun c hc=>?_,ih.mp h2⟩,fun ⟨h1,h2⟩=>⟨h1 b bc2,ih.mpr h2⟩⟩
   rcases bb8.mp hc with rfl | hc
   ·exact h1
   ·have:=(List.pairwise_cons.mp (ih.mp h2)).1 c hc
    unfold eR at *; omega
theorem aR8:cU xH ["things"] m9:=by
 rintro xs Q ⟨x,rfl,⟨ns,hx,hl,q⟩ | ⟨ls,rfl,hl,q⟩⟩
 ·exact Y2 PV.int (fun a b=>decide (a < b)) (fun _=>rfl) (fun a b g g' K h=>.inl ⟨_,_,rfl,rfl,h⟩) ns (by omega) x hx q
 ·exact Y2 (fun l:Int × Int=>PV.tup [.int l.1,.int l.2]) (fun a b=>HT.bH [a.1,a.2] [b.1,b.2]) (fun _=>rfl) (fun a b g g' K h=>.inr ⟨_,_,rfl,rfl,h⟩) ls (by omega) _ (.inr rfl) (q _ (aR7 ls))
abbrev xI:bD:=wB
def Y3:aP:=(bO (lC (aB m9 (a7 (a5 1) a9)) (aB nE (a7 (dI (eC (a5 1)) [none,some 0] (bS 0) dC (aB nZ (a7 (a5 1) (a7 (a5 0) a9)))) a9))))
theorem aR9:cU Y3 ["web","numbers"] xI:=by
 intro xs Q h
 have h2:=aD9 xs Q h
 obtain ⟨m,e,x,ns,r1,r2,r3,r4⟩:=h2
 exact⟨m,e,x,r1,.inl ⟨ns,r2,r3,r4⟩⟩
def fP (l:Int × Int):Int × Int:=(min l.1 l.2,max l.1 l.2)
def rW:bD:=fun xs Q=>∃ (n:Nat) (l:Int × Int),xs = [.int n,.tup [.int l.1,.int l.2]]/\0<=l.1/\l.1 < (n:Int)/\0<=l.2/\l.2 < (n:Int)/\l.1 ≠ l.2/\Q (.tup [.int (fP l).1,.int (fP l).2])
def Y4:aP:=(aK (aY 2 (aB xF (a7 (a5 1) a9)))
 (aK (aY 3 (aB xE (a7 (a5 1) a9)))
 (aK (dB (pM (bC (lN (a5 2) (qC (.int 0)))) (bC (vA (a5 3) (a5 0)))) lO dA)
 (aK (dB (bC (jU (a5 2) (a5 3))) lO dA)
 (bO (eY (a7 (a5 2) (a7 (a5 3) a9))))))))
theorem aS0:cU Y4 ["many","link","one","other"] rW:=by
 rintro xs Q ⟨n,l,rfl,a0,a1,b0,b1,ne,q⟩
 refine⟨_,rfl,[l.1,l.2],rfl,(fun z=>by cases z),fun m m1 m2=>⟨trivial,?_⟩⟩
 refine⟨_,rfl,[l.1,l.2],rfl,(fun z=>by cases z),fun M M1 M2=>⟨trivial,?_⟩⟩
 have hm:m=(fP l).1:=by
  have h1:=m2 l.1 (by simp)
  have h2:=m2 l.2 (by simp)
  show m=min l.1 l.2
  rcases bb8.mp m1 with z | z
  ·omega
  ·have:=bc1.mp z; omega
 have hM:M=(fP l).2:=by
  have h1:=M2 l.1 (by simp)
  have h2:=M2 l.2 (by simp)
  show M=max l.1 l.2
  rcases bb8.mp M1 with z | z
  ·omega
  ·have:=bc1.mp z; omega
 have e1:(fP l).1=min l.1 l.2:=rfl
 have e2:(fP l).2=max l.1 l.2:=rfl
 subst hm hM
 refine⟨_,rfl,_,_,rfl,rfl,_,rfl,?_⟩
 dsimp only
 rw [bb7 (by omega)]
 refine b6 ⟨_,rfl,_,rfl,_,_,rfl,rfl,_,rfl,?_⟩
 dsimp only
 rw [bb7 (by omega)]
 refine b6 ⟨_,rfl,_,rfl,.inl ⟨_,_,rfl,rfl,_,rfl,?_⟩⟩
 show if decide ((fP l).1=(fP l).2)=true then _ else _
 rw [bb7 (by omega)]
 exact b6 ⟨_,rfl,_,rfl,by show 2<=1000; decide,rfl,trivial,q⟩
def rX:bD:=fun xs Q=>∃ x y ws ls,xs = [x,y]/\cQ x ws/\ws.length<=40/\(∀ w ∈ ws,0<=w/\w<=60)/\(y = .tup (bE ls) ∨ y = .lst (bE ls))/\ls.length<=1700/\(∀ l ∈ ls,0<=l.1/\l.1 < (ws.length:Int)/\0<=l.2/\l.2 < (ws.length:Int)/\l.1 ≠ l.2)/\(ls.map fP).Nodup/\∀ ls',ls'.Perm (ls.map fP)->WL (ws.length:Int) ws ls'->Q (bG ws ls')
def Y5:aP:=(aK (dB (bC (qD (aB eZ (a7 (a5 0) a9)) (qC (.int 40)))) lO dA)
 (aK (dH (eC (a5 0)) (bS 2)
  (dB (pM (bC (lN (a5 2) (qC (.int 0)))) (bC (qD (a5 2) (qC (.int 60))))) lO dA))
 (aK (aY 3 (aB x6 (a7 (dI (eC (a5 1)) [none,some 0] (bS 0) dC (aB rW (a7 (aB eZ (a7 (a5 1) a9)) (a7 (a5 0) a9)))) a9)))
 (aK (dB (nC (bC (aB m9 (a7 (a5 3) a9)))) lO dA)
 (bO (eY (a7 (aB dG (a7 (a5 0) a9)) (a7 (aB dG (a7 (a5 3) a9)) a9))))))))
theorem aS1:cU Y5 ["wants","links","want","pairs"] rX:=by
 rintro xs Q ⟨x,y,ws,ls,rfl,hx,few,hw,hy,l17,inn,nd,q⟩
 have sy:gX y=some (bE ls):=by rcases hy with rfl | rfl <;> rfl
 have fy:flats (bE ls)=true:=hV ls
 have pl:(bE ls).length=ls.length:=bb4 _
 refine⟨_,rfl,_,_,rfl,hx.len,_,_,rfl,rfl,_,rfl,?_⟩
 dsimp only
 rw [bb7 (by omega)]
 refine b6 ?_
 refine⟨_,rfl,_,hx.seq,o0 hx,fun i ρ=>∃ y2,ρ = [some (.sh (flat x) x),some (.sh (flat y) y),y2,none],⟨none,rfl⟩,?_,?_⟩
 ·rintro i z ρ hz ⟨y2,rfl⟩
  obtain ⟨n,rfl,hn⟩:=hJ hz
  have:=hw n (bg9 hn)
  refine aK8 ?_
  refine⟨_,rfl,_,_,rfl,rfl,_,rfl,?_⟩
  dsimp only
  rw [bb7 (by omega)]
  refine b6 ⟨_,rfl,_,_,rfl,rfl,_,rfl,?_⟩
  dsimp only
  rw [bb7 (by omega)]
  exact b6 ⟨_,rfl⟩
 rintro ρ ⟨y2,rfl⟩
 refine⟨_,rfl,_,sy,(fun z=>?_),by rw [pl]; omega,fun i acc=>acc=bE ((ls.take i).map fP),rfl,?_,?_⟩
 ·cases h:flat y with
  | true=>exact h
  | false=>rw [h] at z; cases z
 ·rintro i z acc hz rfl
  obtain ⟨l,rfl,hl⟩:=wI hz
  obtain ⟨a0,a1,b0,b1,ne⟩:=inn l (bg9 hl)
  refine⟨_,rfl,_,_,rfl,hx.len,_,rfl,ws.length,l,rfl,a0,a1,b0,b1,ne,trivial,?_⟩
  dsimp only
  rw [bi9,hl,bd7]
  unfold bE
  rw [bd7]; rfl
 rintro acc rfl
 rw [pl,bj8]
 refine⟨(ls.map fP).map two,by rw [lY]; rfl,by rw [bb4,bb4]; omega,fun r hr=>by obtain ⟨l,_,rfl⟩:=bd1.mp hr; rfl,fun Z pz so=>⟨trivial,?_⟩⟩
 obtain ⟨ls',rfl,pp⟩:=wO pz
 have wl:WL (ws.length:Int) ws ls':=WL.perm rfl (fun l hl=>by
  obtain ⟨m,hm,rfl⟩:=bd1.mp hl
  obtain ⟨a0,a1,b0,b1,ne⟩:=inn m hm
  show 0<=min m.1 m.2/\min m.1 m.2 < max m.1 m.2/\max m.1 m.2 < (ws.length:Int)
  omega) (by rw [bb4]; exact l17) nd (fun w h=>(hw w h).1) pp so
 have ll:=pp.length_eq
 rw [bb4] at ll
 rw [show ((ls'.map two).map fun r=>PV.tup (intz r))=bE ls' from (lY ls').symm]
 refine⟨_,rfl,_,rfl,.inr ⟨ls',rfl,by omega,fun b hb=>?_⟩⟩
 refine⟨_,rfl,?_⟩
 rw [hb.mpr wl.ord]
 refine b6 ?_
 refine⟨_,rfl,⟨_,_,rfl,hx.seqT,cE _,?_⟩,hx.noscr⟩
 refine⟨_,rfl,⟨_,_,rfl,rfl,hV _,?_⟩,fun _ z=>by cases z⟩
 exact⟨by show 2<=1000; decide,rB ws ls',trivial,q ls' pp wl⟩
structure WD (n:Int) (ws:List Int) (ls:List (Int × Int)):Prop where
 many:(ws.length:Int)=n
 inn:∀ l ∈ ls,0<=l.1/\l.1 < l.2/\l.2 < n
 most:ls.length<=1700
 ord:ls.Pairwise eR
 pos:∀ w ∈ ws,0<=w/\w<=60
theorem WD.perm {n:Int}{ws:List Int}{ls ls':List (Int × Int)} (h1:(ws.length:Int)=n) (h2:∀ l ∈ ls,0<=l.1/\l.1 < l.2/\l.2 < n) (h3:ls.length<=1700) (nd:ls.Nodup) (h4:∀ w ∈ ws,0<=w/\w<=60) (p:ls'.Perm ls) (so:(ls'.map two).Pairwise fun u v=>HT.bH v u=false):WD n ws ls':=
 ⟨h1,fun l hl=>h2 l (p.mem_iff.mp hl),by rw [p.length_eq]; exact h3,S3 so (p.nodup_iff.mpr nd),h4⟩
theorem WD.wl {n:Int}{ws:List Int}{ls:List (Int × Int)} (h:WD n ws ls):WL n ws ls:=⟨h.many,h.inn,h.most,h.ord,fun w hw=>(h.pos w hw).1⟩
def rY:bD:=fun xs Q=>∃ c d n m:Int,xs = [.int c,.int d,.int n,.int m]/\0<=n/\n<=8/\0 < m/\m<=61/\∀ ws ls,WD n ws ls->Q (bG ws ls)
abbrev Y6:aP:=aE9
theorem aS2 : cU Y6 ["wants_cell", "links_cell", "many", "most", "wants", "k", "links", "one", "other"] rY := by
  rintro xs Q ⟨c, d, n, m, rfl, n0, n1, m0, m1, q⟩
  refine ⟨by decide, rfl, rfl, rfl, ?_⟩
  refine ⟨_, rfl, n, rfl, by omega, by omega, fun i ρ => ∃ (c' : Int) (y : Option Slot) (ws : List Int), ρ = [si c', si d, si n, si m, some (.own (.lst (intz ws))), y, none, none, none] /\ ws.length = i /\ ∀ w ∈ ws, 0 <= w /\ w <= 60, ⟨c, none, [], rfl, rfl, fun _ h => nomatch h⟩, ?_, ?_⟩
  · rintro i y ρ hy ⟨c', y0, ws, rfl, hl, hp⟩
    obtain ⟨rfl, hi⟩ := iH hy
    refine ⟨_, rfl, _, rfl, _, rfl, _, _, rfl, rfl, m0, trivial, by rw [bA]; omega, ?_⟩
    refine ⟨_, rfl, _, rfl, _, _, rfl, rfl, ⟨m0, by omega⟩, trivial, ?_⟩
    refine ⟨c' / m, si (0 + (i : Int)), ws ++ [c' % m], ?_, by rw [bc4, hl]; rfl, fun w hw => ?_⟩
    · rw [gM]; rfl
    · rcases be1.mp hw with hw | hw
      · exact hp w hw
      · rw [bc1.mp hw]; exact ⟨bj5 _ (by omega), by have := bh3 c' m0; omega⟩
  rintro ρ ⟨c', y0, ws, rfl, hl, hp⟩
  rw [eD] at hl
  refine ⟨by decide, rfl, rfl, rfl, ?_⟩
  refine ⟨_, rfl, n, rfl, by omega, by omega, fun i ρ => ∃ (d' : Int) (y z : Option Slot) (ls : List (Int × Int)), ρ = [si c', si d', si n, si m, some (.own (.lst (intz ws))), y0, some (.own (.lst (bE ls))), y, z] /\ iM n ls i 0 /\ ls.length <= i * 7, ⟨d, none, none, [], rfl, ⟨(fun _ h => nomatch h), .nil, (fun _ h => nomatch h)⟩, bf1 _⟩, ?_, ?_⟩
  · rintro i y ρ hy ⟨d', y1, z, ls, rfl, hin, hll⟩
    obtain ⟨rfl, hi⟩ := iH hy
    refine ⟨_, rfl, _, _, rfl, rfl, _, rfl, _, _, rfl, rfl, by omega, fun j ρ => ∃ (d' : Int) (z : Option Slot) (ls : List (Int × Int)), ρ = [si c', si d', si n, si m, some (.own (.lst (intz ws))), y0, some (.own (.lst (bE ls))), si (0 + (i : Int)), z] /\ iM n ls i (i + 1 + j) /\ ls.length <= i * 7 + j, ⟨d', z, ls, rfl, hin.mono (.inr ⟨rfl, by omega⟩), by omega⟩, ?_, ?_⟩
    · rintro j y ρ hy ⟨d2, z2, ls2, rfl, hin2, hl2⟩
      obtain ⟨rfl, hj⟩ := iH hy
      refine ⟨_, rfl, _, _, rfl, rfl, (by show (0 : Int) < 2; decide), .inl ⟨_, _, rfl, rfl, _, rfl, ?_⟩⟩
      have tail : ∀ ls3 : List (Int × Int), iM n ls3 i (i + 1 + (j + 1 : Nat)) -> ls3.length <= i * 7 + (j + 1) -> (aY 1 (dD (a5 1) (qC (.int 2)))) { nx := fun ρ => ∃ (d' : Int) (z : Option Slot) (ls : List (Int × Int)), ρ = [si c', si d', si n, si m, some (.own (.lst (intz ws))), y0, some (.own (.lst (bE ls))), si (0 + (i : Int)), z] /\ iM n ls i (i + 1 + (j + 1 : Nat)) /\ ls.length <= i * 7 + (j + 1), rt := Q }
          [si c', si d2, si n, si m, some (.own (.lst (intz ws))), y0, some (.own (.lst (bE ls3))), si (0 + (i : Int)), si (0 + (i : Int) + 1 + (j : Int))] := fun ls3 h3 h4 =>
        ⟨_, rfl, _, _, rfl, rfl, ⟨by decide, by decide⟩, trivial, _, _, ls3, rfl, h3, h4⟩
      by_cases h : d2 % 2 = 1
      · show if decide (d2 % 2 = 1) = true then _ else _
        rw [bc9 h]
        refine bV ⟨_, rfl, _, rfl, _, rfl, by show 2 <= 1000; decide, rfl, trivial, by rw [R4]; omega, ?_⟩
        have ad := hin2.add (by omega)
        have := tail (ls2 ++ [((i : Int), (i : Int) + 1 + (j : Int))]) (by have e : (i : Int) + 1 + ((j + 1 : Nat) : Int) = (i : Int) + 1 + (j : Int) + 1 := by omega
                                                                           rw [e]; exact ad) (by rw [bc4, bk7]; omega)
        unfold bE at this
        rw [bd7] at this
        rw [show (0 : Int) + (i : Int) = (i : Int) by omega] at this ⊢
        exact this
      · show if decide (d2 % 2 = 1) = true then _ else _
        rw [bb7 h]
        exact b6 (tail ls2 (hin2.mono (.inr ⟨rfl, by omega⟩)) (by omega))
    · rintro ρ ⟨d2, z2, ls2, rfl, hin2, hl2⟩
      rw [eD] at hl2
      exact ⟨d2, _, z2, ls2, rfl, hin2.mono (.inl (by omega)), by omega⟩
  rintro ρ ⟨d', y1, z, ls, rfl, hin, hll⟩
  rw [eD] at hll
  refine ⟨_, rfl, ⟨_, _, rfl, rfl, cE _, _, rfl, ⟨_, _, rfl, rfl, hV _, by show 2 <= 1000; decide, ?_, trivial, q ws ls ⟨by omega, hin.inn, by omega, hin.ord, hp⟩⟩, fun ns z => by cases z⟩, fun ns z => by cases z⟩
  show (flat (.tup (intz ws)) && (flat (.tup (bE ls)) && true)) = true
  rw [wA]
  show (true && (flats (bE ls) && true)) = true
  rw [show flats (bE ls) = true from hV ls]; rfl
def aS3:bD:=fun xs Q=>∃ x ns n wy,xs = [x,.int n,.int wy]/\iL x ns/\ns.length<=63/\0<=n/\n<=40/\∀ ws ls,WD n ws ls->Q (bG ws ls)
def xJ:aP:=(aK (dB (nB (bC (jU (bM (dD (a5 2) (qC (.int 4))) (qC (.int 2))) (qC (.int 1)))) (bC (lN (a5 1) (qC (.int 9))))) (bO (aB rY (a7 (aB g9 (a7 (a5 0) (a7 (qC (.int 0)) a9))) (a7 (aB g9 (a7 (a5 0) (a7 (qC (.int 1)) a9))) (a7 (a5 1) (a7 (cB (gG (a7 (qC (.int 4)) (a7 (qC (.int 3)) (a7 (qC (.int 6)) (a7 (qC (.int 61)) a9))))) (bM (a5 2) (qC (.int 4)))) a9)))))) dA)
 S5)
theorem aS4 {x:PV}{ns:List Int}{n wy:Int}{Q:PV->Prop} (hx:iL x ns) (hns:ns.length<=63) (n0:0<=n) (n1:n<=40) (q:∀ ws ls,WD n ws ls->Q (bG ws ls)):xJ { nx:=fun _=>Q .non,rt:=Q } [some (.sh (flat x) x),si n,si wy,none,none,none,none,none,none]:=by
 have d4:(0:Int) < 4:=by decide
 have last:S5 { nx:=fun _=>Q .non,rt:=Q } [some (.sh (flat x) x),si n,si wy,none,none,none,none,none,none]:=by
  refine⟨by decide,rfl,rfl,rfl,?_⟩
  refine⟨_,rfl,n,rfl,by omega,by omega,fun i ρ=>∃ (y z:Option Slot) (ws:List Int),ρ = [some (.sh (flat x) x),si n,si wy,some (.own (.lst (intz ws))),y,z,none,none,none]/\ws.length=i/\∀ w ∈ ws,0<=w/\w<=60,⟨none,none,[],rfl,rfl,fun _ h=>nomatch h⟩,?_,?_⟩
  ·rintro i y ρ hy ⟨y0,z0,ws,rfl,hl,hp⟩
   obtain ⟨rfl,hi⟩:=iH hy
   refine⟨_,rfl,_,rfl,x,ns,_,rfl,hx,by omega,trivial,?_⟩
   generalize ns.getD ((0:Int)+(i:Int)).toNat 0=cell
   obtain ⟨z,hz,hzz⟩:=S6 (a:=cell / 5 % 4) (b:=cell / 5 % 3) (c:=cell / 5 % 6) (d:=cell / 5 % 61) (i:=wy % 4) (bj5 _ (by decide)) (bh3 _ d4)
   refine⟨_,rfl,_,rfl,_,_,rfl,rfl,⟨by decide,by decide⟩,_,_,rfl,rfl,d4,_,rfl,_,_,rfl,rfl,⟨by decide,by decide⟩,_,_,rfl,rfl,(by show (0:Int) < 3; decide),_,rfl,_,_,rfl,rfl,⟨by decide,by decide⟩,_,_,rfl,rfl,(by show (0:Int) < 6; decide),_,rfl,_,_,rfl,rfl,⟨by decide,by decide⟩,_,_,rfl,rfl,(by show (0:Int) < 61; decide),by show 4<=1000; decide,rfl,_,rfl,_,_,rfl,rfl,d4,_,_,_,rfl,rfl,hz,o8 _ _,by rw [bA]; omega,?_⟩
   refine⟨si (0+(i:Int)),si cell,ws ++ [z],?_,by rw [bc4,hl]; rfl,fun w hw=>?_⟩
   ·rw [gM]; rfl
   ·rcases be1.mp hw with hw | hw
    ·exact hp w hw
    ·rw [bc1.mp hw]
     rcases hzz with e | e | e | e <;> rw [e] <;> omega
  rintro ρ ⟨y0,z0,ws,rfl,hl,hp⟩
  rw [eD] at hl
  refine⟨rfl,rfl,?_⟩
  refine⟨_,rfl,_,hx.seq,aH3 hx,fun i ρ=>∃ (y z u:Option Slot) (ps:List (List aA × PV)),ρ = [some (.sh (flat x) x),si n,si wy,some (.own (.lst (intz ws))),y0,y,some (.own (.dT ps)),z,u]/\DL n ps i,⟨z0,none,none,[],rfl,⟨(fun _ h=>nomatch h),bb6 _,rfl,.nil⟩⟩,?_,?_⟩
  ·rintro i y ρ hy ⟨y1,z1,u1,ps,rfl,dl⟩
   obtain ⟨cell,rfl,hc⟩:=hJ hy
   have hi:i < ns.length:=(bc5.mp hc).1
   generalize lF _ _=gg
   have dl1:DL n ps (i+1):=⟨dl.key,Nat.le_succ_of_le dl.len,dl.fl,dl.nd⟩
   refine⟨_,rfl,_,_,rfl,rfl,_,rfl,?_⟩
   by_cases h1:(1:Int) < n
   ·dsimp only
    rw [bc9 h1]
    have np:(0:Int) < n:=by omega
    refine bV ⟨_,rfl,_,rfl,_,_,rfl,rfl,np,trivial,?_⟩
    refine⟨_,rfl,_,_,rfl,rfl,(by show (0:Int) < 1000000007; decide),_,_,rfl,rfl,.inr ⟨by decide,by decide⟩,_,_,rfl,rfl,(by show (0:Int) < 2147483647; decide),_,_,rfl,rfl,⟨by decide,by decide⟩,_,rfl,_,_,rfl,rfl,np,trivial,?_⟩
    dsimp only
    generalize hone:cell % n=one
    generalize hoth:cell % 1000000007 * 48271 % 2147483647 / 89 % n=oth
    have o1:0<=one/\one < n:=by rw [<- hone]; exact⟨bj5 _ (by omega),bh3 _ np⟩
    have o2:0<=oth/\oth < n:=by rw [<- hoth]; exact⟨bj5 _ (by omega),bh3 _ np⟩
    refine⟨_,rfl,_,rfl,.inl ⟨_,_,rfl,rfl,_,rfl,?_⟩⟩
    by_cases h2:one=oth
    ·show if (!decide (one=oth))=true then _ else _
     rw [bc9 h2]
     exact b6 ⟨some (.sh (gg || true) (.int cell)),si one,si oth,ps,rfl,dl1⟩
    ·show if (!decide (one=oth))=true then _ else _
     rw [bb7 h2]
     refine bV ⟨_,rfl,_,rfl,_,rfl,_,_,rfl,_,rfl,_,rfl,_,_,rfl,by show 2<=1000; decide,rfl,kR (if oth < one then oth else one,if oth > one then oth else one),rfl,trivial,by have:=dl.len; omega,?_⟩
     refine⟨some (.sh (gg || true) (.int cell)),si one,si oth,_,rfl,dl.put _ ?_⟩
     dsimp only
     split <;> split <;> omega
   ·dsimp only
    rw [bb7 h1]
    exact b6 ⟨some (.sh (gg || true) (.int cell)),z1,u1,ps,rfl,dl1⟩
  rintro ρ ⟨y1,z1,u1,ps,rfl,dl⟩
  rw [bA] at dl
  obtain ⟨ls,e1,e2,e3,e4⟩:=DL.links dl.key
  have lnd:ls.Nodup:=by
   have:=dl.nd
   rw [e4] at this
   exact (bg4.mp this).imp fun h e=>h (congrArg kR e)
  have hlen:=dl.len
  refine⟨_,rfl,⟨_,_,rfl,rfl,cE _,_,rfl,ps,rfl,ls.map two,?_,by rw [bb4]; omega,?_,fun zs pz so=>?_⟩,fun ns z=>by cases z⟩
  ·show [PV.lst (ps.map fun p=>PV.tup (p.1.map kP))]=_
   rw [e1,lY]
  ·intro y hy z
   obtain ⟨l,_,rfl⟩:=bd1.mp hy
   cases z
  obtain ⟨ls',rfl,pl⟩:=wO pz
  rw [<- lY]
  exact⟨⟨_,_,rfl,rfl,hV _,by show 2<=1000; decide,S4 _ _,trivial,q ws ls' (WD.perm (by omega) e2 (by omega) lnd hp pl so)⟩,fun ns z=>by cases z⟩
 refine⟨_,rfl,_,_,rfl,rfl,⟨by decide,by decide⟩,_,_,rfl,rfl,(by show (0:Int) < 2; decide),.inl ⟨_,_,rfl,rfl,_,rfl,?_⟩⟩
 cases hc:(decide (wy / 4 % 2=1)) with
 | false=>exact b6 (b6 last)
 | true=>
  refine bV ⟨_,rfl,_,_,rfl,rfl,_,rfl,?_⟩
  by_cases h:n < 9
  ·dsimp only
   rw [bc9 h]
   obtain ⟨z,hz,e⟩:=S6 (a:=4) (b:=3) (c:=6) (d:=61) (i:=wy % 4) (bj5 _ (by decide)) (bh3 _ d4)
   refine bV ⟨_,rfl,x,ns,0,rfl,hx,by decide,_,rfl,x,ns,1,rfl,hx,by decide,_,rfl,by show 4<=1000; decide,rfl,_,rfl,_,_,rfl,rfl,d4,_,_,_,rfl,rfl,hz,_,_,n,z,rfl,n0,by omega,by omega,by omega,fun ws ls w=>⟨trivial,q ws ls w⟩⟩
  ·dsimp only
   rw [bb7 h]; exact b6 last
def aO (os:List Int) (h:Int):Int:=os.getD h.toNat 0
structure Moved (ws os ws':List Int):Prop where
 len:ws'.length=ws.length
 at_:∀ h:Nat,h < ws.length->ws'[(os.getD h 0).toNat]? = ws[h]?
theorem mB {os:List Int}{n:Nat} (p:os.Perm (rng n)) {h:Nat} (hh:h < n):0<=os.getD h 0/\os.getD h 0 < (n:Int)/\os[h]? = some (os.getD h 0):=by
 have l:h < os.length:=by rw [p.length_eq,fO]; exact hh
 have e:os[h]? = some (os.getD h 0):=by rw [bc0,bb2 l]; rfl
 have:=bQ.mp (p.mem_iff.mp (bg9 e))
 exact⟨this.1,this.2,e⟩
theorem Y7 {os:List Int}{n:Nat} (p:os.Perm (rng n)) {a b:Nat} (ha:a < n) (hb:b < n) (e:os.getD a 0=os.getD b 0):a=b:=by
 have nd:os.Nodup:=p.nodup_iff.mpr (wN n)
 have h1:=(mB p ha).2.2
 have h2:=(mB p hb).2.2
 rw [e] at h1
 exact (List.getElem?_inj (by rw [p.length_eq,fO]; exact ha) nd).mp (h1.trans h2.symm)
theorem aS5 {os:List Int}{n:Nat} (p:os.Perm (rng n)) {j:Nat} (hj:j < n):∃ h,h < n/\os.getD h 0=(j:Int):=by
 obtain ⟨h,hl,e⟩:=bj2 (p.mem_iff.mpr (bQ.mpr ⟨by omega,(by omega:(j:Int) < n)⟩))
 refine⟨h,by rw [p.length_eq,fO] at hl; exact hl,?_⟩
 rw [bc0,bb2 hl,e]; rfl
theorem aS6 {ws os W:List Int}{i:Nat} (p:os.Perm (rng ws.length)) (hi:i < ws.length) (hl:W.length=ws.length) (h:∀ k:Nat,k < i->W[(os.getD k 0).toNat]? = ws[k]?) {w:Int} (hw:ws[i]? = some w) :
  ∀ k:Nat,k < i+1->(W.set (os.getD i 0).toNat w)[(os.getD k 0).toNat]? = ws[k]?:=by
 intro k hk
 obtain ⟨a0,a1,_⟩:=mB p hi
 by_cases e:k=i
 ·subst e
  rw [bk0 (by omega),hw]
 ·have hk':k < ws.length:=by omega
  obtain ⟨b0,b1,_⟩:=mB p hk'
  have:(os.getD i 0).toNat ≠ (os.getD k 0).toNat:=fun z=>e (Y7 p hk' hi (by omega))
  rw [be6 this]
  exact h k (by omega)
def mv (os:List Int) (l:Int × Int):Int × Int:=fP (aO os l.1,aO os l.2)
theorem rZ {os:List Int}{n:Nat} (p:os.Perm (rng n)) {x:Int} (h0:0<=x) (h1:x < (n:Int)):0<=aO os x/\aO os x < (n:Int):=by
 have:=mB p (show x.toNat < n by omega)
 exact⟨this.1,this.2.1⟩
theorem i4 {os:List Int}{n:Nat} (p:os.Perm (rng n)) {x y:Int} (h0:0<=x) (h1:x < (n:Int)) (k0:0<=y) (k1:y < (n:Int)) (e:aO os x=aO os y):x=y:=by
 have:=Y7 p (show x.toNat < n by omega) (show y.toNat < n by omega) e
 omega
theorem aS7 {os:List Int}{n:Nat} (p:os.Perm (rng n)) {l m:Int × Int} (hl:0<=l.1/\l.1 < l.2/\l.2 < (n:Int)) (hm:0<=m.1/\m.1 < m.2/\m.2 < (n:Int)) (e:mv os l=mv os m):l=m:=by
 have e1:min (aO os l.1) (aO os l.2)=min (aO os m.1) (aO os m.2):=congrArg Prod.fst e
 have e2:max (aO os l.1) (aO os l.2)=max (aO os m.1) (aO os m.2):=congrArg Prod.snd e
 have c:(aO os l.1=aO os m.1/\aO os l.2=aO os m.2) ∨ (aO os l.1=aO os m.2/\aO os l.2=aO os m.1):=by omega
 rcases c with ⟨c1,c2⟩ | ⟨c1,c2⟩
 ·exact Prod.ext (i4 p (by omega) (by omega) (by omega) (by omega) c1) (i4 p (by omega) (by omega) (by omega) (by omega) c2)
 ·have d1:=i4 p (by omega) (by omega) (by omega) (by omega) c1
  have d2:=i4 p (by omega) (by omega) (by omega) (by omega) c2
  omega
theorem Y8 {os:List Int}{n:Nat} (p:os.Perm (rng n)):∀ {ls:List (Int × Int)},(∀ l ∈ ls,0<=l.1/\l.1 < l.2/\l.2 < (n:Int))->ls.Nodup->(ls.map (mv os)).Nodup
 | [],_,_=>.nil
 | l :: r,h,nd=>by
  rw [bq3] at nd
  rw [bf4,bq3]
  refine⟨fun z=>?_,Y8 p (fun m hm=>h m (bc3 _ hm)) nd.2⟩
  obtain ⟨m,hm,e⟩:=bd1.mp z
  have:=aS7 p (h m (bc3 _ hm)) (h l bc2) e
  subst this
  exact nd.1 hm
theorem aS8 {ls:List (Int × Int)} (h:ls.Pairwise eR):ls.Nodup:=h.imp fun {a b} z e=>by subst e; unfold eR at z; omega
def sA:bD:=fun xs Q=>∃ ws ls x os,xs = [bG ws ls,x]/\ws.length<=40/\cQ x os/\os.length < 64/\(os.Perm (rng ws.length)->Q (.bl true))/\(¬ os.Perm (rng ws.length)->Q (.bl false))
abbrev Y9:aP:=T5
theorem aS9:cU Y9 ["web","numbers"] sA:=by
 rintro xs Q ⟨ws,ls,x,os,rfl,hw,hx,hl,q1,q2⟩
 by_cases h:os.Perm (rng ws.length)
 ·exact aK6 _ Q ⟨ws,ls,x,os,rfl,hw,hx,h,q1 h⟩
 ·exact aP6 _ Q ⟨ws,ls,x,os,rfl,hw,hx,hl,h,q2 h⟩
def sC:eS:=fun Ep xs Q=>∃ ws ls x os,xs = [bG ws ls,x]/\ws.length<=40/\WD ws.length ws ls/\cQ x os/\os.length < 64/\(¬ os.Perm (rng ws.length)->Ep "BadWeb")/\
 (os.Perm (rng ws.length)->∀ ws' ls',Moved ws os ws'->ls'.Perm (ls.map (mv os))->WD ws'.length ws' ls'->Q (bG ws' ls'))
def Z0 (Ep:Str->Prop):aP:=(aK (dB (nC (bC (aB sA (a7 (a5 0) (a7 (a5 1) a9))))) (rM Ep "BadWeb" (a7 (qC (.str "each place comes once")) a9)) dA)
 (aK (dS 2 (aB lE (a7 (cB (a5 0) (qC (.int 0))) a9)))
 (aK (dH (oC (a5 1)) (iF 3 4)
  (uP 2 (a5 4) (cB (cB (a5 0) (qC (.int 0))) (a5 3))))
 (bO (aB rX (a7 (a5 2) (a7 (dI (eC (cB (a5 0) (qC (.int 1)))) [none,none,some 1] (iF 0 1) dC (eY (a7 (cB (a5 2) (a5 0)) (a7 (cB (a5 2) (a5 1)) a9)))) a9)))))))
theorem aT0:m7 Z0 ["web","places","wants","hearth","place"] sC:=by
 rintro Ep xs Q ⟨ws,ls,x,os,rfl,few,wd,hx,hl,q1,q2⟩
 refine⟨_,rfl,_,rfl,ws,ls,x,os,rfl,few,hx,hl,fun p=>?_,fun np=>⟨_,rfl,bV ⟨by decide,q1 np⟩⟩⟩
 refine⟨_,rfl,b6 ?_⟩
 have lo:os.length=ws.length:=by rw [p.length_eq,fO]
 refine⟨_,rfl,_,_,_,rfl,rfl,rfl,_,_,rfl,rfl,cE _,rfl,cE _,?_⟩
 have ex:x = .lst (intz os) ∨ x = .tup (intz os):=hx.symm
 refine⟨_,rfl,intz os,ex,o0 hx,fun i ρ=>∃ (y3 y4:Option Slot) (W:List Int),ρ = [some (.sh (flat (bG ws ls)) (bG ws ls)),some (.sh (flat x) x),some (.own (.lst (intz W))),y3,y4]/\W.length=ws.length/\(∀ w ∈ W,0<=w/\w<=60)/\∀ k:Nat,k < i->W[(os.getD k 0).toNat]? = ws[k]?,
  ⟨none,none,ws,rfl,rfl,wd.pos,fun k hk=>absurd hk (Nat.not_lt_zero k)⟩,?_,?_⟩
 ·rintro i z ρ hz ⟨y3,y4,W,rfl,wl,wb,wa⟩
  obtain ⟨v,hv,rfl⟩:=wU hz
  obtain ⟨o,rfl,ho⟩:=hJ hv
  have hi:i < ws.length:=by rw [<- lo]; exact (bc5.mp ho).1
  obtain ⟨a0,a1,ae⟩:=mB p hi
  have eo:o=os.getD i 0:=by rw [ho] at ae; exact be0 ae
  subst eo
  have hw:ws[i]? = some ws[i]:=bb2 hi
  have at1:L2.atI (intz ws) (i:Int)=some (.int ws[i]):=oS (by rw [bc6,hw]; rfl)
  generalize lF _ _=gg
  refine⟨_,_,rfl,?_⟩
  refine⟨_,rfl,_,_,_,rfl,rfl,rfl,_,rfl,_,_,_,rfl,rfl,at1,_,rfl,_,rfl,os.getD i 0,(os.getD i 0).toNat,rfl,?_,o8 _ _,?_⟩
  ·rw [bA]
   have:=aP7 (n:=W.length) (k:=(os.getD i 0).toNat) (by omega)
   rwa [show (((os.getD i 0).toNat:Nat):Int)=os.getD i 0 by omega] at this
  rw [aP8]
  refine⟨some (.sh (gg || true) (.int (i:Int))),some (.sh (gg || true) (.int (os.getD i 0))),W.set (os.getD i 0).toNat ws[i],rfl,by rw [bk2]; exact wl,fun w hw'=>?_,aS6 p hi wl wa hw⟩
  rcases List.mem_or_eq_of_mem_set hw' with h | h
  ·exact wb w h
  ·rw [h]; exact wd.pos _ (bh0 hi)
 ·rintro ρ ⟨y3,y4,W,rfl,wl,wb,wa⟩
  rw [oB,bA,lo] at wa
  have mvd:Moved ws os W:=⟨wl,wa⟩
  have pl:(bE ls).length=ls.length:=bb4 _
  have nd:=aS8 wd.ord
  refine⟨_,rfl,?_⟩
  refine⟨_,rfl,_,_,_,rfl,rfl,rfl,bE ls,rfl,(fun z=>hV ls),by rw [pl]; have:=wd.most; omega,fun i acc=>acc=bE ((ls.take i).map fun l=>(aO os l.1,aO os l.2)),rfl,?_,?_⟩
  ·rintro i z acc hz rfl
   obtain ⟨l,rfl,hlm⟩:=wI hz
   obtain ⟨h0,h1,h2⟩:=wd.inn l (bg9 hlm)
   refine⟨_,_,rfl,?_⟩
   refine⟨_,rfl,_,rfl,_,_,_,hx.seq,rfl,lW h0 (by omega),_,rfl,_,rfl,_,_,_,hx.seq,rfl,lW (by omega) (by omega),by show 2<=1000; decide,rfl,trivial,?_⟩
   dsimp only
   rw [bi9,hlm,bd7]
   unfold bE
   rw [bd7]; rfl
  rintro acc rfl
  rw [pl,bj8]
  have emap:(ls.map fun l=>(aO os l.1,aO os l.2)).map fP=ls.map (mv os):=by rw [bn0]; rfl
  refine⟨_,_,W,ls.map fun l=>(aO os l.1,aO os l.2),rfl,.inr rfl,by omega,wb,.inr rfl,by rw [bb4]; exact wd.most,fun m hm=>?_,by rw [emap]; exact Y8 p wd.inn nd,fun ls' pp w'=>⟨trivial,q2 p W ls' mvd (by rw [<- emap]; exact pp) ⟨w'.many,w'.inn,w'.most,w'.ord,wb⟩⟩⟩
  obtain ⟨l,hlm,rfl⟩:=bd1.mp hm
  obtain ⟨h0,h1,h2⟩:=wd.inn l hlm
  have c1:=rZ p h0 (by omega)
  have c2:=rZ p (x:=l.2) (by omega) h2
  rw [wl]
  exact⟨c1.1,c1.2,c2.1,c2.2,fun e=>by have:=i4 p h0 (by omega) (by omega) h2 e; omega⟩
end Core
namespace L2
open PySem PySem.Spec PyProof.Rows
def kS:HO->Bool
 | .dK _=>true
 | .dT _=>true
 | _=>false
section
variable {X : Cx} {pins : List (Addr × Obj)} {σ : St} {H H' : Hp} {s : Shared} {a : Addr}
theorem a6.frozeD {o:Obj}{u:HO} (I:a6 X pins σ H s) (h:H a=some u) (du:kS u=true) (e:s.heap.get? a=some o):a6 X pins σ (upd H a (.frz o u)) s:=by
 have own:∀ {c:Addr}{y:Addr},H c=some (.own y)->c ≠ a:=fun {c y} q z=>by rw [z,h] at q; cases q; cases du
 have tp:∀ {c:Addr}{xs:List V},H c=some (.tup xs)->c ≠ a:=fun {c xs} q z=>by rw [z,h] at q; cases q; cases du
 refine I.reH (a:=a) (fun b n=>aH n) ⟨_,h⟩ (fun xs q=>by rw [h] at q; cases q; cases du) (fun o' v q=>by have:=I.base.frzs a o' v q; rw [h] at this; cases this; cases du) (fun ps q=>by rw [h] at q; cases q; cases du) fun b v q=>?_
 by_cases hb:b=a
 ·subst hb
  rw [aW] at q; cases q
  exact⟨e,(I.hok b _ h).stay (fun _ _ _ q=>q) (fun c q=>by rw [aH (own q)]; exact q) fun c xs q=>by rw [aH (tp q)]; exact q⟩
 ·rw [aH hb] at q
  exact (I.hok b v q).stay (fun _ _ _ q=>q) (fun c q=>by rw [aH (own q)]; exact q) fun c xs q=>by rw [aH (tp q)]; exact q
end
def xK (H:Hp):HO->List V->Prop
 | .dK kvs,ys=>ys=kvs.map fun p=>kV p.1
 | .dT kvs,ys=>Paired (l7 H) ys (kvs.map (·.1))
 | _,_=>False
section
variable {X : Cx} {tg l : Expr} {tl : TE}
def Z1 (tl:TE):TI:=fun σ H R=>tl σ H fun x H1=>∃ a u,x = .ref a/\H1 a=some u/\kS u=true/\∀ o ys,xK H1 u ys->R (O8 a o ys) (upd H1 a (.frz o u))
theorem aT1 (hl:PE X l tl):PI X tg l (Z1 tl):=by
 intro pins s σ H R I h
 refine aN (hl pins s σ H _ I h) fun v s1 h1=>?_
 obtain ⟨x,H1,I1,r1,a,u,e,ha,du,q⟩:=h1
 subst e
 cases r1
 have hf:H1 s1.heap.objs.size=none:=I1.hok.fresh (bb6 _)
 obtain ⟨es,ep,ys,⟨o,e1,e2,e3⟩,far,pk,vl⟩:∃ es ep ys,Raw.fI s1.heap a es ep/\(a == sysModules)=false/\xK H1 u ys/\aJ ys (es.toList.map (·.key)):=by
  cases u with
  | dK kvs=>
   obtain ⟨es,ep,rw_,far,vl,z⟩:=E3 I1 ha
   exact⟨es,ep,_,rw_,far,rfl,vl⟩
  | dT kvs=>
   obtain ⟨es,ep,ys,rw_,far,pk,vl,z⟩:=E4 I1 ha
   exact⟨es,ep,ys,rw_,far,pk,vl⟩
  | _=>cases du
 refine Raw.made far ⟨o,e1,e2,e3⟩ ?_
 refine⟨s1.heap.objs.size,[s1.heap.objs.size],_,_,upd H1 a (.frz o u),rfl,(I1.frozeD ha du e1).kept (t':=s1.toks) fun b o e=>bb1 _ e,aD1 a _ ⟨e2,e3⟩ vl,⟨_,bb9 _ rfl,rfl,rfl⟩,fun b hb=>?_,q o ys pk⟩
 obtain rfl:b=s1.heap.objs.size:=by simpa using hb
 exact I1.fpOk (bb6 _) (by rw [aH (fun z=>by rw [z,ha] at hf; cases hf)]; exact hf)
theorem aT2 {st:Stmt}{t:TE}{i:Nat} (h:PS X st (iS t (cX i))):PS X st (iS (O9 X t) (cX i)):=by
 intro pins s σ H D I hq
 refine aN (h pins s σ H { D with nx:=fun σ' H'=>∃ a o u,H' a=some (.frz o u)/\(∀ o' v',X.H₀ a ≠ some (.frz o' v'))/\D.nx σ' (upd H' a u) } I hq) fun f s1 h1=>?_
 cases f with
 | next=>
  obtain ⟨σ',H1,I1,a,o,u,e,n,q⟩:=h1
  exact⟨σ',_,I1.thaw e n,q⟩
 | _=>exact h1
end
end L2
namespace PP
open PySem L2
mutual
def cR:PV->Bool
 | .tup xs=>nods xs
 | .lst xs=>nods xs
 | .kt xs=>nods xs
 | .dK _=>false
 | .dT _=>false
 | .fK _=>false
 | .fT _=>false
 | .non=>true
 | .bl _=>true
 | .int _=>true
 | .str _=>true
 | .scr _=>true
 | .exc _=>true
def nods:List PV->Bool
 | []=>true
 | x :: r=>cR x && nods r
end
structure k6 (M M':Addr->Prop) (H H':Hp):Prop where
 lst:∀ a us,M a->H a=some (.lst us)->M' a/\H' a=some (.lst us)
 tup:∀ a us,H a=some (.tup us)->H' a=some (.tup us)
 frz:∀ a o u,H a=some (.frz o u)->kS u=false->H' a=some (.frz o u)
mutual
theorem aE.keepN {K:PySem.W.Frag}{M M':Addr->Prop}{H H':Hp} (k:k6 M M' H H'):∀ {v:V}{x:PV},cR x=true->aE K M H v x->aE K M' H' v x
 | _,_,_,.non=>.non
 | _,_,_,.bl b=>.bl b
 | _,_,_,.int i=>.int i
 | _,_,_,.str x=>.str x
 | _,_,f,.tup h r=>.tup (k.tup _ _ h) (Reps.keepN k (by unfold PP.cR at f; exact f) r)
 | _,_,f,.lst m h r=>.lst (k.lst _ _ m h).1 (k.lst _ _ m h).2 (Reps.keepN k (by unfold PP.cR at f; exact f) r)
 | _,_,f,.dK m h e r=>by unfold PP.cR at f; cases f
 | _,_,f,.dT m h e r=>by unfold PP.cR at f; cases f
 | _,_,_,.scr h=>.scr (h.elim (fun ⟨o,e⟩=>.inl ⟨o,k.frz _ _ _ e rfl⟩) .inr)
 | _,_,f,.kt h r=>.kt h (Reps.keepN k (by unfold PP.cR at f; exact f) r)
 | _,_,_,.exc h e c=>.exc (k.frz _ _ _ h rfl) e c
 | _,_,f,.fK h e r=>by unfold PP.cR at f; cases f
 | _,_,f,.fT h e r=>by unfold PP.cR at f; cases f
theorem Reps.keepN {K:PySem.W.Frag}{M M':Addr->Prop}{H H':Hp} (k:k6 M M' H H'):∀ {vs:List V}{xs:List PV},nods xs=true->Reps K M H vs xs->Reps K M' H' vs xs
 | _,_,_,.nil=>.nil
 | _,_,f,.cons r t=>by
  unfold PP.nods at f
  rw [bf0] at f
  exact .cons (aE.keepN k f.1 r) (Reps.keepN k f.2 t)
end
theorem k6.froze {M M':Addr->Prop}{H:Hp}{a:Addr}{u:HO}{o:Obj} (h:H a=some u) (du:kS u=true) (m:∀ b us,M b->H b=some (.lst us)->M' b):k6 M M' H (upd H a (.frz o u)):=
 ⟨fun b us hb e=>⟨m b us hb e,by rw [aH (fun z=>by rw [z,h] at e; cases e; cases du)]; exact e⟩,fun b us e=>by rw [aH (fun z=>by rw [z,h] at e; cases e; cases du)]; exact e,
  fun b o' u' e _=>by rw [aH (fun z=>by rw [z,h] at e; cases e; cases du)]; exact e⟩
theorem k6.thaw {M M':Addr->Prop}{H:Hp}{a:Addr}{u w:HO}{o:Obj} (h:H a=some (.frz o u)) (du:kS u=true) (m:∀ b us,M b->H b=some (.lst us)->M' b):k6 M M' H (upd H a w):=
 ⟨fun b us hb e=>⟨m b us hb e,by rw [aH (fun z=>by rw [z,h] at e; cases e)]; exact e⟩,fun b us e=>by rw [aH (fun z=>by rw [z,h] at e; cases e)]; exact e,
  fun b o' u' e d'=>by rw [aH (fun z=>by rw [z,h] at e; cases e; rw [du] at d'; cases d')]; exact e⟩
theorem k6.same {M M':Addr->Prop}{H H':Hp} (s:aD H H') (m:∀ b us,M b->H b=some (.lst us)->M' b):k6 M M' H H':=
 ⟨fun b us hb e=>⟨m b us hb e,s _ _ e⟩,fun b us e=>s _ _ e,fun b o' u' e _=>s _ _ e⟩
mutual
theorem Z2:∀ {x:PV},flat x=true->cR x=true
 | .tup xs,f=>by unfold PP.flat at f; unfold PP.cR; exact flats_nods f
 | .kt xs,f=>by unfold PP.flat at f; unfold PP.cR; exact flats_nods f
 | .lst xs,f=>by unfold PP.flat at f; cases f
 | .dK _,f=>by unfold PP.flat at f; cases f
 | .dT _,f=>by unfold PP.flat at f; cases f
 | .fK _,f=>by unfold PP.flat at f; cases f
 | .fT _,f=>by unfold PP.flat at f; cases f
 | .non,_=>by unfold PP.cR; rfl
 | .bl _,_=>by unfold PP.cR; rfl
 | .int _,_=>by unfold PP.cR; rfl
 | .str _,_=>by unfold PP.cR; rfl
 | .scr _,_=>by unfold PP.cR; rfl
 | .exc _,_=>by unfold PP.cR; rfl
theorem flats_nods:∀ {xs:List PV},flats xs=true->nods xs=true
 | [],_=>by unfold PP.nods; rfl
 | x :: r,f=>by
  unfold PP.flats at f
  rw [bf0] at f
  unfold PP.nods
  rw [Z2 f.1,flats_nods f.2]; rfl
end
def fz:PV->PV
 | .dK ps=>.fK ps
 | .dT ps=>.fT ps
 | x=>x
def aT3:PV->Option (List PV)
 | .dK ps=>some (ps.map fun p=>kP p.1)
 | .dT ps=>some (ps.map fun p=>.tup (p.1.map kP))
 | _=>none
def aT4:PV->List PV
 | .dK ps=>ps.map (·.2)
 | .dT ps=>ps.map (·.2)
 | _=>[]
def oF (i:Nat) (fr:List (Option Nat)) (ρ:b7):b7:=fr.map fun o=>o.bind fun j=>(ρ[j]?).join.map fun m=>Slot.sh false (if j=i then fz m.val else m.val)
theorem Z3 {i:Nat}{fr:List (Option Nat)}{ρ:b7}{k:Nat}{m:Slot} (h:(oF i fr ρ)[k]? = some (some m)):∃ j m0,fr[k]? = some (some j)/\ρ[j]? = some (some m0)/\m = .sh false (if j=i then fz m0.val else m0.val):=by
 unfold oF at h
 rw [bc6] at h
 cases ef:fr[k]? with
 | none=>rw [ef] at h; cases h
 | some o=>
  rw [ef] at h
  cases o with
  | none=>cases h
  | some j=>
   have h:some ((ρ[j]?).join.map fun m=>Slot.sh false (if j=i then fz m.val else m.val))=some (some m):=h
   cases er:ρ[j]? with
   | none=>rw [er] at h; cases h
   | some o2=>
    rw [er] at h
    cases o2 with
    | none=>cases h
    | some m0=>cases h; exact⟨j,m0,rfl,er,rfl⟩
theorem aT5 {K:PySem.W.Frag}{H0:Hp}{W:Addr->Prop}{σ:St}{ρ:b7}{H1 H':Hp}{D a:Addr}{o:Obj}{u:HO}{acc:List V}{fr:List (Option Nat)}{i:Nat} (px:PX K H0 W σ ρ H1) (ha:H1 a=some u) (du:kS u=true) (hD:upd H1 a (.frz o u) D=none) (s:aD (upd H1 a (.frz o u)) H') (hl:H' D=some (.lst acc))
  (nd:∀ j m',some j ∈ fr->j ≠ i->ρ[j]? = some (some m')->cR m'.val=true)
  (it:∀ m v,ρ[i]? = some (some m)->σ[i]? = some (some v)->aE K (Ms (upd H1 a (.frz o u)) (fX D) false) H' v (fz m.val)):PX K (upd H1 a (.frz o u)) (fX D) (dR fr σ) (oF i fr ρ) H':=by
 refine⟨by unfold dR oF; rw [bb4,bb4],s,fun b z=>by cases z; exact⟨hD,_,hl,rfl⟩,fun k m h=>?_,fun k l x y b h1=>?_⟩
 ·obtain ⟨j,m0,ef,er,rfl⟩:=Z3 h
  obtain ⟨v,ev,r⟩:=px.sl j m0 er
  refine⟨v,?_,?_⟩
  ·unfold dR
   rw [bc6,ef]
   show some ((σ[j]?).join)=_
   rw [ev]; rfl
  ·by_cases e:j=i
   ·subst e
    show aE K _ H' v (if j=j then fz m0.val else m0.val)
    rw [if_pos rfl]
    exact it m0 v er ev
   ·show aE K _ H' v (if j=i then fz m0.val else m0.val)
    rw [if_neg e]
    have r':aE K (fun _=>True) H1 v m0.val:=(pJ (Hs:=H1) r).same (aD.refl _) fun _ _=>trivial
    have hDa:D ≠ a:=fun z=>by rw [z,aW] at hD; cases hD
    have hD1:H1 D=none:=by rw [aH hDa] at hD; exact hD
    have f:=nd j m0 (bg9 ef) e er
    refine aE.keepN (.same s fun b us hb _=>hb) f (aE.keepN (M':=fun b=>b ≠ D) (.froze ha du fun b us _ e=>fun z=>by rw [z,hD1] at e; cases e) f r')
 ·obtain ⟨j,m0,ef,er,e⟩:=Z3 h1
  cases e
section
variable {X : Cx} {σ : St} {H : Hp} {Q' : VK}
def xL (i:Nat) (fr:List (Option Nat)) (p:iE) (tc:c7) (te:aG):aG:=fun ρ Q=>∃ m ks,ρ[i]? = some (some m)/\aT3 m.val=some ks/\ks.length<=16000000/\nods (aT4 m.val)=true/\(∀ j m',some j ∈ fr->j ≠ i->ρ[j]? = some (some m')->cR m'.val=true)/\∃ I:Nat->List PV->Prop,I 0 []/\
 (∀ k x acc,ks[k]? = some x->I k acc->p x false (oF i fr ρ) fun ρ2=>tc ρ2 fun b=>if b=true then te ρ2 fun y gy=>(Nw gy y/\flat y=true)/\I (k+1) (acc ++ [y]) else I (k+1) acc)/\∀ acc,I ks.length acc->Q (.lst acc) .fr
theorem aT6 {K:PySem.W.Frag}{M:Addr->Prop}{H:Hp} (k:aA):aE K M H (kV k) (kP k):=by cases k <;> constructor
theorem aT7 {i:Nat}{fr:List (Option Nat)}{p:iE}{g:TG}{tc:c7}{te:aG}{own:Nat->Prop} (hg:lH X.K own p g) (ho:∀ i,own i->fr[i]? = some none) (h:LE X (xL i fr p tc te) σ H Q') :
  O9 X (p6 (Z1 (fR i)) fr (fun _=>g) (fun H1=>LT (X.frm H1) tc) (fun H1=>LE (X.frm H1) te)) σ H Q':=by
 obtain ⟨W,ρ,Q,px,⟨m,ks,hi,hk,hl,nv,nd,I,i0,turn,fin⟩,k⟩:=h
 obtain ⟨v,ev,r⟩:=px.sl i m hi
 have r:aE X.K (fun _=>True) H v m.val:=(pJ (Hs:=H) r).same (aD.refl _) fun _ _=>trivial
 obtain ⟨a,u,rfl,ha,du,frz,keys⟩:∃ a u,v = .ref a/\H a=some u/\kS u=true/\(∀ (o:Obj) (H':Hp) (D:Addr),H D=none->aD (upd H a (.frz o u)) H'->aE X.K (fun b=>b ≠ D) H' (.ref a) (fz m.val))/\
   ∀ ys,xK H u ys->ys.length=ks.length/\∀ (o:Obj) (H':Hp) (M:Addr->Prop) (j:Nat) (y:V),aD (upd H a (.frz o u)) H'->ys[j]? = some y->∃ x,ks[j]? = some x/\aE X.K M H' y x:=by
  generalize hmv:m.val=mv at r hk nv
  cases r with
  | @dK a kvs ps _ ha ek rv=>
   cases hk
   refine⟨a,_,rfl,ha,rfl,fun o H' D hD s=>?_,fun ys ky=>?_⟩
   ·refine .fK (s _ _ aW) ek (Reps.keepN (.same s fun b us hb _=>hb) nv (Reps.keepN (M':=fun b=>b ≠ D) (.froze ha rfl fun b us _ e=>fun z=>by rw [z,hD] at e; cases e) nv rv))
   ·obtain rfl:ys=kvs.map fun p=>kV p.1:=ky
    have lk:=lJ ek
    refine⟨by rw [bb4,bb4]; exact lk,fun o H' M j y s hy=>?_⟩
    rw [bc6] at hy
    cases e:kvs[j]? with
    | none=>rw [e] at hy; cases hy
    | some kv=>
     rw [e] at hy; cases hy
     have:(kvs.map (·.1))[j]? = some kv.1:=by rw [bc6,e]; rfl
     rw [ek,bc6] at this
     cases e2:ps[j]? with
     | none=>rw [e2] at this; cases this
     | some pp=>
      rw [e2] at this
      have e3:pp.1=kv.1:=be0 this
      exact⟨kP pp.1,by rw [bc6,e2]; rfl,by rw [e3]; exact aT6 kv.1⟩
  | @dT a kvs ps _ ha ek rv=>
   cases hk
   refine⟨a,_,rfl,ha,rfl,fun o H' D hD s=>?_,fun ys ky=>?_⟩
   ·refine .fT (s _ _ aW) ek (Reps.keepN (.same s fun b us hb _=>hb) nv (Reps.keepN (M':=fun b=>b ≠ D) (.froze ha rfl fun b us _ e=>fun z=>by rw [z,hD] at e; cases e) nv rv))
   ·have ky:Paired (l7 H) ys (kvs.map (·.1)):=ky
    have lk:=lJ ek
    have ll:=ky.length
    rw [bb4] at ll
    refine⟨by rw [bb4]; omega,fun o H' M j y s hy=>?_⟩
    obtain ⟨key,hkey,q2,rfl,hq2⟩:=U9 ky hy
    rw [ek,bc6] at hkey
    cases e2:ps[j]? with
    | none=>rw [e2] at hkey; cases hkey
    | some pp=>
     rw [e2] at hkey
     have e3:pp.1=key:=be0 hkey
     refine⟨.tup (pp.1.map kP),by rw [bc6,e2]; rfl,?_⟩
     rw [e3]
     exact .tup (s _ _ (by rw [aH (fun z=>by rw [z,ha] at hq2; cases hq2)]; exact hq2)) (Reps.keys key)
  | _=>cases hk
 refine⟨_,ev,a,u,rfl,ha,du,fun o ys pk D hD=>?_⟩
 obtain ⟨lk,kys⟩:=keys ys pk
 have hDa:D ≠ a:=fun z=>by rw [z,aW] at hD; cases hD
 have hD1:H D=none:=by rw [aH hDa] at hD; exact hD
 have nofr:∀ o' v',X.H₀ a ≠ some (.frz o' v'):=fun o' v' e=>by have:=px.same _ _ e; rw [ha] at this; cases this; cases du
 refine⟨fun i m acc H'=>m=ks.length - i/\i<=ks.length/\aD (upd H a (.frz o u)) H'/\H' D=some (.lst acc)/\∃ zs,Reps X.K (fun _=>False) H' acc zs/\flats zs=true/\zs.length<=i/\I i zs,⟨ks.length,by omega,bf1 _,b9 hD _,aW,[],.nil,rfl,bb6 _,i0⟩,?_⟩
 rintro j m2 acc H' ⟨rfl,hi2,sm,hl',zs,rz,fzs,hz,iz⟩
 refine⟨hl',?_⟩
 have fro:H' a=some (.frz o u):=sm _ _ aW
 by_cases hlt:j < ks.length
 ·refine .inr ⟨⟨⟨_,fro⟩,by omega⟩,fun v2 H2 y=>?_⟩
  obtain ⟨rfl,hy⟩:=y
  obtain ⟨x,hx,rx⟩:=kys o H2 (Ms (upd H a (.frz o u)) (fX D) false) j v2 sm hy
  have pxb:=aT5 (fr:=fr) px ha du hD sm hl' nd fun m' v' hm' hv'=>by
   rw [hi] at hm'; cases hm'
   rw [ev] at hv'; cases hv'
   exact frz o H2 D hD1 sm
  refine hg (upd H a (.frz o u)) (fX D) _ _ H2 _ _ false _ _ pxb rx (turn j x zs hx iz) fun σ2 ρ2 px2 hown hlen q2=>⟨⟨hlen.symm,fun j w e=>?_⟩,?_⟩
  ·by_cases oj:own j
   ·have:=ho j oj
    unfold dR at e
    rw [bc6,this] at e
    cases e
   ·rw [hown j oj]; exact e
  ·refine⟨fX D,ρ2,_,px2,q2,fun b H4 s4 q4=>?_⟩
   have hl4:=s4 _ _ hl'
   have sm4:=sm.trans s4
   cases b with
   | false=>exact b6 ⟨ks.length - (j+1),by omega,rfl,hlt,sm4,hl4,zs,rz.same s4 fun _ z=>z,fzs,by omega,by simpa using q4⟩
   | true=>
    refine bV ⟨fX D,ρ2,_,px2.mono s4,by simpa using q4,?_⟩
    rintro w H5 y gy s5 ryy ⟨⟨nw,fy⟩,q5⟩
    have hl5:=s5 _ _ hl4
    have lr:=rz.length
    refine⟨hl5,iC (by omega),ks.length - (j+1),by omega,rfl,hlt,fun b o' e=>?_,aW,zs ++ [y],?_,V0 fzs fy,by rw [bc4,bk7]; omega,q5⟩
    ·rw [aH (fun z=>by rw [z,hD] at e; cases e)]
     exact s5 _ _ (sm4 _ _ e)
    ·exact ((rz.same (s4.trans s5) fun _ z=>z).append (.cons (ryy.flat fy) .nil)).keep (.upd hl5 rfl fun b z=>z.elim)
 ·obtain rfl:j=ks.length:=by omega
  refine .inl ⟨⟨⟨_,fro⟩,lk.symm⟩,a,o,u,fro,nofr,k _ _ _ .fr (fun b x e=>?_) (.lst hD1 (by rw [aH hDa]; exact hl') (Reps.keepN (.thaw fro du fun b us z=>z.elim) (flats_nods fzs) rz)) (fin zs iz)⟩
  by_cases hb:b=a
  ·subst hb
   rw [ha] at e; cases e
   exact aW
  ·rw [aH hb]
   exact sm _ _ (by rw [aH hb]; exact e)
end
section
variable {X : Cx} {scope : Scope} {N : List Str} {fr : List (Option Nat)} {x y : Str} {tp pos p2 yp : Pos} {elt c : Expr} {te : aG} {tcs : c7} {i : Nat}
theorem aT8 {i:Nat}{z:Str}{zp:Pos} (nd:X.N.Nodup) (d:Nat) (he:∀ (s:Shared) (H:Hp) (C:Addr) (fp:List Addr),QE (bF X scope N s H C fp cI) elt te) (hi:PE X (.Name y yp) (fR d):=by exact pv _)
  (hz:X.N[i]? = some z:=by rfl) (hzl:X.env.scope.names.lookup z=some .local:=by rfl) (hsw:swapsWith (.ListComp elt [⟨.Name x tp,.Name y yp,[],0⟩] scope p2) (some (.Name z zp)) pos.line X.env=pure true:=by rfl)
  (hc:X.calm=true:=by rfl) (S:cY X scope N fr:=by exact cY.of rfl rfl) (hN:N.Nodup:=by decide +kernel) (h0:N[0]? = some x:=by rfl) (hl:∀ (s:Shared) (H:Hp) (C:Addr) (fp:List Addr),(bF X scope N s H C fp cI).env.scope.names.lookup x=some .local:=by intro _ _ _ _; rfl) (hf:fr[0]? = some none:=by rfl)
  (hs:∀ x,foldedSetIterable (.Name y yp) X.env x=pure x:=by intro _; rfl):QS X (.Assign [.Name z zp] (.ListComp elt [⟨.Name x tp,.Name y yp,[],0⟩] scope p2) pos) (aY i (xL d fr (bS 0) dC te)):=
 dU (aT2 (u7 (gh:=fun _=>cX 0) (tch:=fun H=>LT (X.frm H) dC) (teh:=fun H=>LE (X.frm H) te) hc S (aT1 hi) (qK he (fun _ _ _ _=>qL) hN h0 hl) nd hz hzl hsw hs)) fun D σ H h=>aT7 (nH _ 0) (fun i e=>by subst e; exact hf) (pP h)
end
end PP
namespace Core
open PySem L2 PP
def cC:Nat->List Int->List (aA × PV)
 | _,[]=>[]
 | n,x :: r=>(Sum.inl x,.int (n:Int)) :: cC (n+1) r
theorem xM:∀ (n:Nat) (S:List Int),(cC n S).map (fun p=>kP p.1)=intz S
 | _,[]=>rfl
 | n,x :: r=>by
  show PV.int x :: (cC (n+1) r).map (fun p=>kP p.1)=PV.int x :: intz r
  rw [xM (n+1) r]
theorem xN:∀ (n:Nat) (S:List Int),flats ((cC n S).map (·.2))=true
 | _,[]=>rfl
 | n,x :: r=>by
  show (flat (.int (n:Int)) && flats ((cC (n+1) r).map (·.2)))=true
  rw [xN (n+1) r]; rfl
theorem xO:∀ (n:Nat) (S:List Int),(cC n S).length=S.length
 | _,[]=>rfl
 | n,x :: r=>congrArg (· + 1) (xO (n+1) r)
theorem Z4:∀ (n:Nat) (S:List Int) (x:Int),cC n (S ++ [x])=cC n S ++ [(Sum.inl x,.int ((n+S.length:Nat):Int))]
 | n,[],x=>rfl
 | n,y :: r,x=>by
  show (Sum.inl y,PV.int (n:Int)) :: cC (n+1) (r ++ [x])=(Sum.inl y,PV.int (n:Int)) :: (cC (n+1) r ++ _)
  rw [Z4 (n+1) r x,show n+1+r.length=n+(y :: r).length by rw [be4]; omega]
theorem mC (h:Int):∀ (n:Nat) (S:List Int),bL (cC n S) (Sum.inl h:aA)=if h ∈ S then some (.int ((n+S.idxOf h:Nat):Int)) else none
 | n,[]=>rfl
 | n,x :: r=>by
  have ih:=mC h (n+1) r
  unfold bL at ih ⊢
  by_cases e:x=h
  ·subst e
   show Option.map _ (List.find? _ ((Sum.inl x,PV.int (n:Int)) :: cC (n+1) r))=_
   rw [List.find?_cons_of_pos (by simp),if_pos bc2,List.idxOf_cons_self]; rfl
  ·show Option.map _ (List.find? _ ((Sum.inl x,PV.int (n:Int)) :: cC (n+1) r))=_
   rw [List.find?_cons_of_neg (by simpa using e),ih]
   by_cases m:h ∈ r
   ·rw [if_pos m,if_pos (bc3 _ m),show (x :: r).idxOf h=r.idxOf h+1 by rw [List.idxOf_cons,show (x == h)=false by simpa using e]; rfl,show n+1+r.idxOf h=n+(r.idxOf h+1) by omega]
   ·rw [if_neg m,if_neg (fun z=>(bb8.mp z).elim (fun z=>e z.symm) m)]
theorem aT9 (S:List Int):DS (cC 0 S) S:=⟨fun i=>by rw [mC]; by_cases h:i ∈ S <;> simp [h],by rw [xO]; exact bb6 _,xN 0 S⟩
theorem aU0 {S:List Int}{x:Int} (h:x ∉ S):cH (cC 0 S) (Sum.inl x:aA) (.int (S.length:Int))=cC 0 (S ++ [x]):=by
 unfold cH
 rw [Z4,Nat.zero_add,if_neg]
 intro z
 obtain ⟨p,hp,e⟩:=List.any_eq_true.mp z
 have e:p.1=Sum.inl x:=by simpa using e
 have:kP p.1 ∈ (cC 0 S).map (fun p=>kP p.1):=bd1.mpr ⟨p,hp,rfl⟩
 rw [xM,e] at this
 obtain ⟨y,hy,e2⟩:=bd1.mp this
 have:y=x:=PV.int.inj e2
 subst this
 exact h hy
def oG (x:Int):Int:=if x > 0 then x else 0
def dM (ws:List Int) (ls:List (Int × Int)) (S:List Int):List Int:=S.map fun h=>oG (ws.getD h.toNat 0 - aV (aZ ls h) S)
def dN (S:List Int) (l:Int × Int):Bool:=decide (l.1 ∈ S) && decide (l.2 ∈ S)
def Z5 (S:List Int) (l:Int × Int):Int × Int:=((S.idxOf l.1:Nat),(S.idxOf l.2:Nat))
def cS (ls:List (Int × Int)) (S:List Int):List (Int × Int):=(ls.filter (dN S)).map (Z5 S)
theorem Z6 {ls:List (Int × Int)}{i:Nat}{l:Int × Int}{S:List Int} (h:ls[i]? = some l):cS (ls.take (i+1)) S=cS (ls.take i) S ++ (if dN S l=true then [Z5 S l] else []):=by
 unfold cS
 rw [rA h,bd7]
 cases dN S l <;> rfl
theorem aU1 (a b:List (Int × Int)):bE (a ++ b)=bE a ++ bE b:=bd7 ..
theorem aU2 (ls:List (Int × Int)) (S:List Int):(cS ls S).length<=ls.length:=by
 unfold cS
 rw [bb4]
 exact bn5 _ _
def oH:bD:=fun xs Q=>∃ x ns d ps S,xs = [x,d]/\pV d = .dK ps/\cQ x ns/\DS ps S/\ns.length<=10000/\Q (.int ((ns.filter fun x=>decide (x ∈ S)).length:Nat))
abbrev Z7:aP:=aE3
theorem aU3:cU Z7 ["hearths","inside"] oH:=by
 rintro xs Q ⟨x,ns,dd,ps,S,rfl,ud,hx,d,hl,q⟩
 refine⟨_,rfl,_,hx.seq,o0 hx,by rw [bA]; omega,fun i acc=>acc=intz ((ns.take i).filter fun x=>decide (x ∈ S)),rfl,?_,?_⟩
 ·rintro i y acc hy rfl
  obtain ⟨n,rfl,hn⟩:=hJ hy
  have tk:=rA (p:=fun x=>decide (x ∈ S)) hn
  refine⟨_,rfl,_,rfl,_,.inl ⟨ps,Sum.inl n,ud,rfl,rfl⟩,_,rfl,?_⟩
  show if (bL ps (Sum.inl n:aA)).isSome=true then _ else _
  rw [d.has n]
  by_cases h:n ∈ S
  ·rw [bc9 h] at tk ⊢
   refine bV ⟨_,rfl,trivial,?_⟩
   rw [if_pos rfl] at tk
   show _=intz (List.filter _ (List.take (i+1) ns))
   rw [tk,gM]; rfl
  ·rw [bb7 h] at tk ⊢
   refine b6 ?_
   rw [if_neg (by decide),bf8] at tk
   show _=intz (List.filter _ (List.take (i+1) ns))
   rw [tk]
 ·rintro acc rfl
  rw [bA,bj8]
  refine⟨_,_,rfl,rfl,trivial,?_⟩
  rw [bA]; exact q
def sD:bD:=fun xs Q=>∃ x ns d ps S,xs = [x,d]/\pV d = .dK ps/\cQ x ns/\DS ps S/\ns.length<=10000/\Q (.int (aV ns S))
def Z8:aP:=(bO (qB (aB eZ (a7 (a5 0) a9)) (aB oH (a7 (a5 0) (a7 (a5 1) a9)))))
theorem aU4:cU Z8 ["hearths","inside"] sD:=by
 rintro xs Q ⟨x,ns,dd,ps,S,rfl,ud,hx,d,hl,q⟩
 exact⟨_,rfl,_,_,rfl,hx.len,_,rfl,_,rfl,x,ns,dd,ps,S,rfl,ud,hx,d,hl,_,_,rfl,rfl,trivial,q⟩
def sE:eS:=fun Ep xs Q=>∃ ws ls x S,xs = [bG ws ls,x]/\ws.length<=40/\Wb ws ls/\cQ x S/\S.length<=1000/\(bB ws.length S=false->Ep "BadSet")/\(bB ws.length S=true->Q (bG (dM ws ls S) (cS ls S)))
def Z9 (Ep:Str->Prop):aP:=(aK (dS 2 (qC (.dK [])))
 (aK (dH (oC (m6 Ep m8 (a7 (a5 0) (a7 (a5 1) a9)))) (iF 3 4)
  (nJ 2 (a5 4) (a5 3)))
 (aK (aY 5 (aB o5 (a7 (a5 0) a9)))
 (aK (aY 6 (xL 2 [none,some 2,some 0,some 5] (bS 0) dC (aB nF (a7 (qC (.int 0)) (a7 (qB (cB (cB (a5 2) (qC (.int 0))) (a5 0)) (aB sD (a7 (cB (a5 3) (a5 0)) (a7 (a5 1) a9)))) a9)))))
 (aK (aY 7 (dI (eC (cB (a5 0) (qC (.int 1)))) [none,none,some 2] (iF 0 1) (nB (bC (jS false (a5 0) (a5 2))) (bC (jS false (a5 1) (a5 2)))) (eY (a7 (pW (a5 2) (a5 0)) (a7 (pW (a5 2) (a5 1)) a9)))))
 (bO (eY (a7 (aB dG (a7 (a5 6) a9)) (a7 (aB dG (a7 (a5 7) a9)) a9)))))))))
theorem aU5 (n:Nat) (ls:List (Int × Int)):cR (.lst (jW n ls))=true:=by
 unfold cR jW
 generalize List.range n=R
 induction R with
 | nil=>rfl
 | cons k r ih=>
  show (cR (.lst (intz (aZ ls k))) && nods _)=true
  rw [ih,Bool.and_true]
  unfold cR
  exact flats_nods (cE _)
theorem aU6:m7 Z9 ["web","some","places","place","hearth","around","wants","links"] sE:=by
 rintro Ep xs Q ⟨ws,ls,x,S,rfl,few,wb,hx,hl,q1,q2⟩
 refine⟨rfl,rfl,?_⟩
 refine⟨_,rfl,_,rfl,ws,ls,x,S,rfl,hx,hl,fun hs=>?_,fun hs=>q1 hs⟩
 have up:=eQ (cL hs).1
 have inn:=(cL hs).2
 have nd:S.Nodup:=up.imp fun {a b} h e=>by omega
 refine⟨intz S,.inr rfl,(fun z=>by cases z),fun i ρ=>∃ (y3 y4:Option Slot),ρ = [some (.sh (flat (bG ws ls)) (bG ws ls)),some (.sh (flat x) x),some (.own (.dK (cC 0 (S.take i)))),y3,y4,none,none,none],⟨none,none,rfl⟩,?_,?_⟩
 ·rintro i z ρ hz ⟨y3,y4,rfl⟩
  obtain ⟨v,hv,rfl⟩:=wU hz
  obtain ⟨h,rfl,hh⟩:=hJ hv
  have il:=(bc5.mp hh).1
  have tl:(S.take i).length=i:=by rw [bk4]; omega
  have hn:h ∉ S.take i:=fun z=>by
   obtain ⟨k,hk,e⟩:=bj2 z
   rw [bk4] at hk
   rw [List.getElem_take] at e
   have e2:S[k]? = some h:=by rw [bb2 (by omega),e]
   have:=(List.getElem?_inj (by omega) nd).mp (e2.trans hh.symm)
   omega
  generalize lF _ _=gg
  refine⟨_,_,rfl,?_⟩
  refine⟨_,rfl,_,rfl,_,rfl,Sum.inl h,rfl,o8 _ _,by rw [xO,tl]; omega,?_⟩
  dsimp only [Slot.val]
  have:=aU0 hn
  rw [tl] at this
  refine⟨some (.sh (gg || true) (.int (i:Int))),some (.sh (gg || true) (.int h)),?_⟩
  rw [bi9,hh]
  show _ = [_,_,some (Slot.own (.dK (cC 0 (S.take i ++ [h])))),_,_,_,_,_]
  rw [<- this]; rfl
 rintro ρ ⟨y3,y4,rfl⟩
 rw [oB,bA,bj8]
 refine⟨_,rfl,ws,ls,rfl,wb,trivial,?_⟩
 refine⟨_,intz S,rfl,by show some _=some _; rw [xM],by rw [bA]; omega,?_,?_,fun i acc=>acc=intz ((S.take i).map fun h=>oG (ws.getD h.toNat 0 - aV (aZ ls h) S)),rfl,?_,?_⟩
 ·show nods ((cC 0 S).map (·.2))=true
  exact flats_nods (xN 0 S)
 ·intro j m' hj ne hm
  simp only [bb8,bd3,bi0] at hj
  rcases hj with h | h | h | h
  ·cases h
  ·cases h; exact absurd rfl ne
  ·cases h
   cases hm
   exact Z2 (rB ws ls)
  ·cases h
   cases hm
   exact aU5 _ _
 ·rintro i z acc hz rfl
  obtain ⟨h,rfl,hh⟩:=hJ hz
  obtain ⟨h0,h1⟩:=inn h (bg9 hh)
  have at1:L2.atI (intz ws) h=some (.int (ws.getD h.toNat 0)):=lW h0 h1
  have nl:=pE ls h
  have wm:=wb.most
  refine⟨_,rfl,_,_,_,rfl,rfl,rfl,_,rfl,_,_,_,rfl,rfl,at1,_,rfl,_,rfl,_,_,_,rfl,rfl,Q6 h0 h1,_,rfl,_,aZ ls h,_,cC 0 S,S,rfl,rfl,.inr rfl,aT9 S,by omega,?_⟩
  refine⟨_,_,rfl,rfl,_,_,rfl,⟨trivial,rfl⟩,?_⟩
  dsimp only
  rw [bi9,hh,bd7]
  show _=intz (_ ++ [oG _])
  rw [gM]; rfl
 rintro acc rfl
 rw [bA,bj8]
 refine⟨trivial,?_⟩
 have pl:(bE ls).length=ls.length:=bb4 _
 have wm:=wb.most
 refine⟨_,rfl,_,_,_,rfl,rfl,rfl,bE ls,rfl,(fun z=>hV ls),by rw [pl]; omega,fun i acc=>acc=bE (cS (ls.take i) S),rfl,?_,?_⟩
 ·rintro i z acc hz rfl
  obtain ⟨l,rfl,hlm⟩:=wI hz
  refine⟨_,_,rfl,?_⟩
  refine⟨_,rfl,_,rfl,_,.inl ⟨cC 0 S,Sum.inl l.1,rfl,rfl,rfl⟩,_,rfl,?_⟩
  show if (bL (cC 0 S) (Sum.inl l.1:aA)).isSome=true then _ else _
  rw [mC]
  have fin:dN S l=false->bE (cS (ls.take i) S)=bE (cS (ls.take (i+1)) S):=fun e=>by
   rw [Z6 hlm,e,if_neg (by decide),bf8]
  by_cases m1:l.1 ∈ S
  ·rw [if_pos m1]
   refine bV ⟨_,rfl,_,rfl,_,.inl ⟨cC 0 S,Sum.inl l.2,rfl,rfl,rfl⟩,_,rfl,?_⟩
   show if (bL (cC 0 S) (Sum.inl l.2:aA)).isSome=true then _ else _
   rw [mC]
   by_cases m2:l.2 ∈ S
   ·rw [if_pos m2]
    have v1:bL (cC 0 S) (Sum.inl l.1:aA)=some (.int ((S.idxOf l.1:Nat):Int)):=by rw [mC,if_pos m1,Nat.zero_add]
    have v2:bL (cC 0 S) (Sum.inl l.2:aA)=some (.int ((S.idxOf l.2:Nat):Int)):=by rw [mC,if_pos m2,Nat.zero_add]
    refine bV ⟨_,rfl,_,rfl,_,.inl ⟨cC 0 S,Sum.inl l.1,rfl,rfl,v1.symm⟩,_,rfl,_,rfl,_,.inl ⟨cC 0 S,Sum.inl l.2,rfl,rfl,v2.symm⟩,by show 2<=1000; decide,rfl,trivial,?_⟩
    dsimp only
    rw [Z6 hlm,show dN S l=true by unfold dN; rw [bc9 m1,bc9 m2]; rfl,if_pos rfl,aU1]; rfl
   ·rw [if_neg m2]
    exact b6 (fin (by unfold dN; rw [bb7 m2,Bool.and_false]))
  ·rw [if_neg m1]
   exact b6 (b6 (fin (by unfold dN; rw [bb7 m1]; rfl)))
 rintro acc rfl
 rw [pl,bj8]
 refine⟨trivial,?_⟩
 refine⟨_,rfl,⟨_,_,rfl,rfl,cE _,?_⟩,fun _ z=>by cases z⟩
 refine⟨_,rfl,⟨_,_,rfl,rfl,hV _,?_⟩,fun _ z=>by cases z⟩
 exact⟨by show 2<=1000; decide,rB _ _,trivial,q2 hs⟩
theorem kT (a b S:List Int):aV (a ++ b) S=aV a S+aV b S:=by
 unfold aV
 rw [bc4,List.filter_append,bc4]; omega
theorem kU (x:Int) (S:List Int):aV [x] S=if x ∈ S then 0 else 1:=by
 unfold aV
 by_cases h:x ∈ S
 ·rw [if_pos h,bo8 (by simpa using h)]; rfl
 ·rw [if_neg h,List.filter_cons_of_neg (by simpa using h)]; rfl
end Core
namespace PP
open PySem L2
theorem Df.weak {P:Program}{w:World}{K:PySem.W.Frag}{mg:Str->Option Value}{base:Heap}{k:Nat}{x:Str}{ps:List Str}{p p':bD} (d:Df P w K mg base k x ps p) (h:∀ xs Q,p' xs Q->p xs Q):Df P w K mg base k x ps p':=by
 obtain ⟨f,fd,F,r⟩:=d.ex
 exact⟨f,fd,F.imp fun vs H Q E ⟨xs,Qp,a,b,c⟩=>⟨xs,Qp,a,h _ _ b,c⟩,r⟩
end PP
namespace Core
open PySem L2 PP
theorem aU7:∀ xs Q,wF xs Q->oH xs Q:=fun xs Q ⟨x,ns,ps,S,e,hx,d,hl,q⟩=>⟨x,ns,.dK ps,ps,S,e,rfl,hx,d,hl,q⟩
section
variable {ws ws' : List Int} {ls ls' : List (Int × Int)} {T T' G' : List Int} {f g : Int → Int}
theorem aa0 (hf:∀ x ∈ T',f x ∈ T/\g (f x)=x) (hg:∀ x ∈ T,g x ∈ T'/\f (g x)=x) (st:∀ C',(∀ x ∈ C',x ∈ T')->∀ x ∈ T',dY ws' ls' C' x=dY ws ls (C'.map f) (f x)) (gr:jX ws' ls' T' G'):jX ws ls T (G'.map f):=by
 refine⟨List.filter_eq_self.mpr fun h hh=>?_,fun x hx=>?_,fun U hU us x hx=>?_⟩
 ·obtain ⟨k,hk,rfl⟩:=bd1.mp hh
  rw [<- st G' gr.sub k (gr.sub k hk)]
  exact List.filter_eq_self.mp (show G'.filter (dY ws' ls' G')=G' from gr.cold) k hk
 ·obtain ⟨k,hk,rfl⟩:=bd1.mp hx
  exact (hf k (gr.sub k hk)).1
 ·have sub:∀ y ∈ U.map g,y ∈ T':=fun y hy=>by
   obtain ⟨u,hu,rfl⟩:=bd1.mp hy
   exact (hg u (us u hu)).1
  have e:(U.map g).map f=U:=by
   rw [bn0]
   conv=>rhs; rw [<- List.map_id U]
   exact List.map_congr_left fun u hu=>(hg u (us u hu)).2
  have cold:stay ws' ls' (U.map g)=U.map g:=List.filter_eq_self.mpr fun h hh=>by
   rw [st (U.map g) sub h (sub h hh),e]
   obtain ⟨u,hu,rfl⟩:=bd1.mp hh
   rw [(hg u (us u hu)).2]
   exact List.filter_eq_self.mp (show U.filter (dY ws ls U)=U from hU) u hu
  have:=gr.most _ cold sub (g x) (bd1.mpr ⟨x,hx,rfl⟩)
  exact bd1.mpr ⟨_,this,(hg x (us x hx)).2⟩
theorem aU8 {S A B:List Int} (ha:jX ws ls S A) (hb:jX ws ls S B) (x:Int):x ∈ A ↔ x ∈ B:=⟨fun h=>hb.most A ha.cold ha.sub x h,fun h=>ha.most B hb.cold hb.sub x h⟩
theorem aa1 {ns G:List Int}{m:Nat} (wb:Wb ws ls) (hs:bB ws.length ns=true) (en:cN ws ls ns m) (gr:jX ws ls (eG ws.length ns) G) (x:Int):x ∈ aR ws ls ns m ↔ x ∈ rng ws.length/\x ∉ G:=by
 have h:=aU8 (wW wb en) gr x
 constructor
 ·intro hx
  exact⟨bQ.mpr (m5 hs hx),fun z=>(bK.mp (h.mpr z)).2 hx⟩
 ·rintro ⟨h1,h2⟩
  by_cases hx:x ∈ aR ws ls ns m
  ·exact hx
  ·exact absurd (h.mp (bK.mpr ⟨h1,hx⟩)) h2
end
section
variable {ws : List Int} {ls : List (Int × Int)} {O : List Int}
def b8 (O:List Int) (k:Int):Int:=O.getD k.toNat 0
def bR (O:List Int) (x:Int):Int:=(O.idxOf x:Nat)
theorem kW {x:Int} (h:x ∈ O):0<=bR O x/\bR O x < (O.length:Int)/\b8 O (bR O x)=x:=by
 have hl:=List.idxOf_lt_length_of_mem h
 refine⟨by unfold bR; omega,by unfold bR; omega,?_⟩
 unfold b8 bR
 rw [bi1,bc0,bb2 hl,List.getElem_idxOf hl]; rfl
theorem fC (nd:O.Nodup) {k:Int} (h0:0<=k) (h1:k < (O.length:Int)):b8 O k ∈ O/\bR O (b8 O k)=k:=by
 have hl:k.toNat < O.length:=by omega
 have e:O.getD k.toNat 0=O[k.toNat]:=by rw [bc0,bb2 hl]; rfl
 have hm:b8 O k ∈ O:=by unfold b8; rw [e]; exact bh0 hl
 refine⟨hm,?_⟩
 have hi:=List.idxOf_lt_length_of_mem hm
 have e2:=List.getElem_idxOf hi
 have:O.idxOf (b8 O k)=k.toNat:=by
  refine (List.getElem?_inj hi nd).mp ?_
  rw [bb2 hi,e2,bb2 hl]
  unfold b8; rw [e]
 unfold bR
 rw [this]; omega
theorem aa2 {x y:Int} (hx:x ∈ O) (hy:y ∈ O) (e:bR O x=bR O y):x=y:=by
 rw [<- (kW hx).2.2,<- (kW hy).2.2,e]
theorem sF (l:Int × Int) (r:List (Int × Int)) (k:Int):aZ (l :: r) k=((if l.1=k then [l.2] else []) ++ (if l.2=k then [l.1] else [])) ++ aZ r k:=rfl
theorem aa3 {h:Int} (hh:h ∈ O):∀ ls:List (Int × Int),aZ (cS ls O) (bR O h)=((aZ ls h).filter fun x=>decide (x ∈ O)).map (bR O)
 | []=>rfl
 | l :: r=>by
  have ih:=aa3 hh r
  unfold cS at ih ⊢
  rw [sF,List.filter_append,bd7,<- ih]
  cases e:dN O l with
  | true=>
   rw [bo8 e,bf4,sF]
   congr 1
   unfold dN at e
   rw [bf0] at e
   have m1:l.1 ∈ O:=bi8 e.1
   have m2:l.2 ∈ O:=bi8 e.2
   have i1:(bR O l.1=bR O h) ↔ l.1=h:=⟨fun z=>aa2 m1 hh z,fun z=>by rw [z]⟩
   have i2:(bR O l.2=bR O h) ↔ l.2=h:=⟨fun z=>aa2 m2 hh z,fun z=>by rw [z]⟩
   show (if bR O l.1=bR O h then [bR O l.2] else []) ++ (if bR O l.2=bR O h then [bR O l.1] else [])=_
   simp only [i1,i2]
   rw [List.filter_append,bd7]
   congr 1
   ·by_cases a:l.1=h
    ·rw [if_pos a,if_pos a,bo8 (by simpa using m2)]; rfl
    ·rw [if_neg a,if_neg a]; rfl
   ·by_cases a:l.2=h
    ·rw [if_pos a,if_pos a,bo8 (by simpa using m1)]; rfl
    ·rw [if_neg a,if_neg a]; rfl
  | false=>
   rw [List.filter_cons_of_neg (by rw [e]; decide)]
   have:(((if l.1=h then [l.2] else []) ++ (if l.2=h then [l.1] else [])).filter fun x=>decide (x ∈ O)) = []:=by
    rw [List.filter_eq_nil_iff]
    intro x hx z
    have z:x ∈ O:=bi8 z
    unfold dN at e
    rcases be1.mp hx with hx | hx
    ·split at hx
     ·rename_i a
      rw [bc1.mp hx] at z
      rw [bc9 z,bc9 (a ▸ hh)] at e; cases e
     ·cases hx
    ·split at hx
     ·rename_i a
      rw [bc1.mp hx] at z
      rw [bc9 z,bc9 (a ▸ hh)] at e; cases e
     ·cases hx
   rw [this]; rfl
theorem aU9 (A O C:List Int) (hC:∀ x ∈ C,x ∈ O):aV A C=aV (A.filter fun x=>decide (x ∈ O)) C+aV A O:=by
 induction A with
 | nil=>rfl
 | cons a r ih=>
  have e1:aV (a :: r) C=aV [a] C+aV r C:=kT [a] r C
  have e2:aV (a :: r) O=aV [a] O+aV r O:=kT [a] r O
  rw [e1,e2,kU,kU]
  by_cases h:a ∈ O
  ·rw [bo8 (by simpa using h)]
   have e3:aV (a :: r.filter fun x=>decide (x ∈ O)) C=aV [a] C+aV (r.filter fun x=>decide (x ∈ O)) C:=kT [a] _ C
   rw [e3,kU,if_pos h]; omega
  ·rw [List.filter_cons_of_neg (by simpa using h),if_neg h,if_neg (fun z=>h (hC a z))]; omega
theorem aV0 {A C':List Int} (nd:O.Nodup) (hA:∀ x ∈ A,x ∈ O) (hC:∀ k ∈ C',0<=k/\k < (O.length:Int)):aV (A.map (bR O)) C'=aV A (C'.map (b8 O)):=by
 induction A with
 | nil=>rfl
 | cons a r ih=>
  have e1:aV (bR O a :: r.map (bR O)) C'=aV [bR O a] C'+aV (r.map (bR O)) C':=kT [_] _ C'
  have e2:aV (a :: r) (C'.map (b8 O))=aV [a] (C'.map (b8 O))+aV r (C'.map (b8 O)):=kT [a] r _
  rw [bf4,e1,e2,ih fun x hx=>hA x (bc3 _ hx),kU,kU]
  have ha:=hA a bc2
  have:bR O a ∈ C' ↔ a ∈ C'.map (b8 O):=by
   constructor
   ·intro h; exact bd1.mpr ⟨_,h,(kW ha).2.2⟩
   ·intro h
    obtain ⟨k,hk,e⟩:=bd1.mp h
    have:=(fC nd (hC k hk).1 (hC k hk).2).2
    rw [e] at this
    rw [this]; exact hk
  by_cases h:bR O a ∈ C'
  ·rw [if_pos h,if_pos (this.mp h)]
  ·rw [if_neg h,if_neg (fun z=>h (this.mpr z))]
theorem aV1 (A C:List Int):0<=aV A C:=by
 unfold aV
 have:=bn5 (fun x=>decide (x ∈ C)) A
 omega
theorem aV2 (nd:O.Nodup) {C':List Int} (hC:∀ k ∈ C',0<=k/\k < (O.length:Int)) {k:Int} (k0:0<=k) (k1:k < (O.length:Int)):dY (dM ws ls O) (cS ls O) C' k=dY ws ls (C'.map (b8 O)) (b8 O k):=by
 obtain ⟨hm,hi⟩:=fC nd k0 k1
 unfold dY
 have e1:(dM ws ls O).getD k.toNat 0=oG (ws.getD (b8 O k).toNat 0 - aV (aZ ls (b8 O k)) O):=by
  have hl:k.toNat < O.length:=by omega
  have e:O[k.toNat]? = some (b8 O k):=by unfold b8; rw [bc0,bb2 hl]; rfl
  unfold dM
  rw [bc0,bc6,e]; rfl
 have e2:aZ (cS ls O) k=((aZ ls (b8 O k)).filter fun x=>decide (x ∈ O)).map (bR O):=by
  have:=aa3 (O:=O) hm ls
  rw [hi] at this; exact this
 have sub:∀ x ∈ C'.map (b8 O),x ∈ O:=fun x hx=>by
  obtain ⟨j,hj,rfl⟩:=bd1.mp hx
  exact (fC nd (hC j hj).1 (hC j hj).2).1
 rw [e1,e2,aV0 nd (fun x hx=>bi8 (bl4.mp hx).2) hC,aU9 (aZ ls (b8 O k)) O _ sub]
 have p0:=aV1 ((aZ ls (b8 O k)).filter fun x=>decide (x ∈ O)) (C'.map (b8 O))
 generalize aV ((aZ ls (b8 O k)).filter fun x=>decide (x ∈ O)) (C'.map (b8 O))=a at p0
 generalize aV (aZ ls (b8 O k)) O=b
 generalize ws.getD (b8 O k).toNat 0=w
 unfold oG
 rw [bl5,bf5,bf5]
 split <;> omega
theorem xP (wb:Wb ws ls) (few:O.length<=40):Wb (dM ws ls O) (cS ls O):=by
 have rl:(dM ws ls O).length=O.length:=bb4 _
 refine⟨by omega,by have:=aU2 ls O; have:=wb.most; omega,fun l hl=>?_⟩
 unfold cS at hl
 obtain ⟨l0,h0,rfl⟩:=bd1.mp hl
 have:=(bl4.mp h0).2
 unfold dN at this
 rw [bf0] at this
 have a:=kW (O:=O) (bi8 this.1)
 have b:=kW (O:=O) (bi8 this.2)
 rw [rl]
 exact⟨⟨a.1,a.2.1⟩,b.1,b.2.1⟩
theorem aa4 {S M:List Int}{m m':Nat} (wb:Wb ws ls) (few:ws.length<=40) (hs:bB ws.length S=true) (hO:O=eG ws.length S) (hM:bB O.length M=true) {B:List Int} (hB:bB ws.length B=true) (bm:∀ x,x ∈ B ↔ x ∈ S ∨ x ∈ M.map (b8 O))
  (en:cN (dM ws ls O) (cS ls O) M m') (en2:cN ws ls B m):(S ++ (aR (dM ws ls O) (cS ls O) M m').map (b8 O)).Perm (aR ws ls B m):=by
 have oset:bB ws.length O=true:=by rw [hO]; exact rK _ _
 have nd:O.Nodup:=(eQ (cL oset).1).imp fun {a b} h e=>by omega
 have ol:=iK oset
 have rl:(dM ws ls O).length=O.length:=bb4 _
 have wb':=xP (O:=O) wb (by omega)
 have hM':bB (dM ws ls O).length M=true:=by rw [rl]; exact hM
 have gr:=wW wb' en
 rw [rl] at gr
 have memO:∀ x,x ∈ O ↔ x ∈ rng ws.length/\x ∉ S:=fun x=>by rw [hO]; exact bK
 have inM:∀ k ∈ M,0<=k/\k < (O.length:Int):=(cL hM).2
 have gr2:jX ws ls (eG ws.length B) ((eG O.length (aR (dM ws ls O) (cS ls O) M m')).map (b8 O)):=by
  refine aa0 (g:=bR O) (fun x hx=>?_) (fun x hx=>?_) (fun C' hC x hx=>?_) gr
  ·obtain ⟨h1,h2⟩:=bK.mp hx
   have r:=bQ.mp h1
   obtain ⟨a,b⟩:=fC nd r.1 r.2
   refine⟨bK.mpr ⟨((memO _).mp a).1,fun z=>?_⟩,b⟩
   rcases (bm _).mp z with z | z
   ·exact ((memO _).mp a).2 z
   ·obtain ⟨k,hk,e⟩:=bd1.mp z
    have:=(fC nd (inM k hk).1 (inM k hk).2).2
    rw [e,b] at this
    exact h2 (this ▸ hk)
  ·obtain ⟨h1,h2⟩:=bK.mp hx
   have hxO:x ∈ O:=(memO x).mpr ⟨h1,fun z=>h2 ((bm x).mpr (.inl z))⟩
   obtain ⟨a,b,c⟩:=kW hxO
   exact⟨bK.mpr ⟨bQ.mpr ⟨a,b⟩,fun z=>h2 ((bm x).mpr (.inr (bd1.mpr ⟨_,z,c⟩)))⟩,c⟩
  ·have r:=bQ.mp (bK.mp hx).1
   exact aV2 nd (fun k hk=>bQ.mp (bK.mp (hC k hk)).1) r.1 r.2
 have ndS:S.Nodup:=(eQ (cL hs).1).imp fun {a b} h e=>by omega
 have inn':∀ k ∈ aR (dM ws ls O) (cS ls O) M m',0<=k/\k < (O.length:Int):=fun k hk=>by have:=m5 hM' hk; rw [rl] at this; exact this
 refine (List.perm_ext_iff_of_nodup ?_ (m3 hB m)).mpr fun x=>?_
 ·refine bl0.mpr ⟨ndS,?_,fun x hx y hy e=>?_⟩
  ·have n2:=m3 (ls:=cS ls O) hM' m'
   refine bg4.mpr (n2.imp_of_mem fun {a b} ha hb ne e=>ne ?_)
   rw [<- (fC nd (inn' a ha).1 (inn' a ha).2).2,<- (fC nd (inn' b hb).1 (inn' b hb).2).2,e]
  ·obtain ⟨k,hk,rfl⟩:=bd1.mp hy
   exact ((memO _).mp (fC nd (inn' k hk).1 (inn' k hk).2).1).2 (e ▸ hx)
 ·rw [aa1 wb hB en2 gr2 x,be1]
  constructor
  ·rintro (h | h)
   ·refine⟨bQ.mpr ((cL hs).2 x h),fun z=>?_⟩
    obtain ⟨k,hk,e⟩:=bd1.mp z
    have r:=bQ.mp (bK.mp hk).1
    exact ((memO _).mp (fC nd r.1 r.2).1).2 (e ▸ h)
   ·obtain ⟨k,hk,rfl⟩:=bd1.mp h
    obtain ⟨a,b⟩:=fC nd (inn' k hk).1 (inn' k hk).2
    refine⟨((memO _).mp a).1,fun z=>?_⟩
    obtain ⟨j,hj,e⟩:=bd1.mp z
    have r:=bQ.mp (bK.mp hj).1
    have:=(fC nd r.1 r.2).2
    rw [e,b] at this
    exact (bK.mp hj).2 (this ▸ hk)
  ·rintro ⟨h1,h2⟩
   by_cases hx:x ∈ S
   ·exact .inl hx
   ·have hxO:=(memO x).mpr ⟨h1,hx⟩
    obtain ⟨a,b,c⟩:=kW hxO
    refine .inr (bd1.mpr ⟨bR O x,?_,c⟩)
    by_cases z:bR O x ∈ aR (dM ws ls O) (cS ls O) M m'
    ·exact z
    ·exact absurd (bd1.mpr ⟨bR O x,bK.mpr ⟨bQ.mpr ⟨a,b⟩,z⟩,c⟩) h2
end
section
variable {ws os ws' : List Int} {ls ls' : List (Int × Int)}
theorem aV3 {a b:List (Int × Int)} (p:a.Perm b) (k:Int):(aZ a k).Perm (aZ b k):=p.flatMap_right _
theorem aa5 {n:Nat} (p:os.Perm (rng n)) {h:Int} (h0:0<=h) (h1:h < (n:Int)):∀ ls:List (Int × Int),(∀ l ∈ ls,0<=l.1/\l.1 < l.2/\l.2 < (n:Int))->aZ (ls.map (mv os)) (aO os h)=(aZ ls h).map (aO os)
 | [],_=>rfl
 | l :: r,inn=>by
  have ih:=aa5 p h0 h1 r fun m hm=>inn m (bc3 _ hm)
  rw [bf4,sF,sF,bd7,ih]
  congr 1
  have hl:=inn l bc2
  have i1:(aO os l.1=aO os h) ↔ l.1=h:=⟨fun z=>i4 p (by omega) (by omega) h0 h1 z,fun z=>by rw [z]⟩
  have i2:(aO os l.2=aO os h) ↔ l.2=h:=⟨fun z=>i4 p (by omega) (by omega) h0 h1 z,fun z=>by rw [z]⟩
  have ne:aO os l.1 ≠ aO os l.2:=fun z=>by have:=i4 p (by omega) (by omega) (by omega) (by omega) z; omega
  show (if min (aO os l.1) (aO os l.2)=aO os h then [max (aO os l.1) (aO os l.2)] else []) ++ (if max (aO os l.1) (aO os l.2)=aO os h then [min (aO os l.1) (aO os l.2)] else [])=_
  rcases Int.le_total (aO os l.1) (aO os l.2) with c | c
  ·rw [Int.min_eq_left c,Int.max_eq_right c]
   simp only [i1,i2]
   rw [bd7]
   congr 1
   ·split <;> rfl
   ·split <;> rfl
  ·rw [Int.min_eq_right c,Int.max_eq_left c]
   simp only [i1,i2]
   by_cases a:l.1=h
   ·have b : ¬ l.2=h:=by omega
    rw [if_pos a,if_neg b,if_pos a,if_neg b]; rfl
   ·rw [if_neg a,if_neg a]
    split <;> rfl
theorem aV4 {a b C:List Int} (p:a.Perm b):aV a C=aV b C:=by
 unfold aV
 rw [p.length_eq,(p.filter _).length_eq]
theorem aV5 {n:Nat} (p:os.Perm (rng n)) {A C:List Int} (hA:∀ x ∈ A,0<=x/\x < (n:Int)) (hC:∀ x ∈ C,0<=x/\x < (n:Int)):aV (A.map (aO os)) (C.map (aO os))=aV A C:=by
 induction A with
 | nil=>rfl
 | cons a r ih=>
  have e1:aV (aO os a :: r.map (aO os)) (C.map (aO os))=aV [aO os a] (C.map (aO os))+aV (r.map (aO os)) (C.map (aO os)):=kT [_] _ _
  have e2:aV (a :: r) C=aV [a] C+aV r C:=kT [a] r _
  rw [bf4,e1,e2,ih fun x hx=>hA x (bc3 _ hx),kU,kU]
  have ha:=hA a bc2
  have:aO os a ∈ C.map (aO os) ↔ a ∈ C:=by
   constructor
   ·intro h
    obtain ⟨c,hc,e⟩:=bd1.mp h
    rw [<- i4 p (hC c hc).1 (hC c hc).2 ha.1 ha.2 e]; exact hc
   ·intro h; exact bd1.mpr ⟨a,h,rfl⟩
  by_cases h:a ∈ C
  ·rw [if_pos h,if_pos (this.mpr h)]
  ·rw [if_neg h,if_neg (fun z=>h (this.mp z))]
theorem aV6 (wb:Wb ws ls) (inn:∀ l ∈ ls,0<=l.1/\l.1 < l.2/\l.2 < (ws.length:Int)) (p:os.Perm (rng ws.length)) (m:Moved ws os ws') (pl:ls'.Perm (ls.map (mv os))) {C:List Int} (hC:∀ x ∈ C,0<=x/\x < (ws.length:Int)) {h:Int} (h0:0<=h) (h1:h < (ws.length:Int)) :
  dY ws ls C h=dY ws' ls' (C.map (aO os)) (aO os h):=by
 unfold dY
 have e1:ws'.getD (aO os h).toNat 0=ws.getD h.toNat 0:=by
  have:=m.at_ h.toNat (by omega)
  rw [bc0,bc0,<- this]; rfl
 rw [e1,aV4 (aV3 pl _),aa5 p h0 h1 ls inn,aV5 p (fun x hx=>bQ.mp (T7 wb hx)) hC]
theorem aV7 {S S':List Int}{k k':Nat} (wb:Wb ws ls) (wb':Wb ws' ls') (inn:∀ l ∈ ls,0<=l.1/\l.1 < l.2/\l.2 < (ws.length:Int)) (p:os.Perm (rng ws.length)) (m:Moved ws os ws') (pl:ls'.Perm (ls.map (mv os))) (hs:bB ws.length S=true) (hs':bB ws'.length S'=true)
  (sm:∀ x,x ∈ S' ↔ x ∈ S.map (aO os)) (en:cN ws ls S k) (en':cN ws' ls' S' k'):((aR ws ls S k).map (aO os)).Perm (aR ws' ls' S' k'):=by
 have lw:=m.len
 have back:∀ x ∈ rng ws.length,∃ y,y ∈ rng ws.length/\aO os y=x:=fun x hx=>by
  have r:=bQ.mp hx
  obtain ⟨h,hh,e⟩:=aS5 p (j:=x.toNat) (by omega)
  refine⟨(h:Int),bQ.mpr ⟨by omega,by omega⟩,?_⟩
  unfold aO
  rw [bi1,e]; omega
 let g:Int->Int:=fun x=>(rng ws.length).find? (fun y=>decide (aO os y=x)) |>.getD 0
 have gs:∀ x ∈ rng ws.length,g x ∈ rng ws.length/\aO os (g x)=x:=fun x hx=>by
  obtain ⟨y,hy,e⟩:=back x hx
  cases hf:(rng ws.length).find? (fun y=>decide (aO os y=x)) with
  | none=>exact absurd (by simpa using e) (List.find?_eq_none.mp hf y hy)
  | some z=>
   have:g x=z:=by show ((rng ws.length).find? (fun y=>decide (aO os y=x))).getD 0=z; rw [hf]; rfl
   rw [this]
   exact⟨List.mem_of_find?_eq_some hf,by simpa using List.find?_some hf⟩
 have pin:∀ x ∈ rng ws.length,aO os x ∈ rng ws.length:=fun x hx=>by
  have r:=bQ.mp hx
  exact bQ.mpr (rZ p r.1 r.2)
 have pinj:∀ x ∈ rng ws.length,∀ y ∈ rng ws.length,aO os x=aO os y->x=y:=fun x hx y hy e=>by
  have r:=bQ.mp hx
  have t:=bQ.mp hy
  exact i4 p r.1 r.2 t.1 t.2 e
 have sin:∀ x ∈ S,x ∈ rng ws.length:=fun x hx=>bQ.mpr ((cL hs).2 x hx)
 have gr:=wW wb en
 have gr2:jX ws' ls' (eG ws'.length S') ((eG ws.length (aR ws ls S k)).map (aO os)):=by
  refine aa0 (g:=g) (fun x hx=>?_) (fun x hx=>?_) (fun C' hC x hx=>?_) gr
  ·obtain ⟨h1,h2⟩:=bK.mp hx
   refine⟨bK.mpr ⟨by rw [lw]; exact pin x h1,fun z=>?_⟩,pinj _ (gs _ (pin x h1)).1 _ h1 (gs _ (pin x h1)).2⟩
   obtain ⟨y,hy,e⟩:=bd1.mp ((sm _).mp z)
   exact h2 (pinj y (sin y hy) x h1 e ▸ hy)
  ·obtain ⟨h1,h2⟩:=bK.mp hx
   rw [lw] at h1
   obtain ⟨a,b⟩:=gs x h1
   exact⟨bK.mpr ⟨a,fun z=>h2 ((sm x).mpr (bd1.mpr ⟨_,z,b⟩))⟩,b⟩
  ·have r:=bQ.mp (bK.mp hx).1
   exact aV6 wb inn p m pl (fun y hy=>bQ.mp (bK.mp (hC y hy)).1) r.1 r.2
 have mF:∀ x ∈ aR ws ls S k,x ∈ rng ws.length:=fun x hx=>bQ.mpr (m5 hs hx)
 refine (List.perm_ext_iff_of_nodup ?_ (m3 hs' k')).mpr fun x=>?_
 ·exact bg4.mpr ((m3 (ls:=ls) hs k).imp_of_mem fun {a b} ha hb ne e=>ne (pinj a (mF a ha) b (mF b hb) e))
 ·rw [aa1 wb' hs' en' gr2 x,lw]
  constructor
  ·intro h
   obtain ⟨y,hy,rfl⟩:=bd1.mp h
   refine⟨pin y (mF y hy),fun z=>?_⟩
   obtain ⟨j,hj,e⟩:=bd1.mp z
   exact (bK.mp hj).2 (pinj j (bK.mp hj).1 y (mF y hy) e ▸ hy)
  ·rintro ⟨h1,h2⟩
   obtain ⟨a,b⟩:=gs x h1
   refine bd1.mpr ⟨g x,?_,b⟩
   by_cases z:g x ∈ aR ws ls S k
   ·exact z
   ·exact absurd (bd1.mpr ⟨g x,bK.mpr ⟨a,z⟩,b⟩) h2
end
def sG:bD:=fun xs Q=>∃ c n:Int,xs = [.int c,.int n]/\9<=n/\n<=40/\∀ ws ls,WD n ws ls->Q (bG ws ls)
abbrev aa6:aP:=aG9
theorem aV8:cU aa6 ["cell","many","left","row","k","number","links"] sG:=by
 rintro xs Q ⟨c,n,rfl,n0,n1,q⟩
 refine⟨_,rfl,n,rfl,by omega,by omega,rfl,?_,?_⟩
 ·show flats (eM 0 n.toNat)=true
  rw [kQ]; exact cE _
 rw [kQ]
 refine⟨by decide,rfl,rfl,rfl,?_⟩
 refine⟨_,rfl,n,rfl,by omega,by omega,fun i ρ=>∃ (y z:Option Slot) (left row:List Int),ρ = [si c,si n,some (.own (.lst (intz left))),some (.own (.lst (intz row))),y,z,none]/\(left ++ row).Perm (rng n.toNat)/\row.length=i,
  ⟨none,none,rng n.toNat,[],rfl,by rw [bf8],rfl⟩,?_,?_⟩
 ·rintro i y ρ hy ⟨y0,z0,left,row,rfl,pm,hr⟩
  obtain ⟨rfl,hi⟩:=iH hy
  have hll:left.length+row.length=n.toNat:=by
   have:=pm.length_eq
   rw [bc4,fO] at this
   exact this
  refine⟨_,rfl,_,_,rfl,rfl,(by show (0:Int) < 1000000007; decide),_,rfl,_,rfl,_,_,rfl,rfl,.inl ⟨by omega,by omega⟩,_,_,rfl,rfl,_,_,rfl,rfl,_,_,rfl,rfl,.inr ⟨by decide,by decide⟩,_,_,rfl,rfl,(by show (0:Int) < 2147483647; decide),trivial,?_⟩
  dsimp only
  generalize hnum:((c % 1000000007+(0+(i:Int)) * (0+(i:Int))+1) * 48271) % 2147483647=num
  have b1:0<=num:=by rw [<- hnum]; exact bj5 _ (by decide)
  have b2:num < 2147483647:=by rw [<- hnum]; exact bh3 _ (by decide)
  have gK:(0:Int) < ((intz left).length:Nat):=by rw [bA]; omega
  refine⟨_,_,by decide,rfl,rfl,_,rfl,_,rfl,_,_,rfl,rfl,.inl ⟨by omega,by omega⟩,_,_,rfl,rfl,(by show (0:Int) < 1000003; decide),_,_,rfl,rfl,⟨by decide,by decide⟩,_,rfl,_,_,rfl,rfl,_,_,rfl,rfl,gK,?_⟩
  dsimp only
  generalize hv:(num * num % 1000003 / 8) % (((intz left).length:Nat):Int)=v
  have v1:0<=v:=by rw [<- hv]; exact bj5 _ (by omega)
  have v2:v < ((intz left).length:Nat):=by rw [<- hv]; exact bh3 _ gK
  have v3:v.toNat < left.length:=by rw [bA] at v2; omega
  refine⟨v.toNat,.int left[v.toNat],congrArg PV.int (by omega),by rw [bA]; omega,by rw [bA]; omega,by rw [bc6,bb2 v3]; rfl,?_⟩
  refine⟨si (0+(i:Int)),si num,left.eraseIdx v.toNat,row ++ [left[v.toNat]],?_,(S2 (bb2 v3)).trans pm,by rw [bc4,hr]; rfl⟩
  have e1:(intz left).eraseIdx v.toNat=intz (left.eraseIdx v.toNat):=wP _ _ _
  rw [gM,<- e1]; rfl
 rintro ρ ⟨y0,z0,left,row,rfl,pm,hr⟩
 rw [eD] at hr
 have hll:left.length+row.length=n.toNat:=by
  have:=pm.length_eq
  rw [bc4,fO] at this
  exact this
 have hl0:left = []:=List.length_eq_zero_iff.mp (by omega)
 subst hl0
 rw [List.nil_append] at pm
 have nd:row.Nodup:=pm.nodup_iff.mpr (wN _)
 have inn:∀ x ∈ row,0<=x/\x < n:=fun x hx=>by
  have:=bQ.mp (pm.mem_iff.mp hx); omega
 refine⟨by decide,rfl,rfl,rfl,?_⟩
 refine⟨_,rfl,1,n,rfl,rfl,by omega,fun j ρ=>∃ (y:Option Slot) (ls:List (Int × Int)),ρ = [si c,si n,some (.own (.lst (intz []))),some (.own (.lst (intz row))),y,z0,some (.own (.lst (bE ls)))]/\(∀ l ∈ ls,0<=l.1/\l.1 < l.2/\l.2 < n)/\ls.length=j/\rE row ls j,
  ⟨y0,[],rfl,(fun _ h=>nomatch h),rfl,⟨.nil,fun _ h=>nomatch h⟩⟩,?_,?_⟩
 ·rintro j y ρ hy ⟨y1,ls,rfl,hin,hjl,lp⟩
  obtain ⟨rfl,hj⟩:=iH hy
  have j1:j < row.length:=by omega
  have j2:j+1 < row.length:=by omega
  have a1:atI (intz row) ((1:Int)+(j:Int) - 1)=some (.int row[j]):=by
   rw [show (1:Int)+(j:Int) - 1=(j:Int) by omega]; exact oS (by rw [bc6,bb2 j1]; rfl)
  have a2:atI (intz row) ((1:Int)+(j:Int))=some (.int row[j+1]):=by
   rw [show (1:Int)+(j:Int)=((j+1:Nat):Int) by omega]; exact oS (by rw [bc6,bb2 j2]; rfl)
  have hne:row[j] ≠ row[j+1]:=fun e=>by
   exact (bf2.mp nd) j (j+1) j1 j2 (by omega) e
  have m1:=inn _ (bh0 j1)
  have m2:=inn _ (bh0 j2)
  have g1:=bb2 j1
  have g2:=bb2 j2
  generalize row[j]=p at *
  generalize row[j+1]=r at *
  refine⟨_,rfl,_,rfl,_,rfl,_,_,rfl,rfl,_,_,_,rfl,rfl,a1,_,rfl,_,rfl,_,_,_,rfl,rfl,a2,_,_,rfl,_,rfl,_,rfl,_,_,rfl,rfl,_,_,_,rfl,rfl,a1,_,rfl,_,rfl,_,_,_,rfl,rfl,a2,_,_,rfl,by show 2<=1000; decide,rfl,trivial,by rw [R4]; omega,?_⟩
  refine⟨si (1+(j:Int)),ls ++ [(if r < p then r else p,if r > p then r else p)],?_,fun l hl=>?_,by rw [bc4,hjl]; rfl,lp.add nd g1 g2 ?_⟩
  ·unfold bE; rw [bd7]; rfl
  ·rcases be1.mp hl with hl | hl
   ·exact hin l hl
   ·rw [bc1.mp hl]
    dsimp only
    split <;> split <;> omega
  ·dsimp only
   split <;> split <;> omega
 rintro ρ ⟨y1,ls,rfl,hin,hjl,lp⟩
 rw [eD] at hjl
 refine⟨by decide,rfl,_,rfl,_,_,rfl,rfl,rfl,(fun z=>nomatch z),by omega,by omega,by decide,_,rfl,ls.map two,congrArg (fun z=>[PV.lst z]) (lY ls),by rw [bb4]; omega,?_,fun zs pz so=>?_⟩
 ·intro y hy z
  obtain ⟨l,_,rfl⟩:=bd1.mp hy
  cases z
 obtain ⟨ls',rfl,pl⟩:=wO pz
 have e1:(List.replicate n.toNat (List.map (fun (x:PV × Tg)=>x.fst) [(PV.int 1,Tg.fr)])).flatten=intz (List.replicate n.toNat 1):=aG8 _
 rw [<- lY,e1]
 refine⟨⟨_,_,rfl,rfl,hV _,by show 2<=1000; decide,S4 _ _,trivial,q _ ls' (WD.perm ?_ hin (by omega) lp.nd (fun w hw=>by rw [(List.mem_replicate.mp hw).2]; decide) pl so)⟩,fun ns z=>by cases z⟩
 rw [List.length_replicate]; omega
def oI:bD:=aS3
def aa7:aP:=(aK (dB (nB (bC (jU (bM (dD (a5 2) (qC (.int 8))) (qC (.int 4))) (qC (.int 1)))) (bC (qD (a5 1) (qC (.int 8))))) (bO (aB sG (a7 (aB g9 (a7 (a5 0) (a7 (qC (.int 0)) a9))) (a7 (a5 1) a9)))) dA)
 xJ)
theorem aV9:cU aa7 ["flow","many","way","wants","k","cell","pairs","one","other"] oI:=by
 rintro xs Q ⟨x,ns,n,wy,rfl,hx,hns,n0,n1,q⟩
 have d4:(0:Int) < 4:=by decide
 have mid:xJ { nx:=fun _=>Q .non,rt:=Q } [some (.sh (flat x) x),si n,si wy,none,none,none,none,none,none]:=aS4 hx hns n0 n1 q
 refine⟨_,rfl,_,_,rfl,rfl,⟨by decide,by decide⟩,_,_,rfl,rfl,d4,.inl ⟨_,_,rfl,rfl,_,rfl,?_⟩⟩
 cases hc:(decide (wy / 8 % 4=1)) with
 | false=>exact b6 (b6 mid)
 | true=>
  refine bV ⟨_,rfl,_,_,rfl,rfl,_,rfl,?_⟩
  by_cases h:(8:Int) < n
  ·dsimp only
   rw [bc9 h]
   exact bV ⟨_,rfl,x,ns,0,rfl,hx,by decide,_,rfl,_,n,rfl,by omega,by omega,fun ws ls w=>⟨trivial,q ws ls w⟩⟩
  ·dsimp only
   rw [bb7 h]; exact b6 mid
def sH:bD:=fun xs Q=>∃ ns k,xs = [.scr ns,.int k]/\ns.length<=63/\0<=k/\∀ n ws ls,0<=n->n<=40->WD n ws ls->Q (bG ws ls)
def aa8:aP:=(aK (aY 2 (aB g9 (a7 (a5 0) (a7 (qC (.int 0)) a9))))
 (aK (aY 3 (bM (a5 2) (qC (.int 9))))
 (aK (dB (bC (jU (bM (dD (a5 2) (qC (.int 9))) (qC (.int 4))) (qC (.int 1)))) (aY 3 (bM (dD (a5 2) (qC (.int 36))) (qC (.int 41)))) dA)
 (bO (aB oI (a7 (qA (a5 0) (pY (a5 1)) pX) (a7 (a5 3) (a7 (dD (a5 2) (qC (.int 1476))) a9))))))))
theorem aW0:cU aa8 ["script","at","head","many"] sH:=by
 rintro xs Q ⟨ns,k,rfl,hl,k0,q⟩
 refine⟨_,rfl,_,ns,0,rfl,.inl rfl,by decide,trivial,?_⟩
 generalize ns.getD (0:Int).toNat 0=head
 refine⟨_,rfl,_,_,rfl,rfl,(by show (0:Int) < 9; decide),trivial,?_⟩
 have fin:∀ many:Int,0<=many->many<=40->(bO (aB oI (a7 (qA (a5 0) (pY (a5 1)) pX) (a7 (a5 3) (a7 (dD (a5 2) (qC (.int 1476))) a9))))) { nx:=fun _=>Q .non,rt:=Q } [some (.sh true (.scr ns)),si k,si head,si many]:=fun many h0 h1=>by
  refine⟨_,rfl,_,rfl,_,rfl,_,rfl,cE _,_,rfl,_,rfl,_,_,rfl,rfl,⟨by decide,by decide⟩,_,ns.drop k.toNat,many,_,rfl,?_,by rw [bm3]; omega,h0,h1,fun ws ls w=>⟨trivial,q many ws ls h0 h1 w⟩⟩
  show iL (.lst (j9 (intz ns) (some k) none)) _
  rw [aH4 ns k0]
  exact .inr rfl
 refine⟨_,rfl,_,_,rfl,rfl,⟨by decide,by decide⟩,_,_,rfl,rfl,(by show (0:Int) < 4; decide),.inl ⟨_,_,rfl,rfl,_,rfl,?_⟩⟩
 cases hc:(decide (head / 9 % 4=1)) with
 | false=>
  have a1:=bj5 head (show (9:Int) ≠ 0 by decide)
  have a2:=bh3 head (show (0:Int) < 9 by decide)
  exact b6 (fin (head % 9) a1 (by omega))
 | true=>
  have a1:=bj5 (head / 36) (show (41:Int) ≠ 0 by decide)
  have a2:=bh3 (head / 36) (show (0:Int) < 41 by decide)
  exact bV ⟨_,rfl,_,_,rfl,rfl,⟨by decide,by decide⟩,_,_,rfl,rfl,(by show (0:Int) < 41; decide),trivial,fin (head / 36 % 41) a1 (by omega)⟩
theorem oJ {O ms:List Int}{ρ:b7}{j:Nat}{x:PV}{Q:List PV->Prop} (hx:jR [none,some j] ρ = [none,some (.sh false x)]) (sx:gX x=some (intz O)) (hm:∀ k ∈ ms,0<=k/\k < (O.length:Int)) (ml:ms.length<=1000) (q:Q (intz (ms.map (b8 O)))) :
  (intz ms).length<=16000000/\∃ I:Nat->List PV->Prop,I 0 []/\(∀ i x acc,(intz ms)[i]? = some x->I i acc->bS 0 x false (jR [none,some j] ρ) fun ρ2=>dC ρ2 fun b=>if b=true then (cB (a5 1) (a5 0)) ρ2 fun y gy=>Nw gy y/\I (i+1) (acc ++ [y]) else I (i+1) acc)/\∀ acc,I (intz ms).length acc->Q acc:=by
 refine⟨by rw [bA]; omega,fun i acc=>acc=intz ((ms.take i).map (b8 O)),rfl,?_,?_⟩
 ·rintro i z acc hz rfl
  obtain ⟨h,rfl,hh⟩:=hJ hz
  obtain ⟨h0,h1⟩:=hm h (bg9 hh)
  rw [hx]
  refine⟨_,rfl,_,rfl,_,_,_,sx,rfl,lW h0 h1,o8 _ _,?_⟩
  dsimp only
  rw [bi9,hh,bd7]
  show _=intz (_ ++ [_])
  rw [gM]; rfl
 ·rintro acc rfl
  rw [bA,bj8]; exact q
theorem xD {n:Nat}{ms L:List Int} (p:ms.Perm L) (so:ms.Pairwise (· <= ·)) (nd:L.Nodup) (inn:∀ x ∈ L,0<=x/\x < (n:Int)):bB n ms=true:=by
 have n2:ms.Nodup:=p.nodup_iff.mpr nd
 exact aP3 ((so.and n2).imp fun {a b} h=>by have:=h.1; have:=h.2; omega) fun x hx=>inn x (p.mem_iff.mp hx)
theorem aW1 {n:Nat}{l:List Int} (nd:l.Nodup) (h:∀ x ∈ l,x ∈ rng n):l.length<=n:=by
 have:=x5 n (l.map Int.toNat) (bg4.mpr (nd.imp_of_mem fun {a b} ha hb ne e=>ne (by have:=bQ.mp (h a ha); have:=bQ.mp (h b hb); omega))) fun x hx=>by
  obtain ⟨y,hy,rfl⟩:=bd1.mp hx
  have:=bQ.mp (h y hy)
  omega
 rwa [bb4] at this
theorem xQ {n:Nat}{S O:List Int} (hs:bB n S=true) (hO:O=eG n S):S.length+O.length<=n:=by
 have oset:bB n O=true:=by rw [hO]; exact rK _ _
 have memO:∀ x,x ∈ O ↔ x ∈ rng n/\x ∉ S:=fun x=>by rw [hO]; exact bK
 rw [<- bc4]
 refine aW1 (bl0.mpr ⟨(eQ (cL hs).1).imp fun {a b} h e=>by omega,(eQ (cL oset).1).imp fun {a b} h e=>by omega,fun x hx y hy e=>((memO y).mp hy).2 (e ▸ hx)⟩) fun x hx=>?_
 rcases be1.mp hx with h | h
 ·exact bQ.mpr ((cL hs).2 x h)
 ·exact ((memO x).mp h).1
theorem xR {a b:List Int} (p:a.Perm b) (ha:a.Pairwise (· <= ·)) (hb:b.Pairwise (· <= ·)):a=b:=p.eq_of_pairwise (fun x y _ _ h1 h2=>Int.le_antisymm h1 h2) ha hb
def xS:bD:=S8
def aa9:aP:=(aK (aY 9 (aB rJ (a7 (a5 2) (a7 (aB g9 (a7 (a5 0) (a7 (qC (.int 2)) a9))) a9))))
 (aK (aY 10 (aB (sC fun _=>False) (a7 (a5 1) (a7 (a5 9) a9))))
 (aK (aY 11 (aB dG (a7 (aB kG (a7 (dI (eC (aB (jJ fun _=>False) (a7 (a5 1) (a7 (a5 3) a9)))) [none,some 9] (bS 0) dC (cB (a5 1) (a5 0))) a9)) a9)))
 (bO (q2 (jT 2 false) (aB (jJ fun _=>False) (a7 (a5 10) (a7 (aB dG (a7 (aB kG (a7 (dI (eC (a5 3)) [none,some 9] (bS 0) dC (cB (a5 1) (a5 0))) a9)) a9)) a9))) (a5 11))))))
def ab0:aP:=(aK (aY 7 (aB oA (a7 (a5 0) (a7 (qC (.int 2)) (a7 (aB eZ (a7 (a5 4) a9)) a9)))))
 (aK (aY 6 (dI (eC (aB (jJ fun _=>False) (a7 (a5 5) (a7 (a5 7) a9)))) [none,some 4] (bS 0) dC (cB (a5 1) (a5 0))))
 (aK (aY 8 (aB dG (a7 (aB kG (a7 (rH (aB lE (a7 (a5 3) a9)) (dI (eC (a5 7)) [none,some 4] (bS 0) dC (cB (a5 1) (a5 0)))) a9)) a9)))
 (aK (dB (bC (q2 (jT 2 true) (aB dG (a7 (aB kG (a7 (rH (aB lE (a7 (a5 3) a9)) (a5 6)) a9)) a9)) (aB (jJ fun _=>False) (a7 (a5 1) (a7 (a5 8) a9))))) (bO (qC (.bl false))) dA)
 aa9))))
def ab1:aP:=(aK (aY 5 (aB (sE fun _=>False) (a7 (a5 1) (a7 (a5 4) a9))))
 (aK (aY 6 (dI (eC (aB (jJ fun _=>False) (a7 (a5 5) (a7 (eY a9) a9)))) [none,some 4] (bS 0) dC (cB (a5 1) (a5 0))))
 (aK (dB (bC (q2 (jT 2 true) (aB dG (a7 (aB kG (a7 (rH (aB lE (a7 (a5 3) a9)) (a5 6)) a9)) a9)) (aB (jJ fun _=>False) (a7 (a5 1) (a7 (a5 3) a9))))) (bO (qC (.bl false))) dA)
 ab0)))
def ab2:aP:=(aK (aY 1 (aB sH (a7 (a5 0) (a7 (qC (.int 3)) a9))))
 (aK (aY 2 (aB eZ (a7 (cB (a5 1) (qC (.int 0))) a9)))
 (aK (aY 3 (aB oA (a7 (a5 0) (a7 (qC (.int 1)) (a7 (a5 2) a9)))))
 (aK (aY 4 (dI (gY (a5 2)) [none,some 3] (bS 0) (bC (q2 (v9 true) (a5 0) (a5 1))) (a5 0)))
 ab1))))
section
variable {Q : PV → Prop} {ns ws S O : List Int} {ls : List (Int × Int)} {y4 y5 y6 y7 y8 : Option Slot}
theorem aW2 (few:ws.length<=40) (wd:WD ws.length ws ls) (hs:bB ws.length S=true) (q:Q (.bl true)) :
  aa9 { nx:=fun _=>Q .non,rt:=Q } [some (.sh true (.scr ns)),some (.sh true (bG ws ls)),si (ws.length:Nat),some (.sh true (.tup (intz S))),y4,y5,y6,y7,y8,none,none,none]:=by
 have wb:Wb ws ls:=wd.wl.wb (by omega)
 have sl:=iK hs
 refine⟨_,rfl,_,rfl,_,ns,2,rfl,.inl rfl,by decide,_,_,rfl,by omega,by omega,fun os p=>⟨trivial,?_⟩⟩
 rw [bi1] at p
 have lo:os.length=ws.length:=by rw [p.length_eq,fO]
 refine⟨_,rfl,_,rfl,ws,ls,_,os,rfl,few,wd,.inr rfl,by omega,(fun z=>absurd p z),fun _ ws' ls' m pl wd'=>⟨trivial,?_⟩⟩
 have lw:=m.len
 have wb':Wb ws' ls':=wd'.wl.wb (by omega)
 have dN:=(cL hs).2
 refine⟨_,rfl,_,rfl,ws,ls,_,S,rfl,wb,.inl rfl,by omega,fun _ ms k en pm so=>?_,(fun z=>by rw [hs] at z; cases z)⟩
 have mi:∀ x ∈ ms,0<=x/\x < (os.length:Int):=fun x hx=>by rw [lo]; exact m5 hs (pm.mem_iff.mp hx)
 have ml:ms.length<=ws.length:=by rw [pm.length_eq]; exact lX hs k
 refine⟨intz ms,rfl,(fun z=>by cases z),oJ rfl rfl mi (by omega) ?_⟩
 refine⟨ms.map (b8 os),rfl,by rw [bb4]; omega,fun due pd sd=>?_⟩
 refine⟨⟨_,_,rfl,rfl,cE _,trivial,?_⟩,fun _ z=>by cases z⟩
 refine⟨_,rfl,_,rfl,intz S,rfl,(fun z=>by cases z),oJ rfl rfl (fun x hx=>by rw [lo]; exact dN x hx) (by omega) ?_⟩
 refine⟨S.map (b8 os),rfl,by rw [bb4]; omega,fun S' pS sS=>?_⟩
 refine⟨⟨_,_,rfl,rfl,cE _,?_⟩,fun _ z=>by cases z⟩
 have ndS:S.Nodup:=(eQ (cL hs).1).imp fun {a b} h e=>by omega
 have hS':bB ws'.length S'=true:=xD pS sS (bg4.mpr (ndS.imp_of_mem fun {a b} ha hb ne e=>ne (i4 p (dN a ha).1 (dN a ha).2 (dN b hb).1 (dN b hb).2 e))) fun x hx=>by
  obtain ⟨y,hy,rfl⟩:=bd1.mp hx
  rw [lw]
  exact rZ p (dN y hy).1 (dN y hy).2
 have sl':=iK hS'
 refine⟨ws',ls',_,S',rfl,wb',.inl rfl,by omega,fun _ ms' k' en' pm' so'=>?_,(fun z=>by rw [hS'] at z; cases z)⟩
 have e:ms'=due:=xR (pm'.trans ((aV7 wb wb' wd.inn p m pl hs hS' (fun x=>pS.mem_iff) en en').symm.trans ((pm.symm.map _).trans pd.symm))) so' sd
 subst e
 refine⟨_,rfl,.inl ⟨_,_,rfl,rfl⟩,v8 2 ms' ms',trivial,?_⟩
 show Q (.bl (c8 3 (.tup (intz ms')) (.tup (intz ms'))))
 rw [v6,bc9 rfl]; exact q
theorem xT {a b:List Int}{g g':Tg}{R:PK} (al:a.length<=1000) (bl:b.length<=1000) (r:R (.lst (intz (a ++ b))) .fr):wQ (.lst (intz a)) g (.lst (intz b)) g' R:=
 ⟨_,_,rfl,rfl,cE _,cE _,by rw [bA,bA]; omega,by rw [<- gM]; exact r⟩
theorem aW3 (few:ws.length<=40) (wd:WD ws.length ws ls) (hs:bB ws.length S=true) (hO:O=eG ws.length S) (q:Q (.bl true)) :
  ab0 { nx:=fun _=>Q .non,rt:=Q } [some (.sh true (.scr ns)),some (.sh true (bG ws ls)),si (ws.length:Nat),some (.sh true (.tup (intz S))),some (.sh true (.lst (intz O))),some (.sh true (bG (dM ws ls O) (cS ls O))),y6,none,none,none,none,none]:=by
 have wb:Wb ws ls:=wd.wl.wb (by omega)
 have sl:=iK hs
 have oset:bB ws.length O=true:=by rw [hO]; exact rK _ _
 have nd:O.Nodup:=(eQ (cL oset).1).imp fun {a b} h e=>by omega
 have ol:=iK oset
 have rl:(dM ws ls O).length=O.length:=bb4 _
 have wbr:=xP (O:=O) wb (by omega)
 have memO:∀ x,x ∈ O ↔ x ∈ rng ws.length/\x ∉ S:=fun x=>by rw [hO]; exact bK
 refine⟨_,rfl,_,rfl,_,_,rfl,rfl,_,ns,2,_,rfl,.inl rfl,by decide,by omega,by rw [bA]; omega,fun M up=>⟨trivial,?_⟩⟩
 rw [bA] at up
 have hM:=up.set
 have inM:∀ k ∈ M,0<=k/\k < (O.length:Int):=(cL hM).2
 have lM:=iK hM
 have hM':bB (dM ws ls O).length M=true:=by rw [rl]; exact hM
 refine⟨_,rfl,_,rfl,dM ws ls O,cS ls O,_,M,rfl,wbr,.inl rfl,by omega,fun _ ms m' en pm so=>?_,(fun z=>by rw [hM'] at z; cases z)⟩
 have mi:∀ x ∈ ms,0<=x/\x < (O.length:Int):=fun x hx=>by have:=m5 hM' (pm.mem_iff.mp hx); rw [rl] at this; exact this
 have ml:ms.length<=O.length:=by rw [pm.length_eq,<- rl]; exact lX hM' m'
 refine⟨intz ms,rfl,(fun z=>by cases z),oJ rfl rfl mi (by omega) ⟨trivial,?_⟩⟩
 refine⟨_,rfl,_,_,rfl,rfl,cE _,?_⟩
 refine⟨_,rfl,intz M,rfl,(fun z=>by cases z),oJ rfl rfl inM (by omega) ?_⟩
 refine xT (by omega) (by rw [bb4]; omega) ?_
 refine⟨S ++ M.map (b8 O),rfl,?_,fun B pB sB=>?_⟩
 ·rw [bc4,bb4]; have:=xQ hs hO; omega
 refine⟨⟨_,_,rfl,rfl,cE _,trivial,?_⟩,fun _ z=>by cases z⟩
 have ndS:S.Nodup:=(eQ (cL hs).1).imp fun {a b} h e=>by omega
 have ndM:M.Nodup:=(eQ (cL hM).1).imp fun {a b} h e=>by omega
 have ndA:(M.map (b8 O)).Nodup:=bg4.mpr (ndM.imp_of_mem fun {a b} ha hb ne e=>ne (by rw [<- (fC nd (inM a ha).1 (inM a ha).2).2,<- (fC nd (inM b hb).1 (inM b hb).2).2,e]))
 have ndB:(S ++ M.map (b8 O)).Nodup:=bl0.mpr ⟨ndS,ndA,fun x hx y hy e=>by
  obtain ⟨k,hk,rfl⟩:=bd1.mp hy
  exact ((memO _).mp (fC nd (inM k hk).1 (inM k hk).2).1).2 (e ▸ hx)⟩
 have inB:∀ x ∈ S ++ M.map (b8 O),0<=x/\x < (ws.length:Int):=fun x hx=>by
  rcases be1.mp hx with h | h
  ·exact (cL hs).2 x h
  ·obtain ⟨k,hk,rfl⟩:=bd1.mp h
   exact bQ.mp ((memO _).mp (fC nd (inM k hk).1 (inM k hk).2).1).1
 have hB:bB ws.length B=true:=xD pB sB ndB inB
 have bl:=iK hB
 refine⟨_,rfl,_,_,rfl,rfl,cE _,_,rfl,?_⟩
 refine xT (by omega) (by rw [bb4]; omega) ?_
 refine⟨S ++ ms.map (b8 O),rfl,?_,fun Z pZ sZ=>?_⟩
 ·rw [bc4,bb4]; have:=xQ hs hO; omega
 refine⟨⟨_,_,rfl,rfl,cE _,?_⟩,fun _ z=>by cases z⟩
 refine⟨_,rfl,_,rfl,ws,ls,_,B,rfl,wb,.inl rfl,by omega,fun _ ms2 m en2 pm2 so2=>?_,(fun z=>by rw [hB] at z; cases z)⟩
 have rb:=aa4 wb few hs hO hM hB (fun x=>by rw [pB.mem_iff,be1]) en en2
 have e:Z=ms2:=xR (pZ.trans ((((pm.map (b8 O)).append_left S)).trans (rb.trans pm2.symm))) sZ so2
 subst e
 refine⟨.inl ⟨_,_,rfl,rfl⟩,v8 2 Z Z,_,rfl,?_⟩
 show if (!c8 3 (.tup (intz Z)) (.tup (intz Z)))=true then _ else _
 rw [v6,bc9 rfl]
 exact b6 (aW2 few wd hs q)
theorem aW4 (few:ws.length<=40) (wd:WD ws.length ws ls) (hs:bB ws.length S=true) (hO:O=eG ws.length S) (q:Q (.bl true)) :
  ab1 { nx:=fun _=>Q .non,rt:=Q } [some (.sh true (.scr ns)),some (.sh true (bG ws ls)),si (ws.length:Nat),some (.sh true (.tup (intz S))),some (.sh true (.lst (intz O))),none,none,none,none,none,none,none]:=by
 have wb:Wb ws ls:=wd.wl.wb (by omega)
 have sl:=iK hs
 have oset:bB ws.length O=true:=by rw [hO]; exact rK _ _
 have ol:=iK oset
 have nd:O.Nodup:=(eQ (cL oset).1).imp fun {a b} h e=>by omega
 have rl:(dM ws ls O).length=O.length:=bb4 _
 have wbr:=xP (O:=O) wb (by omega)
 have memO:∀ x,x ∈ O ↔ x ∈ rng ws.length/\x ∉ S:=fun x=>by rw [hO]; exact bK
 refine⟨_,rfl,_,rfl,ws,ls,_,O,rfl,few,wb,.inr rfl,by omega,(fun z=>by rw [oset] at z; cases z),fun _=>⟨trivial,?_⟩⟩
 have h0:bB (dM ws ls O).length []=true:=rfl
 refine⟨_,rfl,by decide,rfl,dM ws ls O,cS ls O,_,[],rfl,wbr,.inl rfl,by decide,fun _ ms m' en pm so=>?_,(fun z=>by rw [h0] at z; cases z)⟩
 have mi:∀ x ∈ ms,0<=x/\x < (O.length:Int):=fun x hx=>by have:=m5 h0 (pm.mem_iff.mp hx); rw [rl] at this; exact this
 have ml:ms.length<=O.length:=by rw [pm.length_eq,<- rl]; exact lX h0 m'
 refine⟨intz ms,rfl,(fun z=>by cases z),oJ rfl rfl mi (by omega) ⟨trivial,?_⟩⟩
 have ndS:S.Nodup:=(eQ (cL hs).1).imp fun {a b} h e=>by omega
 refine⟨_,rfl,_,_,rfl,rfl,cE _,_,rfl,?_⟩
 refine xT (by omega) (by rw [bb4]; omega) ?_
 refine⟨S ++ ms.map (b8 O),rfl,?_,fun Z pZ sZ=>?_⟩
 ·rw [bc4,bb4]; have:=xQ hs hO; omega
 refine⟨⟨_,_,rfl,rfl,cE _,?_⟩,fun _ z=>by cases z⟩
 refine⟨_,rfl,_,rfl,ws,ls,_,S,rfl,wb,.inl rfl,by omega,fun _ ms2 m en2 pm2 so2=>?_,(fun z=>by rw [hs] at z; cases z)⟩
 have rb:=aa4 (M:=[]) wb few hs hO rfl hs (fun x=>by simp) en en2
 have e:Z=ms2:=xR (pZ.trans ((((pm.map (b8 O)).append_left S)).trans (rb.trans pm2.symm))) sZ so2
 subst e
 refine⟨.inl ⟨_,_,rfl,rfl⟩,v8 2 Z Z,_,rfl,?_⟩
 show if (!c8 3 (.tup (intz Z)) (.tup (intz Z)))=true then _ else _
 rw [v6,bc9 rfl]
 exact b6 (aW3 few wd hs hO q)
end
theorem aW5:cU ab2 ["script","web","many","seeds","others","rest","found","more","both","places","moved","due"] xS:=by
 rintro xs Q ⟨ns,rfl,hl,q⟩
 refine⟨_,rfl,ns,3,rfl,hl,by decide,fun n ws ls n0 n1 w=>⟨trivial,?_⟩⟩
 have ln:(ws.length:Int)=n:=w.many
 subst ln
 have few:ws.length<=40:=by omega
 refine⟨_,rfl,_,_,_,rfl,rfl,rfl,_,_,rfl,rfl,trivial,?_⟩
 rw [bA]
 refine⟨_,rfl,_,rfl,_,ns,1,_,rfl,.inl rfl,by decide,by omega,by omega,fun S up=>⟨trivial,?_⟩⟩
 have hs:=up.set
 refine⟨_,rfl,(ws.length:Int),rfl,by omega,by omega,by rw [eD]; omega,fun i acc=>acc=intz (((rng ws.length).take i).filter fun x=>!decide (x ∈ S)),rfl,?_,?_⟩
 ·rintro i z acc hz rfl
  rw [kQ] at hz
  obtain ⟨h,rfl,hh⟩:=hJ hz
  rw [bi1] at hh
  have tk:=rA (p:=fun x=>!decide (x ∈ S)) hh
  refine⟨_,rfl,_,rfl,_,S,rfl,rfl,_,rfl,?_⟩
  dsimp only
  show if (!decide (h ∈ S))=true then _ else _
  by_cases c:h ∈ S
  ·rw [bc9 c] at tk ⊢
   refine b6 ?_
   rw [if_neg (by decide),bf8] at tk
   rw [tk]
  ·rw [bb7 c] at tk ⊢
   refine bV ⟨_,rfl,trivial,?_⟩
   rw [if_pos (by decide)] at tk
   rw [tk,gM]; rfl
 ·rintro acc rfl
  rw [eD,bi1,bh8 (by rw [fO]; exact bb6 _)]
  exact⟨trivial,aW4 few (by exact w) hs rfl q⟩
end Core
namespace K_k14
open PySem PySem.W L2 PP Core
theorem _root_.L2.FnScope.au {N P:List Str}{s:Scope} (a:s.kind=.function:=by rfl) (b:s.isCoroutine=false:=by rfl) (c:s.isGenerator=false:=by rfl) (d:N.Nodup:=by decide +kernel) (e:N.take P.length=P:=by rfl) (f:∀ x∈P,s.names.lookup x=some .local∨s.names.lookup x=some .cell:=by decide +kernel) (g:∀ y∈s.names,y.2≠.free:=by decide +kernel):FnScope N P s:=⟨a,b,c,d,e,f,g⟩
def aX (i:Nat):Stmt:=PySem.Challenge.pw_kindleweb_k14_whole_rest_webs_burn.main.body.getD i (.Pass ⟨0,0,0,0⟩)
structure FK (K:Frag) (n:Str) (i:Nat) (f:Addr) (d:FuncData):Prop where
 a:nsIn K mainGlobals n=some (some (.ref f))
 F:fG K n n (aX i) f d
structure FM (K:Frag) (mg:Str->Option Value) (n:Str) (i:Nat) (f:Addr) (d:FuncData):Prop where
 F:fG K n n (aX i) f d
 m:mg n=some (.ref f)
theorem FK.M {K:Frag}{mg:Str->Option Value}{n:Str}{i:Nat}{f:Addr}{d:FuncData}{h:Heap} (z:FK K n i f d) (X:K.In h) (G:h.Ns mainGlobals mg):FM K mg n i f d:=⟨z.F,mg_of X G z.a⟩
abbrev Hb (x:Str) (ps:List Str) (i:Nat):Prop:=∀ (kV doc pm:Value) (an:Option Addr) (cdv ct:Value) (us:List Value),us.length=ps.length->bindArgs (fnOf x x (iY (aX i)) (eI (aX i)) (aU (aX i)) .none kV doc pm an cdv ct) ⟨us,[]⟩=pure (ps.zip us)
theorem ab3 {A:Around}{k:Nat} (hr:cD k A):A.units+3 < cLine:=by have:=hr.units; omega
section
variable {P : Program} {w : World} {K : Frag} {mg : Str → Option Value} {base : Heap} {f : Addr} {fd : FuncData} {k i : Nat} {x : Str} {ps N : List Str}
theorem Df.au {p:bD} (F:FM K mg x i f fd) (S:FnScope N ps (aU (aX i))) (body:∀ (cdv:Value) (A:Around) (outer:List Env) (s:Shared) (H:Hp) (E:XK),cD k (A.deeper (PyProof.Rows.envOfC x (aU (aX i)) s.heap.objs.size f cdv))->∃ t,fA (dF e8 P w K mg base N x (aU (aX i)) f cdv A outer s H E).nox (eI (aX i)) t/\∀ xs Q,p xs Q->t { nx:=fun _=>Q .non,rt:=Q } (fL N xs)) (hb:Hb x ps i:=by intro _ _ _ _ _ _ us hl; first | (obtain ⟨_,rfl⟩:=rN hl; rfl) | (obtain ⟨_,_,rfl⟩:=x3 hl; rfl) | (obtain ⟨_,_,_,rfl⟩:=x4 hl; rfl) | (obtain ⟨_,_,_,_,rfl⟩:=V1 hl; rfl) | (obtain ⟨_,_,_,_,_,rfl⟩:=us5 hl; rfl)) (len:∀ xs Q,p xs Q->xs.length=ps.length:=by intro xs Q h; repeat (first | (obtain ⟨rfl,_⟩:=h; rfl) | (obtain ⟨_,h⟩:=h))):Df P w K mg base (k+1) x ps p:=
 Df.of F.F F.m S hb len body
theorem cM.au {p:eS} (F:FM K mg x i f fd) (S:FnScope N ps (aU (aX i))) (t:(Str->Prop)->aP) (rd:∀ Ep xs Q,p Ep xs Q->t Ep { nx:=fun _=>Q .non,rt:=Q } (fL N xs)) (body:∀ (cdv:Value) (A:Around) (outer:List Env) (s:Shared) (H:Hp) (E:XK) (Ep:Str->Prop),cD k (A.deeper (PyProof.Rows.envOfC x (aU (aX i)) s.heap.objs.size f cdv))->lV (dF (eO P w) P w K mg base N x (aU (aX i)) f cdv A outer s H E) (EX K H Ep)->fA (dF (eO P w) P w K mg base N x (aU (aX i)) f cdv A outer s H E) (eI (aX i)) (t Ep)) (hb:Hb x ps i:=by intro _ _ _ _ _ _ us hl; first | (obtain ⟨_,rfl⟩:=rN hl; rfl) | (obtain ⟨_,_,rfl⟩:=x3 hl; rfl) | (obtain ⟨_,_,_,rfl⟩:=x4 hl; rfl) | (obtain ⟨_,_,_,_,rfl⟩:=V1 hl; rfl) | (obtain ⟨_,_,_,_,_,rfl⟩:=us5 hl; rfl)) (len:∀ Ep xs Q,p Ep xs Q->xs.length=ps.length:=by intro Ep xs Q h; repeat (first | (obtain ⟨rfl,_⟩:=h; rfl) | (obtain ⟨_,h⟩:=h))):cM P w K mg base (k+1) x ps p:=
 cM.of F.F F.m S hb t len rd body
end
section
variable {P : Program} {w : World} {K : Frag} {mg : Str → Option Value} {base : Heap} {f : Addr} {fd : FuncData}
abbrev ab4:Stmt:=aX 11
theorem sI:FnScope ["web","around","one","other"] ["web"] (aU ab4):=.au
theorem aW6 (F:fG K "near_lists" "near_lists" ab4 f fd):dE P w K mg base e8 1 f fd ["web"] R8:=by
 refine F.ok sI (fun vs H Q E h=>?_) (fun cdv A outer s H vs Q E hr h=>?_)
 ·obtain ⟨v,ws,ls,rfl,_⟩:=h
  rfl
 obtain ⟨v,ws,ls,rfl,W,hn,hm,hin,q⟩:=h
 refine⟨_,oM (aq2 (i:=1) (N:=["want"]) (fr:=[none]) rfl (cY.of rfl rfl) (yI (mP tF (pv 0) sK (fun _ _=>rfl)))
   ⟨fun _ _ _ _=>iQ (i:=0) (bg1 _ _) rfl (Or.inl rfl) (.inr rfl),fun _ _ _ _=>B4,fun _ _ _ _=>zB fU⟩ sI.nd rfl rfl rfl)
  (oM (yN PassesOwn.never rfl (yI (mP tF (pv 0) sK (fun _ _=>rfl))) (sR (n:=2) rfl (kY (iQ (i:=2) sI.nd rfl (Or.inl rfl) (.inr rfl)) (kY (iQ (i:=3) sI.nd rfl (Or.inl rfl) (.inr rfl)) sQ)) )
   (oM (mG (mR bo7 PySem.F.slot_list_append PySem.F.type_list_append mS (mP tE (pv 1) (pv 2) (fun _ _=>rfl)) (fE (pv 3) fU)))
   (sM (mG (mR bo7 PySem.F.slot_list_append PySem.F.type_list_append mS (mP tE (pv 1) (pv 3) (fun _ _=>rfl)) (fE (pv 2) fU))))))
  (sM (sO (pv 1)))),?_⟩
 obtain ⟨a,p,q',ys,rfl,ha,hp,hq,hL⟩:=W.at_
 have lw:(ws.map V.int).length=ws.length:=bb4 _
 refine⟨_,rfl,a,_,_,_,rfl,rfl,aI.of ha,rfl,p,rfl,⟨_,aI.of hp⟩,aq4 (aq3 (aI.of hp)) (fun i acc H'=>∃ bs:List Addr,acc=bs.map V.ref/\bs.length=i/\bs.Nodup/\∀ b ∈ bs,H b=none/\H' b=some (.lst [])) (by rw [lw]; exact bg6 (mW hn))
  (fun D hD=>⟨[],rfl,rfl,List.nodup_nil,fun _ z=>nomatch z⟩) (fun i x acc D H' hx c hPv=>?_) (fun D acc H' hD sm hDa hlen hPv=>?_)⟩
 ·obtain ⟨bs,rfl,hbl,nd,hb⟩:=hPv
  refine⟨wk0 (n:=none),ar7 ⟨bf1 _,fun r hr'=>?_⟩⟩
  have hrD:r ≠ D:=fun z=>by rw [z,c.acc] at hr'; cases hr'
  have hrH:H r=none:=c.same.free hr'
  refine c.yes (b9 hr' _) ⟨bs ++ [r],by simp,by simp [hbl],?_,fun b hm=>?_⟩
  ·refine bl0.mpr ⟨nd,bg1 _ _,fun b hb1 b' hb2 e=>?_⟩
   rw [bc1.mp hb2] at e
   rw [e] at hb1
   rw [(hb r hb1).2] at hr'; cases hr'
  ·rcases be1.mp hm with hm | hm
   ·have hbD:b ≠ D:=fun z=>by
     rw [z] at hm
     have:=(hb D hm).2
     rw [c.acc] at this
     have:bs.map V.ref = []:=by injection this with e1; injection e1
     have:bs = []:=List.map_eq_nil_iff.mp this
     rw [this] at hm; simp at hm
    refine⟨(hb b hm).1,?_⟩
    rw [aH hbD,aH (cA (hb b hm).2 hr')]
    exact (hb b hm).2
   ·rw [bc1.mp hm]
    exact⟨hrH,by rw [aH hrD,aW]⟩
 ·obtain ⟨bs,rfl,hbl,nd,hb⟩:=hPv
  rw [lw] at hbl
  have R0:j5 H H' D bs (fun k=>aZ (ls.take 0) k):=by
   refine⟨hD,fun b hm=>⟨(hb b hm).1,fun z=>?_⟩,nd,hDa,fun k b hk=>(hb b (bg9 hk)).2,sm⟩
   rw [z] at hm
   have:=(hb D hm).2
   rw [hDa] at this
   have:bs.map V.ref = []:=by injection this with e1; injection e1
   have:bs = []:=List.map_eq_nil_iff.mp this
   rw [this] at hm; simp at hm
  have lL:=hL.length
  refine⟨_,rfl,a,_,_,_,rfl,rfl,aI.of (sm _ _ ha),rfl,q',rfl,⟨_,aI.of (sm _ _ hq)⟩,ah2 (K:=K) (a:=q') (xs:=ys) (fun i σ H2=>∃ x y:Option V,σ = [some (.ref a),some (.ref D),x,y]/\j5 H H2 D bs (fun k=>aZ (ls.take i) k))
   ⟨none,none,rfl,R0⟩ (fun i σ H2 _ ⟨_,_,_,R⟩=>aI.of (R.same _ _ hq)) ?_ ?_⟩
  ·rintro i y σ H2 hi ⟨x1,x2,rfl,R⟩
   obtain ⟨l,b,hl,rfl,hbt⟩:=hL.get hi
   have hlm:l ∈ ls:=bg9 hl
   obtain ⟨⟨h1,h2⟩,h3,h4⟩:=hin l hlm
   have k1:l.1.toNat < bs.length:=by omega
   have k2:l.2.toNat < bs.length:=by omega
   have e1:bs[l.1.toNat]? = some (bs[l.1.toNat]):=bb2 k1
   have e2:bs[l.2.toNat]? = some (bs[l.2.toNat]):=bb2 k2
   refine⟨b,_,rfl,aI.of (R.same _ _ hbt),rfl,_,_,rfl,_,_,rfl,rfl,?_⟩
   refine⟨_,rfl,_,rfl,D,_,_,.ref bs[l.1.toNat],rfl,rfl,aL.of R.row,pF h1 (by rw [bc6,e1]; rfl),mZ (aL.of (R.rows _ _ e1)),_,rfl,_,_,_,rfl,rfl,R.rows _ _ e1,?_,?_⟩
   ·rw [bb4]
    have:=pE (ls.take i) (l.1.toNat:Nat)
    rw [bk4] at this
    exact iC (by omega)
   ·have R1:=R.app e1 l.2
    refine⟨_,rfl,_,rfl,D,_,_,.ref bs[l.2.toNat],rfl,rfl,aL.of R1.row,pF h3 (by rw [bc6,e2]; rfl),mZ (aL.of (R1.rows _ _ e2)),_,rfl,_,_,_,rfl,rfl,R1.rows _ _ e2,?_,?_⟩
    ·rw [bb4]
     have:=pE (ls.take i) (l.2.toNat:Nat)
     rw [bk4] at this
     split
     ·rw [bc4,bk7]; exact iC (by omega)
     ·exact iC (by omega)
    ·have R2:=R1.app e2 l.1
     refine⟨_,_,rfl,R2.congr fun k hk=>?_⟩
     rw [ar6 hl]
     have c1:(k=l.1.toNat) ↔ l.1=(k:Int):=by omega
     have c2:(k=l.2.toNat) ↔ l.2=(k:Int):=by omega
     by_cases d1:k=l.1.toNat
     ·by_cases d2:k=l.2.toNat
      ·rw [if_pos d2,if_pos d1,if_pos (c1.mp d1),if_pos (c2.mp d2)]; simp
      ·rw [if_neg d2,if_pos d1,if_pos (c1.mp d1),if_neg (fun z=>d2 (c2.mpr z))]; simp
     ·by_cases d2:k=l.2.toNat
      ·rw [if_pos d2,if_neg d1,if_neg (fun z=>d1 (c1.mpr z)),if_pos (c2.mp d2)]; simp
      ·rw [if_neg d2,if_neg d1,if_neg (fun z=>d1 (c1.mpr z)),if_neg (fun z=>d2 (c2.mpr z))]; simp
  ·
   rintro σ H2 ⟨x1,x2,rfl,R⟩
   refine⟨_,rfl,q D bs H2 hbl ?_⟩
   rw [lL,bj8] at R
   exact R
theorem ab5:FnScope ["many","link","one","other"] ["many","link"] (aU (aX 8)):=.au
theorem aW7 (B:Bt mg) (F:FM K mg "lesser_first" 8 f fd)  : Df P w K mg base 1 "lesser_first" ["many","link"] rW:=
 Df.au F ab5 (fun cdv A outer s H E hr=>by
  have nd:=ab5.nd
  exact⟨(Y4),(aM (bI (i:=2) nd (aQ8 B rfl (a8 (qv 1) aC)))
   (aM (bI (i:=3) nd (aQ7 B rfl (a8 (qv 1) aC)))
   (aM (dL (nO (K1 (nN (qv 2) aF) (K0 (ay6 (qv 3) (qv 0))))) (aS nP) dJ)
   (aM (dL (kJ (qv 2) (qv 3)) (aS nP) dJ)
   (aS (cG (fY (a8 (qv 2) (a8 (qv 3) aC))))))))),aS0⟩)
theorem aW8:FnScope ["things"] ["things"] (aU (aX 9)):=.au
theorem R9 (B:Bt mg) (F:FM K mg "rises" 9 f fd)  : Df P w K mg base 1 "rises" ["things"] m9:=
 Df.au F aW8 (fun cdv A outer s H E hr=>by
  have hu:=kB hr
  exact⟨(xH),(aS (cG (K5 B rfl (a8 (T3 (N:=["ahead","behind"]) (fr:=[none,none]) (aR5 B (qv 0) (L5 (qv 0) (L4 aF) L3)) (fun _ _ _ _=>(aR1 hu (qv 0) (qv 1)))) aC)))),aR8⟩)
theorem aW9:FnScope ["web"] ["web"] (aU (aX 10)):=.au
theorem aX0 (B:Bt mg) (F:FM K mg "hearths_in" 10 f fd)  : Df P w K mg base 1 "hearths_in" ["web"] jF:=
 Df.au F aW9 (fun cdv A outer s H E hr=>by
  exact⟨(P7),(aS (cG (gJ B (a8 (cF (qv 0) aF) aC)))),aD6⟩)
theorem ab6:FnScope ["hearths","inside","hearth"] ["hearths"] (aU (aX 18)):=.au
theorem aX1 (B:Bt mg) (F:FM K mg "marked" 18 f fd)  : Df P w K mg base 1 "marked" ["hearths"] o4:=
 Df.au F ab6 (fun cdv A outer s H E hr=>by
  have nd:=ab6.nd
  have hu:=kB hr
  exact⟨(Q5),(aM (eN (i:=1) nd vH)
   (aM (fZ 2 nd (fM (qv 0))
    (aS (vJ hu (i:=1) (qv 2) qE)))
   (aS (qI 1)))),aE2⟩)
theorem aX2:FnScope ["hearths","inside"] ["hearths","inside"] (aU (aX 19)):=.au
theorem aX3 (B:Bt mg) (F:FM K mg "count_inside" 19 f fd)  : Df P w K mg base 1 "count_inside" ["hearths","inside"] oH:=
 Df.au F aX2 (fun cdv A outer s H E hr=>by
  have hu:=kB hr
  exact⟨(Z7),(aS (cG (gJ B (a8 (vO (N:=["hearth","inside"]) (fr:=[none,some 1]) (fM (qv 0)) (fun _ _ _ _=>(vB hu (qv 0) (qv 1))) (fun _ _ _ _=>(qv 0))) aC)))),aU3⟩)
theorem aX4:FnScope ["script","k"] ["script","k"] (aU (aX 28)):=.au
theorem aX5 (B:Bt mg) (F:FM K mg "_law_cell_at" 28 f fd)  : Df P w K mg base 1 "_law_cell_at" ["script","k"] g9:=
 Df.au F aX4 (fun cdv A outer s H E hr=>by
  exact⟨(R3),(aM (dL (nN (qv 1) (gJ B (a8 (qv 0) aC))) (aS (cG (cF (qv 0) (qv 1)))) dJ)
   (aS (cG aF))),aE8⟩)
theorem ab7:FnScope ["wants_cell","links_cell","many","most","wants","k","links","one","other"] ["wants_cell","links_cell","many","most"] (aU (aX 29)):=.au
theorem aX6 (B:Bt mg) (F:FM K mg "_law_web_of_digits" 29 f fd)  : Df P w K mg base 1 "_law_web_of_digits" ["wants_cell","links_cell","many","most"] rY:=
 Df.au F ab7 (fun cdv A outer s H E hr=>by
  have nd:=ab7.nd
  exact⟨(Y6),(aM (eN (i:=4) nd (iG aC))
   (aM (fZ 5 nd (jC rfl B.range (qv 2))
    (aM (kK 4 (bN (qv 0) (qv 3)))
    (aS (bI (i:=0) nd (dP (qv 0) (qv 3))))))
   (aM (eN (i:=6) nd (iG aC))
   (aM (fZ 7 nd (jC rfl B.range (qv 2))
    (aS (fZ 8 nd (K3 rfl B.range (jB (qv 7) aF) (qv 2))
     (aM (dL (kJ (bN (qv 1) aF) aF) (aS (kK 6 (fY (a8 (qv 7) (a8 (qv 8) aC))))) dJ)
     (aS (bI (i:=1) nd (dP (qv 1) aF)))))))
   (aS (cG (fY (a8 (dQ B (a8 (qv 4) aC)) (a8 (dQ B (a8 (qv 6) aC)) aC))))))))),aS2⟩)
theorem ab8:FnScope ["cell","many","left","row","k","number","links"] ["cell","many"] (aU (aX 30)):=.au
theorem aX7 (B:Bt mg) (F:FM K mg "_law_path" 30 f fd)  : Df P w K mg base 1 "_law_path" ["cell","many"] sG:=
 Df.au F ab8 (fun cdv A outer s H E hr=>by
  have nd:=ab8.nd
  exact⟨(aa6),(aM (eN (i:=2) nd (wJ B (qv 1)))
   (aM (eN (i:=3) nd (iG aC))
   (aM (fZ 4 nd (jC rfl B.range (qv 1))
    (aM (bI (i:=5) nd (bN (gI (jB (jB (bN (qv 0) aF) (gI (qv 4) (qv 4))) aF) aF) aF))
    (aS (S9 3 2 (bN (dP (bN (gI (qv 5) (qv 5)) aF) aF) (gJ B (a8 (qv 2) aC)))))))
   (aM (eN (i:=6) nd (iG aC))
   (aM (fZ 4 nd (K3 rfl B.range aF (qv 1))
    (aS (kK 6 (fY (a8 (K6 B rfl (a8 (cF (qv 3) (qF (qv 4) aF)) (a8 (cF (qv 3) (qv 4)) aC))) (a8 (vK B rfl (a8 (cF (qv 3) (qF (qv 4) aF)) (a8 (cF (qv 3) (qv 4)) aC))) aC))))))
   (aS (cG (fY (a8 (aF6 (fY (a8 aF aC)) (qv 1)) (a8 (dQ B (a8 (R7 B (a8 (qv 6) aC)) aC)) aC)))))))))),aV8⟩)
theorem ab9:FnScope ["many","cell","left","places","digits","rest","k","number","spot"] ["many","cell"] (aU (aX 34)):=.au
theorem aX8 (B:Bt mg) (F:FM K mg "_law_places" 34 f fd)  : Df P w K mg base 1 "_law_places" ["many","cell"] rJ:=
 Df.au F ab9 (fun cdv A outer s H E hr=>by
  have nd:=ab9.nd
  exact⟨(T6),(aM (eN (i:=2) nd (wJ B (qv 0)))
   (aM (eN (i:=3) nd (iG aC))
   (aM (bI (i:=4) nd (ay5 (bN (qv 1) aF) aF))
   (aM (bI (i:=5) nd (dP (qv 1) aF))
   (aM (fZ 6 nd (jC rfl B.range (qv 0))
    (aM (bI (i:=7) nd (bN (gI (jB (jB (bN (qv 1) aF) (gI (qv 6) (qv 6))) aF) aF) aF))
    (aM (bI (i:=8) nd (bN (dP (bN (gI (qv 7) (qv 7)) aF) aF) (gJ B (a8 (qv 2) aC))))
    (aM (dL (J9 (qv 4)) (aS (bI (i:=8) nd (bN (qv 5) (gJ B (a8 (qv 2) aC))))) dJ)
    (aM (bI (i:=5) nd (dP (qv 5) (gJ B (a8 (qv 2) aC))))
    (aS (S9 3 2 (qv 8))))))))
   (aS (qI 3))))))),aK7⟩)
theorem ac0:FnScope ["wants","links","want","pairs"] ["wants","links"] (aU (aX 7)):=.au
theorem aX9 (B:Bt mg) (F:FM K mg "made_web" 7 f fd) (d_rises:Df P w K mg base 1 "rises" ["things"] m9) (d_lesser_first:Df P w K mg base 1 "lesser_first" ["many","link"] rW) {u_MOST_HEARTHS:Nat} (m_MOST_HEARTHS:mg "MOST_HEARTHS" = some (.int 40 u_MOST_HEARTHS)) {u_MOST_WANTED:Nat} (m_MOST_WANTED:mg "MOST_WANTED" = some (.int 60 u_MOST_WANTED)):Df P w K mg base 2 "made_web" ["wants","links"] rX:=
 Df.au F ac0 (fun cdv A outer s H E hr=>by
  have nd:=ac0.nd
  exact⟨(Y5),(aM (dL (qG (gJ B (a8 (qv 0) aC)) (T4 rfl m_MOST_HEARTHS)) (aS nP) dJ)
   (aM (fZ 2 nd (fM (qv 0))
    (aS (dL (nO (K1 (nN (qv 2) aF) (K0 (qG (qv 2) (T4 rfl m_MOST_WANTED))))) (aS nP) dJ)))
   (aM (bI (i:=3) nd (aM7 B (a8 (nR (N:=["link","wants"]) (fr:=[none,some 0]) (fM (qv 1)) (fun _ _ _ _=>(bP d_lesser_first hr (a8 (gJ B (a8 (qv 1) aC)) (a8 (qv 0) aC))))) aC)))
   (aM (dL (vE (qH (bP d_rises hr (a8 (qv 3) aC)))) (aS nP) dJ)
   (aS (cG (fY (a8 (dQ B (a8 (qv 0) aC)) (a8 (dQ B (a8 (qv 3) aC)) aC))))))))),aS1⟩)
theorem aY0:FnScope ["web","number"] ["web","number"] (aU (aX 12)):=.au
theorem aY1 (B:Bt mg) (F:FM K mg "is_hearth" 12 f fd) (d_hearths_in:Df P w K mg base 1 "hearths_in" ["web"] jF):Df P w K mg base 2 "is_hearth" ["web","number"] nZ:=
 Df.au F aY0 (fun cdv A outer s H E hr=>by
  exact⟨(P9),(aS (cG (vG (J8 (qv 1) aF) (vF (ay4 (qv 1) (bP d_hearths_in hr (a8 (qv 0) aC))))))),aD7⟩)
theorem aY2:FnScope ["web","numbers"] ["web","numbers"] (aU (aX 15)):=.au
theorem aY3 (B:Bt mg) (F:FM K mg "has_each_once" 15 f fd) (d_hearths_in:Df P w K mg base 1 "hearths_in" ["web"] jF):Df P w K mg base 2 "has_each_once" ["web","numbers"] sA:=
 Df.au F aY2 (fun cdv A outer s H E hr=>by
  have hu3:=ab3 hr
  exact⟨(Y9),(aS (cG (L1 hu3 (aI4 B (a8 (qv 1) aC)) (wJ B (bP d_hearths_in hr (a8 (qv 0) aC)))))),aS9⟩)
theorem aY4:FnScope ["hearths","inside"] ["hearths","inside"] (aU (aX 20)):=.au
theorem aY5 (B:Bt mg) (F:FM K mg "count_outside" 20 f fd) (d_count_inside:Df P w K mg base 1 "count_inside" ["hearths","inside"] oH):Df P w K mg base 2 "count_outside" ["hearths","inside"] sD:=
 Df.au F aY4 (fun cdv A outer s H E hr=>by
  exact⟨(Z8),(aS (cG (qF (gJ B (a8 (qv 0) aC)) (bP d_count_inside hr (a8 (qv 0) (a8 (qv 1) aC)))))),aU4⟩)
theorem aY6:FnScope ["web","around","burning","hearth"] ["web","around","burning","hearth"] (aU (aX 24)):=.au
theorem aY7 (B:Bt mg) (F:FM K mg "can_kindle" 24 f fd) (d_count_inside:Df P w K mg base 1 "count_inside" ["hearths","inside"] wF):Df P w K mg base 2 "can_kindle" ["web","around","burning","hearth"] rC:=
 Df.au F aY6 (fun cdv A outer s H E hr=>by
  have hu:=kB hr
  exact⟨(Q7),(aS (cG (vG (ay8 hu (qv 3) (qv 2)) (vF (J8 (bP d_count_inside hr (a8 (cF (qv 1) (qv 3)) (a8 (qv 2) aC))) (cF (cF (qv 0) aF) (qv 3))))))),aE4⟩)
theorem ac1:FnScope ["flow","many","way","wants","k","cell","pairs","one","other"] ["flow","many","way"] (aU (aX 31)):=.au
theorem aY8 (B:Bt mg) (F:FM K mg "_law_web" 31 f fd) (d__law_path:Df P w K mg base 1 "_law_path" ["cell","many"] sG) (d__law_web_of_digits:Df P w K mg base 1 "_law_web_of_digits" ["wants_cell","links_cell","many","most"] rY) (d__law_cell_at:Df P w K mg base 1 "_law_cell_at" ["script","k"] g9):Df P w K mg base 2 "_law_web" ["flow","many","way"] oI:=
 Df.au F ac1 (fun cdv A outer s H E hr=>by
  have nd:=ac1.nd
  have hu:=kB hr
  exact⟨(aa7),(aM (dL (nO (vD (kJ (bN (dP (qv 2) aF) aF) aF) (vC (qG (qv 1) aF)))) (aS (cG (bP d__law_path hr (a8 (bP d__law_cell_at hr (a8 (qv 0) (a8 aF aC))) (a8 (qv 1) aC))))) dJ)
   (aM (dL (nO (vD (kJ (bN (dP (qv 2) aF) aF) aF) (vC (nN (qv 1) aF)))) (aS (cG (bP d__law_web_of_digits hr (a8 (bP d__law_cell_at hr (a8 (qv 0) (a8 aF aC))) (a8 (bP d__law_cell_at hr (a8 (qv 0) (a8 aF aC))) (a8 (qv 1) (a8 (cF (iG (a8 aF (a8 aF (a8 aF (a8 aF aC))))) (bN (qv 2) aF)) aC))))))) dJ)
   (aM (eN (i:=3) nd (iG aC))
   (aM (fZ 4 nd (jC rfl B.range (qv 1))
    (aM (bI (i:=5) nd (bP d__law_cell_at hr (a8 (qv 0) (a8 (qv 4) aC))))
    (aS (kK 3 (cF (iG (a8 (bN (dP (qv 5) aF) aF) (a8 (bN (dP (qv 5) aF) aF) (a8 (bN (dP (qv 5) aF) aF) (a8 (bN (dP (qv 5) aF) aF) aC))))) (bN (qv 2) aF))))))
   (aM (eN (i:=6) nd ay9)
   (aM (fZ 5 nd (fM (qv 0))
    (aS (dL (qG (qv 1) aF) (aM (bI (i:=7) nd (bN (qv 5) (qv 1)))
     (aM (bI (i:=8) nd (bN (dP (bN (gI (bN (qv 5) aF) aF) aF) aF) (qv 1)))
     (aS (dL (ay7 (qv 7) (qv 8)) (aS (az1 hu (i:=6) (fY (a8 (K6 B rfl (a8 (qv 7) (a8 (qv 8) aC))) (a8 (vK B rfl (a8 (qv 7) (a8 (qv 8) aC))) aC))) qE)) dJ)))) dJ)))
   (aS (cG (fY (a8 (dQ B (a8 (qv 3) aC)) (a8 (dQ B (a8 (R7 B (a8 (aG2 B rfl (a8 (qv 6) aC)) aC)) aC)) aC))))))))))),aV9⟩)
theorem ac2:FnScope ["script","at","many","cell","some","hearth","number"] ["script","at","many"] (aU (aX 33)):=.au
theorem aY9 (B:Bt mg) (F:FM K mg "_law_seeds_by" 33 f fd) (d__law_cell_at:Df P w K mg base 1 "_law_cell_at" ["script","k"] g9):Df P w K mg base 2 "_law_seeds_by" ["script","at","many"] oA:=
 Df.au F ac2 (fun cdv A outer s H E hr=>by
  have nd:=ac2.nd
  exact⟨(S7),(aM (bI (i:=3) nd (bP d__law_cell_at hr (a8 (qv 0) (a8 (qv 1) aC))))
   (aM (eN (i:=4) nd (iG aC))
   (aM (dL (kJ (bN (qv 3) aF) aF) (aM (fZ 5 nd (jC rfl B.range (qv 2))
     (aM (bI (i:=3) nd (dP (qv 3) aF))
     (aS (dL (kJ (bN (qv 3) aF) aF) (aS (kK 4 (qv 5))) dJ))))
    (aS (cG (dQ B (a8 (qv 4) aC))))) dJ)
   (aM (bI (i:=3) nd (bN (gI (jB (bN (qv 3) aF) aF) aF) aF))
   (aM (fZ 5 nd (jC rfl B.range (qv 2))
    (aM (bI (i:=6) nd (bN (gI (jB (jB (qv 3) (gI (gI aF (qv 5)) (qv 5))) (qv 5)) aF) aF))
    (aS (dL (nN (bN (dP (bN (gI (qv 6) (qv 6)) aF) aF) aF) (jB aF (bN (dP (qv 3) aF) aF))) (aS (kK 4 (qv 5))) dJ))))
   (aS (cG (dQ B (a8 (qv 4) aC))))))))),aH5⟩)
theorem aZ0:FnScope ["web","numbers"] ["web","numbers"] (aU (aX 13)):=.au
theorem aZ1 (B:Bt mg) (F:FM K mg "is_set" 13 f fd) (d_rises:Df P w K mg base 1 "rises" ["things"] m9) (d_is_hearth:Df P w K mg base 2 "is_hearth" ["web","number"] nZ):Df P w K mg base 3 "is_set" ["web","numbers"] xI:=
 Df.au F aZ0 (fun cdv A outer s H E hr=>by
  exact⟨(Y3),(aS (cG (vG (bP d_rises hr (a8 (qv 1) aC)) (vF (K5 B rfl (a8 (nR (N:=["number","web"]) (fr:=[none,some 0]) (fM (qv 1)) (fun _ _ _ _=>(bP d_is_hearth hr (a8 (qv 1) (a8 (qv 0) aC))))) aC)))))),aR9⟩)
theorem ac3:FnScope ["web","places","wants","hearth","place"] ["web","places"] (aU (aX 16)):=.au
theorem aZ2 (B:Bt mg) (F:FM K mg "moved_web" 16 f fd) (d_made_web:Df P w K mg base 2 "made_web" ["wants","links"] rX) (d_has_each_once:Df P w K mg base 2 "has_each_once" ["web","numbers"] sA) (x_BadWeb:Xc K mg base "BadWeb"):cM P w K mg base 3 "moved_web" ["web","places"] sC:=
 cM.au F ac3 Z0 aT0 (fun cdv A outer s H E Ep hr hX=>by
  have nd:=ac3.nd
  exact (aM (dL (vE (qH (bP d_has_each_once hr (a8 (qv 0) (a8 (qv 1) aC))))) (aS (U6 hX x_BadWeb (a8 J7 aC))) dJ)
   (aM (eN (i:=2) nd (qJ B (a8 (cF (qv 0) aF) aC)))
   (aM (vN 3 4 (hp:=hX.own) nd (wV rfl B.enum (qv 1))
    (aS (az9 (i:=2) (qv 4) (cF (cF (qv 0) aF) (qv 3)))))
   (aS (cG (bP d_made_web hr (a8 (qv 2) (a8 (T3 (N:=["one","other","places"]) (fr:=[none,none,some 1]) (fM (cF (qv 0) aF)) (fun _ _ _ _=>(fY (a8 (cF (qv 2) (qv 0)) (a8 (cF (qv 2) (qv 1)) aC))))) aC)))))))))
theorem aZ3:FnScope ["web","around","burning"] ["web","around","burning"] (aU (aX 23)):=.au
theorem aZ4 (B:Bt mg) (F:FM K mg "kindling" 23 f fd) (d_can_kindle:Df P w K mg base 2 "can_kindle" ["web","around","burning","hearth"] rC) (d_hearths_in:Df P w K mg base 1 "hearths_in" ["web"] jF):Df P w K mg base 3 "kindling" ["web","around","burning"] o6:=
 Df.au F aZ3 (fun cdv A outer s H E hr=>by
  exact⟨(Q8),(aS (cG (dQ B (a8 (vO (N:=["hearth","web","around","burning"]) (fr:=[none,some 0,some 1,some 2]) (jC rfl B.range (bP d_hearths_in hr (a8 (qv 0) aC))) (fun _ _ _ _=>(qH (bP d_can_kindle hr (a8 (qv 1) (a8 (qv 2) (a8 (qv 3) (a8 (qv 0) aC))))))) (fun _ _ _ _=>(qv 0))) aC)))),aE5⟩)
theorem ac4:FnScope ["script","at","head","many"] ["script","at"] (aU (aX 32)):=.au
theorem aZ5 (B:Bt mg) (F:FM K mg "_law_web_by" 32 f fd) (d__law_cell_at:Df P w K mg base 1 "_law_cell_at" ["script","k"] g9) (d__law_web:Df P w K mg base 2 "_law_web" ["flow","many","way"] oI):Df P w K mg base 3 "_law_web_by" ["script","at"] sH:=
 Df.au F ac4 (fun cdv A outer s H E hr=>by
  have nd:=ac4.nd
  exact⟨(aa8),(aM (bI (i:=2) nd (bP d__law_cell_at hr (a8 (qv 0) (a8 aF aC))))
   (aM (bI (i:=3) nd (bN (qv 2) aF))
   (aM (dL (kJ (bN (dP (qv 2) aF) aF) aF) (aS (bI (i:=3) nd (bN (dP (qv 2) aF) aF))) dJ)
   (aS (cG (bP d__law_web hr (a8 (L5 (qv 0) (L4 (qv 1)) L3) (a8 (qv 3) (a8 (dP (qv 2) aF) aC))))))))),aW0⟩)
theorem aZ6:FnScope ["web","hearths"] ["web","hearths"] (aU (aX 14)):=.au
theorem aZ7 (B:Bt mg) (F:FM K mg "made_set" 14 f fd) (d_is_set:Df P w K mg base 3 "is_set" ["web","numbers"] xI) (x_BadSet:Xc K mg base "BadSet"):cM P w K mg base 4 "made_set" ["web","hearths"] m8:=
 cM.au F aZ6 U8 aM5 (fun cdv A outer s H E Ep hr hX=>by
  exact (aM (dL (vE (qH (bP d_is_set hr (a8 (qv 0) (a8 (qv 1) aC))))) (aS (U6 hX x_BadSet (a8 J7 aC))) dJ)
   (aS (cG (dQ B (a8 (qv 1) aC))))))
theorem ac5:FnScope ["web","some","places","place","hearth","around","wants","links"] ["web","some"] (aU (aX 17)):=.au
theorem aZ8 (B:Bt mg) (F:FM K mg "rest_web" 17 f fd) (d_near_lists:Df P w K mg base 1 "near_lists" ["web"] o5) (d_made_set:cM P w K mg base 4 "made_set" ["web","hearths"] m8) (d_count_outside:Df P w K mg base 2 "count_outside" ["hearths","inside"] sD):cM P w K mg base 5 "rest_web" ["web","some"] sE:=
 cM.au F ac5 Z9 aU6 (fun cdv A outer s H E Ep hr hX=>by
  have nd:=ac5.nd
  have hu:=kB hr
  exact (aM (eN (i:=2) nd vH)
   (aM (vN 3 4 (hp:=hX.own) nd (wV rfl B.enum (rL hX d_made_set hr (a8 (qv 0) (a8 (qv 1) aC))))
    (aS (vJ hu (i:=2) (qv 4) (qv 3))))
   (aM (bI (i:=5) nd (bP d_near_lists hr (a8 (qv 0) aC)))
   (aM (aT8 (i:=6) nd (N:=["hearth","places","web","around"]) (fr:=[none,some 2,some 0,some 5]) 2 (fun _ _ _ _=>(vK B rfl (a8 aF (a8 (qF (cF (cF (qv 2) aF) (qv 0)) (bP d_count_outside hr (a8 (cF (qv 3) (qv 0)) (a8 (qv 1) aC)))) aC)))))
   (aM (aJ9 (i:=7) nd (N:=["one","other","places"]) (fr:=[none,none,some 2]) (fM (cF (qv 0) aF)) (fun _ _ _ _=>(nO (vD (vB hu (qv 0) (qv 2)) (vC (vB hu (qv 1) (qv 2)))))) (fun _ _ _ _=>(fY (a8 (K2 hu (qv 2) (qv 0)) (a8 (K2 hu (qv 2) (qv 1)) aC)))))
   (aS (cG (fY (a8 (dQ B (a8 (qv 6) aC)) (a8 (dQ B (a8 (qv 7) aC)) aC)))))))))))
theorem ac6:FnScope ["web","seeds","told","burning","around","lit"] ["web","seeds"] (aU (aX 22)):=.au
theorem aZ9 (B:Bt mg) (F:FM K mg "rounds" 22 f fd) (d_marked:Df P w K mg base 1 "marked" ["hearths"] o4) (d_near_lists:Df P w K mg base 1 "near_lists" ["web"] o5) (d_kindling:Df P w K mg base 3 "kindling" ["web","around","burning"] o6) (d_made_set:cM P w K mg base 4 "made_set" ["web","hearths"] m8):cM P w K mg base 5 "rounds" ["web","seeds"] rO:=
 cM.au F ac6 V2 aM8 (fun cdv A outer s H E Ep hr hX=>by
  have nd:=ac6.nd
  exact (aM (eN (i:=2) nd (iG (a8 (rL hX d_made_set hr (a8 (qv 0) (a8 (qv 1) aC))) aC)))
   (aM (eN (i:=3) nd (bP d_marked hr (a8 (cF (qv 2) aF) aC)))
   (aM (bI (i:=4) nd (bP d_near_lists hr (a8 (qv 0) aC)))
   (aM (bI (i:=5) nd (bP d_kindling hr (a8 (qv 0) (a8 (qv 4) (a8 (qv 3) aC)))))
   (aM (az0 hX.own (J9 (qv 5))
    (aM (kK 2 (qv 5))
    (aM (az8 3 (bP d_marked hr (a8 (qv 5) aC)))
    (aS (bI (i:=5) nd (bP d_kindling hr (a8 (qv 0) (a8 (qv 4) (a8 (qv 3) aC)))))))))
   (aS (qI 2))))))))
theorem ac7:FnScope ["web","seeds","ranks","rank","lit","hearth"] ["web","seeds"] (aU (aX 25)):=.au
theorem ba0 (B:Bt mg) (F:FM K mg "ranks_of" 25 f fd) (d_rounds:cM P w K mg base 5 "rounds" ["web","seeds"] rO):cM P w K mg base 6 "ranks_of" ["web","seeds"] rP:=
 cM.au F ac7 V3 aM9 (fun cdv A outer s H E Ep hr hX=>by
  have nd:=ac7.nd
  have hu:=kB hr
  exact (aM (eN (i:=2) nd vH)
   (aM (vN 3 4 (hp:=hX.own) nd (wV rfl B.enum (rL hX d_rounds hr (a8 (qv 0) (a8 (qv 1) aC))))
    (aS (fZ 5 (hp:=hX.own) nd (fM (qv 4))
     (aS (vJ hu (i:=2) (qv 5) (qv 3))))))
   (aS (qI 2)))))
theorem ba1:FnScope ["web","seeds"] ["web","seeds"] (aU (aX 26)):=.au
theorem ba2 (B:Bt mg) (F:FM K mg "burnt" 26 f fd) (d_ranks_of:cM P w K mg base 6 "ranks_of" ["web","seeds"] rP):cM P w K mg base 7 "burnt" ["web","seeds"] jJ:=
 cM.au F ba1 V4 aN0 (fun cdv A outer s H E Ep hr hX=>by
  exact (aS (cG (dQ B (a8 (aL7 B rfl (a8 (rL hX d_ranks_of hr (a8 (qv 0) (a8 (qv 1) aC))) aC)) aC)))))
theorem ac8:FnScope ["script","web","many","seeds","others","rest","found","more","both","places","moved","due"] ["script"] (aU (aX 35)):=.au
theorem ba3 (B:Bt mg) (F:fG K "law" "law" (aX 35) f fd) (d__law_web_by:Df P w K mg base 3 "_law_web_by" ["script","at"] sH) (d__law_seeds_by:Df P w K mg base 2 "_law_seeds_by" ["script","at","many"] oA) (d_rest_web:cM P w K mg base 5 "rest_web" ["web","some"] sE) (d__law_places:Df P w K mg base 1 "_law_places" ["many","cell"] rJ) (d_moved_web:cM P w K mg base 3 "moved_web" ["web","places"] sC) (d_burnt:cM P w K mg base 7 "burnt" ["web","seeds"] jJ) (d__law_cell_at:Df P w K mg base 1 "_law_cell_at" ["script","k"] g9):dE P w K mg base e8 8 f fd ["script"] (nG K xS):=
 aH7 F ac8 (fun xs Q h=>by unfold xS at h; repeat (first | (obtain ⟨rfl,_⟩:=h; rfl) | (obtain ⟨_,h⟩:=h))) (fun cdv A outer s H E hr=>by
  have nd:=ac8.nd
  have hu3:=ab3 hr
  exact⟨(ab2),(aM (bI (i:=1) nd (bP d__law_web_by hr (a8 (qv 0) (a8 aF aC))))
   (aM (bI (i:=2) nd (gJ B (a8 (cF (qv 1) aF) aC)))
   (aM (bI (i:=3) nd (bP d__law_seeds_by hr (a8 (qv 0) (a8 aF (a8 (qv 2) aC)))))
   (aM (bI (i:=4) nd (vO (N:=["hearth","seeds"]) (fr:=[none,some 3]) (jC rfl B.range (qv 2)) (fun _ _ _ _=>(az5 (qv 0) (qv 1))) (fun _ _ _ _=>(qv 0))))
   (aM (bI (i:=5) nd (jY d_rest_web hr (a8 (qv 1) (a8 (qv 4) aC))))
   (aM (L6 (i:=6) nd (N:=["hearth","others"]) (fr:=[none,some 4]) (fM (jY d_burnt hr (a8 (qv 5) (a8 (fY aC) aC)))) (fun _ _ _ _=>(cF (qv 1) (qv 0))))
   (aM (dL (L0 hu3 (dQ B (a8 (nQ B (a8 (wR (qJ B (a8 (qv 3) aC)) (qv 6)) aC)) aC)) (jY d_burnt hr (a8 (qv 1) (a8 (qv 3) aC)))) (aS (cG qE)) dJ)
   (aM (bI (i:=7) nd (bP d__law_seeds_by hr (a8 (qv 0) (a8 aF (a8 (gJ B (a8 (qv 4) aC)) aC)))))
   (aM (L6 (i:=6) nd (N:=["hearth","others"]) (fr:=[none,some 4]) (fM (jY d_burnt hr (a8 (qv 5) (a8 (qv 7) aC)))) (fun _ _ _ _=>(cF (qv 1) (qv 0))))
   (aM (bI (i:=8) nd (dQ B (a8 (nQ B (a8 (wR (qJ B (a8 (qv 3) aC)) (nR (N:=["hearth","others"]) (fr:=[none,some 4]) (fM (qv 7)) (fun _ _ _ _=>(cF (qv 1) (qv 0))))) aC)) aC)))
   (aM (dL (L0 hu3 (dQ B (a8 (nQ B (a8 (wR (qJ B (a8 (qv 3) aC)) (qv 6)) aC)) aC)) (jY d_burnt hr (a8 (qv 1) (a8 (qv 8) aC)))) (aS (cG qE)) dJ)
   (aM (bI (i:=9) nd (bP d__law_places hr (a8 (qv 2) (a8 (bP d__law_cell_at hr (a8 (qv 0) (a8 aF aC))) aC))))
   (aM (bI (i:=10) nd (jY d_moved_web hr (a8 (qv 1) (a8 (qv 9) aC))))
   (aM (bI (i:=11) nd (dQ B (a8 (nQ B (a8 (nR (N:=["hearth","places"]) (fr:=[none,some 9]) (fM (jY d_burnt hr (a8 (qv 1) (a8 (qv 3) aC)))) (fun _ _ _ _=>(cF (qv 1) (qv 0)))) aC)) aC)))
   (aS (cG (L1 hu3 (jY d_burnt hr (a8 (qv 10) (a8 (dQ B (a8 (nQ B (a8 (nR (N:=["hearth","places"]) (fr:=[none,some 9]) (fM (qv 3)) (fun _ _ _ _=>(cF (qv 1) (qv 0)))) aC)) aC)) aC))) (qv 11)))))))))))))))))),aW5⟩)
end
set_option autoImplicit true in
theorem ba4 {l:OpenLaw}{w:World}{K:Frag}{h:Heap}{mg:Str->Option Value} (X:K.In h) (G:h.Ns mainGlobals mg) (hfa:mg "law" = some (.ref fa))
  (h0:FK K "lesser_first" 8 f0 d0)
  (h1:FK K "rises" 9 f1 d1)
  (h2:FK K "hearths_in" 10 f2 d2)
  (h3:FK K "near_lists" 11 f3 d3)
  (h4:FK K "marked" 18 f4 d4)
  (h5:FK K "count_inside" 19 f5 d5)
  (h6:FK K "_law_cell_at" 28 f6 d6)
  (h7:FK K "_law_web_of_digits" 29 f7 d7)
  (h8:FK K "_law_path" 30 f8 d8)
  (h9:FK K "_law_places" 34 f9 d9)
  (h10:FK K "made_web" 7 f10 d10)
  (h11:FK K "is_hearth" 12 f11 d11)
  (h12:FK K "has_each_once" 15 f12 d12)
  (h13:FK K "count_outside" 20 f13 d13)
  (h14:FK K "can_kindle" 24 f14 d14)
  (h15:FK K "_law_web" 31 f15 d15)
  (h16:FK K "_law_seeds_by" 33 f16 d16)
  (h17:FK K "is_set" 13 f17 d17)
  (h18:FK K "moved_web" 16 f18 d18)
  (h19:FK K "kindling" 23 f19 d19)
  (h20:FK K "_law_web_by" 32 f20 d20)
  (h21:FK K "made_set" 14 f21 d21)
  (h22:FK K "rest_web" 17 f22 d22)
  (h23:FK K "rounds" 22 f23 d23)
  (h24:FK K "ranks_of" 25 f24 d24)
  (h25:FK K "burnt" 26 f25 d25)
  (a26:nsIn K mainGlobals "law" = some (some (.ref f26))) (l26:K.lookup f26=some ⟨oc26,od26,.func (fnOf "law" "law" (iY (aX 35)) (eI (aX 35)) (aU (aX 35)) .none kV26 dc26 pm26 an26 cd26 ct26),sl26⟩) (c26:codeIn K cd26 "law" = true) (k26:keepIn K (.ref f26)=true)
  (z_len:nsIn K mainGlobals "len" = some none)
  (z_range:nsIn K mainGlobals "range" = some none)
  (z_tuple:nsIn K mainGlobals "tuple" = some none)
  (z_list:nsIn K mainGlobals "list" = some none)
  (z_sorted:nsIn K mainGlobals "sorted" = some none)
  (z_all:nsIn K mainGlobals "all" = some none)
  (z_any:nsIn K mainGlobals "any" = some none)
  (z_zip:nsIn K mainGlobals "zip" = some none)
  (z_min:nsIn K mainGlobals "min" = some none)
  (z_max:nsIn K mainGlobals "max" = some none)
  (z_sum:nsIn K mainGlobals "sum" = some none)
  (z_isinstance:nsIn K mainGlobals "isinstance" = some none)
  (z_int:nsIn K mainGlobals "int" = some none)
  (z_bool:nsIn K mainGlobals "bool" = some none)
  (z_enumerate:nsIn K mainGlobals "enumerate" = some none)
  {u_MOST_HEARTHS:Nat} (z_MOST_HEARTHSx:nsIn K mainGlobals "MOST_HEARTHS" = some (some (.int 40 u_MOST_HEARTHS)))
  {u_MOST_WANTED:Nat} (z_MOST_WANTEDx:nsIn K mainGlobals "MOST_WANTED" = some (some (.int 60 u_MOST_WANTED)))
  {C_HearthError C_BadWeb C_BadSet:Addr}
  (aX_HE:nsIn K mainGlobals "HearthError" = some (some (.ref C_HearthError)))
  (aX_BW:nsIn K mainGlobals "BadWeb" = some (some (.ref C_BadWeb)))
  (aX_BS:nsIn K mainGlobals "BadSet" = some (some (.ref C_BadSet)))
  (zX_BO:nsIn K mainGlobals "BadOrder" = some none)
  (zX_BP:nsIn K mainGlobals "BadPrices" = some none)
  (zX_BB:nsIn K mainGlobals "BadBoard" = some none)
  (zX_BD:nsIn K mainGlobals "BadDeed" = some none)
  (zX_NW:nsIn K mainGlobals "NotWood" = some none)
  (zX_NP:nsIn K mainGlobals "NoPaper" = some none)
  (zX_NS:nsIn K mainGlobals "NoSuch" = some none)
  (zX_TM:nsIn K mainGlobals "TooMany" = some none)
  (zX_NT:nsIn K mainGlobals "NoText" = some none)
  (zX_OR:nsIn K mainGlobals "OddRound" = some none)
  (y_fg:specialIn K (.builtin "object.__class__") "__get__" = some (some (.builtin "getset_descriptor.__get__")))
  (y_ft:takesIn K (.builtin "object.__class__")=some true)
  (z_VE:nsIn K mainGlobals "ValueError" = some none)
  (y1_HE:isClsIn K C_HearthError=true)
  (y2_HE:typeIn K (.ref C_HearthError)=some (.type "type"))
  (y3_HE:findIn K (.ref C_HearthError) "__getattribute__" = some (some (.builtin "BaseException.__getattribute__")))
  (y4_HE:findIn K (.ref C_HearthError) "__getattr__" = some none)
  (y5_HE:findIn K (.ref C_HearthError) "__class__" = some (some (.builtin "object.__class__")))
  (y6_HE:mroIn K C_HearthError (.type "object")=some true)
  (y7_HE:mroIn K C_HearthError (.type "BaseException")=some true)
  (y1_BW:isClsIn K C_BadWeb=true)
  (y2_BW:typeIn K (.ref C_BadWeb)=some (.type "type"))
  (y3_BW:findIn K (.ref C_BadWeb) "__getattribute__" = some (some (.builtin "BaseException.__getattribute__")))
  (y4_BW:findIn K (.ref C_BadWeb) "__getattr__" = some none)
  (y5_BW:findIn K (.ref C_BadWeb) "__class__" = some (some (.builtin "object.__class__")))
  (y6_BW:mroIn K C_BadWeb (.type "object")=some true)
  (y7_BW:mroIn K C_BadWeb (.type "BaseException")=some true)
  (y1_BS:isClsIn K C_BadSet=true)
  (y2_BS:typeIn K (.ref C_BadSet)=some (.type "type"))
  (y3_BS:findIn K (.ref C_BadSet) "__getattribute__" = some (some (.builtin "BaseException.__getattribute__")))
  (y4_BS:findIn K (.ref C_BadSet) "__getattr__" = some none)
  (y5_BS:findIn K (.ref C_BadSet) "__class__" = some (some (.builtin "object.__class__")))
  (y6_BS:mroIn K C_BadSet (.type "object")=some true)
  (y7_BS:mroIn K C_BadSet (.type "BaseException")=some true)
  (q_BS:excIn K C_BadSet [.type "ValueError",.type "Exception",.type "BaseException",.type "object"] "ValueError.__new__" = true)
  (q_BW:excIn K C_BadWeb [.type "ValueError",.type "Exception",.type "BaseException",.type "object"] "ValueError.__new__" = true)
  : ∃ fd:FuncData,(∀ (s:Shared) (v:Value),BindsTo s fd ⟨[v],[]⟩ [("script",v)])/\∀ base:Heap,K.In base->base.Ns mainGlobals mg->dE l.prog w K mg base e8 8 fa fd ["script"] (rF K):=by
 have e:=hfa.symm.trans (mg_of X G a26)
 cases e
 have F26:=ap4 (st:=aX 35) l26 c26 k26
 have m26:=mg_of X G a26
 have B:Bt mg:=⟨mg_none_of X G z_len,mg_none_of X G z_range,mg_none_of X G z_tuple,mg_none_of X G z_list,mg_none_of X G z_sorted,mg_none_of X G z_all,mg_none_of X G z_any,mg_none_of X G z_zip,mg_none_of X G z_min,mg_none_of X G z_max,mg_none_of X G z_sum,mg_none_of X G z_isinstance,mg_none_of X G z_int,mg_none_of X G z_bool,mg_none_of X G z_enumerate⟩
 have m_MOST_HEARTHS:=mg_of X G z_MOST_HEARTHSx
 have m_MOST_WANTED:=mg_of X G z_MOST_WANTEDx
 refine⟨fnOf "law" "law" (iY (aX 35)) (eI (aX 35)) (aU (aX 35)) .none kV26 dc26 pm26 an26 cd26 ct26,fun s v=>.of_eq rfl,fun base KB _=>?_⟩
 have XK_HearthError:wZ K C_HearthError:=⟨y1_HE,y2_HE,y3_HE,y4_HE,y5_HE,y_fg,y_ft,y6_HE,y7_HE⟩
 have XK_BadWeb:wZ K C_BadWeb:=⟨y1_BW,y2_BW,y3_BW,y4_BW,y5_BW,y_fg,y_ft,y6_BW,y7_BW⟩
 have XK_BadSet:wZ K C_BadSet:=⟨y1_BS,y2_BS,y3_BS,y4_BS,y5_BS,y_fg,y_ft,y6_BS,y7_BS⟩
 have x_BadSet:Xc K mg base "BadSet":=⟨C_BadSet,_,_,_,_,U7 KB (mg_of X G aX_BS) q_BS,PySem.F.excBase_ValueError,aX_BS⟩
 have x_BadWeb:Xc K mg base "BadWeb":=⟨C_BadWeb,_,_,_,_,U7 KB (mg_of X G aX_BW) q_BW,PySem.F.excBase_ValueError,aX_BW⟩
 have D0:=aW7 (P:=l.prog) (w:=w) (base:=base) B (h0.M X G)
 have D1:=R9 (P:=l.prog) (w:=w) (base:=base) B (h1.M X G)
 have D2:=aX0 (P:=l.prog) (w:=w) (base:=base) B (h2.M X G)
 have D3:=aG7 (aW6 (P:=l.prog) (w:=w) (mg:=mg) (base:=base) h3.F) (h3.F.binds (ps:=["web"]) fun _ _ _ _ _ _ us hl=>by obtain ⟨_,rfl⟩:=rN hl; rfl) h3.F.kp (mg_of X G h3.a)
 have D4:=aX1 (P:=l.prog) (w:=w) (base:=base) B (h4.M X G)
 have D5:=aX3 (P:=l.prog) (w:=w) (base:=base) B (h5.M X G)
 have D6:=aX5 (P:=l.prog) (w:=w) (base:=base) B (h6.M X G)
 have D7:=aX6 (P:=l.prog) (w:=w) (base:=base) B (h7.M X G)
 have D8:=aX7 (P:=l.prog) (w:=w) (base:=base) B (h8.M X G)
 have D9:=aX8 (P:=l.prog) (w:=w) (base:=base) B (h9.M X G)
 have D10:=aX9 (P:=l.prog) (w:=w) (base:=base) B (h10.M X G) D1 D0 m_MOST_HEARTHS m_MOST_WANTED
 have D11:=aY1 (P:=l.prog) (w:=w) (base:=base) B (h11.M X G) D2
 have D12:=aY3 (P:=l.prog) (w:=w) (base:=base) B (h12.M X G) D2
 have D13:=aY5 (P:=l.prog) (w:=w) (base:=base) B (h13.M X G) D5
 have D14:=aY7 (P:=l.prog) (w:=w) (base:=base) B (h14.M X G) (D5.weak aU7)
 have D15:=aY8 (P:=l.prog) (w:=w) (base:=base) B (h15.M X G) D8 D7 D6
 have D16:=aY9 (P:=l.prog) (w:=w) (base:=base) B (h16.M X G) D6
 have D17:=aZ1 (P:=l.prog) (w:=w) (base:=base) B (h17.M X G) D1 D11
 have D18:=aZ2 (P:=l.prog) (w:=w) (base:=base) B (h18.M X G) D10 D12 x_BadWeb
 have D19:=aZ4 (P:=l.prog) (w:=w) (base:=base) B (h19.M X G) D14 D2
 have D20:=aZ5 (P:=l.prog) (w:=w) (base:=base) B (h20.M X G) D6 D15
 have D21:=aZ7 (P:=l.prog) (w:=w) (base:=base) B (h21.M X G) D17 x_BadSet
 have D22:=aZ8 (P:=l.prog) (w:=w) (base:=base) B (h22.M X G) D3 D21 D13
 have D23:=aZ9 (P:=l.prog) (w:=w) (base:=base) B (h23.M X G) D4 D3 D19 D21
 have D24:=ba0 (P:=l.prog) (w:=w) (base:=base) B (h24.M X G) D23
 have D25:=ba2 (P:=l.prog) (w:=w) (base:=base) B (h25.M X G) D24
 exact aH8 (ba3 B F26 D20 D16 D22 D9 D18 D25 D6)
theorem ba5 {l:OpenLaw}{q:Program}{loose:List Str}{XP:(Str->Option Value)->Heap->Prop}{YP:World->Heap->Prop}{d:DefRec}{K:Params->Frag} (hn:l.most=some 63) (hdf:d.params.defaults = [])
  (hY:∀ (w:World) (h:Heap),YP w h->(K w.params).In h)
  (F:∀ (w:World) (mg:Str->Option Value) (fa:Addr) (h:Heap),(K w.params).In h->h.Ns mainGlobals mg->mg d.name=some (.ref fa)->
   ∃ fd:FuncData,(∀ (s:Shared) (u:Value),BindsTo s fd ⟨[u],[]⟩ [("script",u)])/\∀ base:Heap,(K w.params).In base->base.Ns mainGlobals mg->dE l.prog w (K w.params) mg base e8 8 fa fd ["script"] (rF (K w.params))) :
  WalkO q loose XP YP l.row.toRowW d [] (fun f vs=>PySem.call f vs):=
 L2.ap2 (n:=63) (k:=8) (x:="script") (CX:=fun _=>e8) (sp:=fun w=>rF (K w.params)) hn (by decide) hdf ⟨rfl,by decide,by decide⟩ hY F (fun _ _ a ns hl hO hS=>⟨a,ns,rfl,aH9 hO hS,hl,fun _=>rfl⟩) fun _ _ _ _ _ z=>z
end K_k14
open PySem PySem.W PyProof.Rows
theorem PySem.W.Fast.te13052408679150730464 : True := trivial
theorem PySem.W.Fast.te16555476440528808052 : True := trivial
theorem PySem.W.Fast.te5369427470323729400 : True := trivial
set_option maxRecDepth 100000 in
set_option maxHeartbeats 0 in
theorem PySem.Challenge.cw_kindleweb_k14_whole_rest_webs_burn_holds : PySem.Challenge.rw_kindleweb_k14_whole_rest_webs_burn.Holds := by
 w_on; o_law; k_head; (case hw => w_witness2)
 k_fill
 refine K_k14.ba5 (l := PySem.Challenge.rw_kindleweb_k14_whole_rest_webs_burn) rfl rfl (fun w h Y => PySem.W.kIn_of Y) ?F
 case F =>
  intro w mg fa h KX G hmg
  refine' K_k14.ba4 KX G hmg ?h0 ?h1 ?h2 ?h3 ?h4 ?h5 ?h6 ?h7 ?h8 ?h9 ?h10 ?h11 ?h12 ?h13 ?h14 ?h15 ?h16 ?h17 ?h18 ?h19 ?h20 ?h21 ?h22 ?h23 ?h24 ?h25 ?a26 ?l26 ?c26 ?k26 ?z_len ?z_range ?z_tuple ?z_list ?z_sorted ?z_all ?z_any ?z_zip ?z_min ?z_max ?z_sum ?z_isinstance ?z_int ?z_bool ?z_enumerate ?z_MOST_HEARTHSx ?z_MOST_WANTEDx ?aX_HE ?aX_BW ?aX_BS ?zX_BO ?zX_BP ?zX_BB ?zX_BD ?zX_NW ?zX_NP ?zX_NS ?zX_TM ?zX_NT ?zX_OR ?y_fg ?y_ft ?z_VE ?y1_HE ?y2_HE ?y3_HE ?y4_HE ?y5_HE ?y6_HE ?y7_HE ?y1_BW ?y2_BW ?y3_BW ?y4_BW ?y5_BW ?y6_BW ?y7_BW ?y1_BS ?y2_BS ?y3_BS ?y4_BS ?y5_BS ?y6_BS ?y7_BS ?q_BS ?q_BW
  (case h0 | h1 | h2 | h3 | h4 | h5 | h6 | h7 | h8 | h9 | h10 | h11 | h12 | h13 | h14 | h15 | h16 | h17 | h18 | h19 | h20 | h21 | h22 | h23 | h24 | h25 => exact ⟨by k_is, ⟨⟨_, _, _, _, _, _, _, _, _, rfl, by k_is, by k_is⟩, by k_is⟩⟩)
  (case a26|l26|c26|k26|z_len|z_range|z_tuple|z_list|z_sorted|z_all|z_any|z_zip|z_min|z_max|z_sum|z_isinstance|z_int|z_bool|z_enumerate|z_MOST_HEARTHSx|z_MOST_WANTEDx|aX_HE|aX_BW|aX_BS|zX_BO|zX_BP|zX_BB|zX_BD|zX_NW|zX_NP|zX_NS|zX_TM|zX_NT|zX_OR|y_fg|y_ft|z_VE|y1_HE|y2_HE|y3_HE|y4_HE|y5_HE|y6_HE|y7_HE|y1_BW|y2_BW|y3_BW|y4_BW|y5_BW|y6_BW|y7_BW|y1_BS|y2_BS|y3_BS|y4_BS|y5_BS|y6_BS|y7_BS => k_is)
  (case q_BS|q_BW => k_exc)


