import PyProof.Rows.All
import Wide.All
import OpenK.AllK
import Wide.FinOn
import Lean
import PyProof.EqAt
import PyProof.EqKinds
import PyProof.TupleCall
import PyProof.NeKinds
import PyProof.Draws
import PyProof.ZipIter
import PyProof.DictUpdate
import PyProof.AutoSeq1
import PyProof.ListRange
import PyProof.ListMulRoad
import PyProof.FactsAll.tuple_2
import PyProof.Rows.SortShell
import PyProof.EnumFor
import PyProof.EnumMake
import PyProof.EnumStmt
import PyProof.Rows.SortWalk
import KE.KDictList
import PyProof.SumAny
import PyProof.ConsumeWalk
import PyProof.WalksMore
import PyProof.Rows.TupAssign
import PyProof.ExcArgsOwn
import PySem.Challenge.RW_kindleweb_k64_growths_refused
set_option Elab.async false
set_option linter.all false
set_option maxRecDepth 100000
set_option maxHeartbeats 4000000
section
open PySem PySem.Spec PyProof.Rows
def aV7:=@wpAny_bind
def aV9:=@Heap.get?_push_of_some
def aW0:=@List.getElem?_eq_getElem
def aW1:=@List.size_toArray
def aW2:=@wpAny_pure
def aW3:=@List.mem_cons
def aW4:=@decide_eq_false
def aW5:=@Int.le_refl
def aW6:=@List.length_map
def aW7:=@List.mem_cons_of_mem
def aW8:=@Nat.le_refl
def aW9:=@List.getElem?_eq_some_iff
def aX0:=@wpS_bind
def aX1:=@Heap.lt_size
def aX2:=@List.not_mem_nil
def aX3:=@decide_eq_true
def aX4:=@Heap.get?_push_size
def aX5:=@List.mem_cons_self
def aX6:=@List.mem_singleton
def aX8:=@List.getD_eq_getElem?_getD
def aX9:=@wpS_pure
def aY0:=@Nat.lt_of_lt_of_le
def aY1:=@List.getElem?_map
def aY2:=@List.append_assoc
def aY3:=@Bool.false_ne_true
def aY4:=@List.length_append
def aY5:=@Option.some.inj
def aY7:=@decide_eq_true_eq
def aY8:=@Bool.false_eq_true
def aY9:=@List.map_append
def aZ0:=@Nat.ne_of_lt
def aZ2:=@List.getElem?_set_ne
def aZ3:=@List.pairwise_append
def aZ4:=@List.mem_append_right
def aZ6:=@List.take_append_drop
def aZ7:=@Nat.le_trans
def aZ8:=@or_false
def aZ9:=@Array.getElem_mem
def ba0:=@List.pairwise_iff_getElem
def ba1:=@List.mem_map
def ba2:=@wpAny_newObj_type
def ba3:=@Array.length_toList
def ba4:=@List.getElem?_cons_succ
def ba5:=@Nat.lt_or_ge
def ba6:=@List.pairwise_singleton
def ba7:=@List.map_map
def ba8:=@List.take_add_one
def ba9:=@Int.le_trans
def bb0:=@wpAny_holding
def bb2:=@PySem.mem_of_lookup
def bb4:=@List.length_cons
def bb5:=@beq_self_eq_true
def bb6:=@List.mem_append
def bb7:=@List.length_set
def bb9:=@List.length_singleton
def bc0:=@wpAny_field
def bc1:=@wpAny_callSpecial?_slot
def bc2:=@List.map_cons
def bc5:=@PySem.W.kia_one
def bc6:=@wpAny_call_entry
def bc8:=@List.lookup_cons
def bc9:=@List.take_length
def bd0:=@List.getElem?_set_self
def bd1:=@Around.under_plainId
def bd2:=@List.zip_cons_cons
def bd4:=@wpAny_setField_rec
def bd5:=@Heap.get?_update_self
def bd6:=@List.perm_append_comm
def bd7:=@List.getElem_of_mem
def bd8:=@Array.toList_append
def be0:=@Heap.size_push
def be1:=@wpAny_seqItems
def be3:=@List.pairwise_map
def be5:=@List.mem_append_left
def be6:=@if_false
def be8:=@wpS_forRange
def be9:=@Int.emod_lt_of_pos
def bf0:=@Bool.eq_iff_iff
def bf1:=@List.append_nil
def bf2:=@Nat.lt_irrefl
def bf3:=@List.getElem_mem
def bf5:=@wpAny_mono
def bf6:=@Bool.and_false
def bg0:=@wpAny_loadPart'
def bg1:=@codeAny_builtin
def bg2:=@Int.emod_nonneg
def bg3:=@Nat.ne_of_gt
def bg4:=@Bool.and_eq_true
def bg5:=@List.take_of_length_le
def bg6:=@Nat.le_add_right
def bg7:=@PySem.F.plain_min_loop
def bg8:=@PySem.F.plain_max_loop
def bh0:=@Nat.zero_le
def bh1:=@List.Pairwise.nil
def bh2:=@Array.getElem?_toList
def bh3:=@Bool.false_and
def bh4:=@List.Perm.refl
def bh5:=@List.find?_cons
def bh6:=@wpAny_pyIter_tuple
def bh8:=@List.all_eq_true
def bh9:=@decide_eq_false_iff_not
def bi0:=@plainId_quiet
def bi1:=@Nat.le_of_lt
def bi3:=@Heap.get?_update_other
def bi4:=@Heap.SameBut.update
def bi5:=@wpAny_letGo
def bi6:=@PyProof.Rows.slot_tuple_getitem
def bi7:=@List.getElem?_append_left
def bi8:=@List.drop_eq_getElem_cons
def bi9:=@List.length_drop
def bj3:=@List.mem_of_getElem?
def bj4:=@List.getElem?_of_mem
def bj5:=@wpAny_truthy_bool
def bj8:=@wpAny_rule
def bj9:=@PyProof.Rows.callWith_type1
def bk0:=@List.all_cons
def bk1:=@List.length_take
def bk4:=@List.getElem?_append_right
def bk6:=@of_decide_eq_false
def bk7:=@Nat.eq_or_lt_of_le
def bk8:=@wpAny_tryCatch
def bk9:=@List.Perm.append_left
def bl0:=@wpAny_passesOwn
def bl1:=@List.nodup_cons
def bl2:=@List.length_nil
def bl3:=@wpAny_updateSeq
def bl6:=@List.take_sublist
def bl9:=@wpS_mono
def bm0:=@List.mem_of_mem_take
def bm3:=@wpAny_attempt
def bm6:=@List.drop_take
def bm7:=@List.Perm.swap
def bm9:=@True.intro
end
namespace L2
open PySem PySem.Spec PyProof.Rows
abbrev aM:=Sum Int Str
def lB:aM->Value->Bool
 | .inl k,v=>Value.isInt k v
 | .inr x,v=>Value.isStrOf x v
def aa1 (w:World):aM->Int
 | .inl k=>hashInt k
 | .inr x=>hashStr w x
theorem iL:∀ {k:aM}{v:Value},lB k v=true->(∃ i t,k=Sum.inl i/\v=Value.int i t) ∨ (∃ x t,k=Sum.inr x/\v=Value.str x t)
 | .inl i,v,h=>by
  obtain ⟨t,e⟩:=Value.isInt_shape (k:=i) (v:=v) h
  exact .inl ⟨i,t,rfl,e⟩
 | .inr x,v,h=>by
  obtain ⟨t,e⟩:=Value.isStrOf_shape (x:=x) (v:=v) h
  exact .inr ⟨x,t,rfl,e⟩
theorem aa2 (i:Int) (t:Tok):lB (.inl i) (.int i t)=true:=by simp [lB,Value.isInt]
theorem aa3 (x:Str) (t:Tok):lB (.inr x) (.str x t)=true:=by simp [lB,Value.isStrOf]
theorem aa4 (a b:Int):decide ((Sum.inl a:aM)=Sum.inl b)=(a == b):=by
 by_cases e:a=b
 ·subst e; simp
 ·have h : ¬ (Sum.inl a:aM)=Sum.inl b:=fun q=>e (Sum.inl.inj q)
  rw [aW4 h]
  exact (beq_eq_false_iff_ne.mpr e).symm
theorem aa5 (a b:Str):decide ((Sum.inr a:aM)=Sum.inr b)=decide (a=b):=by
 by_cases e:a=b
 ·subst e; simp
 ·have h : ¬ (Sum.inr a:aM)=Sum.inr b:=fun q=>e (Sum.inr.inj q)
  rw [aW4 h,aW4 e]
theorem aa6 (a:Int) (b:Str):decide ((Sum.inl a:aM)=Sum.inr b)=false:=aW4 (fun q=>nomatch q)
theorem aa7 (a:Str) (b:Int):decide ((Sum.inr a:aM)=Sum.inl b)=false:=aW4 (fun q=>nomatch q)
def eO (prog:Program) (w:World):PySem.KeyKind prog w aM where
 is:=lB
 hash:=aa1 w
 inj:=fun v a b ha hb=>by
  rcases iL ha with ⟨i,t,rfl,rfl⟩ | ⟨x,t,rfl,rfl⟩
  ·rcases iL hb with ⟨j,u,rfl,e⟩ | ⟨y,u,rfl,e⟩
   ·injection e with e1 _; rw [e1]
   ·exact nomatch e
  ·rcases iL hb with ⟨j,u,rfl,e⟩ | ⟨y,u,rfl,e⟩
   ·exact nomatch e
   ·injection e with e1 _; rw [e1]
 byValue:=fun k v h=>by
  rcases iL h with ⟨i,t,rfl,rfl⟩ | ⟨x,t,rfl,rfl⟩ <;> rfl
 pyHash:=fun hv h=>by
  rcases iL hv with ⟨i,t,rfl,rfl⟩ | ⟨x,t,rfl,rfl⟩
  ·exact wpAny_pyHash_int h
  ·exact wpAny_pyHash_str h
 eqBool:=fun hu hv h=>by
  rcases iL hu with ⟨i,t,rfl,rfl⟩ | ⟨x,t,rfl,rfl⟩
  ·rcases iL hv with ⟨j,u,rfl,rfl⟩ | ⟨y,u,rfl,rfl⟩
   ·rw [aa4] at h; exact wpAny_eqBool_int h
   ·rw [aa6] at h; exact SeqAt.EqAt.int_str i t y u _ _ _ _ h
  ·rcases iL hv with ⟨j,u,rfl,rfl⟩ | ⟨y,u,rfl,rfl⟩
   ·rw [aa7] at h; exact SeqAt.EqAt.str_int x t j u _ _ _ _ h
   ·rw [aa5] at h; exact wpAny_eqBool_str h
 «strs»:=fun k x t v h=>by
  rcases iL h with ⟨i,u,rfl,e⟩ | ⟨y,u,rfl,e⟩
  ·exact nomatch e
  ·injection e with e1 _
   subst e1
   cases v <;> rfl
theorem aa8 (prog:Program) (w:World) (i:Int) (t:Tok):(eO prog w).is (.inl i) (.int i t)=true:=aa2 i t
theorem aa9 (prog:Program) (w:World) (x:Str) (t:Tok):(eO prog w).is (.inr x) (.str x t)=true:=aa3 x t
inductive V where
 | non | bl (b:Bool) | int (i:Int) | str (x:Str) | byt (b:Array UInt8) | flt (b:UInt64) | ref (a:Addr) | ty (n:String)
 deriving DecidableEq
def aP:V->Value->Prop
 | .non,u=>u=Value.none
 | .bl b,u=>u=Value.bool b
 | .int i,u=>∃ t,u=Value.int i t
 | .str x,u=>∃ t,u=Value.str x t
 | .byt b,u=>∃ t,u=Value.bytes b t
 | .flt b,u=>∃ t,u=Value.float b t
 | .ref a,u=>u=Value.ref a
 | .ty n,u=>u=Value.type n
abbrev aI:List V->List Value->Prop:=Paired aP
theorem aI.length {xs:List V}{us:List Value} (r:aI xs us):xs.length=us.length:=Paired.length r
theorem aI.get:∀ {xs:List V}{us:List Value}{i:Nat}{x:V},aI xs us->xs[i]? = some x->∃ u,us[i]? = some u/\aP x u
 | _,_,_,_,.nil,e=>by simp at e
 | _,_,0,_,.cons r _,e=>by simp at e; subst e; exact⟨_,rfl,r⟩
 | _,_,i+1,x,.cons _ t,e=>by
  obtain ⟨u,h1,h2⟩:=aI.get (i:=i) (x:=x) t (by simpa using e)
  exact⟨u,by simpa using h1,h2⟩
theorem aI.set {x:V}{u:Value} (r:aP x u):∀ {xs:List V}{us:List Value} (i:Nat),aI xs us->aI (xs.set i x) (us.set i u)
 | _,_,_,.nil=>.nil
 | _,_,0,.cons _ t=>.cons r t
 | _,_,i+1,.cons q t=>.cons q (aI.set r i t)
theorem aI.append:∀ {xs ys:List V}{us ws:List Value},aI xs us->aI ys ws->aI (xs ++ ys) (us ++ ws)
 | _,_,_,_,.nil,s=>s
 | _,_,_,_,.cons r t,s=>.cons r (aI.append t s)
theorem aI.take:∀ {xs:List V}{us:List Value} (n:Nat),aI xs us->aI (xs.take n) (us.take n)
 | _,_,0,_=>.nil
 | _,_,_+1,.nil=>.nil
 | _,_,n+1,.cons r t=>.cons r (aI.take n t)
theorem aI.drop:∀ {xs:List V}{us:List Value} (n:Nat),aI xs us->aI (xs.drop n) (us.drop n)
 | _,_,0,r=>r
 | _,_,_+1,.nil=>.nil
 | _,_,n+1,.cons _ t=>aI.drop n t
def kA:Option V->Option Value->Prop
 | some v,some u=>aP v u
 | none,none=>True
 | _,_=>False
def KV {κ:Type}:List (κ × V)->List (κ × Value)->Prop:=Paired fun (p:κ × V) (q:κ × Value)=>p.1=q.1/\aP p.2 q.2
def kV:aM->V
 | .inl i=>.int i
 | .inr x=>.str x
inductive HO where
 | lst (xs:List V)
 | tup (xs:List V)
 | dK (kvs:List (aM × V)) | dT (kvs:List (List aM × V))
 | set (S:Int->Bool) (n:Nat)
 | ins (C dx:Addr) (fs:List (Str × V))
 | own (x:Addr)
 | xd (fs:List (Str × V))
 | met (f x:Addr)
 | rng (lo hi:Int)
 | frz (o:Obj) (u:HO)
 | tbl (ps:Array Value)
 | ext (φ:Heap->Prop)
abbrev Hp:=Addr->Option HO
def upd (H:Hp) (a:Addr) (o:HO):Hp:=fun b=>if b=a then some o else H b
theorem bU {H:Hp}{a:Addr}{o:HO}:upd H a o a=some o:=by unfold upd; rw [if_pos rfl]
theorem aX {H:Hp}{a b:Addr}{o:HO} (h:b ≠ a):upd H a o b=H b:=by unfold upd; rw [if_neg h]
theorem x9 {H:Hp}{a b:Addr}{o u:HO} (h:H a=some o) (h':H b=some u) (d:o ≠ u):a ≠ b:=by
 intro e; subst e; rw [h] at h'; exact d (aY5 h')
theorem cU {H:Hp}{a b:Addr}{o:HO} (h:H a=some o) (h':H b=none):a ≠ b:=by
 intro e; subst e; rw [h] at h'; cases h'
def i6 (h:Heap) (a:Addr):Prop:=∀ o,h.get? a=some o->o.dict=none
theorem i6.new (h:Heap) (o:Obj) (d:o.dict=none) (s:o.isFreed=false:=by rfl):i6 (h.push o) h.objs.size:=fun u e=>by
 rw [aX4 h (o:=o) s] at e
 cases e; exact d
theorem i6.stay {h h':Heap}{a:Addr}{o:Obj} (n:i6 h a) (e:h.get? a=some o) (e':h'.get? a=some o):i6 h' a:=fun u hu=>by
 rw [e'] at hu; cases hu; exact n _ e
section
variable (P : Program) (w : World)
def bW (H:Hp) (h:Heap) (a:Addr):HO->Prop
 | .lst xs=>xs.length<=sizeLine/\∃ (its:List Value) (n:Nat),aI xs its/\h.get? a=some { cls:=.type "list",data:=.seq its.toArray n }
 | .tup xs=>xs.length<=sizeLine/\∃ its:List Value,aI xs its/\IsTup h a its.toArray/\i6 h a
 | .dK kvs=>kvs.length<=sizeLine/\(a == sysModules)=false/\∃ vs,KV kvs vs/\h.DictOf (eO P w) a vs
 | .dT kvs=>kvs.length<=sizeLine/\(a == sysModules)=false/\∃ xs:List (List aM × Addr × Value),
   Paired (fun (p:List aM × V) (q:List aM × Addr × Value)=>p.1=q.1/\H q.2.1=some (.tup (p.1.map kV))/\aP p.2 q.2.2) kvs xs/\
   ∃ o es ep,h.get? a=some o/\o.ExactDict/\o.data = .dict es ep/\es.toList=xs.map (entryOfKey (tupleKind (eO P w)))/\(xs.map (·.1)).Nodup
 | .set S n=>h.SetOf (intKind P w) a S n
 | .ins C dx fs=>H dx=some (.own a)/\fs.length<=1000/\dx ≠ a/\h.get? a=some (PySem.W.instObj C dx)/\
   ∃ mA,h.Ns1 dx mA/\(∀ f,kA (fs.lookup f) (mA f))/\PySem.Within mA (fs.map (·.1))
 | .own _=>∃ o,h.get? a=some o
 | .xd fs=>∃ mA,h.Ns1 a mA/\∀ f,kA (fs.lookup f) (mA f)
 | .rng lo hi=>∃ t u v,h.get? a=some { cls:=.type "range",data:=.fields #[.int lo t,.int hi u,.int 1 v] }
 | .frz o u=>h.get? a=some o/\bW H h a u
 | .tbl ps=>h.get? a=some { cls:=.none,data:=.fields ps }
 | .met f x=>h.get? a=some (PySem.W.methodObj (.ref f) (.ref x))
 | .ext φ=>φ h/\(∃ o,h.get? a=some o)/\∀ h1 h2:Heap,φ h1->(∀ o,h1.get? a=some o->h2.get? a=some o)->φ h2
def bT (H:Hp) (h:Heap):Prop:=∀ a o,H a=some o->bW P w H h a o
end
section
variable {P : Program} {w : World} {H H' : Hp} {h h' : Heap} {a : Addr} {o : HO}
theorem bW.lt (x:bW P w H h a o):a < h.objs.size:=by
 cases o with
 | lst xs=>obtain ⟨_,_,_,_,e⟩:=x; exact aX1 e
 | tup xs=>obtain ⟨_,_,_,p,_⟩:=x; exact p.lt
 | dK kvs=>obtain ⟨_,_,_,_,o,_,_,e,_⟩:=x; exact aX1 e
 | dT kvs=>obtain ⟨_,_,_,_,o,_,_,e,_⟩:=x; exact aX1 e
 | set S n=>obtain ⟨o,_,_,_,e,_⟩:=x; exact aX1 e
 | ins C dx fs=>obtain ⟨_,_,_,e,_⟩:=x; exact aX1 e
 | own y=>obtain ⟨_,e⟩:=x; exact aX1 e
 | xd fs=>obtain ⟨_,⟨_,_,_,e,_⟩,_⟩:=x; exact aX1 e
 | rng lo hi=>obtain ⟨_,_,_,e⟩:=x; exact aX1 e
 | frz ob u=>obtain ⟨e,_⟩:=x; exact aX1 e
 | tbl ps=>exact aX1 (show h.get? a=some _ from x)
 | met f y=>exact aX1 (show h.get? a=some _ from x)
 | ext φ=>obtain ⟨_,⟨_,e⟩,_⟩:=x; exact aX1 e
theorem Paired.mapP {α β:Type}{F G:α->β->Prop}:∀ {l₁:List α}{l₂:List β},Paired F l₁ l₂->(∀ a b,F a b->G a b)->Paired G l₁ l₂
 | _,_,.nil,_=>.nil
 | _,_,.cons r t,f=>.cons (f _ _ r) (Paired.mapP t f)
theorem bW.stay (x:bW P w H h a o) (k:∀ b u,(b=a ∨ H b=some (.own a))->h.get? b=some u->h'.get? b=some u)
  (ho:∀ b,H b=some (.own a)->H' b=some (.own a)) (ht:∀ b xs,H b=some (.tup xs)->H' b=some (.tup xs)):bW P w H' h' a o:=by
 induction o with
 | lst xs=>obtain ⟨z,its,n,r,e⟩:=x; exact⟨z,its,n,r,k _ _ (.inl rfl) e⟩
 | tup xs=>obtain ⟨z,its,r,⟨ob,e,c⟩,nd⟩:=x; exact⟨z,its,r,⟨ob,k _ _ (.inl rfl) e,c⟩,nd.stay e (k _ _ (.inl rfl) e)⟩
 | dK kvs=>obtain ⟨z,y,vs,r,ob,es,ep,e,c⟩:=x; exact⟨z,y,vs,r,ob,es,ep,k _ _ (.inl rfl) e,c⟩
 | dT kvs=>
  obtain ⟨z,y,xs,r,ob,es,ep,e,c⟩:=x
  exact⟨z,y,xs,Paired.mapP r fun p q z=>⟨z.1,ht _ _ z.2.1,z.2.2⟩,ob,es,ep,k _ _ (.inl rfl) e,c⟩
 | set S n=>obtain ⟨ob,es,ep,t,e,c⟩:=x; exact⟨ob,es,ep,t,k _ _ (.inl rfl) e,c⟩
 | ins C dx fs=>
  obtain ⟨d,z,ne,e,mA,⟨od,es,ep,e2,c⟩,r⟩:=x
  exact⟨ho _ d,z,ne,k _ _ (.inl rfl) e,mA,⟨od,es,ep,k _ _ (.inr d) e2,c⟩,r⟩
 | own y=>obtain ⟨ob,e⟩:=x; exact⟨ob,k _ _ (.inl rfl) e⟩
 | xd fs=>obtain ⟨mA,⟨od,es,ep,e,c⟩,r⟩:=x; exact⟨mA,⟨od,es,ep,k _ _ (.inl rfl) e,c⟩,r⟩
 | rng lo hi=>obtain ⟨t,u,v,e⟩:=x; exact⟨t,u,v,k _ _ (.inl rfl) e⟩
 | frz ob u ih=>obtain ⟨e,q⟩:=x; exact⟨k _ _ (.inl rfl) e,ih q⟩
 | tbl ps=>
  have e:h.get? a=some { cls:=.none,data:=.fields ps }:=x
  show h'.get? a=some { cls:=.none,data:=.fields ps }
  exact k a _ (.inl rfl) e
 | met f y=>
  have e:h.get? a=some (PySem.W.methodObj (.ref f) (.ref y)):=x
  show h'.get? a=some (PySem.W.methodObj (.ref f) (.ref y))
  exact k a _ (.inl rfl) e
 | ext φ=>obtain ⟨p,⟨o,e⟩,st⟩:=x; exact⟨st _ _ p fun o q=>k _ _ (.inl rfl) q,⟨o,k _ _ (.inl rfl) e⟩,st⟩
theorem bT.lt (x:bT P w H h) (e:H a=some o):a < h.objs.size:=(x a o e).lt
theorem bT.fresh (x:bT P w H h) (e:h.objs.size<=a):H a=none:=by
 cases q:H a with
 | none=>rfl
 | some u=>exact absurd (aY0 (x.lt q) e) (bf2 _)
theorem bT.kept (x:bT P w H h) (k:∀ b u,h.get? b=some u->h'.get? b=some u):bT P w H h':=fun a o e=>
 (x a o e).stay (fun b u _ q=>k b u q) (fun _ q=>q) fun _ _ q=>q
theorem bT.laid (x:bT P w H h) (k:∀ b u,h.get? b=some u->h'.get? b=some u) (hp:h.objs.size<=a) (new:bW P w (upd H a o) h' a o):bT P w (upd H a o) h':=fun b u e=>by
 have hn:=x.fresh hp
 by_cases hb:b=a
 ·subst hb; rw [bU] at e; cases e; exact new
 ·rw [aX hb] at e
  exact (x b u e).stay (fun c v _ q=>k c v q) (fun c q=>by rw [aX (cU q hn)]; exact q) fun c xs q=>by rw [aX (cU q hn)]; exact q
end
def Rd (H:Hp) (a:Addr) (u:HO):Prop:=H a=some u ∨ ∃ o,H a=some (.frz o u)
theorem Rd.ok {P:Program}{w:World}{H:Hp}{h:Heap}{a:Addr}{u:HO} (r:Rd H a u) (x:bT P w H h):bW P w H h a u:=by
 rcases r with r | ⟨o,r⟩
 ·exact x a u r
 ·obtain ⟨_,q⟩:=x a _ r
  exact q
def mP:Option HO->Prop
 | some (.lst _)=>True
 | some (.dK _)=>True
 | some (.dT _)=>True
 | some (.set _ _)=>True
 | some (.ins _ _ _)=>True
 | some (.ext _)=>True
 | _=>False
section
variable {P : Program} {w : World} {H : Hp} {h h' : Heap} {x e : Addr} {o' : HO}
theorem bT.write (ok:bT P w H h) (mu:mP (H x)) (he:e=x ∨ H e=some (.own x)) (k:∀ b u,b ≠ e->h.get? b=some u->h'.get? b=some u) (heo:∃ u,h'.get? e=some u)
  (new:bW P w (upd H x o') h' x o'):bT P w (upd H x o') h':=fun b u q=>by
 have nown:∀ c y,H c=some (.own y)->c ≠ x:=fun c y r z=>by subst z; rw [r] at mu; exact mu
 have ntup:∀ c xs,H c=some (.tup xs)->c ≠ x:=fun c xs r z=>by subst z; rw [r] at mu; exact mu
 by_cases hb:b=x
 ·subst hb; rw [bU] at q; cases q; exact new
 ·rw [aX hb] at q
  by_cases hbe:b=e
  ·have q':H b=some (.own x):=by
    rcases he with z | z
    ·exact absurd (hbe.trans z) hb
    ·rw [hbe]; exact z
   rw [q] at q'; cases q'
   obtain ⟨v,hv⟩:=heo
   exact⟨v,by rw [hbe]; exact hv⟩
  ·refine (ok b u q).stay (fun c v hc r=>k c v ?_ r) (fun c r=>by rw [aX (nown c b r)]; exact r) fun c xs r=>by rw [aX (ntup c xs r)]; exact r
   rcases hc with rfl | hc
   ·exact hbe
   ·rintro rfl
    rcases he with z | z
    ·exact nown c b hc z
    ·rw [hc] at z; cases z; exact hb rfl
end
structure Un (fs ex:List Addr) (H H':Hp) (h h':Heap):Prop where
 keep:∀ b o,h.get? b=some o->H b=none->b ∉ fs->b ∉ ex->h'.get? b=some o
 slot:∀ b o,h.get? b=some o->H b=none->b ∈ fs->b ∉ ex->∃ sl,h'.get? b=some { o with slots:=sl }
 free:∀ b o,h.get? b=some o->H b=none->b ∉ ex->H' b=none
 there:∀ b o,h.get? b=some o->b ∉ ex->∃ o',h'.get? b=some o'
 tups:∀ b xs,H b=some (.tup xs)->H' b=some (.tup xs)
 frzs:∀ b o u,H b=some (.frz o u)->H' b=some (.frz o u)
 tbls:∀ b ps,H b=some (.tbl ps)->∃ more,H' b=some (.tbl (ps ++ more))
section
variable {fs fs' ex ex' : List Addr} {H H1 H2 : Hp} {h h1 h2 h' : Heap} {a x e : Addr} {o : HO}
theorem Un.any (u:Un fs ex H H1 h h1) {b:Addr}{ob:Obj} (q:h.get? b=some ob) (n:H b=none) (hx:b ∉ ex):∃ sl,h1.get? b=some { ob with slots:=sl }:=by
 by_cases hb:b ∈ fs
 ·exact u.slot b ob q n hb hx
 ·exact⟨ob.slots,u.keep b ob q n hb hx⟩
theorem Un.kept (k:∀ b u,h.get? b=some u->h'.get? b=some u):Un fs ex H H h h':=
 ⟨fun b ob q _ _ _=>k b ob q,fun b ob q _ _ _=>⟨ob.slots,k b ob q⟩,fun _ _ _ n _=>n,fun b ob q _=>⟨ob,k b ob q⟩,fun _ _ q=>q,fun _ _ _ q=>q,fun _ ps q=>⟨#[],by rw [q]; simp⟩⟩
theorem Un.refl:Un fs ex H H h h:=Un.kept fun _ _ q=>q
theorem Un.laid (k:∀ b u,h.get? b=some u->h'.get? b=some u) (hp:h.objs.size<=a) (hn:H a=none):Un fs ex H (upd H a o) h h' where
 keep:=fun b u q _ _ _=>k b u q
 slot:=fun b u q _ _ _=>⟨u.slots,k b u q⟩
 free:=fun b u q n _=>by rw [aX (aZ0 (aY0 (aX1 q) hp))]; exact n
 there:=fun b u q _=>⟨u,k b u q⟩
 tups:=fun b xs q=>by rw [aX (cU q hn)]; exact q
 frzs:=fun b u xs q=>by rw [aX (cU q hn)]; exact q
 tbls:=fun b ps q=>⟨#[],by rw [aX (cU q hn),q]; simp⟩
theorem Un.write (mu:mP (H x)) (he:e=x ∨ H e=some (.own x)) (k:∀ b u,b ≠ e->h.get? b=some u->h'.get? b=some u) (heo:∃ u,h'.get? e=some u):Un fs ex H (upd H x o) h h':=by
 have hx:∀ b,H b=none->b ≠ x:=fun b n z=>by subst z; rw [n] at mu; exact mu
 have hb:∀ b,H b=none->b ≠ e:=fun b n z=>by
  subst z
  rcases he with r | r
  ·exact hx b n r
  ·rw [n] at r; cases r
 have hm:∀ b u,H b=some u->¬ mP (some u)->b ≠ x:=fun b u q nm z=>by subst z; rw [q] at mu; exact nm mu
 refine⟨fun b u q n _ _=>k b u (hb b n) q,fun b u q n _ _=>⟨u.slots,k b u (hb b n) q⟩,fun b u q n _=>by rw [aX (hx b n)]; exact n,fun b u q _=>?_,
  fun b xs q=>by rw [aX (hm b _ q fun z=>z)]; exact q,fun b u xs q=>by rw [aX (hm b _ q fun z=>z)]; exact q,fun b ps q=>⟨#[],by rw [aX (hm b _ q fun z=>z),q]; simp⟩⟩
 by_cases hbe:b=e
 ·subst hbe; exact heo
 ·exact⟨u,k b u hbe q⟩
end
def oH (h:Heap) (H:Hp):List Addr:=(List.range h.objs.size).filter fun a=>(H a).isSome
def iM (h:Heap) (H:Hp):Heap:=PySem.W.hideAll h (oH h H)
theorem ab0 (h:Heap) (H:Hp):(iM h H).objs.size=h.objs.size:=PySem.W.hideAll_size _ _
theorem ab1 {h:Heap}{H:Hp}{b:Addr}{o:Obj} (e:h.get? b=some o) (n:H b=none):(iM h H).get? b=some o:=
 PySem.W.hideAll_get _ e fun hm=>by
  have q:(H b).isSome=true:=(List.mem_filter.mp hm).2
  rw [n] at q; simp at q
theorem ab2 {h:Heap}{H:Hp}{b:Addr}{o:Obj} (e:(iM h H).get? b=some o):h.get? b=some o/\H b=none:=by
 have e':h.get? b=some o:=PySem.W.of_hideAll (oH h H) e
 refine⟨e',?_⟩
 cases q:H b with
 | none=>rfl
 | some x=>
  have hm:b ∈ oH h H:=List.mem_filter.mpr ⟨List.mem_range.mpr (aX1 e'),by simp [q]⟩
  have z:(iM h H).get? b=none:=PySem.W.hideAll_none (oH h H) hm
  rw [z] at e; cases e
def ab3 (g h:Heap) (L:Addr):List (Addr × Obj):=(List.range h.objs.size).filterMap fun a=>if a=L ∨ (g.get? a).isSome=true then none else (h.get? a).map fun o=>(a,o)
def cG (g h:Heap) (L d:Addr):List (Addr × Obj):=(ab3 g h L).filter fun p=>decide (p.1 ≠ d)
structure Mod (K:PySem.W.Frag) (mg:Str->Option Value) (base:Heap):Prop where
 kin:K.In base
 glob:base.Ns mainGlobals mg
 blt:∃ mb,base.Ns builtinsNs mb/\∀ x:Str,x ≠ "__name__"->mb x=bootBuiltins x
 nolimit:base.NoLimit
structure Cx where
 prog:Program
 w:World
 K:PySem.W.Frag
 mg:Str->Option Value
 base:Heap
 A:Around
 N:List Str
 s₀:Shared
 H₀:Hp
 env:Env
 outer:List Env
 stack:List Env
 ex:List Addr
 fn:Str->Bool
 calm:Bool
 pn:List (Addr × Obj)
 xe:Value->Shared->Prop
def bN (l:List Env):List Addr:=l.filterMap (·.frame)
abbrev Cx.fs (X:Cx):List Addr:=bN X.outer
def i7 (sc:Scope) (x:Str):Prop:=sc.names.lookup x=some .local ∨ sc.names.lookup x=some .cell ∨ sc.names.lookup x=some .free
def gN (sc:Scope) (x:Str):Prop:=sc.names.lookup x=some .local ∨ sc.names.lookup x=some .cell
def ab4 (env:Env) (h:Heap) (m:Str->Option Value) (x:Str) (u:Value):Prop:=
 (env.kindOf x=some .local/\m x=some u) ∨ ((env.kindOf x=some .cell ∨ env.kindOf x=some .free)/\∃ c,env.cells.lookup x=some c/\h.IsCell c (some u))
structure Cx.Ok (X:Cx):Prop where
 mod:Mod X.K X.mg X.base
 kind:X.env.scope.kind = .function
 glob:X.env.globals=mainGlobals
 blt:X.env.builtins=builtinsNs
 above:X.s₀.heap.objs.size<=X.env.locals
 inj:∀ x y c,X.env.cells.lookup x=some c->X.env.cells.lookup y=some c->x=y
 has:∀ x,(X.env.kindOf x=some .cell ∨ X.env.kindOf x=some .free)->∃ c,X.env.cells.lookup x=some c
 cab:∀ x c,X.fn x=true->X.env.cells.lookup x=some c->X.s₀.heap.objs.size<=c
 hd:X.calm=true->X.A.handled=none
 frames:X.A.frames=some X.stack
 stk:X.stack=X.outer ∨ (X.stack=X.env :: X.outer/\X.env.frame=some X.env.locals)
 exf:∀ b ∈ X.ex,b ≠ X.env.locals/\∀ x c,X.env.cells.lookup x=some c->c ≠ b
 bs:∀ b o,X.base.get? b=some o->X.s₀.heap.get? b=some o/\X.H₀ b=none
 bsz:X.base.objs.size<=X.s₀.heap.objs.size
 noex:∀ b o,X.base.get? b=some o->b ∉ X.ex
 exfs:∀ b ∈ X.ex,b ∉ X.fs
 funs:X.s₀.heap.FunFrames X.base X.outer
 frf:∀ b ∈ X.fs,X.H₀ b=none
structure a8 (X:Cx) (pins:List (Addr × Obj)) (σ:List (Option V)) (H:Hp) (s:Shared):Prop where
 ok:X.Ok
 os:s.os=X.s₀.os
 bare:AllBare s.gens
 base:Un X.fs X.ex X.H₀ H X.s₀.heap s.heap
 loc:∃ m,s.heap.Ns X.env.locals m/\∀ (i:Nat) (x:Str) (v:V),X.N[i]? = some x->σ[i]? = some (some v)->i7 X.env.scope x->∃ u,aP v u/\ab4 X.env s.heap m x u
 cell:∀ x c,X.env.cells.lookup x=some c->∃ v,s.heap.IsCell c v
 free:H X.env.locals=none
 freeC:∀ x c,X.env.cells.lookup x=some c->H c=none
 pin:∀ p ∈ X.pn ++ pins,s.heap.get? p.1=some p.2/\H p.1=none/\p.1 ≠ X.env.locals/\p.1 ∉ X.fs/\∀ v,p.2.data ≠ .cell v
 hok:bT X.prog X.w H s.heap
 len:σ.length=X.N.length
section
variable {X : Cx} {pins : List (Addr × Obj)} {σ : List (Option V)} {H H' : Hp} {s : Shared} {h' : Heap}
theorem Cx.Ok.nofr (ok:X.Ok) {b:Addr}{o:Obj} (e:X.base.get? b=some o):b ∉ X.fs:=fun hb=>by
 have:=(ok.funs.mem hb).1
 rw [e] at this; cases this
theorem a8.bs (I:a8 X pins σ H s):∀ b o,X.base.get? b=some o->s.heap.get? b=some o/\H b=none:=fun b o e=>
 ⟨I.base.keep b o (I.ok.bs b o e).1 (I.ok.bs b o e).2 (I.ok.nofr e) (I.ok.noex b o e),I.base.free b o (I.ok.bs b o e).1 (I.ok.bs b o e).2 (I.ok.noex b o e)⟩
theorem a8.bk (I:a8 X pins σ H s):∀ b o,X.base.get? b=some o->s.heap.get? b=some o:=fun b o e=>(I.bs b o e).1
theorem a8.mod (I:a8 X pins σ H s):Mod X.K X.mg X.base:=I.ok.mod
theorem a8.kIn (I:a8 X pins σ H s):X.K.In s.heap:=I.ok.mod.kin.keeps I.bk
theorem a8.fr (I:a8 X pins σ H s):∃ m,Fr X.base X.env.locals s.heap m:=
 let ⟨m,hn,_⟩:=I.loc
 ⟨m,hn,I.bk,aZ7 I.ok.bsz I.ok.above⟩
theorem a8.lt (I:a8 X pins σ H s):X.env.locals < s.heap.objs.size:=let ⟨_,hn,_⟩:=I.loc; hn.lt
theorem a8.sz (I:a8 X pins σ H s):X.s₀.heap.objs.size<=s.heap.objs.size:=aZ7 I.ok.above (bi1 I.lt)
theorem a8.nofs (I:a8 X pins σ H s) {a:Addr} (h:s.heap.objs.size<=a):a ∉ X.fs:=fun hb=>by
 obtain ⟨_,o,ho,_⟩:=I.ok.funs.mem hb
 exact absurd (aY0 (aX1 ho) (aZ7 I.sz h)) (bf2 _)
theorem a8.cne (I:a8 X pins σ H s):∀ x c,X.env.cells.lookup x=some c->c ≠ X.env.locals:=fun x c e z=>by
 obtain ⟨v,o,ho,hd⟩:=I.cell x c e
 obtain ⟨m,⟨o',es,ep,ho',hd',_⟩,_⟩:=I.loc
 rw [z,ho'] at ho; cases ho; rw [hd'] at hd; cases hd
theorem a8.funs (I:a8 X pins σ H s):s.heap.FunFrames X.base X.outer:=by
 have all:∀ (l:List Env),(∀ b ∈ bN l,b ∈ X.fs)->X.s₀.heap.FunFrames X.base l->s.heap.FunFrames X.base l:=by
  intro l
  induction l with
  | nil=>intro _ _; trivial
  | cons env r ih=>
   intro hs hl
   obtain ⟨hk,⟨L,o,hf,hn,ho,hd⟩,hr⟩:=hl
   have hL:L ∈ X.fs:=hs L (by unfold bN; rw [List.filterMap_cons,hf]; exact aX5)
   obtain ⟨sl,e⟩:=I.base.slot L o ho (I.ok.frf L hL) hL fun z=>I.ok.exfs L z hL
   exact⟨hk,⟨L,_,hf,hn,e,hd⟩,ih (fun b hb=>hs b (by unfold bN; rw [List.filterMap_cons,hf]; exact aW7 _ hb)) hr⟩
 exact all X.outer (fun _ hb=>hb) I.ok.funs
theorem a8.stack (I:a8 X pins σ H s):s.heap.FunFrames X.base X.stack:=by
 rcases I.ok.stk with e | ⟨e,hf⟩
 ·rw [e]; exact I.funs
 ·rw [e]
  obtain ⟨m,hn,_⟩:=I.loc
  refine .cons (by rw [I.ok.kind]; decide) hf hn ?_ I.funs
  exact Heap.get?_none_of_le (aZ7 I.ok.bsz I.ok.above)
theorem a8.stkSub (I:a8 X pins σ H s):∀ b ∈ bN X.stack,b ∈ X.env.locals :: X.fs:=fun b hb=>by
 rcases I.ok.stk with e | ⟨e,hf⟩
 ·rw [e] at hb; exact aW7 _ hb
 ·rw [e] at hb
  unfold bN at hb
  rw [List.filterMap_cons,hf] at hb
  exact hb
theorem a8.stkFree (I:a8 X pins σ H s):∀ b ∈ bN X.stack,H b=none:=fun b hb=>by
 rcases aW3.mp (I.stkSub b hb) with e | hb
 ·rw [e]; exact I.free
 ·obtain ⟨_,o,ho,_⟩:=I.ok.funs.mem hb
  exact I.base.free b o ho (I.ok.frf b hb) fun z=>I.ok.exfs b z hb
theorem a8.step {g':Array GenState}{t':Nat}{d':Drawn}{ch:List Addr} (I:a8 X pins σ H s)
  (hch:∀ b ∈ ch,(b ∈ X.ex ∨ X.s₀.heap.objs.size<=b)/\b ≠ X.env.locals/\(∀ x c,X.env.cells.lookup x=some c->c ≠ b)/\∀ p ∈ X.pn ++ pins,p.1 ≠ b)
  (keep:∀ b o,b ≠ X.env.locals->b ∉ X.fs->b ∉ ch->s.heap.get? b=some o->H b=none->h'.get? b=some o)
  (slot:∀ b o,b ≠ X.env.locals->b ∈ X.fs->b ∉ ch->s.heap.get? b=some o->H b=none->∃ sl,h'.get? b=some { o with slots:=sl }) (free:∀ b o,b ∉ ch->s.heap.get? b=some o->H b=none->H' b=none)
  (there:∀ b o,b ∉ ch->s.heap.get? b=some o->∃ o',h'.get? b=some o')
  (tups:∀ b xs,H b=some (.tup xs)->H' b=some (.tup xs)) (frzs:∀ b o u,H b=some (.frz o u)->H' b=some (.frz o u)) (tbls:∀ b ps,H b=some (.tbl ps)->∃ more,H' b=some (.tbl (ps ++ more)))
  (ns:∀ m,s.heap.Ns X.env.locals m->h'.Ns X.env.locals m) (hok:bT X.prog X.w H' h') (hg:AllBare g') :
  a8 X pins σ H' { s with heap:=h',gens:=g',drawn:=d',toks:=t' }:=by
 have neL:∀ b o,X.s₀.heap.get? b=some o->b ≠ X.env.locals:=fun b o e=>aZ0 (aY0 (aX1 e) I.ok.above)
 have neC:∀ b o,X.s₀.heap.get? b=some o->b ∉ X.ex->b ∉ ch:=fun b o e hx hb=>by
  rcases (hch b hb).1 with z | z
  ·exact hx z
  ·exact absurd (aY0 (aX1 e) z) (bf2 _)
 have cellK:∀ x c,X.env.cells.lookup x=some c->∀ v,s.heap.IsCell c v->h'.IsCell c v:=fun x c e v ⟨o,ho,hd⟩=>by
  have nch:c ∉ ch:=fun z=>(hch c z).2.2.1 x c e rfl
  by_cases hc:c ∈ X.fs
  ·obtain ⟨sl,q⟩:=slot c o (I.cne x c e) hc nch ho (I.freeC x c e)
   exact⟨_,q,hd⟩
  ·exact⟨o,keep c o (I.cne x c e) hc nch ho (I.freeC x c e),hd⟩
 refine⟨I.ok,I.os,hg,⟨fun b o e n hb hx=>?_,fun b o e n hb hx=>?_,fun b o e n hx=>?_,fun b o e hx=>?_,fun b xs e=>tups b xs (I.base.tups b xs e),fun b o xs e=>frzs b o xs (I.base.frzs b o xs e),fun b ps e=>?_⟩,?_,fun x c e=>?_,?_,fun x c e=>?_,fun p hp=>?_,hok,I.len⟩
 ·exact keep b o (neL b o e) hb (neC b o e hx) (I.base.keep b o e n hb hx) (I.base.free b o e n hx)
 ·obtain ⟨sl,e1⟩:=I.base.slot b o e n hb hx
  obtain ⟨sl',e2⟩:=slot b _ (neL b o e) hb (neC b o e hx) e1 (I.base.free b o e n hx)
  exact⟨sl',e2⟩
 ·obtain ⟨o',e1⟩:=I.base.there b o e hx
  exact free b o' (neC b o e hx) e1 (I.base.free b o e n hx)
 ·obtain ⟨o',e1⟩:=I.base.there b o e hx
  exact there b o' (neC b o e hx) e1
 ·obtain ⟨m1,e1⟩:=I.base.tbls b ps e
  obtain ⟨m2,e2⟩:=tbls b _ e1
  exact⟨m1 ++ m2,by rw [e2,Array.append_assoc]⟩
 ·obtain ⟨m,hn,hl⟩:=I.loc
  refine⟨m,ns m hn,fun i x v e1 e2 e3=>?_⟩
  obtain ⟨u,r,l⟩:=hl i x v e1 e2 e3
  refine⟨u,r,?_⟩
  rcases l with l | ⟨k,c,e,z⟩
  ·exact .inl l
  ·exact .inr ⟨k,c,e,cellK x c e _ z⟩
 ·obtain ⟨v,z⟩:=I.cell x c e
  exact⟨v,cellK x c e v z⟩
 ·obtain ⟨m,⟨o,_,_,ho,_⟩,_⟩:=I.loc
  exact free _ o (fun z=>(hch _ z).2.1 rfl) ho I.free
 ·obtain ⟨v,o,ho,hd⟩:=I.cell x c e
  exact free c o (fun z=>(hch c z).2.2.1 x c e rfl) ho (I.freeC x c e)
 ·obtain ⟨e,n,ne,nf,d⟩:=I.pin p hp
  have nch:p.1 ∉ ch:=fun z=>(hch p.1 z).2.2.2 p hp rfl
  exact⟨keep p.1 p.2 ne nf nch e n,free p.1 p.2 nch e n,ne,nf,d⟩
theorem a8.un {t':Nat} (I:a8 X pins σ H s) (u:Un X.fs [] H H' s.heap h') (hok:bT X.prog X.w H' h'):a8 X pins σ H' { s with heap:=h',toks:=t' }:=by
 obtain ⟨m,⟨o,es,ep,ho,r⟩,_⟩:=id I.loc
 obtain ⟨sl,hL⟩:=u.any ho I.free (by simp)
 exact I.step (g':=s.gens) (d':=s.drawn) (ch:=[]) (fun _ z=>nomatch z) (fun b o _ hb _ e n=>u.keep b o e n hb (by simp)) (fun b o _ hb _ e n=>u.slot b o e n hb (by simp)) (fun b o _ e n=>u.free b o e n (by simp)) (fun b o _ e=>u.there b o e (by simp)) u.tups u.frzs u.tbls (fun m' hm=>by
  obtain ⟨o',es',ep',ho',r'⟩:=hm
  rw [ho] at ho'; cases ho'
  exact⟨_,es',ep',hL,r'⟩) hok I.bare
theorem a8.call {g':Array GenState}{t':Nat}{d':Drawn}{ch:List Addr} (I:a8 X pins σ H s) (u:Un (bN X.stack) ch H H' s.heap h') (hok:bT X.prog X.w H' h') (hg:AllBare g')
  (hch:∀ b ∈ ch,(b ∈ X.ex ∨ X.s₀.heap.objs.size<=b)/\b ≠ X.env.locals/\(∀ x c,X.env.cells.lookup x=some c->c ≠ b)/\∀ p ∈ X.pn ++ pins,p.1 ≠ b) :
  a8 X pins σ H' { s with heap:=h',gens:=g',drawn:=d',toks:=t' }:=by
 obtain ⟨m,⟨o,es,ep,ho,r⟩,_⟩:=id I.loc
 obtain ⟨sl,hL⟩:=u.any ho I.free fun z=>(hch _ z).2.1 rfl
 exact I.step (ch:=ch) hch (fun b o hL hb hc e n=>u.keep b o e n (fun z=>(aW3.mp (I.stkSub b z)).elim hL hb) hc) (fun b o _ _ hc e n=>u.any e n hc) (fun b o hc e n=>u.free b o e n hc) (fun b o hc e=>u.there b o e hc) u.tups u.frzs u.tbls (fun m' hm=>by
  obtain ⟨o',es',ep',ho',r'⟩:=hm
  rw [ho] at ho'; cases ho'
  exact⟨_,es',ep',hL,r'⟩) hok hg
theorem a8.turned {t':Nat}{it:Addr} (I:a8 X pins σ H s) (k:∀ b o,b ≠ it->s.heap.get? b=some o->h'.get? b=some o) (hn:H it=none) (hL:it ≠ X.env.locals)
  (h1:it ∈ X.ex ∨ X.s₀.heap.objs.size<=it) (h2:∀ x c,X.env.cells.lookup x=some c->c ≠ it) (h3:∀ p ∈ X.pn ++ pins,p.1 ≠ it):a8 X pins σ H { s with heap:=h',toks:=t' }:=by
 have nit:∀ b u,H b=some u->b ≠ it:=fun b u e z=>by rw [z,hn] at e; cases e
 refine I.step (g':=s.gens) (d':=s.drawn) (ch:=[it]) (fun b hb=>?_) (fun b o _ _ hc e _=>k b o (fun z=>hc (by simp [z])) e) (fun b o _ _ hc e _=>⟨o.slots,k b o (fun z=>hc (by simp [z])) e⟩) (fun _ _ _ _ n=>n)
  (fun b o hc e=>⟨o,k b o (fun z=>hc (by simp [z])) e⟩) (fun _ _ e=>e) (fun _ _ _ e=>e) (fun b ps e=>⟨#[],by rw [e]; simp⟩) (fun m hm=>?_) (fun b u e=>?_) I.bare
 ·have e:b=it:=by simpa using hb
  subst e
  exact⟨h1,hL,h2,h3⟩
 ·obtain ⟨o,es,ep,ho,r⟩:=hm
  exact⟨o,es,ep,k _ o (Ne.symm hL) ho,r⟩
 ·refine (I.hok b u e).stay (fun c v hc q=>k c v ?_ q) (fun _ q=>q) fun _ _ q=>q
  rcases hc with z | z
  ·rw [z]; exact nit b u e
  ·exact nit c _ z
theorem a8.tok (I:a8 X pins σ H s) (t:Nat):a8 X pins σ H { s with toks:=t }:=I.un (h':=s.heap) (t':=t) Un.refl I.hok
theorem a8.kept {t':Nat} (I:a8 X pins σ H s) (k:∀ b u,s.heap.get? b=some u->h'.get? b=some u):a8 X pins σ H { s with heap:=h',toks:=t' }:=I.un (Un.kept k) (I.hok.kept k)
theorem a8.laid {a:Addr}{o:HO}{t':Nat} (I:a8 X pins σ H s) (k:∀ b u,s.heap.get? b=some u->h'.get? b=some u) (hp:s.heap.objs.size<=a) (new:bW X.prog X.w (upd H a o) h' a o) :
  a8 X pins σ (upd H a o) { s with heap:=h',toks:=t' }:=I.un (Un.laid k hp (I.hok.fresh hp)) (I.hok.laid k hp new)
theorem a8.write {x e:Addr}{o:HO}{t':Nat} (I:a8 X pins σ H s) (mu:mP (H x)) (he:e=x ∨ H e=some (.own x)) (k:∀ b u,b ≠ e->s.heap.get? b=some u->h'.get? b=some u) (heo:∃ u,h'.get? e=some u)
  (new:bW X.prog X.w (upd H x o) h' x o):a8 X pins σ (upd H x o) { s with heap:=h',toks:=t' }:=I.un (Un.write mu he k heo) (I.hok.write mu he k heo new)
theorem a8.weak {σ':List (Option V)} (I:a8 X pins σ H s) (hl:σ'.length=σ.length) (w:∀ (i:Nat) v,σ'[i]? = some (some v)->σ[i]? = some (some v)):a8 X pins σ' H s:=
 ⟨I.ok,I.os,I.bare,I.base,let ⟨m,hn,hl'⟩:=I.loc; ⟨m,hn,fun i x v e1 e2 e3=>hl' i x v e1 (w i v e2) e3⟩,I.cell,I.free,I.freeC,I.pin,I.hok,hl.trans I.len⟩
theorem a8.pins_of {pins':List (Addr × Obj)} (I:a8 X pins σ H s) (h:∀ p ∈ pins',s.heap.get? p.1=some p.2/\H p.1=none/\p.1 ≠ X.env.locals/\p.1 ∉ X.fs/\∀ v,p.2.data ≠ .cell v):a8 X pins' σ H s:=
 ⟨I.ok,I.os,I.bare,I.base,I.loc,I.cell,I.free,I.freeC,fun p hp=>(bb6.mp hp).elim (fun z=>I.pin p (be5 _ z)) (h p),I.hok,I.len⟩
theorem sO {N:List Str} (hN:N.Nodup) {i j:Nat}{x:Str} (a:N[i]? = some x) (b:N[j]? = some x):i=j:=by
 obtain ⟨h1,e1⟩:=aW9.mp a
 obtain ⟨h2,e2⟩:=aW9.mp b
 exact (List.getElem_inj hN).mp (e1.trans e2.symm)
theorem ab5 {M:Model}{A:Around}{E:Value->Shared->Prop}{i:Nat}{x:Str}{v:V}{u:Value}{Q:Unit->Shared->Prop} (I:a8 X pins σ H s) (hN:X.N.Nodup) (hi:X.N[i]? = some x) (hx:gN X.env.scope x) (r:aP v u)
  (h:∀ s',a8 X pins (σ.set i (some v)) H s'->(∃ a,Heap.SameBut a s.heap s'.heap/\(a=X.env.locals ∨ X.env.cells.lookup x=some a))->Q () s') (hf:X.fn x=true ∨ X.env.scope.names.lookup x=some .local:=by first | exact .inl rfl | exact .inr rfl | assumption):wpAny M A (storeName X.env x u) Q E s:=by
 obtain ⟨m,hn,hl⟩:=id I.loc
 have hcls:(X.env.scope.kind == .class || (X.env.scope.kind == .module && X.env.locals != X.env.globals))=false:=by rw [I.ok.kind]; rfl
 have hiσ:i < σ.length:=by rw [I.len]; exact (aW9.mp hi).1
 have cne:=I.cne
 have tracked:∀ {a:Addr}{h':Heap},(∃ o,s.heap.get? a=some o/\H a=none)->Heap.SameBut a s.heap h'->bT X.prog X.w H h':=fun {a h'} ha hs b ob e=>by
  obtain ⟨_,_,hfree⟩:=ha
  refine (I.hok b ob e).stay (fun c w' hc q=>(hs.2 c ?_).trans q) (fun _ q=>q) fun _ _ q=>q
  rintro rfl
  rcases hc with rfl | hc
  ·rw [hfree] at e; cases e
  ·rw [hfree] at hc; cases hc
 rcases hx with hk | hk
 ·refine wpAny_storeName_local hk hn (fun h' hn' hs=>?_) hcls
  obtain ⟨oL,_,_,hoL,_⟩:=id hn
  refine h _ ⟨I.ok,I.os,I.bare,⟨fun b o e n hb hx=>?_,fun b o e n hb hx=>?_,I.base.free,fun b o e hx=>?_,I.base.tups,I.base.frzs,I.base.tbls⟩,⟨_,hn',fun j y v' e1 e2 e3=>?_⟩,fun y c e=>?_,I.free,I.freeC,fun p hp=>?_,tracked ⟨oL,hoL,I.free⟩ hs,by simpa using I.len⟩ ⟨_,hs,.inl rfl⟩
  ·exact (hs.2 b (aZ0 (aY0 (aX1 e) I.ok.above))).trans (I.base.keep b o e n hb hx)
  ·obtain ⟨sl,e1⟩:=I.base.slot b o e n hb hx
   exact⟨sl,(hs.2 b (aZ0 (aY0 (aX1 e) I.ok.above))).trans e1⟩
  ·obtain ⟨o',e1⟩:=I.base.there b o e hx
   exact⟨o',(hs.2 b (aZ0 (aY0 (aX1 e) I.ok.above))).trans e1⟩
  ·by_cases hj:j=i
   ·subst hj
    rw [hi] at e1; cases e1
    rw [bd0 hiσ] at e2
    cases e2
    exact⟨u,r,.inl ⟨hk,by simp⟩⟩
   ·rw [aZ2 (Ne.symm hj)] at e2
    obtain ⟨u',r',q⟩:=hl j y v' e1 e2 e3
    refine⟨u',r',?_⟩
    rcases q with ⟨k,e⟩ | ⟨k,c,e,z⟩
    ·refine .inl ⟨k,?_⟩
     have:y ≠ x:=fun e=>hj (sO hN e1 (e ▸ hi))
     simp [this,e]
    ·exact .inr ⟨k,c,e,z.sameBut hs (cne y c e)⟩
  ·obtain ⟨w',z⟩:=I.cell y c e
   exact⟨w',z.sameBut hs (cne y c e)⟩
  ·obtain ⟨e,n,ne,nf,d⟩:=I.pin p hp
   exact⟨(hs.2 p.1 ne).trans e,n,ne,nf,d⟩
 ·have hfn:X.fn x=true:=by
   rcases hf with z | z
   ·exact z
   ·rw [z] at hk; cases hk
  obtain ⟨c,hc⟩:=I.ok.has x (.inl hk)
  obtain ⟨w',z⟩:=I.cell x c hc
  refine wpAny_storeName_cell I.ok.kind hk hc z (fun h' hc' hs=>?_)
  obtain ⟨oc,hoc,hocd⟩:=id z
  refine h { s with heap:=h' } ⟨I.ok,I.os,I.bare,⟨fun b o e n hb hx=>?_,fun b o e n hb hx=>?_,I.base.free,fun b o e hx=>?_,I.base.tups,I.base.frzs,I.base.tbls⟩,⟨m,hn.sameBut hs (Ne.symm (cne x c hc)),fun j y v' e1 e2 e3=>?_⟩,fun y c' e=>?_,I.free,I.freeC,fun p hp=>?_,tracked ⟨oc,hoc,I.freeC x c hc⟩ hs,by simpa using I.len⟩ ⟨c,hs,.inr hc⟩
  ·exact (hs.2 b (aZ0 (aY0 (aX1 e) (I.ok.cab x c hfn hc)))).trans (I.base.keep b o e n hb hx)
  ·obtain ⟨sl,e1⟩:=I.base.slot b o e n hb hx
   exact⟨sl,(hs.2 b (aZ0 (aY0 (aX1 e) (I.ok.cab x c hfn hc)))).trans e1⟩
  ·obtain ⟨o',e1⟩:=I.base.there b o e hx
   exact⟨o',(hs.2 b (aZ0 (aY0 (aX1 e) (I.ok.cab x c hfn hc)))).trans e1⟩
  ·by_cases hj:j=i
   ·subst hj
    rw [hi] at e1; cases e1
    rw [bd0 hiσ] at e2
    cases e2
    exact⟨u,r,.inr ⟨.inl hk,c,hc,hc'⟩⟩
   ·rw [aZ2 (Ne.symm hj)] at e2
    obtain ⟨u',r',q⟩:=hl j y v' e1 e2 e3
    refine⟨u',r',?_⟩
    rcases q with q | ⟨k,c',e,z'⟩
    ·exact .inl q
    ·refine .inr ⟨k,c',e,z'.sameBut hs ?_⟩
     rintro rfl
     exact hj (sO hN e1 (I.ok.inj _ _ _ e hc ▸ hi))
  ·by_cases hcc:c'=c
   ·subst hcc; exact⟨_,hc'⟩
   ·obtain ⟨w2,z2⟩:=I.cell y c' e
    exact⟨w2,z2.sameBut hs hcc⟩
  ·obtain ⟨e,n,ne,nf,d⟩:=I.pin p hp
   refine⟨(hs.2 p.1 ?_).trans e,n,ne,nf,d⟩
   intro q
   rw [q,hoc] at e
   have q':oc=p.2:=aY5 e
   exact d w' (by rw [<- q']; exact hocd)
theorem oI {M:Model}{A:Around}{E:Value->Shared->Prop}{i:Nat}{x:Str}{v:V}{u:Value}{Q:Unit->Shared->Prop} (I:a8 X pins σ H s) (hN:X.N.Nodup) (hi:X.N[i]? = some x) (hx:gN X.env.scope x) (r:aP v u)
  (h:∀ s',a8 X pins (σ.set i (some v)) H s'->Q () s') (hf:X.fn x=true ∨ X.env.scope.names.lookup x=some .local:=by first | exact .inl rfl | exact .inr rfl | assumption):wpAny M A (storeName X.env x u) Q E s:=
 ab5 I hN hi hx r (fun s' I' _=>h s' I') hf
theorem a8.call' {s':Shared}{ch:List Addr} (I:a8 X pins σ H s) (ho:s'.os=s.os) (u:Un (bN X.stack) ch H H' s.heap s'.heap) (hok:bT X.prog X.w H' s'.heap) (hg:AllBare s'.gens)
  (hch:∀ b ∈ ch,(b ∈ X.ex ∨ X.s₀.heap.objs.size<=b)/\b ≠ X.env.locals/\(∀ x c,X.env.cells.lookup x=some c->c ≠ b)/\∀ p ∈ X.pn ++ pins,p.1 ≠ b):a8 X pins σ H' s':=by
 obtain ⟨h',g',d',t',o'⟩:=s'
 have e:o'=s.os:=ho
 subst e
 exact I.call (g':=g') (t':=t') (d':=d') u hok hg hch
end
abbrev XK:=Value->Option Addr->Hp->Prop
abbrev St:=List (Option V)
abbrev VK:=V->Hp->Prop
abbrev TE:=St->Hp->VK->Prop
abbrev TT:=St->Hp->(Bool->Hp->Prop)->Prop
abbrev TA:=St->Hp->(List V->Hp->Prop)->Prop
structure cP where
 nx:St->Hp->Prop
 rt:VK
 bk:St->Hp->Prop:=fun _ _=>False
 ct:St->Hp->Prop:=fun _ _=>False
abbrev TS:=cP->St->Hp->Prop
def EP (X:Cx) (pins:List (Addr × Obj)) (σ:St) (Q:VK) (u:Value) (s':Shared):Prop:=∃ v H',a8 X pins σ H' s'/\aP v u/\Q v H'
def TP (X:Cx) (pins:List (Addr × Obj)) (σ:St) (Q:Bool->Hp->Prop) (b:Bool) (s':Shared):Prop:=∃ H',a8 X pins σ H' s'/\Q b H'
def AP (X:Cx) (pins:List (Addr × Obj)) (σ:St) (Q:List V->Hp->Prop) (us:List Value) (s':Shared):Prop:=∃ vs H',a8 X pins σ H' s'/\aI vs us/\Q vs H'
def SP (X:Cx) (pins:List (Addr × Obj)) (D:cP) (f:Flow) (s':Shared):Prop:=
 match f with
 | .next=>∃ σ' H',a8 X pins σ' H' s'/\D.nx σ' H'
 | .brk=>∃ σ' H',a8 X pins σ' H' s'/\D.bk σ' H'
 | .cont=>∃ σ' H',a8 X pins σ' H' s'/\D.ct σ' H'
 | .ret u=>∃ v σ' H',a8 X pins σ' H' s'/\aP v u/\D.rt v H'
def PE (X:Cx) (e:Expr) (t:TE):Prop:=
 ∀ (pins:List (Addr × Obj)) (s:Shared) (σ:St) (H:Hp) (Q:VK),a8 X pins σ H s->t σ H Q->wpAny (model X.prog X.w) X.A (eval e X.env) (EP X pins σ Q) X.xe s
def PT (X:Cx) (e:Expr) (t:TT):Prop:=
 ∀ (pins:List (Addr × Obj)) (s:Shared) (σ:St) (H:Hp) (Q:Bool->Hp->Prop),a8 X pins σ H s->t σ H Q->wpAny (model X.prog X.w) X.A (isTrue e X.env (eval e X.env)) (TP X pins σ Q) X.xe s
def PW (X:Cx) (e:Expr) (t:TT):Prop:=
 ∀ (whole:Sem Value) (pins:List (Addr × Obj)) (s:Shared) (σ:St) (H:Hp) (Q:Bool->Hp->Prop),a8 X pins σ H s->t σ H Q->wpAny (model X.prog X.w) X.A (isTrue e X.env whole) (TP X pins σ Q) X.xe s
theorem PW.pt {X:Cx}{e:Expr}{t:TT} (h:PW X e t):PT X e t:=h _
def PA (X:Cx) (es:List Expr) (t:TA):Prop:=
 ∀ (pos:Pos) (pins:List (Addr × Obj)) (s:Shared) (σ:St) (H:Hp) (Q:List V->Hp->Prop),a8 X pins σ H s->t σ H Q->wpAny (model X.prog X.w) X.A (spliced (backTo pos (starEach es X.env))) (AP X pins σ Q) X.xe s
def PS (X:Cx) (st:Stmt) (t:TS):Prop:=
 ∀ (pins:List (Addr × Obj)) (s:Shared) (σ:St) (H:Hp) (D:cP),a8 X pins σ H s->t D σ H->wpAny (model X.prog X.w) X.A (exec st X.env) (SP X pins D) X.xe s
def dF (X:Cx) (st:List Stmt) (t:TS):Prop:=
 ∀ (pins:List (Addr × Obj)) (s:Shared) (σ:St) (H:Hp) (D:cP),a8 X pins σ H s->t D σ H->wpAny (model X.prog X.w) X.A (execs st X.env) (SP X pins D) X.xe s
theorem aQ {α:Type}{t:Sem α}{Q Q':α->Shared->Prop}{M:Model}{A:Around}{E:Value->Shared->Prop}{s:Shared} (h:wpAny M A t Q E s) (hQ:∀ a s,Q a s->Q' a s):wpAny M A t Q' E s:=bf5 h hQ fun _ _ x=>x
section
variable {X : Cx}
theorem bin {a b:Expr}{ta tb:TE} (ha:PE X a ta) (hb:PE X b tb) {pins:List (Addr × Obj)}{s:Shared}{σ:St}{H:Hp}{R:V->V->Hp->Prop} (I:a8 X pins σ H s) (h:ta σ H fun x H1=>tb σ H1 fun y H2=>R x y H2)
  {α:Type}{Q:α->Shared->Prop}{f:Value->Value->Sem α}
  (hf:∀ v u s2 x y H2,a8 X pins σ H2 s2->aP x v->aP y u->R x y H2->wpAny (model X.prog X.w) X.A (f v u) Q X.xe s2) :
  wpAny (model X.prog X.w) X.A (eval a X.env) (fun v s₁=>wpAny (model X.prog X.w) X.A (eval b X.env) (fun u s₂=>wpAny (model X.prog X.w) X.A (f v u) Q X.xe s₂) X.xe s₁) X.xe s:=by
 refine aQ (ha pins s σ H _ I h) fun v s1 ⟨x,H1,I1,r1,q1⟩=>?_
 refine aQ (hb pins s1 σ H1 _ I1 q1) fun u s2 ⟨y,H2,I2,r2,q2⟩=>?_
 exact hf v u s2 x y H2 I2 r1 r2 q2
def iN (i:Nat):TE:=fun σ H Q=>∃ v,σ[i]? = some (some v)/\Q v H
def tC (v:V):TE:=fun _ H Q=>Q v H
theorem jI {i:Nat}{x:Str}{pos:Pos} (hN:X.N[i]? = some x) (hv:i7 X.env.scope x) (hd:(x == ("__debug__" : Str))=false:=by decide) (hcd:(x == ("__classdict__" : Str))=false:=by decide):PE X (.Name x pos) (iN i):=by
 intro pins s σ H Q I h
 obtain ⟨v,e,h⟩:=h
 obtain ⟨m,hn,hl⟩:=I.loc
 obtain ⟨u,r,l⟩:=hl i x v hN e hv
 have fin:EP X pins σ Q u s:=⟨v,H,I,r,h⟩
 rcases l with ⟨hk,hm⟩ | ⟨hk,c,hc,hcell⟩
 ·exact wpAny_Name (wpAny_loadName_local I.ok.kind hk hn hm fin) hd
 ·rcases hk with hk | hk
  ·exact wpAny_Name (wpAny_loadName_cell I.ok.kind hk hc hcell fin) hd
  ·exact wpAny_Name (wpAny_loadName_free I.ok.kind hk hc hcell fin hcd) hd
theorem ab6 {i j pos}:PE X (.Constant (.int i) j pos) (tC (.int i)):=fun _ _ _ H _ I h=>wpAny_Constant_int ⟨.int i,H,I.tok _,⟨_,rfl⟩,h⟩
theorem ab7 {b j pos}:PE X (.Constant (.bool b) j pos) (tC (.bl b)):=fun _ _ _ H _ I h=>Constant_bool ⟨.bl b,H,I,rfl,h⟩
theorem ab8 {j pos}:PE X (.Constant .none j pos) (tC .non):=fun _ _ _ H _ I h=>Constant_none ⟨.non,H,I,rfl,h⟩
theorem ab9 {x j pos}:PE X (.Constant (.str x) j pos) (tC (.str x)):=fun _ _ _ H _ I h=>Calls.Constant_str ⟨.str x,H,I.tok _,⟨_,rfl⟩,h⟩
def Gl (X:Cx) (x:Str):Prop:=X.env.kindOf x=some .globalImplicit
theorem mQ {E:Value->Shared->Prop}{pins:List (Addr × Obj)}{s:Shared}{σ:St}{H:Hp}{x:Str}{u:Value}{pos:Pos}{Q:Value->Shared->Prop} (I:a8 X pins σ H s) (hg:Gl X x) (hm:X.mg x=some u) (h:Q u s)
  (hd:(x == ("__debug__" : Str))=false:=by decide):wpAny (model X.prog X.w) X.A (eval (.Name x pos) X.env) Q E s:=
 Calls.Name_function_global I.ok.kind hg (Calls.loadGlobal_global (by rw [I.ok.glob]; exact I.mod.glob.keeps I.bk) hm h) hd
theorem lC {E:Value->Shared->Prop}{pins:List (Addr × Obj)}{s:Shared}{σ:St}{H:Hp}{x:Str}{u:Value}{pos:Pos}{Q:Value->Shared->Prop} (I:a8 X pins σ H s) (hg:Gl X x) (hm:X.mg x=none) (hv:bootBuiltins x=some u) (h:Q u s)
  (hn:x ≠ "__name__":=by decide) (hd:(x == ("__debug__" : Str))=false:=by decide):wpAny (model X.prog X.w) X.A (eval (.Name x pos) X.env) Q E s:=by
 obtain ⟨mb,h1,h2⟩:=I.mod.blt
 exact Calls.Name_function_global I.ok.kind hg (Calls.loadGlobal_builtin (by rw [I.ok.glob]; exact I.mod.glob.keeps I.bk) hm (by rw [I.ok.blt]; exact h1.keeps I.bk) ((h2 x hn).trans hv) h) hd
theorem xA {x:Str}{v:V}{u:Value}{pos:Pos} (hg:Gl X x) (hm:X.mg x=some u) (r:aP v u) (hd:(x == ("__debug__" : Str))=false:=by decide):PE X (.Name x pos) (tC v):=
 fun _ _ _ H _ I h=>mQ I hg hm ⟨v,H,I,r,h⟩ hd
theorem xB {x:Str}{v:V}{u:Value}{pos:Pos} (hg:Gl X x) (hm:X.mg x=none) (hv:bootBuiltins x=some u) (r:aP v u) (hn:x ≠ "__name__":=by decide) (hd:(x == ("__debug__" : Str))=false:=by decide):PE X (.Name x pos) (tC v):=
 fun _ _ _ H _ I h=>lC I hg hm hv ⟨v,H,I,r,h⟩ hn hd
variable {a b : Expr} {ta tb : TE} {pos : Pos}
def PC (X:Cx) (op:CmpOp) (a b:Expr) (t:TE):Prop:=
 ∀ (pins:List (Addr × Obj)) (s:Shared) (σ:St) (H:Hp) (Q:VK),a8 X pins σ H s->t σ H Q->
  wpAny (model X.prog X.w) X.A (eval a X.env) (fun v s₁=>wpAny (model X.prog X.w) X.A (eval b X.env) (fun u s₂=>wpAny (model X.prog X.w) X.A (compareOp op v u) (EP X pins σ Q) X.xe s₂) X.xe s₁) X.xe s
def tB (t:TE):TT:=fun σ H Q=>t σ H fun x H1=>∃ c,x = .bl c/\Q c H1
theorem ac0 {op:CmpOp}{t:TE} (h:PC X op a b t) (h1:behindInMarks op b=false:=by first | exact nobehind _ (by decide) (by decide) | rfl):PT X (.Compare a [op] [b] pos) (tB t):=by
 intro pins s σ H Q I hw
 refine wpAny_isTrue_Compare1 (aQ (h pins s σ H _ I hw) fun v s1 h1=>aQ h1 fun u s2 h2=>aQ h2 fun c s3 ⟨x,H1,I1,r1,q1⟩=>?_) h1
 obtain ⟨d,rfl,q⟩:=q1
 cases r1
 exact bj5 ⟨H1,I1,q⟩
theorem ac1 {e:Expr}{t:TE} (h:PE X e t) (he:∀ whole,isTrue e X.env whole=(do let v <- whole; standAt e.pos; holding [v] (truthy v)):=by intro _; rfl):PT X e (tB t):=by
 intro pins s σ H Q I hw
 refine isTrue_plain (aQ (h pins s σ H _ I hw) fun v s1 ⟨x,H1,I1,r1,q1⟩=>?_) (he _)
 obtain ⟨d,rfl,q⟩:=q1
 cases r1
 exact bj5 ⟨H1,I1,q⟩
variable {tA tB' : TT} {cG : List Expr}
def xC (t u:TT):TT:=fun σ H Q=>t σ H fun c H1=>if c=true then u σ H1 Q else Q false H1
def xD (t u:TT):TT:=fun σ H Q=>t σ H fun c H1=>if c=true then Q true H1 else u σ H1 Q
def xE (t:TT):TT:=fun σ H Q=>t σ H fun c H1=>Q (!c) H1
theorem ac2 (ha:PT X a tA):PW X (.BoolOp .And [a] pos) tA:=by
 intro wh pins s σ H Q I h
 refine isTrue_and (aQ (ha pins s σ H Q I h) fun c s1 e=>?_)
 cases c with
 | true=>exact isTrue_and_nil e
 | false=>exact e
theorem ac3 (ha:PT X a tA):PW X (.BoolOp .Or [a] pos) tA:=by
 intro wh pins s σ H Q I h
 refine isTrue_or (aQ (ha pins s σ H Q I h) fun c s1 e=>?_)
 cases c with
 | false=>exact isTrue_or_nil e
 | true=>exact e
theorem ac4 (ha:PT X a tA) (hb:PW X (.BoolOp .And (b :: cG) pos) tB'):PW X (.BoolOp .And (a :: b :: cG) pos) (xC tA tB'):=by
 intro wh pins s σ H Q I h
 refine isTrue_and (aQ (ha pins s σ H _ I h) fun c s1 ⟨H1,I1,q1⟩=>?_)
 cases c with
 | true=>exact hb wh pins s1 σ H1 Q I1 q1
 | false=>exact⟨H1,I1,q1⟩
theorem ac5 (ha:PT X a tA) (hb:PW X (.BoolOp .Or (b :: cG) pos) tB'):PW X (.BoolOp .Or (a :: b :: cG) pos) (xD tA tB'):=by
 intro wh pins s σ H Q I h
 refine isTrue_or (aQ (ha pins s σ H _ I h) fun c s1 ⟨H1,I1,q1⟩=>?_)
 cases c with
 | true=>exact⟨H1,I1,q1⟩
 | false=>exact hb wh pins s1 σ H1 Q I1 q1
theorem ac6 (ha:PT X a tA):PT X (.UnaryOp .Not a pos) (xE tA):=by
 intro pins s σ H Q I h
 exact isTrue_not (ha pins s σ H (fun c H1=>Q (!c) H1) I h)
def xF (ta tb:TE):TE:=fun σ H Q=>ta σ H fun x H1=>∃ c,x = .bl c/\if c=true then tb σ H1 Q else Q (.bl false) H1
theorem ac7 {op}{t:TE} (h:PE X a t):PE X (.BoolOp op [a] pos) t:=fun pins s σ H Q I hw=>BoolOp_one (h pins s σ H Q I hw)
theorem ac8 (ha:PE X a ta) (hb:PE X (.BoolOp .And (b :: cG) pos) tb):PE X (.BoolOp .And (a :: b :: cG) pos) (xF ta tb):=by
 intro pins s σ H Q I h
 refine BoolOp_and (aQ (ha pins s σ H _ I h) fun v s1 ⟨x,H1,I1,r1,q1⟩=>?_)
 obtain ⟨c,rfl,q1⟩:=q1
 cases r1
 refine bj5 ?_
 cases c with
 | true=>exact hb pins s1 σ H1 Q I1 q1
 | false=>exact⟨.bl false,H1,I1,rfl,q1⟩
end
def aN (K:PySem.W.Frag) (H:Hp) (a:Addr) (xs:List V):Prop:=
 Rd H a (.lst xs) ∨
  ∃ (o:Obj) (its:Array Value) (n:Nat),K.lookup a=some o/\o.cls = .type "list"/\o.dict=none/\o.data = .seq its n/\its.size<=sizeLine/\aI xs its.toList
def aL (K:PySem.W.Frag) (H:Hp) (a:Addr) (xs:List V):Prop:=
 Rd H a (.tup xs) ∨
  ∃ (o:Obj) (its:Array Value) (n:Nat),K.lookup a=some o/\o.cls = .type "tuple"/\o.data = .seq its n/\its.size<=sizeLine/\aI xs its.toList
def ac9:Value->Option V
 | .none=>some .non
 | .bool b=>some (.bl b)
 | .int i _=>some (.int i)
 | .str x _=>some (.str x)
 | .bytes b _=>some (.byt b)
 | .float b _=>some (.flt b)
 | .ref a=>some (.ref a)
 | .type n=>some (.ty n)
 | _=>none
theorem aP.abs {x:V}{u:Value} (r:aP x u):ac9 u=some x:=by
 cases x with
 | non=>cases r; rfl
 | bl _=>cases r; rfl
 | int _=>obtain ⟨t,rfl⟩:=r; rfl
 | str _=>obtain ⟨t,rfl⟩:=r; rfl
 | byt _=>obtain ⟨t,rfl⟩:=r; rfl
 | flt _=>obtain ⟨t,rfl⟩:=r; rfl
 | ref _=>cases r; rfl
 | ty _=>cases r; rfl
theorem aP.inj {x y:V}{u:Value} (r:aP x u) (q:aP y u):x=y:=aY5 (r.abs.symm.trans q.abs)
theorem aI.inj:∀ {xs ys:List V}{us:List Value},aI xs us->aI ys us->xs=ys
 | _,_,_,.nil,.nil=>rfl
 | _,_,_,.cons r t,.cons r' t'=>by rw [r.inj r',aI.inj t t']
section
variable {X : Cx} {pins : List (Addr × Obj)} {σ : St} {H : Hp} {s : Shared} {a : Addr} {xs ys : List V}
theorem aN.of {K:PySem.W.Frag} (h:H a=some (.lst xs)):aN K H a xs:=.inl (.inl h)
theorem aL.of {K:PySem.W.Frag} (h:H a=some (.tup xs)):aL K H a xs:=.inl (.inl h)
theorem a8.list (I:a8 X pins σ H s) (h:aN X.K H a xs):∃ its:List Value,aI xs its/\PlainL s.heap a its.toArray/\xs.length<=sizeLine:=by
 rcases h with h | ⟨o,its,n,hk,hc,hd,hs,hz,r⟩
 ·obtain ⟨z,its,n,r,e⟩:=h.ok I.hok
  exact⟨its,r,⟨_,n,e,rfl,rfl,rfl⟩,z⟩
 ·refine⟨its.toList,r,⟨o,n,I.kIn a o hk,hc,hd,by simpa using hs⟩,?_⟩
  have e:=r.length
  simp only [ba3] at e
  omega
theorem a8.tuple (I:a8 X pins σ H s) (h:aL X.K H a xs):∃ its:List Value,aI xs its/\IsTup s.heap a its.toArray/\xs.length<=sizeLine:=by
 rcases h with h | ⟨o,its,n,hk,hc,hs,hz,r⟩
 ·obtain ⟨z,its,r,p,_⟩:=h.ok I.hok
  exact⟨its,r,p,z⟩
 ·refine⟨its.toList,r,⟨o,I.kIn a o hk,hc,n,by simpa using hs⟩,?_⟩
  have e:=r.length
  simp only [ba3] at e
  omega
theorem a8.list_inj (I:a8 X pins σ H s) (h:aN X.K H a xs) (h':aN X.K H a ys):xs=ys:=by
 obtain ⟨its,r,⟨o,n,e,_,_,d⟩,_⟩:=I.list h
 obtain ⟨its',r',⟨o',n',e',_,_,d'⟩,_⟩:=I.list h'
 rw [e] at e'; cases e'
 rw [d] at d'
 injection d' with d1 _
 have:its=its':=by simpa using congrArg Array.toList d1
 subst this
 exact r.inj r'
theorem a8.tuple_inj (I:a8 X pins σ H s) (h:aL X.K H a xs) (h':aL X.K H a ys):xs=ys:=by
 obtain ⟨its,r,⟨o,e,_,n,d⟩,_⟩:=I.tuple h
 obtain ⟨its',r',⟨o',e',_,n',d'⟩,_⟩:=I.tuple h'
 rw [e] at e'; cases e'
 rw [d] at d'
 injection d' with d1 _
 have:its=its':=by simpa using congrArg Array.toList d1
 subst this
 exact r.inj r'
end
abbrev Cx.wish (X:Cx) (E:Value->Shared->Prop):Cx:={ X with xe:=E }
abbrev Cx.nox (X:Cx):Cx:=X.wish fun _ _=>False
theorem Cx.Ok.wish {X:Cx} (ok:X.Ok) (E:Value->Shared->Prop):(X.wish E).Ok:=
 ⟨ok.mod,ok.kind,ok.glob,ok.blt,ok.above,ok.inj,ok.has,ok.cab,ok.hd,ok.frames,ok.stk,ok.exf,ok.bs,ok.bsz,ok.noex,ok.exfs,ok.funs,ok.frf⟩
theorem Cx.Ok.unwish {X:Cx}{E:Value->Shared->Prop} (ok:(X.wish E).Ok):X.Ok:=
 ⟨ok.mod,ok.kind,ok.glob,ok.blt,ok.above,ok.inj,ok.has,ok.cab,ok.hd,ok.frames,ok.stk,ok.exf,ok.bs,ok.bsz,ok.noex,ok.exfs,ok.funs,ok.frf⟩
section
variable {X : Cx} {pins : List (Addr × Obj)} {σ : St} {H : Hp} {s : Shared} {E : Value → Shared → Prop}
theorem a8.wish (I:a8 X pins σ H s) (E:Value->Shared->Prop):a8 (X.wish E) pins σ H s:=⟨I.ok.wish E,I.os,I.bare,I.base,I.loc,I.cell,I.free,I.freeC,I.pin,I.hok,I.len⟩
theorem a8.unwish (I:a8 (X.wish E) pins σ H s):a8 X pins σ H s:=⟨I.ok.unwish,I.os,I.bare,I.base,I.loc,I.cell,I.free,I.freeC,I.pin,I.hok,I.len⟩
theorem SP.unwish {D:cP}{f:Flow}{s':Shared} (h:SP (X.wish E) pins D f s'):SP X pins D f s':=by
 cases f with
 | next=>obtain ⟨σ',H',I,q⟩:=h; exact⟨σ',H',I.unwish,q⟩
 | brk=>obtain ⟨σ',H',I,q⟩:=h; exact⟨σ',H',I.unwish,q⟩
 | cont=>obtain ⟨σ',H',I,q⟩:=h; exact⟨σ',H',I.unwish,q⟩
 | ret u=>obtain ⟨v,σ',H',I,r,q⟩:=h; exact⟨v,σ',H',I.unwish,r,q⟩
theorem dF.nox {st:List Stmt}{t:TS} (h:dF X.nox st t):dF X st t:=fun pins s σ H D I hw=>
 bf5 (h pins s σ H D (I.wish _) hw) (fun _ _ q=>q.unwish) fun _ _ z=>False.elim z
end
section
variable {X : Cx} {st : Stmt} {cG : List Stmt} {t u : TS} {e : Expr} {te : TE} {pos : Pos}
def xG:TS:=fun D σ H=>D.nx σ H
def xH (t u:TS):TS:=fun D σ H=>t { D with nx:=u D } σ H
theorem ad0:dF X [] xG:=fun _ _ σ H _ I h=>wpAny_execs_nil ⟨σ,H,I,h⟩
theorem ad1 (h1:PS X st t) (h2:dF X cG u):dF X (st :: cG) (xH t u):=by
 intro pins s σ H D I h
 refine wpAny_execs_cons (aQ (h1 pins s σ H { D with nx:=u D } I h) fun f s1 q=>?_)
 cases f with
 | next=>
  obtain ⟨σ',H',I',q⟩:=q
  exact h2 pins s1 σ' H' D I' q
 | ret v=>exact q
 | brk=>exact q
 | cont=>exact q
theorem ad2 (h1:PS X st t):dF X [st] t:=by
 intro pins s σ H D I h
 refine wpAny_execs_cons (aQ (h1 pins s σ H D I h) fun f s1 q=>?_)
 cases f with
 | next=>exact wpAny_execs_nil q
 | ret v=>exact q
 | brk=>exact q
 | cont=>exact q
theorem a8.quiet {pins:List (Addr × Obj)}{σ:St}{H:Hp}{s:Shared} (I:a8 X pins σ H s):interactive X.env=false:=by simp [interactive,I.ok.kind]
def mR (te:TE):TS:=fun D σ H=>te σ H fun _ H1=>D.nx σ H1
theorem oJ (he:PE X e te) (hs:swapsWith e none pos.line X.env=pure false:=by rfl):PS X (.Expr e pos) (mR te):=by
 intro pins s σ H D I h
 exact wpAny_Expr_any (aQ (he pins s σ H _ I h) fun v s1 ⟨x,H1,I1,r1,q1⟩=>⟨σ,H1,I1,q1⟩) I.quiet hs
def sP (te:TE):TS:=fun D σ H=>te σ H D.rt
theorem xI (he:PE X e te):PS X (.Return (some e) pos) (sP te):=by
 intro pins s σ H D I h
 exact wpAny_Return_some (aQ (he pins s σ H _ I h) fun v s1 ⟨x,H1,I1,r1,q1⟩=>⟨x,σ,H1,I1,r1,q1⟩)
def xJ (c:TT) (t u:TS):TS:=fun D σ H=>c σ H fun b H1=>if b=true then t D σ H1 else u D σ H1
theorem ad3 {c:Expr}{a b:List Stmt}{tc:TT} (hc:PT X c tc) (ha:dF X a t) (hb:dF X b u):PS X (.If c a b pos) (xJ tc t u):=by
 intro pins s σ H D I h
 refine wpAny_If (aQ (hc pins s σ H _ I h) fun d s1 ⟨H1,I1,q1⟩=>?_)
 cases d with
 | true=>exact ha pins s1 σ H1 D I1 q1
 | false=>exact hb pins s1 σ H1 D I1 q1
end
abbrev TG:=V->St->Hp->(St->Hp->Prop)->Prop
abbrev kB:=List V->St->Hp->(St->Hp->Prop)->Prop
def PG (X:Cx) (target:Expr) (t:TG):Prop:=
 ∀ (pins:List (Addr × Obj)) (s:Shared) (σ:St) (H:Hp) (v:V) (u:Value) (Q:St->Hp->Prop),a8 X pins σ H s->aP v u->t v σ H Q->
  wpAny (model X.prog X.w) X.A (assign target X.env u) (fun _ s'=>∃ σ' H',a8 X pins σ' H' s'/\Q σ' H') X.xe s
def oK (X:Cx) (ts:List Expr) (t:kB):Prop:=
 ∀ (pins:List (Addr × Obj)) (s:Shared) (σ:St) (H:Hp) (vs:List V) (us:List Value) (Q:St->Hp->Prop),a8 X pins σ H s->aI vs us->t vs σ H Q->
  wpAny (model X.prog X.w) X.A (assignInOrder ((assignEach ts X.env).map (·.2)) us) (fun _ s'=>∃ σ' H',a8 X pins σ' H' s'/\Q σ' H') X.xe s
abbrev sQ:=V->V->V->Hp->(Hp->Prop)->Prop
def xK (X:Cx) (t:sQ):Prop:=
 ∀ (pins:List (Addr × Obj)) (s:Shared) (σ:St) (H:Hp) (o i v:V) (ov iv u:Value) (Q:Hp->Prop),a8 X pins σ H s->aP o ov->aP i iv->aP v u->t o i v H Q->
  wpAny (model X.prog X.w) X.A (setItem ov iv u) (fun _ s'=>∃ H',a8 X pins σ H' s'/\Q H') X.xe s
section
variable {X : Cx} {pos : Pos}
def eC (i:Nat):TG:=fun v σ H Q=>Q (σ.set i (some v)) H
theorem jJ {i:Nat}{x:Str} (hN:X.N.Nodup) (hi:X.N[i]? = some x) (hx:gN X.env.scope x) (hf:X.fn x=true ∨ X.env.scope.names.lookup x=some .local:=by first | exact .inl rfl | exact .inr rfl | assumption):PG X (.Name x pos) (eC i):=by
 intro pins s σ H v u Q I r h
 exact wpAny_assign_Name (oI I hN hi hx r (fun s' I'=>⟨_,H,I',h⟩) hf)
def lD:kB:=fun vs σ H Q=>vs = []/\Q σ H
def gO (t:TG) (u:kB):kB:=fun vs σ H Q=>∃ v r,vs=v :: r/\t v σ H fun σ' H'=>u r σ' H' Q
theorem oM:oK X [] lD:=by
 intro pins s σ H vs us Q I r h
 obtain ⟨e,h⟩:=h
 subst e
 cases r
 exact assignInOrder_nil ⟨σ,H,I,h⟩
theorem jK {e:Expr}{es:List Expr}{t:TG}{u:kB} (h1:PG X e t) (h2:oK X es u)
  (hs:(assignEach (e :: es) X.env).map (·.2)=assign e X.env :: (assignEach es X.env).map (·.2):=by rfl):oK X (e :: es) (gO t u):=by
 intro pins s σ H vs us Q I r h
 obtain ⟨v,vr,e1,h⟩:=h
 subst e1
 cases r with
 | cons r rr=>
  rw [hs]
  refine assignInOrder_cons (aQ (h1 pins s σ H _ _ _ I r h) fun _ s1 ⟨σ1,H1,I1,q1⟩=>?_)
  exact h2 pins s1 σ1 H1 _ _ Q I1 rr q1
def lE (K:PySem.W.Frag) (n:Nat) (t:kB):TG:=fun v σ H Q=>∃ a xs,v = .ref a/\aL K H a xs/\xs.length=n/\t xs σ H Q
theorem oN {es:List Expr}{k:Nat}{t:kB}{n:Nat} (hc:X.calm=true) (h:oK X es t)
  (hn:(assignEach es X.env).length=n:=by rfl) (hst:(assignEach es X.env).findIdx? (·.1)=none:=by rfl):PG X (.Tuple es k pos) (lE X.K n t):=by
 intro pins s σ H v u Q I r hw
 obtain ⟨a,xs,e1,hq,hl,hw⟩:=hw
 subst e1
 cases r
 obtain ⟨its,rv,ht,hz⟩:=I.tuple hq
 refine assign_Tuple_tuple (I.ok.hd hc) ht (by simp [hn,<- hl,rv.length]) hst fun h' hx=>?_
 have I1:a8 X pins σ H { s with heap:=h' }:=I.kept (t':=s.toks) fun b o e=>hx b o (aZ0 (aX1 e)) e
 exact h pins _ σ H xs _ Q I1 (by simpa using rv) hw
def mS (to ti:TE) (t:sQ):TG:=fun v σ H Q=>to σ H fun o H1=>ti σ H1 fun i H2=>t o i v H2 fun H3=>Q σ H3
theorem xL {o i:Expr}{to ti:TE}{t:sQ} (ho:PE X o to) (hi:PE X i ti) (hs:xK X t)
  (ha:∀ v,assign (.Subscript o i pos) X.env v=(do
   let ov <- holding [v] (eval o X.env)
   let iv <- holding [v,ov] (eval i X.env)
   standAt pos
   holding [v,ov,iv] (setItem ov iv v)
   release [v,ov,iv] []):=by intro _; rfl):PG X (.Subscript o i pos) (mS to ti t):=by
 intro pins s σ H v u Q I r h
 rw [ha]
 refine aV7 (bb0 (aQ (ho pins s σ H _ I h) fun ov s1 ⟨x,H1,I1,r1,q1⟩=>?_))
 refine aV7 (bb0 (aQ (hi pins s1 σ H1 _ I1 q1) fun iv s2 ⟨y,H2,I2,r2,q2⟩=>?_))
 refine aV7 (wpAny_standAt (aV7 (bb0 (aQ (hs pins s2 σ H2 x y v ov iv u _ I2 r1 r2 r q2) fun _ s3 ⟨H3,I3,q3⟩=>?_))))
 exact wpAny_release ⟨σ,H3,I3,q3⟩
def lF (te:TE) (g:TG):TS:=fun D σ H=>te σ H fun x H1=>g x σ H1 D.nx
theorem xM {tg e:Expr}{te:TE}{g:TG} (he:PE X e te) (hg:PG X tg g) (hs:swapsWithSole [tg] e pos.line X.env=pure false:=by rfl) (hw:swappedStores [tg] e X.env=pure none:=by rfl)
  (h1:(assignEach [tg] X.env).map (·.2) = [assign tg X.env]:=by rfl):PS X (.Assign [tg] e pos) (lF te g):=by
 intro pins s σ H D I h
 refine wpAny_Assign_stores (aQ (he pins s σ H _ I h) fun v s1 ⟨x,H1,I1,r1,q1⟩=>?_) hs hw
 rw [h1]
 exact aQ (hg pins s1 σ H1 x v _ I1 r1 q1) fun _ s2 q=>q
theorem xN {i:Nat}{x:Str}{e:Expr}{te:TE}{pos':Pos} (hN:X.N.Nodup) (hi:X.N[i]? = some x) (hx:gN X.env.scope x) (he:PE X e te) (hs:swapsWith e (some (.Name x pos')) pos.line X.env=pure false:=by rfl) (hf:X.fn x=true ∨ X.env.scope.names.lookup x=some .local:=by first | exact .inl rfl | exact .inr rfl | assumption) :
  PS X (.Assign [.Name x pos'] e pos) (lF te (eC i)):=by
 intro pins s σ H D I h
 refine wpAny_Assign_Name (aQ (he pins s σ H _ I h) fun v s1 ⟨y,H1,I1,r1,q1⟩=>?_) hs
 exact oI I1 hN hi hx r1 (fun s2 I2=>⟨_,H1,I2,q1⟩) hf
end
section
variable {X : Cx} {pos : Pos}
def xO (c:TT) (tb:TS):TS:=fun D σ H=>∃ W:Nat->St->Hp->Prop,(∃ m,W m σ H)/\∀ m σ H,W m σ H->
 c σ H fun b H1=>if b=true then ∃ N:St->Hp->Prop,(∀ σ' H',N σ' H'->∃ m',m' < m/\W m' σ' H')/\tb { D with nx:=N,ct:=N,bk:=D.nx } σ H1 else D.nx σ H1
theorem ad4 {c:Expr}{body:List Stmt}{tc:TT}{tb:TS} (hp:PassesOwn (model X.prog X.w) X.A X.env X.xe) (hc:PT X c tc) (hb:dF X body tb):PS X (.While c body [] pos) (xO tc tb):=by
 intro pins s σ H D I h
 obtain ⟨W,⟨m0,w0⟩,turn⟩:=h
 refine wpAny_While (codeAny_whileLoop (fun n s'=>∃ σ' H',a8 X pins σ' H' s'/\W n σ' H') ?_ m0 ⟨σ,H,I,w0⟩)
 rintro n s1 ⟨σ1,H1,I1,w1⟩
 refine bl0 hp (aQ (hc pins s1 σ1 H1 _ I1 (turn n σ1 H1 w1)) fun b s2 ⟨H2,I2,q2⟩=>?_)
 cases b with
 | true=>
  obtain ⟨N,hN,q2⟩:=q2
  rw [if_pos rfl]
  refine bl0 hp (aQ (hb pins s2 σ1 H2 _ I2 q2) fun f s3 q3=>?_)
  cases f with
  | next=>
   obtain ⟨σ3,H3,I3,n3⟩:=q3
   obtain ⟨m',hm,w3⟩:=hN σ3 H3 n3
   exact⟨m',hm,σ3,H3,I3,w3⟩
  | cont=>
   obtain ⟨σ3,H3,I3,n3⟩:=q3
   obtain ⟨m',hm,w3⟩:=hN σ3 H3 n3
   exact⟨m',hm,σ3,H3,I3,w3⟩
  | brk=>exact q3
  | ret v=>exact q3
 | false=>
  rw [if_neg aY3]
  exact wpAny_execs_nil ⟨σ1,H2,I2,q2⟩
end
structure It where
 go:Nat->Hp->Prop
 yld:Nat->Hp->V->Hp->Prop
 stop:Nat->Hp->Prop
def fB (X:Cx) (pins:List (Addr × Obj)) (H:Hp) (b:Addr):Prop:=
 H b=none/\b ≠ X.env.locals/\b ∉ X.fs/\(b ∈ X.ex ∨ X.s₀.heap.objs.size<=b)/\(∀ x c,X.env.cells.lookup x=some c->c ≠ b)/\∀ p ∈ X.pn ++ pins,p.1 ≠ b
theorem a8.fpOk {X:Cx}{pins:List (Addr × Obj)}{σ:St}{H H':Hp}{s:Shared}{b:Addr} (I:a8 X pins σ H s) (hb:s.heap.objs.size<=b) (hn:H' b=none):fB X pins H' b:=by
 refine⟨hn,bg3 (aY0 I.lt hb),I.nofs hb,.inr (aZ7 I.sz hb),fun x c e z=>?_,fun p hp z=>?_⟩
 ·obtain ⟨v,q⟩:=I.cell x c e
  exact absurd (aY0 q.lt (by rw [z]; exact hb)) (bf2 _)
 ·exact absurd (aY0 (aX1 (I.pin p hp).1) (by rw [z]; exact hb)) (bf2 _)
structure i8 (P:Program) (w:World) (K:PySem.W.Frag) (tg:Expr) (J:It) (fp:List Addr) (it:Addr) (tn:Nat->Heap->Prop):Prop where
 mem:it ∈ fp
 obj:∀ i h,tn i h->∀ b ∈ fp,∃ o,h.get? b=some o/\∀ v,o.data ≠ .cell v
 keep:∀ i h h',tn i h->(∀ b ∈ fp,∀ o,h.get? b=some o->h'.get? b=some o)->tn i h'
 item:∀ (X:Cx),X.prog=P->X.w=w->X.K=K->X.calm=true->∀ (i:Nat) (pins:List (Addr × Obj)) (s:Shared) (σ:St) (H:Hp) (E:Value->Shared->Prop),a8 X pins σ H s->(∀ b ∈ fp,fB X pins H b)->tn i s.heap->J.go i H->
  wpAny (model P w) X.A (pyNext (.ref it)) (fun r s1=>∃ u,r=some u/\
   wpAny (model P w) X.A (letOwnedTupleGo tg (.ref it) u) (fun _ s2=>∃ x H',a8 X pins σ H' s2/\aP x u/\J.yld i H x H'/\tn (i+1) s2.heap/\∀ b ∈ fp,H' b=none) E s1) E s
 done:∀ (X:Cx),X.prog=P->X.w=w->X.K=K->X.calm=true->∀ (i:Nat) (pins:List (Addr × Obj)) (s:Shared) (σ:St) (H:Hp) (E:Value->Shared->Prop),a8 X pins σ H s->(∀ b ∈ fp,fB X pins H b)->tn i s.heap->J.stop i H->
  wpAny (model P w) X.A (pyNext (.ref it)) (fun r s1=>r=none/\a8 X pins σ H s1) E s
 self:∀ (A:Around) (i:Nat) (s:Shared) (Q:Value->Shared->Prop) (E:Value->Shared->Prop),tn i s.heap->Q (.ref it) s->wpAny (model P w) A (pyIter (.ref it)) Q E s
abbrev TI:=St->Hp->(It->Hp->Prop)->Prop
def xP (X:Cx) (pins:List (Addr × Obj)) (σ:St) (tg:Expr) (R:It->Hp->Prop) (itv:Value) (s2:Shared):Prop:=
 ∃ (it:Addr) (fp:List Addr) (tn:Nat->Heap->Prop) (J:It) (H':Hp),itv = .ref it/\a8 X pins σ H' s2/\i8 X.prog X.w X.K tg J fp it tn/\tn 0 s2.heap/\(∀ b ∈ fp,fB X pins H' b)/\R J H'
def PI (X:Cx) (tg iter:Expr) (wi:TI):Prop:=
 ∀ (pins:List (Addr × Obj)) (s:Shared) (σ:St) (H:Hp) (R:It->Hp->Prop),a8 X pins σ H s->wi σ H R->
  wpAny (model X.prog X.w) X.A (eval iter X.env) (fun v s1=>wpAny (model X.prog X.w) X.A (pyIter v) (xP X pins σ tg R) X.xe s1) X.xe s
theorem sR {M:Model}{A:Around}{E:Value->Shared->Prop}{s:Shared}{tg:Expr}{it:Addr}{u:Value}{o:Obj}{n:String}{vs:Array Value}{Q:Unit->Shared->Prop} (ho:s.heap.get? it=some o) (hc:o.cls = .type n) (hd:o.data = .fields vs)
    (hn : ["enumerate","zip","dict_itemiterator","dict_reverseitemiterator","odict_iterator","itertools.zip_longest","itertools.pairwise"].contains n=false) (hQ:Q () s):wpAny M A (letOwnedTupleGo tg (.ref it) u) Q E s:=by
  unfold letOwnedTupleGo
  cases tg <;> first
    | exact aW2 hQ
    | (cases u <;> first
        | exact aW2 hQ
        | (refine aV7 (wpAny_load ho ?_)
           rw [hc,hd]
           show wpAny M A (if (["enumerate","zip","dict_itemiterator","dict_reverseitemiterator","odict_iterator","itertools.zip_longest","itertools.pairwise"].contains n && vs[0]? == some (rawInt _))=true then _ else _) Q E s
           rw [if_neg (by intro h; rw [hn,bh3] at h; cases h)]
           exact aW2 hQ))
def sS (K:PySem.W.Frag) (a:Addr):It:=
 ⟨fun i H=>∃ xs x,aN K H a xs/\xs[i]? = some x,fun i H x H'=>H'=H/\∀ xs,aN K H a xs->xs[i]? = some x,fun i H=>∃ xs,aN K H a xs/\xs.length<=i⟩
def sU (K:PySem.W.Frag) (a:Addr):It:=
 ⟨fun i H=>∃ xs x,aL K H a xs/\xs[i]? = some x,fun i H x H'=>H'=H/\∀ xs,aL K H a xs->xs[i]? = some x,fun i H=>∃ xs,aL K H a xs/\xs.length<=i⟩
def oO (lo:Int) (n:Nat):It:=⟨fun i _=>i < n,fun i H x H'=>H'=H/\x = .int (lo+i),fun i _=>n<=i⟩
theorem ad5 {P:Program}{w:World}{K:PySem.W.Frag}{tg:Expr} (a it:Addr):i8 P w K tg (sS K a) [it] it (fun i h=>h.IsListIter it a i) where
 mem:=by simp
 obj:=fun i h st b hb=>by
  have e:b=it:=by simpa using hb
  subst e
  obtain ⟨o,e,c,d⟩:=st
  exact⟨o,e,fun v z=>by rw [d] at z; cases z⟩
 keep:=fun i h h' st k=>st.at fun o e=>k it (by simp) o e
 item:=by
  intro X hP hw hK hc i pins s σ H E I hf st hg
  subst hP hw hK
  obtain ⟨xs,x,hq,hx⟩:=hg
  obtain ⟨its,rv,p,hz⟩:=I.list hq
  obtain ⟨u,hu,ru⟩:=rv.get hx
  obtain ⟨f0,f1,f2,f3,f4,f5⟩:=hf it (by simp)
  refine wpAny_pyNext_list_item st p.isList (x:=u) (by simpa using hu) fun h' st' sb=>?_
  have I1:a8 X pins σ H { s with heap:=h' }:=I.turned (t':=s.toks) (fun b o hb e=>(sb.2 b hb).trans e) f0 f1 f3 f4 f5
  obtain ⟨o,e,c,d⟩:=id st'
  exact⟨u,rfl,sR (s:={ s with heap:=h' }) e c d (by decide) ⟨x,H,I1,ru,⟨rfl,fun ys hy=>by rw [I.list_inj hy hq]; exact hx⟩,st',fun b hb=>(hf b hb).1⟩⟩
 done:=by
  intro X hP hw hK hc i pins s σ H E I hf st hg
  subst hP hw hK
  obtain ⟨xs,hq,hx⟩:=hg
  obtain ⟨its,rv,p,hz⟩:=I.list hq
  obtain ⟨f0,f1,f2,f3,f4,f5⟩:=hf it (by simp)
  have hl:=rv.length
  exact wpAny_pyNext_list_end (I.ok.hd hc) st p.isList (by simp; omega) fun h' eb=>⟨rfl,I.turned (t':=s.toks) (fun b o hb e=>eb b o hb e) f0 f1 f3 f4 f5⟩
 self:=fun _ _ _ _ _ st h=>wpAny_pyIter_listiter st h
theorem ad6 {P:Program}{w:World}{K:PySem.W.Frag}{tg:Expr} (a it:Addr):i8 P w K tg (sU K a) [it] it (fun i h=>h.IsTupleIter it a i) where
 mem:=by simp
 obj:=fun i h st b hb=>by
  have e:b=it:=by simpa using hb
  subst e
  obtain ⟨o,e,c,d⟩:=st
  exact⟨o,e,fun v z=>by rw [d] at z; cases z⟩
 keep:=fun i h h' st k=>st.at fun o e=>k it (by simp) o e
 item:=by
  intro X hP hw hK hc i pins s σ H E I hf st hg
  subst hP hw hK
  obtain ⟨xs,x,hq,hx⟩:=hg
  obtain ⟨its,rv,p,hz⟩:=I.tuple hq
  obtain ⟨u,hu,ru⟩:=rv.get hx
  obtain ⟨f0,f1,f2,f3,f4,f5⟩:=hf it (by simp)
  refine wpAny_pyNext_tuple_item st (show s.heap.IsTuple a its.toArray from p) (x:=u) (by simpa using hu) fun h' st' sb=>?_
  have I1:a8 X pins σ H { s with heap:=h' }:=I.turned (t':=s.toks) (fun b o hb e=>(sb.2 b hb).trans e) f0 f1 f3 f4 f5
  obtain ⟨o,e,c,d⟩:=id st'
  exact⟨u,rfl,sR (s:={ s with heap:=h' }) e c d (by decide) ⟨x,H,I1,ru,⟨rfl,fun ys hy=>by rw [I.tuple_inj hy hq]; exact hx⟩,st',fun b hb=>(hf b hb).1⟩⟩
 done:=by
  intro X hP hw hK hc i pins s σ H E I hf st hg
  subst hP hw hK
  obtain ⟨xs,hq,hx⟩:=hg
  obtain ⟨its,rv,p,hz⟩:=I.tuple hq
  obtain ⟨f0,f1,f2,f3,f4,f5⟩:=hf it (by simp)
  have hl:=rv.length
  exact wpAny_pyNext_tuple_end (I.ok.hd hc) st (show s.heap.IsTuple a its.toArray from p) (by simp; omega) fun h' eb=>⟨rfl,I.turned (t':=s.toks) (fun b o hb e=>eb b o hb e) f0 f1 f3 f4 f5⟩
 self:=fun _ _ _ _ _ st h=>wpAny_pyIter_tupleiter st h
theorem ad7 {P:Program}{w:World}{K:PySem.W.Frag}{tg:Expr} (it:Addr) (lo:Int) (n:Nat):i8 P w K tg (oO lo n) [it] it (fun i h=>IsRangeIter h it (lo+(i:Nat) * 1) ((n:Int) - (i:Nat)) 1) where
 mem:=by simp
 obj:=fun i h st b hb=>by
  have e:b=it:=by simpa using hb
  subst e
  exact⟨_,st,fun v z=>by
   have z':Data.fields _=Data.cell v:=z
   cases z'⟩
 keep:=fun i h h' st k=>k it (by simp) _ st
 item:=by
  intro X hP hw hK hc i pins s σ H E I hf st hg
  subst hP hw hK
  obtain ⟨f0,f1,f2,f3,f4,f5⟩:=hf it (by simp)
  have W:=Walks.range (prog:=X.prog) (w:=X.w) (I.ok.hd hc) it lo 1 n
  refine W.item i s _ _ hg st fun v h' tk hv st' kk=>?_
  obtain ⟨t,rfl⟩:=hv
  have I1:a8 X pins σ H { s with heap:=h',toks:=tk }:=I.turned (fun b o hb e=>kk b o (by simpa using hb) e) f0 f1 f3 f4 f5
  refine⟨_,rfl,sR (s:={ s with heap:=h',toks:=tk }) (n:="range_iterator") st' rfl rfl (by decide) ⟨.int (lo+i),H,I1,⟨t,?_⟩,⟨rfl,rfl⟩,st',fun b hb=>(hf b hb).1⟩⟩
  rw [Int.mul_one]
 done:=by
  intro X hP hw hK hc i pins s σ H E I hf st hg
  subst hP hw hK
  obtain ⟨f0,f1,f2,f3,f4,f5⟩:=hf it (by simp)
  exact wpAny_pyNext_range_end (I.ok.hd hc) st (by have:n<=i:=hg; omega) fun h' eb=>⟨rfl,I.turned (t':=s.toks) (fun b o hb e=>eb b o hb e) f0 f1 f3 f4 f5⟩
 self:=fun _ _ _ _ _ st h=>wpAny_pyIter_rangeiter st h
section
variable {X : Cx} {tg : Expr}
theorem ad8 {pins:List (Addr × Obj)}{σ:St}{H:Hp}{s:Shared}{R:It->Hp->Prop}{E:Value->Shared->Prop}{lo hi:Int}{t u v:Tok}{tk:Nat} (I:a8 X pins σ H s) (h1 : -(2 ^ 62)<=lo) (h2:lo < 2 ^ 62) (h3 : -(2 ^ 62)<=hi) (h4:hi < 2 ^ 62)
  (q:R (oO lo (hi - lo).toNat) H):wpAny (model X.prog X.w) X.A (pyIter (.ref s.heap.objs.size)) (xP X pins σ tg R) E { s with heap:=s.heap.push { cls:=.type "range",data:=.fields #[.int lo t,.int hi u,.int 1 v] },toks:=tk }:=by
 refine wpAny_pyIter_range (IsRange.new ..) (small_one h1 h2 h3 h4) ?_
 have I1:a8 X pins σ H { s with heap:=s.heap.push { cls:=.type "range",data:=.fields #[.int lo t,.int hi u,.int 1 v] },toks:=tk }:=I.kept fun b o e=>aV9 _ e
 refine⟨(s.heap.push { cls:=.type "range",data:=.fields #[.int lo t,.int hi u,.int 1 v] }).objs.size,[(s.heap.push { cls:=.type "range",data:=.fields #[.int lo t,.int hi u,.int 1 v] }).objs.size],_,_,H,rfl,
  I1.kept (t':=tk) fun b o e=>aV9 _ e,ad7 _ lo (hi - lo).toNat,?_,fun b hb=>?_,q⟩
 ·have e1:lo+((0:Nat):Int) * 1=lo:=by simp
  have e2:(((hi - lo).toNat:Nat):Int) - ((0:Nat):Int)=Builtin.Range.rangeSize lo hi 1:=by rw [rangeSize_one]; split <;> omega
  show IsRangeIter _ _ (lo+((0:Nat):Int) * 1) ((((hi - lo).toNat:Nat):Int) - ((0:Nat):Int)) 1
  rw [e1,e2]
  exact aX4 _ rfl
 ·have e:b=(s.heap.push { cls:=.type "range",data:=.fields #[.int lo t,.int hi u,.int 1 v] }).objs.size:=by simpa using hb
  subst e
  exact I1.fpOk (aW8 _) (I1.hok.fresh (aW8 _))
def xQ (ta:TA):TI:=fun σ H R=>ta σ H fun vs H1=>∃ j:Int,vs = [.int j]/\-(2 ^ 62)<=j/\j < 2 ^ 62/\R (oO 0 j.toNat) H1
theorem ad9 {a:Expr}{ta:TA}{p pos:Pos} (hg:Gl X "range") (hm:X.mg "range" = none) (ha:PA X [a] ta) (hs:starEach [a] X.env = [(false,eval a X.env)]:=by rfl):PI X tg (.Call (.Name "range" p) [a] [] pos) (xQ ta):=by
 intro pins s σ H R I h
 refine Call_ (lC I hg hm boot_range (bj9 (aQ (ha pos pins s σ H _ I h) fun us s1 ⟨vs,H1,I1,r1,q1⟩=>?_) hs rfl))
 obtain ⟨j,e,q1,q2,q⟩:=q1
 subst e
 cases r1 with
 | cons r rr=>
  cases rr
  obtain ⟨t,rfl⟩:=r
  exact call_range_1 (ad8 I1 (by omega) (by omega) q1 q2 (by simpa using q))
def xR (wi:TI) (g:TG) (tb:TS):TS:=fun D σ H=>wi σ H fun J H1=>∃ W:Nat->Nat->St->Hp->Prop,(∃ m,W 0 m σ H1)/\∀ i m σ H,W i m σ H->
 (J.stop i H/\D.nx σ H) ∨ (J.go i H/\∃ N:St->Hp->Prop,(∀ σ' H',N σ' H'->∃ m',m' < m/\W (i+1) m' σ' H')/\∀ x H',J.yld i H x H'->g x σ H' fun σ2 H2=>tb { D with nx:=N,ct:=N,bk:=D.nx } σ2 H2)
def mT (fp:List Addr) (h:Heap):List (Addr × Obj):=fp.filterMap fun b=>(h.get? b).map fun o=>(b,o)
theorem oP {fp:List Addr}{h:Heap}{b:Addr}{o:Obj} (hb:b ∈ fp) (e:h.get? b=some o):(b,o) ∈ mT fp h:=List.mem_filterMap.mpr ⟨b,hb,by rw [e]; rfl⟩
theorem ae0 {fp:List Addr}{h:Heap}{p:Addr × Obj} (hp:p ∈ mT fp h):p.1 ∈ fp/\h.get? p.1=some p.2:=by
 obtain ⟨b,hb,e⟩:=List.mem_filterMap.mp hp
 cases q:h.get? b with
 | none=>rw [q] at e; cases e
 | some o=>
  rw [q] at e
  have e':(b,o)=p:=aY5 e
  subst e'
  exact⟨hb,q⟩
theorem a8.pinned {pins:List (Addr × Obj)}{σ:St}{H:Hp}{s:Shared}{fp:List Addr} (I:a8 X pins σ H s) (hf:∀ b ∈ fp,fB X pins H b) (ho:∀ b ∈ fp,∃ o,s.heap.get? b=some o/\∀ v,o.data ≠ .cell v):a8 X (pins ++ mT fp s.heap) σ H s:=
 I.pins_of fun p hp=>(bb6.mp hp).elim (fun z=>I.pin p (aZ4 _ z)) fun z=>by
  obtain ⟨hb,e⟩:=ae0 z
  obtain ⟨f0,f1,f2,_⟩:=hf p.1 hb
  obtain ⟨o,e',d⟩:=ho p.1 hb
  rw [e] at e'; cases e'
  exact⟨e,f0,f1,f2,d⟩
theorem a8.unpinned {pins pl:List (Addr × Obj)}{σ:St}{H:Hp}{s:Shared} (I:a8 X (pins ++ pl) σ H s):a8 X pins σ H s:=I.pins_of fun p hp=>I.pin p (aZ4 _ (be5 _ hp))
theorem ae1 {iter:Expr}{body:List Stmt}{wi:TI}{g:TG}{tb:TS}{pos:Pos} (hp:PassesOwn (model X.prog X.w) X.A X.env X.xe) (hc:X.calm=true) (hi:PI X tg iter wi) (hg:PG X tg g) (hb:dF X body tb)
  (hs:∀ x,foldedSetIterable iter X.env x=pure x:=by intro _; rfl):PS X (.For tg iter body [] pos) (xR wi g tb):=by
 intro pins s σ H D I h
 refine wpAny_For (aQ (hi pins s σ H _ I h) fun v s1 h1=>aQ h1 fun itv s2 h2=>?_) hs
 obtain ⟨it,fp,tn,J,H2,e,I2,T,st2,f2,W,⟨m0,w0⟩,turn⟩:=h2
 subst e
 have stat:∀ {H':Hp},(∀ b ∈ fp,H' b=none)->∀ b ∈ fp,fB X pins H' b:=fun hn b hb=>⟨hn b hb,(f2 b hb).2⟩
 refine codeAny_forLoop_any (fun n s'=>∃ i σ' H',a8 X pins σ' H' s'/\tn i s'.heap/\(∀ b ∈ fp,H' b=none)/\W i n σ' H') ?_ m0 ⟨0,σ,H2,I2,st2,fun b hb=>(f2 b hb).1,w0⟩
 rintro n s3 ⟨i,σ3,H3,I3,st3,fr3,w3⟩
 rcases turn i n σ3 H3 w3 with ⟨stop,qn⟩ | ⟨go,N,hN,step⟩
 ·refine bl0 hp (aQ (T.done X rfl rfl rfl hc i pins s3 σ3 H3 X.xe I3 (stat fr3) st3 stop) fun r s4 ⟨hr,I4⟩=>?_)
  subst hr
  exact wpAny_execs_nil ⟨σ3,H3,I4,qn⟩
 ·refine bl0 hp (aQ (T.item X rfl rfl rfl hc i pins s3 σ3 H3 X.xe I3 (stat fr3) st3 go) fun r s4 ⟨u,hr,h4⟩=>?_)
  subst hr
  refine bl0 hp (aQ h4 fun _ s5 ⟨x,H5,I5,r5,y5,st5,fr5⟩=>?_)
  have I5':=I5.pinned (stat fr5) (T.obj _ _ st5)
  refine bl0 hp (aQ (hg _ s5 σ3 H5 x u _ I5' r5 (step x H5 y5)) fun _ s6 ⟨σ6,H6,I6,q6⟩=>?_)
  refine bl0 hp (aQ (hb _ s6 σ6 H6 _ I6 q6) fun f s7 q7=>?_)
  have again:∀ {σ7:St}{H7:Hp},a8 X (pins ++ mT fp s5.heap) σ7 H7 s7->N σ7 H7->∃ m,m < n/\∃ i σ' H',a8 X pins σ' H' s7/\tn i s7.heap/\(∀ b ∈ fp,H' b=none)/\W i m σ' H':=fun {σ7 H7} I7 n7=>by
   obtain ⟨m',hm,w7⟩:=hN σ7 H7 n7
   refine⟨m',hm,i+1,σ7,H7,I7.unpinned,T.keep _ _ _ st5 fun b hb o e=>(I7.pin (b,o) (aZ4 _ (aZ4 _ (oP hb e)))).1,fun b hb=>?_,w7⟩
   obtain ⟨o,e,d⟩:=T.obj _ _ st5 b hb
   exact (I7.pin (b,o) (aZ4 _ (aZ4 _ (oP hb e)))).2.1
  cases f with
  | next=>obtain ⟨σ7,H7,I7,n7⟩:=q7; exact again I7 n7
  | cont=>obtain ⟨σ7,H7,I7,n7⟩:=q7; exact again I7 n7
  | brk=>obtain ⟨σ7,H7,I7,q7⟩:=q7; exact⟨σ7,H7,I7.unpinned,q7⟩
  | ret v=>obtain ⟨x7,σ7,H7,I7,r7,q7⟩:=q7; exact⟨x7,σ7,H7,I7.unpinned,r7,q7⟩
end
abbrev R2:=V->V->Hp->VK->Prop
def bX (X:Cx) (f:Value->Value->Sem Value) (r:R2):Prop:=
 ∀ (pins:List (Addr × Obj)) (s:Shared) (σ:St) (H:Hp) (x y:V) (v u:Value) (Q:VK),a8 X pins σ H s->aP x v->aP y u->r x y H Q->
  wpAny (model X.prog X.w) X.A (f v u) (EP X pins σ Q) X.xe s
def sV (X:Cx) (f:Value->Sem Value) (r:V->Hp->VK->Prop):Prop:=
 ∀ (pins:List (Addr × Obj)) (s:Shared) (σ:St) (H:Hp) (x:V) (v:Value) (Q:VK),a8 X pins σ H s->aP x v->r x H Q->
  wpAny (model X.prog X.w) X.A (f v) (EP X pins σ Q) X.xe s
def cH (X:Cx) (f:Value) (r:List V->Hp->VK->Prop):Prop:=
 ∀ (pins:List (Addr × Obj)) (s:Shared) (σ:St) (H:Hp) (xs:List V) (us:List Value) (Q:VK),a8 X pins σ H s->aI xs us->r xs H Q->
  wpAny (model X.prog X.w) X.A (call f us) (EP X pins σ Q) X.xe s
def mU (r:R2) (ta tb:TE):TE:=fun σ H Q=>ta σ H fun x H1=>tb σ H1 fun y H2=>r x y H2 Q
def tUn (r:V->Hp->VK->Prop) (ta:TE):TE:=fun σ H Q=>ta σ H fun x H1=>r x H1 Q
def rI (C:Int->Int->Prop) (g:Int->Int->V):R2:=fun x y H Q=>∃ i j,x = .int i/\y = .int j/\C i j/\Q (g i j) H
def gP (g:Int->Int->V):R2:=fun x y H Q=>∃ i j,x = .int i/\y = .int j/\Q (g i j) H
def rU (g:Int->V):V->Hp->VK->Prop:=fun x H Q=>∃ i,x = .int i/\Q (g i) H
section
variable {X : Cx} {a b c : Expr} {ta tb tc : TE} {pos : Pos}
theorem sW (ha:PE X a ta) (hb:PE X b tb) {pins:List (Addr × Obj)}{s:Shared}{σ:St}{H:Hp}{R:V->V->Hp->Prop} (I:a8 X pins σ H s)
  (h:ta σ H fun x H1=>tb σ H1 fun y H2=>R x y H2) {Q:Value->Shared->Prop}{f:Value->Value->Sem Value}
  (hf:∀ v u s2 x y H2,a8 X pins σ H2 s2->aP x v->aP y u->R x y H2->wpAny (model X.prog X.w) X.A (f v u) Q X.xe s2) :
  wpAny (model X.prog X.w) X.A (eval a X.env) (fun v s₁=>wpAny (model X.prog X.w) X.A (eval b X.env) (fun u s₂=>wpAny (model X.prog X.w) X.A (f v u) Q X.xe s₂) X.xe s₁) X.xe s:=by
 refine aQ (ha pins s σ H _ I h) fun v s1 ⟨x,H1,I1,r1,q1⟩=>?_
 refine aQ (hb pins s1 σ H1 _ I1 q1) fun u s2 ⟨y,H2,I2,r2,q2⟩=>?_
 exact hf v u s2 x y H2 I2 r1 r2 q2
theorem ae2 {op:Operator}{r:R2} (ho:bX X (binaryOp op) r) (ha:PE X a ta) (hb:PE X b tb):PE X (.BinOp a op b pos) (mU r ta tb):=by
 intro pins s σ H Q I h
 exact wpAny_BinOp (sW ha hb I h fun v u s2 x y H2 I2 rx ry q=>ho pins s2 σ H2 x y v u Q I2 rx ry q)
theorem ae3 {op:UnaryOp}{r:V->Hp->VK->Prop} (ho:sV X (unaryOp op) r) (ha:PE X a ta):PE X (.UnaryOp op a pos) (tUn r ta):=by
 intro pins s σ H Q I h
 exact UnaryOp_ (aQ (ha pins s σ H _ I h) fun v s1 ⟨x,H1,I1,r1,q1⟩=>ho pins s1 σ H1 x v Q I1 r1 q1)
theorem oQ {f:Value->Value->Sem Value}{C:Int->Int->Prop}{g:Int->Int->Int}
  (rule:∀ (i j:Int) (t u:Tok) (s:Shared) (Q:Value->Shared->Prop) (E:Value->Shared->Prop),C i j->Q (.int (g i j) s.toks) { s with toks:=s.toks+1 }->wpAny (model X.prog X.w) X.A (f (.int i t) (.int j u)) Q E s) :
  bX X f (rI C fun i j=>.int (g i j)):=by
 intro pins s σ H x y v u Q I rx ry h
 obtain ⟨i,j,rfl,rfl,hc,q⟩:=h
 obtain ⟨t,rfl⟩:=rx
 obtain ⟨t',rfl⟩:=ry
 exact rule i j t t' s _ _ hc ⟨.int (g i j),H,I.tok _,⟨_,rfl⟩,q⟩
theorem xS {f:Value->Value->Sem Value}{g:Int->Int->Int}
  (rule:∀ (i j:Int) (t u:Tok) (s:Shared) (Q:Value->Shared->Prop) (E:Value->Shared->Prop),Q (.int (g i j) s.toks) { s with toks:=s.toks+1 }->wpAny (model X.prog X.w) X.A (f (.int i t) (.int j u)) Q E s) :
  bX X f (gP fun i j=>.int (g i j)):=by
 intro pins s σ H x y v u Q I rx ry h
 obtain ⟨i,j,rfl,rfl,q⟩:=h
 obtain ⟨t,rfl⟩:=rx
 obtain ⟨t',rfl⟩:=ry
 exact rule i j t t' s _ _ ⟨.int (g i j),H,I.tok _,⟨_,rfl⟩,q⟩
theorem oR {f:Value->Value->Sem Value}{g:Int->Int->Bool}
  (rule:∀ (i j:Int) (t u:Tok) (s:Shared) (Q:Value->Shared->Prop) (E:Value->Shared->Prop),Q (.bool (g i j)) s->wpAny (model X.prog X.w) X.A (f (.int i t) (.int j u)) Q E s) :
  bX X f (gP fun i j=>.bl (g i j)):=by
 intro pins s σ H x y v u Q I rx ry h
 obtain ⟨i,j,rfl,rfl,q⟩:=h
 obtain ⟨t,rfl⟩:=rx
 obtain ⟨t',rfl⟩:=ry
 exact rule i j t t' s _ _ ⟨.bl (g i j),H,I,rfl,q⟩
def sX (i j:Int):Prop:=0 < j/\j < 1073741824
def sY (i j:Int):Prop:=0<=j/\j<=1000000/\i.natAbs < 2 ^ 64
def mV (i j:Int):Prop:=(-(2 ^ 64) < i/\i < 2 ^ 64) ∨ (-(2 ^ 64) < j/\j < 2 ^ 64)
theorem mV.ok {i j:Int} (h:mV i j):IntMulOk i j:=by
 rcases h with ⟨h1,h2⟩ | ⟨h1,h2⟩
 ·exact .of_left (intBits_le_64 h1 h2)
 ·exact .of_right (intBits_le_64 h1 h2)
theorem ae4:bX X (binaryOp .Add) (gP fun i j=>.int (i+j)):=xS fun _ _ _ _ _ _ _ q=>add_int q
theorem ae5:bX X (binaryOp .Sub) (gP fun i j=>.int (i - j)):=xS fun _ _ _ _ _ _ _ q=>sub_int q
theorem ae6:bX X (binaryOp .Mult) (rI mV fun i j=>.int (i * j)):=oQ fun _ _ _ _ _ _ _ hc q=>mul_int q hc.ok
theorem ae7:bX X (binaryOp .FloorDiv) (rI sX fun i j=>.int (i / j)):=oQ fun i j _ _ _ _ _ hc q=>by
 have h1:(0:Int) < j:=hc.1
 have h2:j < 1073741824:=hc.2
 exact floordiv_int (by omega) (by rw [Int.fdiv_eq_ediv_of_nonneg i (by omega)]; exact q) (.inl (PyProof.noPylong_small (by omega)))
theorem ae8:bX X (binaryOp .Mod) (rI (fun _ j=>0 < j) fun i j=>.int (i % j)):=oQ fun i j _ _ _ _ _ hc q=>by
 have h1:(0:Int) < j:=hc
 exact mod_int' (by omega) (by rw [Int.fmod_eq_emod_of_nonneg i (by omega)]; exact q)
theorem ae9:bX X (binaryOp .Pow) (rI sY fun i j=>.int (i ^ j.toNat)):=oQ fun _ _ _ _ _ _ _ hc q=>pow_int_small hc.1 hc.2.1 hc.2.2 q
theorem unI {f:Value->Sem Value}{g:Int->Int}
  (rule:∀ (i:Int) (t:Tok) (s:Shared) (Q:Value->Shared->Prop) (E:Value->Shared->Prop),Q (.int (g i) s.toks) { s with toks:=s.toks+1 }->wpAny (model X.prog X.w) X.A (f (.int i t)) Q E s) :
  sV X f (rU fun i=>.int (g i)):=by
 intro pins s σ H x v Q I rx h
 obtain ⟨i,rfl,q⟩:=h
 obtain ⟨t,rfl⟩:=rx
 exact rule i t s _ _ ⟨.int (g i),H,I.tok _,⟨_,rfl⟩,q⟩
theorem af0:sV X (unaryOp .USub) (rU fun i=>.int (-i)):=unI fun _ _ _ _ _ q=>neg_int q
end
def xT:V->V->Bool
 | .non,.non=>true | .non,.int _=>true | .int _,.non=>true | .non,.bl _=>true | .bl _,.non=>true | .non,.str _=>true | .str _,.non=>true
 | .int _,.int _=>true | .bl _,.bl _=>true | .str _,.str _=>true | .byt _,.byt _=>true
 | .int _,.str _=>true | .str _,.int _=>true | .bl _,.str _=>true | .str _,.bl _=>true
 | _,_=>false
def sZ:R2:=fun x y H Q=>xT x y=true/\Q (.bl (decide (x=y))) H
def t0:R2:=fun x y H Q=>xT x y=true/\Q (.bl (!decide (x=y))) H
theorem xU {i j:Int}:decide (V.int i=V.int j)=(i == j):=by
 rw [bf0]
 simp
theorem xV {i j:Bool}:decide (V.bl i=V.bl j)=(i == j):=by
 rw [bf0]
 simp
theorem xW {i j:Str}:decide (V.str i=V.str j)=(i == j):=by
 rw [bf0]
 simp
theorem xX {i j:Array UInt8}:decide (V.byt i=V.byt j)=(i.toList == j.toList):=by
 rw [bf0]
 cases i
 cases j
 simp
section
variable {X : Cx} {a b c : Expr} {ta tb tc : TE} {pos : Pos}
theorem bV {pins:List (Addr × Obj)}{σ:St}{H:Hp}{s:Shared}{Q:VK}{k k':Bool} (I:a8 X pins σ H s) (q:Q (.bl k) H) (e:k=k'):EP X pins σ Q (.bool k') s:=by
 subst e
 exact⟨.bl k,H,I,rfl,q⟩
theorem xY:bX X (compareOp .Eq) sZ:=by
 intro pins s σ H x y v u Q I rx ry h
 obtain ⟨hs,q⟩:=h
 cases x with
 | non=>
  cases rx
  cases y with
  | non=>cases ry; exact PySem.EqNone.eq_none_none (bV I q (by simp))
  | bl j=>cases ry; exact PySem.EqNone.eq_none_bool (bV I q (by simp))
  | int j=>obtain ⟨t',rfl⟩:=ry; exact PySem.EqNone.eq_none_int (bV I q (by simp))
  | str j=>obtain ⟨t',rfl⟩:=ry; exact PySem.EqNone.eq_none_str (bV I q (by simp))
  | _=>exact absurd (show false=true from hs) aY3
 | bl i=>
  cases rx
  cases y with
  | non=>cases ry; exact PySem.EqNone.eq_bool_none (bV I q (by simp))
  | bl j=>cases ry; exact eq_bool (bV I q xV)
  | str j=>obtain ⟨t',rfl⟩:=ry; exact PySem.EqMixed.eq_bool_str (bV I q (by simp))
  | _=>exact absurd (show false=true from hs) aY3
 | int i=>
  obtain ⟨t,rfl⟩:=rx
  cases y with
  | non=>cases ry; exact PySem.EqNone.eq_int_none (bV I q (by simp))
  | int j=>obtain ⟨t',rfl⟩:=ry; exact eq_int (bV I q xU)
  | str j=>obtain ⟨t',rfl⟩:=ry; exact PySem.EqMixed.eq_int_str (bV I q (by simp))
  | _=>exact absurd (show false=true from hs) aY3
 | str i=>
  obtain ⟨t,rfl⟩:=rx
  cases y with
  | non=>cases ry; exact PySem.EqNone.eq_str_none (bV I q (by simp))
  | bl j=>cases ry; exact PySem.EqMixed.eq_str_bool (bV I q (by simp))
  | int j=>obtain ⟨t',rfl⟩:=ry; exact PySem.EqMixed.eq_str_int (bV I q (by simp))
  | str j=>obtain ⟨t',rfl⟩:=ry; exact eq_str (bV I q xW)
  | _=>exact absurd (show false=true from hs) aY3
 | byt i=>
  obtain ⟨t,rfl⟩:=rx
  cases y with
  | byt j=>obtain ⟨t',rfl⟩:=ry; exact PySem.W.eq_bytes (bV I q xX)
  | _=>exact absurd (show false=true from hs) aY3
 | _=>cases y <;> exact absurd (show false=true from hs) aY3
theorem xZ:bX X (compareOp .NotEq) t0:=by
 intro pins s σ H x y v u Q I rx ry h
 obtain ⟨hs,q⟩:=h
 cases x with
 | non=>
  cases rx
  cases y with
  | non=>cases ry; exact PySem.EqNone.ne_none_none (bV I q (by simp))
  | bl j=>cases ry; exact PySem.EqNone.ne_none_bool (bV I q (by simp))
  | int j=>obtain ⟨t',rfl⟩:=ry; exact PySem.EqNone.ne_none_int (bV I q (by simp))
  | str j=>obtain ⟨t',rfl⟩:=ry; exact PySem.EqNone.ne_none_str (bV I q (by simp))
  | _=>exact absurd (show false=true from hs) aY3
 | bl i=>
  cases rx
  cases y with
  | non=>cases ry; exact PySem.EqNone.ne_bool_none (bV I q (by simp))
  | bl j=>cases ry; exact ne_bool (bV I q (congrArg not xV))
  | str j=>obtain ⟨t',rfl⟩:=ry; exact PySem.EqMixed.ne_bool_str (bV I q (by simp))
  | _=>exact absurd (show false=true from hs) aY3
 | int i=>
  obtain ⟨t,rfl⟩:=rx
  cases y with
  | non=>cases ry; exact PySem.EqNone.ne_int_none (bV I q (by simp))
  | int j=>obtain ⟨t',rfl⟩:=ry; exact ne_int (bV I q (congrArg not xU))
  | str j=>obtain ⟨t',rfl⟩:=ry; exact PySem.EqMixed.ne_int_str (bV I q (by simp))
  | _=>exact absurd (show false=true from hs) aY3
 | str i=>
  obtain ⟨t,rfl⟩:=rx
  cases y with
  | non=>cases ry; exact PySem.EqNone.ne_str_none (bV I q (by simp))
  | bl j=>cases ry; exact PySem.EqMixed.ne_str_bool (bV I q (by simp))
  | int j=>obtain ⟨t',rfl⟩:=ry; exact PySem.EqMixed.ne_str_int (bV I q (by simp))
  | str j=>obtain ⟨t',rfl⟩:=ry; exact ne_str (bV I q (congrArg not xW))
  | _=>exact absurd (show false=true from hs) aY3
 | byt i=>
  obtain ⟨t,rfl⟩:=rx
  cases y with
  | byt j=>obtain ⟨t',rfl⟩:=ry; exact PySem.W.ne_bytes (bV I q (congrArg not xX))
  | _=>exact absurd (show false=true from hs) aY3
 | _=>cases y <;> exact absurd (show false=true from hs) aY3
theorem t5:bX X (compareOp .Lt) (gP fun i j=>.bl (decide (i < j))):=oR fun _ _ _ _ _ _ _ q=>lt_int q
theorem af1:bX X (compareOp .LtE) (gP fun i j=>.bl (decide (i<=j))):=oR fun _ _ _ _ _ _ _ q=>le_int q
theorem af2:bX X (compareOp .Gt) (gP fun i j=>.bl (decide (j < i))):=oR fun _ _ _ _ _ _ _ q=>gt_int q
theorem af3:bX X (compareOp .GtE) (gP fun i j=>.bl (decide (j<=i))):=oR fun _ _ _ _ _ _ _ q=>ge_int q
theorem af4:bX X (compareOp .Is) (fun x y H Q=>y = .non/\Q (.bl (decide (x = .non))) H):=by
 intro pins s σ H x y v u Q I rx ry h
 obtain ⟨rfl,q⟩:=h
 cases ry
 refine is_none_gen (bV I q ?_)
 cases x <;> first
  | (cases rx; rfl)
  | (obtain ⟨t,rfl⟩:=rx; rfl)
theorem af5:bX X (compareOp .IsNot) (fun x y H Q=>y = .non/\Q (.bl (!decide (x = .non))) H):=by
 intro pins s σ H x y v u Q I rx ry h
 obtain ⟨rfl,q⟩:=h
 cases ry
 refine isnot_none_gen (bV I q ?_)
 cases x <;> first
  | (cases rx; rfl)
  | (obtain ⟨t,rfl⟩:=rx; rfl)
theorem eD (b:Expr) {op:CmpOp} (h:op ≠ .In:=by decide) (h2:op ≠ .NotIn:=by decide):behindInMarks op b=false:=by
 have e1:(op == CmpOp.In)=false:=by cases op <;> first | rfl | exact absurd rfl h
 have e2:(op == CmpOp.NotIn)=false:=by cases op <;> first | rfl | exact absurd rfl h2
 cases b <;> simp [behindInMarks,e1,e2]
theorem af6 {op:CmpOp}{r:R2} (ho:bX X (compareOp op) r) (ha:PE X a ta) (hb:PE X b tb) (hm:behindInMarks op b=false):PE X (.Compare a [op] [b] pos) (mU r ta tb):=by
 intro pins s σ H Q I h
 exact wpAny_Compare1 (sW ha hb I h fun v u s2 x y H2 I2 rx ry q=>ho pins s2 σ H2 x y v u Q I2 rx ry q) hm
def af7 (t:TE):TT:=fun σ H Q=>t σ H fun x H'=>∃ k,x = .bl k/\Q k H'
theorem af8 {op:CmpOp}{r:R2} (ho:bX X (compareOp op) r) (ha:PE X a ta) (hb:PE X b tb) (hm:behindInMarks op b=false):PT X (.Compare a [op] [b] pos) (af7 (mU r ta tb)):=by
 intro pins s σ H Q I h
 refine wpAny_isTrue_Compare1 (aQ (ha pins s σ H _ I h) fun v s1 ⟨x,H1,I1,r1,q1⟩=>aQ (hb pins s1 σ H1 _ I1 q1) fun u s2 ⟨y,H2,I2,r2,q2⟩=>
  aQ (ho pins s2 σ H2 x y v u _ I2 r1 r2 q2) fun c s3 ⟨z,H3,I3,r3,k,e,q3⟩=>?_) hm
 subst e
 cases r3
 exact bj5 ⟨H3,I3,q3⟩
theorem mW:(sizeLine:Nat) < 2 ^ 63:=by rw [sizeLine_eq]; decide
theorem eQ {x:V}{us:List Value} (r:aI [x] us):∃ u,us = [u]/\aP x u:=by
 cases r with
 | cons r1 r2=>cases r2; exact⟨_,rfl,r1⟩
theorem jL {x y:V}{us:List Value} (r:aI [x,y] us):∃ u w',us = [u,w']/\aP x u/\aP y w':=by
 cases r with
 | cons r1 r2=>
  cases r2 with
  | cons r3 r4=>cases r4; exact⟨_,_,rfl,r1,r3⟩
theorem af9 (hc:X.calm=true):cH X (.builtin "max") (fun xs H Q=>∃ i j,xs = [.int i,.int j]/\Q (.int (if j > i then j else i)) H):=by
 intro pins s σ H xs us Q I r h
 obtain ⟨i,j,rfl,q⟩:=h
 obtain ⟨u,w',rfl,⟨t,rfl⟩,⟨t',rfl⟩⟩:=jL r
 refine max_two_ints (I.ok.hd hc) fun h' tk k=>⟨_,H,I.kept k,?_,q⟩
 by_cases hj:j > i
 ·rw [if_pos hj,if_pos hj]; exact⟨_,rfl⟩
 ·rw [if_neg hj,if_neg hj]; exact⟨_,rfl⟩
theorem ag0 (hc:X.calm=true):cH X (.builtin "min") (fun xs H Q=>∃ i j,xs = [.int i,.int j]/\Q (.int (if j < i then j else i)) H):=by
 intro pins s σ H xs us Q I r h
 obtain ⟨i,j,rfl,q⟩:=h
 obtain ⟨u,w',rfl,⟨t,rfl⟩,⟨t',rfl⟩⟩:=jL r
 refine min_two_ints (I.ok.hd hc) fun h' tk k=>⟨_,H,I.kept k,?_,q⟩
 by_cases hj:j < i
 ·rw [if_pos hj,if_pos hj]; exact⟨_,rfl⟩
 ·rw [if_neg hj,if_neg hj]; exact⟨_,rfl⟩
theorem ag1:cH X (.type "int") (fun xs H Q=>(∃ i,xs = [.int i]/\Q (.int i) H) ∨ ∃ k,xs = [.bl k]/\Q (.int (if k then 1 else 0)) H):=by
 intro pins s σ H xs us Q I r h
 rcases h with ⟨i,rfl,q⟩ | ⟨k,rfl,q⟩
 ·obtain ⟨u,rfl,t,rfl⟩:=eQ r
  exact call_int_int ⟨.int i,H,I,⟨_,rfl⟩,q⟩
 ·obtain ⟨u,rfl,r1⟩:=eQ r
  cases r1
  exact call_int_bool ⟨.int (if k then 1 else 0),H,I.tok _,⟨_,rfl⟩,q⟩
end
structure t6 (h:Heap) (x dx C:Addr) (mA:Str->Option Value):Prop where
 obj:h.get? x=some (PySem.W.instObj C dx)
 ns:h.Ns1 dx mA
 ne:dx ≠ x
theorem ag2 {h:Heap}{dx:Addr}{mA:Str->Option Value} (n:h.Ns1 dx mA):∃ od,h.get? dx=some od/\∀ name,PySem.W.lookIn name od=some (mA name):=by
 obtain ⟨o,es,ep,ho,hd,hk,_,hm⟩:=n
 refine⟨o,ho,fun name=>?_⟩
 have e:=hm name
 unfold nsFind findBy at e
 rw [<- Array.find?_toList] at e
 unfold PySem.W.lookIn
 rw [hd]
 dsimp only
 split
 ·rename_i y q
  rw [q] at e
  exact congrArg some e
 ·rename_i q
  rw [q] at e
  have a:es.toList.any (·.refKey)=false:=by
   rw [List.any_eq_false]
   intro y hy
   obtain ⟨z,t,hkey⟩:=hk y (Array.mem_toList_iff.mp hy)
   simp [DictEntry.refKey,hkey]
  have a' : ¬ es.toList.any (·.refKey)=true:=by rw [a]; exact aY3
  rw [if_neg a']
  exact congrArg some e
theorem t6.look {h:Heap}{x dx C:Addr}{mA:Str->Option Value} (I:t6 h x dx C mA):∃ od,PySem.W.InstAt h x (PySem.W.instObj C dx) C (some od)/\∀ name,PySem.W.lookIn name od=some (mA name):=
 let ⟨od,ho,hl⟩:=ag2 I.ns
 ⟨od,⟨I.obj,rfl,rfl,ho⟩,hl⟩
section
variable {P : Program} {w : World} {H H' : Hp} {h h' : Heap} {a C dx : Addr} {fs fs' : List (Str × V)}
theorem ag3 (hok:bT P w H h) (e:H a=some (.ins C dx fs)):∃ mA,t6 h a dx C mA/\(∀ f,kA (fs.lookup f) (mA f))/\PySem.Within mA (fs.map (·.1))/\fs.length<=1000/\H dx=some (.own a):=by
 obtain ⟨d,z,ne,ob,mA,n,r,q⟩:=(show bW P w H h a (.ins C dx fs) from hok a _ e)
 exact⟨mA,⟨ob,n,ne⟩,r,q,z,d⟩
end
structure t7 (K:PySem.W.Frag) (C:Addr):Prop where
 pg:PySem.W.plainGet K C Str.empty=true
 hd:PySem.W.hasDictIn K C=true
 po:PySem.W.plainOver K C=true
 sa:PySem.W.findIn K (.ref C) "__setattr__" = some (some (.builtin "object.__setattr__"))
theorem t7.get {K:PySem.W.Frag}{C:Addr} (c:t7 K C) (f:Str):PySem.W.plainGet K C f=true:=c.pg
section
variable {X : Cx} {pins : List (Addr × Obj)} {σ : St} {H : Hp} {s : Shared} {A : Around} {E : Value → Shared → Prop} {Q : Value → Shared → Prop} {c : Value} {b : Bool}
inductive eR (K:PySem.W.Frag) (H:Hp):V->Value->Prop where
 | non:eR K H .non (.type "NoneType")
 | bl (x:Bool):eR K H (.bl x) (.type "bool")
 | int (i:Int):eR K H (.int i) (.type "int")
 | str (x:Str):eR K H (.str x) (.type "str")
 | flt (x:UInt64):eR K H (.flt x) (.type "float")
 | lst {a:Addr}{xs:List V} (e:H a=some (.lst xs)):eR K H (.ref a) (.type "list")
 | frz {a:Addr}{o:Obj}{xs:List V} (e:H a=some (.frz o (.lst xs))):eR K H (.ref a) (.type "list")
 | tup {a:Addr}{xs:List V} (e:H a=some (.tup xs)):eR K H (.ref a) (.type "tuple")
 | dK {a:Addr}{kvs:List (aM × V)} (e:H a=some (.dK kvs)):eR K H (.ref a) (.type "dict")
 | dT {a:Addr}{kvs:List (List aM × V)} (e:H a=some (.dT kvs)):eR K H (.ref a) (.type "dict")
 | ins {a C dx:Addr}{fs:List (Str × V)} (e:H a=some (.ins C dx fs)) (cl:t7 K C) (ha:PySem.W.findIn K (.ref C) "__class__" = some (some (.builtin "object.__class__")))
   (hn:PySem.W.specialIn K (.builtin "object.__class__") "__get__" = some (some (.builtin "getset_descriptor.__get__"))) (htk:PySem.W.takesIn K (.builtin "object.__class__")=some true)
   (hm:PySem.W.mroIn K C (.type "object")=some true):eR K H (.ref a) (.ref C)
theorem ag4 {x:V}{u t:Value} (I:a8 X pins σ H s) (rx:aP x u) (ty:eR X.K H x t) (e:PySem.W.kitOne X.K t c=some b) (h:∀ tk,Q (.bool b) { s with toks:=tk }) :
  wpAny (model X.prog X.w) A (call (.builtin "isinstance") [u,c]) Q E s:=by
 cases ty with
 | non=>cases (show u=Value.none from rx); exact bc5 PySem.W.kitx_none I.kIn bm9 e (fun z=>nomatch z) h
 | bl y=>cases (show u=Value.bool y from rx); exact bc5 PySem.W.kitx_bool I.kIn bm9 e (fun z=>nomatch z) h
 | int i=>obtain ⟨t,q⟩:=(show ∃ t,u=Value.int i t from rx); cases q; exact bc5 PySem.W.kitx_int I.kIn bm9 e (fun z=>nomatch z) h
 | str y=>obtain ⟨t,q⟩:=(show ∃ t,u=Value.str y t from rx); cases q; exact bc5 PySem.W.kitx_str I.kIn bm9 e (fun z=>nomatch z) h
 | flt y=>obtain ⟨t,q⟩:=(show ∃ t,u=Value.float y t from rx); cases q; exact bc5 PySem.W.kitx_float I.kIn bm9 e (fun z=>nomatch z) h
 | @lst a xs ea=>
  cases (show u=Value.ref a from rx)
  obtain ⟨_,_,n,_,h1⟩:=(show bW X.prog X.w H s.heap a (.lst xs) from I.hok a _ ea)
  exact bc5 PySem.W.kitx_list I.kIn ⟨_,h1,rfl⟩ e (fun z=>nomatch z) h
 | @frz a ob xs ea=>
  cases (show u=Value.ref a from rx)
  obtain ⟨_,_,_,n,_,h1⟩:=(show bW X.prog X.w H s.heap a (.frz ob (.lst xs)) from I.hok a _ ea)
  exact bc5 PySem.W.kitx_list I.kIn ⟨_,h1,rfl⟩ e (fun z=>nomatch z) h
 | @tup a xs ea=>
  cases (show u=Value.ref a from rx)
  obtain ⟨_,_,_,p,_⟩:=(show bW X.prog X.w H s.heap a (.tup xs) from I.hok a _ ea)
  obtain ⟨o,h1,h2,_⟩:=p
  exact bc5 PySem.W.kitx_tuple I.kIn ⟨o,h1,h2⟩ e (fun z=>nomatch z) h
 | @dK a kvs ea=>
  cases (show u=Value.ref a from rx)
  obtain ⟨_,_,vs,_,p⟩:=(show bW X.prog X.w H s.heap a (.dK kvs) from I.hok a _ ea)
  obtain ⟨o,es,ep,h1,h2,_⟩:=p
  exact bc5 PySem.W.kitx_dict I.kIn ⟨o,h1,h2.1⟩ e (fun z=>nomatch z) h
 | @dT a kvs ea=>
  cases (show u=Value.ref a from rx)
  obtain ⟨_,_,xs,_,o,es,ep,h1,h2,_⟩:=(show bW X.prog X.w H s.heap a (.dT kvs) from I.hok a _ ea)
  exact bc5 PySem.W.kitx_dict I.kIn ⟨o,h1,h2.1⟩ e (fun z=>nomatch z) h
 | @ins a C dx fs ea cl ha hn htk hm=>
  cases (show u=Value.ref a from rx)
  obtain ⟨mA,O,_⟩:=ag3 I.hok ea
  obtain ⟨od,J,_⟩:=O.look
  exact bc5 (PySem.W.kitx_own (cl.get _) cl.hd ha hn htk hm) I.kIn J e (fun z=>nomatch z) h
end
structure bZ (k:Nat) (A:Around):Prop where
 hd:A.handled=none
 dp:A.depth+3 * k+5 < recursionLimit
 un:A.units+16 * k+200 < cLine
theorem bZ.mono {j k:Nat}{A:Around} (r:bZ k A) (h:j<=k):bZ j A:=⟨r.hd,by have:=r.dp; omega,by have:=r.un; omega⟩
theorem bZ.deeper {k:Nat}{A:Around} (r:bZ (k+1) A) (env:Env):bZ k (A.deeper env):=
 ⟨r.hd,by have:=r.dp; show A.depth+1+3 * k+5 < _; omega,by have:=r.un; show A.units+3+16 * k+200 < _; omega⟩
theorem bZ.depth {k:Nat}{A:Around} (r:bZ k A):A.depth < recursionLimit:=by have:=r.dp; omega
theorem bZ.units {k:Nat}{A:Around} (r:bZ k A):A.units+64 < cLine:=by have:=r.un; omega
def jM:TA:=fun _ H Q=>Q [] H
def iO (ta:TE) (tr:TA):TA:=fun σ H Q=>ta σ H fun x H1=>tr σ H1 fun xs H2=>Q (x :: xs) H2
section
variable {X : Cx} {e : Expr} {es : List Expr} {te : TE} {t : TA} {pos : Pos}
theorem iP:PA X [] jM:=fun _ _ _ _ H Q I h=>Calls.spliced_nil ⟨[],H,I,.nil,h⟩
theorem fW (ha:PE X e te) (hr:PA X es t) (hs:starEach (e :: es) X.env=(false,eval e X.env) :: starEach es X.env:=by rfl):PA X (e :: es) (iO te t):=by
 intro pos pins s σ H Q I h
 rw [hs]
 show wpAny _ _ (spliced ((false,eval e X.env) :: backTo pos (starEach es X.env))) _ _ s
 refine Calls.spliced_cons (aQ (ha pins s σ H _ I h) fun u s1 ⟨x,H1,I1,r1,q1⟩=>?_)
 exact aQ (hr pos pins s1 σ H1 _ I1 q1) fun us s2 ⟨xs,H2,I2,r2,q2⟩=>⟨x :: xs,H2,I2,.cons r1 r2,q2⟩
def t8 (t:TA):TE:=fun σ H Q=>t σ H fun xs H1=>xs.length<=sizeLine/\∀ p,H1 p=none->Q (.ref p) (upd H1 p (.tup xs))
def y9 (t:TA):TE:=fun σ H Q=>t σ H fun xs H1=>xs.length<=sizeLine/\∀ p,H1 p=none->Q (.ref p) (upd H1 p (.lst xs))
theorem yA {x1} (h:PA X es t):PE X (.Tuple es x1 pos) (t8 t):=by
 intro pins s σ H Q I hq
 refine wpAny_Tuple_spliced (aQ (h pos pins s σ H _ I hq) fun us s1 ⟨xs,H1,I1,r,z,q⟩=>⟨by rw [<- r.length]; exact z,?_⟩)
 have hf:H1 s1.heap.objs.size=none:=I1.hok.fresh (aW8 _)
 refine⟨.ref s1.heap.objs.size,upd H1 s1.heap.objs.size (.tup xs),I1.laid (t':=s1.toks) (fun b u e=>aV9 _ e) (aW8 _) ?_,rfl,q _ hf⟩
 exact⟨z,us,r,⟨_,aX4 _ rfl,rfl,_,rfl⟩,i6.new _ _ rfl⟩
theorem ag5 (h:PA X es t):PE X (.List es pos) (y9 t):=by
 intro pins s σ H Q I hq
 refine wpAny_List_spliced (aQ (h pos pins s σ H _ I hq) fun us s1 ⟨xs,H1,I1,r,z,q⟩=>⟨by rw [<- r.length]; exact z,?_⟩)
 have hf:H1 s1.heap.objs.size=none:=I1.hok.fresh (aW8 _)
 refine⟨.ref s1.heap.objs.size,upd H1 s1.heap.objs.size (.lst xs),I1.laid (t':=s1.toks) (fun b u e=>aV9 _ e) (aW8 _) ?_,rfl,q _ hf⟩
 exact⟨z,us,0,r,aX4 _ rfl⟩
end
abbrev Sp:=List V->Hp->VK->XK->Prop
abbrev fX:=List Env->Hp->Shared->XK->Value->Shared->Prop
structure oS (P:Program) (w:World) (K:PySem.W.Frag) (mg:Str->Option Value) (base:Heap) (A:Around) (outer:List Env) (s:Shared) (H:Hp):Prop where
 frames:A.frames=some outer
 mod:Mod K mg base
 bs:∀ b o,base.get? b=some o->s.heap.get? b=some o/\H b=none
 bsz:base.objs.size<=s.heap.objs.size
 funs:s.heap.FunFrames base outer
 frf:∀ b ∈ bN outer,H b=none
 hok:bT P w H s.heap
 bare:AllBare s.gens
def CE (outer:List Env) (P:Program) (w:World) (H:Hp) (s:Shared) (Q:VK) (u:Value) (s':Shared):Prop:=
 ∃ v H',s'.os=s.os/\AllBare s'.gens/\Un (bN outer) [] H H' s.heap s'.heap/\bT P w H' s'.heap/\aP v u/\Q v H'
def CR (CX:fX) (outer:List Env) (P:Program) (w:World) (H:Hp) (s:Shared) (Q:VK) (E:XK) (r:Result) (s':Shared):Prop:=
 match r with
 | .ok (.ret u)=>CE outer P w H s Q u s'
 | .ok _=>False
 | .error e=>CX outer H s E e s'
structure dC (P:Program) (w:World) (K:PySem.W.Frag) (mg:Str->Option Value) (base:Heap) (CX:fX) (k:Nat) (f:Addr) (fd:FuncData) (ps:List Str) (sp:Sp):Prop where
 len:∀ vs H Q E,sp vs H Q E->vs.length=ps.length
 run:∀ (A:Around) (outer:List Env) (s:Shared) (H:Hp) (args:Args) (us:List Value) (vs:List V) (Q:VK) (E:XK),bZ k A->oS P w K mg base A outer s H->BindsTo s fd args (ps.zip us)->aI vs us->sp vs H Q E->
  codeAny (model P w) A (.call (.ref f) args) (CR CX outer P w H s Q E) s
theorem dC.imp {P:Program}{w:World}{K:PySem.W.Frag}{mg:Str->Option Value}{base:Heap}{CX:fX}{k:Nat}{f:Addr}{fd:FuncData}{ps:List Str}{sp sp':Sp} (F:dC P w K mg base CX k f fd ps sp)
  (h:∀ vs H Q E,sp' vs H Q E->sp vs H Q E):dC P w K mg base CX k f fd ps sp':=
 ⟨fun vs H Q E q=>F.len vs H Q E (h _ _ _ _ q),fun A outer s H args us vs Q E hr he hb hv hs=>F.run A outer s H args us vs Q E hr he hb hv (h _ _ _ _ hs)⟩
section
variable {X : Cx} {pins : List (Addr × Obj)} {σ : St} {H : Hp} {s s' : Shared}
theorem a8.env0 (I:a8 X pins σ H s):oS X.prog X.w X.K X.mg X.base X.A X.stack s H:=
 ⟨I.ok.frames,I.ok.mod,I.bs,aZ7 I.ok.bsz I.sz,I.stack,I.stkFree,I.hok,I.bare⟩
theorem a8.after {Q:VK}{u:Value} (I:a8 X pins σ H s) (h:CE X.stack X.prog X.w H s Q u s'):EP X pins σ Q u s':=by
 obtain ⟨v,H',os,bare,un,hok,r,q⟩:=h
 obtain ⟨hh,g,d,t,os'⟩:=s'
 obtain rfl:os'=s.os:=os
 exact⟨v,H',I.call (h':=hh) (g':=g) (d':=d) (t':=t) (ch:=[]) un hok bare (fun b z=>absurd z (by simp)),r,q⟩
end
def t9 (sp:Sp) (dvs:List V) (E:XK) (t:TA):TE:=fun σ H Q=>t σ H fun vs H1=>sp (vs ++ dvs) H1 Q E
def iQ (K:PySem.W.Frag) (fd:FuncData) (ps:List Str) (ds:List Value):Prop:=
 ∀ (s:Shared) (us:List Value),K.In s.heap->(us ++ ds).length=ps.length->BindsTo s fd ⟨us,[]⟩ (ps.zip (us ++ ds))
theorem iQ.all {K:PySem.W.Frag}{fd:FuncData}{ps:List Str} (h:∀ us:List Value,us.length=ps.length->bindArgs fd ⟨us,[]⟩=pure (ps.zip us)):iQ K fd ps []:=fun s us _ hl=>by
 rw [bf1] at hl ⊢
 exact .of_eq (h us hl)
def mX (CX:fX) (X:Cx) (E:XK):Prop:=∀ (pins:List (Addr × Obj)) (σ:St) (H:Hp) (s:Shared) (e:Value) (s':Shared),a8 X pins σ H s->CX X.stack H s E e s'->X.xe e s'
section
variable {X : Cx} {CX : fX} {k : Nat} {f C : Addr} {fd : FuncData} {ps : List Str} {sp : Sp} {dvs : List V} {ds : List Value} {E : XK} {x m : Str} {p pos apos : Pos} {e o : Expr} {es : List Expr} {ta : TE} {t : TA}
theorem ag6 {pins:List (Addr × Obj)}{σ:St}{H:Hp}{s:Shared}{Q:VK}{us:List Value}{vs:List V} (F:dC X.prog X.w X.K X.mg X.base CX k f fd ps sp) (hr:bZ k X.A) (hb:iQ X.K fd ps ds) (hd:aI dvs ds) (hx:mX CX X E)
  (I:a8 X pins σ H s) (r:aI vs us) (h:sp (vs ++ dvs) H Q E):wpAny (model X.prog X.w) X.A (call (.ref f) us) (EP X pins σ Q) X.xe s:=by
 have r2:aI (vs ++ dvs) (us ++ ds):=r.append hd
 have hl:(us ++ ds).length=ps.length:=by rw [<- r2.length]; exact F.len _ _ _ _ h
 refine wpAny_call (codeAny_mono (F.run X.A X.stack s H ⟨us,[]⟩ (us ++ ds) (vs ++ dvs) Q E hr I.env0 (hb s us I.kIn hl) r2 h) fun r s' hq=>?_)
 cases r with
 | error e=>exact hx pins σ H s e s' I hq
 | ok fl=>
  cases fl with
  | ret u=>exact I.after hq
  | next=>exact False.elim hq
  | brk=>exact False.elim hq
  | cont=>exact False.elim hq
theorem tD (F:dC X.prog X.w X.K X.mg X.base CX k f fd ps sp) (hr:bZ k X.A) (hg:Gl X x) (hm:X.mg x=some (.ref f)) (hk:PySem.W.keepIn X.K (.ref f)=true) (hb:iQ X.K fd ps ds) (hd:aI dvs ds) (hx:mX CX X E)
  (ha:PA X (e :: es) t) (hdb:(x == ("__debug__" : Str))=false:=by decide) (he:starEach (e :: es) X.env=(false,eval e X.env) :: starEach es X.env:=by rfl) (hpl:(backTo pos (starEach es X.env)).any (·.1)=false:=by rfl) :
  PE X (.Call (.Name x p) (e :: es) [] pos) (t9 sp dvs E t):=by
 intro pins s σ H Q I h
 refine wpAny_Call_Name_kw (mQ I hg hm ?_ hdb)
 refine PySem.W.callWith_K (h₀:=X.base) I.ok.mod.kin hk (aQ (ha pos pins s σ H _ I h) fun us s1 ⟨vs,H1,I1,r,q⟩=>⟨I1.kIn,?_⟩) he hpl
 exact ag6 F hr hb hd hx I1 r q
end
def PK (X:Cx) (kws:List Keyword) (t:TA):Prop:=
 ∀ (pos:Pos) (pins:List (Addr × Obj)) (s:Shared) (σ:St) (H:Hp) (Q:List V->Hp->Prop),a8 X pins σ H s->t σ H Q->wpAny (model X.prog X.w) X.A (evalAll ((backToKw pos (keywordEach kws X.env)).map (·.2))) (AP X pins σ Q) X.xe s
structure FnScope (N P:List Str) (sc:Scope):Prop where
 kind:sc.kind = .function
 co:sc.isCoroutine=false
 gen:sc.isGenerator=false
 nd:N.Nodup
 pre:N.take P.length=P
 par:∀ x ∈ P,sc.names.lookup x=some .local ∨ sc.names.lookup x=some .cell
 nofree:∀ y ∈ sc.names,y.2 ≠ .free
theorem yB {kindOf:Str->Option NameKind}{x:Str}:∀ {binds:List (Str × Value)}{m:Str->Option Value},(∀ v,(x,v) ∉ binds)->bindL kindOf binds m x=m x
 | [],_,_=>rfl
 | (n,v) :: r,m,h=>by
  unfold bindL
  rw [yB fun w hw=>h w (aW7 _ hw)]
  split
  ·have:x ≠ n:=by rintro rfl; exact h v aX5
   simp [this]
  ·rfl
theorem yC {kindOf:Str->Option NameKind}{x:Str}:∀ {binds:List (Str × Value)}{m:Str->Option Value},(∀ v,(x,v) ∉ binds)->bindC kindOf binds m x=m x
 | [],_,_=>rfl
 | (n,v) :: r,m,h=>by
  unfold bindC
  rw [yC fun w hw=>h w (aW7 _ hw)]
  split
  ·rfl
  ·have:x ≠ n:=by rintro rfl; exact h v aX5
   simp [this]
theorem yD {kindOf:Str->Option NameKind}{x:Str}{v:Value}:∀ {P:List Str}{vs:List Value}{i:Nat}{m:Str->Option Value},P.Nodup->P[i]? = some x->vs[i]? = some v->kindOf x=some .local->
  bindL kindOf (P.zip vs) m x=some v
 | [],_,_,_,_,h,_,_=>by simp at h
 | _ :: _,[],_,_,_,_,h,_=>by simp at h
 | p :: P,w :: vs,0,m,nd,h1,h2,hk=>by
  simp at h1 h2; subst h1; subst h2
  show bindL kindOf ((p,w) :: P.zip vs) m p=_
  unfold bindL
  rw [yB fun v hv=>(bl1.mp nd).1 (List.of_mem_zip hv).1,if_pos hk]
  simp
 | p :: P,w :: vs,i+1,m,nd,h1,h2,hk=>by
  show bindL kindOf ((p,w) :: P.zip vs) m x=_
  unfold bindL
  exact yD (i:=i) (bl1.mp nd).2 (by simpa using h1) (by simpa using h2) hk
theorem yE {kindOf:Str->Option NameKind}{x:Str}{v:Value}:∀ {P:List Str}{vs:List Value}{i:Nat}{m:Str->Option Value},P.Nodup->P[i]? = some x->vs[i]? = some v->kindOf x ≠ some .local->
  bindC kindOf (P.zip vs) m x=some v
 | [],_,_,_,_,h,_,_=>by simp at h
 | _ :: _,[],_,_,_,_,h,_=>by simp at h
 | p :: P,w :: vs,0,m,nd,h1,h2,hk=>by
  simp at h1 h2; subst h1; subst h2
  show bindC kindOf ((p,w) :: P.zip vs) m p=_
  unfold bindC
  rw [yC fun v hv=>(bl1.mp nd).1 (List.of_mem_zip hv).1,if_neg hk]
  simp
 | p :: P,w :: vs,i+1,m,nd,h1,h2,hk=>by
  show bindC kindOf ((p,w) :: P.zip vs) m x=_
  unfold bindC
  exact yE (i:=i) (bl1.mp nd).2 (by simpa using h1) (by simpa using h2) hk
def fY (N:List Str) (vs:List V):St:=vs.map some ++ List.replicate (N.length - vs.length) none
def cV (CX:fX) (P:Program) (w:World) (K:PySem.W.Frag) (mg:Str->Option Value) (base:Heap) (N:List Str) (qual:Str) (scope:Scope) (f:Addr) (cd:Value) (A:Around) (outer:List Env) (s:Shared) (H:Hp) (E:XK):Cx where
 prog:=P
 w:=w
 K:=K
 mg:=mg
 base:=base
 A:=A.deeper (envOfC qual scope s.heap.objs.size f cd)
 N:=N
 s₀:=s
 H₀:=H
 env:=envOfC qual scope s.heap.objs.size f cd
 outer:=outer
 stack:=envOfC qual scope s.heap.objs.size f cd :: outer
 ex:=[]
 calm:=true
 fn:=fun _=>true
 pn:=[]
 xe:=fun e s'=>wpAny (model P w) (A.deeper (envOfC qual scope s.heap.objs.size f cd)) (leaving (envOfC qual scope s.heap.objs.size f cd) e) (fun _ s''=>CX outer H s E e s'') (fun e' s''=>CX outer H s E e' s'') s'
theorem yF {sc:Scope}{n:Nat}{x:Str} (h:sc.names.lookup x=some .cell):∃ c,(cellsFrom n sc.names []).lookup x=some c:=by
 have q:=PySem.W.cellsFrom_some sc.names n [] (.inl h)
 exact Option.isSome_iff_exists.mp q
theorem ag7 {CX:fX}{P:Program}{w:World}{K:PySem.W.Frag}{mg:Str->Option Value}{base:Heap}{N ps:List Str}{qual:Str}{scope:Scope}{f:Addr}{cd:Value}{A:Around}{outer:List Env}{s s1:Shared}{H:Hp}{E:XK}{us:List Value}{vs:List V}
  (S:FnScope N ps scope) (hd:A.handled=none) (e0:oS P w K mg base A outer s H) (hl:vs.length=ps.length) (r:aI vs us)
  (x:InCallC s s.heap.objs.size (bindL (envOfC qual scope s.heap.objs.size f cd).kindOf (ps.zip us) fun _=>none) (cellsFrom (s.heap.objs.size+1) scope.names []) (bindC (envOfC qual scope s.heap.objs.size f cd).kindOf (ps.zip us) fun _=>none) s1) :
  a8 (cV CX P w K mg base N qual scope f cd A outer s H E) [] (fY N vs) H s1:=by
 have hpl:ps.length<=N.length:=by have:=congrArg List.length S.pre; rw [bk1] at this; omega
 obtain ⟨h1,tk,rfl,hk⟩:=x.done
 have noA:∀ b:Addr,b ∉ (cV CX P w K mg base N qual scope f cd A outer s H E).ex:=fun b z=>absurd (show b ∈ ([]:List Addr) from z) (by simp)
 refine⟨⟨e0.mod,S.kind,rfl,rfl,aW8 _,fun y z c h1 h2=>?_,fun y hy=>?_,fun y c _ h=>?_,fun _=>hd,Around.frames_deeper e0.frames,.inr ⟨rfl,rfl⟩,fun b z=>absurd z (noA b),e0.bs,e0.bsz,fun b _ _=>noA b,fun b z=>absurd z (noA b),e0.funs,e0.frf⟩,
  rfl,e0.bare,Un.kept hk,⟨_,x.toInCall.ns,fun i y v h1 h2 h3=>?_⟩,fun y c h=>⟨_,x.cell y c h⟩,e0.hok.fresh (aW8 _),fun y c h=>?_,fun p hp=>absurd (show p ∈ ([]:List (Addr × Obj)) from hp) (by simp),e0.hok.kept hk,?_⟩
 ·exact name_of_addr x.apart (bb2 h1) (bb2 h2)
 ·have hy:scope.names.lookup y=some .cell ∨ scope.names.lookup y=some .free:=hy
  rcases hy with hy | hy
  ·exact yF hy
  ·exact absurd rfl (S.nofree _ (bb2 hy))
 ·exact bi1 (x.above y c (bb2 h))
 ·have hi:i < vs.length:=by
   unfold fY at h2
   by_cases hi:i < vs.length
   ·exact hi
   ·rw [bk4 (by simpa using hi)] at h2
    rw [List.getElem?_replicate] at h2
    split at h2 <;> cases h2
  have ha:vs[i]? = some v:=by
   unfold fY at h2
   rw [bi7 (by simpa using hi),aY1] at h2
   cases e:vs[i]? with
   | none=>rw [e] at h2; cases h2
   | some a=>rw [e] at h2; cases h2; rfl
  obtain ⟨u,hu,rv⟩:=r.get ha
  have hp:ps[i]? = some y:=by
   rw [<- S.pre,List.getElem?_take_of_lt (by omega)]; exact h1
  have ndP:ps.Nodup:=by rw [<- S.pre]; exact S.nd.sublist (bl6 _ _)
  refine⟨u,rv,?_⟩
  rcases S.par y (bj3 hp) with k | k
  ·exact .inl ⟨k,yD ndP hp hu k⟩
  ·obtain ⟨c,e⟩:=yF (n:=s.heap.objs.size+1) k
   refine .inr ⟨.inl k,c,e,?_⟩
   have q:=x.cell y c e
   rw [yE ndP hp hu (by show scope.names.lookup y ≠ _; rw [k]; decide)] at q
   exact q
 ·exact e0.hok.fresh (bi1 (x.above y c (bb2 h)))
 ·unfold fY
  show _=N.length
  rw [aY4,aW6,List.length_replicate]
  omega
theorem yG {CX:fX}{P:Program}{w:World}{K:PySem.W.Frag}{mg:Str->Option Value}{base:Heap}{k:Nat}{f:Addr}{name qual:Str}{params:Arguments}{body:List Stmt}{scope:Scope}{dV kV doc pm cdv ct oc:Value}{an od:Option Addr}
  {osl:Array (Option Value)}{N ps:List Str}{sp:Sp} (lk:K.lookup f=some ⟨oc,od,.func (PySem.W.fnOf name qual params body scope dV kV doc pm an cdv ct),osl⟩) (hcd:PySem.W.codeIn K cdv qual=true) (S:FnScope N ps scope)
  (len:∀ vs H Q E,sp vs H Q E->vs.length=ps.length)
  (hbody:∀ (A:Around) (outer:List Env) (s:Shared) (H:Hp) (vs:List V) (Q:VK) (E:XK),bZ k (A.deeper (envOfC qual scope s.heap.objs.size f cdv))->sp vs H Q E->
   ∃ t,dF (cV CX P w K mg base N qual scope f cdv A outer s H E) body t/\t { nx:=fun _ H'=>Q .non H',rt:=Q } (fY N vs) H) :
  dC P w K mg base CX (k+1) f (PySem.W.fnOf name qual params body scope dV kV doc pm an cdv ct) ps sp:=by
 refine⟨len,fun A outer s H args us vs Q E hr e0 hb r hsp=>?_⟩
 have hl:=len _ _ _ _ hsp
 have KX:K.In s.heap:=e0.mod.kin.keeps fun b o e=>(e0.bs b o e).1
 have lim:s.heap.NoLimit:=e0.mod.nolimit.keeps fun b o e=>(e0.bs b o e).1
 have hkind:∀ y ∈ ps.zip us,scope.names.lookup y.1=some .local ∨ (scope.names.lookup y.1=some .cell/\((cellsFrom (s.heap.objs.size+1) scope.names []).lookup y.1).isSome=true):=fun ⟨n,v⟩ hy=>by
  rcases S.par n (List.of_mem_zip hy).1 with q | q
  ·exact .inl q
  ·exact .inr ⟨q,PySem.W.cellsFrom_some _ _ _ (.inl q)⟩
 refine codeAny_call_function hr.depth (KX _ _ lk) rfl S.co S.gen rfl (PySem.W.codeRec_of KX hcd) (hb _ _ _ _ ?_)
 refine wpAny_newFunctionEnv_cells S.kind hkind fun env he s1 x=>?_
 subst he
 refine⟨lim.keeps x.toInCall.keep,codeAny_func ?_⟩
 obtain ⟨t,ht,hq⟩:=hbody A outer s H vs Q E (hr.deeper _) hsp
 have I:a8 (cV CX P w K mg base N qual scope f cdv A outer s H E) [] (fY N vs) H s1:=ag7 S hr.hd e0 hl r x
 refine bf5 (ht [] s1 (fY N vs) H _ I hq) (fun fl s' hs=>?_) fun e s' hs=>hs
 have fin:∀ {σ':St}{H':Hp}{v:V}{u:Value},a8 (cV CX P w K mg base N qual scope f cdv A outer s H E) [] σ' H' s'->aP v u->Q v H'->CE outer P w H s Q u s':=
  fun {σ' H' v u} J rv q=>⟨v,H',J.os,J.bare,J.base,J.hok,rv,q⟩
 cases fl with
 | ret u=>
  obtain ⟨v,σ',H',J,rv,q⟩:=hs
  exact fin J rv q
 | next=>
  obtain ⟨σ',H',J,q⟩:=hs
  exact fin (v:=V.non) (u:=Value.none) J rfl q
 | brk=>
  obtain ⟨_,_,_,q⟩:=hs
  exact False.elim q
 | cont=>
  obtain ⟨_,_,_,q⟩:=hs
  exact False.elim q
section
variable {X : Cx} {x : Str} {p pos : Pos} {e : Expr} {es : List Expr} {t : TA} {id T : String} {r : List V → Hp → VK → Prop}
def tE (r:List V->Hp->VK->Prop) (t:TA):TE:=fun σ H Q=>t σ H fun vs H1=>r vs H1 Q
theorem tF (hc:cH X (.builtin id) r) (hg:Gl X x) (hm:X.mg x=none) (hv:bootBuiltins x=some (.builtin id)) (ha:PA X (e :: es) t) (hn:x ≠ "__name__":=by decide) (hdb:(x == ("__debug__" : Str))=false:=by decide)
  (he:starEach (e :: es) X.env=(false,eval e X.env) :: starEach es X.env:=by rfl) (hpl:(backTo pos (starEach es X.env)).any (·.1)=false:=by rfl):PE X (.Call (.Name x p) (e :: es) [] pos) (tE r t):=by
 intro pins s σ H Q I h
 refine wpAny_Call_Name_kw (lC I hg hm hv ?_ hn hdb)
 exact PyProof.Rows.callWith_builtin1 (aQ (ha pos pins s σ H _ I h) fun us s1 ⟨vs,H1,I1,r1,q1⟩=>hc pins s1 σ H1 vs us Q I1 r1 q1) he hpl
theorem ag8 (hc:cH X (.type T) r) (hg:Gl X x) (hm:X.mg x=none) (hv:bootBuiltins x=some (.type T)) (ha:PA X (e :: es) t) (hn:x ≠ "__name__":=by decide) (hdb:(x == ("__debug__" : Str))=false:=by decide)
  (he:starEach (e :: es) X.env=(false,eval e X.env) :: starEach es X.env:=by rfl) (hpl:(backTo pos (starEach es X.env)).any (·.1)=false:=by rfl):PE X (.Call (.Name x p) (e :: es) [] pos) (tE r t):=by
 intro pins s σ H Q I h
 refine wpAny_Call_Name_kw (lC I hg hm hv ?_ hn hdb)
 exact bj9 (aQ (ha pos pins s σ H _ I h) fun us s1 ⟨vs,H1,I1,r1,q1⟩=>hc pins s1 σ H1 vs us Q I1 r1 q1) he hpl
end
end L2
namespace HT
open PySem PyProof.Rows
def aK:List Int->List Int->Bool
 | [],[]=>false
 | [],_ :: _=>true
 | _ :: _,[]=>false
 | x :: xs,y :: ys=>if x=y then aK xs ys else decide (x < y)
theorem fZ (x y:Int) (xs ys:List Int):aK (x :: xs) (y :: ys)=if x=y then aK xs ys else decide (x < y):=rfl
theorem oT:aK [] []=false:=rfl
theorem yH (y:Int) (ys:List Int):aK [] (y :: ys)=true:=rfl
theorem yI (x:Int) (xs:List Int):aK (x :: xs) []=false:=rfl
theorem yJ (A:Around) (s:Shared) (a:Int) (t:Tok) (c:Int) (u:Tok):∃ e,SeqAt.EqAt A s (.int a t) (.int c u) e/\(e=true ↔ a=c):=
 ⟨(a == c),SeqAt.EqAt.int_int a t c u,by simp⟩
theorem ag9 (A:Around) (s:Shared) (a:Int) (t:Tok) (c:Int) (u:Tok) (prog:Program) (w:World) (E:Value->Shared->Prop) (Q:Value->Shared->Prop) (h:Q (.bool (decide (a < c))) s) :
  wpAny (model prog w) A (richCompare .Lt (.int a t) (.int c u)) Q E s:=
 (PyProof.Rows.lt_int h:wpAny (model prog w) A (compareOp .Lt (.int a t) (.int c u)) Q E s)
section
open PySem.SeqAt
open PySem.MeetsSeq PySem.MeetsSeq2 PySem.MeetsSeq3
theorem ah0 (l b:Addr) (items items2:Array Value) (n n2:Nat) (dd dd2:Option Addr) (sl sl2:Array (Option Value)) (ns ms:List Int) (hi:IntsAre items.toList ns) (hj:IntsAre items2.toList ms) :
  Meets (Builtin.«tuple.__lt__» ⟨[.ref l,.ref b],[]⟩)
   (fun _ R s=>s.heap.get? l=some { cls:=.type "tuple",dict:=dd,data:=.seq items n,slots:=sl }/\s.heap.get? b=some { cls:=.type "tuple",dict:=dd2,data:=.seq items2 n2,slots:=sl2 }/\
    R (.ok (.ret (.bool (aK ns ms)))) s):=
 .of_wp fun prog w A R s h=>by
  obtain ⟨hp,g,d,tk,os⟩:=s; obtain ⟨hl,hb,h⟩:=h
  have f2:=AutoSeq1.sub_tuple_tuple
  have z1:items.size=ns.length:=by rw [<- hi.length]; simp
  have z2:items2.size=ms.length:=by rw [<- hj.length]; simp
  wp_walk using bg0 hl,bg0 hb,wpAny_forIn_list _ (fun cG b s'=>b.1=none/\s'=⟨hp,g,d,tk,os⟩/\∃ (vs ws:List Value) (ns' ms':List Int),cG=vs.zip ws/\
   IntsAre vs ns'/\IntsAre ws ms'/\ns'.length+items2.size=ms'.length+items.size/\R (.ok (.ret (.bool (aK ns' ms')))) ⟨hp,g,d,tk,os⟩) _
  case turn=>
   rintro ⟨y,x⟩ cG b s' ⟨hb',rfl,vs,ws,ns',ms',hz,hvi,hwi,hlen,hR⟩
   cases hvi with
   | nil=>rw [List.zip_nil_left] at hz; cases hz
   | cons a t hvi'=>
    cases hwi with
    | nil=>rw [List.zip_nil_right] at hz; cases hz
    | cons c u hwi'=>
     rw [bd2] at hz
     injection hz with hyx hrest
     injection hyx with hy hx
     subst hy hx
     rw [fZ] at hR
     simp only [bb4] at hlen
     obtain ⟨e,he,hiff⟩:=yJ A.in1 ⟨hp,g,d,tk,os⟩ a t c u
     refine aV7 (he prog w _ _ ?_)
     cases e with
     | true=>
      rw [if_pos (hiff.mp rfl)] at hR
      wp_walk
      exact⟨rfl,rfl,_,_,_,_,hrest,hvi',hwi',by omega,hR⟩
     | false=>
      rw [if_neg (fun q=>absurd (hiff.mpr q) aY3)] at hR
      have hri:=ag9 A.in1 ⟨hp,g,d,tk,os⟩ a t c u prog w
      wp_walk using hri
      exact⟨_,rfl,by simpa using hR⟩
  case fin=>
   rintro ⟨b1,b2⟩ s' ⟨hb',rfl,vs,ws,ns',ms',hz,hvi,hwi,hlen,hR⟩
   simp only at hb'
   subst hb'
   have hv:aK ns' ms'=decide (items.size < items2.size):=by
    cases hvi with
    | nil=>
     cases hwi with
     | nil=>
      simp only [bl2] at hlen
      rw [oT]
      exact (aW4 (by omega)).symm
     | cons c u hw=>
      simp only [bl2,bb4] at hlen
      rw [yH]
      exact (aX3 (by omega)).symm
    | cons a t hv=>
     cases hwi with
     | nil=>
      simp only [bl2,bb4] at hlen
      rw [yI]
      exact (aW4 (by omega)).symm
     | cons c u hw=>
      rw [bd2] at hz
      cases hz
   rw [hv] at hR
   wp_walk
   exact⟨_,rfl,by simpa [Builtin.Tuple.tupleCompareSizes] using hR⟩
  case h=>
   exact⟨rfl,rfl,items.toList,items2.toList,ns,ms,rfl,hi,hj,by omega,h⟩
end
section
variable {prog : Program} {w : World} {A : Around} {E : Value → Shared → Prop} {s : Shared}
theorem yK {l b:Addr}{items items2:Array Value}{ns ms:List Int}{Q:Value->Shared->Prop} (hl:IsTup s.heap l items) (hb:IsTup s.heap b items2) (hi:IntsAre items.toList ns) (hj:IntsAre items2.toList ms)
  (hu:A.units < cLine) (h:Q (.bool (aK ns ms)) s):wpAny (model prog w) A (compareOp .Lt (.ref l) (.ref b)) Q E s:=by
 obtain ⟨⟨cls,dd,data,sl⟩,ho,hc,n,hd⟩:=id hl
 obtain ⟨⟨cls2,dd2,data2,sl2⟩,ho2,hc2,n2,hd2⟩:=id hb
 simp only at hc hd hc2 hd2
 subst hc hd hc2 hd2
 exact richCompare_meets_room (op:=.Lt) ⟨_,ho,rfl⟩ ⟨_,ho2,rfl⟩ PySem.F.slot_tuple_lt PySem.F.entry_tuple_lt (PySem.F.args_tuple_lt_2 _ _) (ah0 l b items items2 n n2 dd dd2 sl sl2 ns ms hi hj)
  ⟨ho,ho2,show Value.bool (aK ns ms) ≠ Value.notImplemented/\Q (.bool (aK ns ms)) s from ⟨(fun x=>nomatch x),h⟩⟩ hu
theorem ah1 {t b:Addr}{vs ws:List Value}{Q:Value->Shared->Prop} (ht:IsTup s.heap t vs.toArray) (hb:IsTup s.heap b ws.toArray) (hv:vs ≠ [])
  (h1:ws = []->Q (.ref t) s) (h2:ws ≠ []->Q (.ref s.heap.objs.size) { s with heap:=s.heap.push { cls:=.type "tuple",data:=.seq (vs ++ ws).toArray } })
  (hsz:vs.length+ws.length<=sizeLine):wpAny (model prog w) A (binaryOp .Add (.ref t) (.ref b)) Q E s:=by
 obtain ⟨⟨cls,dd,data,sl⟩,ho,hc,n,hd⟩:=id ht
 obtain ⟨⟨cls2,dd2,data2,sl2⟩,ho2,hc2,n2,hd2⟩:=id hb
 simp only at hc hd hc2 hd2
 subst hc hd hc2 hd2
 have e:vs.toArray ++ ws.toArray=(vs ++ ws).toArray:=by simp
 by_cases hw:ws = []
 ·exact concat_meets ⟨_,ho,rfl⟩ ⟨_,ho2,rfl⟩ noFill_tuple_add seq_tuple_add PySem.F.slot_tuple_add PySem.F.entry_tuple_add (PySem.F.args_tuple_add_2 _ _)
   (tuple_addW1 t b vs.toArray ws.toArray n n2 dd dd2 sl sl2 (by simpa using hv) (by simp [hw])) ⟨ho,ho2,h1 hw⟩
 ·refine concat_meets ⟨_,ho,rfl⟩ ⟨_,ho2,rfl⟩ noFill_tuple_add seq_tuple_add PySem.F.slot_tuple_add PySem.F.entry_tuple_add (PySem.F.args_tuple_add_2 _ _)
   (tuple_addW2 t b vs.toArray ws.toArray n n2 dd dd2 sl sl2 (by simpa using hv) (by simpa using hw) (by rw [aW1,aW1]; exact hsz)) ⟨ho,ho2,?_⟩
  rw [e]
  exact h2 hw
def aV (n d:Nat):Option Int->Nat
 | none=>d
 | some v=>if v < 0 then (v+(n:Int)).toNat else min v.toNat n
theorem ah2 (n d:Nat):aV n d none=d:=rfl
theorem ah3 (n d:Nat) (hd:d<=n) (o:Option Int):aV n d o<=n:=by
 cases o with
 | none=>exact hd
 | some v=>
  show (if v < 0 then (v+(n:Int)).toNat else min v.toNat n)<=n
  by_cases hv:v < 0
  ·rw [if_pos hv]; omega
  ·rw [if_neg hv]; exact Nat.min_le_right _ _
theorem yL (v:Int) (n d:Nat):(if v < 0 then max (v+(n:Int)) 0 else min v (n:Int))=((aV n d (some v):Nat):Int):=by
 show (if v < 0 then max (v+(n:Int)) 0 else min v (n:Int))=(((if v < 0 then (v+(n:Int)).toNat else min v.toNat n):Nat):Int)
 by_cases hv:v < 0
 ·simp only [if_pos hv]; omega
 ·simp only [if_neg hv]; omega
theorem ah4 (lo hi:Option Int) (n:Nat):Builtin.Slice.sliceAdjust lo hi 1 (n:Int)=(((aV n 0 lo:Nat):Int),((aV n n hi:Nat):Int)):=by
 have h1 : ¬ ((1:Int) < 0):=by omega
 unfold Builtin.Slice.sliceAdjust
 simp only [h1,be6]
 refine Prod.ext ?_ ?_
 ·cases lo with
  | none=>rfl
  | some v=>exact yL v n 0
 ·cases hi with
  | none=>rfl
  | some v=>exact yL v n n
theorem ah5 (i j:Nat):Builtin.Slice.slicePlaces (i:Int) (j:Int) 1=j - i:=by
 unfold Builtin.Slice.slicePlaces
 have h1:(1:Int) > 0:=by omega
 simp only [h1,if_true,Int.ediv_one]
 split <;> omega
theorem yM {v:Value}{o:Option Int}{Q:Option Int->Shared->Prop} (p:IsPart v o) (h:Q o s):wpAny (model prog w) A (Builtin.Slice.slicePartIndex v) Q E s:=by
 cases p with
 | none=>exact slicePart_none h
 | int i t=>exact slicePart_int h
theorem yN {sl:Addr}{vl vu:Value}{lo hi:Option Int}{n:Nat}{Q:Int × Int × Nat->Shared->Prop} (hs:s.heap.IsSliceOf sl vl vu .none) (pl:IsPart vl lo) (pu:IsPart vu hi)
  (h:Q (((aV n 0 lo:Nat):Int),1,aV n n hi - aV n 0 lo) s):wpAny (model prog w) A (Builtin.Slice.sliceApplied (.ref sl) (pure (n:Int))) Q E s:=by
 obtain ⟨os,hos,hcs,hds⟩:=id hs
 unfold Builtin.Slice.sliceApplied Builtin.Slice.sliceFields
 refine aV7 (aV7 (bc0 hos hds (x:=vl) rfl (aV7 (bc0 hos hds (x:=vu) rfl (aV7 (bc0 hos hds (x:=.none) rfl (aW2 ?_)))))))
 refine aV7 (slicePart_none ?_)
 show wpAny _ _ (if ((1:Int) == 0)=true then _ else _) _ _ s
 rw [if_neg (by decide)]
 refine aV7 (yM pl (aV7 (yM pu (aV7 (aW2 ?_)))))
 show wpAny _ _ (match Builtin.Slice.sliceAdjust lo hi 1 (n:Int) with | (lo,hi)=>pure (lo,(1:Int),Builtin.Slice.slicePlaces lo hi 1)) _ _ s
 rw [ah4 lo hi n]
 show wpAny _ _ (pure (((aV n 0 lo:Nat):Int),(1:Int),Builtin.Slice.slicePlaces ((aV n 0 lo:Nat):Int) ((aV n n hi:Nat):Int) 1)) _ _ s
 rw [ah5]
 exact aW2 h
theorem ah6 (xs:Array Value) (i k:Nat):((List.range k).filterMap fun (m:Nat)=>xs[((i:Int)+(m:Int) * 1).toNat]?).toArray=((xs.toList.drop i).take k).toArray:=by
 have e:(fun (m:Nat)=>xs[((i:Int)+(m:Int) * 1).toNat]?)=fun m=>xs[i+m]?:=by
  funext m
  have:((i:Int)+(m:Int) * 1).toNat=i+m:=by omega
  rw [this]
 rw [e]
 have:=pick_run xs i k
 rw [List.filterMap_map] at this
 have e2:((fun x=>xs[x]?) ∘ fun x=>i+x)=fun m=>xs[i+m]?:=rfl
 rw [e2] at this
 rw [this]
theorem ah7 {t sl:Addr}{items:Array Value}{vl vu:Value}{lo hi:Option Int}{Q:Value->Shared->Prop} (ht:IsTup s.heap t items) (hs:s.heap.IsSliceOf sl vl vu .none) (pl:IsPart vl lo) (pu:IsPart vu hi)
  (hw : ¬ (aV items.size 0 lo=0/\aV items.size items.size hi=items.size))
  (h:Q (.ref s.heap.objs.size) { s with heap:=s.heap.push { cls:=.type "tuple",data:=.seq ((items.toList.drop (aV items.size 0 lo)).take (aV items.size items.size hi - aV items.size 0 lo)).toArray } })
  (hsz:items.size<=sizeLine):wpAny (model prog w) A (getItem (.ref t) (.ref sl)) Q E s:=by
 have htake:sizeOk (.seq ((items.toList.drop (aV items.size 0 lo)).take (aV items.size items.size hi - aV items.size 0 lo)).toArray):=by
  show ((items.toList.drop (aV items.size 0 lo)).take (aV items.size items.size hi - aV items.size 0 lo)).toArray.size<=sizeLine
  rw [aW1,bk1,bi9,ba3]
  omega
 have hj:aV items.size items.size hi<=items.size:=ah3 _ _ (aW8 _) hi
 obtain ⟨os,hos,hcs,hds⟩:=id hs
 have hTs:s.TypeIs (.ref sl) "slice":=⟨os,hos,hcs⟩
 unfold getItem
 try with_reducible refine bb0 ?_
 first | refine aV7 (aW2 ?_) | skip
 refine aV7 (wpAny_sequenceKey ht.typeIs (by decide) ?_)
 refine aV7 (bc1 (name:=Str.ofString "__getitem__") ht.typeIs bi6
  (bc6 bi6 ht.typeIs entry_tuple_getitem ?_ (args_tuple_getitem _ _)))
 show wpAny _ _ (Builtin.Tuple.tupleItemsOf (.ref t) >>= _) _ _ s
 refine aV7 (tupleItemsOf_ ht ?_)
 refine aV7 (wpAny_typeOf hTs ?_)
 rw [if_pos (by decide)]
 refine aV7 (yN hs pl pu ?_)
 have hno : ¬ ((((aV items.size 0 lo:Nat):Int) == 0 && (1:Int) == 1 && (aV items.size items.size hi - aV items.size 0 lo) == items.size)=true):=by
  intro q
  rw [bg4,bg4] at q
  have q1:((aV items.size 0 lo:Nat):Int)=0:=eq_of_beq q.1.1
  have q2:aV items.size items.size hi - aV items.size 0 lo=items.size:=eq_of_beq q.2
  exact hw ⟨by omega,by omega⟩
 show wpAny _ _ (if (((aV items.size 0 lo:Nat):Int) == 0 && (1:Int) == 1 && (aV items.size items.size hi - aV items.size 0 lo) == items.size)=true then _ else _) _ _ s
 rw [if_neg hno,ah6]
 first
  | exact aV7 (m:=Builtin.Tuple.tupleExact _) (ba2 (aW2 ⟨_,rfl,aW2 h⟩) htake)
  | exact aV7 (m:=Builtin.Tuple.tupleExact _) (ba2 (aV7 (aW2 (aW2 ⟨_,rfl,aW2 h⟩))) htake)
  | exact aV7 (aV7 (m:=Builtin.Tuple.tupleExact _) (ba2 (aW2 (aW2 ⟨_,rfl,aW2 h⟩)) htake))
  | exact aV7 (aV7 (m:=Builtin.Tuple.tupleExact _) (ba2 (aW2 ⟨_,rfl,aW2 h⟩) htake))
end
end HT
namespace L2
open PySem PySem.Spec PyProof.Rows
abbrev TO:=St->Hp->(Option Int->Hp->Prop)->Prop
def PO (X:Cx) (e:Option Expr) (t:TO):Prop:=
 ∀ (pins:List (Addr × Obj)) (s:Shared) (σ:St) (H:Hp) (Q:Option Int->Hp->Prop),a8 X pins σ H s->t σ H Q->
  wpAny (model X.prog X.w) X.A (evalPart e X.env) (fun u s'=>∃ o H',a8 X pins σ H' s'/\IsPart u o/\Q o H') X.xe s
def ah8:TO:=fun _ H Q=>Q none H
def ah9 (t:TE):TO:=fun σ H Q=>t σ H fun x H1=>∃ i,x = .int i/\Q (some i) H1
theorem iR {ns:List Int}:∀ {us:List Value},aI (ns.map V.int) us->IntsAre us ns:=by
 induction ns with
 | nil=>intro us r; rw [List.map_nil] at r; cases r; exact .nil
 | cons n ns ih=>
  intro us r
  rw [bc2] at r
  cases r with
  | cons r1 r2=>
   obtain ⟨t,e⟩:=r1
   subst e
   exact .cons n t (ih r2)
section
variable {X : Cx} {e : Expr} {te : TE} {lo hi : Option Expr} {tl th : TO} {pos p2 : Pos}
theorem ai0:PO X none ah8:=by
 intro pins s σ H Q I h
 rw [evalPart_none]
 exact aW2 ⟨none,H,I,.none,h⟩
theorem ai1 (h:PE X e te):PO X (some e) (ah9 te):=by
 intro pins s σ H Q I hw
 rw [evalPart_some]
 refine aQ (h pins s σ H _ I hw) fun u s1 ⟨x,H1,I1,r1,q1⟩=>?_
 obtain ⟨i,rfl,q⟩:=q1
 obtain ⟨t,rfl⟩:=r1
 exact⟨some i,H1,I1,.int i t,q⟩
def jN (X:Cx) (r:V->Option Int->Option Int->Hp->VK->Prop):Prop:=
 ∀ (pins:List (Addr × Obj)) (s:Shared) (σ:St) (H:Hp) (x:V) (v vl vu:Value) (lo hi:Option Int) (sl:Addr) (Q:VK),a8 X pins σ H s->aP x v->s.heap.IsSliceOf sl vl vu .none->IsPart vl lo->IsPart vu hi->r x lo hi H Q->
  ∃ T id,typeLookup (.type T) "__getitem__" = pure (some (.builtin id))/\s.TypeIs v T/\wpAny (model X.prog X.w) X.A (getItem v (.ref sl)) (EP X pins σ Q) X.xe s
theorem jN.or {r r':V->Option Int->Option Int->Hp->VK->Prop} (h:jN X r) (h':jN X r'):jN X (fun x lo hi H Q=>r x lo hi H Q ∨ r' x lo hi H Q):=by
 intro pins s σ H x v vl vu lo hi sl Q I rx hs pl pu q
 rcases q with q | q
 ·exact h pins s σ H x v vl vu lo hi sl Q I rx hs pl pu q
 ·exact h' pins s σ H x v vl vu lo hi sl Q I rx hs pl pu q
def tSl (r:V->Option Int->Option Int->Hp->VK->Prop) (te:TE) (tl th:TO):TE:=fun σ H Q=>te σ H fun x H1=>tl σ H1 fun l H2=>th σ H2 fun u H3=>r x l u H3 Q
theorem ai2 {r:V->Option Int->Option Int->Hp->VK->Prop} (hr:jN X r) (he:PE X e te) (hl:PO X lo tl) (hu:PO X hi th):PE X (.Subscript e (.Slice lo hi none p2) pos) (tSl r te tl th):=by
 intro pins s σ H Q I h
 refine Subscript_ (aQ (he pins s σ H _ I h) fun v s1 ⟨x,H1,I1,r1,q1⟩=>?_)
 refine wpAny_Slice (aQ (hl pins s1 σ H1 _ I1 q1) fun vl s2 ⟨l,H2,I2,pl,q2⟩=>aQ (hu pins s2 σ H2 _ I2 q2) fun vu s3 ⟨u,H3,I3,pu,q3⟩=>?_)
 rw [evalPart_none]
 refine aW2 ?_
 have I4:a8 X pins σ H3 { s3 with heap:=s3.heap.push { cls:=.type "slice",data:=.fields #[vl,vu,.none] } }:=I3.kept (t':=s3.toks) fun b ob q=>aV9 _ q
 obtain ⟨T,id,hT,ht,hg⟩:=hr pins { s3 with heap:=s3.heap.push { cls:=.type "slice",data:=.fields #[vl,vu,.none] } } σ H3 x v vl vu l u s3.heap.objs.size Q I4 r1 (Heap.IsSliceOf.new ..) pl pu q3
 show wpAny (model X.prog X.w) X.A (subscriptTail e (.Slice lo hi none p2) v (.ref s3.heap.objs.size)) (EP X pins σ Q) X.xe { s3 with heap:=s3.heap.push { cls:=.type "slice",data:=.fields #[vl,vu,.none] } }
 exact tail_any (ops:=[.ref s3.heap.objs.size,v]) ht hT hg (by with_unfolding_all rfl)
def gQ (xs:List V) (lo hi:Option Int):List V:=(xs.drop (HT.aV xs.length 0 lo)).take (HT.aV xs.length xs.length hi - HT.aV xs.length 0 lo)
theorem yO (xs:List V) (lo hi:Option Int):(gQ xs lo hi).length<=xs.length:=by
 unfold gQ
 rw [bk1,bi9]
 omega
def ai3 (K:PySem.W.Frag):V->Option Int->Option Int->Hp->VK->Prop:=fun x lo hi H Q=>∃ a xs,x = .ref a/\aL K H a xs/\
 ¬ (HT.aV xs.length 0 lo=0/\HT.aV xs.length xs.length hi=xs.length)/\∀ p,H p=none->Q (.ref p) (upd H p (.tup (gQ xs lo hi)))
theorem ai4:jN X (ai3 X.K):=by
 intro pins s σ H x v vl vu lo hi sl Q I rx hs pl pu h
 obtain ⟨a,xs,rfl,hx,hw,q⟩:=h
 cases rx
 obtain ⟨its,r,ht,hz⟩:=I.tuple hx
 have hlen:its.toArray.size=xs.length:=by rw [aW1]; exact r.length.symm
 refine⟨"tuple",_,PyProof.Rows.slot_tuple_getitem.lookup,ht.typeIs,?_⟩
 refine HT.ah7 ht hs pl pu (by rw [hlen]; exact hw) ?_ (by rw [hlen]; exact hz)
 rw [hlen]
 refine⟨.ref s.heap.objs.size,_,I.laid (t':=s.toks) (o:=.tup (gQ xs lo hi)) (fun b ob q=>aV9 _ q) (aW8 _) ?_,rfl,q _ (I.hok.fresh (aW8 _))⟩
 exact⟨aZ7 (yO xs lo hi) hz,_,(r.drop (HT.aV xs.length 0 lo)).take (HT.aV xs.length xs.length hi - HT.aV xs.length 0 lo),IsTup.new _ _,i6.new _ _ rfl⟩
def tG (K:PySem.W.Frag):R2:=fun x y H Q=>∃ a b ns ms,x = .ref a/\y = .ref b/\aL K H a (ns.map V.int)/\aL K H b (ms.map V.int)/\Q (.bl (HT.aK ns ms)) H
theorem tH (hu:X.A.units < cLine):bX X (compareOp .Lt) (tG X.K):=by
 intro pins s σ H x y v u Q I rx ry h
 obtain ⟨a,b,ns,ms,rfl,rfl,ha,hb,q⟩:=h
 cases rx
 cases ry
 obtain ⟨its,r1,p1,_⟩:=I.tuple ha
 obtain ⟨its2,r2,p2,_⟩:=I.tuple hb
 have i1:IntsAre its.toArray.toList ns:=iR r1
 have i2:IntsAre its2.toArray.toList ms:=iR r2
 exact HT.yK p1 p2 i1 i2 hu ⟨.bl (HT.aK ns ms),H,I,rfl,q⟩
def ai5 (K:PySem.W.Frag):R2:=fun x y H Q=>∃ a b xs ys,x = .ref a/\y = .ref b/\aL K H a xs/\aL K H b ys/\xs ≠ []/\xs.length+ys.length<=sizeLine/\
 (ys = []->Q (.ref a) H)/\(ys ≠ []->∀ p,H p=none->Q (.ref p) (upd H p (.tup (xs ++ ys))))
theorem aI.nil_iff {xs:List V}{us:List Value} (r:aI xs us):us = [] ↔ xs = []:=by
 cases r with
 | nil=>simp
 | cons _ _=>simp
theorem ai6:bX X (binaryOp .Add) (ai5 X.K):=by
 intro pins s σ H x y v u Q I rx ry h
 obtain ⟨a,b,xs,ys,rfl,rfl,ha,hb,hx,hz,q1,q2⟩:=h
 cases rx
 cases ry
 obtain ⟨its,r1,p1,_⟩:=I.tuple ha
 obtain ⟨its2,r2,p2,_⟩:=I.tuple hb
 refine HT.ah1 p1 p2 (fun z=>hx (r1.nil_iff.mp z)) (fun z=>⟨.ref a,H,I,rfl,q1 (r2.nil_iff.mp z)⟩) (fun z=>?_) (by rw [<- r1.length,<- r2.length]; exact hz)
 refine⟨.ref s.heap.objs.size,_,I.laid (t':=s.toks) (o:=.tup (xs ++ ys)) (fun b ob q=>aV9 _ q) (aW8 _) ?_,rfl,q2 (fun w=>z (r2.nil_iff.mpr w)) _ (I.hok.fresh (aW8 _))⟩
 exact⟨by rw [aY4]; exact hz,_,r1.append r2,IsTup.new _ _,i6.new _ _ rfl⟩
end
def fD (n:Nat) (i:Int):Option Nat:=if 0<=i then (if i < n then some i.toNat else none) else if -(n:Int)<=i then some (i+n).toNat else none
def atI {α:Type} (xs:List α) (i:Int):Option α:=(fD xs.length i).bind fun j=>xs[j]?
theorem yP {n:Nat}{i:Int}{j:Nat} (h:fD n i=some j):seqIndex? i n=some j/\j < n/\-(n:Int)<=i/\i < n:=by
 unfold fD at h
 by_cases h0:0<=i
 ·rw [if_pos h0] at h
  by_cases h1:i < n
  ·rw [if_pos h1] at h
   have e:i.toNat=j:=aY5 h
   exact⟨by rw [seqIndex_of h0 h1,e],by omega,by omega,h1⟩
  ·rw [if_neg h1] at h; cases h
 ·rw [if_neg h0] at h
  by_cases h1 : -(n:Int)<=i
  ·rw [if_pos h1] at h
   have e:(i+n).toNat=j:=aY5 h
   exact⟨by rw [seqIndex_neg (by omega) h1,e],by omega,h1,by omega⟩
  ·rw [if_neg h1] at h; cases h
theorem tI {α:Type}{xs:List α}{i:Int}{v:α} (h:atI xs i=some v):∃ j,seqIndex? i xs.length=some j/\xs[j]? = some v/\j < xs.length/\-(xs.length:Int)<=i/\i < xs.length:=by
 unfold atI at h
 cases e:fD xs.length i with
 | none=>rw [e] at h; cases h
 | some j=>
  rw [e] at h
  obtain ⟨h1,h2,h3,h4⟩:=yP e
  exact⟨j,h1,h,h2,h3,h4⟩
theorem yQ {α:Type}{xs:List α}{j:Nat}{v:α} (h:xs[j]? = some v):atI xs (j:Int)=some v:=by
 have hj:j < xs.length:=(aW9.mp h).1
 have e:fD xs.length (j:Int)=some j:=by
  unfold fD
  rw [if_pos (by omega),if_pos (by omega)]; simp
 unfold atI; rw [e]; exact h
def yR (b:Expr):Prop:=∀ o i,subscripted b false o i=operate [o,i] (getItem o i)
def iS (X:Cx) (r:R2):Prop:=
 ∀ (value slice:Expr) (pins:List (Addr × Obj)) (s:Shared) (σ:St) (H:Hp) (x y:V) (v u:Value) (Q:VK),a8 X pins σ H s->aP x v->aP y u->r x y H Q->
  subscripted slice false v u=operate [v,u] (getItem v u)->wpAny (model X.prog X.w) X.A (subscriptTail value slice v u) (EP X pins σ Q) X.xe s
def MtR (X:Cx) (id:String) (r:V->List V->Hp->VK->Prop):Prop:=
 ∀ (pins:List (Addr × Obj)) (s:Shared) (σ:St) (H:Hp) (x:V) (xs:List V) (v:Value) (us:List Value) (Q:VK),a8 X pins σ H s->aP x v->aI xs us->r x xs H Q->
  wpAny (model X.prog X.w) X.A (call (.builtin id) (v :: us)) (EP X pins σ Q) X.xe s
section
variable {X : Cx} {a b : Expr} {ta tb : TE} {pos : Pos}
theorem iS.or {r r':R2} (h:iS X r) (h':iS X r'):iS X (fun x y H Q=>r x y H Q ∨ r' x y H Q):=by
 intro value slice pins s σ H x y v u Q I rx ry q hs
 rcases q with q | q
 ·exact h value slice pins s σ H x y v u Q I rx ry q hs
 ·exact h' value slice pins s σ H x y v u Q I rx ry q hs
theorem ai7 {r:R2} (hr:iS X r) (ha:PE X a ta) (hb:PE X b tb) (hs:yR b):PE X (.Subscript a b pos) (mU r ta tb):=by
 intro pins s σ H Q I h
 exact Subscript_ (sW ha hb I h fun v u s2 x y H2 I2 rx ry q=>hr a b pins s2 σ H2 x y v u Q I2 rx ry q (hs _ _))
def yS (K:PySem.W.Frag):R2:=fun x y H Q=>∃ p xs i v,x = .ref p/\y = .int i/\aN K H p xs/\atI xs i=some v/\Q v H
def yT (K:PySem.W.Frag):R2:=fun x y H Q=>∃ p xs i v,x = .ref p/\y = .int i/\aL K H p xs/\atI xs i=some v/\Q v H
def yU:R2:=fun x y H Q=>∃ z i c,x = .str z/\y = .int i/\z.length<=sizeLine/\atI z.cps.toList i=some c/\Q (.str ⟨#[c]⟩) H
theorem ai8:iS X (yS X.K):=by
 intro value slice pins s σ H x y v u Q I rx ry h hs
 obtain ⟨p,xs,i,z,rfl,rfl,hq,he,q⟩:=h
 cases rx
 obtain ⟨t,rfl⟩:=ry
 obtain ⟨its,r,pl,hz⟩:=I.list hq
 obtain ⟨j,h1,h2,h3,h4,h5⟩:=tI he
 obtain ⟨w,ew,rw'⟩:=r.get h2
 have hl:=r.length
 have hn:=mW
 have fin:EP X pins σ Q w s:=⟨z,H,I,rw',q⟩
 by_cases h0:0<=i
 ·have hj:i.toNat=j:=by
   rw [seqIndex_of h0 h5] at h1
   exact aY5 h1
  exact item_listR pl.isList h0 (by omega) (by rw [hj]; simpa using ew) fin hs
 ·have hj:(i+(its.toArray.size:Int)).toNat=j:=by
   rw [seqIndex_neg (by omega) h4] at h1
   rw [aW1,<- hl]
   exact aY5 h1
  exact subscriptTail_builtinR (x:=w) pl.isList.typeIs slot_list_getitem.lookup
   (wpAny_getItem_list_neg (Q:=fun r s'=>r=w/\EP X pins σ Q r s') pl.isList (by omega) (by rw [aW1] <;> omega) (by omega) (by rw [hj]; simpa using ew) ⟨rfl,fin⟩) hs
theorem ai9:iS X (yT X.K):=by
 intro value slice pins s σ H x y v u Q I rx ry h hs
 obtain ⟨p,xs,i,z,rfl,rfl,hq,he,q⟩:=h
 cases rx
 obtain ⟨t,rfl⟩:=ry
 obtain ⟨its,r,pl,hz⟩:=I.tuple hq
 obtain ⟨j,h1,h2,h3,h4,h5⟩:=tI he
 obtain ⟨w,ew,rw'⟩:=r.get h2
 have hl:=r.length
 have hn:=mW
 have fin:EP X pins σ Q w s:=⟨z,H,I,rw',q⟩
 exact subscriptTail_builtinR (x:=w) pl.typeIs slot_tuple_getitem.lookup
  (getItem_tuple (j:=j) (Q:=fun r s'=>r=w/\EP X pins σ Q r s') pl (by omega) (by omega) (by rw [aW1,<- hl]; exact h1) (by simpa using ew) ⟨rfl,fin⟩) hs
theorem aj0:iS X yU:=by
 intro value slice pins s σ H x y v u Q I rx ry h hs
 obtain ⟨z,i,c,rfl,rfl,hz,he,q⟩:=h
 obtain ⟨t,rfl⟩:=rx
 obtain ⟨t',rfl⟩:=ry
 obtain ⟨j,h1,h2,h3,h4,h5⟩:=tI he
 have hl:z.cps.toList.length=z.length:=by simp [Str.length]
 rw [hl] at h1 h4 h5
 have hn:=mW
 exact tail_any (typeIs_str s z t) slot_str_getitem.lookup (getItem_str (c:=c) (by
  have e1:decide (i < -(2 ^ 63:Int))=false:=aW4 (by omega)
  have e2:decide (i >= 2 ^ 63)=false:=aW4 (by omega)
  rw [e1,e2,Bool.or_false]) (by rw [h1]; simpa using h2) ⟨.str ⟨#[c]⟩,H,I.tok _,⟨_,rfl⟩,q⟩) hs
def yV (K:PySem.W.Frag):R2:=fun x y H Q=>yS K x y H Q ∨ yT K x y H Q ∨ yU x y H Q
theorem aj1:iS X (yV X.K):=ai8.or (ai9.or aj0)
theorem aj2 (its:List Value) (n j:Nat) (u:Value):Obj.mapSeq (·.setIfInBounds j u) { cls:=.type "list",data:=.seq its.toArray n }={ cls:=.type "list",data:=.seq (its.set j u).toArray n }:=by
 simp [Obj.mapSeq]
theorem a8.lst {pins:List (Addr × Obj)}{σ:St}{H:Hp}{s:Shared}{p:Addr}{xs:List V} (I:a8 X pins σ H s) (h:H p=some (.lst xs)) :
  ∃ (its:List Value) (n:Nat),aI xs its/\s.heap.get? p=some { cls:=.type "list",data:=.seq its.toArray n }/\xs.length<=sizeLine:=by
 obtain ⟨z,its,n,r,e⟩:=I.hok p _ h
 exact⟨its,n,r,e,z⟩
theorem a8.lstUpd {pins:List (Addr × Obj)}{σ:St}{H:Hp}{s:Shared}{p:Addr}{xs ys:List V}{its its':List Value}{n n':Nat}{f:Obj->Obj} (I:a8 X pins σ H s) (h:H p=some (.lst xs))
  (ho:s.heap.get? p=some { cls:=.type "list",data:=.seq its.toArray n }) (hf:f { cls:=.type "list",data:=.seq its.toArray n }={ cls:=.type "list",data:=.seq its'.toArray n' }) (r:aI ys its') (hz:ys.length<=sizeLine) (t:Nat) :
  a8 X pins σ (upd H p (.lst ys)) { s with heap:=s.heap.update p f,toks:=t }:=by
 have e:(s.heap.update p f).get? p=some { cls:=.type "list",data:=.seq its'.toArray n' }:=by
  rw [bd5 f ho (by rw [hf] <;> rfl),hf]
 refine I.write (x:=p) (e:=p) (by rw [h]; trivial) (.inl rfl) (fun b u hb q=>(bi3 _ _ (Ne.symm hb)).trans q) ⟨_,e⟩ ?_
 exact⟨hz,its',n',r,e⟩
def mY:V->V->V->Hp->(Hp->Prop)->Prop:=fun o i v H Q=>∃ p xs k j,o = .ref p/\i = .int k/\H p=some (.lst xs)/\fD xs.length k=some j/\Q (upd H p (.lst (xs.set j v)))
theorem yW:xK X mY:=by
 intro pins s σ H o i v ov iv u Q I ro ri rv h
 obtain ⟨p,xs,k,j,rfl,rfl,hp,hj,q⟩:=h
 cases ro
 obtain ⟨t,rfl⟩:=ri
 obtain ⟨its,n,r,ho,hz⟩:=I.lst hp
 obtain ⟨h1,h2,h3,h4⟩:=yP hj
 have hl:=r.length
 have hn:=mW
 have I':a8 X pins σ (upd H p (.lst (xs.set j v))) { s with heap:=s.heap.update p (Obj.mapSeq (·.setIfInBounds j u)) }:=
  I.lstUpd hp ho (aj2 its n j u) (r.set rv j) (by rw [bb7]; exact hz) s.toks
 by_cases h0:0<=k
 ·have hk:k.toNat=j:=by
   rw [seqIndex_of h0 h4] at h1
   exact aY5 h1
  exact PySem.W.ki_setAt ho h0 (by omega) (by rw [aW1,<- hl]; exact h4) (by rw [hk]; exact⟨_,I',q⟩)
 ·have hk:(k+(its.toArray.size:Int)).toNat=j:=by
   rw [seqIndex_neg (by omega) h3] at h1
   rw [aW1,<- hl]
   exact aY5 h1
  exact PySem.W.ki_setBack ho (by omega) (by rw [aW1,<- hl]; exact h3) (by omega) (by rw [hk]; exact⟨_,I',q⟩)
theorem aj3 (lo hi:Option Int) (n:Nat):(sliceBounds lo hi none n).1=((HT.aV n 0 lo:Nat):Int)/\(sliceBounds lo hi none n).2.1=((HT.aV n n hi:Nat):Int)/\(sliceBounds lo hi none n).2.2=1:=by
 refine⟨?_,?_,rfl⟩
 ·cases lo with
  | none=>simp [sliceBounds,HT.aV]
  | some i=>
   simp only [sliceBounds,HT.aV,Option.getD_none,show (1:Int) > 0 by decide,if_true]
   by_cases h:i < 0
   ·simp only [h,if_true] <;> omega
   ·simp only [h,be6] <;> omega
 ·cases hi with
  | none=>simp [sliceBounds,HT.aV]
  | some i=>
   simp only [sliceBounds,HT.aV,Option.getD_none,show (1:Int) > 0 by decide,if_true]
   by_cases h:i < 0
   ·simp only [h,if_true] <;> omega
   ·simp only [h,be6] <;> omega
theorem aj4 (its:List Value) (lo hi:Option Int):slicePick its.toArray lo hi none=((its.drop (HT.aV its.length 0 lo)).take (HT.aV its.length its.length hi - HT.aV its.length 0 lo)).toArray:=by
 obtain ⟨h1,h2,h3⟩:=aj3 lo hi its.toArray.size
 unfold slicePick
 rw [h1,h2,h3]
 simp only [sliceRange_one,pick_run,aW1] <;> rfl
def aj5 (K:PySem.W.Frag):V->Option Int->Option Int->Hp->VK->Prop:=fun x lo hi H Q=>∃ a xs,x = .ref a/\aN K H a xs/\∀ p,H p=none->Q (.ref p) (upd H p (.lst (gQ xs lo hi)))
theorem aj6:jN X (aj5 X.K):=by
 intro pins s σ H x v vl vu lo hi sl Q I rx hs pl pu h
 obtain ⟨a,xs,rfl,hx,q⟩:=h
 cases rx
 obtain ⟨its,r,ht,hz⟩:=I.list hx
 have hlen:=r.length
 refine⟨"list",_,slot_list_getitem.lookup,ht.isList.typeIs,?_⟩
 refine wpAny_getItem_list_slice ht.isList hs pl pu .none (by simp) ?_ (by rw [aW1] <;> omega)
 rw [aj4,<- hlen]
 refine⟨.ref s.heap.objs.size,_,I.laid (t':=s.toks) (o:=.lst (gQ xs lo hi)) (fun b ob q=>aV9 _ q) (aW8 _) ?_,rfl,q _ (I.hok.fresh (aW8 _))⟩
 exact⟨aZ7 (yO xs lo hi) hz,_,0,(r.drop (HT.aV xs.length 0 lo)).take (HT.aV xs.length xs.length hi - HT.aV xs.length 0 lo),aX4 _ rfl⟩
theorem aj7:cH X (.builtin "len") (fun xs H Q=>∃ p ys,xs = [.ref p]/\(aN X.K H p ys ∨ aL X.K H p ys)/\Q (.int ys.length) H):=by
 intro pins s σ H xs us Q I r h
 obtain ⟨p,ys,rfl,hq,q⟩:=h
 obtain ⟨u,rfl,rx⟩:=eQ r
 cases rx
 have hn:=mW
 rcases hq with hq | hq
 ·obtain ⟨its,r',pl,hz⟩:=I.list hq
  have hlen:=r'.length
  exact Calls.call_len_list pl.isList (by simp only [aW1] <;> omega) ⟨.int ys.length,H,I.tok _,⟨s.toks+1,by rw [aW1,hlen]⟩,q⟩
 ·obtain ⟨its,r',pl,hz⟩:=I.tuple hq
  have hlen:=r'.length
  exact len_tuple pl (by simp only [aW1] <;> omega) ⟨.int ys.length,H,I.tok _,⟨s.toks+1,by rw [aW1,hlen]⟩,q⟩
theorem cH.or {f:Value}{r r':List V->Hp->VK->Prop} (h:cH X f r) (h':cH X f r'):cH X f (fun xs H Q=>r xs H Q ∨ r' xs H Q):=by
 intro pins s σ H xs us Q I rs q
 rcases q with q | q
 ·exact h pins s σ H xs us Q I rs q
 ·exact h' pins s σ H xs us Q I rs q
theorem aj8:cH X (.type "list") (fun xs H Q=>∃ p ys,xs = [.ref p]/\(aN X.K H p ys ∨ aL X.K H p ys)/\∀ l,H l=none->Q (.ref l) (upd H l (.lst ys))):=by
 intro pins s σ H xs us Q I r h
 obtain ⟨p,ys,rfl,hq,q⟩:=h
 obtain ⟨u,rfl,rx⟩:=eQ r
 cases rx
 have fin:∀ (its:List Value),aI ys its->ys.length<=sizeLine->∀ (h':Heap) (c':Nat),(∀ b o',s.heap.get? b=some o'->h'.get? b=some o')->
   h'.get? s.heap.objs.size=some { cls:=.type "list",dict:=none,data:=.seq its.toArray c',slots:=#[] }->EP X pins σ Q (.ref s.heap.objs.size) { s with heap:=h' }:=fun its r' hz h' c' kp e=>
  ⟨.ref s.heap.objs.size,_,I.laid (t':=s.toks) kp (aW8 _) (show bW X.prog X.w _ h' _ (.lst ys) from ⟨hz,its,c',r',e⟩),rfl,q _ (I.hok.fresh (aW8 _))⟩
 rcases hq with hq | hq
 ·obtain ⟨its,r',pl,hz⟩:=I.list hq
  have hlen:=r'.length
  obtain ⟨o,ho,hc,n,hd⟩:=pl.isList
  exact call_list_seq p (.inl rfl) ho hc hd (fun h' c' kp e=>fin its r' hz h' c' kp e) (by simp only [aW1] <;> omega)
 ·obtain ⟨its,r',pl,hz⟩:=I.tuple hq
  have hlen:=r'.length
  obtain ⟨o,ho,hc,n,hd⟩:=pl
  exact call_list_seq p (.inr rfl) ho hc hd (fun h' c' kp e=>fin its r' hz h' c' kp e) (by simp only [aW1] <;> omega)
theorem aj9:cH X (.type "tuple") (fun xs H Q=>∃ p ys,xs = [.ref p]/\((aN X.K H p ys/\∀ l,H l=none->Q (.ref l) (upd H l (.tup ys))) ∨ (aL X.K H p ys/\Q (.ref p) H))):=by
 intro pins s σ H xs us Q I r h
 obtain ⟨p,ys,rfl,h⟩:=h
 obtain ⟨u,rfl,rx⟩:=eQ r
 cases rx
 rcases h with ⟨hq,q⟩ | ⟨hq,q⟩
 ·obtain ⟨its,r',pl,hz⟩:=I.list hq
  have hlen:=r'.length
  refine call_tuple_list pl.isList (fun h' kp=>?_) (by simp only [aW1] <;> omega)
  have I1:a8 X pins σ H { s with heap:=h' }:=I.kept (t':=s.toks) kp
  have I2:a8 X pins σ (upd H h'.objs.size (.tup ys)) { s with heap:=h'.push { cls:=.type "tuple",data:=.seq its.toArray } }:=
   I1.laid (t':=s.toks) (fun b o e=>aV9 _ e) (aW8 _) (show bW X.prog X.w _ _ _ (.tup ys) from ⟨hz,its,r',IsTup.new _ _,i6.new _ _ rfl⟩)
  exact⟨.ref h'.objs.size,_,I2,rfl,q _ (I1.hok.fresh (aW8 _))⟩
 ·obtain ⟨its,r',pl,hz⟩:=I.tuple hq
  exact call_tuple_same pl ⟨.ref p,H,I,rfl,q⟩
def gR (K:PySem.W.Frag) (T:String) (x:V) (H:Hp):Prop:=match x with
 | .str _=>T="str"
 | .int _=>T="int"
 | .ref p=>(T="list"/\∃ xs,aN K H p xs) ∨ (T="tuple"/\∃ o,K.lookup p=some o/\o.cls = .type "tuple"/\o.dict=none) ∨
   (T="dict"/\((∃ kvs,H p=some (.dK kvs)) ∨ ∃ kvs,H p=some (.dT kvs))) ∨ (T="set"/\∃ S n,H p=some (.set S n))
 | _=>False
theorem ak0 {pins:List (Addr × Obj)}{σ:St}{H:Hp}{s:Shared}{T:String}{x:V}{v:Value} (I:a8 X pins σ H s) (r:aP x v) (ty:gR X.K T x H) :
  s.TypeIs v T/\∀ a,v = .ref a->∃ ob,s.heap.get? a=some ob/\ob.dict=none:=by
 cases x with
 | str z=>
  obtain ⟨t,rfl⟩:=r
  cases (show T="str" from ty)
  exact⟨typeIs_str s z t,fun _ e=>nomatch e⟩
 | int i=>
  obtain ⟨t,rfl⟩:=r
  cases (show T="int" from ty)
  exact⟨typeIs_int s i t,fun _ e=>nomatch e⟩
 | ref p=>
  cases r
  rcases ty with ⟨rfl,xs,hq⟩ | ⟨rfl,o,hk,hc,hd⟩ | ⟨rfl,hk⟩ | ⟨rfl,S,n,hk⟩
  ·obtain ⟨its,_,pl,_⟩:=I.list hq
   refine⟨pl.isList.typeIs,fun a e=>?_⟩
   cases e
   obtain ⟨o,n,e,c,hd,_⟩:=pl
   exact⟨o,e,hd⟩
  ·refine⟨⟨o,I.kIn p o hk,hc⟩,fun a e=>?_⟩
   cases e
   exact⟨o,I.kIn _ o hk,hd⟩
  ·have z:∃ o,s.heap.get? p=some o/\o.ExactDict:=by
    rcases hk with ⟨kvs,hk⟩ | ⟨kvs,hk⟩
    ·obtain ⟨_,_,_,_,o,_,_,e,ex,_⟩:=I.hok p _ hk
     exact⟨o,e,ex⟩
    ·obtain ⟨_,_,_,_,o,_,_,e,ex,_⟩:=I.hok p _ hk
     exact⟨o,e,ex⟩
   obtain ⟨o,e,ex⟩:=z
   refine⟨⟨o,e,ex.1⟩,fun a e2=>?_⟩
   cases e2
   exact⟨o,e,ex.2.1⟩
  ·obtain ⟨o,_,_,_,e,ex,_⟩:=I.hok p _ hk
   refine⟨⟨o,e,ex.1⟩,fun a e2=>?_⟩
   cases e2
   exact⟨o,e,ex.2.1⟩
 | _=>exact False.elim ty
def oU (K:PySem.W.Frag) (T:String) (r:V->List V->Hp->VK->Prop) (to:TE) (t:TA):TE:=fun σ H Q=>to σ H fun x H1=>gR K T x H1/\t σ H1 fun xs H2=>r x xs H2 Q
variable {o e : Expr} {es : List Expr} {to : TE} {t : TA} {name : Str} {apos cpos : Pos} {T id : String} {r : V → List V → Hp → VK → Prop}
theorem tJ (pa:PlainAttrs T) (slot:Slot T name id) (hty:typeOf (.builtin id)=pure (.type "method_descriptor")) (hm:MtR X id r) (ho:PE X o to) (ha:PA X (e :: es) t)
  (hbase:attributeBase o name X.env (eval o X.env)=eval o X.env:=by rfl)
  (hfew:((backTo cpos (starEach (e :: es) X.env)).all (fun x=>!x.1) && (backToKw cpos (keywordEach [] X.env)).all (fun x=>x.1.isSome)
   && decide ((e :: es).length+([]:List Keyword).length+(if ([]:List Keyword).isEmpty then 0 else 1) < 30))=true:=by rfl)
  (hline:(apos.endLine == cpos.line)=true:=by rfl) (hs:starEach (e :: es) X.env=(false,eval e X.env) :: starEach es X.env:=by rfl) (hplain:(backTo cpos (starEach es X.env)).any (·.1)=false:=by rfl) :
  PE X (.Call (.Attribute o name apos) (e :: es) [] cpos) (oU X.K T r to t):=by
 intro pins s σ H Q I h
 refine wpAny_Call_method_late hbase hfew hline rfl (aQ (ho pins s σ H _ I h) fun v s1 ⟨x,H1,I1,r1,ty,q1⟩=>?_)
 obtain ⟨h1,h2⟩:=ak0 I1 r1 ty
 refine⟨T,id,pa,slot,hty,h1,h2,?_⟩
 have hA:=ha cpos pins s1 σ H1 _ I1 q1
 rw [hs] at hA ⊢
 refine Calls.callWith_builtin (by show (false || (backTo cpos (starEach es X.env)).any (·.1))=false; rw [hplain] <;> rfl) (Calls.evalArgs_plain ?_)
 exact aQ hA fun us s2 ⟨vs,H2,I2,r2,q2⟩=>hm pins s2 σ H2 x vs v us Q I2 r1 r2 q2
end
def oV (X:Cx) (id:String) (r:V->List V->Hp->VK->Prop):Prop:=
 ∀ (pins:List (Addr × Obj)) (s:Shared) (σ:St) (H:Hp) (x:V) (xs:List V) (v:Value) (us:List Value) (Q:VK),a8 X pins σ H s->aP x v->aI xs us->r x xs H Q->
  wpAny (model X.prog X.w) X.A (call (.builtin id) (v :: us)) (EP X pins σ Q) X.xe s
theorem aI.one {x:V}{us:List Value} (h:aI [x] us):∃ u,us = [u]/\aP x u:=by
 cases h with
 | cons r t=>
  cases t
  exact⟨_,rfl,r⟩
theorem aI.two {x y:V}{us:List Value} (h:aI [x,y] us):∃ u v,us = [u,v]/\aP x u/\aP y v:=by
 cases h with
 | cons r t=>
  cases t with
  | cons q t=>
   cases t
   exact⟨_,_,rfl,r,q⟩
theorem aI.eraseIdx:∀ {xs:List V}{us:List Value} (i:Nat),aI xs us->aI (xs.eraseIdx i) (us.eraseIdx i)
 | _,_,_,.nil=>.nil
 | _,_,0,.cons _ t=>t
 | _,_,i+1,.cons r t=>.cons r (aI.eraseIdx i t)
section
variable {X : Cx} {pins : List (Addr × Obj)} {σ : St} {H : Hp} {s : Shared} {l b : Addr} {xs ys zs : List V}
theorem a8.lset {its its':List Value}{n:Nat}{f:Array Value->Array Value}{t':Nat} (I:a8 X pins σ H s) (hH:H l=some (.lst xs))
  (e:s.heap.get? l=some { cls:=.type "list",data:=.seq its.toArray n }) (hf:f its.toArray=its'.toArray) (hv:aI ys its') (hz:ys.length<=sizeLine) :
  a8 X pins σ (upd H l (.lst ys)) { s with heap:=s.heap.update l (Obj.mapSeq f),toks:=t' }:=by
 have q:=PySem.IsL.update e f
 rw [hf] at q
 refine I.write (x:=l) (e:=l) (by rw [hH]; exact trivial) (.inl rfl) (fun b' u hb hu=>(bi3 s.heap (Obj.mapSeq f) (Ne.symm hb)).trans hu) ⟨_,q⟩ ?_
 exact⟨hz,its',_,hv,q⟩
theorem a8.lnew {its:List Value}{t':Nat} (I:a8 X pins σ H s) (hv:aI ys its) (hz:ys.length<=sizeLine) :
  a8 X pins σ (upd H s.heap.objs.size (.lst ys)) { s with heap:=s.heap.push { cls:=.type "list",data:=.seq its.toArray },toks:=t' }:=
 I.laid (fun _ _ q=>aV9 _ q) (aW8 _) ⟨hz,its,0,hv,aX4 _ rfl⟩
theorem a8.fresh (I:a8 X pins σ H s):H s.heap.objs.size=none:=I.hok.fresh (aW8 _)
theorem a8.lstM (I:a8 X pins σ H s) (hH:H l=some (.lst xs)):xs.length<=sizeLine/\∃ (its:List Value) (n:Nat),aI xs its/\xs.length=its.length/\s.heap.get? l=some { cls:=.type "list",data:=.seq its.toArray n }:=by
 obtain ⟨z,its,n,r,e⟩:=I.hok l _ hH
 exact⟨z,its,n,r,r.length,e⟩
theorem ak1 {n:Nat} (h:n<=sizeLine):Builtin.List.listTooLong n=false:=by
 unfold Builtin.List.listTooLong
 exact aW4 (by omega)
end
section
variable {X : Cx}
def yX:V->List V->Hp->VK->Prop:=fun x vs H Q=>∃ l xs y,x = .ref l/\vs = [y]/\H l=some (.lst xs)/\xs.length < sizeLine/\Q .non (upd H l (.lst (xs ++ [y])))
theorem yY:oV X "list.append" yX:=by
 intro pins s σ H x vs v us Q I rx rv h
 obtain ⟨l,xs,y,rfl,rfl,hH,hz,q⟩:=h
 cases rx
 obtain ⟨u,rfl,ru⟩:=rv.one
 obtain ⟨z,its,n,r,hl,e⟩:=I.lstM hH
 refine call_meets F.slot_list_append ⟨_,e,rfl⟩ F.entry_list_append (F.args_list_append_2 _ _) (PySem.list_append l its.toArray n u (by rw [aW1]; omega)) ⟨e,?_⟩
 refine⟨.non,_,I.lset (its':=its ++ [u]) hH e (by simp) (r.append (.cons ru .nil)) ?_,rfl,q⟩
 rw [aY4,bb9]
 omega
def ak2:V->List V->Hp->VK->Prop:=fun x vs H Q=>∃ l b xs zs,x = .ref l/\vs = [.ref b]/\H l=some (.lst xs)/\H b=some (.lst zs)/\xs.length+zs.length<=sizeLine/\Q .non (upd H l (.lst (xs ++ zs)))
theorem aV4:oV X "list.extend" ak2:=by
 intro pins s σ H x vs v us Q I rx rv h
 obtain ⟨l,b,xs,zs,rfl,rfl,hH,hB,hz,q⟩:=h
 cases rx
 obtain ⟨u,rfl,ru⟩:=rv.one
 cases ru
 obtain ⟨z,its,n,r,hl,e⟩:=I.lstM hH
 obtain ⟨z2,its2,n2,r2,hl2,e2⟩:=I.lstM hB
 have hsz:its.toArray.size+its2.toArray.size<=sizeLine:=by rw [aW1,aW1]; omega
 have hlong : ¬ (!its.toArray.isEmpty && Builtin.List.listTooLong (its.toArray.size+its2.toArray.size))=true:=by
  rw [ak1 hsz,bf6]
  exact aY3
 refine call_meets F.slot_list_extend ⟨_,e,rfl⟩ F.entry_list_extend (F.args_list_extend_2 _ _)
  (AutoSeq1.list_extend_list_list_0 l its.toArray n b its2.toArray n2 hlong (by rw [aW1]; omega) (by omega)) ⟨e,e2,?_⟩
 refine⟨.non,_,I.lset (its':=its ++ its2) hH e (by simp) (r.append r2) ?_,rfl,q⟩
 rw [aY4]
 omega
def yZ:R2:=fun x y H Q=>∃ l b xs zs,x = .ref l/\y = .ref b/\H l=some (.lst xs)/\H b=some (.lst zs)/\xs.length+zs.length<=sizeLine/\∀ p,H p=none->Q (.ref p) (upd H p (.lst (xs ++ zs)))
theorem ak3:bX X (binaryOp .Add) yZ:=by
 intro pins s σ H x y v u Q I rx ry h
 obtain ⟨l,b,xs,zs,rfl,rfl,hH,hB,hz,q⟩:=h
 cases rx
 cases ry
 obtain ⟨z,its,n,r,hl,e⟩:=I.lstM hH
 obtain ⟨z2,its2,n2,r2,hl2,e2⟩:=I.lstM hB
 refine PySem.P.add_list e e2 ?_ (by rw [aW1,aW1]; omega)
 have ea:its.toArray ++ its2.toArray=(its ++ its2).toArray:=by simp
 rw [ea]
 exact⟨.ref _,_,I.lnew (t':=s.toks) (r.append r2) (by rw [aY4]; omega),rfl,q _ I.fresh⟩
end
section
variable {κ : Type} [DecidableEq κ]
def eF (kvs:List (κ × V)) (k:κ):Option V:=(kvs.find? fun kv=>decide (kv.1=k)).map (·.2)
def eU (kvs:List (κ × V)) (k:κ) (v:V):List (κ × V):=
 if (kvs.any fun kv=>decide (kv.1=k))=true then kvs.map (fun kv=>if kv.1=k then (kv.1,v) else kv) else kvs ++ [(k,v)]
theorem tK {p:κ × V}{r:List (κ × V)}{k:κ} (e:p.1=k):eF (p :: r) k=some p.2:=by simp [eF,bh5,e]
theorem tL {p:κ × V}{r:List (κ × V)}{k:κ} (e : ¬ p.1=k):eF (p :: r) k=eF r k:=by simp [eF,bh5,e]
theorem z0 (k:κ):∀ kvs:List (κ × V),(kvs.any fun kv=>decide (kv.1=k))=(eF kvs k).isSome
 | []=>rfl
 | p :: r=>by
  rw [List.any_cons]
  by_cases e:p.1=k
  ·simp only [tK e,aX3 e,Bool.true_or,Option.isSome_some]
  ·rw [tL e,aW4 e,Bool.false_or]; exact z0 k r
theorem z9 (kvs:List (κ × V)) (k:κ) (v:V):(eU kvs k v).length<=kvs.length+1:=by
 unfold eU
 split
 ·rw [aW6]; omega
 ·rw [aY4,bb4,bl2]; omega
theorem kA.isSome_eq {o:Option V}{u:Option Value} (r:kA o u):o.isSome=u.isSome:=by
 cases o with
 | none=>cases u with
  | none=>rfl
  | some _=>exact (show False from r).elim
 | some _=>cases u with
  | none=>exact (show False from r).elim
  | some _=>rfl
theorem KV.val {kvs:List (κ × V)}{vs:List (κ × Value)} (r:KV kvs vs) (k:κ):kA (eF kvs k) (valueAt vs k):=by
 unfold KV at r
 induction r with
 | nil=>exact bm9
 | @cons p q ps qs h t ih=>
  obtain ⟨h1,h2⟩:=h
  by_cases e:p.1=k
  ·have e':q.1=k:=h1.symm.trans e
   have b:valueAt (q :: qs) k=some q.2:=by simp [valueAt,bh5,e']
   rw [tK e,b]; exact h2
  ·have e' : ¬ q.1=k:=fun z=>e (h1.trans z)
   have b:valueAt (q :: qs) k=valueAt qs k:=by simp [valueAt,bh5,e']
   rw [tL e,b]; exact ih
theorem KV.any {kvs:List (κ × V)}{vs:List (κ × Value)} (r:KV kvs vs) (k:κ):(kvs.any fun kv=>decide (kv.1=k))=vs.any fun kv=>decide (kv.1=k):=by
 unfold KV at r
 induction r with
 | nil=>rfl
 | cons h t ih=>rw [List.any_cons,List.any_cons,ih,h.1]
theorem KV.repl {kvs:List (κ × V)}{vs:List (κ × Value)} (r:KV kvs vs) (k:κ) {y:V}{u:Value} (ry:aP y u) :
  KV (kvs.map fun kv=>if kv.1=k then (kv.1,y) else kv) (vs.map fun kv=>if kv.1=k then (kv.1,u) else kv):=by
 unfold KV at r ⊢
 induction r with
 | nil=>exact .nil
 | @cons p q ps qs h t ih=>
  rw [bc2,bc2]
  refine .cons ?_ ih
  obtain ⟨h1,h2⟩:=h
  by_cases e:p.1=k
  ·rw [if_pos e,if_pos (h1.symm.trans e)]; exact⟨h1,ry⟩
  ·rw [if_neg e,if_neg (fun z=>e (h1.trans z))]; exact⟨h1,h2⟩
theorem KV.put {kvs:List (κ × V)}{vs:List (κ × Value)} (r:KV kvs vs) (k:κ) {y:V}{u:Value} (ry:aP y u):KV (eU kvs k y) (stored vs k u):=by
 unfold eU stored
 rw [r.any k]
 by_cases e:(vs.any fun kv=>decide (kv.1=k))=true
 ·rw [if_pos e,if_pos e]; exact r.repl k ry
 ·rw [if_neg e,if_neg e]; exact Paired.snoc r ⟨rfl,ry⟩
theorem KV.length {kvs:List (κ × V)}{vs:List (κ × Value)} (r:KV kvs vs):kvs.length=vs.length:=Paired.length r
end
theorem tM {P:Program}{w:World}{k:aM}{u:Value} (r:aP (kV k) u):(eO P w).is k u=true:=by
 cases k with
 | inl i=>obtain ⟨t,e⟩:=(show ∃ t,u=Value.int i t from r); subst e; exact aa8 P w i t
 | inr x=>obtain ⟨t,e⟩:=(show ∃ t,u=Value.str x t from r); subst e; exact aa9 P w x t
theorem zA {P:Program}{w:World}:∀ {ks:List aM}{us:List Value},aI (ks.map kV) us->ItemsAre (eO P w) ks us
 | [],_,r=>by rw [List.map_nil] at r; cases r; exact .nil
 | k :: ks,_,r=>by
  rw [bc2] at r
  cases r with
  | cons h t=>exact .cons (tM h) (zA t)
abbrev KT (H:Hp):List (List aM × V)->List (List aM × Addr × Value)->Prop:=Paired fun p q=>p.1=q.1/\H q.2.1=some (.tup (p.1.map kV))/\aP p.2 q.2.2
theorem KT.val {H:Hp}{kvs:List (List aM × V)}{xs:List (List aM × Addr × Value)} (r:KT H kvs xs) (k:List aM):kA (eF kvs k) ((atKey xs k).map (·.2)):=by
 induction r with
 | nil=>exact bm9
 | @cons p q ps qs h t ih=>
  obtain ⟨h1,_,h2⟩:=h
  by_cases e:p.1=k
  ·have e':q.1=k:=h1.symm.trans e
   have b:atKey (q :: qs) k=some q.2:=by simp [atKey,bh5,e']
   rw [tK e,b]; exact h2
  ·have e' : ¬ q.1=k:=fun z=>e (h1.trans z)
   have b:atKey (q :: qs) k=atKey qs k:=by simp [atKey,bh5,e']
   rw [tL e,b]; exact ih
theorem KT.repl {H:Hp}{kvs:List (List aM × V)}{xs:List (List aM × Addr × Value)} (r:KT H kvs xs) (k:List aM) {y:V}{u:Value} (ry:aP y u) :
  KT H (kvs.map fun kv=>if kv.1=k then (kv.1,y) else kv) (xs.map (putAt k u)):=by
 induction r with
 | nil=>exact .nil
 | @cons p q ps qs h t ih=>
  rw [bc2,bc2]
  refine .cons ?_ ih
  obtain ⟨h1,h2,h3⟩:=h
  unfold putAt
  by_cases e:p.1=k
  ·rw [if_pos e,if_pos (h1.symm.trans e)]; exact⟨h1,h2,ry⟩
  ·rw [if_neg e,if_neg (fun z=>e (h1.trans z))]; exact⟨h1,h2,h3⟩
theorem KT.put {H:Hp}{kvs:List (List aM × V)}{xs:List (List aM × Addr × Value)} (r:KT H kvs xs) (k:List aM) {b:Addr}{y:V}{u:Value} (hb:H b=some (.tup (k.map kV))) (ry:aP y u) :
  KT H (eU kvs k y) (storedH xs k b u):=by
 have e:(kvs.any fun kv=>decide (kv.1=k))=(atKey xs k).isSome:=by
  rw [z0,(r.val k).isSome_eq,Option.isSome_map]
 unfold eU storedH
 rw [e]
 by_cases q:(atKey xs k).isSome=true
 ·rw [if_pos q,if_pos q]; exact r.repl k ry
 ·rw [if_neg q,if_neg q]; exact Paired.snoc r ⟨rfl,hb,ry⟩
theorem KT.keeps {H H':Hp}{kvs:List (List aM × V)}{xs:List (List aM × Addr × Value)} (r:KT H kvs xs) (ht:∀ b ys,H b=some (.tup ys)->H' b=some (.tup ys)):KT H' kvs xs:=
 Paired.mapP r fun _ _ z=>⟨z.1,ht _ _ z.2.1,z.2.2⟩
section
variable {P : Program} {w : World} {H : Hp} {h : Heap} {a : Addr}
theorem zB {u:HO} (ok:bT P w H h) (e:Rd H a u):bW P w H h a u:=e.ok ok
theorem oW {kvs:List (aM × V)} (ok:bT P w H h) (e:Rd H a (.dK kvs)):kvs.length<=sizeLine/\(a == sysModules)=false/\∃ vs,KV kvs vs/\h.DictOf (eO P w) a vs:=
 show bW P w H h a (.dK kvs) from zB ok e
theorem ak4 {kvs:List (aM × V)} (ok:bT P w H h) (e:H a=some (.dK kvs)):kvs.length<=sizeLine/\(a == sysModules)=false/\∃ vs,KV kvs vs/\h.DictOf (eO P w) a vs:=oW ok (.inl e)
theorem oX {ks:List aM} (ok:bT P w H h) (e:H a=some (.tup (ks.map kV))):(tupleKind (eO P w)).is h ks a:=by
 obtain ⟨_,its,r,⟨o,h1,h2,n,h3⟩,_⟩:=(show bW P w H h a (.tup (ks.map kV)) from ok a _ e)
 exact⟨o,its.toArray,n,h1,h2,h3,by simpa using zA r⟩
theorem tN {kvs:List (List aM × V)} (ok:bT P w H h) (e:Rd H a (.dT kvs)):kvs.length<=sizeLine/\(a == sysModules)=false/\
  ∃ xs,KT H kvs xs/\h.DictOfH (tupleKind (eO P w)) a xs:=by
 obtain ⟨z,y,xs,r,o,es,ep,h1,h2,h3,h4,h5⟩:=(show bW P w H h a (.dT kvs) from zB ok e)
 refine⟨z,y,xs,r,o,es,ep,h1,h2,h3,h4,fun x hx=>?_,h5⟩
 have all:∀ {l:List (List aM × V)}{m:List (List aM × Addr × Value)},KT H l m->∀ x ∈ m,(tupleKind (eO P w)).is h x.1 x.2.1:=by
  intro l m q
  induction q with
  | nil=>intro x hx; exact nomatch hx
  | @cons p q ps qs hq t ih=>
   intro x hx
   rcases aW3.mp hx with e | hx
   ·subst e
    exact oX ok (by rw [<- hq.1]; exact hq.2.1)
   ·exact ih x hx
 exact all r x hx
theorem zC {kvs:List (List aM × V)} (ok:bT P w H h) (e:H a=some (.dT kvs)):kvs.length<=sizeLine/\(a == sysModules)=false/\
  ∃ xs,KT H kvs xs/\h.DictOfH (tupleKind (eO P w)) a xs:=tN ok (.inl e)
end
def iT (H:Hp) (a:Addr) (y:V) (r:Option V):Prop:=
 (∃ kvs k,Rd H a (.dK kvs)/\y=kV k/\r=eF kvs k) ∨ ∃ kvs k b,Rd H a (.dT kvs)/\y = .ref b/\H b=some (.tup (k.map kV))/\r=eF kvs k
def mZ (H:Hp) (a:Addr) (y v:V) (H':Hp):Prop:=
 (∃ kvs k,H a=some (.dK kvs)/\y=kV k/\kvs.length < sizeLine/\H'=upd H a (.dK (eU kvs k v))) ∨
 ∃ kvs k b,H a=some (.dT kvs)/\y = .ref b/\H b=some (.tup (k.map kV))/\kvs.length < sizeLine/\H'=upd H a (.dT (eU kvs k v))
theorem iT.k {H:Hp}{a:Addr}{kvs:List (aM × V)}{k:aM} (e:H a=some (.dK kvs)):iT H a (kV k) (eF kvs k):=.inl ⟨kvs,k,.inl e,rfl,rfl⟩
theorem iT.t {H:Hp}{a b:Addr}{kvs:List (List aM × V)}{k:List aM} (e:H a=some (.dT kvs)) (eb:H b=some (.tup (k.map kV))):iT H a (.ref b) (eF kvs k):=.inr ⟨kvs,k,b,.inl e,rfl,eb,rfl⟩
theorem mZ.t {H:Hp}{a b:Addr}{kvs:List (List aM × V)}{k:List aM}{v:V} (e:H a=some (.dT kvs)) (eb:H b=some (.tup (k.map kV))) (hl:kvs.length < sizeLine) :
  mZ H a (.ref b) v (upd H a (.dT (eU kvs k v))):=.inr ⟨kvs,k,b,e,rfl,eb,hl,rfl⟩
section
variable {X : Cx} {pins : List (Addr × Obj)} {σ : St} {H : Hp} {s : Shared} {a : Addr} {y v : V} {u r : Value} {o : Option V} {A : Around} {E : Value → Shared → Prop}
theorem a8.big (I:a8 X pins σ H s):sysModules < s.heap.objs.size:=by
 have h:mainGlobals < s.heap.objs.size:=(I.mod.glob.keeps I.bk).lt
 exact Nat.lt_trans (by decide) h
theorem ak5 {Q:Value->Shared->Prop} (hu:A.units+1 < cLine) (I:a8 X pins σ H s) (g:iT H a y o) (ry:aP y u) (h:∀ s',a8 X pins σ H s'->Q (.bool (!o.isSome)) s') :
  wpAny (model X.prog X.w) A (compareOp .NotIn u (.ref a)) Q E s:=by
 rcases g with ⟨kvs,k,e,ey,l⟩ | ⟨kvs,k,b,e,ey,eb,l⟩
 ·subst ey
  obtain ⟨z,hd,vs,rel,dd⟩:=oW I.hok e
  refine wpAny_notIn_of (tM ry) hd dd.mapOf ?_
  rw [<- (rel.val k).isSome_eq,<- l]
  exact h _ (I.tok _)
 ·subst ey
  cases (show u=Value.ref b from ry)
  obtain ⟨z,hd,xs,rel,dd⟩:=tN I.hok e
  refine wpAny_notIn_heap (tupleKind_room_in1 hu) (oX I.hok eb) hd dd ?_
  have q:=(rel.val k).isSome_eq
  rw [Option.isSome_map] at q
  rw [<- q,<- l]
  exact h _ (I.tok _)
theorem tO {h':Heap}{t':Nat}{ob:HO} (I:a8 X pins σ H s) (mu:mP (H a)) (hs:Heap.SameBut a s.heap h') (he:∃ q,h'.get? a=some q) (new:bW X.prog X.w (upd H a ob) h' a ob) :
  a8 X pins σ (upd H a ob) { s with heap:=h',toks:=t' }:=
 I.write (x:=a) (e:=a) mu (.inl rfl) (fun b q hb z=>(hs.2 b hb).trans z) he new
theorem ak6 {P:Program}{w:World}{H':Hp}{h':Heap}{kvs:List (aM × V)}{vs:List (aM × Value)} (z:kvs.length<=sizeLine) (hd:(a == sysModules)=false) (rel:KV kvs vs) (dd:h'.DictOf (eO P w) a vs) :
  bW P w H' h' a (.dK kvs):=⟨z,hd,vs,rel,dd⟩
theorem ak7 {H':Hp}{Q:Unit->Shared->Prop} (hu:A.units+1 < cLine) (I:a8 X pins σ H s) (g:mZ H a y v H') (ry:aP y u) (rv:aP v r) (h:∀ s',a8 X pins σ H' s'->Q () s') :
  wpAny (model X.prog X.w) A (setItem (.ref a) u r) Q E s:=by
 rcases g with ⟨kvs,k,e,ey,l,eH⟩ | ⟨kvs,k,b,e,ey,eb,l,eH⟩
 ·subst ey eH
  obtain ⟨z,hd,vs,rel,dd⟩:=ak4 I.hok e
  have hz:vs.length<=sizeLine:=by rw [<- rel.length]; exact z
  have hl:(eU kvs k v).length<=sizeLine:=by have:=z9 kvs k v; omega
  refine wpAny_setItem_pairs (hsz:=hz) (tM ry) dd fun h' dd' hs=>h _ ?_
  have he:∃ q,h'.get? a=some q:=let ⟨q,_,_,hq,_⟩:=dd'; ⟨q,hq⟩
  exact tO I (by rw [e]; exact bm9) hs he (ak6 hl hd (rel.put k rv) dd')
 ·subst ey eH
  cases (show u=Value.ref b from ry)
  obtain ⟨z,hd,xs,rel,dd⟩:=zC I.hok e
  have hz:xs.length<=sizeLine:=by rw [<- Paired.length rel]; exact z
  have hl:(eU kvs k v).length<=sizeLine:=by have:=z9 kvs k v; omega
  refine wpAny_setItem_heap (hsz:=hz) (tupleKind_room_in1 hu) (oX I.hok eb) dd fun h' dd' hs=>h _ ?_
  obtain ⟨q,es,ep,hq,h2,h3,h4,_,h5⟩:=dd'
  refine tO I (by rw [e]; exact bm9) hs ⟨q,hq⟩ ⟨hl,hd,_,(rel.put k eb rv).keeps fun c ys ec=>?_,q,es,ep,hq,h2,h3,h4,h5⟩
  rw [aX (x9 ec e (fun z=>nomatch z))]
  exact ec
end
section
variable {X : Cx} {pins : List (Addr × Obj)} {σ : St} {H : Hp} {s : Shared} {a : Addr} {kvs : List (aM × V)} {k : aM} {u : Value} {A : Around} {E : Value → Shared → Prop}
theorem ak8 {Q:Value->Shared->Prop} (I:a8 X pins σ H s) (e:Rd H a (.dK kvs)) (h:∀ t s',a8 X pins σ H s'->Q (.int kvs.length t) s'):wpAny (model X.prog X.w) A (call (.builtin "len") [.ref a]) Q E s:=by
 obtain ⟨z,hd,vs,rel,dd⟩:=oW I.hok e
 refine call_len_dict hd dd (by rw [<- rel.length]; rw [sizeLine_eq] at z; omega) ?_
 rw [<- rel.length]
 exact h _ _ (I.tok _)
end
def zD (ty td:TE):TE:=fun σ H Q=>ty σ H fun y H1=>td σ H1 fun x H2=>∃ a o,x = .ref a/\iT H2 a y o/\Q (.bl (!o.isSome)) H2
def zE (td ty tv:TE):TS:=fun D σ H=>tv σ H fun v H1=>td σ H1 fun x H2=>ty σ H2 fun y H3=>∃ a H4,x = .ref a/\mZ H3 a y v H4/\D.nx σ H4
section
variable {X : Cx} {o i e value : Expr} {pos pos' tpos : Pos} {td ty tv : TE}
theorem ak9 (hu:X.A.units+1 < cLine) (hi:PE X i ty) (ho:PE X o td):PC X .NotIn i o (zD ty td):=by
 intro pins s σ H Q I h
 refine aQ (hi pins s σ H _ I h) fun iv s1 ⟨y,H1,I1,ry,q1⟩=>aQ (ho pins s1 σ H1 _ I1 q1) fun u s2 ⟨x,H2,I2,rx,a,ov,ex,g,q2⟩=>?_
 subst ex
 obtain rfl:u=Value.ref a:=rx
 exact ak5 hu I2 g ry fun s3 I3=>⟨.bl (!ov.isSome),H2,I3,rfl,q2⟩
theorem al0 (hu:X.A.units+1 < cLine) (ho:PE X o td) (hi:PE X i ty) (hv:PE X value tv) (hs:swapsWith value (some (.Subscript o i pos')) pos.line X.env=pure false) :
  PS X (.Assign [.Subscript o i pos'] value pos) (zE td ty tv):=by
 intro pins s σ H D I h
 refine wpAny_Assign_Subscript (aQ (hv pins s σ H _ I h) fun r s1 ⟨v,H1,I1,rv,q1⟩=>aQ (ho pins s1 σ H1 _ I1 q1) fun u s2 ⟨x,H2,I2,rx,q2⟩=>aQ (hi pins s2 σ H2 _ I2 q2) fun iv s3 ⟨y,H3,I3,ry,a,H4,ex,g,q3⟩=>?_) hs
 subst ex
 obtain rfl:u=Value.ref a:=rx
 exact ak7 hu I3 g ry rv fun s4 I4=>⟨σ,H4,I4,q3⟩
end
theorem al1 {P:Program}{w:World}{H:Hp} (h:Heap) (hb:sysModules < h.objs.size):bW P w H (h.push { cls:=.type "dict",data:=.dict #[] }) h.objs.size (.dT []):=
 ⟨bh0 _,beq_eq_false_iff_ne.mpr (Ne.symm (aZ0 hb)),[],.nil,_,#[],0,aX4 _ rfl,⟨rfl,rfl,rfl⟩,rfl,rfl,List.nodup_nil⟩
def zF:TE:=fun _ H Q=>∀ p,H p=none->Q (.ref p) (upd H p (.dT []))
section
variable {X : Cx} {pos : Pos}
theorem al2:PE X (.Dict [] [] pos) zF:=fun pins s σ H Q I h=>
 wpAny_Dict_empty ⟨.ref s.heap.objs.size,_,I.laid (a:=s.heap.objs.size) (o:=.dT []) (t':=s.toks) (fun _ _ q=>aV9 _ q) (aW8 _) (al1 s.heap I.big),rfl,h _ (I.hok.fresh (aW8 _))⟩
end
structure M1 (X:Cx) (o:Expr) (m:Str) (apos:Pos) (e:Expr) (cpos:Pos):Prop where
 base:attributeBase o m X.env (eval o X.env)=eval o X.env
 few:((backTo cpos (starEach [e] X.env)).all (fun x=>!x.1) && (backToKw cpos (keywordEach [] X.env)).all (fun x=>x.1.isSome)
  && decide (([e]:List Expr).length+([]:List Keyword).length+(if ([]:List Keyword).isEmpty then 0 else 1) < 30))=true
 line:(apos.endLine == cpos.line)=true
 trees:backTo cpos (starEach [e] X.env) = [(false,eval e X.env)]
structure M2 (X:Cx) (o:Expr) (m:Str) (apos:Pos) (e f:Expr) (cpos:Pos):Prop where
 base:attributeBase o m X.env (eval o X.env)=eval o X.env
 few:((backTo cpos (starEach [e,f] X.env)).all (fun x=>!x.1) && (backToKw cpos (keywordEach [] X.env)).all (fun x=>x.1.isSome)
  && decide (([e,f]:List Expr).length+([]:List Keyword).length+(if ([]:List Keyword).isEmpty then 0 else 1) < 30))=true
 line:(apos.endLine == cpos.line)=true
 trees:backTo cpos (starEach [e,f] X.env) = [(false,eval e X.env),(false,eval f X.env)]
def zG (H:Hp) (a:Addr):Prop:=(∃ kvs,Rd H a (.dK kvs)) ∨ ∃ kvs,Rd H a (.dT kvs)
theorem al3 {X:Cx}{pins:List (Addr × Obj)}{σ:St}{H:Hp}{s:Shared}{a:Addr} (I:a8 X pins σ H s) (d:zG H a) :
  s.TypeIs (.ref a) "dict"/\(∀ b,Value.ref a = .ref b->∃ ob,s.heap.get? b=some ob/\ob.dict=none)/\(a == sysModules)=false:=by
 rcases d with ⟨kvs,e⟩ | ⟨kvs,e⟩
 ·obtain ⟨_,hd,vs,_,dd⟩:=oW I.hok e
  refine⟨dd.typeIs,fun b q=>?_,hd⟩
  cases q
  obtain ⟨ob,_,_,h1,h2,_⟩:=dd
  exact⟨ob,h1,h2.2.1⟩
 ·obtain ⟨_,hd,xs,_,dd⟩:=tN I.hok e
  refine⟨dd.typeIs,fun b q=>?_,hd⟩
  cases q
  obtain ⟨ob,_,_,h1,h2,_⟩:=dd
  exact⟨ob,h1,h2.2.1⟩
end L2
namespace Att
open PySem PySem.W PySem.Calls PyProof.Rows
theorem al4 {P:Params}{h:Heap}:∀ (ns:List Int) (vs:List Value),WellAll P h vs (ns.map WData.int)->IntsAre vs ns:=by
 intro ns
 induction ns with
 | nil=>
  intro vs w
  rw [List.map_nil] at w
  cases w
  exact .nil
 | cons n ns ih=>
  intro vs w
  rw [bc2] at w
  cases w with
  | cons a b=>
   cases a
   exact .cons _ _ (ih _ b)
theorem zH {l:OpenLaw}{n:Nat} (hn:l.most=some n) {P:Params}{h:Heap}{args:List WData}{vals:List Value}
  (hpre:l.row.toRowW.claim.pre args=true) (hwl:WellAll P h vals args) :
  ∃ a vs ns,vals = [Value.ref a]/\args = [WData.list (ns.map WData.int)]/\h.get? a=some { cls:=.type "list",data:=.seq vs.toArray }/\IntsAre vs ns/\ns.length<=n:=by
 have hsh:WShape.hasAll [] args [.list .int]=true:=(pre_splitW hpre).1
 have hc:l.pre.holds [] { args:=args }=true:=(pre_splitW hpre).2
 obtain ⟨d,r,rfl,h1,h2⟩:=hasAllW_cons hsh
 obtain rfl:=hasAllW_nil h2
 obtain ⟨xs,rfl,h3⟩:=hasW_list h1
 obtain ⟨ns,rfl⟩:=items_int h3
 have hlen:ns.length<=n:=by
  unfold OpenLaw.pre at hc
  have h4:(WTm.not (.lt (.lit (.int (n:Int))) (.len (.arg 0)))).holds [] { args:=[.list (ns.map .int)] }=true:=by
   have h4:=(holds_andW hc).1
   rw [hn] at h4
   exact h4
  have h5:=condW_of h4 (w_not (w_lt w_lit (w_len_list (w_arg rfl))))
  rw [aW6] at h5
  refine Nat.le_of_not_lt fun q=>?_
  have q':(n:Int) < ((ns.length:Nat):Int):=by omega
  first
   | (rw [aX3 q'] at h5; exact absurd h5 (by decide))
   | (simp at h5; omega)
 cases hwl with
 | cons w1 w2=>
  cases w2
  cases w1 with
  | list ho hall=>exact⟨_,_,ns,rfl,rfl,ho,al4 ns _ hall,hlen⟩
theorem zI (l:OpenLaw) (args:List WData):l.row.toRowW.claim.post args (.bool true) args=true:=
 postW_of (r:=l.row.toRowW) (X:=(true == true))
  (show WShape.has [] (.bool true) .bool=true by first | rfl | decide | simp [WShape.has,WShape.arms,WShape.armsAll])
  (show (WTm.eq .res (.lit (.bool true))).value [] { args:=args,res:=some (.bool true),after:=args }=some (.bool (true == true)) from w_eq_bool (w_res rfl) w_lit) rfl
theorem aV5 {l:OpenLaw}{n:Nat}{q:Program}{loose:List Str}{XP:(Str->Option Value)->Heap->Prop}{YP:World->Heap->Prop}{d:DefRec}{x:Str}
  (hn:l.most=some n) (hdf:d.params.defaults = [])
  (hbind:∀ pm cd doc v:Value,bindArgs (docDef d.name d.params d.body d.scope pm cd doc) ⟨[v],[]⟩=pure [(x,v)])
  (hx:d.scope.names.lookup x=some .local ∨ d.scope.names.lookup x=some .cell)
  (hk:d.scope.kind = .function) (hco:d.scope.isCoroutine=false) (hgen:d.scope.isGenerator=false)
  (body:∀ (w:World) (s₀ s₁ s:Shared) (mg mb:Str->Option Value) (fa:Addr) (o:Obj) (pm cd doc:Value) (a:Addr) (vs:List Value) (ns:List Int),
   Ground q loose [] XP w s₀ mg mb s₁.heap->YP w s₁.heap->
   s₁.heap.get? fa=some o->o.data = .func (docDef d.name d.params d.body d.scope pm cd doc)->s₁.heap.CodeRec cd d.name->mg d.name=some (.ref fa)->
   s₁.heap.get? a=some { cls:=.type "list",data:=.seq vs.toArray }->IntsAre vs ns->ns.length<=n->
   s.gens = #[]->s.os=s₁.os->
   Fr s₁.heap s₁.heap.objs.size s.heap (bindL (envOfC d.name d.scope s₁.heap.objs.size fa cd).kindOf [(x,.ref a)] fun _=>none)->
   Cl s₁.heap.objs.size (cellsFrom (s₁.heap.objs.size+1) d.scope.names []) s.heap (bindC (envOfC d.name d.scope s₁.heap.objs.size fa cd).kindOf [(x,.ref a)] fun _=>none)->
   wpAny (model l.prog w) (callerA.deeper (envOfC d.name d.scope s₁.heap.objs.size fa cd)) (execs d.body (envOfC d.name d.scope s₁.heap.objs.size fa cd))
    (fun f s'=>f = .ret (.bool true)/\OldK s₁.heap s'.heap/\s'.os=s₁.os/\AllBare s'.gens) (fun _ _=>False) s) :
  WalkO q loose XP YP l.row.toRowW d [] (fun f vs=>PySem.call f vs):=by
 intro w s₀ s₁ mg mb G Y fa o pm cd doc dV kV ho hd hcd hD hmg hg args vals as hpre hlay hrd hwl hlo
 obtain rfl:dV = .none:=Dflts.none hD hdf
 obtain rfl:kV = .none:=Dflts.noKw hD
 obtain ⟨a,vs,ns,rfl,rfl,hobj,hints,hlen⟩:=zH hn hpre hwl
 refine enter_call ?_
 refine call_cells_ret (o:=o) (by rw [depth_caller]; decide) ho (fd_plain hd) G.T.nolimit hcd (hbind pm cd doc (.ref a)) (fun y hy=>?_) (fun h₁ tk F X=>?_) hco hgen hk
 ·obtain rfl:y=(x,Value.ref a):=aX6.mp hy
  rcases hx with e | e
  ·exact .inl e
  ·exact .inr ⟨e,cellsFrom_some _ _ _ (.inl e)⟩
 ·refine bf5 (body w s₀ s₁ { s₁ with heap:=h₁,toks:=tk } mg mb fa o pm cd doc a vs ns G Y ho (fd_plain hd) hcd hmg hobj hints hlen hg rfl F X) (fun f s' hq=>?_) (fun _ _ hq=>hq)
  obtain ⟨rfl,h2,h3,h4⟩:=hq
  exact⟨.inl ⟨.bool true,.bool true,[],rfl,fun _=>rfl,.bool true,zI l _,fun _=>⟨bh1,fun _ hm=>(nomatch hm)⟩⟩,h2,h3,h4⟩
theorem al5 {l:OpenLaw}{n:Nat}{q:Program}{loose:List Str}{XP:(Str->Option Value)->Heap->Prop}{YP:World->Heap->Prop}{d:DefRec}
  (hn:l.most=some n) (hdf:d.params.defaults = [])
  (call:∀ (w:World) (s₀ s₁:Shared) (mg mb:Str->Option Value) (fa:Addr) (o:Obj) (pm cd doc:Value) (a:Addr) (vs:List Value) (ns:List Int),
   Ground q loose [] XP w s₀ mg mb s₁.heap->YP w s₁.heap->
   s₁.heap.get? fa=some o->o.data = .func (docDef d.name d.params d.body d.scope pm cd doc)->s₁.heap.CodeRec cd d.name->mg d.name=some (.ref fa)->
   s₁.heap.get? a=some { cls:=.type "list",data:=.seq vs.toArray }->IntsAre vs ns->ns.length<=n->s₁.gens = #[]->
   codeAny (model l.prog w) callerA (.call (.ref fa) ⟨[.ref a],[]⟩) (fun r s'=>r = .ok (.ret (.bool true))/\OldK s₁.heap s'.heap/\s'.os=s₁.os/\AllBare s'.gens) s₁) :
  WalkO q loose XP YP l.row.toRowW d [] (fun f vs=>PySem.call f vs):=by
 intro w s₀ s₁ mg mb G Y fa o pm cd doc dV kV ho hd hcd hD hmg hg args vals as hpre hlay hrd hwl hlo
 obtain rfl:dV = .none:=Dflts.none hD hdf
 obtain rfl:kV = .none:=Dflts.noKw hD
 obtain ⟨a,vs,ns,rfl,rfl,hobj,hints,hlen⟩:=zH hn hpre hwl
 refine enter_call (codeAny_mono (call w s₀ s₁ mg mb fa o pm cd doc a vs ns G Y ho (fd_plain hd) hcd hmg hobj hints hlen hg) fun r s' hq=>?_)
 obtain ⟨rfl,h2,h3,h4⟩:=hq
 exact⟨.inl ⟨.bool true,.bool true,[],rfl,fun _=>rfl,.bool true,zI l _,fun _=>⟨bh1,fun _ hm=>(nomatch hm)⟩⟩,h2,h3,h4⟩
end Att
namespace L2
open PySem PySem.Spec PyProof.Rows
theorem zJ:∀ {vs:List Value}{ns:List Int},IntsAre vs ns->aI (ns.map V.int) vs
 | _,_,.nil=>.nil
 | _,_,.cons n t h=>.cons ⟨t,rfl⟩ (zJ h)
def oY (H:Hp):Prop:=∀ b,H b=none ∨ ∃ o xs,H b=some (.frz o (.lst xs))
theorem al6 {P:Program}{w:World}{K:PySem.W.Frag}{mg mb:Str->Option Value}{CX:fX}{k:Nat}{fa a:Addr}{fd:FuncData}{x:Str}{sp:Sp}{s₁:Shared}{vs:List Value}{ns:List Int}
  (KX:K.In s₁.heap) (hns:s₁.heap.Ns mainGlobals mg) (hb:s₁.heap.Ns builtinsNs mb) (hbb:∀ x:Str,x ≠ "__name__"->mb x=bootBuiltins x) (hlim:s₁.heap.NoLimit) (hg:s₁.gens = #[])
  (ha:s₁.heap.get? a=some { cls:=.type "list",data:=.seq vs.toArray }) (hi:IntsAre vs ns) (hl:ns.length<=sizeLine) (hr:bZ k callerA)
  (F:∀ base:Heap,K.In base->base.Ns mainGlobals mg->dC P w K mg base CX k fa fd [x] sp) (hbind:∀ (s:Shared) (u:Value),BindsTo s fd ⟨[u],[]⟩ [(x,u)])
  (hsp:∀ H:Hp,oY H->aN K H a (ns.map V.int)->sp [.ref a] H (fun v _=>v = .bl true) fun _ _ _=>False)
  (hCX:∀ H e s',CX [] H s₁ (fun _ _ _=>False) e s'->False) :
  codeAny (model P w) callerA (.call (.ref fa) ⟨[.ref a],[]⟩) (fun r s'=>r = .ok (.ret (.bool true))/\OldK s₁.heap s'.heap/\s'.os=s₁.os/\AllBare s'.gens) s₁:=by
 have rv:=zJ hi
 have lenV:=hi.length
 have core:∀ H:Hp,oY H->aN K H a (ns.map V.int)->bT P w H s₁.heap->(∀ b,H b ≠ none->b=a)->(H a ≠ none->K.lookup a=none)->
   codeAny (model P w) callerA (.call (.ref fa) ⟨[.ref a],[]⟩) (fun r s'=>r = .ok (.ret (.bool true))/\OldK s₁.heap s'.heap/\s'.os=s₁.os/\AllBare s'.gens) s₁:=by
  intro H hO hS hok hA hK
  have base_of:∀ {b:Addr}{o:Obj},s₁.heap.get? b=some o->H b=none->(iM s₁.heap H).get? b=some o:=fun e n=>ab1 e n
  have noA:∀ {b:Addr}{o:Obj}{es:Array DictEntry}{ep:Nat},s₁.heap.get? b=some o->o.data = .dict es ep->H b=none:=fun {b o es ep} e d=>by
   cases q:H b with
   | none=>rfl
   | some u=>
    have e':b=a:=hA b (by rw [q]; simp)
    subst e'
    rw [ha] at e; cases e
    have d':Data.seq vs.toArray _=Data.dict es ep:=d
    cases d'
  have nsK:∀ {b:Addr}{m:Str->Option Value},s₁.heap.Ns b m->(iM s₁.heap H).Ns b m:=fun {b m} ⟨o,es,ep,e,d,r⟩=>⟨o,es,ep,base_of e (noA e d),d,r⟩
  have hKb:K.In (iM s₁.heap H):=fun b o e=>base_of (KX b o e) (by
   cases q:H b with
   | none=>rfl
   | some u=>
    have e':b=a:=hA b (by rw [q]; simp)
    subst e'
    rw [hK (by rw [q]; simp)] at e; cases e)
  have hM:Mod K mg (iM s₁.heap H):=⟨hKb,nsK hns,⟨mb,nsK hb,hbb⟩,let ⟨mc,h1,h2⟩:=hlim; ⟨mc,nsK h1,h2⟩⟩
  have e0:oS P w K mg (iM s₁.heap H) callerA [] s₁ H:=⟨rfl,hM,fun b o e=>ab2 e,Nat.le_of_eq (ab0 _ _),trivial,fun b hb=>absurd (show b ∈ ([]:List Addr) from hb) (by simp),hok,.of_eq hg⟩
  refine codeAny_mono ((F _ hKb (nsK hns)).run callerA [] s₁ H ⟨[.ref a],[]⟩ [.ref a] [.ref a] _ _ hr e0 (hbind s₁ (.ref a)) (.cons rfl .nil) (hsp H hO hS)) fun r s' h=>?_
  cases r with
  | error e=>exact (hCX H e s' h).elim
  | ok fl=>
   cases fl with
   | next=>exact False.elim h
   | brk=>exact False.elim h
   | cont=>exact False.elim h
   | ret u=>
    obtain ⟨v,H',os,bare,un,hok',r',q⟩:=h
    have q':v = .bl true:=q
    subst q'
    obtain rfl:u=Value.bool true:=r'
    refine⟨rfl,OldK.of_keep fun b o e=>?_,os,bare⟩
    cases q:H b with
    | none=>exact un.keep b o e q (by intro z; exact absurd (show b ∈ ([]:List Addr) from z) (by simp)) (by simp)
    | some u=>
     rcases hO b with z | ⟨ob,xs,z⟩
     ·rw [q] at z; cases z
     ·have z2:=un.frzs b ob _ z
      obtain ⟨e1,_⟩:=hok b _ z
      obtain ⟨e2,_⟩:=hok' b _ z2
      rw [e] at e1; cases e1
      exact e2
 cases hk:K.lookup a with
 | some o=>
  have e:=KX a o hk
  rw [ha] at e
  cases e
  refine core (fun _=>none) (fun _=>.inl rfl) (.inr ⟨_,vs.toArray,_,hk,rfl,rfl,rfl,by rw [aW1,lenV]; exact hl,by simpa using rv⟩) (fun b u z=>by have z':(none:Option HO)=some u:=z; cases z') (fun b z=>absurd rfl z) fun z=>absurd rfl z
 | none=>
  refine core (fun b=>if b=a then some (.frz { cls:=.type "list",data:=.seq vs.toArray } (.lst (ns.map V.int))) else none) (fun b=>?_) (.inl (.inr ⟨{ cls:=.type "list",data:=.seq vs.toArray },if_pos rfl⟩)) (fun b u z=>?_) (fun b z=>?_) fun _=>hk
  ·by_cases hb:b=a
   ·exact .inr ⟨_,_,if_pos hb⟩
   ·exact .inl (if_neg hb)
  ·by_cases hb:b=a
   ·have z':=(if_pos hb).symm.trans z
    cases z'
    subst hb
    exact⟨ha,by rw [aW6]; exact hl,vs,_,rv,ha⟩
   ·have z':=(if_neg hb).symm.trans z
    cases z'
  ·by_cases hb:b=a
   ·exact hb
   ·exact absurd (if_neg hb) z
theorem al7 {l:PySem.W.OpenLaw}{n k:Nat}{q:Program}{loose:List Str}{XP:(Str->Option Value)->Heap->Prop}{YP:World->Heap->Prop}{d:DefRec}{K:Params->PySem.W.Frag}{CX:World->fX}{sp:World->Sp}{x:Str}
  (hn:l.most=some n) (hn2:n<=sizeLine) (hdf:d.params.defaults = []) (hr:bZ k callerA)
  (hY:∀ (w:World) (h:Heap),YP w h->(K w.params).In h)
  (F:∀ (w:World) (mg:Str->Option Value) (fa:Addr) (h:Heap),(K w.params).In h->h.Ns mainGlobals mg->mg d.name=some (.ref fa)->
   ∃ fd:FuncData,(∀ (s:Shared) (u:Value),BindsTo s fd ⟨[u],[]⟩ [(x,u)])/\
    ∀ base:Heap,(K w.params).In base->base.Ns mainGlobals mg->dC l.prog w (K w.params) mg base (CX w) k fa fd [x] (sp w))
  (hsp:∀ (w:World) (H:Hp) (a:Addr) (ns:List Int),ns.length<=n->oY H->aN (K w.params) H a (ns.map V.int)->sp w [.ref a] H (fun v _=>v = .bl true) fun _ _ _=>False)
  (hCX:∀ (w:World) (H:Hp) (s:Shared) (e:Value) (s':Shared),CX w [] H s (fun _ _ _=>False) e s'->False) :
  PySem.W.WalkO q loose XP YP l.row.toRowW d [] (fun f vs=>PySem.call f vs):=by
 refine Att.al5 hn hdf fun w s₀ s₁ mg mb fa o pm cd doc a vs ns G Y ho hd hcd hmg hobj hints hlen hg=>?_
 have KX:=hY w _ Y
 obtain ⟨fd,hb,hF⟩:=F w mg fa _ KX G.T.g hmg
 exact al6 KX G.T.g G.T.b G.T.builtins G.T.nolimit hg hobj hints (aZ7 hlen hn2) hr hF hb (fun H hO hS=>hsp w H a ns hlen hO hS) fun H e s'=>hCX w H s₁ e s'
def iU (s:Stmt):Arguments:=match s with
 | .FunctionDef _ a _ _ _ _ _ _ _ _=>a
 | _=>{ posonlyargs:=[],args:=[],vararg:=none,kwonlyargs:=[],kw_defaults:=[],kwarg:=none,defaults:=[] }
def dU (s:Stmt):List Stmt:=match s with
 | .FunctionDef _ _ b _ _ _ _ _ _ _=>b
 | _=>[]
def b6 (s:Stmt):Scope:=match s with
 | .FunctionDef _ _ _ _ _ _ sc _ _ _=>sc
 | _=>{ kind:=.function,names:=[],isGenerator:=false,isCoroutine:=false }
abbrev eG:fX:=fun _ _ _ _ _ _=>False
abbrev E0:XK:=fun _ _ _=>False
theorem al8 {X:Cx}:mX eG X E0:=fun _ _ _ _ _ _ _ h=>h.elim
structure fE (K:PySem.W.Frag) (x qual:Str) (st:Stmt) (f:Addr) (fd:FuncData):Prop where
 ex:∃ (oc:Value) (od:Option Addr) (kV doc pm:Value) (an:Option Addr) (cdv ct:Value) (osl:Array (Option Value)),
  fd=PySem.W.fnOf x qual (iU st) (dU st) (b6 st) .none kV doc pm an cdv ct/\K.lookup f=some ⟨oc,od,.func fd,osl⟩/\PySem.W.codeIn K cdv qual=true
 kp:PySem.W.keepIn K (.ref f)=true
section
variable {P : Program} {w : World} {K : PySem.W.Frag} {mg : Str → Option Value} {base : Heap}
theorem fE.ok {x qual:Str}{st:Stmt}{f:Addr}{fd:FuncData}{N ps:List Str}{k:Nat}{sp:Sp} (F:fE K x qual st f fd) (S:FnScope N ps (b6 st)) (len:∀ vs H Q E,sp vs H Q E->vs.length=ps.length)
  (hbody:∀ (cdv:Value) (A:Around) (outer:List Env) (s:Shared) (H:Hp) (vs:List V) (Q:VK) (E:XK),bZ k (A.deeper (envOfC qual (b6 st) s.heap.objs.size f cdv))->sp vs H Q E->
   ∃ t,dF (cV eG P w K mg base N qual (b6 st) f cdv A outer s H E).nox (dU st) t/\t { nx:=fun _ H'=>Q .non H',rt:=Q } (fY N vs) H):dC P w K mg base eG (k+1) f fd ps sp:=by
 obtain ⟨oc,od,kV,doc,pm,an,cdv,ct,osl,rfl,lk,hcd⟩:=F.ex
 refine yG lk hcd S len fun A outer s H vs Q E hr hsp=>?_
 obtain ⟨t,h,q⟩:=hbody cdv A outer s H vs Q E hr hsp
 exact⟨t,h.nox,q⟩
theorem fE.binds {x qual:Str}{st:Stmt}{f:Addr}{fd:FuncData}{ps:List Str} (F:fE K x qual st f fd)
  (h:∀ (kV doc pm:Value) (an:Option Addr) (cdv ct:Value) (us:List Value),us.length=ps.length->bindArgs (PySem.W.fnOf x qual (iU st) (dU st) (b6 st) .none kV doc pm an cdv ct) ⟨us,[]⟩=pure (ps.zip us)):iQ K fd ps []:=by
 obtain ⟨oc,od,kV,doc,pm,an,cdv,ct,osl,rfl,lk,hcd⟩:=F.ex
 exact .all (h kV doc pm an cdv ct)
theorem al9 {x qual:Str}{st:Stmt}{f:Addr}{oc:Value}{od an:Option Addr}{osl:Array (Option Value)}{kV doc pm cdv ct:Value} (l:K.lookup f=some ⟨oc,od,.func (PySem.W.fnOf x qual (iU st) (dU st) (b6 st) .none kV doc pm an cdv ct),osl⟩)
  (c:PySem.W.codeIn K cdv qual=true) (k:PySem.W.keepIn K (.ref f)=true):fE K x qual st f (PySem.W.fnOf x qual (iU st) (dU st) (b6 st) .none kV doc pm an cdv ct):=⟨⟨oc,od,kV,doc,pm,an,cdv,ct,osl,rfl,l,c⟩,k⟩
end
theorem nA {A:Around}{k:Nat} (hr:bZ k A):A.units+1 < cLine:=Nat.lt_of_le_of_lt (Nat.add_le_add_left (by decide:1<=64) _) hr.units
theorem am0 {n:Nat} (h:n<=1000):n < sizeLine:=Nat.lt_of_le_of_lt h (by decide)
section
variable {X : Cx}
theorem am1:cH X (.builtin "len") (fun xs H Q=>∃ a kvs,xs = [V.ref a]/\H a=some (.dK kvs)/\Q (.int kvs.length) H):=by
 intro pins s σ H xs us Q I r h
 obtain ⟨a,kvs,rfl,ha,q⟩:=h
 obtain ⟨u,rfl,ru⟩:=eQ r
 cases ru
 exact ak8 I (.inl ha) fun t s' I'=>⟨.int kvs.length,H,I',⟨t,rfl⟩,q⟩
end
theorem aY {A B:Prop} (h:B):if false=true then A else B:=by
 rw [if_neg aY3]
 exact h
theorem b7 {A B:Prop} (h:A):if true=true then A else B:=by
 rw [if_pos rfl]
 exact h
def aD (H H':Hp):Prop:=∀ b o,H b=some o->H' b=some o
theorem aD.refl (H:Hp):aD H H:=fun _ _ h=>h
theorem aD.trans {H H1 H2:Hp} (a:aD H H1) (b:aD H1 H2):aD H H2:=fun c o h=>b c o (a c o h)
theorem aD.free {H H':Hp} (e:aD H H') {l:Addr} (h:H' l=Option.none):H l=Option.none:=by
 cases q:H l with
 | none=>rfl
 | some o=>
  rw [e l o q] at h
  cases h
def dQ (cells:List (Str × Addr)):List (Str × NameKind)->List (Str × Addr)->List (Str × Addr)
 | [],cs=>cs
 | (n,k) :: r,cs=>dQ cells r (if k == .free then (n,(cells.lookup n).getD 0) :: cs else cs)
theorem tP {env:Env}:∀ (ns:List (Str × NameKind)) (cs:List (Str × Addr)),(∀ x ∈ ns,x.2 = .free->∃ c,env.cells.lookup x.1=some c)->
  (forIn ns cs (fun (x:Str × NameKind) r=>(match x with
   | (name,kind)=>if (kind == .free)=true then (do let y <- cellOf env name; pure (ForInStep.yield ((name,y) :: r))) else pure (ForInStep.yield r)):_->_->Sem _))=(pure (dQ env.cells ns cs):Sem (List (Str × Addr)))
 | [],cs,_=>by rw [List.forIn_nil]; rfl
 | (n,k) :: r,cs,h=>by
  rw [List.forIn_cons]
  have hr:∀ x ∈ r,x.2 = .free->∃ c,env.cells.lookup x.1=some c:=fun x hx=>h x (aW7 _ hx)
  cases hk:(k == NameKind.free) with
  | true=>
   have e:k = .free:=by simpa using hk
   obtain ⟨c,hc⟩:=h (n,k) aX5 e
   simp only [hk,if_true]
   have e1:cellOf env n=pure c:=by unfold cellOf; rw [hc]
   rw [e1]
   show ((pure c >>= fun y=>pure (ForInStep.yield ((n,y) :: cs))) >>= _:Sem _)=_
   rw [pure_bind,pure_bind]
   have:=tP (env:=env) r ((n,c) :: cs) hr
   refine this.trans ?_
   unfold dQ
   simp only [hk,if_true,hc,Option.getD_some]
   cases r <;> rfl
  | false=>
   simp only [hk,aY8,be6]
   rw [pure_bind]
   have:=tP (env:=env) r cs hr
   refine this.trans ?_
   conv=>rhs; unfold dQ
   simp only [hk,aY8,be6]
theorem am2 {scope:Scope}{env:Env} (h:∀ x ∈ scope.names,x.2 = .free->∃ c,env.cells.lookup x.1=some c):closureFor scope env=pure (dQ env.cells scope.names []):=by
 have e:=tP (env:=env) scope.names [] h
 unfold closureFor
 rw [show (pure (dQ env.cells scope.names []):Sem (List (Str × Addr)))=(pure (dQ env.cells scope.names []) >>= pure) by rw [pure_bind]]
 rw [<- e]
theorem oZ {cells:List (Str × Addr)}:∀ (ns:List (Str × NameKind)) (cs:List (Str × Addr)) {x:Str}{c:Addr},(∀ y ∈ ns,y.2 = .free->∃ c,cells.lookup y.1=some c)->
  (∀ x c,cs.lookup x=some c->cells.lookup x=some c)->(dQ cells ns cs).lookup x=some c->cells.lookup x=some c
 | [],cs,x,c,_,hc,h=>hc x c h
 | (n,k) :: r,cs,x,c,hn,hc,h=>by
  unfold dQ at h
  have hr:∀ y ∈ r,y.2 = .free->∃ c,cells.lookup y.1=some c:=fun y hy=>hn y (aW7 _ hy)
  cases hk:(k == NameKind.free) with
  | false=>
   simp only [hk,aY8,be6] at h
   exact oZ r cs hr hc h
  | true=>
   simp only [hk,if_true] at h
   refine oZ r _ hr (fun y d e=>?_) h
   obtain ⟨c0,h0⟩:=hn (n,k) aX5 (by simpa using hk)
   have h0:cells.lookup n=some c0:=h0
   rw [h0] at e
   rw [bc8] at e
   by_cases hyn:y=n
   ·subst hyn
    simp only [bb5,Option.getD_some] at e
    rw [h0]; exact e
   ·have:(y == n)=false:=beq_eq_false_iff_ne.mpr hyn
    simp only [this] at e
    exact hc y d e
theorem tQ {cells:List (Str × Addr)}:∀ (ns:List (Str × NameKind)) (cs:List (Str × Addr)) {x:Str},((x,NameKind.free) ∈ ns ∨ ∃ c,cs.lookup x=some c)->∃ c,(dQ cells ns cs).lookup x=some c
 | [],cs,x,h=>by
  rcases h with h | h
  ·simp at h
  ·exact h
 | (n,k) :: r,cs,x,h=>by
  unfold dQ
  refine tQ r _ ?_
  rcases h with h | ⟨c,h⟩
  ·rcases aW3.mp h with e | e
   ·cases e
    exact .inr ⟨_,by simp [bc8]; rfl⟩
   ·exact .inl e
  ·right
   cases hk:(k == NameKind.free) with
   | false=>exact⟨c,by simpa [hk] using h⟩
   | true=>
    simp only [if_true]
    rw [bc8]
    by_cases hxn:(x == n)=true
    ·simp only [hxn]; exact⟨_,rfl⟩
    ·simp only [Bool.eq_false_iff.mpr hxn]; exact⟨c,h⟩
theorem p5 {env:Env}:∀ {names:List (Str × NameKind)}{x:Str}{k:NameKind},(names.map fun (n,k)=>if (k == NameKind.free && env.scope.kind == .function && env.kindOf n == some .cell) then (n,NameKind.cell) else (n,k)).lookup x=some k->
  names.lookup x=some k ∨ (names.lookup x=some .free/\k = .cell)
 | [],_,_,h=>by simp at h
 | (n,q) :: r,x,k,h=>by
  have ih:=@p5 env r x k
  rw [bc2] at h
  by_cases hx:(x == n)=true
  ·have e:x=n:=by simpa using hx
   subst e
   by_cases hc:(q == NameKind.free && env.scope.kind == .function && env.kindOf x == some .cell)=true
   ·simp only [hc,if_true,bc8,bb5] at h
    have hq:q = .free:=by simp at hc; exact hc.1.1
    exact .inr ⟨by simp [bc8,hq],(aY5 h).symm⟩
   ·simp only [hc,aY8,be6,bc8,bb5] at h
    exact .inl (by simp [bc8]; exact aY5 h)
  ·have hx':(x == n)=false:=Bool.eq_false_iff.mpr hx
   have h':(r.map fun (n,k)=>if (k == NameKind.free && env.scope.kind == .function && env.kindOf n == some .cell) then (n,NameKind.cell) else (n,k)).lookup x=some k:=by
    by_cases hc:(q == NameKind.free && env.scope.kind == .function && env.kindOf n == some .cell)=true
    ·simp only [hc,if_true,bc8,hx'] at h; exact h
    ·simp only [hc,aY8,be6,bc8,hx'] at h; exact h
   simp only [bc8,hx']
   exact ih h'
def fF (fr:List (Option Nat)) (σ:St):St:=fr.map fun o=>o.bind fun j=>(σ[j]?).join
def Wk (σ₁ σ₂:St):Prop:=σ₁.length=σ₂.length/\∀ (i:Nat) v,σ₁[i]? = some (some v)->σ₂[i]? = some (some v)
theorem iV:∀ (ns:List (Str × NameKind)) (n:Nat) (cs:List (Str × Addr)),cellsFrom n ns cs=cellsFrom n ns [] ++ cs
 | [],_,_=>rfl
 | (x,k) :: r,n,cs=>by
  unfold cellsFrom
  split
  ·rw [iV r (n+1) ((x,n) :: cs),iV r (n+1) [(x,n)]]; simp
  ·exact iV r n cs
theorem tR:∀ (ns:List (Str × NameKind)) (n:Nat) {x:Str}{c:Addr},(x,c) ∈ cellsFrom n ns []->(x,NameKind.cell) ∈ ns
 | [],_,_,_,h=>by simp [cellsFrom] at h
 | (y,k) :: r,n,x,c,h=>by
  unfold cellsFrom at h
  split at h
  ·rename_i hk
   rw [iV] at h
   rcases bb6.mp h with z | z
   ·exact aW7 _ (tR r _ z)
   ·rw [aX6] at z
    cases z
    have:k = .cell:=by simpa using hk
    rw [this]; exact aX5
  ·exact aW7 _ (tR r _ h)
theorem p6:∀ (ns:List (Str × NameKind)) (n:Nat) {x:Str},(x,NameKind.cell) ∈ ns->∃ c,(x,c) ∈ cellsFrom n ns []
 | (y,k) :: r,n,x,h=>by
  unfold cellsFrom
  rcases aW3.mp h with z | z
  ·cases z
   rw [if_pos (by rfl),iV]
   exact⟨n,aZ4 _ (by simp)⟩
  ·split
   ·obtain ⟨c,hc⟩:=p6 r (n+1) z
    rw [iV]
    exact⟨c,be5 _ hc⟩
   ·exact p6 r n z
theorem tS {α:Type}:∀ {l:List (Str × α)}{x:Str}{c:α},(x,c) ∈ l->∃ d,l.lookup x=some d
 | (y,v) :: r,x,c,h=>by
  rw [bc8]
  cases hb:x == y with
  | true=>exact⟨v,rfl⟩
  | false=>
   rcases aW3.mp h with z | z
   ·cases z; simp at hb
   ·exact tS z
theorem p9 {α:Type}{x:Str}:∀ (l r:List (Str × α)),(l ++ r).lookup x=(match l.lookup x with | some v=>some v | none=>r.lookup x)
 | [],_=>rfl
 | (y,v) :: l,r=>by
  rw [List.cons_append,bc8,bc8]
  cases hb:x == y with
  | true=>rfl
  | false=>exact p9 l r
def g9 (X:Cx) (scope:Scope) (C:Addr):List (Str × Addr):=cellsFrom (C+1) scope.names (dQ X.env.cells scope.names [])
theorem kC {X:Cx}{scope:Scope}{C:Addr}{x:Str}{c:Addr} (h:(g9 X scope C).lookup x=some c) :
  (x,c) ∈ cellsFrom (C+1) scope.names [] ∨ ((∀ d,(x,d) ∉ cellsFrom (C+1) scope.names [])/\(dQ X.env.cells scope.names []).lookup x=some c):=by
 unfold g9 at h
 rw [iV,p9] at h
 cases e:(cellsFrom (C+1) scope.names []).lookup x with
 | some v=>rw [e] at h; cases h; exact .inl (bb2 e)
 | none=>
  rw [e] at h
  refine .inr ⟨fun d hd=>?_,h⟩
  obtain ⟨d',z⟩:=tS hd
  rw [e] at z; cases z
theorem am3 {X:Cx}{scope:Scope}{C:Addr}{x:Str}{c:Addr} (hn:(x,NameKind.cell) ∉ scope.names) (h:(dQ X.env.cells scope.names []).lookup x=some c):(g9 X scope C).lookup x=some c:=by
 unfold g9
 rw [iV,p9]
 cases e:(cellsFrom (C+1) scope.names []).lookup x with
 | some v=>exact absurd (tR _ _ (bb2 e)) hn
 | none=>exact h
theorem zK {X:Cx}{scope:Scope}{C:Addr}{x:Str} (h:(x,NameKind.cell) ∈ scope.names ∨ ∃ c,(dQ X.env.cells scope.names []).lookup x=some c):∃ c,(g9 X scope C).lookup x=some c:=by
 unfold g9
 rw [iV,p9]
 cases e:(cellsFrom (C+1) scope.names []).lookup x with
 | some v=>exact⟨v,rfl⟩
 | none=>
  rcases h with h | h
  ·obtain ⟨c,hc⟩:=p6 scope.names (C+1) h
   obtain ⟨d,hd⟩:=tS hc
   rw [e] at hd; cases hd
  ·exact h
def cQ (X:Cx) (scope:Scope) (N:List Str) (s:Shared) (H:Hp) (C:Addr) (fp:List Addr) (E:Value->Shared->Prop):Cx:=
 { X with N:=N,s₀:=s,H₀:=H,env:=compEnvC scope (g9 X scope C) C X.env,outer:=X.stack,ex:=fp,fn:=fun x=>scope.names.lookup x == some .cell,pn:=[],xe:=E }
structure gS (X:Cx) (scope:Scope) (N:List Str) (fr:List (Option Nat)):Prop where
 kind:scope.kind = .function
 own:∀ y ∈ scope.names,y.2 = .cell->scope.names.lookup y.1=some .cell
 names:∀ y ∈ scope.names,y.2 = .local->scope.names.lookup y.1=some .local
 free:∀ y ∈ scope.names,y.2 = .free->X.env.scope.names.lookup y.1=some .cell ∨ X.env.scope.names.lookup y.1=some .free
 len:fr.length=N.length
 from_:∀ (i j:Nat),fr[i]? = some (some j)->∃ x,N[i]? = some x/\X.N[j]? = some x/\scope.names.lookup x=some .free
section
variable {X : Cx} {pins : List (Addr × Obj)} {σ : St} {H : Hp} {s : Shared} {scope : Scope} {N : List Str} {fr : List (Option Nat)}
theorem gS.cells (S:gS X scope N fr) (I:a8 X pins σ H s):∀ y ∈ scope.names,y.2 = .free->∃ c,X.env.cells.lookup y.1=some c:=fun y hy hk=>I.ok.has y.1 (S.free y hy hk)
theorem am4 {C D:Addr}{fp:List Addr}{E:Value->Shared->Prop}{h1:Heap}{tk:Nat}{m:Str->Option Value} (S:gS X scope N fr) (I:a8 X pins σ H s)
  (hf:∀ b ∈ fp,fB X pins H b) (hfl:∀ b ∈ fp,b < s.heap.objs.size) (hD:s.heap.objs.size<=D) (hC:s.heap.objs.size<=C) (hDC:D < C)
  (old:∀ b o,s.heap.get? b=some o->h1.get? b=some o) (hns:h1.Ns C m) (hacc:h1.get? D=some { cls:=.type "list",data:=.seq #[] 0 }) (hco:CellsOk h1 (C+1) (cellsFrom (C+1) scope.names [])) :
  a8 (cQ X scope N s H C fp E) [] (fF fr σ) (upd H D (.lst [])) { s with heap:=h1,toks:=tk }:=by
 have hHD:H D=none:=I.hok.fresh hD
 have cl:=S.cells I
 have cs:∀ {x:Str}{c:Addr},(dQ X.env.cells scope.names []).lookup x=some c->X.env.cells.lookup x=some c:=fun {x c} h=>oZ scope.names [] cl (fun _ _ z=>by simp at z) h
 have clt:∀ {x:Str}{c:Addr},X.env.cells.lookup x=some c->c < s.heap.objs.size:=fun {x c} h=>by obtain ⟨v,z⟩:=I.cell x c h; exact z.lt
 have nge:∀ {x:Str}{c:Addr},(x,c) ∈ cellsFrom (C+1) scope.names []->C < c:=fun {x c} h=>(hco.empty x c h).2
 refine⟨⟨I.ok.mod,?_,I.ok.glob,I.ok.blt,hC,?_,?_,?_,I.ok.hd,I.ok.frames,.inl rfl,?_,I.bs,aZ7 I.ok.bsz I.sz,?_,?_,I.stack,I.stkFree⟩,rfl,I.bare,Un.laid old hD hHD,⟨m,hns,?_⟩,?_,?_,?_,fun p hp=>absurd (show p ∈ ([]:List (Addr × Obj)) from hp) (by simp),?_,?_⟩
 ·exact S.kind
 ·intro x y c h1 h2
  rcases kC h1 with a | ⟨_,a⟩ <;> rcases kC h2 with b | ⟨_,b⟩
  ·exact name_of_addr hco.apart a b
  ·exact absurd (aY0 (Nat.lt_trans (nge a) (clt (cs b))) hC) (bf2 _)
  ·exact absurd (aY0 (Nat.lt_trans (nge b) (clt (cs a))) hC) (bf2 _)
  ·exact I.ok.inj x y c (cs a) (cs b)
 ·intro x hx
  have hx:(relabel scope X.env).names.lookup x=some .cell ∨ (relabel scope X.env).names.lookup x=some .free:=hx
  have fin:(x,NameKind.free) ∈ scope.names->∃ c,(g9 X scope C).lookup x=some c:=fun z=>zK (.inr (tQ scope.names [] (.inl z)))
  rcases hx with hx | hx
  ·rcases p5 hx with z | z
   ·exact zK (.inl (bb2 z))
   ·exact fin (bb2 z.1)
  ·rcases p5 hx with z | z
   ·exact fin (bb2 z)
   ·exact absurd z.2 (by decide)
 ·intro x c hx h
  have hx:(scope.names.lookup x == some NameKind.cell)=true:=hx
  have hx:scope.names.lookup x=some .cell:=by simpa using hx
  rcases kC h with a | ⟨a,_⟩
  ·exact aZ7 hC (bi1 (nge a))
  ·obtain ⟨d,hd⟩:=p6 scope.names (C+1) (bb2 hx)
   exact absurd hd (a d)
 ·intro b hb
  refine⟨aZ0 (aY0 (hfl b hb) hC),fun x c e=>?_⟩
  rcases kC e with a | ⟨_,a⟩
  ·exact bg3 (Nat.lt_trans (aY0 (hfl b hb) hC) (nge a))
  ·exact (hf b hb).2.2.2.2.1 x c (cs a)
 ·intro b o e hb
  rcases (hf b hb).2.2.2.1 with z | z
  ·exact I.ok.noex b o e z
  ·exact absurd (aY0 (aX1 e) (aZ7 I.ok.bsz z)) (bf2 _)
 ·intro b hb z
  rcases aW3.mp (I.stkSub b z) with e | e
  ·exact (hf b hb).2.1 e
  ·exact (hf b hb).2.2.1 e
 ·intro i x v e1 e2 e3
  have e2:(fr.map fun o=>o.bind fun j=>(σ[j]?).join)[i]? = some (some v):=e2
  rw [aY1] at e2
  cases ef:fr[i]? with
  | none=>rw [ef] at e2; cases e2
  | some o=>
   rw [ef] at e2
   cases o with
   | none=>cases e2
   | some j=>
    have e2:some ((σ[j]?).join)=some (some v):=e2
    have ej:σ[j]? = some (some v):=by
     cases q:σ[j]? with
     | none=>rw [q] at e2; cases e2
     | some w=>rw [q] at e2; cases w with
      | none=>cases e2
      | some w=>cases e2; rfl
    obtain ⟨y,a1,a2,a4⟩:=S.from_ i j ef
    have e1:N[i]? = some x:=e1
    rw [e1] at a1
    cases a1
    have a3:(x,NameKind.free) ∈ scope.names:=bb2 a4
    have vis:i7 X.env.scope x:=(S.free _ a3 rfl).elim (fun z=>.inr (.inl z)) fun z=>.inr (.inr z)
    obtain ⟨m0,hn0,hl0⟩:=I.loc
    obtain ⟨u,r,l⟩:=hl0 j x v a2 ej vis
    refine⟨u,r,.inr ⟨?_,?_⟩⟩
    ·have e3:(relabel scope X.env).names.lookup x=some .local ∨ (relabel scope X.env).names.lookup x=some .cell ∨ (relabel scope X.env).names.lookup x=some .free:=e3
     rcases e3 with z | z | z
     ·rcases p5 z with y | y
      ·rw [a4] at y; cases y
      ·exact absurd y.2 (by decide)
     ·exact .inl z
     ·exact .inr z
    ·obtain ⟨c,hc⟩:=tQ (cells:=X.env.cells) scope.names [] (x:=x) (.inl a3)
     refine⟨c,am3 (fun z=>by have:=S.own _ z rfl; rw [a4] at this; cases this) hc,?_⟩
     have hc':=cs hc
     have S1:=S.free (x,.free) a3 rfl
     rcases l with ⟨k,_⟩ | ⟨_,c2,hc2,z⟩
     ·have k:X.env.scope.names.lookup x=some .local:=k
      rcases S1 with q | q <;> (have q:X.env.scope.names.lookup x=_:=q; rw [k] at q; cases q)
     ·rw [hc'] at hc2; cases hc2
      obtain ⟨oc,ho,hd⟩:=z
      exact⟨oc,old c oc ho,hd⟩
 ·intro x c e
  rcases kC e with a | ⟨_,a⟩
  ·exact⟨_,(hco.empty x c a).1⟩
  ·obtain ⟨v,oc,ho,hd⟩:=I.cell x c (cs a)
   exact⟨v,oc,old c oc ho,hd⟩
 ·show upd H D (.lst []) C=none
  rw [aX (bg3 hDC)]; exact I.hok.fresh hC
 ·intro x c e
  show upd H D (.lst []) c=none
  rcases kC e with a | ⟨_,a⟩
  ·rw [aX (bg3 (Nat.lt_trans hDC (nge a)))]; exact I.hok.fresh (aZ7 hC (bi1 (nge a)))
  ·have q:=cs a
   rw [aX (aZ0 (aY0 (clt q) hD))]
   exact I.freeC x c q
 ·exact I.hok.laid old hD ⟨bh0 _,[],0,.nil,hacc⟩
 ·show (fF fr σ).length=N.length
  unfold fF; rw [aW6]; exact S.len
end
def lG (X:Cx) (ifs:List Expr) (t:TT):Prop:=
 ∀ (pins:List (Addr × Obj)) (s:Shared) (σ:St) (H:Hp) (Q:Bool->Hp->Prop),a8 X pins σ H s->t σ H Q->
  wpAny (model X.prog X.w) X.A (forIn ifs true fun c r=>if r=true then do let ok <- isTrue c X.env (eval c X.env); pure (ForInStep.yield ok) else pure (ForInStep.yield r)) (TP X pins σ Q) X.xe s
def zL:TT:=fun _ H Q=>Q true H
theorem am5 {X:Cx}:lG X [] zL:=fun _ _ _ H _ I h=>wpAny_tests_nil ⟨H,I,h⟩
section
variable {prog : Program} {w : World} {A : Around}
def tT (prog:Program) (w:World) (A:Around) (elt tg:Expr) (ifs:List Expr) (it acc:Value) (env:Env) (lost:Value->Shared->Prop) (stop next:Shared->Prop) (s:Shared):Prop:=
 let M:=model prog w
 let tests:Sem Bool:=forIn ifs true fun c r=>if r=true then do let ok <- isTrue c env (eval c env); pure (ForInStep.yield ok) else pure (ForInStep.yield r)
 let put:Shared->Prop:=wpAny M A (eval elt env) (fun x=>wpAny M A (call (.builtin "list.append") [acc,x]) (fun _=>next) lost) lost
 let taken:Value->Shared->Prop:=fun v=>wpAny M A (letOwnedTupleGo tg it v) (fun _=>wpAny M A (assign tg env v) (fun _=>wpAny M A tests (fun ok s'=>if ok=true then put s' else next s') lost) lost) lost
 wpAny M A (pyNext it) (fun r s'=>match r with
  | none=>stop s'
  | some v=>taken v s') lost s
theorem am6 {R:Result->Shared->Prop}{s:Shared}{elt tg iter:Expr}{ifs:List Expr}{scope:Scope}{pos:Pos}{it acc:Value}{env:Env} (I:Nat->Shared->Prop)
  (turn:∀ n s,I n s->tT prog w A elt tg ifs it acc env (notedBy (model prog w) A env fun e=>R (.error e)) (R (.ok .next)) (fun s'=>∃ m,m < n/\I m s') s) (n:Nat) (h:I n s) :
  codeAny (model prog w) A (.compLoop (.ListComp elt [⟨tg,iter,ifs,0⟩] scope pos) 0 it acc env) R s:=by
 apply codeAny_loop rfl I _ n h
 intro k s1 h1
 change wpAny _ A ((compTurn _ 0 it acc env).onRaise (fun x=>do noteFrame x env; theTreesLotGoes x)) _ _ s1
 apply wpAny_noted
 rw [compTurn_list]
 have t:=turn k s1 h1
 unfold tT at t
 apply aV7
 apply wpAny_standAt
 apply aV7
 refine bf5 t (fun r s2 h2=>?_) fun _ _ z=>z
 cases r with
 | none=>exact aW2 h2
 | some v=>
  apply aV7
  refine bf5 h2 (fun _ s3 h3=>?_) fun _ _ z=>z
  apply aV7
  refine bf5 h3 (fun _ s4 h4=>?_) fun _ _ z=>z
  apply aV7
  refine bf5 h4 (fun ok s5 h5=>?_) fun _ _ z=>z
  cases ok with
  | false=>exact aW2 ⟨rfl,h5⟩
  | true=>
   apply aV7
   apply aV7
   refine bf5 h5 (fun x s6 h6=>?_) fun _ _ z=>z
   apply aV7
   exact bf5 h6 (fun _ s7 h7=>aW2 (aW2 ⟨rfl,h7⟩)) fun _ _ z=>z
end
def zM (g:TG) (tc:TT) (te:TE) (σ0:St) (J:It) (D:Addr) (Q:VK) (W:Nat->Nat->List V->Hp->Prop):Prop:=
 ∀ i m acc H',W i m acc H'->H' D=some (.lst acc)/\((J.stop i H'/\Q (.ref D) H') ∨ (J.go i H'/\∀ x H2,J.yld i H' x H2->g x σ0 H2 fun σ2 H3=>Wk σ0 σ2/\tc σ2 H3 fun b H4=>
  if b=true then te σ2 H4 fun v H5=>H5 D=some (.lst acc)/\acc.length < sizeLine/\∃ m',m' < m/\W (i+1) m' (acc ++ [v]) (upd H5 D (.lst (acc ++ [v]))) else ∃ m',m' < m/\W (i+1) m' acc H4))
section
variable {M : Model} {A : Around} {E : Value → Shared → Prop} {s : Shared}
theorem am7 {scope:Scope}{globals:Addr}{cl:List (Str × Addr)}{qual:Str}{func:Option Addr}{code:Value}{builtins:Addr}{outer:Env}{Q:Env->Shared->Prop}
  (hQ:∀ h',h'.Ns s.heap.objs.size (fun _=>none)->(∀ b o,s.heap.get? b=some o->h'.get? b=some o)->CellsOk h' (s.heap.objs.size+1) (cellsFrom (s.heap.objs.size+1) scope.names [])->
   Q (newEnv scope s.heap.objs.size globals (cellsFrom (s.heap.objs.size+1) scope.names cl) qual func code (some outer) builtins) { s with heap:=h' }) :
  wpAny M A (newFunctionEnv scope globals cl [] qual func code (some outer) builtins) Q E s:=by
 simp only [newFunctionEnv,Option.isSome_some,if_true]
 refine aV7 (wpAny_alloc ?_)
 refine aV7 (wpAny_layCells _ (fun name kind cells=>by cases hkc:kind == NameKind.cell <;> simp [hkc]) _ _ _ _ ?_)
 have ok:=cellsFrom_ok scope.names (s.heap.push { cls:=.type "dict",data:=.dict #[] }) (s.heap.objs.size+1) [] ⟨fun _ _ hm=>(nomatch hm),bh1⟩ (by rw [be0]; exact aW8 _)
 rw [be0] at ok
 rw [show ({ s with heap:=s.heap.push { cls:=.type "dict",data:=.dict #[] } }:Shared).heap.objs.size=s.heap.objs.size+1 from be0 ..]
 rw [List.forIn_nil]
 refine aV7 (aW2 (aW2 (hQ _ ((Heap.Ns.new s.heap (.type "dict")).keeps (pushCells_keeps _ _)) (fun b o e=>pushCells_keeps _ _ b o (aV9 _ e)) ok)))
end
section
variable {X : Cx} {pins : List (Addr × Obj)} {σ : St} {H : Hp} {s : Shared} {scope : Scope} {N : List Str} {fr : List (Option Nat)} {tg iter elt : Expr} {ifs : List Expr} {pos : Pos} {wi : TI} {g : TG} {tc : TT} {te : TE}
structure pA (X:Cx) (scope:Scope) (N:List Str) (tg:Expr) (ifs:List Expr) (elt:Expr) (s:Shared) (H:Hp) (g:TG) (tc:TT) (te:TE):Prop where
 tg:∀ (C:Addr) (fp:List Addr),PG (cQ X scope N s H C fp fun _ _=>False) tg g
 ifs:∀ (C:Addr) (fp:List Addr),lG (cQ X scope N s H C fp fun _ _=>False) ifs tc
 elt:∀ (C:Addr) (fp:List Addr),PE (cQ X scope N s H C fp fun _ _=>False) elt te
theorem am8 {C:Addr}{fp:List Addr}{E:Value->Shared->Prop}{pins':List (Addr × Obj)}{σ':St}{H':Hp}{s':Shared} (I:a8 X pins σ H s) (hf:∀ b ∈ fp,fB X pins H b) (I':a8 (cQ X scope N s H C fp E) pins' σ' H' s'):a8 X pins σ H' s':=
 I.call' (ch:=fp) I'.os I'.base I'.hok I'.bare fun b hb=>⟨(hf b hb).2.2.2.1,(hf b hb).2.1,(hf b hb).2.2.2.2.1,(hf b hb).2.2.2.2.2⟩
theorem am9 {Rr:Value->Addr->Result->Shared->Prop}{J:It}{fp:List Addr}{it:Addr}{tn:Nat->Heap->Prop}{Q:VK}
  (hc:X.calm=true) (S:gS X scope N fr) (B:pA X scope N tg ifs elt s H g tc te) (I:a8 X pins σ H s) (T:i8 X.prog X.w X.K tg J fp it tn) (hst:tn 0 s.heap) (hf:∀ b ∈ fp,fB X pins H b)
  (h:∀ D,H D=none->∃ W:Nat->Nat->List V->Hp->Prop,(∃ m,W 0 m [] (upd H D (.lst [])))/\zM g tc te (fF fr σ) J D Q W)
  (hend:∀ (D C:Addr) (s':Shared) (H':Hp) (m:Str->Option Value),s.heap.objs.size<=C->s.heap.objs.size<=D->a8 X pins σ H' s'->s'.heap.Ns C m->H' C=none->Q (.ref D) H'->Rr (.ref D) C (.ok .next) s') :
  wpAny (model X.prog X.w) X.A (newList []) (fun acc s₃=>wpAny (model X.prog X.w) X.A (newFunctionEnv scope X.env.globals (dQ X.env.cells scope.names []) [] X.env.qual none .none (some X.env)) (fun cenv s₄=>
   codeAny (model X.prog X.w) X.A (.compStart (.ListComp elt [⟨tg,iter,ifs,0⟩] scope pos) 0 (.ref it) acc { cenv with scope:=relabel scope X.env }) (Rr acc cenv.locals) s₄) X.xe s₃) X.xe s:=by
 refine ba2 (am7 (fun h₁ hns₁ keep₁ hco₁=>?_))
 dsimp only at hns₁ keep₁ hco₁ ⊢
 generalize hH2:s.heap.push { cls:=.type "list",dict:=none,data:=.seq ([]:List Value).toArray }=H2 at hns₁ keep₁ hco₁ ⊢
 have hC:H2.objs.size=s.heap.objs.size+1:=by rw [<- hH2,be0]
 have hDC:s.heap.objs.size < H2.objs.size:=by rw [hC]; exact Nat.lt_succ_self _
 have hCle:s.heap.objs.size<=H2.objs.size:=by rw [hC]; exact Nat.le_succ _
 have old:∀ b o,s.heap.get? b=some o->h₁.get? b=some o:=fun b o e=>keep₁ b o (hH2 ▸ aV9 _ e)
 have hacc:h₁.get? s.heap.objs.size=some { cls:=.type "list",data:=.seq #[] 0 }:=keep₁ _ _ (hH2 ▸ aX4 _ rfl)
 have hfl:∀ b ∈ fp,b < s.heap.objs.size:=fun b hb=>by obtain ⟨o,e,_⟩:=T.obj _ _ hst b hb; exact aX1 e
 obtain ⟨W,⟨m0,w0⟩,turn⟩:=h s.heap.objs.size (I.hok.fresh (aW8 _))
 have st1:tn 0 h₁:=T.keep _ _ _ hst fun b _ o e=>old b o e
 have fr0:∀ b ∈ fp,upd H s.heap.objs.size (.lst []) b=none:=fun b hb=>by rw [aX (aZ0 (hfl b hb))]; exact (hf b hb).1
 have stat:∀ {H':Hp},(∀ b ∈ fp,H' b=none)->∀ b ∈ fp,fB (cQ X scope N s H H2.objs.size fp fun _ _=>False) [] H' b:=fun {H'} hn b hb=>by
  have f:=hf b hb
  refine⟨hn b hb,aZ0 (aY0 (hfl b hb) hCle),fun z=>?_,.inl hb,fun x c e=>(kC e).elim (fun z=>bg3 (Nat.lt_trans (aY0 (hfl b hb) hCle) (hco₁.empty x c z).2)) fun z=>f.2.2.2.2.1 x c (oZ scope.names [] (S.cells I) (fun _ _ z=>by simp at z) z.2),fun p hp=>absurd (show p ∈ ([]:List (Addr × Obj)) from hp) (by simp)⟩
  rcases aW3.mp (I.stkSub b z) with e | e
  ·exact f.2.1 e
  ·exact f.2.2.1 e
 generalize hX:cQ X scope N s H H2.objs.size fp (fun _ _=>False)=Y at stat
 have I0:a8 Y [] (fF fr σ) (upd H s.heap.objs.size (.lst [])) { s with heap:=h₁ }:=hX ▸ am4 S I hf hfl (aW8 _) hCle hDC old hns₁ hacc hco₁
 have bt:PG Y tg g:=hX ▸ B.tg H2.objs.size fp
 have bi:lG Y ifs tc:=hX ▸ B.ifs H2.objs.size fp
 have be:PE Y elt te:=hX ▸ B.elt H2.objs.size fp
 have eP:Y.prog=X.prog:=by rw [<- hX]; rfl
 have ew:Y.w=X.w:=by rw [<- hX]; rfl
 have eK:Y.K=X.K:=by rw [<- hX]; rfl
 have eA:Y.A=X.A:=by rw [<- hX]; rfl
 have eE:Y.env=compEnvC scope (g9 X scope H2.objs.size) H2.objs.size X.env:=by rw [<- hX]; rfl
 have eX:Y.xe=fun _ _=>False:=by rw [<- hX]; rfl
 have ec:Y.calm=true:=by rw [<- hX]; exact hc
 have never:∀ {E:Value->Shared->Prop} (e:Value) (s':Shared),Y.xe e s'->E e s':=fun {E} e s' z=>by rw [eX] at z; exact z.elim
 have out:∀ {pins' σ' H' s'},a8 Y pins' σ' H' s'->a8 X pins σ H' s':=fun {_ _ _ _} I'=>am8 (C:=H2.objs.size) (E:=fun _ _=>False) (scope:=scope) (N:=N) I hf (hX ▸ I')
 have loop:codeAny (model X.prog X.w) X.A (.compLoop (.ListComp elt [⟨tg,iter,ifs,0⟩] scope pos) 0 (.ref it) (.ref s.heap.objs.size) (compEnvC scope (g9 X scope H2.objs.size) H2.objs.size X.env))
   (Rr (.ref s.heap.objs.size) H2.objs.size) { s with heap:=h₁ }:=by
  refine am6 (fun n s'=>∃ i acc H',a8 Y [] (fF fr σ) H' s'/\tn i s'.heap/\(∀ b ∈ fp,H' b=none)/\W i n acc H') ?_ m0 ⟨0,[],_,I0,st1,fr0,w0⟩
  rintro n s3 ⟨i,acc,H3,I3,st3,fr3,w3⟩
  unfold tT
  dsimp only
  obtain ⟨hD3,step⟩:=turn i n acc H3 w3
  rcases step with ⟨stop,qn⟩ | ⟨go,step⟩
  ·have z:=T.done Y eP ew eK ec i [] s3 _ H3 (notedBy (model X.prog X.w) X.A (compEnvC scope (g9 X scope H2.objs.size) H2.objs.size X.env) fun e s'=>Rr (.ref s.heap.objs.size) H2.objs.size (.error e) s') I3 (stat fr3) st3 stop
   rw [eA] at z
   refine aQ z fun r s4 ⟨hr,I4⟩=>?_
   subst hr
   obtain ⟨m4,hn4,_⟩:=I4.loc
   rw [eE] at hn4
   have f4:=I4.free
   rw [eE] at f4
   exact hend _ _ s4 H3 m4 hCle (aW8 _) (out I4) hn4 f4 qn
  ·have z:=T.item Y eP ew eK ec i [] s3 _ H3 (notedBy (model X.prog X.w) X.A (compEnvC scope (g9 X scope H2.objs.size) H2.objs.size X.env) fun e s'=>Rr (.ref s.heap.objs.size) H2.objs.size (.error e) s') I3 (stat fr3) st3 go
   rw [eA] at z
   refine aQ z fun r s4 ⟨u,hr,h4⟩=>?_
   subst hr
   refine aQ h4 fun _ s5 ⟨x,H5,I5,r5,y5,st5,fr5⟩=>?_
   have I5':=I5.pinned (stat fr5) (T.obj _ _ st5)
   have q1:=bt _ s5 _ H5 x u _ I5' r5 (step x H5 y5)
   rw [eP,ew,eA,eE] at q1
   refine bf5 q1 (fun _ s6 ⟨σ6,H6,I6,wk,q6⟩=>?_) never
   have q2:=bi _ s6 σ6 H6 _ I6 q6
   rw [eP,ew,eA,eE] at q2
   refine bf5 q2 (fun b s7 ⟨H7,I7,q7⟩=>?_) never
   have again:∀ {H8:Hp}{s8:Shared}{acc':List V},a8 Y ([] ++ mT fp s5.heap) σ6 H8 s8->(∃ m',m' < n/\W (i+1) m' acc' H8)->∃ m,m < n/\∃ i acc H',a8 Y [] (fF fr σ) H' s8/\tn i s8.heap/\(∀ b ∈ fp,H' b=none)/\W i m acc H':=fun {H8 s8 acc'} I8 n8=>by
    obtain ⟨m',hm,w8⟩:=n8
    refine⟨m',hm,i+1,acc',H8,(I8.unpinned).weak wk.1 wk.2,T.keep _ _ _ st5 fun b hb o e=>(I8.pin (b,o) (aZ4 _ (aZ4 _ (oP hb e)))).1,fun b hb=>?_,w8⟩
    obtain ⟨o,e,d⟩:=T.obj _ _ st5 b hb
    exact (I8.pin (b,o) (aZ4 _ (aZ4 _ (oP hb e)))).2.1
   cases b with
   | false=>
    rw [if_neg aY3] at q7 ⊢
    exact again I7 q7
   | true=>
    rw [if_pos rfl] at q7 ⊢
    have q3:=be _ s7 σ6 H7 _ I7 q7
    rw [eP,ew,eA,eE] at q3
    refine bf5 q3 (fun v s8 ⟨y,H8,I8,r8,hD8,hz8,q8⟩=>?_) never
    have q4:=yY _ s8 σ6 H8 (.ref s.heap.objs.size) [y] (.ref s.heap.objs.size) [v] (fun _ H9=>∃ m',m' < n/\W (i+1) m' (acc ++ [y]) H9) I8 rfl (.cons r8 .nil) ⟨_,_,_,rfl,rfl,hD8,hz8,q8⟩
    rw [eP,ew,eA] at q4
    exact bf5 q4 (fun _ s9 ⟨_,H9,I9,_,q9⟩=>again I9 q9) never
 exact codeAny_compStart_list loop (T.self _ 0 _ _ _ st1 loop)
end
section
variable {X : Cx} {scope : Scope} {N : List Str} {fr : List (Option Nat)} {tg iter elt : Expr} {ifs : List Expr} {pos : Pos} {wi : TI} {g : TG} {tc : TT} {te : TE}
theorem a8.drop {pins:List (Addr × Obj)}{σ:St}{H H':Hp}{s s':Shared}{C:Addr}{h':Heap} (I0:a8 X pins σ H s) (hC:s.heap.objs.size<=C) {σ':St} (I:a8 X pins σ' H' s') (hn:H' C=none) (sb:Heap.SameBut C s'.heap h'):a8 X pins σ' H' { s' with heap:=h' }:=by
 refine I.turned (t':=s'.toks) (it:=C) (fun b o hb e=>(sb.2 b hb).trans e) hn (bg3 (aY0 I0.lt hC)) (.inr (aZ7 I0.sz hC)) (fun x c e z=>?_) fun p hp z=>?_
 ·obtain ⟨v,q⟩:=I0.cell x c e
  exact absurd (aY0 q.lt (by rw [z]; exact hC)) (bf2 _)
 ·exact absurd (aY0 (aX1 (I0.pin p hp).1) (by rw [z]; exact hC)) (bf2 _)
variable {gh : Hp → TG} {tch : Hp → TT} {teh : Hp → TE}
def zN (wi:TI) (fr:List (Option Nat)) (gh:Hp->TG) (tch:Hp->TT) (teh:Hp->TE):TE:=fun σ H Q=>wi σ H fun J H1=>∀ D,H1 D=none->
 ∃ W:Nat->Nat->List V->Hp->Prop,(∃ m,W 0 m [] (upd H1 D (.lst [])))/\zM (gh H1) (tch H1) (teh H1) (fF fr σ) J D Q W
theorem zO (hc:X.calm=true) (S:gS X scope N fr) (hi:PI X tg iter wi) (B:∀ (s:Shared) (H:Hp),pA X scope N tg ifs elt s H (gh H) (tch H) (teh H))
  (hs:∀ x,foldedSetIterable iter X.env x=pure x:=by intro _; rfl):PE X (.ListComp elt [⟨tg,iter,ifs,0⟩] scope pos) (zN wi fr gh tch teh):=by
 intro pins s σ H Q I h
 rw [eval_ListComp]
 refine wpAny_comprehension_free (use:=none) rfl hs (am2 (S.cells I)) S.kind S.names (aQ (hi pins s σ H _ I h) fun v s1 h1=>aQ h1 fun itv s2 h2=>?_)
 obtain ⟨it,fp,tn,J,H2,e,I2,T,st2,f2,hW⟩:=h2
 subst e
 refine am9 (Rr:=fun acc C=>compPost (model X.prog X.w) X.A X.xe none (EP X pins σ Q) acc C) hc S (B _ _) I2 T st2 f2 hW ?_
 intro D C s' H' m hC hD I' hns hHC q
 exact⟨m,hns,fun h' sb=>⟨.ref D,H',I2.drop hC I' hHC sb,rfl,q⟩⟩
end
theorem bK {H:Hp}{p:Addr} (h:H p=none) (o:HO):aD H (upd H p o):=fun b u q=>by rw [aX (cU q h)]; exact q
end L2
namespace Srt
open PySem PySem.W PyProof.Rows
abbrev G (p:Array Nat) (i:Nat):Nat:=p.getD i 0
def PP (n:Nat) (p:Array Nat):Prop:=p.toList.Perm (List.range n)
structure zP (c:Nat->Nat->Bool):Prop where
 asym:∀ {i j},c i j=true->c j i=false
 ntr:∀ {i j k},c i j=false->c j k=false->c i k=false
section
variable {c : Nat → Nat → Bool} (O : zP c)
def Le (c:Nat->Nat->Bool) (i j:Nat):Prop:=c j i=false
include O
theorem le_refl (i:Nat):Le c i i:=by
 unfold Le
 cases h:c i i with
 | false=>rfl
 | true=>have:=O.asym h; rw [h] at this; exact this
theorem le_trans {i j k:Nat} (h1:Le c i j) (h2:Le c j k):Le c i k:=O.ntr h2 h1
end
end Srt
namespace L2
open PySem PySem.Spec PyProof.Rows
theorem nB:∀ {xs:List V}{us:List Value} (i:Nat),i < xs.length->aI xs us->aP (xs.getD i .non) (us.getD i Value.none)
 | _,_,_,h,.nil=>by simp at h
 | _,_,0,_,.cons r _=>by simpa using r
 | _,_,i+1,h,.cons _ t=>by
  have:=nB i (by simpa using h) t
  simpa using this
theorem pB {α:Type}:∀ l:List α,(l.zip l).map (·.2)=l
 | []=>rfl
 | a :: l=>by
  show a :: ((l.zip l).map (·.2))=a :: l
  rw [pB l]
theorem zQ {prog:Program}{w:World}{A:Around}{E:Value->Shared->Prop}{s:Shared}{a:Addr}{vs:List Value}{n:Nat}{P:PySem.Fin->Shared->Prop} (e:s.heap.get? a=some (seqObj "list" vs.toArray n)) (few:vs.length < 2)
  (q:P (.done (.ret .none)) { s with heap:=sortedHeap s.heap a vs vs.toArray }):wpAny (model prog w) A (Builtin.«list.sort» ⟨[.ref a],[]⟩) P E s:=by
 have big:vs.length<=sizeLine:=aZ7 (bi1 few) (by decide)
 have la:=aX1 e
 have c:vs.toArray.size < 2:=by simpa using few
 have same:(arrOf (SortSt.mk' general' (vs.toArray.zip vs.toArray) #[] 7 none)).map (·.2)=vs.toArray:=by
  change (vs.toArray.zip vs.toArray).map (·.2)=vs.toArray
  apply Array.ext'
  simpa using pB vs
 obtain ⟨k,ek⟩:∃ k,(s.heap.update a (Obj.mapSeq fun _=>#[])).get? a=some (seqObj "list" #[] k):=⟨_,get?_update_seq e fun _=>#[]⟩
 have there:(((s.heap.update a (Obj.mapSeq fun _=>#[])).push (seqObj "tuple" vs.toArray 0)).push (seqObj "list" #[] 0)).get? a=some (seqObj "list" #[] k):=
  aV9 _ (aV9 _ ek)
 rw [list_sort_plain]
 apply aV7
 apply listItems_at e rfl
 apply aV7
 refine listUpdate_at e rfl ?_ (by simpa using big) (bh0 _)
 apply aV7
 apply seqEpoch_at ek rfl
 apply aV7
 refine wpAny_newTuple ?_ big
 apply aV7
 refine wpAny_newList ?_ (bh0 _)
 apply bb0
 simp only [c,if_true,StateT.run_pure]
 apply aV7
 apply aW2
 apply aV7
 apply aW2
 apply aV7
 apply seqEpoch_at there rfl
 apply aV7
 refine listUpdate_at there rfl ?_ (bh0 _) (by rw [same,aW1]; exact Nat.le_succ_of_le big)
 rw [same]
 simp only [bne_self_eq_false,aY8,be6]
 exact aW2 q
theorem zR {prog:Program}{w:World}{A:Around}{E:Value->Shared->Prop}{s:Shared}{l:Addr}{vs:List Value}{Q:Value->Shared->Prop} (hl:s.heap.IsList l vs.toArray) (few:vs.length < 2)
  (q:Q (.ref (s.heap.objs.size+1)) { s with heap:=sortedAll s.heap vs vs.toArray }):wpAny (model prog w) A (call (.builtin "sorted") [.ref l]) Q E s:=by
 have big:vs.length<=sizeLine:=aZ7 (bi1 few) (by decide)
 apply Calls.call_function_entry kind_sorted plain_sorted entry_sorted (args_sorted1 _)
 simp only [Builtin.«sorted»]
 apply aV7 (m:=checkCount "sorted" 1 1 _)
 apply aW2
 apply aV7
 refine collect_list hl ?_ big
 apply aV7
 refine wpAny_newList ?_ big
 have one:((s.heap.push (seqObj "list" #[] 0)).update s.heap.objs.size (Obj.mapSeq (· ++ vs.toArray))).objs.size=s.heap.objs.size+1:=(Heap.size_update _ _ _).trans (size_push' _ _)
 have at1:(((s.heap.push (seqObj "list" #[] 0)).update s.heap.objs.size (Obj.mapSeq (· ++ vs.toArray))).push (seqObj "list" vs.toArray 0)).get? (s.heap.objs.size+1)=some (seqObj "list" vs.toArray 0):=one ▸ aX4 _ rfl
 change wpAny _ _ _ _ _ { s with heap:=((s.heap.push (seqObj "list" #[] 0)).update s.heap.objs.size (Obj.mapSeq (· ++ vs.toArray))).push (seqObj "list" vs.toArray 0) }
 rw [one]
 apply aV7
 apply bb0
 refine bc6 slot_list_sort ⟨_,at1,rfl⟩ entry_list_sort ?_ (args_list_sort _)
 refine zQ at1 few ⟨_,rfl,?_⟩
 exact aW2 ⟨_,rfl,q⟩
theorem kD:∀ {a b:List Int},HT.aK a b=true->HT.aK b a=false
 | [],[],h=>by cases h
 | [],_ :: _,_=>rfl
 | _ :: _,[],h=>by cases h
 | x :: xs,y :: ys,h=>by
  rw [HT.fZ] at h ⊢
  by_cases e:x=y
  ·rw [if_pos e] at h; rw [if_pos e.symm]; exact kD h
  ·rw [if_neg e] at h; rw [if_neg (Ne.symm e)]
   have:=of_decide_eq_true h
   exact aW4 (by omega)
theorem tU:∀ {a b c:List Int},HT.aK a b=false->HT.aK b c=false->HT.aK a c=false
 | [],[],c,_,h=>h
 | [],_ :: _,_,h,_=>by cases h
 | _ :: _,[],[],_,_=>rfl
 | _ :: _,[],_ :: _,_,h=>by cases h
 | _ :: _,_ :: _,[],_,_=>rfl
 | x :: xs,y :: ys,z :: zs,h1,h2=>by
  rw [HT.fZ] at h1 h2 ⊢
  by_cases e1:x=y
  ·rw [if_pos e1] at h1
   by_cases e2:y=z
   ·rw [if_pos e2] at h2; rw [if_pos (e1.trans e2)]; exact tU h1 h2
   ·rw [if_neg e2] at h2; rw [if_neg (by rw [e1]; exact e2)]; rw [e1]; exact h2
  ·rw [if_neg e1] at h1
   have k1:=bk6 h1
   by_cases e2:y=z
   ·rw [<- e2,if_neg e1]; exact h1
   ·rw [if_neg e2] at h2
    have k2:=bk6 h2
    rw [if_neg (by omega)]
    exact aW4 (by omega)
theorem pD:∀ {a b:List Int},HT.aK a b=false->HT.aK b a=false->a=b
 | [],[],_,_=>rfl
 | [],_ :: _,h,_=>by cases h
 | _ :: _,[],_,h=>by cases h
 | x :: xs,y :: ys,h1,h2=>by
  rw [HT.fZ] at h1 h2
  by_cases e:x=y
  ·rw [if_pos e] at h1; rw [if_pos e.symm] at h2; rw [e,pD h1 h2]
  ·rw [if_neg e] at h1; rw [if_neg (Ne.symm e)] at h2
   have:=bk6 h1
   have:=bk6 h2
   omega
section
variable {prog : Program} {w : World} {A : Around} {s : Shared} {Q : Bool → Shared → Prop}
theorem tV:∀ {us ws:List Value}{xs ys:List Int} (i:Nat),IntsAre us xs->IntsAre ws ys->Q (HT.aK xs ys) s->PySem.W.KatLex prog w A true (decide (us.length < ws.length)) Q (us.zip ws) i s
 | _,_,_,_,_,.nil,.nil,h=>h
 | _,_,_,_,_,.nil,.cons _ _ _,h=>h
 | _,_,_,_,_,.cons _ _ _,.nil,h=>h
 | _,_,_,_,i,.cons (vs:=us) x t hx,.cons (vs:=ws) y u hy,h=>by
  refine PySem.W.kat_cons (wpAny_eqBool_int ?_)
  rw [HT.fZ] at h
  by_cases e:x=y
  ·rw [if_pos e] at h
   have eb:(x == y)=true:=by simpa using e
   rw [eb]
   refine PySem.W.kat_yes ?_
   have e2:decide ((Value.int x t :: us).length < (Value.int y u :: ws).length)=decide (us.length < ws.length):=by simp
   rw [e2]
   exact tV (i+1) hx hy h
  ·rw [if_neg e] at h
   have eb:(x == y)=false:=by simpa using e
   rw [eb]
   refine PySem.W.kat_no ?_
   cases hi:(true && i == 0) with
   | true=>exact PySem.W.kat_lt_int h
   | false=>exact PySem.W.kat_one _ _ (lt_int h)
end
end L2
namespace Raw
open PySem PySem.W PySem.Calls PyProof.Rows
def gA (h:Heap) (d:Addr) (es:Array DictEntry) (ep:Nat):Prop:=∃ o,h.get? d=some o/\o.ExactDict/\o.data = .dict es ep
theorem gA.ty {s:Shared}{d:Addr}{es:Array DictEntry}{ep:Nat} (x:gA s.heap d es ep):s.TypeIs (.ref d) "dict":=x.elim fun o y=>⟨o,y.1,y.2.1.1⟩
theorem gA.lt {h:Heap}{d:Addr}{es:Array DictEntry}{ep:Nat} (x:gA h d es ep):d < h.objs.size:=x.elim fun _ y=>aX1 y.1
theorem gA.keep {h h':Heap}{d:Addr}{es:Array DictEntry}{ep:Nat} (x:gA h d es ep) (k:∀ o,h.get? d=some o->h'.get? d=some o):gA h' d es ep:=x.elim fun o y=>⟨o,k o y.1,y.2⟩
section
variable {prog : Program} {w : World} {A : Around} {E : Value → Shared → Prop} {s : Shared} {d it : Addr} {es : Array DictEntry} {ep i : Nat}
theorem made (far:(d == sysModules)=false) (x:gA s.heap d es ep) {Q:Value->Shared->Prop}
  (q:Q (.ref s.heap.objs.size) { s with heap:=s.heap.push { cls:=.type "dict_keyiterator",data:=.fields #[.ref d,.int 0 0,.int es.size 0,.int ep 0] } }):wpAny (model prog w) A (pyIter (.ref d)) Q E s:=by
 have T:=x.ty
 obtain ⟨o,e1,e2,e3⟩:=x
 apply wpAny_pyIter_slot T PySem.F.slot_dict_iter
 apply bc6 PySem.F.slot_dict_iter T PySem.F.entry_dict_iter _ (PySem.F.args_dict_iter_1 _)
 simp only [Builtin.«dict.__iter__»,Builtin.Dict.dictSlotNone]
 apply aV7
 apply aV7
 apply wpAny_notOrdered_dict T
 apply aW2
 change wpAny _ _ (Builtin.Dict.showsAll d >>= _) _ _ s
 have far':Builtin.Dict.showsAll d=pure ():=by
  unfold Builtin.Dict.showsAll
  simp only [far,aY8,be6]
 rw [far',pure_bind]
 apply aV7
 apply wpAny_dictEntries e1 e3
 apply aV7
 apply wpAny_dictEpoch e1 e3
 apply aV7
 refine ba2 (aW2 ?_)
 refine⟨.ref s.heap.objs.size,rfl,"dict_keyiterator",_,⟨_,aX4 _ rfl,rfl⟩,PySem.F.slot_dict_keyiterator_next.lookup,?_⟩
 simpa only [rawInt] using q
theorem turn (hh:A.handled=none) (hi:s.heap.IsKeyIter it d i es.size ep) (x:gA s.heap d es ep) {Q:Option Value->Shared->Prop}
  (yes:∀ (lt:i < es.size) h',h'.IsKeyIter it d (i+1) es.size ep->Heap.SameBut it s.heap h'->Q (some es[i].key) { s with heap:=h' })
  (no:es.size<=i->∀ h',Heap.ExtBut it s.heap h'->Q none { s with heap:=h' }):wpAny (model prog w) A (pyNext (.ref it)) Q E s:=by
 have T:=hi.typeIs
 obtain ⟨oi,f1,f2,f3⟩:=hi
 obtain ⟨o,e1,e2,e3⟩:=x
 have slot:=PySem.F.slot_dict_keyiterator_next
 have plain:Builtin.Dict_items.ownsTuple "dict_keyiterator" = false:=by decide
 have isref:(Value.ref d == Value.none)=false:=rfl
 have nn : ¬ (i:Int) < 0:=by omega
 unfold pyNext
 apply aV7
 apply bm3
 apply bc1 (name:=Str.ofString "__next__") T slot
 apply bc6 slot T PySem.F.entry_dict_keyiterator_next _ (PySem.F.args_dict_keyiterator_next_1 _)
 apply aV7
 apply aW2
 apply aV7
 apply aV7
 apply aV7
 first
  | apply wpAny_typeNameOfWhole_keyiter T
  | apply wpAny_typeNameOf_keyiter T
 apply aW2
 apply aV7
 apply wpAny_fieldsOf f1 f3
 simp only [plain,aY8,be6]
 change wpAny _ _ (if (Value.ref d == Value.none)=true then _ else _) _ _ s
 have adr:Builtin.Dict_items.addrOf (Value.ref d)=pure d:=rfl
 simp only [isref,aY8,be6,adr,pure_bind]
 apply aV7
 apply wpAny_dictEntries e1 e3
 simp only [bne_self_eq_false,aY8,be6]
 apply aV7
 apply wpAny_dictEpoch e1 e3
 simp only [bne_self_eq_false,aY8,be6]
 apply aW2
 simp only [nn,be6,Int.toNat_natCast]
 by_cases lt:i < es.size
 ·simp only [Array.getElem?_eq_getElem lt]
  apply aV7
  apply aV7
  first
   | apply wpAny_typeNameOfWhole_keyiter T
   | apply wpAny_typeNameOf_keyiter T
  apply aW2
  apply aV7
  apply wpAny_isOneOf_keyiter T
  change wpAny _ _ (setField (.ref it) 1 (rawInt ((i:Int)+1)) >>= _) _ _ s
  apply aV7
  refine wpAny_setField f1 f3 (by simp) ?_
  have again:(s.heap.update it (Obj.mapFields (·.setIfInBounds 1 (rawInt ((i:Int)+1))))).IsKeyIter it d (i+1) es.size ep:=by
   refine⟨_,bd5 _ f1 (Obj.isFreed_of_fields (Obj.data_mapFields f3 _)),?_,?_⟩
   ·rw [Obj.cls_mapFields]; exact f2
   ·rw [Obj.data_mapFields f3]; simp [rawInt]
  apply aV7
  apply bb0
  apply aV7
  refine wpAny_isOneOf_keyiter (s:={ s with heap:=s.heap.update it (Obj.mapFields (·.setIfInBounds 1 (rawInt ((i:Int)+1)))) }) again.typeIs ?_
  change wpAny _ _ (pure es[i].key) _ _ _
  apply aW2
  apply aW2
  exact⟨es[i].key,rfl,aW2 (yes lt _ again (bi4 ..))⟩
 ·have ge:es.size<=i:=Nat.le_of_not_lt lt
  simp only [Array.getElem?_eq_none ge]
  apply aV7
  apply aV7
  first
   | apply wpAny_typeNameOfWhole_keyiter T
   | apply wpAny_typeNameOf_keyiter T
  apply aW2
  change wpAny _ _ (setField (.ref it) 0 .none >>= _) _ _ s
  apply aV7
  refine wpAny_setField f1 f3 (by simp) ?_
  apply aV7
  simp only [newExc,newTuple]
  apply aV7
  refine ba2 ?_ (by size_fits)
  apply aV7
  refine wpAny_of_eq (a:=Value.none) (by first | rfl | (simp only [firstArgMember]; rfl)) ?_
  refine ba2 ?_ (by size_fits)
  unfold raiseNew
  apply aV7
  apply wpAny_handled
  have quiet:A.in1.handled=none:=hh
  rw [quiet]
  refine wpAny_throw ?_
  apply aV7
  refine wpAny_isInstance (T:="StopIteration") (b:=true) ⟨_,aX4 _ rfl,rfl⟩ isSubtype_stop ?_
  exact aW2 (no ge _ (((bi4 ..).extBut.push _).push _))
theorem an0 (hh:A.handled=none) (ne:d ≠ it):Walks prog w A it [it,d] [it] es.size (fun i v=>∃ lt:i < es.size,es[i].key=v) (fun i h=>h.IsKeyIter it d i es.size ep/\gA h d es ep) where
 sub:=by intro b hb; rw [aX6.mp hb]; exact aX5
 frame:=by
  intro i h h' st hk
  exact⟨st.1.at (hk it aX5),st.2.keep (hk d (aW7 _ aX5))⟩
 item:=by
  intro i s Q E lt st hQ
  refine turn hh st.1 st.2 (fun lt' h' again sb=>?_) fun ge=>absurd lt (Nat.not_lt.mpr ge)
  exact hQ _ h' s.toks ⟨lt',rfl⟩ ⟨again,st.2.keep fun o e=>sb.extBut d o ne e⟩ fun b o hb e=>sb.extBut b o (fun z=>hb (aX6.mpr z)) e
 done:=by
  intro s Q E st hQ
  refine turn hh st.1 st.2 (fun lt=>absurd lt (bf2 _)) fun _ h' eb=>?_
  exact hQ h' s.toks fun b o hb e=>eb b o (fun z=>hb (aX6.mpr z)) e
 self:=by intro i s Q E st hQ; exact wpAny_pyIter_keyiter st.1 hQ
theorem zS (far:(d == sysModules)=false):KdlSrc prog w "dict" d d es.size (fun i v=>∃ lt:i < es.size,es[i].key=v) (fun h=>gA h d es ep) where
 type:=fun _ x=>x.ty
 there:=fun _ x=>⟨x.lt,x.lt⟩
 keep:=fun _ _ x k=>x.keep (k d (.inl rfl))
 notList:=by decide
 notTuple:=by decide
 hint:=fun _ _ _ _ x q=>kdl_hint_dict x.ty q
 iter:=fun _ _ hh x=>⟨_,_,fun _ _ q=>made far x q,an0 hh (aZ0 x.lt),⟨_,aX4 _ rfl,rfl,rfl⟩,x.keep fun o e=>aV9 _ e⟩
end
end Raw
namespace L2
open PySem PySem.Spec PyProof.Rows
section
variable {X : Cx} {pins : List (Addr × Obj)} {σ : St} {H : Hp} {s : Shared} {a : Addr}
def gU (H:Hp) (y:V) (k:List aM):Prop:=∃ q,y = .ref q/\H q=some (.tup (k.map kV))
theorem zT {kvs:List (List aM × V)} (I:a8 X pins σ H s) (h:H a=some (.dT kvs)):∃ es ep ys,Raw.gA s.heap a es ep/\(a == sysModules)=false/\Paired (gU H) ys (kvs.map (·.1))/\aI ys (es.toList.map (·.key))/\kvs.length<=sizeLine:=by
 obtain ⟨z,far,xs,rel,o,es,ep,e1,e2,e3,e4,nd⟩:=(show bW X.prog X.w H s.heap a (.dT kvs) from I.hok a _ h)
 refine⟨es,ep,xs.map fun q=>V.ref q.2.1,⟨o,e1,e2,e3⟩,far,?_,?_,z⟩
 ·clear e4 nd h z
  induction rel with
  | nil=>exact .nil
  | cons r rs ih=>exact .cons ⟨_,rfl,r.2.1⟩ ih
 ·rw [e4]
  clear rel e4 nd
  induction xs with
  | nil=>exact .nil
  | cons q qs ih=>exact .cons rfl ih
theorem tW {es:Array DictEntry}{acc:Array Value} (h:ItemsOf (fun i v=>∃ lt:i < es.size,es[i].key=v) acc es.size):acc.toList=es.toList.map (·.key):=by
 apply List.ext_getElem?
 intro j
 have h1:=h.1
 by_cases hj:j < es.size
 ·have hj':j < acc.size:=by rw [h1]; exact hj
  obtain ⟨_,e⟩:=h.2 j acc[j] (by simp [hj'])
  rw [aY1]
  simp [hj,hj',e]
 ·have hj' : ¬ j < acc.size:=by rw [h1]; exact hj
  rw [aY1]
  simp [Nat.le_of_not_lt hj,Nat.le_of_not_lt hj']
theorem an1 (hc:X.calm=true):cH X (.type "list") (fun xs H Q=>∃ a kvs,xs = [.ref a]/\H a=some (.dT kvs)/\∀ l ys,H l=none->Paired (gU H) ys (kvs.map (·.1))->Q (.ref l) (upd H l (.lst ys))):=by
 intro pins s σ H xs us Q I r h
 obtain ⟨a,kvs,rfl,ha,q⟩:=h
 obtain ⟨u,rfl,ru⟩:=eQ r
 cases ru
 obtain ⟨es,ep,ys,rd,far,pk,vk,z⟩:=zT I ha
 have hl:=vk.length
 have hl2:=pk.length
 rw [aW6] at hl hl2
 have hsz:es.toList.length=es.size:=ba3
 refine PySem.W.kdl_call (Raw.zS far) (I.ok.hd hc) rd (by omega) fun h' tk acc c kp e it=>?_
 refine⟨.ref s.heap.objs.size,_,I.laid (t':=tk) kp (aW8 _) (show bW X.prog X.w _ h' _ (.lst ys) from ⟨by omega,acc.toList,c,by rw [tW it]; exact vk,by simpa using e⟩),rfl,q _ ys (I.hok.fresh (aW8 _)) pk⟩
end
section
variable {X : Cx}
theorem an2:cH X (.builtin "isinstance") (fun xs H Q=>∃ x t n b,xs = [x,.ty n]/\eR X.K H x t/\PySem.W.kitOne X.K t (.type n)=some b/\Q (.bl b) H):=by
 intro pins s σ H xs us Q I r h
 obtain ⟨x,t,n,b,rfl,ty,e,q⟩:=h
 obtain ⟨u,u',rfl,ru,ru'⟩:=jL r
 cases ru'
 exact ag4 I ru ty e fun tk=>⟨.bl b,H,I.tok tk,rfl,q⟩
end
def zU (outer:List (Str × NameKind)) (XN:List Str) (names:List (Str × NameKind)) (N:List Str) (fr:List (Option Nat)):Bool:=
 names.all (fun y=>!(y.2 == .cell) || names.lookup y.1 == some .cell) && names.all (fun y=>!(y.2 == .local) || names.lookup y.1 == some .local) &&
 names.all (fun y=>!(y.2 == .free) || (outer.lookup y.1 == some .cell || outer.lookup y.1 == some .free)) && fr.length == N.length &&
 (fr.zip N).all (fun p=>match p.1 with
  | none=>true
  | some j=>XN[j]? == some p.2 && names.lookup p.2 == some .free)
theorem gS.of {X:Cx}{scope:Scope}{N:List Str}{fr:List (Option Nat)} (hk:scope.kind = .function) (h:zU X.env.scope.names X.N scope.names N fr=true):gS X scope N fr:=by
 unfold zU at h
 simp only [bg4] at h
 obtain ⟨⟨⟨⟨h1,h2⟩,h3⟩,h4⟩,h5⟩:=h
 refine⟨hk,fun y hy e=>?_,fun y hy e=>?_,fun y hy e=>?_,by simpa using h4,fun i j e=>?_⟩
 ·have:=bh8.mp h1 y hy
  rw [e] at this; simpa using this
 ·have:=bh8.mp h2 y hy
  rw [e] at this; simpa using this
 ·have:=bh8.mp h3 y hy
  rw [e] at this; simpa using this
 ·have hl:fr.length=N.length:=by simpa using h4
  have hi:i < fr.length:=(aW9.mp e).1
  have m:(some j,N[i]'(by omega)) ∈ fr.zip N:=by
   have:(fr.zip N)[i]? = some (some j,N[i]'(by omega)):=by
    rw [List.getElem?_zip_eq_some]
    exact⟨e,by simp⟩
   exact bj3 this
  have:=bh8.mp h5 _ m
  simp only [bg4,beq_iff_eq] at this
  exact⟨N[i]'(by omega),by simp,this.1,this.2⟩
def tX (ls:List (Int × Int)) (k:Int):List Int:=ls.flatMap fun l=>(if l.1=k then [l.2] else []) ++ (if l.2=k then [l.1] else [])
theorem an3 {α:Type}{xs:List α}{i:Int}{v:α} (h0:0<=i) (h:xs[i.toNat]? = some v):atI xs i=some v:=by
 have:=yQ h
 rwa [show ((i.toNat:Nat):Int)=i by omega] at this
theorem pE {n:Nat} (h:n<=16000000):n < sizeLine:=by rw [sizeLine_eq]; omega
theorem tY {K:PySem.W.Frag}{H:Hp}{p:Addr}{xs:List V} (h:aN K H p xs):gR K "list" (.ref p) H:=.inl ⟨rfl,xs,h⟩
end L2
namespace Zp
open PySem PyProof.Rows
section
variable {prog : Program} {w : World} {A : Around} {E : Value → Shared → Prop} {s : Shared}
theorem zV {it t:Addr}{i:Nat}{items:Array Value}{x:Value}{Q:Value->Shared->Prop} (hi:s.heap.IsTupleIter it t i) (ht:s.heap.IsTuple t items) (hx:items[i]? = some x)
  (q:∀ h',h'.IsTupleIter it t (i+1)->Heap.SameBut it s.heap h'->Q x { s with heap:=h' }):wpAny (model prog w) A (Builtin.SmallTypes.nextOf (.ref it)) Q E s:=by
 have T:=hi.typeIs
 obtain ⟨o,e1,e2,e3⟩:=hi
 obtain ⟨u,f1,_,k,f3⟩:=ht
 have slot:=PySem.F.slot_tuple_iterator_next
 have isref:(Value.ref t == Value.none)=false:=rfl
 unfold Builtin.SmallTypes.nextOf
 apply aV7
 apply bc1 (name:=Str.ofString "__next__") T slot
 apply bc6 slot T PySem.F.entry_tuple_iterator_next _ (PySem.F.args_tuple_iterator_next_1 _)
 change wpAny _ _ (field (.ref it) 0 >>= _) _ _ s
 apply aV7
 refine bc0 e1 e3 (x:=.ref t) rfl ?_
 change wpAny _ _ (if (Value.ref t == Value.none)=true then _ else _) _ _ s
 simp only [isref,aY8,be6]
 change wpAny _ _ (field (.ref it) 1 >>= _) _ _ s
 apply aV7
 refine bc0 e1 e3 (x:=.int i 0) rfl ?_
 change wpAny _ _ (seqItems? (.ref t) >>= _) _ _ s
 apply aV7
 apply be1 f1 f3
 simp only [Int.toNat_natCast,hx]
 apply aV7
 refine wpAny_setField e1 e3 (by simp) ?_
 apply aW2
 refine⟨x,rfl,aW2 (q _ ⟨_,bd5 _ e1 (Obj.isFreed_of_fields (Obj.data_mapFields e3 _)),?_,?_⟩ (bi4 ..))⟩
 ·rw [Obj.cls_mapFields]; exact e2
 ·rw [Obj.data_mapFields e3]; simp [rawInt]
theorem zW {it t:Addr}{i:Nat}{items:Array Value}{Q:Value->Shared->Prop} (hh:A.handled=none) (hi:s.heap.IsTupleIter it t i) (ht:s.heap.IsTuple t items) (hx:items[i]? = none)
  (q:∀ h' e,Heap.ExtBut it s.heap h'->(∃ o,h'.get? e=some o/\o.cls = .type "StopIteration")->E (.ref e) { s with heap:=h' }):wpAny (model prog w) A (Builtin.SmallTypes.nextOf (.ref it)) Q E s:=by
 have T:=hi.typeIs
 obtain ⟨o,e1,e2,e3⟩:=hi
 obtain ⟨u,f1,_,k,f3⟩:=ht
 have slot:=PySem.F.slot_tuple_iterator_next
 have isref:(Value.ref t == Value.none)=false:=rfl
 unfold Builtin.SmallTypes.nextOf
 apply aV7
 apply bc1 (name:=Str.ofString "__next__") T slot
 apply bc6 slot T PySem.F.entry_tuple_iterator_next _ (PySem.F.args_tuple_iterator_next_1 _)
 change wpAny _ _ (field (.ref it) 0 >>= _) _ _ s
 apply aV7
 refine bc0 e1 e3 (x:=.ref t) rfl ?_
 change wpAny _ _ (if (Value.ref t == Value.none)=true then _ else _) _ _ s
 simp only [isref,aY8,be6]
 change wpAny _ _ (field (.ref it) 1 >>= _) _ _ s
 apply aV7
 refine bc0 e1 e3 (x:=.int i 0) rfl ?_
 change wpAny _ _ (seqItems? (.ref t) >>= _) _ _ s
 apply aV7
 apply be1 f1 f3
 simp only [Int.toNat_natCast,hx]
 apply aV7
 apply bj8
 apply aV7
 refine wpAny_setField e1 e3 (by simp) ?_
 apply aV7
 simp only [newExc,newTuple]
 apply aV7
 refine ba2 ?_ (by size_fits)
 apply aV7
 refine wpAny_of_eq (a:=Value.none) (by first | rfl | (simp only [firstArgMember]; rfl)) ?_
 refine ba2 ?_ (by size_fits)
 unfold raiseNew
 apply aV7
 apply wpAny_handled
 have quiet:A.in1.handled=none:=hh
 rw [quiet]
 refine wpAny_throw ?_
 exact q _ _ (((bi4 ..).extBut.push _).push _) ⟨_,aX4 _ rfl,rfl⟩
theorem an4 (hh:A.handled=none) (it t:Addr) (ne:t ≠ it) (items:Array Value):Draws prog w A it [it,t] items.size (fun i v=>items[i]? = some v) (fun i h=>h.IsTupleIter it t i/\h.IsTuple t items) where
 live:=fun _ _ st=>st.1.elim fun o y=>⟨o,y.1⟩
 frame:=fun _ _ _ st k=>⟨st.1.at fun o e=>k it aX5 o e,st.2.elim fun o y=>⟨o,k t (aW7 _ aX5) o y.1,y.2⟩⟩
 item:=fun i s Q E lt st q=>zV st.1 st.2 (Array.getElem?_eq_getElem lt) fun h' again sb=>q _ h' s.toks (Array.getElem?_eq_getElem lt) ⟨again,st.2.elim fun o y=>⟨o,sb.extBut t o ne y.1,y.2⟩⟩ sb
 done:=fun s Q E st q=>zW hh st.1 st.2 (Array.getElem?_eq_none (aW8 _)) q
end
structure Ap (z TI TO i1 i2:Addr) (fp1 fp2:List Addr):Prop where
 TIz:TI ≠ z
 TOz:TO ≠ z
 TITO:TI ≠ TO
 z1:z ∉ fp1
 z2:z ∉ fp2
 o1:TO ∉ fp1
 o2:TO ∉ fp2
 t1:TI ∉ fp1
 t2:TI ∉ fp2
 m1:i1 ∈ fp1
 m2:i2 ∈ fp2
 n1:i1 ∉ fp2
 n2:i2 ∉ fp1
structure tZ (z TI TO i1 i2:Addr) (St1 St2:Nat->Heap->Prop) (f0:Value) (i j:Nat) (h:Heap):Prop where
 zz:IsZip h z TI TO f0
 ti:IsPair h TI (.ref i1) (.ref i2)
 to_:∃ a b,IsPair h TO a b
 s1:St1 i h
 s2:St2 j h
section
variable {prog : Program} {w : World} {A : Around} {E : Value → Shared → Prop} {s : Shared} {z TI TO i1 i2 : Addr} {fp1 fp2 : List Addr} {n1 n2 : Nat} {P1 P2 : Nat → Value → Prop} {St1 St2 : Nat → Heap → Prop}
theorem lH (ap:Ap z TI TO i1 i2 fp1 fp2) {b:Addr} (h:b ∉ fp1):b ≠ i1:=fun e=>h (e ▸ ap.m1)
theorem pF (ap:Ap z TI TO i1 i2 fp1 fp2) {b:Addr} (h:b ∉ fp2):b ≠ i2:=fun e=>h (e ▸ ap.m2)
theorem item (D1:Draws prog w A.in1 i1 fp1 n1 P1 St1) (D2:Draws prog w A.in1 i2 fp2 n2 P2 St2) (ap:Ap z TI TO i1 i2 fp1 fp2) {i:Nat} (l1:i < n1) (l2:i < n2) (st:tZ z TI TO i1 i2 St1 St2 .none i i s.heap) {Q:Option Value->Shared->Prop}
  (q:∀ x y h' tk,P1 i x->P2 i y->tZ z TI TO i1 i2 St1 St2 (rawInt s.heap.objs.size) (i+1) (i+1) h'->IsPair h' s.heap.objs.size x y->(∀ c o,c ≠ z->c ≠ TO->c ≠ i1->c ≠ i2->s.heap.get? c=some o->h'.get? c=some o)->
   h'.objs.size=s.heap.objs.size+1->Q (some (.ref s.heap.objs.size)) { s with heap:=h',toks:=tk }):wpAny (model prog w) A (pyNext (.ref z)) Q E s:=by
 obtain ⟨hz,hti,⟨a,b,hto⟩,h1,h2⟩:=st
 have T:s.TypeIs (.ref z) "zip":=⟨_,hz,rfl⟩
 have slot:=PySem.F.slot_zip_next
 unfold pyNext
 apply aV7
 apply bm3
 apply bc1 (name:=Str.ofString "__next__") T slot
 apply bc6 slot T PySem.F.entry_zip_next _ (PySem.F.args_zip_next_1 _)
 change wpAny _ _ (field (.ref z) 2 >>= _) _ _ _
 apply aV7
 refine bc0 hz rfl (x:=.bool false) rfl ?_
 change wpAny _ _ (field (.ref z) 3 >>= _) _ _ _
 apply aV7
 refine bc0 hz rfl (x:=.ref TI) rfl ?_
 apply aV7
 apply be1 hti rfl
 change wpAny _ _ (Builtin.SmallTypes.ownedTupleIsFree (.ref z) >>= _) _ _ _
 apply aV7
 unfold Builtin.SmallTypes.ownedTupleIsFree
 apply aV7
 refine bc0 hz rfl (x:=.none) rfl (aW2 ?_)
 simp only [if_true]
 apply aV7
 apply bj8
 apply aV7
 refine bc0 hz rfl (x:=.ref TO) rfl ?_
 apply aV7
 refine bd4 hz (by simp) fun g1 hz1 sb1=>?_
 have k1:∀ c o,c ≠ z->s.heap.get? c=some o->g1.get? c=some o:=fun c o c1 e=>sb1.extBut c o c1 e
 apply aV7
 simp only [List.zipIdx_cons,List.zipIdx_nil,List.forIn_cons,List.forIn_nil]
 apply aV7
 apply aV7
 apply wpAny_onRaise
 change wpAny _ _ (Builtin.SmallTypes.nextOf (.ref i1) >>= _) _ _ _
 apply aV7
 refine D1.item i { s with heap:=g1 } _ _ l1 (D1.frame _ _ _ h1 fun c hc o e=>k1 c o (fun y=>ap.z1 (y ▸ hc)) e) fun x g2 tk2 px st1 sb2=>aW2 ?_
 have k2:∀ c o,c ≠ z->c ≠ i1->s.heap.get? c=some o->g2.get? c=some o:=fun c o c1 c2 e=>sb2.extBut c o c2 (k1 c o c1 e)
 have to2:IsPair g2 TO a b:=k2 _ _ ap.TOz (lH ap ap.o1) hto
 apply aV7
 apply be1 to2 rfl
 apply aV7
 refine wpAny_updateSeq_pair to2 fun g3 to3 sb3=>?_
 have to3:IsPair g3 TO x b:=to3
 apply aV7
 apply bi5
 apply aW2
 apply aV7
 apply aV7
 apply wpAny_onRaise
 change wpAny _ _ (Builtin.SmallTypes.nextOf (.ref i2) >>= _) _ _ _
 apply aV7
 have k3:∀ c o,c ≠ z->c ≠ i1->c ≠ TO->s.heap.get? c=some o->g3.get? c=some o:=fun c o c1 c2 c3 e=>sb3.extBut c o c3 (k2 c o c1 c2 e)
 refine D2.item i { s with heap:=g3,toks:=tk2 } _ _ l2 (D2.frame _ _ _ h2 fun c hc o e=>k3 c o (fun y=>ap.z2 (y ▸ hc)) (fun y=>ap.n1 (y ▸ hc)) (fun y=>ap.o2 (y ▸ hc)) e) fun y g4 tk4 py st2 sb4=>aW2 ?_
 have to4:IsPair g4 TO x b:=sb4.extBut _ _ (pF ap ap.o2) to3
 apply aV7
 apply be1 to4 rfl
 apply aV7
 refine wpAny_updateSeq_pair to4 fun g5 to5 sb5=>?_
 have to5:IsPair g5 TO x y:=to5
 apply aV7
 apply bi5
 apply aW2
 apply aW2
 apply aV7
 apply be1 to5 rfl
 apply aV7
 refine wpAny_newTuple ?_ (by show 2<=sizeLine; decide)
 have size:g5.objs.size=s.heap.objs.size:=by rw [sb5.1,sb4.1,sb3.1,sb2.1,sb1.1]
 have k5:∀ c o,c ≠ z->c ≠ TO->c ≠ i1->c ≠ i2->s.heap.get? c=some o->g5.get? c=some o:=fun c o c1 c2 c3 c4 e=>sb5.extBut c o c2 (sb4.extBut c o c4 (k3 c o c1 c3 c2 e))
 have z5:IsZip g5 z TI TO .ellipsis:=sb5.extBut _ _ (Ne.symm ap.TOz) (sb4.extBut _ _ (pF ap ap.z2) (sb3.extBut _ _ (Ne.symm ap.TOz) (sb2.extBut _ _ (lH ap ap.z1) hz1)))
 change wpAny _ _ (Builtin.SmallTypes.ownedTupleHandOut (.ref z) (.ref g5.objs.size) >>= _) _ _ _
 apply aV7
 unfold Builtin.SmallTypes.ownedTupleHandOut
 apply aV7
 have z6:IsZip (g5.push { cls:=.type "tuple",data:=.seq #[x,y] }) z TI TO .ellipsis:=aV9 _ z5
 refine bd4 z6 (by simp) fun g7 z7 sb7=>?_
 have z7:IsZip g7 z TI TO (rawInt g5.objs.size):=z7
 refine bd4 z7 (by simp) fun g8 z8 sb8=>?_
 have z8:IsZip g8 z TI TO (rawInt g5.objs.size):=z8
 have zlt:z < g5.objs.size:=aX1 z5
 have up:∀ c o,c ≠ z->g5.get? c=some o->g8.get? c=some o:=fun c o c1 e=>sb8.extBut c o c1 (sb7.extBut c o c1 (aV9 _ e))
 have p8:IsPair g8 g5.objs.size x y:=sb8.extBut _ _ (bg3 zlt) (sb7.extBut _ _ (bg3 zlt) (aX4 _ rfl))
 have s8:g8.objs.size=g5.objs.size+1:=by rw [sb8.1,sb7.1,be0]
 have f1:St1 (i+1) g8:=D1.frame _ _ _ st1 fun c hc o e=>up c o (fun y=>ap.z1 (y ▸ hc)) (sb5.extBut c o (fun y=>ap.o1 (y ▸ hc)) (sb4.extBut c o (fun y=>ap.n2 (y ▸ hc)) (sb3.extBut c o (fun y=>ap.o1 (y ▸ hc)) e)))
 have f2:St2 (i+1) g8:=D2.frame _ _ _ st2 fun c hc o e=>up c o (fun y=>ap.z2 (y ▸ hc)) (sb5.extBut c o (fun y=>ap.o2 (y ▸ hc)) e)
 have ti8:IsPair g8 TI (.ref i1) (.ref i2):=up _ _ ap.TIz (k5 _ _ ap.TIz ap.TITO (lH ap ap.t1) (pF ap ap.t2) hti)
 rw [size] at z8 p8 s8
 apply aW2
 refine⟨_,rfl,aW2 ?_⟩
 change Q (some (.ref g5.objs.size)) _
 rw [size]
 exact q x y g8 tk4 px py ⟨z8,ti8,⟨x,y,up _ _ ap.TOz to5⟩,f1,f2⟩ p8 (fun c o c1 c2 c3 c4 e=>up c o c1 (k5 c o c1 c2 c3 c4 e)) s8
theorem fin (D1:Draws prog w A.in1 i1 fp1 n1 P1 St1) (D2:Draws prog w A.in1 i2 fp2 n2 P2 St2) (ap:Ap z TI TO i1 i2 fp1 fp2) {i:Nat} (le:i=n1 ∨ (i < n1/\i=n2)) (st:tZ z TI TO i1 i2 St1 St2 .none i i s.heap) {Q:Option Value->Shared->Prop}
  (q:∀ h' tk,(∀ c o,c ≠ z->c ≠ TO->c ≠ i1->c ≠ i2->s.heap.get? c=some o->h'.get? c=some o)->Q none { s with heap:=h',toks:=tk }):wpAny (model prog w) A (pyNext (.ref z)) Q E s:=by
 obtain ⟨hz,hti,⟨a,b,hto⟩,h1,h2⟩:=st
 have T:s.TypeIs (.ref z) "zip":=⟨_,hz,rfl⟩
 have slot:=PySem.F.slot_zip_next
 unfold pyNext
 apply aV7
 apply bm3
 apply bc1 (name:=Str.ofString "__next__") T slot
 apply bc6 slot T PySem.F.entry_zip_next _ (PySem.F.args_zip_next_1 _)
 change wpAny _ _ (field (.ref z) 2 >>= _) _ _ _
 apply aV7
 refine bc0 hz rfl (x:=.bool false) rfl ?_
 change wpAny _ _ (field (.ref z) 3 >>= _) _ _ _
 apply aV7
 refine bc0 hz rfl (x:=.ref TI) rfl ?_
 apply aV7
 apply be1 hti rfl
 change wpAny _ _ (Builtin.SmallTypes.ownedTupleIsFree (.ref z) >>= _) _ _ _
 apply aV7
 unfold Builtin.SmallTypes.ownedTupleIsFree
 apply aV7
 refine bc0 hz rfl (x:=.none) rfl (aW2 ?_)
 simp only [if_true]
 apply aV7
 apply bj8
 apply aV7
 refine bc0 hz rfl (x:=.ref TO) rfl ?_
 apply aV7
 refine bd4 hz (by simp) fun g1 hz1 sb1=>?_
 have k1:∀ c o,c ≠ z->s.heap.get? c=some o->g1.get? c=some o:=fun c o c1 e=>sb1.extBut c o c1 e
 apply aV7
 simp only [List.zipIdx_cons,List.zipIdx_nil,List.forIn_cons,List.forIn_nil]
 apply aV7
 apply aV7
 apply wpAny_onRaise
 change wpAny _ _ (Builtin.SmallTypes.nextOf (.ref i1) >>= _) _ _ _
 apply aV7
 have z1:IsZip g1 z TI TO .ellipsis:=hz1
 rcases le with rfl | ⟨lt,rfl⟩
 ·refine D1.done { s with heap:=g1 } _ _ (D1.frame _ _ _ h1 fun c hc o e=>k1 c o (fun y=>ap.z1 (y ▸ hc)) e) fun g2 e eb ex=>?_
  have z2:IsZip g2 z TI TO .ellipsis:=eb _ _ (lH ap ap.z1) z1
  refine bd4 z2 (by simp) fun g3 z3 sb3=>?_
  obtain ⟨oe,eo,co⟩:=ex
  have ne:e ≠ z:=fun y=>by
   rw [y,z2] at eo
   have:=aY5 eo
   rw [<- this] at co; exact absurd (show Value.type "zip" = Value.type "StopIteration" from co) (by decide)
  apply aV7
  refine wpAny_isInstance (T:="StopIteration") (b:=true) ⟨oe,sb3.extBut _ _ ne eo,co⟩ isSubtype_stop ?_
  exact aW2 (q g3 s.toks fun c o c1 _ c3 _ e=>sb3.extBut c o c1 (eb c o c3 (k1 c o c1 e)))
 ·refine D1.item i { s with heap:=g1 } _ _ lt (D1.frame _ _ _ h1 fun c hc o e=>k1 c o (fun y=>ap.z1 (y ▸ hc)) e) fun x g2 tk2 px st1 sb2=>aW2 ?_
  have k2:∀ c o,c ≠ z->c ≠ i1->s.heap.get? c=some o->g2.get? c=some o:=fun c o c1 c2 e=>sb2.extBut c o c2 (k1 c o c1 e)
  have to2:IsPair g2 TO a b:=k2 _ _ ap.TOz (lH ap ap.o1) hto
  apply aV7
  apply be1 to2 rfl
  apply aV7
  refine wpAny_updateSeq_pair to2 fun g3 to3 sb3=>?_
  apply aV7
  apply bi5
  apply aW2
  apply aV7
  apply aV7
  apply wpAny_onRaise
  change wpAny _ _ (Builtin.SmallTypes.nextOf (.ref i2) >>= _) _ _ _
  apply aV7
  have k3:∀ c o,c ≠ z->c ≠ i1->c ≠ TO->s.heap.get? c=some o->g3.get? c=some o:=fun c o c1 c2 c3 e=>sb3.extBut c o c3 (k2 c o c1 c2 e)
  refine D2.done { s with heap:=g3,toks:=tk2 } _ _ (D2.frame _ _ _ h2 fun c hc o e=>k3 c o (fun y=>ap.z2 (y ▸ hc)) (fun y=>ap.n1 (y ▸ hc)) (fun y=>ap.o2 (y ▸ hc)) e) fun g4 e eb ex=>?_
  have z4:IsZip g4 z TI TO .ellipsis:=eb _ _ (pF ap ap.z2) (sb3.extBut _ _ (Ne.symm ap.TOz) (sb2.extBut _ _ (lH ap ap.z1) z1))
  refine bd4 z4 (by simp) fun g5 z5 sb5=>?_
  obtain ⟨oe,eo,co⟩:=ex
  have ne:e ≠ z:=fun y=>by
   rw [y,z4] at eo
   have:=aY5 eo
   rw [<- this] at co; exact absurd (show Value.type "zip" = Value.type "StopIteration" from co) (by decide)
  apply aV7
  refine wpAny_isInstance (T:="StopIteration") (b:=true) ⟨oe,sb5.extBut _ _ ne eo,co⟩ isSubtype_stop ?_
  exact aW2 (q g5 tk2 fun c o c1 c2 c3 c4 e=>sb5.extBut c o c1 (eb c o c4 (k3 c o c1 c3 c2 e)))
end
def fG (h:Heap) (t u:Addr):Heap:=
 ((((h.push { cls:=.type "tuple_iterator",data:=.fields #[.ref t,.int 0 0] }).push { cls:=.type "tuple_iterator",data:=.fields #[.ref u,.int 0 0] }).push { cls:=.type "tuple",data:=.seq #[.ref h.objs.size,.ref (h.objs.size+1)] }).push
  { cls:=.type "tuple",data:=.seq #[.none,.none] }).push { cls:=.type "zip",data:=.fields #[.none,.bool false,.bool false,.ref (h.objs.size+2),.ref (h.objs.size+3)] }
theorem an5 (t u:Addr) (xs ys:Array Value):Meets (Builtin.«zip.__new__» ⟨[.type "zip",.ref t,.ref u],[]⟩) (fun _ R s=>s.heap.IsTuple t xs/\s.heap.IsTuple u ys/\R (.ok (.ret (.ref (s.heap.objs.size+4)))) { s with heap:=fG s.heap t u }):=
 .of_wp fun prog w A R s h=>by
  obtain ⟨hp,g,d,tk,os⟩:=s
  obtain ⟨ht,hu,h⟩:=h
  have sub:=sub_zip
  have a1:Heap.IsTuple (Shared.heap ⟨hp,g,d,tk,os⟩) t xs:=ht
  have a2:Heap.IsTuple (Shared.heap ⟨hp.push { cls:=.type "tuple_iterator",data:=.fields #[.ref t,.int 0 0] },g,d,tk,os⟩) u ys:=hu.elim fun o y=>⟨o,aV9 _ y.1,y.2⟩
  wp_walk using bh6 a1,bh6 a2
  have e:∀ (o:Obj) (k:Heap),(k.push o).objs.size=k.objs.size+1:=fun o k=>be0 ..
  refine⟨_,rfl,?_⟩
  simp only [fG,e] at h ⊢
  exact h
section
variable {prog : Program} {w : World} {A : Around} {E : Value → Shared → Prop} {s : Shared}
theorem an6 {t u:Addr}{xs ys:Array Value}{Q:Value->Shared->Prop} (ht:s.heap.IsTuple t xs) (hu:s.heap.IsTuple u ys)
  (q:∀ h',IsZip h' (s.heap.objs.size+4) (s.heap.objs.size+2) (s.heap.objs.size+3) .none->IsPair h' (s.heap.objs.size+2) (.ref s.heap.objs.size) (.ref (s.heap.objs.size+1))->
   IsPair h' (s.heap.objs.size+3) .none .none->h'.IsTupleIter s.heap.objs.size t 0->h'.IsTupleIter (s.heap.objs.size+1) u 0->(∀ c o,s.heap.get? c=some o->h'.get? c=some o)->Q (.ref (s.heap.objs.size+4)) { s with heap:=h' }) :
  wpAny (model prog w) A (call (.type "zip") [.ref t,.ref u]) Q E s:=by
 refine callType_new PySem.F.called_zip (by decide) (PySem.F.typeCall_zip_2 _ _) (PySem.F.newCall_zip_2 _ _) (fun obj=>PySem.F.args_object_init_3 obj _ _) PySem.F.entry_zip_new (an5 t u xs ys) ⟨ht,hu,?_⟩
 have e:∀ (o:Obj) (k:Heap),(k.push o).objs.size=k.objs.size+1:=fun o k=>be0 ..
 have p0:∀ (k:Heap) (o:Obj) (m:Nat),o.isFreed=false->m=k.objs.size->(k.push o).get? m=some o:=fun k o m f z=>by rw [z]; exact aX4 _ f
 have g0:(fG s.heap t u).get? s.heap.objs.size=some { cls:=.type "tuple_iterator",data:=.fields #[.ref t,.int 0 0] }:=by
  unfold fG
  exact aV9 _ (aV9 _ (aV9 _ (aV9 _ (p0 _ _ _ rfl rfl))))
 have g1:(fG s.heap t u).get? (s.heap.objs.size+1)=some { cls:=.type "tuple_iterator",data:=.fields #[.ref u,.int 0 0] }:=by
  unfold fG
  exact aV9 _ (aV9 _ (aV9 _ (p0 _ _ _ rfl (by simp only [e]))))
 have g2:(fG s.heap t u).get? (s.heap.objs.size+2)=some { cls:=.type "tuple",data:=.seq #[.ref s.heap.objs.size,.ref (s.heap.objs.size+1)] }:=by
  unfold fG
  exact aV9 _ (aV9 _ (p0 _ _ _ rfl (by simp only [e])))
 have g3:(fG s.heap t u).get? (s.heap.objs.size+3)=some { cls:=.type "tuple",data:=.seq #[.none,.none] }:=by
  unfold fG
  exact aV9 _ (p0 _ _ _ rfl (by simp only [e]))
 have g4:(fG s.heap t u).get? (s.heap.objs.size+4)=some { cls:=.type "zip",data:=.fields #[.none,.bool false,.bool false,.ref (s.heap.objs.size+2),.ref (s.heap.objs.size+3)] }:=by
  unfold fG
  exact p0 _ _ _ rfl (by simp only [e])
 refine⟨⟨_,g4,rfl⟩,q _ g4 g2 g3 ⟨_,g0,rfl,rfl⟩ ⟨_,g1,rfl,rfl⟩ fun c o z=>?_⟩
 unfold fG
 exact aV9 _ (aV9 _ (aV9 _ (aV9 _ (aV9 _ z))))
end
end Zp
namespace L2
open PySem PySem.Spec PyProof.Rows
def u5 (K:PySem.W.Frag) (a b:Addr):It:=
  ⟨fun i H=>∃ xs ys x y,aL K H a xs/\aL K H b ys/\xs[i]? = some x/\ys[i]? = some y,
   fun i H v H'=>∃ T x y,H T=none/\v = .ref T/\H'=upd H T (.tup [x,y])/\∀ xs ys,aL K H a xs->aL K H b ys->xs[i]? = some x/\ys[i]? = some y,
   fun i H=>∃ xs ys,aL K H a xs/\aL K H b ys/\(i=xs.length ∨ (i < xs.length/\i=ys.length))⟩
def Sq (t:Bool) (K:PySem.W.Frag) (H:Hp) (a:Addr) (xs:List V):Prop:=match t with
 | true=>aL K H a xs
 | false=>aN K H a xs
def fH (t:Bool) (h:Heap) (i a:Addr) (n:Nat):Prop:=match t with
 | true=>h.IsTupleIter i a n
 | false=>h.IsListIter i a n
def zX (t:Bool) (h:Heap) (a:Addr) (xs:Array Value):Prop:=match t with
 | true=>h.IsTuple a xs
 | false=>h.IsList a xs
theorem fH.at {h h':Heap}{i a:Addr}{n:Nat}:∀ {t:Bool},fH t h i a n->(∀ o,h.get? i=some o->h'.get? i=some o)->fH t h' i a n
 | true,x,k=>Heap.IsTupleIter.at x k
 | false,x,k=>Heap.IsListIter.at x k
theorem fH.ob {h:Heap}{i a:Addr}{n:Nat}:∀ {t:Bool},fH t h i a n->∃ o,h.get? i=some o/\∀ v,o.data ≠ .cell v
 | true,⟨o,f,_,d⟩=>⟨o,f,fun v q=>by rw [d] at q; cases q⟩
 | false,⟨o,f,_,d⟩=>⟨o,f,fun v q=>by rw [d] at q; cases q⟩
theorem fH.draws {prog:Program}{w:World}{A:Around}:∀ (t:Bool) (hh:A.handled=none) (it a:Addr) (ne:a ≠ it) (items:Array Value),Draws prog w A it [it,a] items.size (fun i v=>items[i]? = some v) (fun i h=>fH t h it a i/\zX t h a items)
 | true,hh,it,a,ne,items=>Zp.an4 hh it a ne items
 | false,hh,it,a,ne,items=>Draws.list hh it a ne items
section
variable {X : Cx} {pins : List (Addr × Obj)} {σ : St} {H : Hp} {s : Shared} {a : Addr} {xs ys : List V}
theorem Sq.get (I:a8 X pins σ H s):∀ {t:Bool},Sq t X.K H a xs->∃ us,aI xs us/\zX t s.heap a us.toArray
 | true,h=>by obtain ⟨us,r,p,_⟩:=I.tuple h; exact⟨us,r,p⟩
 | false,h=>by obtain ⟨us,r,p,_⟩:=I.list h; exact⟨us,r,p.isList⟩
theorem Sq.inj (I:a8 X pins σ H s):∀ {t:Bool},Sq t X.K H a xs->Sq t X.K H a ys->xs=ys
 | true,h,g=>I.tuple_inj h g
 | false,h,g=>I.list_inj h g
theorem Sq.off (I:a8 X pins σ H s) (he:H a=none) (hb:X.base.get? a=none):∀ {t:Bool},Sq t X.K H a xs->False
 | true,h=>by
  rcases h with (h | ⟨_,h⟩) | ⟨o,_,_,h,_⟩
  ·rw [he] at h; cases h
  ·rw [he] at h; cases h
  ·have:=I.ok.mod.kin a o h
   rw [hb] at this; cases this
 | false,h=>by
  rcases h with (h | ⟨_,h⟩) | ⟨o,_,_,h,_⟩
  ·rw [he] at h; cases h
  ·rw [he] at h; cases h
  ·have:=I.ok.mod.kin a o h
   rw [hb] at this; cases this
end
def an7 (t1 t2:Bool) (K:PySem.W.Frag) (a b:Addr):It:=
  ⟨fun i H=>∃ xs ys x y,Sq t1 K H a xs/\Sq t2 K H b ys/\xs[i]? = some x/\ys[i]? = some y,
   fun i H v H'=>∃ T x y,H T=none/\v = .ref T/\H'=upd H T (.tup [x,y])/\∀ xs ys,Sq t1 K H a xs->Sq t2 K H b ys->xs[i]? = some x/\ys[i]? = some y,
   fun i H=>∃ xs ys,Sq t1 K H a xs/\Sq t2 K H b ys/\(i=xs.length ∨ (i < xs.length/\i=ys.length))⟩
structure u6 (t1 t2:Bool) (z TI TO i1 i2 a b:Addr) (i:Nat) (h:Heap):Prop where
 zz:IsZip h z TI TO .none
 ti:IsPair h TI (.ref i1) (.ref i2)
 to_:∃ x y,IsPair h TO x y
 s1:fH t1 h i1 a i
 s2:fH t2 h i2 b i
theorem zY (t1 t2:Bool) {P:Program}{w:World}{K:PySem.W.Frag}{elts:List Expr}{k:Nat}{pos:Pos} (a b z TI TO i1 i2:Addr) (d : [z,TI,TO,i1,i2].Nodup) :
  i8 P w K (.Tuple elts k pos) (an7 t1 t2 K a b) [z,TI,TO,i1,i2] z (u6 t1 t2 z TI TO i1 i2 a b):=by
 have nd:z ≠ TI/\z ≠ TO/\z ≠ i1/\z ≠ i2/\TI ≠ TO/\TI ≠ i1/\TI ≠ i2/\TO ≠ i1/\TO ≠ i2/\i1 ≠ i2:=by
  simp only [bl1,aW3,aX2,aZ8,not_or] at d
  obtain ⟨⟨a1,a2,a3,a4⟩,⟨b1,b2,b3⟩,⟨c1,c2⟩,e1,_⟩:=d
  exact⟨a1,a2,a3,a4,b1,b2,b3,c1,c2,e1⟩
 obtain ⟨n1,n2,n3,n4,n5,n6,n7,n8,n9,n10⟩:=nd
 have offBase:∀ {X:Cx}{pins:List (Addr × Obj)}{σ:St}{H:Hp}{s:Shared},a8 X pins σ H s->(∀ c ∈ [z,TI,TO,i1,i2],fB X pins H c)->∀ c ∈ [z,TI,TO,i1,i2],X.base.get? c=none:=by
  intro X pins σ H s I hf c hc
  cases q:X.base.get? c with
  | none=>rfl
  | some o=>
   rcases (hf c hc).2.2.2.1 with h | h
   ·exact absurd h (I.ok.noex c o q)
   ·exact absurd (aY0 (aX1 q) (aZ7 I.ok.bsz h)) (bf2 _)
 have off:∀ {t:Bool}{X:Cx}{pins:List (Addr × Obj)}{σ:St}{H:Hp}{s:Shared}{c:Addr}{zs:List V},a8 X pins σ H s->(∀ c ∈ [z,TI,TO,i1,i2],fB X pins H c)->Sq t X.K H c zs->c ∉ [z,TI,TO,i1,i2]:=by
  intro t X pins σ H s c zs I hf hc hm
  exact Sq.off I (hf c hm).1 (offBase I hf c hm) hc
 have ap:∀ {c e:Addr},c ∉ [z,TI,TO,i1,i2]->e ∉ [z,TI,TO,i1,i2]->Zp.Ap z TI TO i1 i2 [i1,c] [i2,e]:=fun {c e} hc he=>by
  simp only [aW3,aX2,aZ8,not_or] at hc he
  obtain ⟨c1,c2,c3,c4,c5⟩:=hc
  obtain ⟨e1,e2,e3,e4,e5⟩:=he
  have two:∀ {q u v:Addr},q ≠ u->q ≠ v->q ∉ [u,v]:=fun {q u v} h1 h2 hm=>by
   simp only [aW3,aX2,aZ8] at hm
   exact hm.elim h1 h2
  exact⟨n1.symm,n2.symm,n5,two n3 (Ne.symm c1),two n4 (Ne.symm e1),two n8 (Ne.symm c3),two n9 (Ne.symm e3),two n6 (Ne.symm c2),two n7 (Ne.symm e2),aX5,aX5,two n10 (Ne.symm e4),two n10.symm (Ne.symm c5)⟩
 refine⟨by simp,fun i h st c hc=>?_,fun i h h' st kp=>?_,?_,?_,fun A i s Q E st q=>wpAny_pyIter_zip st.zz q⟩
 ·simp only [aW3,aX2,aZ8] at hc
  obtain ⟨x,y,to⟩:=st.to_
  rcases hc with rfl | rfl | rfl | rfl | rfl
  ·exact⟨_,st.zz,fun v q=>by cases q⟩
  ·exact⟨_,st.ti,fun v q=>by cases q⟩
  ·exact⟨_,to,fun v q=>by cases q⟩
  ·exact st.s1.ob
  ·exact st.s2.ob
 ·obtain ⟨x,y,to⟩:=st.to_
  exact⟨kp z (by simp) _ st.zz,kp TI (by simp) _ st.ti,⟨x,y,kp TO (by simp) _ to⟩,st.s1.at fun o e=>kp i1 (by simp) o e,st.s2.at fun o e=>kp i2 (by simp) o e⟩
 ·
  intro X hP hw hK hc i pins s σ H E I hf st hg
  subst hP hw hK
  obtain ⟨xs,ys,x,y,ha,hb,hx,hy⟩:=hg
  obtain ⟨us,ru,pu⟩:=Sq.get I ha
  obtain ⟨vs,rv,pv'⟩:=Sq.get I hb
  obtain ⟨ux,eux,rux⟩:=ru.get hx
  obtain ⟨vy,evy,rvy⟩:=rv.get hy
  have fa:=off I hf ha
  have fb:=off I hf hb
  have hh:X.A.in1.handled=none:=I.ok.hd hc
  have l1:i < us.toArray.size:=by simpa using (aW9.mp eux).1
  have l2:i < vs.toArray.size:=by simpa using (aW9.mp evy).1
  have fa':a ≠ i1:=fun q=>fa (by rw [q]; simp)
  have fb':b ≠ i2:=fun q=>fb (by rw [q]; simp)
  have D1:=fH.draws t1 (prog:=X.prog) (w:=X.w) hh i1 a fa' us.toArray
  have D2:=fH.draws t2 (prog:=X.prog) (w:=X.w) hh i2 b fb' vs.toArray
  refine Zp.item D1 D2 (ap fa fb) l1 l2 ⟨st.zz,st.ti,st.to_,⟨st.s1,pu⟩,⟨st.s2,pv'⟩⟩ fun p q h' tk hp hq st' pr kp sz=>⟨_,rfl,?_⟩
  obtain rfl:p=ux:=by
   have:us.toArray[i]? = some ux:=by simpa using eux
   rw [this] at hp; exact (aY5 hp).symm
  obtain rfl:q=vy:=by
   have:vs.toArray[i]? = some vy:=by simpa using evy
   rw [this] at hq; exact (aY5 hq).symm
  refine wpAny_letOwnedTupleGo_zip (s:={ s with heap:=h',toks:=tk }) st'.zz fun g zz sb=>?_
  have hzl:z < s.heap.objs.size:=aX1 st.zz
  have up:∀ c o,c ≠ z->c ≠ TO->c ≠ i1->c ≠ i2->s.heap.get? c=some o->g.get? c=some o:=fun c o c1 c2 c3 c4 e=>sb.extBut c o c1 (kp c o c1 c2 c3 c4 e)
  have hT:H s.heap.objs.size=none:=I.hok.fresh (aW8 _)
  have prG:IsPair g s.heap.objs.size p q:=sb.extBut _ _ (bg3 hzl) pr
  have fpn:∀ c u,H c=some u->c ∉ [z,TI,TO,i1,i2]:=fun c u e hm=>by rw [(hf c hm).1] at e; cases e
  have upH:∀ c o u,H c=some u->s.heap.get? c=some o->g.get? c=some o:=fun c o u e z=>by
   have:=fpn c u e
   simp only [aW3,aX2,aZ8,not_or] at this
   exact up c o this.1 this.2.2.1 this.2.2.2.1 this.2.2.2.2 z
  have ns:∀ m,s.heap.Ns X.env.locals m->g.Ns X.env.locals m:=fun m hm=>by
   obtain ⟨o,es,ep,e1,e2⟩:=hm
   exact⟨o,es,ep,up _ o (Ne.symm (hf z (by simp)).2.1) (Ne.symm (hf TO (by simp)).2.1) (Ne.symm (hf i1 (by simp)).2.1) (Ne.symm (hf i2 (by simp)).2.1) e1,e2⟩
  have I2:a8 X pins σ (upd H s.heap.objs.size (.tup [x,y])) { s with heap:=g,toks:=tk }:=by
   refine I.step (g':=s.gens) (d':=s.drawn) (ch:=[z,TO,i1,i2]) (fun c hc'=>?_) (fun c o _ _ hc' e _=>?_) (fun c o _ _ hc' e _=>⟨o.slots,?_⟩) (fun c o _ e n=>?_) (fun c o hc' e=>⟨o,?_⟩)
    (fun c zs e=>by rw [aX (cU e hT)]; exact e) (fun c u zs e=>by rw [aX (cU e hT)]; exact e) (fun c ps e=>⟨#[],by rw [aX (cU e hT),e]; simp⟩) ns (fun c u e=>?_) I.bare
   ·have hm:c ∈ [z,TI,TO,i1,i2]:=by
     simp only [aW3,aX2,aZ8] at hc' ⊢
     rcases hc' with h | h | h | h <;> simp [h]
    exact⟨(hf c hm).2.2.2.1,(hf c hm).2.1,(hf c hm).2.2.2.2.1,(hf c hm).2.2.2.2.2⟩
   ·simp only [aW3,aX2,aZ8,not_or] at hc'
    exact up c o hc'.1 hc'.2.1 hc'.2.2.1 hc'.2.2.2 e
   ·simp only [aW3,aX2,aZ8,not_or] at hc'
    exact up c o hc'.1 hc'.2.1 hc'.2.2.1 hc'.2.2.2 e
   ·rw [aX (aZ0 (aX1 e))]; exact n
   ·simp only [aW3,aX2,aZ8,not_or] at hc'
    exact up c o hc'.1 hc'.2.1 hc'.2.2.1 hc'.2.2.2 e
   ·by_cases hcT:c=s.heap.objs.size
    ·subst hcT
     rw [bU] at e; cases e
     exact⟨by show 2<=sizeLine; decide,[p,q],.cons rux (.cons rvy .nil),⟨_,prG,rfl,_,rfl⟩,fun u e=>by rw [prG] at e; cases e; rfl⟩
    ·rw [aX hcT] at e
     refine (I.hok c u e).stay (fun c' o' hc2 q'=>?_) (fun c' q'=>by rw [aX (cU q' hT)]; exact q') fun c' zs q'=>by rw [aX (cU q' hT)]; exact q'
     rcases hc2 with rfl | hc2
     ·exact upH _ _ _ e q'
     ·exact upH _ _ _ hc2 q'
  obtain ⟨x',y',to'⟩:=st'.to_
  refine⟨.ref s.heap.objs.size,_,I2,rfl,⟨_,x,y,hT,rfl,rfl,fun xs' ys' ha' hb'=>?_⟩,⟨zz,sb.extBut _ _ n1.symm st'.ti,⟨x',y',sb.extBut _ _ n2.symm to'⟩,st'.s1.1.at fun o e=>sb.extBut _ o n3.symm e,st'.s2.1.at fun o e=>sb.extBut _ o n4.symm e⟩,fun c hc'=>?_⟩
  ·rw [Sq.inj I ha' ha,Sq.inj I hb' hb]; exact⟨hx,hy⟩
  ·obtain ⟨o,e,_⟩:∃ o,s.heap.get? c=some o/\True:=by
    simp only [aW3,aX2,aZ8] at hc'
    obtain ⟨x2,y2,to2⟩:=st.to_
    obtain ⟨o1,f1,_⟩:=st.s1.ob
    obtain ⟨o2,f2,_⟩:=st.s2.ob
    rcases hc' with rfl | rfl | rfl | rfl | rfl
    ·exact⟨_,st.zz,trivial⟩
    ·exact⟨_,st.ti,trivial⟩
    ·exact⟨_,to2,trivial⟩
    ·exact⟨_,f1,trivial⟩
    ·exact⟨_,f2,trivial⟩
   rw [aX (aZ0 (aX1 e))]; exact (hf c hc').1
 ·
  intro X hP hw hK hc i pins s σ H E I hf st hg
  subst hP hw hK
  obtain ⟨xs,ys,ha,hb,hi⟩:=hg
  obtain ⟨us,ru,pu⟩:=Sq.get I ha
  obtain ⟨vs,rv,pv'⟩:=Sq.get I hb
  have fa:=off I hf ha
  have fb:=off I hf hb
  have hh:X.A.in1.handled=none:=I.ok.hd hc
  have fa':a ≠ i1:=fun q=>fa (by rw [q]; simp)
  have fb':b ≠ i2:=fun q=>fb (by rw [q]; simp)
  have D1:=fH.draws t1 (prog:=X.prog) (w:=X.w) hh i1 a fa' us.toArray
  have D2:=fH.draws t2 (prog:=X.prog) (w:=X.w) hh i2 b fb' vs.toArray
  have e1:=ru.length
  have e2:=rv.length
  refine Zp.fin D1 D2 (ap fa fb) (by simp only [aW1]; omega) ⟨st.zz,st.ti,st.to_,⟨st.s1,pu⟩,⟨st.s2,pv'⟩⟩ fun g tk kp=>⟨rfl,?_⟩
  have fpn:∀ c u,H c=some u->c ∉ [z,TI,TO,i1,i2]:=fun c u e hm=>by rw [(hf c hm).1] at e; cases e
  have upH:∀ c o u,H c=some u->s.heap.get? c=some o->g.get? c=some o:=fun c o u e z=>by
   have:=fpn c u e
   simp only [aW3,aX2,aZ8,not_or] at this
   exact kp c o this.1 this.2.2.1 this.2.2.2.1 this.2.2.2.2 z
  have ns:∀ m,s.heap.Ns X.env.locals m->g.Ns X.env.locals m:=fun m hm=>by
   obtain ⟨o,es,ep,e1,e2⟩:=hm
   exact⟨o,es,ep,kp _ o (Ne.symm (hf z (by simp)).2.1) (Ne.symm (hf TO (by simp)).2.1) (Ne.symm (hf i1 (by simp)).2.1) (Ne.symm (hf i2 (by simp)).2.1) e1,e2⟩
  refine I.step (g':=s.gens) (d':=s.drawn) (ch:=[z,TO,i1,i2]) (fun c hc'=>?_) (fun c o _ _ hc' e _=>?_) (fun c o _ _ hc' e _=>⟨o.slots,?_⟩) (fun c o _ e n=>n) (fun c o hc' e=>⟨o,?_⟩)
   (fun c zs e=>e) (fun c u zs e=>e) (fun c ps e=>⟨#[],by rw [e]; simp⟩) ns (fun c u e=>?_) I.bare
  ·have hm:c ∈ [z,TI,TO,i1,i2]:=by
    simp only [aW3,aX2,aZ8] at hc' ⊢
    rcases hc' with h | h | h | h <;> simp [h]
   exact⟨(hf c hm).2.2.2.1,(hf c hm).2.1,(hf c hm).2.2.2.2.1,(hf c hm).2.2.2.2.2⟩
  ·simp only [aW3,aX2,aZ8,not_or] at hc'
   exact kp c o hc'.1 hc'.2.1 hc'.2.2.1 hc'.2.2.2 e
  ·simp only [aW3,aX2,aZ8,not_or] at hc'
   exact kp c o hc'.1 hc'.2.1 hc'.2.2.1 hc'.2.2.2 e
  ·simp only [aW3,aX2,aZ8,not_or] at hc'
   exact kp c o hc'.1 hc'.2.1 hc'.2.2.1 hc'.2.2.2 e
  ·refine (I.hok c u e).stay (fun c' o' hc2 q'=>?_) (fun _ q'=>q') fun _ _ q'=>q'
   rcases hc2 with rfl | hc2
   ·exact upH _ _ _ e q'
   ·exact upH _ _ _ hc2 q'
abbrev an8:=u6 true true
theorem an9 {P:Program}{w:World}{K:PySem.W.Frag}{elts:List Expr}{k:Nat}{pos:Pos} (a b z TI TO i1 i2:Addr) (d : [z,TI,TO,i1,i2].Nodup) :
  i8 P w K (.Tuple elts k pos) (u5 K a b) [z,TI,TO,i1,i2] z (an8 z TI TO i1 i2 a b):=zY true true a b z TI TO i1 i2 d
section
variable {X : Cx}
theorem ao0 (hc:X.calm=true):cH X (.builtin "all") (fun xs H Q=>∃ (a:Addr) (bs:List Bool),xs = [.ref a]/\aN X.K H a (bs.map V.bl)/\Q (.bl (bs.all id)) H):=by
 intro pins s σ H xs us Q I r h
 obtain ⟨a,bs,rfl,hq,q⟩:=h
 obtain ⟨u,rfl,ru⟩:=eQ r
 cases ru
 obtain ⟨its,rv,p,hz⟩:=I.list hq
 have hl:=rv.length
 rw [aW6] at hl
 have hlt:a < s.heap.objs.size:=by obtain ⟨o,e,_⟩:=p.isList; exact aX1 e
 refine call_all_walk (wpAny_pyIter_list p.isList ?_)
 have hh:X.A.in1.handled=none:=I.ok.hd hc
 refine⟨s.heap.objs.size,_,_,_,_,_,fun i=>bs.getD i false,rfl,Walks.list hh s.heap.objs.size a (aZ0 hlt) its.toArray,⟨⟨_,aX4 _ rfl,rfl,rfl⟩,p.isList.push _⟩,?_,fun h' tk kp=>?_⟩
 ·intro i v s' Q' E' hP hQ'
  have hi:its[i]? = some v:=by simpa using hP
  have hil:i < bs.length:=by rw [hl]; exact (aW9.mp hi).1
  obtain ⟨u,e1,e2⟩:=rv.get (i:=i) (x:=.bl bs[i]) (by simp [hil])
  rw [hi] at e1; cases e1
  cases e2
  have:bs.getD i false=bs[i]:=by rw [aX8,aW0 hil]; rfl
  have hQ2:Q' (bs.getD i false) s':=hQ'
  rw [this] at hQ2
  exact bj5 hQ2
 ·have all_eq:(List.range its.toArray.size).all (fun i=>bs.getD i false)=bs.all id:=by
   rw [aW1,<- hl]
   clear q rv hz hl hq hlt p hh kp
   induction bs with
   | nil=>rfl
   | cons b r ih=>
    rw [bb4,List.range_succ_eq_map,bk0,List.all_map,bk0,<- ih]
    rfl
  rw [all_eq]
  refine⟨.bl (bs.all id),H,I.kept (t':=tk) (h':=h') fun b o e=>kp b o (fun z=>?_) (aV9 _ e),rfl,q⟩
  rw [aX6.mp z] at e
  exact absurd (aX1 e) (bf2 _)
end
end L2
namespace HT
open PySem PyProof.Rows
section
variable {prog : Program} {w : World} {A : Around} {E : Value → Shared → Prop} {s : Shared}
theorem ao1 {t sl:Addr}{items:Array Value}{vl vu:Value}{lo hi:Option Int}{Q:Value->Shared->Prop} (ht:IsTup s.heap t items) (hs:s.heap.IsSliceOf sl vl vu .none) (pl:IsPart vl lo) (pu:IsPart vu hi)
  (h1:aV items.size 0 lo=0) (h2:aV items.size items.size hi=items.size) (h:Q (.ref t) s):wpAny (model prog w) A (getItem (.ref t) (.ref sl)) Q E s:=by
 obtain ⟨o,e1,e2,e3⟩:=id hs
 have T:s.TypeIs (.ref sl) "slice":=⟨o,e1,e2⟩
 unfold getItem
 try with_reducible refine bb0 ?_
 first | refine aV7 (aW2 ?_) | skip
 apply aV7
 apply wpAny_sequenceKey ht.typeIs (by decide)
 apply aV7
 apply bc1 (name:=Str.ofString "__getitem__") ht.typeIs bi6
 apply bc6 bi6 ht.typeIs entry_tuple_getitem _ (args_tuple_getitem _ _)
 change wpAny _ _ (Builtin.Tuple.tupleItemsOf (.ref t) >>= _) _ _ s
 apply aV7
 apply tupleItemsOf_ ht
 apply aV7
 apply wpAny_typeOf T
 rw [if_pos (by decide)]
 apply aV7
 apply yN hs pl pu
 rw [h1,h2]
 have yes:((((0:Nat):Int) == 0 && (1:Int) == 1 && (items.size - 0) == items.size)=true):=by simp
 change wpAny _ _ (if ((((0:Nat):Int) == 0 && (1:Int) == 1 && (items.size - 0) == items.size)=true) then _ else _) _ _ s
 rw [if_pos yes]
 apply aV7
 unfold Builtin.Tuple.tupleIsExact
 apply aV7
 apply wpAny_typeOf ht.typeIs
 apply aW2
 change wpAny _ _ (rule "tuple.getitem.whole" >>= fun _=>ret (Value.ref t)) _ _ s
 apply aV7
 apply bj8
 exact aW2 ⟨_,rfl,aW2 h⟩
end
end HT
namespace L2
open PySem PySem.Spec PyProof.Rows
section
variable {X : Cx}
def ao2 (K:PySem.W.Frag):V->Option Int->Option Int->Hp->VK->Prop:=fun x lo hi H Q=>∃ a xs,x = .ref a/\aL K H a xs/\(∀ p,H p=none->Q (.ref p) (upd H p (.tup (gQ xs lo hi))))/\(gQ xs lo hi=xs->Q (.ref a) H)
theorem ao3:jN X (ao2 X.K):=by
 intro pins s σ H x v vl vu lo hi sl Q I rx hs pl pu h
 obtain ⟨a,xs,ex,hx,q1,q2⟩:=h
 by_cases hw:HT.aV xs.length 0 lo=0/\HT.aV xs.length xs.length hi=xs.length
 ·subst ex
  cases rx
  obtain ⟨its,r,ht,hz⟩:=I.tuple hx
  have hlen:its.toArray.size=xs.length:=by rw [aW1]; exact r.length.symm
  refine⟨"tuple",_,PyProof.Rows.slot_tuple_getitem.lookup,ht.typeIs,?_⟩
  refine HT.ao1 ht hs pl pu (by rw [hlen]; exact hw.1) (by rw [hlen]; exact hw.2) ⟨.ref a,H,I,rfl,q2 ?_⟩
  unfold gQ
  rw [hw.1,hw.2]
  simp
 ·exact ai4 pins s σ H x v vl vu lo hi sl Q I rx hs pl pu ⟨a,xs,ex,hx,hw,q1⟩
end
def u7 (K:PySem.W.Frag) (a b:Addr):It:=
  ⟨fun i H=>∃ xs ys x y,aN K H a xs/\aN K H b ys/\xs[i]? = some x/\ys[i]? = some y,
   fun i H v H'=>∃ T x y,H T=none/\v = .ref T/\H'=upd H T (.tup [x,y])/\∀ xs ys,aN K H a xs->aN K H b ys->xs[i]? = some x/\ys[i]? = some y,
   fun i H=>∃ xs ys,aN K H a xs/\aN K H b ys/\(i=xs.length ∨ (i < xs.length/\i=ys.length))⟩
abbrev ao4:=u6 false false
theorem ao5 {P:Program}{w:World}{K:PySem.W.Frag}{elts:List Expr}{k:Nat}{pos:Pos} (a b z TI TO i1 i2:Addr) (d : [z,TI,TO,i1,i2].Nodup) :
  i8 P w K (.Tuple elts k pos) (u7 K a b) [z,TI,TO,i1,i2] z (ao4 z TI TO i1 i2 a b):=zY false false a b z TI TO i1 i2 d
end L2
namespace PP
open PySem L2
inductive PV where
 | non | bl (b:Bool) | int (i:Int) | str (x:Str) | tup (xs:List PV) | lst (xs:List PV)
 | dK (kvs:List (aM × PV)) | dT (kvs:List (List aM × PV)) | scr (ns:List Int) | kt (xs:List PV) | exc (c:Str) | fK (kvs:List (aM × PV)) | fT (kvs:List (List aM × PV))
mutual
def flat:PV->Bool
 | .tup xs=>flats xs
 | .lst _=>false
 | .dK _=>false
 | .dT _=>false
 | .non=>true
 | .bl _=>true
 | .int _=>true
 | .str _=>true
 | .scr _=>true
 | .kt xs=>flats xs
 | .exc _=>true
 | .fK _=>false
 | .fT _=>false
def flats:List PV->Bool
 | []=>true
 | x :: r=>flat x && flats r
end
def iW (K:PySem.W.Frag) (H:Hp) (a:Addr) (ns:List Int):Prop:=(∃ o,H a=some (.frz o (.lst (ns.map V.int)))) ∨
  ∃ (o:Obj) (its:Array Value) (n:Nat),K.lookup a=some o/\o.cls = .type "list"/\o.dict=none/\o.data = .seq its n/\its.size<=sizeLine/\aI (ns.map V.int) its.toList
def lI (K:PySem.W.Frag) (a:Addr) (us:List V):Prop:=∃ (o:Obj) (its:Array Value) (n:Nat),K.lookup a=some o/\o.cls = .type "tuple"/\o.data = .seq its n/\its.size<=sizeLine/\aI us its.toList
mutual
inductive aE (K:PySem.W.Frag) (M:Addr->Prop) (H:Hp):V->PV->Prop
 | non:aE K M H .non .non
 | bl (b:Bool):aE K M H (.bl b) (.bl b)
 | int (i:Int):aE K M H (.int i) (.int i)
 | str (x:Str):aE K M H (.str x) (.str x)
 | tup {a:Addr}{us:List V}{xs:List PV}:H a=some (.tup us)->Reps K M H us xs->aE K M H (.ref a) (.tup xs)
 | lst {a:Addr}{us:List V}{xs:List PV}:M a->H a=some (.lst us)->Reps K M H us xs->aE K M H (.ref a) (.lst xs)
 | dK {a:Addr}{kvs:List (aM × V)}{ps:List (aM × PV)}:M a->H a=some (.dK kvs)->kvs.map (·.1)=ps.map (·.1)->Reps K M H (kvs.map (·.2)) (ps.map (·.2))->aE K M H (.ref a) (.dK ps)
 | dT {a:Addr}{kvs:List (List aM × V)}{ps:List (List aM × PV)}:M a->H a=some (.dT kvs)->kvs.map (·.1)=ps.map (·.1)->Reps K M H (kvs.map (·.2)) (ps.map (·.2))->aE K M H (.ref a) (.dT ps)
 | scr {a:Addr}{ns:List Int}:iW K H a ns->aE K M H (.ref a) (.scr ns)
 | kt {a:Addr}{us:List V}{xs:List PV}:lI K a us->Reps K M H us xs->aE K M H (.ref a) (.kt xs)
 | exc {a C:Addr}{o:Obj}{c:Str}:H a=some (.frz o (.own a))->PySem.W.nsIn K mainGlobals c=some (some (.ref C))->o.cls = .ref C->aE K M H (.ref a) (.exc c)
 | fK {a:Addr}{o:Obj}{kvs:List (aM × V)}{ps:List (aM × PV)}:H a=some (.frz o (.dK kvs))->kvs.map (·.1)=ps.map (·.1)->Reps K M H (kvs.map (·.2)) (ps.map (·.2))->aE K M H (.ref a) (.fK ps)
 | fT {a:Addr}{o:Obj}{kvs:List (List aM × V)}{ps:List (List aM × PV)}:H a=some (.frz o (.dT kvs))->kvs.map (·.1)=ps.map (·.1)->Reps K M H (kvs.map (·.2)) (ps.map (·.2))->aE K M H (.ref a) (.fT ps)
inductive Reps (K:PySem.W.Frag) (M:Addr->Prop) (H:Hp):List V->List PV->Prop
 | nil:Reps K M H [] []
 | cons {v:V}{x:PV}{vs:List V}{xs:List PV}:aE K M H v x->Reps K M H vs xs->Reps K M H (v :: vs) (x :: xs)
end
structure i9 (M M':Addr->Prop) (H H':Hp):Prop where
 lst:∀ a us,M a->H a=some (.lst us)->M' a/\H' a=some (.lst us)
 dK:∀ a kvs,M a->H a=some (.dK kvs)->M' a/\H' a=some (.dK kvs)
 dT:∀ a kvs,M a->H a=some (.dT kvs)->M' a/\H' a=some (.dT kvs)
 tup:∀ a us,H a=some (.tup us)->H' a=some (.tup us)
 frz:∀ a o u,H a=some (.frz o u)->H' a=some (.frz o u)
theorem iW.keep {K:PySem.W.Frag}{H H':Hp}{a:Addr}{ns:List Int} (k:∀ a o u,H a=some (.frz o u)->H' a=some (.frz o u)) (h:iW K H a ns):iW K H' a ns:=
 h.elim (fun ⟨o,e⟩=>.inl ⟨o,k _ _ _ e⟩) .inr
mutual
theorem aE.keep {K:PySem.W.Frag}{M M':Addr->Prop}{H H':Hp} (k:i9 M M' H H'):∀ {v:V}{x:PV},aE K M H v x->aE K M' H' v x
 | _,_,.non=>.non
 | _,_,.bl b=>.bl b
 | _,_,.int i=>.int i
 | _,_,.str x=>.str x
 | _,_,.tup h r=>.tup (k.tup _ _ h) (Reps.keep k r)
 | _,_,.lst m h r=>.lst (k.lst _ _ m h).1 (k.lst _ _ m h).2 (Reps.keep k r)
 | _,_,.dK m h e r=>.dK (k.dK _ _ m h).1 (k.dK _ _ m h).2 e (Reps.keep k r)
 | _,_,.dT m h e r=>.dT (k.dT _ _ m h).1 (k.dT _ _ m h).2 e (Reps.keep k r)
 | _,_,.scr h=>.scr (h.keep k.frz)
 | _,_,.kt h r=>.kt h (Reps.keep k r)
 | _,_,.exc h e c=>.exc (k.frz _ _ _ h) e c
 | _,_,.fK h e r=>.fK (k.frz _ _ _ h) e (Reps.keep k r)
 | _,_,.fT h e r=>.fT (k.frz _ _ _ h) e (Reps.keep k r)
theorem Reps.keep {K:PySem.W.Frag}{M M':Addr->Prop}{H H':Hp} (k:i9 M M' H H'):∀ {vs:List V}{xs:List PV},Reps K M H vs xs->Reps K M' H' vs xs
 | _,_,.nil=>.nil
 | _,_,.cons r t=>.cons (aE.keep k r) (Reps.keep k t)
end
mutual
theorem aE.flat {K:PySem.W.Frag}{M M':Addr->Prop}{H:Hp}{v:V}{x:PV} (f:flat x=true) (r:aE K M H v x):aE K M' H v x:=by
 cases r with
 | non=>exact .non
 | bl b=>exact .bl b
 | int i=>exact .int i
 | str x=>exact .str x
 | tup h r=>exact .tup h (Reps.flat (by unfold PP.flat at f; exact f) r)
 | lst m h r=>unfold PP.flat at f; cases f
 | dK m h e r=>unfold PP.flat at f; cases f
 | dT m h e r=>unfold PP.flat at f; cases f
 | scr h=>exact .scr h
 | kt h r=>exact .kt h (Reps.flat (by unfold PP.flat at f; exact f) r)
 | exc h e c=>exact .exc h e c
 | fK h e r=>unfold PP.flat at f; cases f
 | fT h e r=>unfold PP.flat at f; cases f
theorem Reps.flat {K:PySem.W.Frag}{M M':Addr->Prop}{H:Hp}{vs:List V}{xs:List PV} (f:flats xs=true) (r:Reps K M H vs xs):Reps K M' H vs xs:=by
 cases r with
 | nil=>exact .nil
 | cons r t=>
  unfold PP.flats at f
  rw [bg4] at f
  exact .cons (aE.flat f.1 r) (Reps.flat f.2 t)
end
theorem i9.same {M M':Addr->Prop}{H H':Hp} (s:aD H H') (m:∀ a,M a->M' a):i9 M M' H H':=
 ⟨fun a _ h e=>⟨m a h,s _ _ e⟩,fun a _ h e=>⟨m a h,s _ _ e⟩,fun a _ h e=>⟨m a h,s _ _ e⟩,fun _ _ e=>s _ _ e,fun _ _ _ e=>s _ _ e⟩
theorem aE.same {K:PySem.W.Frag}{M M':Addr->Prop}{H H':Hp}{v:V}{x:PV} (r:aE K M H v x) (s:aD H H') (m:∀ a,M a->M' a):aE K M' H' v x:=r.keep (.same s m)
theorem Reps.same {K:PySem.W.Frag}{M M':Addr->Prop}{H H':Hp}{v:List V}{x:List PV} (r:Reps K M H v x) (s:aD H H') (m:∀ a,M a->M' a):Reps K M' H' v x:=r.keep (.same s m)
def eV:HO->Bool
 | .lst _=>true
 | .dK _=>true
 | .dT _=>true
 | _=>false
theorem i9.upd {M M':Addr->Prop}{H:Hp}{a:Addr}{o o':HO} (h:H a=some o') (mu:eV o'=true) (m:∀ b,M b->b ≠ a/\M' b):i9 M M' H (upd H a o):=
 ⟨fun b _ hb e=>⟨(m b hb).2,by rw [aX (m b hb).1]; exact e⟩,fun b _ hb e=>⟨(m b hb).2,by rw [aX (m b hb).1]; exact e⟩,fun b _ hb e=>⟨(m b hb).2,by rw [aX (m b hb).1]; exact e⟩,
  fun b _ e=>by rw [aX (fun z=>by rw [z,h] at e; cases e; cases mu)]; exact e,
  fun b _ _ e=>by rw [aX (fun z=>by rw [z,h] at e; cases e; cases mu)]; exact e⟩
theorem Reps.length {K:PySem.W.Frag}{M:Addr->Prop}{H:Hp}:∀ {vs:List V}{xs:List PV},Reps K M H vs xs->vs.length=xs.length
 | _,_,.nil=>rfl
 | _,_,.cons _ t=>congrArg (· + 1) t.length
theorem Reps.get {K:PySem.W.Frag}{M:Addr->Prop}{H:Hp}:∀ {vs:List V}{xs:List PV}{i:Nat}{v:V},Reps K M H vs xs->vs[i]? = some v->∃ x,xs[i]? = some x/\aE K M H v x
 | _,_,_,_,.nil,e=>by simp at e
 | _,_,0,_,.cons r _,e=>by simp at e; subst e; exact⟨_,rfl,r⟩
 | _,_,i+1,v,.cons _ t,e=>by
  rw [ba4] at e
  obtain ⟨x,h1,h2⟩:=t.get e
  exact⟨x,by rw [ba4]; exact h1,h2⟩
theorem Reps.at {K:PySem.W.Frag}{M:Addr->Prop}{H:Hp}:∀ {vs:List V}{xs:List PV}{i:Nat}{x:PV},Reps K M H vs xs->xs[i]? = some x->∃ v,vs[i]? = some v/\aE K M H v x
 | _,_,_,_,.nil,e=>by simp at e
 | _,_,0,_,.cons r _,e=>by simp at e; subst e; exact⟨_,rfl,r⟩
 | _,_,i+1,v,.cons _ t,e=>by
  rw [ba4] at e
  obtain ⟨x,h1,h2⟩:=t.at e
  exact⟨x,by rw [ba4]; exact h1,h2⟩
theorem Reps.append {K:PySem.W.Frag}{M:Addr->Prop}{H:Hp}:∀ {vs:List V}{xs:List PV}{us:List V}{ys:List PV},Reps K M H vs xs->Reps K M H us ys->Reps K M H (vs ++ us) (xs ++ ys)
 | _,_,_,_,.nil,s=>s
 | _,_,_,_,.cons r t,s=>.cons r (t.append s)
theorem Reps.set {K:PySem.W.Frag}{M:Addr->Prop}{H:Hp}{v:V}{x:PV} (q:aE K M H v x):∀ (i:Nat) {vs:List V}{xs:List PV},Reps K M H vs xs->Reps K M H (vs.set i v) (xs.set i x)
 | _,_,_,.nil=>.nil
 | 0,_,_,.cons r t=>.cons q t
 | i+1,_,_,.cons r t=>.cons r (Reps.set q i t)
theorem Reps.take {K:PySem.W.Frag}{M:Addr->Prop}{H:Hp}:∀ (n:Nat) {vs:List V}{xs:List PV},Reps K M H vs xs->Reps K M H (vs.take n) (xs.take n)
 | 0,_,_,_=>by simp; exact .nil
 | _+1,_,_,.nil=>.nil
 | n+1,_,_,.cons r t=>.cons r (Reps.take n t)
theorem Reps.drop {K:PySem.W.Frag}{M:Addr->Prop}{H:Hp}:∀ (n:Nat) {vs:List V}{xs:List PV},Reps K M H vs xs->Reps K M H (vs.drop n) (xs.drop n)
 | 0,_,_,r=>r
 | _+1,_,_,.nil=>.nil
 | n+1,_,_,.cons _ t=>Reps.drop n t
theorem Reps.eraseIdx {K:PySem.W.Frag}{M:Addr->Prop}{H:Hp}:∀ (n:Nat) {vs:List V}{xs:List PV},Reps K M H vs xs->Reps K M H (vs.eraseIdx n) (xs.eraseIdx n)
 | _,_,_,.nil=>.nil
 | 0,_,_,.cons _ t=>t
 | n+1,_,_,.cons r t=>.cons r (Reps.eraseIdx n t)
abbrev intz (ns:List Int):List PV:=ns.map PV.int
theorem Reps.intz {K:PySem.W.Frag}{M:Addr->Prop}{H:Hp}:∀ (ns:List Int),Reps K M H (ns.map V.int) (intz ns)
 | []=>.nil
 | n :: r=>.cons (.int n) (Reps.intz r)
theorem Reps.ofInts {K:PySem.W.Frag}{M:Addr->Prop}{H:Hp}:∀ {ns:List Int}{us:List V},Reps K M H us (PP.intz ns)->us=ns.map V.int
 | [],_,.nil=>rfl
 | n :: r,_,.cons q t=>by
  cases q
  rw [Reps.ofInts t]; rfl
theorem nC:∀ (ns:List Int),flats (intz ns)=true
 | []=>rfl
 | n :: r=>by show (flat (.int n) && flats (intz r))=true; rw [nC r]; rfl
inductive Tg | rd | sh | nw | fr
inductive Slot | sh (g:Bool) (x:PV) | own (x:PV)
def Slot.val:Slot->PV
 | .sh _ x=>x
 | .own x=>x
def Slot.tag:Slot->Tg
 | .sh true _=>.nw
 | .sh false _=>.sh
 | .own _=>.rd
abbrev bA:=List (Option Slot)
def Ms (H0:Hp) (W:Addr->Prop):Bool->Addr->Prop
 | false,a=>¬ W a
 | true,a=>¬ W a/\H0 a=none
def Mg (H0:Hp) (W:Addr->Prop) (Hs:Hp):Tg->Addr->Prop
 | .rd,_=>True
 | .sh,a=>¬ W a
 | .nw,a=>¬ W a/\H0 a=none
 | .fr,a=>Hs a=none
def gV (K:PySem.W.Frag) (M:Addr->Prop) (H:Hp) (a:Addr):PV->Prop
 | .lst xs=>∃ us,H a=some (.lst us)/\Reps K M H us xs
 | .dK ps=>∃ kvs,H a=some (.dK kvs)/\kvs.map (·.1)=ps.map (·.1)/\Reps K M H (kvs.map (·.2)) (ps.map (·.2))
 | .dT ps=>∃ kvs,H a=some (.dT kvs)/\kvs.map (·.1)=ps.map (·.1)/\Reps K M H (kvs.map (·.2)) (ps.map (·.2))
 | _=>False
def zZ (K:PySem.W.Frag) (H0:Hp) (W:Addr->Prop) (H:Hp) (v:V):Slot->Prop
 | .sh g x=>aE K (Ms H0 W g) H v x
 | .own x=>∃ a,v = .ref a/\W a/\gV K (Ms H0 W true) H a x
structure PX (K:PySem.W.Frag) (H0:Hp) (W:Addr->Prop) (σ:St) (ρ:bA) (H:Hp):Prop where
 len:ρ.length=σ.length
 same:aD H0 H
 wm:∀ a,W a->H0 a=none/\∃ o,H a=some o/\eV o=true
 sl:∀ (i:Nat) (m:Slot),ρ[i]? = some (some m)->∃ v,σ[i]? = some (some v)/\zZ K H0 W H v m
 dis:∀ (i j:Nat) (x y:PV) (a:Addr),ρ[i]? = some (some (.own x))->ρ[j]? = some (some (.own y))->σ[i]? = some (some (.ref a))->σ[j]? = some (some (.ref a))->i=j
theorem gV.keep {K:PySem.W.Frag}{M M':Addr->Prop}{H H':Hp}{a:Addr} (k:i9 M M' H H') (ha:∀ o,H a=some o->H' a=some o):∀ {x:PV},gV K M H a x->gV K M' H' a x
 | .lst _,⟨us,e,r⟩=>⟨us,ha _ e,r.keep k⟩
 | .dK _,⟨us,e,q,r⟩=>⟨us,ha _ e,q,r.keep k⟩
 | .dT _,⟨us,e,q,r⟩=>⟨us,ha _ e,q,r.keep k⟩
theorem gV.at {K:PySem.W.Frag}{M:Addr->Prop}{H:Hp}{a:Addr}:∀ {x:PV},gV K M H a x->∃ o,H a=some o/\eV o=true
 | .lst _,⟨us,e,r⟩=>⟨_,e,rfl⟩
 | .dK _,⟨us,e,q,r⟩=>⟨_,e,rfl⟩
 | .dT _,⟨us,e,q,r⟩=>⟨_,e,rfl⟩
theorem gV.rep {K:PySem.W.Frag}{M M':Addr->Prop}{H:Hp}{a:Addr} (m:∀ b,M b->M' b) (ha:M' a):∀ {x:PV},gV K M H a x->aE K M' H (.ref a) x
 | .lst _,⟨us,e,r⟩=>.lst ha e (r.same (aD.refl _) m)
 | .dK _,⟨us,e,q,r⟩=>.dK ha e q (r.same (aD.refl _) m)
 | .dT _,⟨us,e,q,r⟩=>.dT ha e q (r.same (aD.refl _) m)
section
variable {K : PySem.W.Frag} {H0 : Hp} {W W' : Addr → Prop} {σ : St} {ρ : bA} {H H' : Hp}
theorem PX.mono (p:PX K H0 W σ ρ H) (s:aD H H'):PX K H0 W σ ρ H':=by
 refine⟨p.len,p.same.trans s,fun a h=>⟨(p.wm a h).1,let ⟨o,e,m⟩:=(p.wm a h).2; ⟨o,s _ _ e,m⟩⟩,fun i m h=>?_,p.dis⟩
 obtain ⟨v,e,r⟩:=p.sl i m h
 refine⟨v,e,?_⟩
 cases m with
 | sh g x=>exact aE.same r s fun _ z=>z
 | own x=>
  obtain ⟨a,e1,e2,r⟩:=r
  exact⟨a,e1,e2,r.keep (.same s fun _ z=>z) fun _ z=>s _ _ z⟩
theorem PX.new (p:PX K H0 W σ ρ H) {a:Addr} (h:H a=none) : ¬ W a/\H0 a=none:=
 ⟨fun z=>(by obtain ⟨_,o,e,_⟩:=p.wm a z; rw [h] at e; cases e),p.same.free h⟩
theorem Mg.back {g:Tg}{H1:Hp} (s:aD H H1) {a:Addr} (h:Mg H0 W H1 g a):Mg H0 W H g a:=by
 cases g with
 | fr=>exact s.free h
 | rd=>exact h
 | sh=>exact h
 | nw=>exact h
end
abbrev PK:=PV->Tg->Prop
abbrev aC:=bA->PK->Prop
abbrev cO:=bA->(Bool->Prop)->Prop
abbrev cB:=bA->(List (PV × Tg)->Prop)->Prop
inductive gB (K:PySem.W.Frag) (H0:Hp) (W:Addr->Prop) (Hs H:Hp):List V->List (PV × Tg)->Prop
 | nil:gB K H0 W Hs H [] []
 | cons {v:V}{x:PV}{g:Tg}{vs:List V}{xs:List (PV × Tg)}:aE K (Mg H0 W Hs g) H v x->gB K H0 W Hs H vs xs->gB K H0 W Hs H (v :: vs) ((x,g) :: xs)
def pG (K:PySem.W.Frag) (H0:Hp) (W:Addr->Prop) (H:Hp) (Q:PK) (Q':VK):Prop:=∀ v H' x g,aD H H'->aE K (Mg H0 W H g) H' v x->Q x g->Q' v H'
def LE (X:Cx) (t:aC):TE:=fun σ H Q'=>∃ (W:Addr->Prop) (ρ:bA) (Q:PK),PX X.K X.H₀ W σ ρ H/\t ρ Q/\pG X.K X.H₀ W H Q Q'
def LT (X:Cx) (t:cO):TT:=fun σ H Q'=>∃ (W:Addr->Prop) (ρ:bA) (Q:Bool->Prop),PX X.K X.H₀ W σ ρ H/\t ρ Q/\∀ b H',aD H H'->Q b->Q' b H'
def LA (X:Cx) (t:cB):TA:=fun σ H Q'=>∃ (W:Addr->Prop) (ρ:bA) (Q:List (PV × Tg)->Prop),PX X.K X.H₀ W σ ρ H/\t ρ Q/\∀ vs H' xs,aD H H'->gB X.K X.H₀ W H H' vs xs->Q xs->Q' vs H'
theorem gB.same {K:PySem.W.Frag}{H0:Hp}{W:Addr->Prop}{Hs Hs' H H':Hp} (s:aD H H') (b:aD Hs' Hs):∀ {vs:List V}{xs:List (PV × Tg)},gB K H0 W Hs H vs xs->gB K H0 W Hs' H' vs xs
 | _,_,.nil=>.nil
 | _,_,.cons r t=>.cons (r.same s fun _ z=>Mg.back b z) (t.same s b)
theorem gB.any {K:PySem.W.Frag}{H0:Hp}{W:Addr->Prop}{Hs H:Hp}:∀ {vs:List V}{xs:List (PV × Tg)},gB K H0 W Hs H vs xs->Reps K (fun _=>True) H vs (xs.map (·.1))
 | _,_,.nil=>.nil
 | _,_,.cons r t=>.cons (r.same (aD.refl _) fun _ _=>trivial) t.any
def Nw:Tg->PV->Prop
 | .fr,_=>True
 | .nw,_=>True
 | _,x=>flat x=true
def nD (xs:List (PV × Tg)):Prop:=∀ p ∈ xs,Nw p.2 p.1
section
variable {K : PySem.W.Frag} {H0 Hs H : Hp} {W : Addr → Prop} {σ : St} {ρ : bA}
theorem Nw.rep {g:Tg}{x:PV}{v:V} (px:PX K H0 W σ ρ Hs) (n:Nw g x) (r:aE K (Mg H0 W Hs g) H v x):aE K (Ms H0 W true) H v x:=by
 cases g with
 | fr=>exact r.same (aD.refl _) fun a z=>px.new z
 | nw=>exact r.same (aD.refl _) fun a z=>z
 | sh=>exact r.flat n
 | rd=>exact r.flat n
theorem nD.reps {vs:List V}:∀ {xs:List (PV × Tg)}{vs:List V},PX K H0 W σ ρ Hs->nD xs->gB K H0 W Hs H vs xs->Reps K (Ms H0 W true) H vs (xs.map (·.1))
 | _,_,px,n,.nil=>.nil
 | _,_,px,n,.cons r t=>.cons (Nw.rep px (n _ aX5) r) (nD.reps (vs:=vs) px (fun p hp=>n p (aW7 _ hp)) t)
theorem A0 {v:V}{m:Slot} (r:zZ K H0 W H v m):aE K (Mg H0 W Hs m.tag) H v m.val:=by
 cases m with
 | sh g x=>
  cases g with
  | true=>exact aE.same r (aD.refl _) fun _ z=>z
  | false=>exact aE.same r (aD.refl _) fun _ z=>z
 | own x=>
  obtain ⟨a,rfl,_,r⟩:=r
  exact r.rep (fun _ _=>trivial) trivial
end
section
variable {X : Cx} {σ : St} {H : Hp} {Q' : VK} {ta tb : aC}
def a5 (i:Nat):aC:=fun ρ Q=>∃ m,ρ[i]? = some (some m)/\Q m.val m.tag
def qC (x:PV):aC:=fun _ Q=>Q x .fr
theorem ao6 {i:Nat} (h:LE X (a5 i) σ H Q'):iN i σ H Q':=by
 obtain ⟨W,ρ,Q,px,⟨m,e,q⟩,k⟩:=h
 obtain ⟨v,ev,r⟩:=px.sl i m e
 exact⟨v,ev,k v H _ _ (aD.refl _) (A0 r) q⟩
theorem nE {x:PV}{v:V} (hr:∀ M,aE X.K M H v x) (h:LE X (qC x) σ H Q'):tC v σ H Q':=by
 obtain ⟨W,ρ,Q,px,q,k⟩:=h
 exact k v H _ _ (aD.refl _) (hr _) q
def dD (X:Cx) (R:PV->Tg->PV->Tg->PK->Prop) (r:R2):Prop:=∀ (W:Addr->Prop) (Hs H:Hp) (u v:V) (x y:PV) (g g':Tg) (Q:PK) (Q':VK),aD Hs H->
 (∀ a,Hs a=none->¬ W a/\X.H₀ a=none)->aE X.K (Mg X.H₀ W Hs g) H u x->aE X.K (Mg X.H₀ W Hs g') H v y->R x g y g' Q->(∀ w H' z gz,aD H H'->aE X.K (Mg X.H₀ W Hs gz) H' w z->Q z gz->Q' w H')->r u v H Q'
def q2 (R:PV->Tg->PV->Tg->PK->Prop) (ta tb:aC):aC:=fun ρ Q=>ta ρ fun x g=>tb ρ fun y g'=>R x g y g' Q
theorem pH {R:PV->Tg->PV->Tg->PK->Prop}{r:R2} (c:dD X R r) (h:LE X (q2 R ta tb) σ H Q'):mU r (LE X ta) (LE X tb) σ H Q':=by
 obtain ⟨W,ρ,Q,px,q,k⟩:=h
 refine⟨W,ρ,_,px,q,fun u H1 x g s1 r1 q1=>⟨W,ρ,_,px.mono s1,q1,fun v H2 y g' s2 r2 q2=>?_⟩⟩
 exact c W H H2 u v x y g g' Q Q' (s1.trans s2) (fun a z=>px.new z) (r1.same s2 fun _ z=>z) (r2.same (aD.refl _) fun _ z=>Mg.back s1 z) q2 fun w H' z gz s3 r3 q3=>k w H' z gz ((s1.trans s2).trans s3) r3 q3
def RI (C:Int->Int->Prop) (f:Int->Int->PV):PV->Tg->PV->Tg->PK->Prop:=fun x _ y _ Q=>∃ i j,x = .int i/\y = .int j/\C i j/\Q (f i j) .fr
def dW (f:Int->Int->PV):PV->Tg->PV->Tg->PK->Prop:=fun x _ y _ Q=>∃ i j,x = .int i/\y = .int j/\Q (f i j) .fr
theorem pI {C:Int->Int->Prop}{f:Int->Int->Int}:dD X (RI C fun i j=>.int (f i j)) (rI C fun i j=>.int (f i j)):=by
 rintro W Hs H u v x y g g' Q Q' s n r1 r2 ⟨i,j,rfl,rfl,c,q⟩ k
 cases r1; cases r2
 exact⟨i,j,rfl,rfl,c,k _ _ _ _ (aD.refl _) (.int _) q⟩
theorem A1 {f:Int->Int->Int}:dD X (dW fun i j=>.int (f i j)) (gP fun i j=>.int (f i j)):=by
 rintro W Hs H u v x y g g' Q Q' s n r1 r2 ⟨i,j,rfl,rfl,q⟩ k
 cases r1; cases r2
 exact⟨i,j,rfl,rfl,k _ _ _ _ (aD.refl _) (.int _) q⟩
theorem lJ {f:Int->Int->Bool}:dD X (dW fun i j=>.bl (f i j)) (gP fun i j=>.bl (f i j)):=by
 rintro W Hs H u v x y g g' Q Q' s n r1 r2 ⟨i,j,rfl,rfl,q⟩ k
 cases r1; cases r2
 exact⟨i,j,rfl,rfl,k _ _ _ _ (aD.refl _) (.bl _) q⟩
def lK (neg:Bool):PV->Tg->PV->Tg->PK->Prop:=fun x _ y _ Q=>(∃ i j,x = .int i/\y = .int j/\Q (.bl (if neg=true then !decide (i=j) else decide (i=j))) .fr) ∨ (∃ i j,x = .bl i/\y = .bl j/\Q (.bl (if neg=true then !decide (i=j) else decide (i=j))) .fr)
theorem A2 (i j:Int):decide (V.int i=V.int j)=decide (i=j):=by
 rw [bf0,aY7,aY7]; exact⟨fun z=>V.int.inj z,fun z=>congrArg V.int z⟩
theorem A3 (i j:Bool):decide (V.bl i=V.bl j)=decide (i=j):=by
 rw [bf0,aY7,aY7]; exact⟨fun z=>V.bl.inj z,fun z=>congrArg V.bl z⟩
theorem ao7:dD X (lK false) sZ:=by
 rintro W Hs H u v x y g g' Q Q' s n r1 r2 (⟨i,j,rfl,rfl,q⟩ | ⟨i,j,rfl,rfl,q⟩) k
 ·cases r1; cases r2
  exact⟨rfl,by rw [A2]; exact k _ _ _ _ (aD.refl _) (.bl _) q⟩
 ·cases r1; cases r2
  exact⟨rfl,by rw [A3]; exact k _ _ _ _ (aD.refl _) (.bl _) q⟩
theorem ao8:dD X (lK true) t0:=by
 rintro W Hs H u v x y g g' Q Q' s n r1 r2 (⟨i,j,rfl,rfl,q⟩ | ⟨i,j,rfl,rfl,q⟩) k
 ·cases r1; cases r2
  exact⟨rfl,by rw [A2]; exact k _ _ _ _ (aD.refl _) (.bl _) q⟩
 ·cases r1; cases r2
  exact⟨rfl,by rw [A3]; exact k _ _ _ _ (aD.refl _) (.bl _) q⟩
def aW (t:aC):cO:=fun ρ Q=>t ρ fun x _=>∃ b,x = .bl b/\Q b
theorem u8 {t:aC}{Q':Bool->Hp->Prop} (h:LT X (aW t) σ H Q'):LE X t σ H fun x H'=>∃ k,x = .bl k/\Q' k H':=by
 obtain ⟨W,ρ,Q,px,q,k⟩:=h
 refine⟨W,ρ,_,px,q,?_⟩
 rintro v H1 x g s r ⟨b,rfl,q⟩
 cases r
 exact⟨b,rfl,k _ _ s q⟩
def kE (t u:cO):cO:=fun ρ Q=>t ρ fun c=>if c=true then u ρ Q else Q false
def fJ (t u:cO):cO:=fun ρ Q=>t ρ fun c=>if c=true then Q true else u ρ Q
def iA (t:cO):cO:=fun ρ Q=>t ρ fun c=>Q (!c)
variable {t u : cO} {Qb : Bool → Hp → Prop}
theorem ao9 (h:LT X (kE t u) σ H Qb):xC (LT X t) (LT X u) σ H Qb:=by
 obtain ⟨W,ρ,Q,px,q,k⟩:=h
 refine⟨W,ρ,_,px,q,fun b H1 s1 q1=>?_⟩
 cases b with
 | true=>exact b7 ⟨W,ρ,Q,px.mono s1,by simpa using q1,fun b H2 s2 q2=>k _ _ (s1.trans s2) q2⟩
 | false=>exact aY (k _ _ s1 (by simpa using q1))
theorem ap0 (h:LT X (fJ t u) σ H Qb):xD (LT X t) (LT X u) σ H Qb:=by
 obtain ⟨W,ρ,Q,px,q,k⟩:=h
 refine⟨W,ρ,_,px,q,fun b H1 s1 q1=>?_⟩
 cases b with
 | false=>exact aY ⟨W,ρ,Q,px.mono s1,by simpa using q1,fun b H2 s2 q2=>k _ _ (s1.trans s2) q2⟩
 | true=>exact b7 (k _ _ s1 (by simpa using q1))
theorem ap1 (h:LT X (iA t) σ H Qb):xE (LT X t) σ H Qb:=by
 obtain ⟨W,ρ,Q,px,q,k⟩:=h
 exact⟨W,ρ,_,px,q,fun b H1 s1 q1=>k _ _ s1 q1⟩
def lL (ta tb:aC):aC:=fun ρ Q=>ta ρ fun x _=>∃ c,x = .bl c/\if c=true then tb ρ Q else Q (.bl false) .fr
theorem pG.back {K:PySem.W.Frag}{H0:Hp}{W:Addr->Prop}{H H1:Hp}{Q:PK} (k:pG K H0 W H Q Q') (s:aD H H1):pG K H0 W H1 Q Q':=fun v H' x g s' r q=>k v H' x g (s.trans s') (r.same (aD.refl _) fun _ z=>Mg.back s z) q
theorem ap2 (h:LE X (lL ta tb) σ H Q'):xF (LE X ta) (LE X tb) σ H Q':=by
 obtain ⟨W,ρ,Q,px,q,k⟩:=h
 refine⟨W,ρ,_,px,q,?_⟩
 rintro v H1 x g s1 r ⟨c,rfl,q⟩
 cases r
 refine⟨c,rfl,?_⟩
 cases c with
 | true=>exact b7 ⟨W,ρ,Q,px.mono s1,by simpa using q,k.back s1⟩
 | false=>exact aY (k _ _ _ _ s1 (.bl _) (by simpa using q))
def aA:cB:=fun _ Q=>Q []
def a6 (te:aC) (tr:cB):cB:=fun ρ Q=>te ρ fun x g=>tr ρ fun xs=>Q ((x,g) :: xs)
variable {Qa : List V → Hp → Prop} {tr : cB}
theorem ap3 (h:LA X aA σ H Qa):jM σ H Qa:=by
 obtain ⟨W,ρ,Q,px,q,k⟩:=h
 exact k _ _ _ (aD.refl _) .nil q
theorem ap4 (h:LA X (a6 ta tr) σ H Qa):iO (LE X ta) (LA X tr) σ H Qa:=by
 obtain ⟨W,ρ,Q,px,q,k⟩:=h
 refine⟨W,ρ,_,px,q,fun v H1 x g s1 r1 q1=>⟨W,ρ,_,px.mono s1,q1,fun vs H2 xs s2 r2 q2=>?_⟩⟩
 exact k _ _ _ (s1.trans s2) (.cons (r1.same s2 fun _ z=>z) (r2.same (aD.refl _) s1)) q2
def pJ (t:cB):aC:=fun ρ Q=>t ρ fun xs=>xs.length<=1000/\nD xs/\Q (.tup (xs.map (·.1))) .nw
def bL (t:cB):aC:=fun ρ Q=>t ρ fun xs=>xs.length<=1000/\flats (xs.map (·.1))=true/\Q (.tup (xs.map (·.1))) .fr
def eI (t:cB):aC:=fun ρ Q=>t ρ fun xs=>xs.length<=1000/\flats (xs.map (·.1))=true/\Q (.lst (xs.map (·.1))) .fr
theorem gB.length {K:PySem.W.Frag}{H0:Hp}{W:Addr->Prop}{Hs H:Hp}:∀ {vs:List V}{xs:List (PV × Tg)},gB K H0 W Hs H vs xs->vs.length=xs.length
 | _,_,.nil=>rfl
 | _,_,.cons _ t=>congrArg (· + 1) t.length
theorem pK {n:Nat} (h:n<=1000):n<=sizeLine:=bi1 (am0 h)
theorem ap5 (h:LE X (pJ tr) σ H Q'):t8 (LA X tr) σ H Q':=by
 obtain ⟨W,ρ,Q,px,q,k⟩:=h
 refine⟨W,ρ,_,px,q,?_⟩
 rintro vs H1 xs s1 r ⟨hl,n,q⟩
 refine⟨by rw [r.length]; exact pK hl,fun p hp=>k _ _ _ .nw (s1.trans (bK hp _)) (.tup bU ?_) q⟩
 exact (nD.reps (vs:=vs) px n r).same (bK hp _) fun _ z=>z
theorem ap6 (h:LE X (bL tr) σ H Q'):t8 (LA X tr) σ H Q':=by
 obtain ⟨W,ρ,Q,px,q,k⟩:=h
 refine⟨W,ρ,_,px,q,?_⟩
 rintro vs H1 xs s1 r ⟨hl,n,q⟩
 refine⟨by rw [r.length]; exact pK hl,fun p hp=>k _ _ _ .fr (s1.trans (bK hp _)) (.tup bU ?_) q⟩
 exact (r.any.flat n).same (bK hp _) fun _ z=>z
theorem ap7 (h:LE X (eI tr) σ H Q'):y9 (LA X tr) σ H Q':=by
 obtain ⟨W,ρ,Q,px,q,k⟩:=h
 refine⟨W,ρ,_,px,q,?_⟩
 rintro vs H1 xs s1 r ⟨hl,n,q⟩
 refine⟨by rw [r.length]; exact pK hl,fun p hp=>k _ _ _ .fr (s1.trans (bK hp _)) (.lst (s1.free hp) bU ?_) q⟩
 exact (r.any.flat n).same (bK hp _) fun _ z=>z
def dH (X:Cx) (R:List PV->(PV->Prop)->Prop) (r:List V->Hp->VK->Prop):Prop:=∀ (H:Hp) (vs:List V) (xs:List PV) (Q:PV->Prop) (Q':VK),Reps X.K (fun _=>True) H vs xs->R xs Q->
 (∀ w H' z,aD H H'->aE X.K (fun a=>H a=none) H' w z->Q z->Q' w H')->r vs H Q'
def aF (R:List PV->(PV->Prop)->Prop) (t:cB):aC:=fun ρ Q=>t ρ fun xs=>R (xs.map (·.1)) fun z=>Q z .fr
theorem A4 {R:List PV->(PV->Prop)->Prop}{r:List V->Hp->VK->Prop} (c:dH X R r) (h:LE X (aF R tr) σ H Q'):tE r (LA X tr) σ H Q':=by
 obtain ⟨W,ρ,Q,px,q,k⟩:=h
 refine⟨W,ρ,_,px,q,fun vs H1 xs s1 r1 q1=>c H1 vs _ _ Q' r1.any q1 fun w H' z s2 r2 q2=>k w H' z .fr (s1.trans s2) (r2.same (aD.refl _) fun _ z=>s1.free z) q2⟩
end
structure iX where
 nx:bA->Prop
 rt:PV->Prop
 bk:bA->Prop:=fun _=>False
 ct:bA->Prop:=fun _=>False
abbrev aO:=iX->bA->Prop
def Ev (W:Addr->Prop) (H:Hp) (W':Addr->Prop) (H':Hp):Prop:=∀ b o,H b=some o->¬ W b->H' b=some o/\¬ W' b
theorem Ev.trans {W W1 W2:Addr->Prop}{H H1 H2:Hp} (a:Ev W H W1 H1) (b:Ev W1 H1 W2 H2):Ev W H W2 H2:=fun c o h n=>let ⟨h1,n1⟩:=a c o h n; b c o h1 n1
theorem Ev.same {W:Addr->Prop}{H H':Hp} (s:aD H H'):Ev W H W H':=fun c o h n=>⟨s _ _ h,n⟩
theorem Ev.refl (W:Addr->Prop) (H:Hp):Ev W H W H:=Ev.same (aD.refl _)
structure nF (X:Cx) (W:Addr->Prop) (H:Hp) (D':iX) (D:cP):Prop where
 nx:∀ W' σ' H' ρ',Ev W H W' H'->PX X.K X.H₀ W' σ' ρ' H'->D'.nx ρ'->D.nx σ' H'
 rt:∀ v H' x,aD X.H₀ H'->aE X.K (fun a=>X.H₀ a=none) H' v x->D'.rt x->D.rt v H'
 bk:∀ W' σ' H' ρ',Ev W H W' H'->PX X.K X.H₀ W' σ' ρ' H'->D'.bk ρ'->D.bk σ' H'
 ct:∀ W' σ' H' ρ',Ev W H W' H'->PX X.K X.H₀ W' σ' ρ' H'->D'.ct ρ'->D.ct σ' H'
theorem nF.step {X:Cx}{W W1:Addr->Prop}{H H1:Hp}{D':iX}{D:cP} (k:nF X W H D' D) (e:Ev W H W1 H1):nF X W1 H1 D' D:=
 ⟨fun W' σ' H' ρ' e'=>k.nx W' σ' H' ρ' (e.trans e'),k.rt,fun W' σ' H' ρ' e'=>k.bk W' σ' H' ρ' (e.trans e'),fun W' σ' H' ρ' e'=>k.ct W' σ' H' ρ' (e.trans e')⟩
def LS (X:Cx) (t:aO):TS:=fun D σ H=>∃ (W:Addr->Prop) (ρ:bA) (D':iX),PX X.K X.H₀ W σ ρ H/\t D' ρ/\nF X W H D' D
theorem fL {α:Type}{l:List α}{i j:Nat}{a b:α} (h:(l.set i a)[j]? = some b):(j=i/\i < l.length/\b=a) ∨ (j ≠ i/\l[j]? = some b):=by
 by_cases e:j=i
 ·subst e
  have hl:j < (l.set j a).length:=(aW9.mp h).1
  rw [bb7] at hl
  rw [bd0 hl] at h
  exact .inl ⟨rfl,hl,(aY5 h).symm⟩
 ·rw [aZ2 (Ne.symm e)] at h
  exact .inr ⟨e,h⟩
section
variable {K : PySem.W.Frag} {H0 : Hp} {W W' : Addr → Prop} {σ : St} {ρ : bA} {H H' Hs : Hp}
theorem PX.setSh {i:Nat}{v:V}{g:Bool}{x:PV} (p:PX K H0 W σ ρ H) (r:aE K (Ms H0 W g) H v x):PX K H0 W (σ.set i (some v)) (ρ.set i (some (.sh g x))) H:=by
 refine⟨by rw [bb7,bb7]; exact p.len,p.same,p.wm,fun j m h=>?_,fun j k y z a h1 h2 h3 h4=>?_⟩
 ·rcases fL h with ⟨rfl,hl,e⟩ | ⟨hne,h⟩
  ·cases e
   rw [p.len] at hl
   exact⟨v,bd0 hl,r⟩
  ·obtain ⟨u,e,q⟩:=p.sl j m h
   exact⟨u,by rw [aZ2 (Ne.symm hne)]; exact e,q⟩
 ·rcases fL h1 with ⟨_,_,e⟩ | ⟨n1,h1⟩
  ·cases e
  ·rcases fL h2 with ⟨_,_,e⟩ | ⟨n2,h2⟩
   ·cases e
   ·rw [aZ2 (Ne.symm n1)] at h3
    rw [aZ2 (Ne.symm n2)] at h4
    exact p.dis j k y z a h1 h2 h3 h4
theorem PX.setNone {i:Nat}{o:Option V} (p:PX K H0 W σ ρ H):PX K H0 W (σ.set i o) (ρ.set i none) H:=by
 refine⟨by rw [bb7,bb7]; exact p.len,p.same,p.wm,fun j m h=>?_,fun j k y z a h1 h2 h3 h4=>?_⟩
 ·rcases fL h with ⟨rfl,hl,e⟩ | ⟨hne,h⟩
  ·cases e
  ·obtain ⟨u,e,q⟩:=p.sl j m h
   exact⟨u,by rw [aZ2 (Ne.symm hne)]; exact e,q⟩
 ·rcases fL h1 with ⟨_,_,e⟩ | ⟨n1,h1⟩
  ·cases e
  ·rcases fL h2 with ⟨_,_,e⟩ | ⟨n2,h2⟩
   ·cases e
   ·rw [aZ2 (Ne.symm n1)] at h3
    rw [aZ2 (Ne.symm n2)] at h4
    exact p.dis j k y z a h1 h2 h3 h4
def lM (W:Addr->Prop) (a:Addr):Addr->Prop:=fun b=>W b ∨ b=a
theorem u9 {g:Bool}{a b:Addr} (n:b ≠ a) (h:Ms H0 W g b):Ms H0 (lM W a) g b:=by
 cases g with
 | true=>exact⟨fun z=>z.elim h.1 n,h.2⟩
 | false=>exact fun z=>z.elim h n
theorem PX.setOwn {i:Nat}{a:Addr}{x:PV} (p:PX K H0 W σ ρ Hs) (s:aD Hs H) (ha:Hs a=none) (r:gV K (Ms H0 (lM W a) true) H a x):PX K H0 (lM W a) (σ.set i (some (.ref a))) (ρ.set i (some (.own x))) H:=by
 have old:∀ b o,Hs b=some o->b ≠ a:=fun b o e z=>by rw [z,ha] at e; cases e
 have kp:∀ g,i9 (Ms H0 W g) (Ms H0 (lM W a) g) Hs H:=fun g=>⟨fun b _ m e=>⟨u9 (old _ _ e) m,s _ _ e⟩,fun b _ m e=>⟨u9 (old _ _ e) m,s _ _ e⟩,fun b _ m e=>⟨u9 (old _ _ e) m,s _ _ e⟩,fun _ _ e=>s _ _ e,fun _ _ _ e=>s _ _ e⟩
 have wa : ¬ W a:=(p.new ha).1
 refine⟨by rw [bb7,bb7]; exact p.len,p.same.trans s,fun b z=>?_,fun j m h=>?_,fun j k y z b h1 h2 h3 h4=>?_⟩
 ·rcases z with z | rfl
  ·obtain ⟨h1,o,h2,h3⟩:=p.wm b z
   exact⟨h1,o,s _ _ h2,h3⟩
  ·exact⟨(p.new ha).2,r.at⟩
 ·rcases fL h with ⟨rfl,hl,e⟩ | ⟨hne,h⟩
  ·cases e
   rw [p.len] at hl
   exact⟨_,bd0 hl,a,rfl,.inr rfl,r⟩
  ·obtain ⟨u,e,q⟩:=p.sl j m h
   refine⟨u,by rw [aZ2 (Ne.symm hne)]; exact e,?_⟩
   cases m with
   | sh g y=>exact aE.keep (kp g) q
   | own y=>
    obtain ⟨b,e1,e2,q⟩:=q
    exact⟨b,e1,.inl e2,q.keep (kp true) fun o z=>s _ _ z⟩
 ·have ne:∀ {j:Nat}{y:PV},ρ[j]? = some (some (.own y))->σ[j]? ≠ some (some (.ref a)):=fun {j y} h1 h2=>by
   obtain ⟨u,e,c,e1,e2,_⟩:=p.sl j _ h1
   rw [h2] at e
   cases e
   cases e1
   exact wa e2
  rcases fL h1 with ⟨e1,l1,_⟩ | ⟨n1,h1⟩
  ·rcases fL h2 with ⟨e2,_,_⟩ | ⟨n2,h2⟩
   ·rw [e1,e2]
   ·rw [e1,bd0 (by rw [<- p.len]; exact l1)] at h3
    rw [aZ2 (Ne.symm n2)] at h4
    cases h3
    exact absurd h4 (ne h2)
  ·rw [aZ2 (Ne.symm n1)] at h3
   rcases fL h2 with ⟨e2,l2,_⟩ | ⟨n2,h2⟩
   ·rw [e2,bd0 (by rw [<- p.len]; exact l2)] at h4
    cases h4
    exact absurd h3 (ne h1)
   ·rw [aZ2 (Ne.symm n2)] at h4
    exact p.dis j k y z b h1 h2 h3 h4
theorem Ev.own {a:Addr} (s:aD Hs H) (ha:Hs a=none):Ev W Hs (lM W a) H:=fun b o e n=>⟨s _ _ e,fun z=>z.elim n fun z=>by rw [z,ha] at e; cases e⟩
theorem iY {g:Bool}{a b:Addr} (wa:W a) (h:Ms H0 W g b):b ≠ a:=by
 cases g with
 | true=>exact fun z=>h.1 (by rw [z]; exact wa)
 | false=>exact fun z=>h (by rw [z]; exact wa)
theorem PX.updOwn {i:Nat}{a:Addr}{x y:PV}{o:HO} (p:PX K H0 W σ ρ H) (hi:ρ[i]? = some (some (.own x))) (ha:σ[i]? = some (some (.ref a))) (wa:W a) (mu:eV o=true) (r:gV K (Ms H0 W true) (upd H a o) a y) :
  PX K H0 W σ (ρ.set i (some (.own y))) (upd H a o):=by
 obtain ⟨w0,o',e',mu'⟩:=p.wm a wa
 have kp:∀ g,i9 (Ms H0 W g) (Ms H0 W g) H (upd H a o):=fun g=>.upd e' mu' fun b m=>⟨iY wa m,m⟩
 refine⟨by rw [bb7]; exact p.len,fun b u e=>by rw [aX (fun z=>by rw [z,w0] at e; cases e)]; exact p.same _ _ e,fun b z=>?_,fun j m h=>?_,fun j k y' z b h1 h2 h3 h4=>?_⟩
 ·by_cases e:b=a
  ·subst e; exact⟨w0,o,bU,mu⟩
  ·obtain ⟨h1,o2,h2,h3⟩:=p.wm b z
   exact⟨h1,o2,by rw [aX e]; exact h2,h3⟩
 ·rcases fL h with ⟨rfl,hl,e⟩ | ⟨hne,h⟩
  ·cases e
   exact⟨_,ha,a,rfl,wa,r⟩
  ·obtain ⟨u,e,q⟩:=p.sl j m h
   refine⟨u,e,?_⟩
   cases m with
   | sh g y=>exact aE.keep (kp g) q
   | own y=>
    obtain ⟨b,e1,e2,q⟩:=q
    have hb:b ≠ a:=fun z=>by
     subst e1
     rw [z] at e
     exact hne (p.dis j i _ _ a h hi e ha)
    exact⟨b,e1,e2,q.keep (kp true) fun o z=>by rw [aX hb]; exact z⟩
 ·have g1:∃ y,ρ[j]? = some (some (.own y)):=by
   rcases fL h1 with ⟨e,_,_⟩ | ⟨_,h⟩
   ·exact⟨x,by rw [e]; exact hi⟩
   ·exact⟨_,h⟩
  have g2:∃ y,ρ[k]? = some (some (.own y)):=by
   rcases fL h2 with ⟨e,_,_⟩ | ⟨_,h⟩
   ·exact⟨x,by rw [e]; exact hi⟩
   ·exact⟨_,h⟩
  obtain ⟨y1,g1⟩:=g1
  obtain ⟨y2,g2⟩:=g2
  exact p.dis j k y1 y2 b g1 g2 h3 h4
theorem Ev.upd {a:Addr}{o:HO} (wa:W a):Ev W H W (upd H a o):=fun b u e n=>⟨by rw [aX (fun z=>n (by rw [z]; exact wa))]; exact e,n⟩
end
section
variable {X : Cx} {σ : St} {H : Hp} {D : cP} {te : aC} {t u : aO}
def bQ:aO:=fun D ρ=>D.nx ρ
def aG (t u:aO):aO:=fun D ρ=>t { D with nx:=u D } ρ
theorem ap8 (h:LS X bQ D σ H):xG D σ H:=by
 obtain ⟨W,ρ,D',px,q,k⟩:=h
 exact k.nx W σ H ρ (Ev.refl _ _) px q
theorem ap9 (h:LS X (aG t u) D σ H):xH (LS X t) (LS X u) D σ H:=by
 obtain ⟨W,ρ,D',px,q,k⟩:=h
 exact⟨W,ρ,_,px,q,fun W' σ' H' ρ' e px' q'=>⟨W',ρ',D',px',q',k.step e⟩,k.rt,k.bk,k.ct⟩
def uA:Tg->PV->Bool
 | .fr,_=>true
 | .nw,_=>true
 | _,x=>flat x
def uB:Tg->PV->Prop
 | .rd,x=>flat x=true
 | _,_=>True
theorem A5 {K:PySem.W.Frag}{H0 Hs H:Hp}{W:Addr->Prop}{σ:St}{ρ:bA}{g:Tg}{x:PV}{v:V} (px:PX K H0 W σ ρ Hs) (n:uB g x) (r:aE K (Mg H0 W Hs g) H v x):aE K (Ms H0 W (uA g x)) H v x:=by
 cases g with
 | fr=>exact Nw.rep (g:=.fr) px trivial r
 | nw=>exact Nw.rep (g:=.nw) px trivial r
 | sh=>
  show aE K (Ms H0 W (flat x)) H v x
  cases e:flat x with
  | true=>exact r.flat e
  | false=>exact r.same (aD.refl _) fun _ z=>z
 | rd=>exact r.flat n
def bC (i:Nat) (te:aC):aO:=fun D ρ=>te ρ fun x g=>uB g x/\D.nx (ρ.set i (some (.sh (uA g x) x)))
theorem aq0 {i:Nat} (h:LS X (bC i te) D σ H):lF (LE X te) (eC i) D σ H:=by
 obtain ⟨W,ρ,D',px,q,k⟩:=h
 refine⟨W,ρ,_,px,q,?_⟩
 rintro v H1 x g s r ⟨n,q⟩
 exact k.nx W _ H1 _ (Ev.same s) ((px.mono s).setSh (A5 px n r)) q
def A6:PV->Bool
 | .lst xs=>flats xs
 | .dK ps=>flats (ps.map (·.2))
 | .dT ps=>flats (ps.map (·.2))
 | _=>false
theorem aq1 {K:PySem.W.Frag}{M:Addr->Prop}{H:Hp}{v:V}{x:PV} (r:aE K M H v x) (o:A6 x=true):∃ a,v = .ref a/\M a/\∀ M',gV K M' H a x:=by
 cases r with
 | lst m e r=>exact⟨_,rfl,m,fun _=>⟨_,e,r.flat o⟩⟩
 | dK m e q r=>exact⟨_,rfl,m,fun _=>⟨_,e,q,r.flat o⟩⟩
 | dT m e q r=>exact⟨_,rfl,m,fun _=>⟨_,e,q,r.flat o⟩⟩
 | _=>cases o
def iB (i:Nat) (te:aC):aO:=fun D ρ=>te ρ fun x g=>g = .fr/\A6 x=true/\D.nx (ρ.set i (some (.own x)))
theorem aq2 {i:Nat} (h:LS X (iB i te) D σ H):lF (LE X te) (eC i) D σ H:=by
 obtain ⟨W,ρ,D',px,q,k⟩:=h
 refine⟨W,ρ,_,px,q,?_⟩
 rintro v H1 x g s r ⟨rfl,o,q⟩
 obtain ⟨a,rfl,m,w⟩:=aq1 r o
 exact k.nx _ _ H1 _ (Ev.own s m) (px.setOwn s m (w _)) q
def uC (te:aC):aO:=fun D ρ=>te ρ fun _ _=>D.nx ρ
theorem aq3 (h:LS X (uC te) D σ H):mR (LE X te) D σ H:=by
 obtain ⟨W,ρ,D',px,q,k⟩:=h
 exact⟨W,ρ,_,px,q,fun v H1 x g s r q=>k.nx W σ H1 ρ (Ev.same s) (px.mono s) q⟩
def bD (te:aC):aO:=fun D ρ=>te ρ fun x g=>Nw g x/\D.rt x
theorem aq4 (h:LS X (bD te) D σ H):sP (LE X te) D σ H:=by
 obtain ⟨W,ρ,D',px,q,k⟩:=h
 refine⟨W,ρ,_,px,q,?_⟩
 rintro v H1 x g s r ⟨n,q⟩
 exact k.rt v H1 x (px.same.trans s) ((Nw.rep px n r).same (aD.refl _) fun _ z=>z.2) q
def Slot.nw:Slot->Prop
 | .own _=>True
 | .sh true _=>True
 | .sh false x=>flat x=true
def jO (i:Nat):aO:=fun D ρ=>∃ m,ρ[i]? = some (some m)/\m.nw/\D.rt m.val
theorem aq5 {i:Nat} (h:LS X (jO i) D σ H):sP (iN i) D σ H:=by
 obtain ⟨W,ρ,D',px,⟨m,hi,n,q⟩,k⟩:=h
 obtain ⟨v,ev,r⟩:=px.sl i _ hi
 refine⟨v,ev,k.rt v H _ px.same ?_ q⟩
 cases m with
 | own x=>
  obtain ⟨a,rfl,wa,r⟩:=r
  exact r.rep (fun _ z=>z.2) (px.wm a wa).1
 | sh g x=>
  cases g with
  | true=>exact aE.same r (aD.refl _) fun _ z=>z.2
  | false=>exact aE.flat n r
def bO (c:cO) (t u:aO):aO:=fun D ρ=>c ρ fun b=>if b=true then t D ρ else u D ρ
theorem aq6 {c:cO} (h:LS X (bO c t u) D σ H):xJ (LT X c) (LS X t) (LS X u) D σ H:=by
 obtain ⟨W,ρ,D',px,q,k⟩:=h
 refine⟨W,ρ,_,px,q,fun b H1 s q1=>?_⟩
 cases b with
 | true=>exact b7 ⟨W,ρ,D',px.mono s,by simpa using q1,k.step (Ev.same s)⟩
 | false=>exact aY ⟨W,ρ,D',px.mono s,by simpa using q1,k.step (Ev.same s)⟩
def uD (c:cO) (tb:aO):aO:=fun D ρ=>∃ I:Nat->bA->Prop,(∃ m,I m ρ)/\∀ m ρ',I m ρ'->c ρ' fun b=>if b=true then tb { D with nx:=fun ρ2=>∃ m',m' < m/\I m' ρ2,ct:=fun ρ2=>∃ m',m' < m/\I m' ρ2,bk:=D.nx } ρ' else D.nx ρ'
theorem aq7 {c:cO}{tb:aO} (h:LS X (uD c tb) D σ H):xO (LT X c) (LS X tb) D σ H:=by
 obtain ⟨W,ρ,D',px,⟨I,⟨m0,i0⟩,turn⟩,k⟩:=h
 refine⟨fun m σ2 H2=>∃ W2 ρ2,PX X.K X.H₀ W2 σ2 ρ2 H2/\Ev W H W2 H2/\I m ρ2,⟨m0,W,ρ,px,Ev.refl _ _,i0⟩,?_⟩
 rintro m σ2 H2 ⟨W2,ρ2,px2,e2,i2⟩
 refine⟨W2,ρ2,_,px2,turn m ρ2 i2,fun b H3 s3 q3=>?_⟩
 cases b with
 | true=>
  refine b7 ⟨fun σ4 H4=>∃ W4 ρ4,PX X.K X.H₀ W4 σ4 ρ4 H4/\Ev W H W4 H4/\∃ m',m' < m/\I m' ρ4,fun σ4 H4 ⟨W4,ρ4,a,b,m',c,d⟩=>⟨m',c,W4,ρ4,a,b,d⟩,W2,ρ2,_,px2.mono s3,by simpa using q3,?_⟩
  have e3:Ev W H W2 H3:=e2.trans (Ev.same s3)
  exact⟨fun W' σ' H' ρ' e p q=>⟨W',ρ',p,e3.trans e,q⟩,k.rt,fun W' σ' H' ρ' e p q=>k.nx W' σ' H' ρ' (e3.trans e) p q,fun W' σ' H' ρ' e p q=>⟨W',ρ',p,e3.trans e,q⟩⟩
 | false=>exact aY (k.nx W2 σ2 H3 ρ2 (e2.trans (Ev.same s3)) (px2.mono s3) (by simpa using q3))
end
theorem lim {n:Nat} (h:n<=16000000):n<=sizeLine:=bi1 (pE h)
theorem aE.sqT {K:PySem.W.Frag}{M:Addr->Prop}{H:Hp}{v:V}{xs:List PV} (r:aE K M H v (.tup xs)):∃ a us,v = .ref a/\H a=some (.tup us)/\Reps K M H us xs:=by
 cases r with
 | tup e r=>exact⟨_,_,rfl,e,r⟩
theorem aE.sqL {K:PySem.W.Frag}{M:Addr->Prop}{H:Hp}{v:V}{xs:List PV} (r:aE K M H v (.lst xs)):∃ a us,v = .ref a/\M a/\H a=some (.lst us)/\Reps K M H us xs:=by
 cases r with
 | lst m e r=>exact⟨_,_,rfl,m,e,r⟩
theorem iW.sqL {K:PySem.W.Frag}{H:Hp}{a:Addr}{ns:List Int} (h:iW K H a ns):aN K H a (ns.map V.int):=h.elim (fun z=>.inl (.inr z)) .inr
def iZ:PV->Option (List PV)
 | .tup xs=>some xs
 | .lst xs=>some xs
 | .scr ns=>some (intz ns)
 | .kt xs=>some xs
 | _=>none
theorem aE.seq {K:PySem.W.Frag}{M:Addr->Prop}{H:Hp}{v:V}{x:PV}{xs:List PV} (r:aE K M H v x) (e:iZ x=some xs):∃ a us,v = .ref a/\(aN K H a us ∨ aL K H a us)/\Reps K M H us xs:=by
 cases r with
 | tup h r=>cases e; exact⟨_,_,rfl,.inr (aL.of h),r⟩
 | lst m h r=>cases e; exact⟨_,_,rfl,.inl (aN.of h),r⟩
 | scr h=>cases e; exact⟨_,_,rfl,.inl h.sqL,Reps.intz _⟩
 | kt h r=>cases e; exact⟨_,_,rfl,.inr (.inr h),r⟩
 | _=>cases e
section
variable {X : Cx} {σ : St} {H : Hp} {D : cP} {te ti to : aC} {t u : aO} {Q' : VK}
theorem _root_.PP.PX.updL {K:PySem.W.Frag}{H0:Hp}{W:Addr->Prop}{σ:St}{ρ:bA}{H:Hp}{i:Nat}{a:Addr}{x:PV}{us:List V}{ys:List PV} (p:PX K H0 W σ ρ H) (hi:ρ[i]? = some (some (.own x))) (ha:σ[i]? = some (some (.ref a))) (wa:W a) (r:Reps K (Ms H0 W true) (upd H a (.lst us)) us ys) :
  PX K H0 W σ (ρ.set i (some (.own (.lst ys)))) (upd H a (.lst us)):=p.updOwn hi ha wa rfl (y:=.lst ys) ⟨us,bU,r⟩
def kF (i:Nat) (te:aC):aO:=fun D ρ=>∃ xs,ρ[i]? = some (some (.own (.lst xs)))/\te ρ fun x g=>Nw g x/\xs.length < 16000000/\D.nx (ρ.set i (some (.own (.lst (xs ++ [x])))))
theorem aq8 {i:Nat} (h:LS X (kF i te) D σ H):mR (oU X.K "list" yX (iN i) (iO (LE X te) jM)) D σ H:=by
 obtain ⟨W,ρ,D',px,⟨xs,hi,q⟩,k⟩:=h
 obtain ⟨v,ev,a,rfl,wa,us,ea,r⟩:=px.sl i _ hi
 refine⟨_,ev,tY (aN.of ea),W,ρ,_,px,q,?_⟩
 rintro w H1 x g s rx ⟨n,hl,q⟩
 have ea1:=s _ _ ea
 refine⟨a,us,w,rfl,rfl,ea1,pE (by rw [r.length]; omega),?_⟩
 refine k.nx W σ _ _ ((Ev.same s).trans (Ev.upd wa)) ((px.mono s).updL hi ev wa ?_) q
 exact ((r.same s fun _ z=>z).append (.cons (Nw.rep px n rx) .nil)).keep (.upd ea1 rfl fun b m=>⟨iY wa m,m⟩)
end
theorem Reps.atI {K:PySem.W.Frag}{M:Addr->Prop}{H:Hp}{us:List V}{xs:List PV}{i:Int}{z:PV} (r:Reps K M H us xs) (h:L2.atI xs i=some z):∃ v,L2.atI us i=some v/\aE K M H v z:=by
 unfold L2.atI at h ⊢
 rw [r.length]
 cases e:fD xs.length i with
 | none=>rw [e] at h; cases h
 | some j=>rw [e] at h; exact r.at h
section
variable {X : Cx} {σ : St} {H : Hp} {Q' : VK} {ta tb te : aC} {tr : cB}
def uE:PV->Tg->PV->Tg->PK->Prop:=fun x g y _ Q=>∃ xs i z,iZ x=some xs/\y = .int i/\L2.atI xs i=some z/\Q z g
theorem aq9:dD X uE (yV X.K):=by
 rintro W Hs H u v x y g g' Q Q' s n r1 r2 ⟨xs,i,z,e,rfl,hz,q⟩ k
 cases r2
 obtain ⟨a,us,rfl,hs,r⟩:=r1.seq e
 obtain ⟨v,hv,rv⟩:=r.atI hz
 rcases hs with hs | hs
 ·exact .inl ⟨a,us,i,v,rfl,rfl,hs,hv,k v H z g (aD.refl _) rv q⟩
 ·exact .inr (.inl ⟨a,us,i,v,rfl,rfl,hs,hv,k v H z g (aD.refl _) rv q⟩)
def A7:PV->Option Nat
 | .tup xs=>some xs.length
 | .lst xs=>some xs.length
 | .scr ns=>some ns.length
 | .dK ps=>some ps.length
 | .kt xs=>some xs.length
 | _=>none
def gW:List PV->(PV->Prop)->Prop:=fun xs Q=>∃ x n,xs = [x]/\A7 x=some n/\Q (.int n)
theorem Reps.one {K:PySem.W.Frag}{M:Addr->Prop}{H:Hp}{vs:List V}{x:PV} (r:Reps K M H vs [x]):∃ v,vs = [v]/\aE K M H v x:=by
 cases r with
 | cons r t=>cases t; exact⟨_,rfl,r⟩
theorem Reps.two {K:PySem.W.Frag}{M:Addr->Prop}{H:Hp}{vs:List V}{x y:PV} (r:Reps K M H vs [x,y]):∃ v w,vs = [v,w]/\aE K M H v x/\aE K M H w y:=by
 cases r with
 | cons r t=>
  obtain ⟨w,rfl,q⟩:=t.one
  exact⟨_,_,rfl,r,q⟩
theorem ar0:dH X gW (fun xs H Q=>(∃ p ys,xs = [.ref p]/\(aN X.K H p ys ∨ aL X.K H p ys)/\Q (.int ys.length) H) ∨ ∃ a kvs,xs = [V.ref a]/\H a=some (.dK kvs)/\Q (.int kvs.length) H):=by
 rintro H vs xs Q Q' r ⟨x,n,rfl,e,q⟩ k
 obtain ⟨v,rfl,r1⟩:=r.one
 have fin:∀ {m:Nat},m=n->Q' (.int m) H:=fun {m} z=>by rw [z]; exact k _ _ _ (aD.refl _) (.int _) q
 cases r1 with
 | tup h r2=>cases e; exact .inl ⟨_,_,rfl,.inr (aL.of h),fin r2.length⟩
 | lst m h r2=>cases e; exact .inl ⟨_,_,rfl,.inl (aN.of h),fin r2.length⟩
 | scr h=>cases e; exact .inl ⟨_,_,rfl,.inl h.sqL,fin (by rw [aW6])⟩
 | kt h r2=>cases e; exact .inl ⟨_,_,rfl,.inr (.inr h),fin r2.length⟩
 | dK m h e' r=>
  cases e
  refine .inr ⟨_,_,rfl,h,fin ?_⟩
  have:=congrArg List.length e'
  rw [aW6,aW6] at this
  exact this
 | _=>cases e
def pL:PV->Option (List PV)
 | .kt _=>none
 | x=>iZ x
def A8:List PV->(PV->Prop)->Prop:=fun xs Q=>∃ x ys,xs = [x]/\pL x=some ys/\flats ys=true/\Q (.tup ys)
def nG:List PV->(PV->Prop)->Prop:=fun xs Q=>∃ x ys,xs = [x]/\iZ x=some ys/\flats ys=true/\Q (.lst ys)
theorem ar1:dH X (fun xs Q=>A8 xs Q/\∀ ns,xs ≠ [.scr ns]) (fun xs H Q=>∃ p ys,xs = [.ref p]/\((aN X.K H p ys/\∀ l,H l=none->Q (.ref l) (upd H l (.tup ys))) ∨ (aL X.K H p ys/\Q (.ref p) H))):=by
 rintro H vs xs Q Q' r ⟨⟨x,ys,rfl,e,f,q⟩,nsc⟩ k
 obtain ⟨v,rfl,r1⟩:=r.one
 cases r1 with
 | tup h r2=>cases e; exact⟨_,_,rfl,.inr ⟨aL.of h,k _ _ _ (aD.refl _) (.tup h (r2.flat f)) q⟩⟩
 | lst m h r2=>cases e; exact⟨_,_,rfl,.inl ⟨aN.of h,fun l hl=>k _ _ _ (bK hl _) (.tup bU ((r2.flat f).same (bK hl _) fun _ z=>z)) q⟩⟩
 | scr h=>exact absurd rfl (nsc _)
 | _=>cases e
theorem ar2:dH X nG (fun xs H Q=>∃ p ys,xs = [.ref p]/\(aN X.K H p ys ∨ aL X.K H p ys)/\∀ l,H l=none->Q (.ref l) (upd H l (.lst ys))):=by
 rintro H vs xs Q Q' r ⟨x,ys,rfl,e,f,q⟩ k
 obtain ⟨v,rfl,r1⟩:=r.one
 obtain ⟨a,us,rfl,hs,r2⟩:=r1.seq e
 exact⟨_,_,rfl,hs,fun l hl=>k _ _ _ (bK hl _) (.lst hl bU ((r2.flat f).same (bK hl _) fun _ z=>z)) q⟩
def pM:List PV->(PV->Prop)->Prop:=fun xs Q=>∃ bs:List Bool,xs = [.lst (bs.map PV.bl)]/\Q (.bl (bs.all id))
theorem Reps.ofBls {K:PySem.W.Frag}{M:Addr->Prop}{H:Hp}:∀ {ns:List Bool}{us:List V},Reps K M H us (ns.map PV.bl)->us=ns.map V.bl
 | [],_,.nil=>rfl
 | n :: r,_,.cons q t=>by
  cases q
  rw [Reps.ofBls t]; rfl
theorem ar3:dH X pM (fun xs H Q=>∃ (a:Addr) (bs:List Bool),xs = [.ref a]/\aN X.K H a (bs.map V.bl)/\Q (.bl (bs.all id)) H):=by
 rintro H vs xs Q Q' r ⟨bs,rfl,q⟩ k
 obtain ⟨v,rfl,r1⟩:=r.one
 obtain ⟨a,us,rfl,_,h,r2⟩:=r1.sqL
 obtain rfl:=r2.ofBls
 exact⟨a,bs,rfl,aN.of h,k _ _ _ (aD.refl _) (.bl _) q⟩
def kG:List PV->(PV->Prop)->Prop:=fun xs Q=>∃ i j,xs = [.int i,.int j]/\Q (.int (if j < i then j else i))
def jP:List PV->(PV->Prop)->Prop:=fun xs Q=>∃ i j,xs = [.int i,.int j]/\Q (.int (if j > i then j else i))
theorem ar4:dH X kG (fun xs H Q=>∃ i j,xs = [.int i,.int j]/\Q (.int (if j < i then j else i)) H):=by
 rintro H vs xs Q Q' r ⟨i,j,rfl,q⟩ k
 obtain ⟨v,w,rfl,r1,r2⟩:=r.two
 cases r1; cases r2
 exact⟨i,j,rfl,k _ _ _ (aD.refl _) (.int _) q⟩
theorem ar5:dH X jP (fun xs H Q=>∃ i j,xs = [.int i,.int j]/\Q (.int (if j > i then j else i)) H):=by
 rintro H vs xs Q Q' r ⟨i,j,rfl,q⟩ k
 obtain ⟨v,w,rfl,r1,r2⟩:=r.two
 cases r1; cases r2
 exact⟨i,j,rfl,k _ _ _ (aD.refl _) (.int _) q⟩
abbrev c7:=List PV->(PV->Prop)->Prop
def nH (K:PySem.W.Frag) (p:c7):Sp:=fun vs H Q _=>∃ xs Qp,Reps K (fun _=>True) H vs xs/\p xs Qp/\∀ v H' x,aD H H'->aE K (fun a=>H a=none) H' v x->Qp x->Q v H'
theorem ar6 {p:c7}{E:XK} (h:LE X (aF p tr) σ H Q'):t9 (nH X.K p) [] E (LA X tr) σ H Q':=by
 obtain ⟨W,ρ,Q,px,q,k⟩:=h
 refine⟨W,ρ,_,px,q,fun vs H1 xs s1 r1 q1=>⟨_,_,by rw [bf1]; exact r1.any,q1,fun v H' x s2 r2 q2=>k v H' x .fr (s1.trans s2) (r2.same (aD.refl _) fun _ z=>s1.free z) q2⟩⟩
def uF:PV->Bool
 | .non=>true
 | _=>false
def lN (neg:Bool):PV->Tg->PV->Tg->PK->Prop:=fun x _ y _ Q=>y = .non/\Q (.bl (if neg=true then !uF x else uF x)) .fr
theorem A9 {K:PySem.W.Frag}{M:Addr->Prop}{H:Hp}{v:V}{x:PV} (r:aE K M H v x):decide (v = .non)=uF x:=by
 cases r <;> rfl
theorem ar7:dD X (lN false) (fun x y H Q=>y = .non/\Q (.bl (decide (x = .non))) H):=by
 rintro W Hs H u v x y g g' Q Q' s n r1 r2 ⟨rfl,q⟩ k
 cases r2
 exact⟨rfl,by rw [A9 r1]; exact k _ _ _ _ (aD.refl _) (.bl _) q⟩
theorem ar8:dD X (lN true) (fun x y H Q=>y = .non/\Q (.bl (!decide (x = .non))) H):=by
 rintro W Hs H u v x y g g' Q Q' s n r1 r2 ⟨rfl,q⟩ k
 cases r2
 exact⟨rfl,by rw [A9 r1]; exact k _ _ _ _ (aD.refl _) (.bl _) q⟩
end
structure jQ (K:PySem.W.Frag) (H0:Hp) (W:Addr->Prop) (g:Bool) (H1:Hp) (J:It) (xs:List PV):Prop where
 go:∀ W' H' i,Ev W H1 W' H'->i < xs.length->J.go i H'
 yld:∀ W' H' i v H2,Ev W H1 W' H'->J.yld i H' v H2->i < xs.length->aD H' H2/\∃ x,xs[i]? = some x/\aE K (Ms H0 W' g) H2 v x
 stop:∀ W' H',Ev W H1 W' H'->J.stop xs.length H'
abbrev eJ:=bA->(List PV->Bool->Prop)->Prop
def LI (X:Cx) (t:eJ):TI:=fun σ H R=>∃ (W:Addr->Prop) (ρ:bA) (Q:List PV->Bool->Prop),PX X.K X.H₀ W σ ρ H/\t ρ Q/\∀ J H1 xs g,aD H H1->jQ X.K X.H₀ W g H1 J xs->Q xs g->R J H1
theorem Ev.keep {H0:Hp}{W W':Addr->Prop}{H H':Hp}{g:Bool} (e:Ev W H W' H') (tw:∀ a,W a->∃ o,H a=some o/\eV o=true):i9 (Ms H0 W g) (Ms H0 W' g) H H':=by
 have m:∀ {a:Addr}{o:HO},Ms H0 W g a->H a=some o->Ms H0 W' g a/\H' a=some o:=fun {a o} z h=>by
  cases g with
  | true=>
   obtain ⟨h1,h2⟩:=e a _ h z.1
   exact⟨⟨h2,z.2⟩,h1⟩
  | false=>
   obtain ⟨h1,h2⟩:=e a _ h z
   exact⟨h2,h1⟩
 refine⟨fun a _ z h=>m z h,fun a _ z h=>m z h,fun a _ z h=>m z h,fun a _ h=>(e a _ h fun z=>?_).1,fun a _ _ h=>(e a _ h fun z=>?_).1⟩
 ·obtain ⟨o,h',mu⟩:=tw a z; rw [h] at h'; cases h'; cases mu
 ·obtain ⟨o,h',mu⟩:=tw a z; rw [h] at h'; cases h'; cases mu
section
variable {X : Cx} {σ : St} {H : Hp} {te : aC} {tr : cB} {R : It → Hp → Prop}
def B0 (K:PySem.W.Frag) (tl:TE):TI:=fun σ H R=>tl σ H fun x H1=>∃ a,x = .ref a/\((∃ xs,aN K H1 a xs/\R (sS K a) H1) ∨ (∃ xs,aL K H1 a xs/\R (sU K a) H1))
def uG:Tg->List PV->Bool
 | .fr,_=>true
 | .nw,_=>true
 | _,xs=>flats xs
def fM (te:aC):eJ:=fun ρ Q=>te ρ fun x g=>∃ xs,iZ x=some xs/\(g = .rd->flat x=true)/\Q xs (uG g xs)
theorem B1 {K:PySem.W.Frag}{H0:Hp}{W:Addr->Prop}{g:Bool}{H1:Hp}{a:Addr}{us:List V}{xs:List PV} (tw:∀ a,W a->∃ o,H1 a=some o/\eV o=true) (ha:∀ W' H',Ev W H1 W' H'->aN K H' a us) (r:Reps K (Ms H0 W g) H1 us xs):jQ K H0 W g H1 (sS K a) xs:=by
 have lr:=r.length
 refine⟨fun W' H' i e hi=>⟨us,us[i]'(by omega),ha W' H' e,by simp⟩,fun W' H' i v H2 e y hi=>?_,fun W' H' e=>⟨us,ha W' H' e,by omega⟩⟩
 obtain ⟨rfl,y⟩:=y
 obtain ⟨x,hx,rx⟩:=r.get (y us (ha W' _ e))
 exact⟨aD.refl _,x,hx,rx.keep (e.keep tw)⟩
theorem B2 {K:PySem.W.Frag}{H0:Hp}{W:Addr->Prop}{g:Bool}{H1:Hp}{a:Addr}{us:List V}{xs:List PV} (tw:∀ a,W a->∃ o,H1 a=some o/\eV o=true) (ha:∀ W' H',Ev W H1 W' H'->aL K H' a us) (r:Reps K (Ms H0 W g) H1 us xs):jQ K H0 W g H1 (sU K a) xs:=by
 have lr:=r.length
 refine⟨fun W' H' i e hi=>⟨us,us[i]'(by omega),ha W' H' e,by simp⟩,fun W' H' i v H2 e y hi=>?_,fun W' H' e=>⟨us,ha W' H' e,by omega⟩⟩
 obtain ⟨rfl,y⟩:=y
 obtain ⟨x,hx,rx⟩:=r.get (y us (ha W' _ e))
 exact⟨aD.refl _,x,hx,rx.keep (e.keep tw)⟩
theorem lO {K:PySem.W.Frag}{H0 Hs H:Hp}{W:Addr->Prop}{σ:St}{ρ:bA}{g:Tg}{us:List V}{xs:List PV} (px:PX K H0 W σ ρ Hs) (hg:g = .rd->flats xs=true) (r:Reps K (Mg H0 W Hs g) H us xs):Reps K (Ms H0 W (uG g xs)) H us xs:=by
 cases g with
 | fr=>exact r.same (aD.refl _) fun _ z=>px.new z
 | nw=>exact r.same (aD.refl _) fun _ z=>z
 | sh=>
  show Reps K (Ms H0 W (flats xs)) H us xs
  cases e:flats xs with
  | true=>exact r.flat e
  | false=>exact r.same (aD.refl _) fun _ z=>z
 | rd=>exact r.flat (hg rfl)
theorem ar9 (h:LI X (fM te) σ H R):B0 X.K (LE X te) σ H R:=by
 obtain ⟨W,ρ,Q,px,q,k⟩:=h
 refine⟨W,ρ,_,px,q,?_⟩
 rintro v H1 x g s r ⟨xs,e,hg,q⟩
 have px1:=px.mono s
 have tw:∀ a,W a->∃ o,H1 a=some o/\eV o=true:=fun a z=>(px1.wm a z).2
 cases r with
 | tup h r=>
  cases e
  refine⟨_,rfl,.inr ⟨_,aL.of h,k _ _ _ _ s (B2 tw (fun W' H' e=>aL.of (e _ _ h fun z=>?_).1) (lO px (fun z=>by have:=hg z; unfold flat at this; exact this) r)) q⟩⟩
  obtain ⟨o,h',mu⟩:=tw _ z; rw [h] at h'; cases h'; cases mu
 | @lst a us xs' m h r=>
  cases e
  have wa : ¬ W a:=by
   cases g with
   | fr=>exact (px.new m).1
   | nw=>exact m.1
   | sh=>exact m
   | rd=>have:=hg rfl; unfold flat at this; cases this
  exact⟨_,rfl,.inl ⟨_,aN.of h,k _ _ _ _ s (B1 tw (fun W' H' e=>aN.of (e _ _ h wa).1) (lO px (fun z=>by have:=hg z; unfold flat at this; cases this) r)) q⟩⟩
 | scr h=>
  cases e
  refine⟨_,rfl,.inl ⟨_,h.sqL,k _ _ _ _ s (B1 tw (fun W' H' e=>(iW.keep (fun a o u hz=>(e _ _ hz fun z=>?_).1) h).sqL) (lO (g:=g) px (fun z=>nC _) (Reps.intz _))) q⟩⟩
  obtain ⟨o,h',mu⟩:=tw _ z; rw [hz] at h'; cases h'; cases mu
 | kt h r=>
  cases e
  exact⟨_,rfl,.inr ⟨_,.inr h,k _ _ _ _ s (B2 tw (fun W' H' e=>.inr h) (lO px (fun z=>by have:=hg z; unfold flat at this; exact this) r)) q⟩⟩
 | _=>cases e
def jR (lo:Int) (n:Nat):List PV:=(List.range n).map fun (i:Nat)=>PV.int (lo+(i:Int))
theorem kH (lo:Int) (n:Nat):(jR lo n).length=n:=by unfold jR; rw [aW6,List.length_range]
theorem B3 {lo:Int}{n i:Nat} (h:i < n):(jR lo n)[i]? = some (.int (lo+i)):=by unfold jR; rw [aY1,List.getElem?_range h]; rfl
def lP (te:aC):eJ:=fun ρ Q=>te ρ fun x _=>∃ j:Int,x = .int j/\-1000000<=j/\j<=1000000/\Q (jR 0 j.toNat) true
theorem as0 {K:PySem.W.Frag}{H0:Hp}{W:Addr->Prop}{H1:Hp} (lo:Int) (n:Nat):jQ K H0 W true H1 (oO lo n) (jR lo n):=by
 refine⟨fun W' H' i e hi=>by rw [kH] at hi; exact hi,fun W' H' i v H2 e y hi=>?_,fun W' H' e=>by show n<=(jR lo n).length; rw [kH]; exact aW8 _⟩
 rw [kH] at hi
 obtain ⟨rfl,rfl⟩:=y
 exact⟨aD.refl _,_,B3 hi,.int _⟩
theorem as1 (h:LI X (lP te) σ H R):xQ (iO (LE X te) jM) σ H R:=by
 obtain ⟨W,ρ,Q,px,q,k⟩:=h
 refine⟨W,ρ,_,px,q,?_⟩
 rintro v H1 x g s r ⟨j,rfl,h1,h2,q⟩
 cases r
 exact⟨j,rfl,by omega,by omega,k _ _ _ _ s (as0 0 j.toNat) q⟩
end
abbrev iC:=PV->Bool->bA->(bA->Prop)->Prop
def lQ (K:PySem.W.Frag) (own:Nat->Prop) (p:iC) (t:TG):Prop:=∀ (H0:Hp) (W:Addr->Prop) (σ:St) (ρ:bA) (H:Hp) (v:V) (x:PV) (g:Bool) (Q:bA->Prop) (Q':St->Hp->Prop),
 PX K H0 W σ ρ H->aE K (Ms H0 W g) H v x->p x g ρ Q->(∀ σ' ρ',PX K H0 W σ' ρ' H->(∀ i,¬ own i->σ'[i]? = σ[i]?)->σ'.length=σ.length->Q ρ'->Q' σ' H)->t v σ H Q'
def dI (i:Nat):iC:=fun x g ρ Q=>Q (ρ.set i (some (.sh (g || flat x) x)))
theorem pN {K:PySem.W.Frag}{H0 H:Hp}{W:Addr->Prop}{v:V}{x:PV}{g:Bool} (r:aE K (Ms H0 W g) H v x):aE K (Ms H0 W (g || flat x)) H v x:=by
 cases g with
 | true=>exact r
 | false=>
  show aE K (Ms H0 W (flat x)) H v x
  cases e:flat x with
  | true=>exact r.flat e
  | false=>exact r
theorem B4 (K:PySem.W.Frag) (i:Nat):lQ K (· = i) (dI i) (eC i):=by
 intro H0 W σ ρ H v x g Q Q' px r q k
 exact k _ _ (px.setSh (pN r)) (fun j hj=>by rw [aZ2 (Ne.symm hj)]) (bb7 ..) q
def gC (i j:Nat):iC:=fun x g ρ Q=>∃ y z,x = .tup [y,z]/\Q ((ρ.set i (some (.sh (g || flat y) y))).set j (some (.sh (g || flat z) z)))
theorem uH (K:PySem.W.Frag) (i j:Nat):lQ K (fun k=>k=i ∨ k=j) (gC i j) (lE K 2 (gO (eC i) (gO (eC j) lD))):=by
 intro H0 W σ ρ H v x g Q Q' px r q k
 obtain ⟨y,z,rfl,q⟩:=q
 obtain ⟨a,us,rfl,h,r⟩:=r.sqT
 obtain ⟨u1,u2,rfl,r1,r2⟩:=r.two
 refine⟨a,_,rfl,aL.of h,rfl,u1,_,rfl,u2,_,rfl,rfl,k _ _ ((px.setSh (pN r1)).setSh (pN r2)) (fun k hk=>?_) (by rw [bb7,bb7]) q⟩
 rw [aZ2 (fun e=>hk (.inr e.symm)),aZ2 (fun e=>hk (.inl e.symm))]
section
variable {X : Cx} {σ : St} {H : Hp} {D : cP}
def dX (ti:eJ) (p:iC) (tb:aO):aO:=fun D ρ=>ti ρ fun xs g=>∃ I:Nat->bA->Prop,I 0 ρ/\(∀ i x ρ',xs[i]? = some x->I i ρ'->p x g ρ' fun ρ2=>tb { D with nx:=I (i+1),ct:=I (i+1),bk:=D.nx } ρ2)/\∀ ρ',I xs.length ρ'->D.nx ρ'
theorem as2 {ti:eJ}{p:iC}{g:TG}{tb:aO}{own:Nat->Prop} (hg:lQ X.K own p g) (h:LS X (dX ti p tb) D σ H):xR (LI X ti) g (LS X tb) D σ H:=by
 obtain ⟨W,ρ,D',px,q,k⟩:=h
 refine⟨W,ρ,_,px,q,?_⟩
 rintro J H1 xs gb s it ⟨I,i0,turn,fin⟩
 refine⟨fun i m σ2 H2=>m=xs.length - i/\i<=xs.length/\∃ W2 ρ2,PX X.K X.H₀ W2 σ2 ρ2 H2/\Ev W H1 W2 H2/\I i ρ2,⟨xs.length,by omega,bh0 _,W,ρ,px.mono s,Ev.refl _ _,i0⟩,?_⟩
 rintro i m σ2 H2 ⟨rfl,hi,W2,ρ2,px2,e2,i2⟩
 have e0:Ev W H W2 H2:=(Ev.same s).trans e2
 by_cases hlt:i < xs.length
 ·refine .inr ⟨it.go W2 H2 i e2 hlt,fun σ3 H3=>∃ W3 ρ3,PX X.K X.H₀ W3 σ3 ρ3 H3/\Ev W H1 W3 H3/\I (i+1) ρ3,fun σ3 H3 ⟨W3,ρ3,a,b,c⟩=>⟨xs.length - (i+1),by omega,rfl,hlt,W3,ρ3,a,b,c⟩,fun v H3 y=>?_⟩
  obtain ⟨s3,x,hx,rx⟩:=it.yld W2 H2 i v H3 e2 y hlt
  refine hg X.H₀ W2 σ2 ρ2 H3 v x gb _ _ (px2.mono s3) rx (turn i x ρ2 hx i2) fun σ4 ρ4 px4 _ _ q4=>?_
  have e3:Ev W H1 W2 H3:=e2.trans (Ev.same s3)
  have e3':Ev W H W2 H3:=e0.trans (Ev.same s3)
  exact⟨W2,ρ4,_,px4,q4,fun W' σ' H' ρ' e p q=>⟨W',ρ',p,e3.trans e,q⟩,k.rt,fun W' σ' H' ρ' e p q=>k.nx W' σ' H' ρ' (e3'.trans e) p q,fun W' σ' H' ρ' e p q=>⟨W',ρ',p,e3.trans e,q⟩⟩
 ·have e:i=xs.length:=by omega
  subst e
  exact .inl ⟨it.stop W2 H2 e2,k.nx W2 σ2 H2 ρ2 e0 px2 (fin ρ2 i2)⟩
end
def lR (fr:List (Option Nat)) (ρ:bA):bA:=fr.map fun o=>o.bind fun j=>(ρ[j]?).join.map fun m=>Slot.sh false m.val
def kI (D:Addr):Addr->Prop:=fun a=>a=D
theorem as3 {K:PySem.W.Frag}{H0:Hp}{W:Addr->Prop}{σ:St}{ρ:bA}{H1 H':Hp}{D:Addr}{acc:List V}{fr:List (Option Nat)} (px:PX K H0 W σ ρ H1) (hD:H1 D=none) (s:aD H1 H') (ha:H' D=some (.lst acc)) :
  PX K H1 (kI D) (fF fr σ) (lR fr ρ) H':=by
 have old:∀ {a:Addr}{o:HO},H1 a=some o->a ≠ D:=fun {a o} e z=>by rw [z,hD] at e; cases e
 refine⟨by unfold fF lR; rw [aW6,aW6],s,fun a z=>by cases z; exact⟨hD,_,ha,rfl⟩,fun i m h=>?_,fun i j x y a h1=>?_⟩
 ·unfold lR at h
  rw [aY1] at h
  cases ef:fr[i]? with
  | none=>rw [ef] at h; cases h
  | some o=>
   rw [ef] at h
   cases o with
   | none=>cases h
   | some j=>
    have h:some ((ρ[j]?).join.map fun m=>Slot.sh false m.val)=some (some m):=h
    cases er:ρ[j]? with
    | none=>rw [er] at h; cases h
    | some o=>
     rw [er] at h
     cases o with
     | none=>cases h
     | some m0=>
      cases h
      obtain ⟨v,ev,r⟩:=px.sl j m0 er
      refine⟨v,?_,?_⟩
      ·unfold fF
       rw [aY1,ef]
       show some ((σ[j]?).join)=_
       rw [ev]; rfl
      ·have r':aE K (fun _=>True) H1 v m0.val:=(A0 (Hs:=H1) r).same (aD.refl _) fun _ _=>trivial
       exact r'.keep ⟨fun a _ _ e=>⟨old e,s _ _ e⟩,fun a _ _ e=>⟨old e,s _ _ e⟩,fun a _ _ e=>⟨old e,s _ _ e⟩,fun _ _ e=>s _ _ e,fun _ _ _ e=>s _ _ e⟩
 ·unfold lR at h1
  rw [aY1] at h1
  cases ef:fr[i]? with
  | none=>rw [ef] at h1; cases h1
  | some o=>
   rw [ef] at h1
   cases o with
   | none=>cases h1
   | some j=>
    have h1:some ((ρ[j]?).join.map fun m=>Slot.sh false m.val)=some (some (Slot.own x)):=h1
    cases er:ρ[j]? with
    | none=>rw [er] at h1; cases h1
    | some o=>
     rw [er] at h1
     cases o with
     | none=>cases h1
     | some m0=>cases h1
section
variable {X : Cx} {σ : St} {H : Hp} {Q' : VK}
abbrev _root_.L2.Cx.frm (X:Cx) (H1:Hp):Cx:={ X with H₀:=H1 }
def jS (ti:eJ) (fr:List (Option Nat)) (p:iC) (tc:cO) (te:aC):aC:=fun ρ Q=>ti ρ fun xs g=>xs.length<=16000000/\∃ I:Nat->List PV->Prop,I 0 []/\
 (∀ i x acc,xs[i]? = some x->I i acc->p x false (lR fr ρ) fun ρ2=>tc ρ2 fun b=>if b=true then te ρ2 fun y gy=>Nw gy y/\I (i+1) (acc ++ [y]) else I (i+1) acc)/\∀ acc,I xs.length acc->Q (.lst acc) .fr
theorem B5 {ti:eJ}{fr:List (Option Nat)}{p:iC}{g:TG}{tc:cO}{te:aC}{own:Nat->Prop} (hg:lQ X.K own p g) (ho:∀ i,own i->fr[i]? = some none) (h:LE X (jS ti fr p tc te) σ H Q') :
  zN (LI X ti) fr (fun _=>g) (fun H1=>LT (X.frm H1) tc) (fun H1=>LE (X.frm H1) te) σ H Q':=by
 obtain ⟨W,ρ,Q,px,q,k⟩:=h
 refine⟨W,ρ,_,px,q,?_⟩
 rintro J H1 xs gb s it ⟨hl,I,i0,turn,fin⟩ D hD
 have px1:=px.mono s
 refine⟨fun i m acc H'=>m=xs.length - i/\i<=xs.length/\aD H1 H'/\H' D=some (.lst acc)/\∃ ys,Reps X.K (Ms H1 (kI D) true) H' acc ys/\ys.length<=i/\I i ys,⟨xs.length,by omega,bh0 _,bK hD _,bU,[],.nil,aW8 _,i0⟩,?_⟩
 rintro i m acc H' ⟨rfl,hi,sm,ha,ys,ry,hy,iy⟩
 refine⟨ha,?_⟩
 have ev:Ev W H1 (lM W D) H':=Ev.own sm hD
 by_cases hlt:i < xs.length
 ·refine .inr ⟨it.go _ H' i ev hlt,fun v H2 y=>?_⟩
  obtain ⟨s2,x,hx,rx⟩:=it.yld _ H' i v H2 ev y hlt
  have ha2:=s2 _ _ ha
  have pxb:PX X.K H1 (kI D) (fF fr σ) (lR fr ρ) H2:=as3 px1 hD (sm.trans s2) ha2
  have rx':aE X.K (Ms H1 (kI D) false) H2 v x:=rx.same (aD.refl _) fun a z=>by
   cases gb with
   | true=>exact fun e=>z.1 (.inr e)
   | false=>exact fun e=>z (.inr e)
  refine hg H1 (kI D) _ _ H2 v x false _ _ pxb rx' (turn i x ys hx iy) fun σ2 ρ2 px2 hown hlen q2=>⟨⟨hlen.symm,fun j w e=>?_⟩,?_⟩
  ·by_cases oj:own j
   ·have:=ho j oj
    unfold fF at e
    rw [aY1,this] at e
    cases e
   ·rw [hown j oj]; exact e
  ·refine⟨kI D,ρ2,_,px2,q2,fun b H4 s4 q4=>?_⟩
   have ha4:=s4 _ _ ha2
   have sm4:=(sm.trans s2).trans s4
   cases b with
   | false=>
    refine aY ⟨xs.length - (i+1),by omega,rfl,hlt,sm4,ha4,ys,ry.same (s2.trans s4) fun _ z=>z,by omega,by simpa using q4⟩
   | true=>
    refine b7 ⟨kI D,ρ2,_,px2.mono s4,by simpa using q4,?_⟩
    rintro w H5 y gy s5 ryy ⟨nw,q5⟩
    have ha5:=s5 _ _ ha4
    have lr:=ry.length
    refine⟨ha5,pE (by omega),xs.length - (i+1),by omega,rfl,hlt,fun b o e=>?_,bU,ys ++ [y],?_,by rw [aY4,bb9]; omega,q5⟩
    ·rw [aX (fun z=>by rw [z,hD] at e; cases e)]
     exact s5 _ _ (sm4 _ _ e)
    ·exact ((ry.same ((s2.trans s4).trans s5) fun _ z=>z).append (.cons (Nw.rep (px2.mono s4) nw ryy) .nil)).keep (.upd ha5 rfl fun b m=>⟨m.1,m⟩)
 ·have e:i=xs.length:=by omega
  subst e
  refine .inl ⟨it.stop _ H' ev,k _ H' _ .fr (s.trans sm) (.lst (s.free hD) ha (ry.same (aD.refl _) fun _ z=>s.free z.2)) (fin ys iy)⟩
def gD:cO:=fun _ Q=>Q true
theorem as4 {Qb:Bool->Hp->Prop} (h:LT X gD σ H Qb):zL σ H Qb:=by
 obtain ⟨W,ρ,Q,px,q,k⟩:=h
 exact k _ _ (aD.refl _) q
end
section
variable {κ : Type} [DecidableEq κ]
def dR (ps:List (κ × PV)) (k:κ):Option PV:=(ps.find? fun p=>decide (p.1=k)).map (·.2)
def jT (ps:List (κ × PV)) (k:κ) (x:PV):List (κ × PV):=if (ps.any fun p=>decide (p.1=k))=true then ps.map (fun p=>if p.1=k then (p.1,x) else p) else ps ++ [(k,x)]
variable {K : PySem.W.Frag} {M : Addr → Prop} {H : Hp}
theorem j4 (k:κ):∀ {kvs:List (κ × V)}{ps:List (κ × PV)},kvs.map (·.1)=ps.map (·.1)->Reps K M H (kvs.map (·.2)) (ps.map (·.2))->(dR ps k=none->eF kvs k=none)/\∀ x,dR ps k=some x->∃ v,eF kvs k=some v/\aE K M H v x
 | [],[],_,_=>⟨fun _=>rfl,fun x h=>by cases h⟩
 | [],_ :: _,e,_=>by cases e
 | _ :: _,[],e,_=>by cases e
 | (k1,v) :: kvs,(k2,x) :: ps,e,r=>by
  injection e with e1 e2
  have e1:k1=k2:=e1
  subst e1
  cases r with
  | cons r t=>
   obtain ⟨h1,h2⟩:=j4 k e2 t
   unfold dR eF at h1 h2 ⊢
   by_cases e:k1=k
   ·simp only [bh5,e,decide_true,Option.map_some]
    exact⟨fun z=>(by cases z),fun y z=>(by cases z; exact⟨v,rfl,r⟩)⟩
   ·simp only [bh5,e,decide_false]
    exact⟨h1,h2⟩
theorem as5 (k:κ) {kvs:List (κ × V)}{ps:List (κ × PV)} (e:kvs.map (·.1)=ps.map (·.1)):(kvs.any fun p=>decide (p.1=k))=ps.any fun p=>decide (p.1=k):=by
 have h1:(kvs.any fun p=>decide (p.1=k))=(kvs.map (·.1)).any fun z=>decide (z=k):=by rw [List.any_map]; rfl
 have h2:(ps.any fun p=>decide (p.1=k))=(ps.map (·.1)).any fun z=>decide (z=k):=by rw [List.any_map]; rfl
 rw [h1,h2,e]
theorem B6 (k:κ) {w:V}{y:PV} (q:aE K M H w y):∀ {kvs:List (κ × V)}{ps:List (κ × PV)},kvs.map (·.1)=ps.map (·.1)->Reps K M H (kvs.map (·.2)) (ps.map (·.2))->
  (kvs.map fun kv=>if kv.1=k then (kv.1,w) else kv).map (·.1)=(ps.map fun kv=>if kv.1=k then (kv.1,y) else kv).map (·.1)/\Reps K M H ((kvs.map fun kv=>if kv.1=k then (kv.1,w) else kv).map (·.2)) ((ps.map fun kv=>if kv.1=k then (kv.1,y) else kv).map (·.2))
 | [],[],_,_=>⟨rfl,.nil⟩
 | [],_ :: _,e,_=>by cases e
 | _ :: _,[],e,_=>by cases e
 | (k1,v) :: kvs,(k2,x) :: ps,e,r=>by
  injection e with e1 e2
  have e1:k1=k2:=e1
  subst e1
  cases r with
  | cons r t=>
   obtain ⟨h1,h2⟩:=B6 k q e2 t
   by_cases e:k1=k
   ·simp only [bc2,e,if_true]
    exact⟨by rw [h1],.cons q h2⟩
   ·simp only [bc2,e,be6]
    exact⟨by rw [h1],.cons r h2⟩
theorem as6 (k:κ) {w:V}{y:PV} (q:aE K M H w y) {kvs:List (κ × V)}{ps:List (κ × PV)} (e:kvs.map (·.1)=ps.map (·.1)) (r:Reps K M H (kvs.map (·.2)) (ps.map (·.2))) :
  (eU kvs k w).map (·.1)=(jT ps k y).map (·.1)/\Reps K M H ((eU kvs k w).map (·.2)) ((jT ps k y).map (·.2)):=by
 unfold eU jT
 rw [as5 k e]
 split
 ·exact B6 k q e r
 ·rw [aY9,aY9,aY9,aY9,e]
  exact⟨rfl,r.append (.cons q .nil)⟩
end
def kP:aM->PV
 | .inl i=>.int i
 | .inr x=>.str x
theorem B7 {K:PySem.W.Frag}{M:Addr->Prop}{H:Hp}{v:V}{k:aM} (r:aE K M H v (kP k)):v=kV k:=by
 cases k with
 | inl i=>cases r; rfl
 | inr x=>cases r; rfl
theorem pO {K:PySem.W.Frag}{M:Addr->Prop}{H:Hp}:∀ {ks:List aM}{us:List V},Reps K M H us (ks.map kP)->us=ks.map kV
 | [],_,.nil=>rfl
 | k :: r,_,.cons q t=>by rw [B7 q,pO t]; rfl
def B8:PV->PV
 | .fK ps=>.dK ps
 | .fT ps=>.dT ps
 | x=>x
def B9 (x y:PV) (o:Option PV):Prop:=(∃ ps k,B8 x = .dK ps/\y=kP k/\o=dR ps k) ∨ (∃ ps k,B8 x = .dT ps/\y = .tup (k.map kP)/\o=dR ps k)
theorem as7 {K:PySem.W.Frag}{M M2:Addr->Prop}{H:Hp}{v w:V}{x y:PV}{o:Option PV} (h:B9 x y o) (rx:aE K M H v x) (ry:aE K M2 H w y):∃ a o',v = .ref a/\iT H a w o'/\(o=none->o'=none)/\∀ z,o=some z->∃ u,o'=some u/\aE K M H u z:=by
 rcases h with ⟨ps,k,ex,rfl,rfl⟩ | ⟨ps,k,ex,rfl,rfl⟩
 ·obtain rfl:=B7 ry
  cases rx with
  | dK m h e r=>cases ex; exact⟨_,_,rfl,iT.k h,(j4 k e r).1,(j4 k e r).2⟩
  | fK h e r=>cases ex; exact⟨_,_,rfl,.inl ⟨_,k,.inr ⟨_,h⟩,rfl,rfl⟩,(j4 k e r).1,(j4 k e r).2⟩
  | _=>cases ex
 ·obtain ⟨b,us,rfl,hb,rb⟩:=ry.sqT
  obtain rfl:=pO rb
  cases rx with
  | dT m h e r=>cases ex; exact⟨_,_,rfl,iT.t h hb,(j4 k e r).1,(j4 k e r).2⟩
  | fT h e r=>cases ex; exact⟨_,_,rfl,.inr ⟨_,k,b,.inr ⟨_,h⟩,rfl,hb,rfl⟩,(j4 k e r).1,(j4 k e r).2⟩
  | _=>cases ex
section
variable {X : Cx} {σ : St} {H : Hp} {D : cP} {tk td te : aC} {Q' : VK}
def lS (neg:Bool) (tk td:aC):aC:=fun ρ Q=>tk ρ fun y _=>td ρ fun x _=>∃ o,B9 x y o/\Q (.bl (if neg=true then !o.isSome else o.isSome)) .fr
theorem as8 {α β:Type}{o:Option α}{o':Option β}{P:β->α->Prop} (h1:o=none->o'=none) (h2:∀ z,o=some z->∃ u,o'=some u/\P u z):o'.isSome=o.isSome:=by
 cases o with
 | none=>rw [h1 rfl]; rfl
 | some z=>obtain ⟨u,e,_⟩:=h2 z rfl; rw [e]; rfl
theorem as9 (h:LE X (lS true tk td) σ H Q'):zD (LE X tk) (LE X td) σ H Q':=by
 obtain ⟨W,ρ,Q,px,q,k⟩:=h
 refine⟨W,ρ,_,px,q,fun w H1 y g s r q=>⟨W,ρ,_,px.mono s,q,?_⟩⟩
 rintro v H2 x g' s2 r2 ⟨o,ak,q⟩
 obtain ⟨a,o',rfl,dg,h1,h2⟩:=as7 ak r2 (r.same s2 fun _ z=>z)
 refine⟨a,o',rfl,dg,?_⟩
 rw [as8 h1 h2]
 exact k _ _ _ .fr (s.trans s2) (.bl _) q
theorem PX.updT {K:PySem.W.Frag}{H0:Hp}{W:Addr->Prop}{σ:St}{ρ:bA}{H:Hp}{i:Nat}{a:Addr}{x:PV}{kvs:List (List aM × V)}{ps:List (List aM × PV)} (p:PX K H0 W σ ρ H) (hi:ρ[i]? = some (some (.own x))) (ha:σ[i]? = some (some (.ref a))) (wa:W a)
  (r:kvs.map (·.1)=ps.map (·.1)/\Reps K (Ms H0 W true) (upd H a (.dT kvs)) (kvs.map (·.2)) (ps.map (·.2))):PX K H0 W σ (ρ.set i (some (.own (.dT ps)))) (upd H a (.dT kvs)):=p.updOwn hi ha wa rfl (y:=.dT ps) ⟨kvs,bU,r⟩
theorem at0 {κ α β:Type}{l:List (κ × α)}{m:List (κ × β)} (e:l.map (·.1)=m.map (·.1)):l.length=m.length:=by
 have:=congrArg List.length e
 rw [aW6,aW6] at this
 exact this
def lT (i:Nat) (tk te:aC):aO:=fun D ρ=>te ρ fun z g=>∃ ps,ρ[i]? = some (some (.own (.dT ps)))/\tk ρ fun y _=>∃ k,y = .tup (k.map kP)/\Nw g z/\ps.length < 16000000/\D.nx (ρ.set i (some (.own (.dT (jT ps k z)))))
theorem at4 {i:Nat} (h:LS X (lT i tk te) D σ H):zE (iN i) (LE X tk) (LE X te) D σ H:=by
 obtain ⟨W,ρ,D',px,q,k⟩:=h
 refine⟨W,ρ,_,px,q,?_⟩
 rintro w H1 z g s rz ⟨ps,hi,q⟩
 obtain ⟨v,ev,a,rfl,wa,kvs,ea,e1,r⟩:=(px.mono s).sl i _ hi
 refine⟨_,ev,W,ρ,_,px.mono s,q,?_⟩
 rintro kv H2 y g' s2 ry ⟨kk,rfl,nw,hl,q⟩
 obtain ⟨b,us,rfl,hb,rb⟩:=ry.sqT
 obtain rfl:=pO rb
 have ea2:=s2 _ _ ea
 refine⟨a,_,rfl,mZ.t ea2 hb (pE (by rw [at0 e1]; omega)),?_⟩
 refine k.nx W σ _ _ ((Ev.same (s.trans s2)).trans (Ev.upd wa)) ((px.mono (s.trans s2)).updT hi ev wa ?_) q
 obtain ⟨h1,h2⟩:=as6 kk ((Nw.rep px nw rz).same s2 fun _ z=>z) e1 (r.same s2 fun _ z=>z)
 exact⟨h1,h2.keep (.upd ea2 rfl fun b m=>⟨iY wa m,m⟩)⟩
theorem at5 (h:LE X (qC (.dT [])) σ H Q'):zF σ H Q':=by
 obtain ⟨W,ρ,Q,px,q,k⟩:=h
 exact fun p hp=>k _ _ _ .fr (bK hp _) (.dT hp bU rfl .nil) q
end
def bG:Nat->PV->PV->Bool
 | _,.non,.non=>true
 | _,.bl a,.bl b=>a == b
 | _,.int a,.int b=>a == b
 | _,.str a,.str b=>a == b
 | n+1,.tup xs,.tup ys=>(xs.zip ys).all (fun p=>bG n p.1 p.2) && xs.length == ys.length
 | n+1,.lst xs,.lst ys=>(xs.zip ys).all (fun p=>bG n p.1 p.2) && xs.length == ys.length
 | n+1,.kt xs,.kt ys=>(xs.zip ys).all (fun p=>bG n p.1 p.2) && xs.length == ys.length
 | _,_,_=>false
def cD:Nat->PV->PV->Bool
 | _,.non,.non=>true
 | _,.bl _,.bl _=>true
 | _,.int _,.int _=>true
 | _,.str _,.str _=>true
 | _,.non,.int _=>true
 | _,.int _,.non=>true
 | n+1,.tup xs,.tup ys=>(xs.zip ys).all (fun p=>cD n p.1 p.2)
 | n+1,.lst xs,.lst ys=>(xs.zip ys).all (fun p=>cD n p.1 p.2)
 | n+1,.kt xs,.kt ys=>(xs.zip ys).all (fun p=>cD n p.1 p.2)
 | _+1,.non,.tup _=>true
 | _+1,.tup _,.non=>true
 | _,_,_=>false
theorem at6 (n:Nat) (a b:Int):bG n (.int a) (.int b)=(a == b):=by cases n <;> rfl
theorem C0 (n:Nat):∀ (a b:List Int),((((intz a).zip (intz b)).all fun p=>bG n p.1 p.2) && (intz a).length == (intz b).length)=decide (a=b)
 | [],[]=>rfl
 | [],_ :: _=>by simp
 | _ :: _,[]=>by simp
 | x :: a,y :: b=>by
  have ih:=C0 n a b
  simp only [bc2,bd2,bk0,bb4,at6] at ih ⊢
  by_cases e:x=y
  ·subst e
   have:((intz a).length+1 == (intz b).length+1)=((intz a).length == (intz b).length):=by simp
   rw [this,bb5,Bool.true_and,ih]
   simp
  ·have:(x == y)=false:=beq_eq_false_iff_ne.mpr e
   rw [this,bh3,bh3]
   simp [e]
theorem pP (n:Nat) (a b:List Int):bG (n+1) (.tup (intz a)) (.tup (intz b))=decide (a=b):=C0 n a b
theorem C1 (n:Nat):∀ (a b:List Int),(((intz a).zip (intz b)).all fun p=>cD n p.1 p.2)=true
 | [],_=>by simp
 | _ :: _,[]=>by simp
 | x :: a,y :: b=>by
  simp only [bc2,bd2,bk0,C1 n a b,Bool.and_true]
  cases n <;> rfl
theorem pQ (n:Nat) (a b:List Int):cD (n+1) (.tup (intz a)) (.tup (intz b))=true:=C1 n a b
def uI (ta:aC):aC:=fun ρ Q=>ta ρ fun x _=>∃ i,x = .int i/\Q (.int (-i)) .fr
def C2:PV->Option String
 | .non=>some "NoneType"
 | .bl _=>some "bool"
 | .int _=>some "int"
 | .str _=>some "str"
 | .tup _=>some "tuple"
 | .kt _=>some "tuple"
 | .lst _=>some "list"
 | _=>none
def uJ (K:PySem.W.Frag) (n:String) (te:aC):aC:=fun ρ Q=>te ρ fun x _=>∃ T b,C2 x=some T/\PySem.W.kitOne K (.type T) (.type n)=some b/\Q (.bl b) .fr
def pS (n:Nat) (neg:Bool):PV->Tg->PV->Tg->PK->Prop:=fun x _ y _ Q=>((∃ xs ys,x = .tup xs/\y = .tup ys) ∨ (∃ xs ys,x = .lst xs/\y = .lst ys))/\cD (n+1) x y=true/\Q (.bl (if neg=true then !bG (n+1) x y else bG (n+1) x y)) .fr
abbrev lU:=bA->(Option Int->Prop)->Prop
def fN (xs:List PV) (lo hi:Option Int):List PV:=(xs.drop (HT.aV xs.length 0 lo)).take (HT.aV xs.length xs.length hi - HT.aV xs.length 0 lo)
def at7:PV->List PV->PV
 | .tup _,ys=>.tup ys
 | .kt _,ys=>.tup ys
 | _,ys=>.lst ys
def gE:lU:=fun _ Q=>Q none
def gF (te:aC):lU:=fun ρ Q=>te ρ fun x _=>∃ i,x = .int i/\Q (some i)
def gG (te:aC) (tl th:lU):aC:=fun ρ Q=>te ρ fun x _=>tl ρ fun lo=>th ρ fun hi=>∃ xs,pL x=some xs/\flats xs=true/\Q (at7 x (fN xs lo hi)) .fr
def eW (N:List Str) (xs:List PV):bA:=xs.map (fun x=>some (.sh (flat x) x)) ++ List.replicate (N.length - xs.length) none
abbrev dJ (ta tb:aC):aC:=q2 (dW fun i j=>.int (i+j)) ta tb
abbrev fO (ta tb:aC):aC:=q2 (dW fun i j=>.int (i - j)) ta tb
abbrev nI (ta tb:aC):aC:=q2 (RI mV fun i j=>.int (i * j)) ta tb
abbrev cW (ta tb:aC):aC:=q2 (RI sX fun i j=>.int (i / j)) ta tb
abbrev bR (ta tb:aC):aC:=q2 (RI (fun _ j=>0 < j) fun i j=>.int (i % j)) ta tb
abbrev at8 (ta tb:aC):aC:=q2 (RI sY fun i j=>.int (i ^ j.toNat)) ta tb
abbrev j5 (ta tb:aC):aC:=q2 (dW fun i j=>.bl (decide (i < j))) ta tb
abbrev qLe (ta tb:aC):aC:=q2 (dW fun i j=>.bl (decide (i<=j))) ta tb
abbrev uK (ta tb:aC):aC:=q2 (dW fun i j=>.bl (decide (j < i))) ta tb
abbrev C3 (ta tb:aC):aC:=q2 (dW fun i j=>.bl (decide (j<=i))) ta tb
abbrev fP (ta tb:aC):aC:=q2 (lK false) ta tb
abbrev uL (ta tb:aC):aC:=q2 (lK true) ta tb
abbrev C4 (ta tb:aC):aC:=q2 (lN false) ta tb
abbrev uM (ta tb:aC):aC:=q2 (lN true) ta tb
abbrev aS (ta tb:aC):aC:=q2 uE ta tb
def pT:List PV->(PV->Prop)->Prop:=fun xs Q=>A8 xs Q/\∀ ns,xs ≠ [.scr ns]
def QE (X:Cx) (e:Expr) (t:aC):Prop:=PE X e (LE X t)
def QT (X:Cx) (e:Expr) (t:cO):Prop:=PT X e (LT X t)
def QW (X:Cx) (e:Expr) (t:cO):Prop:=PW X e (LT X t)
def QA (X:Cx) (es:List Expr) (t:cB):Prop:=PA X es (LA X t)
def QS (X:Cx) (st:Stmt) (t:aO):Prop:=PS X st (LS X t)
def dY (X:Cx) (st:List Stmt) (t:aO):Prop:=dF X st (LS X t)
def QI (X:Cx) (tg iter:Expr) (t:eJ):Prop:=PI X tg iter (LI X t)
section
variable {X : Cx}
theorem cL {e:Expr}{t t':TE} (h:PE X e t) (m:∀ σ H Q,t' σ H Q->t σ H Q):PE X e t':=fun pins s σ H Q I q=>h pins s σ H Q I (m σ H Q q)
theorem pU {e:Expr}{t t':TT} (h:PT X e t) (m:∀ σ H Q,t' σ H Q->t σ H Q):PT X e t':=fun pins s σ H Q I q=>h pins s σ H Q I (m σ H Q q)
theorem C5 {e:Expr}{t t':TT} (h:PW X e t) (m:∀ σ H Q,t' σ H Q->t σ H Q):PW X e t':=fun wh pins s σ H Q I q=>h wh pins s σ H Q I (m σ H Q q)
theorem C6 {e:List Expr}{t t':TA} (h:PA X e t) (m:∀ σ H Q,t' σ H Q->t σ H Q):PA X e t':=fun pos pins s σ H Q I q=>h pos pins s σ H Q I (m σ H Q q)
theorem dZ {e:Stmt}{t t':TS} (h:PS X e t) (m:∀ D σ H,t' D σ H->t D σ H):PS X e t':=fun pins s σ H D I q=>h pins s σ H D I (m D σ H q)
theorem uN {e:List Stmt}{t t':TS} (h:dF X e t) (m:∀ D σ H,t' D σ H->t D σ H):dF X e t':=fun pins s σ H D I q=>h pins s σ H D I (m D σ H q)
theorem pV {tg e:Expr}{t t':TI} (h:PI X tg e t) (m:∀ σ H R,t' σ H R->t σ H R):PI X tg e t':=fun pins s σ H R I q=>h pins s σ H R I (m σ H R q)
variable {a b c e o : Expr} {es cG : List Expr} {ta tb te to tk : aC} {tr : cB} {tA tB' tc : cO} {pos p2 px : Pos} {st : Stmt} {sts : List Stmt} {t u : aO}
theorem qv (i:Nat) {x:Str}{pos:Pos} (hN:X.N[i]? = some x:=by rfl) (hv:i7 X.env.scope x:=by first | exact Or.inl rfl | exact Or.inr (Or.inl rfl) | exact Or.inr (Or.inr rfl)) (hd:(x == ("__debug__" : Str))=false:=by decide)
  (hcd:(x == ("__classdict__" : Str))=false:=by decide):QE X (.Name x pos) (a5 i):=cL (jI hN hv hd hcd) fun _ _ _=>ao6
theorem a9 {i j}:QE X (.Constant (.int i) j pos) (qC (.int i)):=cL ab6 fun _ _ _=>nE fun _=>.int i
theorem iD {i j}:QE X (.Constant (.bool i) j pos) (qC (.bl i)):=cL ab7 fun _ _ _=>nE fun _=>.bl i
theorem gH {j}:QE X (.Constant .none j pos) (qC .non):=cL ab8 fun _ _ _=>nE fun _=>.non
theorem fQ {i j}:QE X (.Constant (.str i) j pos) (qC (.str i)):=cL ab9 fun _ _ _=>nE fun _=>.str i
theorem jU {op:Operator}{R:PV->Tg->PV->Tg->PK->Prop}{r:R2} (ho:bX X (binaryOp op) r) (cv:dD X R r) (ha:QE X a ta) (hb:QE X b tb):QE X (.BinOp a op b pos) (q2 R ta tb):=cL (ae2 ho ha hb) fun _ _ _=>pH cv
theorem e8 (ha:QE X a ta) (hb:QE X b tb):QE X (.BinOp a .Add b pos) (q2 (dW fun i j=>.int (i+j)) ta tb):=jU ae4 A1 ha hb
theorem gI (ha:QE X a ta) (hb:QE X b tb):QE X (.BinOp a .Sub b pos) (q2 (dW fun i j=>.int (i - j)) ta tb):=jU ae5 A1 ha hb
theorem nJ (ha:QE X a ta) (hb:QE X b tb):QE X (.BinOp a .Mult b pos) (q2 (RI mV fun i j=>.int (i * j)) ta tb):=jU ae6 pI ha hb
theorem dS (ha:QE X a ta) (hb:QE X b tb):QE X (.BinOp a .FloorDiv b pos) (q2 (RI sX fun i j=>.int (i / j)) ta tb):=jU ae7 pI ha hb
theorem c8 (ha:QE X a ta) (hb:QE X b tb):QE X (.BinOp a .Mod b pos) (q2 (RI (fun _ j=>0 < j) fun i j=>.int (i % j)) ta tb):=jU ae8 pI ha hb
theorem at9 (ha:QE X a ta) (hb:QE X b tb):QE X (.BinOp a .Pow b pos) (q2 (RI sY fun i j=>.int (i ^ j.toNat)) ta tb):=jU ae9 pI ha hb
theorem lV {op:CmpOp}{R:PV->Tg->PV->Tg->PK->Prop}{r:R2} (ho:bX X (compareOp op) r) (cv:dD X R r) (ha:QE X a ta) (hb:QE X b tb) (hm:behindInMarks op b=false):QE X (.Compare a [op] [b] pos) (q2 R ta tb):=cL (af6 ho ha hb hm) fun _ _ _=>pH cv
theorem iE {op:CmpOp}{R:PV->Tg->PV->Tg->PK->Prop}{r:R2} (ho:bX X (compareOp op) r) (cv:dD X R r) (ha:QE X a ta) (hb:QE X b tb) (hm:behindInMarks op b=false):QT X (.Compare a [op] [b] pos) (aW (q2 R ta tb)):=pU (af8 ho ha hb hm) fun _ _ _ h=>pH cv (u8 h)
theorem uO (ha:QE X a ta) (hb:QE X b tb):QE X (.Compare a [.Lt] [b] pos) (q2 (dW fun i j=>.bl (decide (i < j))) ta tb):=lV t5 lJ ha hb (eD _)
theorem au0 (ha:QE X a ta) (hb:QE X b tb):QE X (.Compare a [.LtE] [b] pos) (q2 (dW fun i j=>.bl (decide (i<=j))) ta tb):=lV af1 lJ ha hb (eD _)
theorem C7 (ha:QE X a ta) (hb:QE X b tb):QE X (.Compare a [.GtE] [b] pos) (q2 (dW fun i j=>.bl (decide (j<=i))) ta tb):=lV af3 lJ ha hb (eD _)
theorem nK (ha:QE X a ta) (hb:QE X b tb):QT X (.Compare a [.Lt] [b] pos) (aW (q2 (dW fun i j=>.bl (decide (i < j))) ta tb)):=iE t5 lJ ha hb (eD _)
theorem C8 (ha:QE X a ta) (hb:QE X b tb):QT X (.Compare a [.Gt] [b] pos) (aW (q2 (dW fun i j=>.bl (decide (j < i))) ta tb)):=iE af2 lJ ha hb (eD _)
theorem fR (ha:QE X a ta) (hb:QE X b tb):QT X (.Compare a [.Eq] [b] pos) (aW (q2 (lK false) ta tb)):=iE xY ao7 ha hb (eD _)
theorem C9 (ha:QE X a ta) (hb:QE X b tb):QT X (.Compare a [.NotEq] [b] pos) (aW (q2 (lK true) ta tb)):=iE xZ ao8 ha hb (eD _)
theorem E1 (ha:QE X a ta) (hb:QE X b tb):QT X (.Compare a [.Is] [b] pos) (aW (q2 (lN false) ta tb)):=iE af4 ar7 ha hb (eD _)
theorem uP (ha:QE X a ta) (hb:QE X b tb):QT X (.Compare a [.IsNot] [b] pos) (aW (q2 (lN true) ta tb)):=iE af5 ar8 ha hb (eD _)
theorem pW (hu:X.A.units+1 < cLine) (hk:QE X a tk) (hd:QE X b te) (hm:behindInMarks .NotIn b=false:=by rfl):QT X (.Compare a [.NotIn] [b] pos) (aW (lS true tk te)):=pU (ac0 (ak9 hu hk hd) hm) fun _ _ _ h=>as9 (u8 h)
theorem jV (h:QE X e te) (he:∀ whole,isTrue e X.env whole=(do let v <- whole; standAt e.pos; holding [v] (truthy v)):=by intro _; rfl):QT X e (aW te):=pU (ac1 h he) fun _ _ _ h=>u8 h
theorem pX (ha:QT X a tA):QW X (.BoolOp .And [a] pos) tA:=ac2 ha
theorem jW (ha:QT X a tA):QW X (.BoolOp .Or [a] pos) tA:=ac3 ha
theorem pY (ha:QT X a tA) (hb:QW X (.BoolOp .And (b :: cG) pos) tB'):QW X (.BoolOp .And (a :: b :: cG) pos) (kE tA tB'):=C5 (ac4 ha hb) fun _ _ _=>ao9
theorem iF (ha:QT X a tA) (hb:QW X (.BoolOp .Or (b :: cG) pos) tB'):QW X (.BoolOp .Or (a :: b :: cG) pos) (fJ tA tB'):=C5 (ac5 ha hb) fun _ _ _=>ap0
theorem gJ (h:QW X e tA):QT X e tA:=PW.pt h
theorem kJ (ha:QT X a tA):QT X (.UnaryOp .Not a pos) (iA tA):=pU (ac6 ha) fun _ _ _=>ap1
theorem E2 {op} (h:QE X a ta):QE X (.BoolOp op [a] pos) ta:=ac7 h
theorem pZ (ha:QE X a ta) (hb:QE X (.BoolOp .And (b :: cG) pos) tb):QE X (.BoolOp .And (a :: b :: cG) pos) (lL ta tb):=cL (ac8 ha hb) fun _ _ _=>ap2
theorem aB:QA X [] aA:=C6 iP fun _ _ _=>ap3
theorem a7 (ha:QE X e te) (hr:QA X es tr) (hs:starEach (e :: es) X.env=(false,eval e X.env) :: starEach es X.env:=by rfl):QA X (e :: es) (a6 te tr):=C6 (fW ha hr hs) fun _ _ _=>ap4
theorem cI {x1} (h:QA X es tr):QE X (.Tuple es x1 pos) (bL tr):=cL (yA h) fun _ _ _=>ap6
theorem E3 {x1} (h:QA X es tr):QE X (.Tuple es x1 pos) (pJ tr):=cL (yA h) fun _ _ _=>ap5
theorem gX (h:QA X es tr):QE X (.List es pos) (eI tr):=cL (ag5 h) fun _ _ _=>ap7
theorem aT (ha:QE X a ta) (hb:QE X b tb) (hs:yR b:=by exact fun _ _=>rfl):QE X (.Subscript a b pos) (q2 uE ta tb):=cL (ai7 aj1 ha hb hs) fun _ _ _=>pH aq9
theorem E4:QE X (.Dict [] [] pos) (qC (.dT [])):=cL al2 fun _ _ _=>at5
theorem gY {x:Str}{id:String}{R:List PV->(PV->Prop)->Prop}{r:List V->Hp->VK->Prop} (hc:cH X (.builtin id) r) (cv:dH X R r) (hg:Gl X x) (hm:X.mg x=none) (hv:bootBuiltins x=some (.builtin id)) (ha:QA X (e :: es) tr) (hn:x ≠ "__name__":=by decide) (hdb:(x == ("__debug__" : Str))=false:=by decide)
  (he:starEach (e :: es) X.env=(false,eval e X.env) :: starEach es X.env:=by rfl) (hpl:(backTo pos (starEach es X.env)).any (·.1)=false:=by rfl):QE X (.Call (.Name x p2) (e :: es) [] pos) (aF R tr):=cL (tF hc hg hm hv ha hn hdb he hpl) fun _ _ _=>A4 cv
theorem qA {x:Str}{T:String}{R:List PV->(PV->Prop)->Prop}{r:List V->Hp->VK->Prop} (hc:cH X (.type T) r) (cv:dH X R r) (hg:Gl X x) (hm:X.mg x=none) (hv:bootBuiltins x=some (.type T)) (ha:QA X (e :: es) tr) (hn:x ≠ "__name__":=by decide) (hdb:(x == ("__debug__" : Str))=false:=by decide)
  (he:starEach (e :: es) X.env=(false,eval e X.env) :: starEach es X.env:=by rfl) (hpl:(backTo pos (starEach es X.env)).any (·.1)=false:=by rfl):QE X (.Call (.Name x p2) (e :: es) [] pos) (aF R tr):=cL (ag8 hc hg hm hv ha hn hdb he hpl) fun _ _ _=>A4 cv
theorem cC:dY X [] bQ:=uN ad0 fun _ _ _=>ap8
theorem aJ (h1:QS X st t) (h2:dY X sts u):dY X (st :: sts) (aG t u):=uN (ad1 h1 h2) fun _ _ _=>ap9
theorem aR (h1:QS X st t):dY X [st] t:=ad2 h1
theorem bH {i:Nat}{x:Str} (hN:X.N.Nodup) (he:QE X e te) (hi:X.N[i]? = some x:=by rfl) (hx:gN X.env.scope x:=by first | exact Or.inl rfl | exact Or.inr rfl) (hs:swapsWith e (some (.Name x p2)) pos.line X.env=pure false:=by rfl) (hf:X.fn x=true ∨ X.env.scope.names.lookup x=some .local:=by first | exact .inl rfl | exact .inr rfl) :
  QS X (.Assign [.Name x p2] e pos) (bC i te):=dZ (xN hN hi hx he hs hf) fun _ _ _=>aq0
theorem jX {i:Nat}{x:Str} (hN:X.N.Nodup) (he:QE X e te) (hi:X.N[i]? = some x:=by rfl) (hx:gN X.env.scope x:=by first | exact Or.inl rfl | exact Or.inr rfl) (hs:swapsWith e (some (.Name x p2)) pos.line X.env=pure false:=by rfl) (hf:X.fn x=true ∨ X.env.scope.names.lookup x=some .local:=by first | exact .inl rfl | exact .inr rfl) :
  QS X (.Assign [.Name x p2] e pos) (iB i te):=dZ (xN hN hi hx he hs hf) fun _ _ _=>aq2
theorem au1 (he:QE X e te) (hs:swapsWith e none pos.line X.env=pure false:=by rfl):QS X (.Expr e pos) (uC te):=dZ (oJ he hs) fun _ _ _=>aq3
theorem bI (he:QE X e te):QS X (.Return (some e) pos) (bD te):=dZ (xI he) fun _ _ _=>aq4
theorem lW (i:Nat) {x:Str} (hN:X.N[i]? = some x:=by rfl) (hv:i7 X.env.scope x:=by first | exact Or.inl rfl | exact Or.inr (Or.inl rfl) | exact Or.inr (Or.inr rfl)) (hd:(x == ("__debug__" : Str))=false:=by decide) (hcd:(x == ("__classdict__" : Str))=false:=by decide) :
  QS X (.Return (some (.Name x p2)) pos) (jO i):=dZ (xI (jI hN hv hd hcd)) fun _ _ _=>aq5
theorem c9 {sa sb:List Stmt} (hc:QT X c tc) (ha:dY X sa t) (hb:dY X sb u):QS X (.If c sa sb pos) (bO tc t u):=dZ (ad3 hc ha hb) fun _ _ _=>aq6
theorem au2 {body:List Stmt} (hp:PassesOwn (model X.prog X.w) X.A X.env X.xe) (hc:QT X c tc) (hb:dY X body t):QS X (.While c body [] pos) (uD tc t):=dZ (ad4 hp hc hb) fun _ _ _=>aq7
theorem qB (i:Nat) {x:Str}{apos cpos xpos:Pos} (he:QE X e te) (hN:X.N[i]? = some x:=by rfl) (hv:i7 X.env.scope x:=by first | exact Or.inl rfl | exact Or.inr (Or.inl rfl) | exact Or.inr (Or.inr rfl)) (hd:(x == ("__debug__" : Str))=false:=by decide) (hcd:(x == ("__classdict__" : Str))=false:=by decide)
  (hbase:attributeBase (.Name x xpos) "append" X.env (eval (.Name x xpos) X.env)=eval (.Name x xpos) X.env:=by rfl)
  (hfew:((backTo cpos (starEach [e] X.env)).all (fun x=>!x.1) && (backToKw cpos (keywordEach [] X.env)).all (fun x=>x.1.isSome) && decide (([e]:List Expr).length+([]:List Keyword).length+(if ([]:List Keyword).isEmpty then 0 else 1) < 30))=true:=by rfl)
  (hline:(apos.endLine == cpos.line)=true:=by rfl) (hs:starEach [e] X.env=(false,eval e X.env) :: starEach [] X.env:=by rfl) (hplain:(backTo cpos (starEach [] X.env)).any (·.1)=false:=by rfl)
  (hsw:swapsWith (.Call (.Attribute (.Name x xpos) "append" apos) [e] [] cpos) none pos.line X.env=pure false:=by rfl) :
  QS X (.Expr (.Call (.Attribute (.Name x xpos) "append" apos) [e] [] cpos) pos) (kF i te):=
 dZ (oJ (tJ PySem.F.plainAttrs_list PySem.F.slot_list_append PySem.F.type_list_append yY (jI hN hv hd hcd) (fW he iP hs) hbase hfew hline hs hplain) hsw) fun _ _ _=>aq8
theorem qD {i:Nat}{x:Str}{xpos tpos:Pos} (hu:X.A.units+1 < cLine) (hk:QE X a tk) (he:QE X e te) (hN:X.N[i]? = some x:=by rfl) (hv:i7 X.env.scope x:=by first | exact Or.inl rfl | exact Or.inr (Or.inl rfl) | exact Or.inr (Or.inr rfl)) (hd:(x == ("__debug__" : Str))=false:=by decide) (hcd:(x == ("__classdict__" : Str))=false:=by decide)
  (hs:swapsWith e (some (.Subscript (.Name x xpos) a tpos)) pos.line X.env=pure false:=by rfl):QS X (.Assign [.Subscript (.Name x xpos) a tpos] e pos) (lT i tk te):=dZ (al0 hu (jI hN hv hd hcd) hk he hs) fun _ _ _=>at4
theorem au3 {tg l:Expr}{tl:TE} (hl:PE X l tl):PI X tg l (B0 X.K tl):=by
 intro pins s σ H R I h
 refine aQ (hl pins s σ H _ I h) fun v s1 ⟨x,H1,I1,r1,q1⟩=>?_
 obtain ⟨a,e,q⟩:=q1
 subst e
 cases r1
 rcases q with ⟨xs,hq,q⟩ | ⟨xs,hq,q⟩
 ·obtain ⟨its,rv,p,hz⟩:=I1.list hq
  refine wpAny_pyIter_list p.isList ?_
  refine⟨s1.heap.objs.size,[s1.heap.objs.size],_,_,H1,rfl,I1.kept (t':=s1.toks) fun b o e=>aV9 _ e,ad5 a _,⟨_,aX4 _ rfl,rfl,rfl⟩,fun b hb=>?_,q⟩
  have e:b=s1.heap.objs.size:=by simpa using hb
  subst e
  exact I1.fpOk (aW8 _) (I1.hok.fresh (aW8 _))
 ·obtain ⟨its,rv,p,hz⟩:=I1.tuple hq
  refine bh6 (show s1.heap.IsTuple a its.toArray from p) ?_
  refine⟨s1.heap.objs.size,[s1.heap.objs.size],_,_,H1,rfl,I1.kept (t':=s1.toks) fun b o e=>aV9 _ e,ad6 a _,⟨_,aX4 _ rfl,rfl,rfl⟩,fun b hb=>?_,q⟩
  have e:b=s1.heap.objs.size:=by simpa using hb
  subst e
  exact I1.fpOk (aW8 _) (I1.hok.fresh (aW8 _))
theorem iG {tg l:Expr} (hl:QE X l te):QI X tg l (fM te):=pV (au3 hl) fun _ _ _=>ar9
theorem qE {tg:Expr} (hg:Gl X "range") (hm:X.mg "range" = none) (ha:QE X a ta) (hs:starEach [a] X.env = [(false,eval a X.env)]:=by rfl):QI X tg (.Call (.Name "range" p2) [a] [] pos) (lP ta):=pV (ad9 hg hm (fW ha iP hs) hs) fun _ _ _=>as1
theorem E5 {tg:Expr}{body:List Stmt}{ti:eJ}{p:iC}{g:TG}{own:Nat->Prop} (hp:PassesOwn (model X.prog X.w) X.A X.env X.xe) (hc:X.calm=true) (hi:QI X tg e ti) (hg:PG X tg g) (ht:lQ X.K own p g) (hb:dY X body t)
  (hs:∀ x,foldedSetIterable e X.env x=pure x:=by intro _; rfl):QS X (.For tg e body [] pos) (dX ti p t):=dZ (ae1 hp hc hi hg hb hs) fun _ _ _=>as2 ht
end
section
variable {X : Cx} {pins : List (Addr × Obj)} {σ : St} {H : Hp} {s : Shared} {K : PySem.W.Frag} {M M' : Addr → Prop}
theorem lI.inj {a:Addr}{us ws:List V} (h:lI K a us) (h':lI K a ws):us=ws:=by
 obtain ⟨o,its,n,e1,_,e2,_,v⟩:=h
 obtain ⟨o',its',n',e1',_,e2',_,v'⟩:=h'
 rw [e1] at e1'; cases e1'
 rw [e2] at e2'; cases e2'
 exact v.inj v'
theorem Reps.self_of {n:Nat} (ih:∀ {v:V}{x y:PV},aE K M H v x->aE K M' H v y->cD n x y=true->bG n x y=true):∀ {vs:List V}{xs ys:List PV},Reps K M H vs xs->Reps K M' H vs ys->((xs.zip ys).all fun p=>cD n p.1 p.2)=true->(((xs.zip ys).all fun p=>bG n p.1 p.2) && xs.length == ys.length)=true
 | _,_,_,.nil,.nil,_=>rfl
 | _,_,_,.cons r t,.cons r' t',o=>by
  simp only [bd2,bk0,bg4] at o
  have h1:=ih r r' o.1
  have h2:=Reps.self_of ih t t' o.2
  simp only [bd2,bk0,h1,Bool.true_and,bb4] at h2 ⊢
  rw [<- h2]
  congr 1
  simp
theorem aE.self:∀ (n:Nat) {v:V}{x y:PV},aE K M H v x->aE K M' H v y->cD n x y=true->bG n x y=true:=by
 intro n
 induction n with
 | zero=>
  intro v x y r r' o
  cases r with
  | non=>cases r'; rfl
  | bl b=>cases r'; exact bb5 b
  | int i=>cases r'; exact bb5 i
  | str z=>cases r'; exact bb5 z
  | _=>cases o
 | succ n ih=>
  intro v x y r r' o
  cases r with
  | non=>cases r'; rfl
  | bl b=>cases r'; exact bb5 b
  | int i=>cases r'; exact bb5 i
  | str z=>cases r'; exact bb5 z
  | tup h rr=>
   cases r' with
   | tup h' rr'=>rw [h] at h'; cases h'; exact Reps.self_of ih rr rr' o
   | _=>cases o
  | lst _ h rr=>
   cases r' with
   | lst _ h' rr'=>rw [h] at h'; cases h'; exact Reps.self_of ih rr rr' o
   | _=>cases o
  | kt h rr=>
   cases r' with
   | kt h' rr'=>cases lI.inj h h'; exact Reps.self_of ih rr rr' o
   | _=>cases o
  | _=>cases o
theorem Reps.self (n:Nat) {vs:List V}{xs ys:List PV} (r:Reps K M H vs xs) (r':Reps K M' H vs ys) (o:((xs.zip ys).all fun p=>cD n p.1 p.2)=true):(((xs.zip ys).all fun p=>bG n p.1 p.2) && xs.length == ys.length)=true:=Reps.self_of (aE.self n) r r' o
theorem j6 (n:Nat) (xs ys:List PV):(List.range (min xs.length ys.length)).all (fun j=>bG n (xs.getD j .non) (ys.getD j .non))=(xs.zip ys).all fun p=>bG n p.1 p.2:=by
 rw [bf0]
 simp only [bh8,List.mem_range]
 constructor
 ·intro h p hp
  obtain ⟨j,hj,e⟩:=bd7 hp
  have hj':j < min xs.length ys.length:=by simpa using hj
  have:=h j hj'
  rw [List.getElem_zip] at e
  subst e
  have h1:j < xs.length:=by omega
  have h2:j < ys.length:=by omega
  simpa [aX8,h1,h2] using this
 ·intro h j hj
  have h1:j < xs.length:=by omega
  have h2:j < ys.length:=by omega
  have hz:j < (xs.zip ys).length:=by simp; omega
  have:=h _ (bf3 hz)
  rw [List.getElem_zip] at this
  simpa [aX8,h1,h2] using this
theorem E6 (I:a8 X pins σ H s):∀ (n:Nat) {A:Around}{v w:V}{x y:PV}{a b:Value},A.units+n < cLine->aE X.K M H v x->aE X.K M' H w y->aP v a->aP w b->cD n x y=true->SeqAt.EqAt A s a b (bG n x y):=by
 intro n
 induction n with
 | zero=>
  intro A v w x y a b hu rx ry ra rb o
  cases rx with
  | non=>
   cases ra
   cases ry with
   | non=>cases rb; exact SeqAt.EqAt.same _
   | int i=>obtain ⟨t',rfl⟩:=rb; exact SeqAt.EqAt.none_int _ _
   | _=>cases o
  | bl i=>
   cases ra
   cases ry with
   | bl j=>cases rb; exact SeqAt.EqAt.bool_bool _ _
   | _=>cases o
  | int i=>
   obtain ⟨t,rfl⟩:=ra
   cases ry with
   | int j=>obtain ⟨t',rfl⟩:=rb; exact SeqAt.EqAt.int_int _ _ _ _
   | non=>cases rb; exact SeqAt.EqAt.int_none _ _
   | _=>cases o
  | str i=>
   obtain ⟨t,rfl⟩:=ra
   cases ry with
   | str j=>obtain ⟨t',rfl⟩:=rb; exact SeqAt.EqAt.str_str _ _ _ _
   | _=>cases o
  | _=>cases o
 | succ n ih=>
  intro A v w x y a b hu rx ry ra rb o
  have items:∀ {us ws:List V}{xs ys:List PV}{its its2:List Value},Reps X.K M H us xs->Reps X.K M' H ws ys->aI us its->aI ws its2->((xs.zip ys).all fun p=>cD n p.1 p.2)=true->
    ∀ j (h1:j < its.toArray.size) (h2:j < its2.toArray.size),SeqAt.EqAt A.in1 s its.toArray[j] its2.toArray[j] (bG n (xs.getD j .non) (ys.getD j .non)):=fun {us ws xs ys its its2} r1 r2 v1 v2 ok j h1 h2=>by
   have l1:=v1.length
   have l2:=v2.length
   have m1:=r1.length
   have m2:=r2.length
   have k1:j < its.length:=by simpa using h1
   have k2:j < its2.length:=by simpa using h2
   have j1:j < us.length:=by omega
   have j2:j < ws.length:=by omega
   have i1:j < xs.length:=by omega
   have i2:j < ys.length:=by omega
   obtain ⟨u,hu',ru⟩:=v1.get (aW0 j1)
   obtain ⟨u2,hu2',ru2⟩:=v2.get (aW0 j2)
   obtain ⟨x,hx,rx⟩:=r1.get (aW0 j1)
   obtain ⟨y,hy,ry⟩:=r2.get (aW0 j2)
   have e1:its.toArray[j]=u:=by
    rw [aW0 k1] at hu'
    simpa using hu'
   have e2:its2.toArray[j]=u2:=by
    rw [aW0 k2] at hu2'
    simpa using hu2'
   have ok':cD n x y=true:=by
    rw [bh8] at ok
    have hz:j < (xs.zip ys).length:=by simp; omega
    have:=ok _ (bf3 hz)
    rw [List.getElem_zip] at this
    rw [aW0 i1] at hx
    rw [aW0 i2] at hy
    cases hx; cases hy
    exact this
   rw [e1,e2]
   have g1:xs.getD j .non=x:=by rw [aX8,hx]; rfl
   have g2:ys.getD j .non=y:=by rw [aX8,hy]; rfl
   rw [g1,g2]
   exact ih (by show A.units+1+n < cLine; omega) rx ry ru ru2 ok'
  have huA:A.units < cLine:=by omega
  cases rx with
  | @kt p us xs h1 r1=>
   obtain ⟨its,v1,p1,_⟩:=I.tuple (.inr h1)
   cases (show a=Value.ref p from ra)
   cases ry with
   | @kt p2 ws ys h2 r2=>
    obtain ⟨its2,v2,p2',_⟩:=I.tuple (.inr h2)
    cases (show b=Value.ref p2 from rb)
    by_cases e:p=p2
    ·subst e
     have:=aE.self (K:=X.K) (M:=M) (M':=M') (n+1) (.kt h1 r1) (.kt h2 r2) o
     rw [this]
     exact SeqAt.EqAt.same _
    ·have:=SeqAt.RcAt.tuples p1 p2' huA (items r1 r2 v1 v2 o)
     refine .of_refs e ?_
     have l1:=v1.length
     have l2:=v2.length
     have m1:=r1.length
     have m2:=r2.length
     rw [aW1,aW1,<- l1,<- l2,m1,m2,j6] at this
     exact this
   | _=>cases o
  | @tup p us xs h1 r1=>
   obtain ⟨its,v1,p1,_⟩:=I.tuple (aL.of (K:=X.K) h1)
   cases (show a=Value.ref p from ra)
   cases ry with
   | @tup p2 ws ys h2 r2=>
    obtain ⟨its2,v2,p2',_⟩:=I.tuple (aL.of (K:=X.K) h2)
    cases (show b=Value.ref p2 from rb)
    by_cases e:p=p2
    ·subst e
     have:=aE.self (K:=X.K) (M:=M) (M':=M') (n+1) (.tup h1 r1) (.tup h2 r2) o
     rw [this]
     exact SeqAt.EqAt.same _
    ·have:=SeqAt.RcAt.tuples p1 p2' huA (items r1 r2 v1 v2 o)
     refine .of_refs e ?_
     have l1:=v1.length
     have l2:=v2.length
     have m1:=r1.length
     have m2:=r2.length
     rw [aW1,aW1,<- l1,<- l2,m1,m2,j6] at this
     exact this
   | non=>cases rb; exact SeqAt.EqAt.tuple_none p1 huA
   | _=>cases o
  | @lst p us xs _ h1 r1=>
   obtain ⟨its,v1,p1,_⟩:=I.list (aN.of (K:=X.K) h1)
   cases (show a=Value.ref p from ra)
   cases ry with
   | @lst p2 ws ys _ h2 r2=>
    obtain ⟨its2,v2,p2',_⟩:=I.list (aN.of (K:=X.K) h2)
    cases (show b=Value.ref p2 from rb)
    have l1:=v1.length
    have l2:=v2.length
    have m1:=r1.length
    have m2:=r2.length
    by_cases e:p=p2
    ·subst e
     rw [h1] at h2; cases h2
     have:=Reps.self n r1 r2 o
     show SeqAt.EqAt A s _ _ ((xs.zip ys).all (fun p=>bG n p.1 p.2) && xs.length == ys.length)
     rw [this]
     exact SeqAt.EqAt.same _
    ·refine .of_refs e ?_
     by_cases hl:xs.length=ys.length
     ·have:=SeqAt.RcAt.lists p1.isList p2'.isList (by rw [aW1,aW1]; omega) huA (items r1 r2 v1 v2 o)
      have hm:min xs.length ys.length=its.length:=by omega
      rw [aW1,<- hm,j6] at this
      show SeqAt.RcAt A s _ _ ((xs.zip ys).all (fun p=>bG n p.1 p.2) && xs.length == ys.length)
      rw [show (xs.length == ys.length)=true by simpa using hl,Bool.and_true]
      exact this
     ·have:=SeqAt.RcAt.lists_lengths (A:=A) p1.isList p2'.isList (by rw [aW1,aW1]; simp; omega) huA
      show SeqAt.RcAt A s _ _ ((xs.zip ys).all (fun p=>bG n p.1 p.2) && xs.length == ys.length)
      rw [show (xs.length == ys.length)=false by simpa using hl,bf6]
      exact this
   | _=>cases o
  | non=>
   cases ra
   cases ry with
   | non=>cases rb; exact SeqAt.EqAt.same _
   | int i=>obtain ⟨t',rfl⟩:=rb; exact SeqAt.EqAt.none_int _ _
   | @tup p2 ws ys h2 r2=>
    obtain ⟨its2,v2,p2',_⟩:=I.tuple (aL.of (K:=X.K) h2)
    cases (show b=Value.ref p2 from rb)
    exact SeqAt.EqAt.none_tuple p2' huA
   | _=>cases o
  | bl i=>
   cases ra
   cases ry with
   | bl j=>cases rb; exact SeqAt.EqAt.bool_bool _ _
   | _=>cases o
  | int i=>
   obtain ⟨t,rfl⟩:=ra
   cases ry with
   | int j=>obtain ⟨t',rfl⟩:=rb; exact SeqAt.EqAt.int_int _ _ _ _
   | non=>cases rb; exact SeqAt.EqAt.int_none _ _
   | _=>cases o
  | str i=>
   obtain ⟨t,rfl⟩:=ra
   cases ry with
   | str j=>obtain ⟨t',rfl⟩:=rb; exact SeqAt.EqAt.str_str _ _ _ _
   | _=>cases o
  | _=>cases o
end
structure Bt (mg:Str->Option Value):Prop where
 len:mg "len" = none
 range:mg "range" = none
 tuple:mg "tuple" = none
 list:mg "list" = none
 sorted:mg "sorted" = none
 all:mg "all" = none
 any:mg "any" = none
 zip:mg "zip" = none
 min:mg "min" = none
 max:mg "max" = none
 sum:mg "sum" = none
 isinst:mg "isinstance" = none
 int:mg "int" = none
 bool:mg "bool" = none
 enum:mg "enumerate" = none
section
variable {X : Cx} {a b c e o : Expr} {es cG : List Expr} {ta tb te to tk : aC} {tr : cB} {tA tB' tc : cO} {pos p2 px : Pos} {st : Stmt} {sts : List Stmt} {t u : aO}
theorem jY (B:Bt X.mg) (ha:QA X [e] tr) (hg:Gl X "len":=by rfl) (he:starEach [e] X.env=(false,eval e X.env) :: starEach [] X.env:=by rfl) (hpl:(backTo pos (starEach [] X.env)).any (·.1)=false:=by rfl):QE X (.Call (.Name "len" p2) [e] [] pos) (aF gW tr):=
 gY (aj7.or am1) ar0 hg B.len PySem.boot_len ha (he:=he) (hpl:=hpl)
theorem uQ (B:Bt X.mg) (ha:QA X [e] tr) (hg:Gl X "tuple":=by rfl) (he:starEach [e] X.env=(false,eval e X.env) :: starEach [] X.env:=by rfl) (hpl:(backTo pos (starEach [] X.env)).any (·.1)=false:=by rfl):QE X (.Call (.Name "tuple" p2) [e] [] pos) (aF pT tr):=
 qA aj9 ar1 hg B.tuple PyProof.Rows.boot_tuple ha (he:=he) (hpl:=hpl)
theorem uR (B:Bt X.mg) (ha:QA X [e] tr) (hg:Gl X "list":=by rfl) (he:starEach [e] X.env=(false,eval e X.env) :: starEach [] X.env:=by rfl) (hpl:(backTo pos (starEach [] X.env)).any (·.1)=false:=by rfl):QE X (.Call (.Name "list" p2) [e] [] pos) (aF nG tr):=
 qA aj8 ar2 hg B.list PyProof.Rows.boot_list ha (he:=he) (hpl:=hpl)
theorem E7 (B:Bt X.mg) (hc:X.calm=true) (ha:QA X [e] tr) (hg:Gl X "all":=by rfl) (he:starEach [e] X.env=(false,eval e X.env) :: starEach [] X.env:=by rfl) (hpl:(backTo pos (starEach [] X.env)).any (·.1)=false:=by rfl):QE X (.Call (.Name "all" p2) [e] [] pos) (aF pM tr):=
 gY (ao0 hc) ar3 hg B.all PyProof.Rows.boot_all ha (he:=he) (hpl:=hpl)
theorem nL (B:Bt X.mg) (hc:X.calm=true) (ha:QA X [a,b] tr) (hg:Gl X "min":=by rfl) (he:starEach [a,b] X.env=(false,eval a X.env) :: starEach [b] X.env:=by rfl) (hpl:(backTo pos (starEach [b] X.env)).any (·.1)=false:=by rfl):QE X (.Call (.Name "min" p2) [a,b] [] pos) (aF kG tr):=
 gY (ag0 hc) ar4 hg B.min PyProof.Rows.boot_min ha (he:=he) (hpl:=hpl)
theorem lX (B:Bt X.mg) (hc:X.calm=true) (ha:QA X [a,b] tr) (hg:Gl X "max":=by rfl) (he:starEach [a,b] X.env=(false,eval a X.env) :: starEach [b] X.env:=by rfl) (hpl:(backTo pos (starEach [b] X.env)).any (·.1)=false:=by rfl):QE X (.Call (.Name "max" p2) [a,b] [] pos) (aF jP tr):=
 gY (af9 hc) ar5 hg B.max PyProof.Rows.boot_max ha (he:=he) (hpl:=hpl)
theorem E8 (ha:QE X a ta):QE X (.UnaryOp .USub a pos) (uI ta):=cL (ae3 af0 ha) fun σ H Q' h=>by
 obtain ⟨W,ρ,Q,px,q,k⟩:=h
 refine⟨W,ρ,_,px,q,?_⟩
 rintro v H1 x g s r ⟨i,rfl,q⟩
 cases r
 exact⟨i,rfl,k _ _ _ .fr s (.int _) q⟩
theorem aE.kt_ {K:PySem.W.Frag}{M:Addr->Prop}{H:Hp}{v:V}{xs:List PV} (r:aE K M H v (.kt xs)):∃ a us,v = .ref a/\lI K a us/\Reps K M H us xs:=by
 cases r with
 | kt h r=>exact⟨_,_,rfl,h,r⟩
def E9 (K:PySem.W.Frag) (H:Hp) (x:V) (t:Value):Prop:=eR K H x t ∨ ∃ a us,x = .ref a/\aL K H a us/\t = .type "tuple"
theorem au4:cH X (.builtin "isinstance") (fun xs H Q=>∃ x t n b,xs = [x,.ty n]/\E9 X.K H x t/\PySem.W.kitOne X.K t (.type n)=some b/\Q (.bl b) H):=by
 intro pins s σ H xs us Q I r h
 obtain ⟨x,t,n,b,rfl,ty,e,q⟩:=h
 rcases ty with ty | ⟨a,ws,rfl,hs,rfl⟩
 ·exact an2 pins s σ H _ us Q I r ⟨x,t,n,b,rfl,ty,e,q⟩
 obtain ⟨u,u',rfl,ru,ru'⟩:=jL r
 cases ru'
 cases (show u=Value.ref a from ru)
 obtain ⟨its,_,⟨o,h1,h2,_⟩,_⟩:=I.tuple hs
 exact bc5 PySem.W.kitx_tuple I.kIn ⟨o,h1,h2⟩ e (fun z=>nomatch z) fun tk=>⟨.bl b,H,I.tok tk,rfl,q⟩
theorem au5 {K:PySem.W.Frag}{M:Addr->Prop}{H:Hp}{v:V}{x:PV}{T:String} (r:aE K M H v x) (e:C2 x=some T):E9 K H v (.type T):=by
 cases r with
 | non=>cases e; exact .inl .non
 | bl b=>cases e; exact .inl (.bl b)
 | int i=>cases e; exact .inl (.int i)
 | str i=>cases e; exact .inl (.str i)
 | tup h _=>cases e; exact .inl (.tup h)
 | lst _ h _=>cases e; exact .inl (.lst h)
 | kt h _=>cases e; exact .inr ⟨_,_,rfl,.inr h,rfl⟩
 | _=>cases e
theorem au6 {x:Str}{n:String} (B:Bt X.mg) (hn:bootBuiltins x=some (.type n)) (hm:X.mg x=none) (ha:QE X a ta) (hg:Gl X "isinstance":=by rfl) (hgx:Gl X x:=by rfl) (hx:x ≠ "__name__":=by decide) (hdx:(x == ("__debug__" : Str))=false:=by decide)
  (he:starEach [a,.Name x px] X.env=(false,eval a X.env) :: starEach [.Name x px] X.env:=by rfl) (he2:starEach [.Name x px] X.env=(false,eval (.Name x px) X.env) :: starEach [] X.env:=by rfl) (hpl:(backTo pos (starEach [.Name x px] X.env)).any (·.1)=false:=by rfl):QE X (.Call (.Name "isinstance" p2) [a,.Name x px] [] pos) (uJ X.K n ta):=
 cL (tF au4 hg B.isinst PyProof.Rows.boot_isinstance (fW ha (fW (xB (v:=.ty n) hgx hm hn rfl hx hdx) iP he2) he) (he:=he) (hpl:=hpl)) fun σ H Q' h=>by
  obtain ⟨W,ρ,Q,px,q,k⟩:=h
  refine⟨W,ρ,_,px,q,?_⟩
  rintro v H1 x g s r ⟨T,b,e,kt,q⟩
  exact⟨v,_,n,b,rfl,au5 r e,kt,k _ _ _ .fr s (.bl _) q⟩
theorem au7 (B:Bt X.mg) (ha:QE X a ta) (hg:Gl X "isinstance":=by rfl) (hgx:Gl X "tuple":=by rfl)
  (he:starEach [a,.Name "tuple" px] X.env=(false,eval a X.env) :: starEach [.Name "tuple" px] X.env:=by rfl) (he2:starEach [.Name "tuple" px] X.env=(false,eval (.Name "tuple" px) X.env) :: starEach [] X.env:=by rfl) (hpl:(backTo pos (starEach [.Name "tuple" px] X.env)).any (·.1)=false:=by rfl):QE X (.Call (.Name "isinstance" p2) [a,.Name "tuple" px] [] pos) (uJ X.K "tuple" ta):=au6 B PyProof.Rows.boot_tuple B.tuple ha (hg:=hg) (hgx:=hgx) (he:=he) (he2:=he2) (hpl:=hpl)
def uS (K:PySem.W.Frag) (n:Nat) (neg:Bool):R2:=fun v w H Q=>∃ x y,aE K (fun _=>True) H v x/\aE K (fun _=>True) H w y/\((∃ xs ys,x = .tup xs/\y = .tup ys) ∨ (∃ xs ys,x = .lst xs/\y = .lst ys) ∨ (∃ xs ys,x = .kt xs/\y = .kt ys))/\cD (n+1) x y=true/\Q (.bl (if neg=true then !bG (n+1) x y else bG (n+1) x y)) H
theorem lY {pins:List (Addr × Obj)}{σ:St}{H:Hp}{s:Shared}{M M':Addr->Prop} (I:a8 X pins σ H s) {n:Nat}{A:Around} (hu:A.units+(n+1) < cLine) {us ws:List V}{xs ys:List PV}{its its2:List Value} (r1:Reps X.K M H us xs) (r2:Reps X.K M' H ws ys) (v1:aI us its) (v2:aI ws its2)
  (ok:((xs.zip ys).all fun p=>cD n p.1 p.2)=true):∀ j (h1:j < its.toArray.size) (h2:j < its2.toArray.size),SeqAt.EqAt A.in1 s its.toArray[j] its2.toArray[j] (bG n (xs.getD j .non) (ys.getD j .non)):=by
 intro j h1 h2
 have l1:=v1.length
 have l2:=v2.length
 have m1:=r1.length
 have m2:=r2.length
 have k1:j < its.length:=by simpa using h1
 have k2:j < its2.length:=by simpa using h2
 have j1:j < us.length:=by omega
 have j2:j < ws.length:=by omega
 have i1:j < xs.length:=by omega
 have i2:j < ys.length:=by omega
 obtain ⟨u,hu',ru⟩:=v1.get (aW0 j1)
 obtain ⟨u2,hu2',ru2⟩:=v2.get (aW0 j2)
 obtain ⟨x,hx,rx⟩:=r1.get (aW0 j1)
 obtain ⟨y,hy,ry⟩:=r2.get (aW0 j2)
 have e1:its.toArray[j]=u:=by
  rw [aW0 k1] at hu'
  simpa using hu'
 have e2:its2.toArray[j]=u2:=by
  rw [aW0 k2] at hu2'
  simpa using hu2'
 have ok':cD n x y=true:=by
  rw [bh8] at ok
  have hz:j < (xs.zip ys).length:=by simp; omega
  have:=ok _ (bf3 hz)
  rw [List.getElem_zip] at this
  rw [aW0 i1] at hx
  rw [aW0 i2] at hy
  cases hx; cases hy
  exact this
 rw [e1,e2]
 have g1:xs.getD j .non=x:=by rw [aX8,hx]; rfl
 have g2:ys.getD j .non=y:=by rw [aX8,hy]; rfl
 rw [g1,g2]
 exact E6 I n (by show A.units+1+n < cLine; omega) rx ry ru ru2 ok'
theorem aV6 (n:Nat) (hu:X.A.units+(n+1) < cLine):bX X (compareOp .Eq) (uS X.K n false):=by
 intro pins s σ H v w a b Q I ra rb h
 obtain ⟨x,y,rx,ry,kd,o,q⟩:=h
 have hu0:X.A.units < cLine:=by omega
 rcases kd with ⟨xs,ys,rfl,rfl⟩ | ⟨xs,ys,rfl,rfl⟩ | ⟨xs,ys,rfl,rfl⟩
 ·obtain ⟨p,us,rfl,h1,r1⟩:=rx.sqT
  obtain ⟨p2,ws,rfl,h2,r2⟩:=ry.sqT
  cases ra; cases rb
  obtain ⟨its,v1,p1,_⟩:=I.tuple (aL.of (K:=X.K) h1)
  obtain ⟨its2,v2,p2',_⟩:=I.tuple (aL.of (K:=X.K) h2)
  have l1:=v1.length
  have l2:=v2.length
  have m1:=r1.length
  have m2:=r2.length
  have:=SeqAt.RcAt.tuples p1 p2' hu0 (lY I hu r1 r2 v1 v2 o)
  rw [aW1,aW1,<- l1,<- l2,m1,m2,j6] at this
  exact this _ _ _ _ ⟨.bl _,H,I,rfl,q⟩
 ·obtain ⟨p,us,rfl,_,h1,r1⟩:=rx.sqL
  obtain ⟨p2,ws,rfl,_,h2,r2⟩:=ry.sqL
  cases ra; cases rb
  obtain ⟨its,v1,p1,_⟩:=I.list (aN.of (K:=X.K) h1)
  obtain ⟨its2,v2,p2',_⟩:=I.list (aN.of (K:=X.K) h2)
  have l1:=v1.length
  have l2:=v2.length
  have m1:=r1.length
  have m2:=r2.length
  have q:Q (.bl ((xs.zip ys).all (fun p=>bG n p.1 p.2) && xs.length == ys.length)) H:=q
  by_cases hl:xs.length=ys.length
  ·have:=SeqAt.RcAt.lists p1.isList p2'.isList (by rw [aW1,aW1]; omega) hu0 (lY I hu r1 r2 v1 v2 o)
   have hm:min xs.length ys.length=its.length:=by omega
   rw [aW1,<- hm,j6] at this
   rw [show (xs.length == ys.length)=true by simpa using hl,Bool.and_true] at q
   exact this _ _ _ _ ⟨.bl _,H,I,rfl,q⟩
  ·have:=SeqAt.RcAt.lists_lengths (A:=X.A) p1.isList p2'.isList (by rw [aW1,aW1]; simp; omega) hu0
   rw [show (xs.length == ys.length)=false by simpa using hl,bf6] at q
   exact this _ _ _ _ ⟨.bl _,H,I,rfl,q⟩
 ·obtain ⟨p,us,rfl,h1,r1⟩:=rx.kt_
  obtain ⟨p2,ws,rfl,h2,r2⟩:=ry.kt_
  cases ra; cases rb
  obtain ⟨its,v1,p1,_⟩:=I.tuple (.inr h1)
  obtain ⟨its2,v2,p2',_⟩:=I.tuple (.inr h2)
  have l1:=v1.length
  have l2:=v2.length
  have m1:=r1.length
  have m2:=r2.length
  have:=SeqAt.RcAt.tuples p1 p2' hu0 (lY I hu r1 r2 v1 v2 o)
  rw [aW1,aW1,<- l1,<- l2,m1,m2,j6] at this
  exact this _ _ _ _ ⟨.bl _,H,I,rfl,q⟩
theorem au8 (n:Nat) (hu:X.A.units+(n+1) < cLine):bX X (compareOp .NotEq) (uS X.K n true):=by
 intro pins s σ H v w a b Q I ra rb h
 obtain ⟨x,y,rx,ry,kd,o,q⟩:=h
 have hu0:X.A.units < cLine:=by omega
 rcases kd with ⟨xs,ys,rfl,rfl⟩ | ⟨xs,ys,rfl,rfl⟩ | ⟨xs,ys,rfl,rfl⟩
 ·obtain ⟨p,us,rfl,h1,r1⟩:=rx.sqT
  obtain ⟨p2,ws,rfl,h2,r2⟩:=ry.sqT
  cases ra; cases rb
  obtain ⟨its,v1,p1,_⟩:=I.tuple (aL.of (K:=X.K) h1)
  obtain ⟨its2,v2,p2',_⟩:=I.tuple (aL.of (K:=X.K) h2)
  have l1:=v1.length
  have l2:=v2.length
  have m1:=r1.length
  have m2:=r2.length
  have:=SeqAt.RcNeAt.tuples p1 p2' hu0 (lY I hu r1 r2 v1 v2 o)
  rw [aW1,aW1,<- l1,<- l2,m1,m2,j6] at this
  exact this _ _ _ _ ⟨.bl _,H,I,rfl,q⟩
 ·obtain ⟨p,us,rfl,_,h1,r1⟩:=rx.sqL
  obtain ⟨p2,ws,rfl,_,h2,r2⟩:=ry.sqL
  cases ra; cases rb
  obtain ⟨its,v1,p1,_⟩:=I.list (aN.of (K:=X.K) h1)
  obtain ⟨its2,v2,p2',_⟩:=I.list (aN.of (K:=X.K) h2)
  have l1:=v1.length
  have l2:=v2.length
  have m1:=r1.length
  have m2:=r2.length
  have q:Q (.bl (!((xs.zip ys).all (fun p=>bG n p.1 p.2) && xs.length == ys.length))) H:=q
  by_cases hl:xs.length=ys.length
  ·have:=SeqAt.RcNeAt.lists p1.isList p2'.isList (by rw [aW1,aW1]; omega) hu0 (lY I hu r1 r2 v1 v2 o)
   have hm:min xs.length ys.length=its.length:=by omega
   rw [aW1,<- hm,j6] at this
   rw [show (xs.length == ys.length)=true by simpa using hl,Bool.and_true] at q
   exact this _ _ _ _ ⟨.bl _,H,I,rfl,q⟩
  ·have:=SeqAt.RcNeAt.lists_lengths (A:=X.A) p1.isList p2'.isList (by rw [aW1,aW1]; simp; omega) hu0
   rw [show (xs.length == ys.length)=false by simpa using hl,bf6] at q
   exact this _ _ _ _ ⟨.bl _,H,I,rfl,q⟩
 ·obtain ⟨p,us,rfl,h1,r1⟩:=rx.kt_
  obtain ⟨p2,ws,rfl,h2,r2⟩:=ry.kt_
  cases ra; cases rb
  obtain ⟨its,v1,p1,_⟩:=I.tuple (.inr h1)
  obtain ⟨its2,v2,p2',_⟩:=I.tuple (.inr h2)
  have l1:=v1.length
  have l2:=v2.length
  have m1:=r1.length
  have m2:=r2.length
  have:=SeqAt.RcNeAt.tuples p1 p2' hu0 (lY I hu r1 r2 v1 v2 o)
  rw [aW1,aW1,<- l1,<- l2,m1,m2,j6] at this
  exact this _ _ _ _ ⟨.bl _,H,I,rfl,q⟩
theorem au9 {n:Nat}{neg:Bool}:dD X (pS n neg) (uS X.K n neg):=by
 rintro W Hs H u v x y g g' Q Q' s n r1 r2 ⟨kd,o,q⟩ k
 exact⟨x,y,r1.same (aD.refl _) fun _ _=>trivial,r2.same (aD.refl _) fun _ _=>trivial,kd.elim .inl fun z=>.inr (.inl z),o,k _ _ _ .fr (aD.refl _) (.bl _) q⟩
theorem F0 (hu:X.A.units+3 < cLine) (ha:QE X a ta) (hb:QE X b tb):QT X (.Compare a [.NotEq] [b] pos) (aW (q2 (pS 2 true) ta tb)):=iE (au8 2 hu) au9 ha hb (eD _)
end
end PP
namespace PP
open PySem L2 PyProof.Rows
def LO (X:Cx) (t:lU):TO:=fun σ H Q'=>∃ (W:Addr->Prop) (ρ:bA) (Q:Option Int->Prop),PX X.K X.H₀ W σ ρ H/\t ρ Q/\∀ o H',aD H H'->Q o->Q' o H'
def QO (X:Cx) (e:Option Expr) (t:lU):Prop:=PO X e (LO X t)
theorem Reps.cut {K:PySem.W.Frag}{M:Addr->Prop}{H:Hp}{us:List V}{xs:List PV} (r:Reps K M H us xs) (lo hi:Option Int):Reps K M H (gQ us lo hi) (fN xs lo hi):=by
 unfold gQ fN
 rw [r.length]
 exact (r.drop _).take _
section
variable {X : Cx} {a b c e o : Expr} {es cG : List Expr} {ta tb te to tk : aC} {tr : cB} {tA tB' tc : cO} {pos p2 px : Pos} {st : Stmt} {sts : List Stmt} {t u : aO}
theorem gZ:QO X none gE:=fun pins s σ H Q I h=>ai0 pins s σ H Q I (by
 obtain ⟨W,ρ,Q1,px,q,k⟩:=h
 exact k _ _ (aD.refl _) q)
theorem hG (h:QE X e te):QO X (some e) (gF te):=fun pins s σ H Q I hq=>ai1 h pins s σ H Q I (by
 obtain ⟨W,ρ,Q1,px,q,k⟩:=hq
 refine⟨W,ρ,_,px,q,?_⟩
 rintro v H1 x g s r ⟨i,rfl,q⟩
 cases r
 exact⟨i,rfl,k _ _ s q⟩)
theorem hJ {lo hi:Option Expr}{tl th:lU}{sp:Pos} (he:QE X e te) (hl:QO X lo tl) (hh:QO X hi th):QE X (.Subscript e (.Slice lo hi none sp) pos) (gG te tl th):=cL (ai2 (aj6.or ao3) he hl hh) fun σ H Q' h=>by
 obtain ⟨W,ρ,Q,px,q,k⟩:=h
 refine⟨W,ρ,_,px,q,fun v H1 x g s1 r1 q1=>⟨W,ρ,_,px.mono s1,q1,fun lo H2 s2 q2=>⟨W,ρ,_,px.mono (s1.trans s2),q2,?_⟩⟩⟩
 rintro hi H3 s3 ⟨xs,e,f,q3⟩
 have S:=(s1.trans s2).trans s3
 have r3:=r1.same (M':=Mg X.H₀ W H g) (s2.trans s3) fun _ z=>z
 cases r3 with
 | tup h r=>
  cases e
  refine .inr ⟨_,_,rfl,aL.of h,fun p hp=>k _ _ _ .fr (S.trans (bK hp _)) (.tup bU (((r.flat f).cut lo hi).same (bK hp _) fun _ z=>z)) q3,fun ec=>k _ _ _ .fr S (.tup h ?_) q3⟩
  have:=(r.flat (M':=Mg X.H₀ W H .fr) f).cut lo hi
  rw [ec] at this
  exact this
 | lst m h r=>
  cases e
  exact .inl ⟨_,_,rfl,aN.of h,fun p hp=>k _ _ _ .fr (S.trans (bK hp _)) (.lst (S.free hp) bU (((r.flat f).cut lo hi).same (bK hp _) fun _ z=>z)) q3⟩
 | scr h=>
  cases e
  exact .inl ⟨_,_,rfl,h.sqL,fun p hp=>k _ _ _ .fr (S.trans (bK hp _)) (.lst (S.free hp) bU (((Reps.intz _).cut lo hi).same (bK hp _) fun _ z=>z)) q3⟩
 | _=>cases e
structure Df (P:Program) (w:World) (K:PySem.W.Frag) (mg:Str->Option Value) (base:Heap) (k:Nat) (x:Str) (ps:List Str) (p:c7):Prop where
 ex:∃ f fd,dC P w K mg base eG k f fd ps (nH K p)/\iQ K fd ps []/\PySem.W.keepIn K (.ref f)=true/\mg x=some (.ref f)
theorem bS {k j:Nat}{x:Str}{ps:List Str}{p:c7} (d:Df X.prog X.w X.K X.mg X.base k x ps p) (hr:bZ j X.A) (ha:QA X (e :: es) tr) (hkj:k<=j:=by decide) (hg:Gl X x:=by rfl) (hdb:(x == ("__debug__" : Str))=false:=by decide)
  (he:starEach (e :: es) X.env=(false,eval e X.env) :: starEach es X.env:=by rfl) (hpl:(backTo pos (starEach es X.env)).any (·.1)=false:=by rfl):QE X (.Call (.Name x p2) (e :: es) [] pos) (aF p tr):=by
 obtain ⟨f,fd,F,b,kp,m⟩:=d.ex
 exact cL (tD F (hr.mono hkj) hg m kp b .nil al8 ha hdb he hpl) fun _ _ _=>ar6
theorem uT {K:PySem.W.Frag}{H:Hp}{N:List Str}{vs:List V}{xs:List PV} (r:Reps K (fun _=>True) H vs xs):PX K H (fun _=>False) (L2.fY N vs) (eW N xs) H:=by
 have lr:=r.length
 have own:∀ {i:Nat}{m:Slot},(eW N xs)[i]? = some (some m)->∃ x,xs[i]? = some x/\m = .sh (flat x) x:=fun {i m} h=>by
  unfold eW at h
  by_cases hi:i < xs.length
  ·rw [bi7 (by simpa using hi),aY1] at h
   rw [aW0 hi] at h ⊢
   cases h
   exact⟨_,rfl,rfl⟩
  ·rw [bk4 (by simpa using hi),List.getElem?_replicate] at h
   split at h <;> cases h
 refine⟨by unfold L2.fY eW; simp [lr],aD.refl _,fun a z=>z.elim,fun i m h=>?_,fun i j x y a h1=>?_⟩
 ·obtain ⟨x,hx,rfl⟩:=own h
  obtain ⟨v,hv,rx⟩:=r.at hx
  refine⟨v,?_,pN (g:=false) (rx.same (aD.refl _) fun _ _ z=>z)⟩
  have hi:i < vs.length:=(aW9.mp hv).1
  unfold L2.fY
  rw [bi7 (by simpa using hi),aY1,hv]; rfl
 ·obtain ⟨x,_,e⟩:=own h1
  cases e
theorem Df.of {P:Program}{w:World}{K:PySem.W.Frag}{mg:Str->Option Value}{base:Heap}{k:Nat}{x:Str}{ps N:List Str}{p:c7}{st:Stmt}{f:Addr}{fd:FuncData} (F:fE K x x st f fd) (m:mg x=some (.ref f)) (S:FnScope N ps (b6 st))
  (hb:∀ (kV doc pm:Value) (an:Option Addr) (cdv ct:Value) (us:List Value),us.length=ps.length->bindArgs (PySem.W.fnOf x x (iU st) (dU st) (b6 st) .none kV doc pm an cdv ct) ⟨us,[]⟩=pure (ps.zip us))
  (len:∀ xs Q,p xs Q->xs.length=ps.length)
  (body:∀ (cdv:Value) (A:Around) (outer:List Env) (s:Shared) (H:Hp) (E:XK),bZ k (A.deeper (envOfC x (b6 st) s.heap.objs.size f cdv))->
   ∃ t,dY (cV eG P w K mg base N x (b6 st) f cdv A outer s H E).nox (dU st) t/\∀ xs Q,p xs Q->t { nx:=fun _=>Q .non,rt:=Q } (eW N xs)):Df P w K mg base (k+1) x ps p:=by
 refine⟨f,fd,F.ok S (fun vs H Q E h=>?_) (fun cdv A outer s H vs Q E hr h=>?_),F.binds hb,F.kp,m⟩
 ·obtain ⟨xs,Qp,r,q,_⟩:=h
  rw [r.length]; exact len xs Qp q
 ·obtain ⟨xs,Qp,r,q,k⟩:=h
  obtain ⟨t,ht,hq⟩:=body cdv A outer s H E hr
  refine⟨_,ht,fun _=>False,eW N xs,_,uT r,hq xs Qp q,?_,?_,?_,?_⟩
  ·exact fun W' σ' H' ρ' e px q=>k _ _ _ px.same .non q
  ·exact fun v H' x s r q=>k _ _ _ s r q
  ·exact fun W' σ' H' ρ' e px q=>q
  ·exact fun W' σ' H' ρ' e px q=>q
theorem j7 (i:Nat) {x:Str}{tp:Pos}{body:List Stmt}{ti:eJ} (hN:X.N.Nodup) (hi:QI X (.Name x tp) e ti) (hb:dY X body t) (hx:X.N[i]? = some x:=by rfl) (hl:gN X.env.scope x:=by first | exact Or.inl rfl | exact Or.inr rfl) (hf:X.fn x=true ∨ X.env.scope.names.lookup x=some .local:=by first | exact .inl rfl | exact .inr rfl)
  (hp:PassesOwn (model X.prog X.w) X.A X.env X.xe:=by exact PassesOwn.never) (hc:X.calm=true:=by rfl) (hs:∀ x,foldedSetIterable e X.env x=pure x:=by intro _; rfl):QS X (.For (.Name x tp) e body [] pos) (dX ti (dI i) t):=
 E5 hp hc hi (jJ hN hx hl hf) (B4 _ i) hb hs
theorem uU (i j:Nat) {x y:Str}{tp xp yp:Pos}{kt:Nat}{body:List Stmt}{ti:eJ} (hN:X.N.Nodup) (hi:QI X (.Tuple [.Name x xp,.Name y yp] kt tp) e ti) (hb:dY X body t) (hx:X.N[i]? = some x:=by rfl) (hy:X.N[j]? = some y:=by rfl) (hlx:gN X.env.scope x:=by first | exact Or.inl rfl | exact Or.inr rfl) (hly:gN X.env.scope y:=by first | exact Or.inl rfl | exact Or.inr rfl)
  (hfx:X.fn x=true ∨ X.env.scope.names.lookup x=some .local:=by first | exact .inl rfl | exact .inr rfl) (hfy:X.fn y=true ∨ X.env.scope.names.lookup y=some .local:=by first | exact .inl rfl | exact .inr rfl)
  (hp:PassesOwn (model X.prog X.w) X.A X.env X.xe:=by exact PassesOwn.never) (hc:X.calm=true:=by rfl) (hs:∀ x,foldedSetIterable e X.env x=pure x:=by intro _; rfl):QS X (.For (.Tuple [.Name x xp,.Name y yp] kt tp) e body [] pos) (dX ti (gC i j) t):=
 E5 hp hc hi (oN hc (jK (jJ hN hx hlx hfx) (jK (jJ hN hy hly hfy) oM))) (uH _ i j) hb hs
abbrev e9:Value->Shared->Prop:=fun _ _=>False
section
variable {scope : Scope} {N : List Str} {fr : List (Option Nat)} {x y : Str} {tp xp yp : Pos} {kt : Nat} {iter elt : Expr} {ti : eJ}
theorem av0 {ifs:List Expr}{tcs:cO} (he:∀ (s:Shared) (H:Hp) (C:Addr) (fp:List Addr),QE (cQ X scope N s H C fp e9) elt te) (hi:∀ (s:Shared) (H:Hp) (C:Addr) (fp:List Addr),lG (cQ X scope N s H C fp e9) ifs (LT (cQ X scope N s H C fp e9) tcs))
  (hN:N.Nodup) (h0:N[0]? = some x) (hl:∀ (s:Shared) (H:Hp) (C:Addr) (fp:List Addr),(cQ X scope N s H C fp e9).env.scope.names.lookup x=some .local) (s:Shared) (H:Hp) :
  pA X scope N (.Name x tp) ifs elt s H (eC 0) (LT (X.frm H) tcs) (LE (X.frm H) te):=
 ⟨fun C fp=>jJ (X:=cQ X scope N s H C fp e9) hN h0 (.inl (hl s H C fp)) (.inr (hl s H C fp)),fun C fp=>hi s H C fp,fun C fp=>he s H C fp⟩
theorem F1 {Y:Cx}:lG Y [] (LT Y gD):=fun pins s σ H Q I h=>am5 pins s σ H Q I (as4 h)
theorem F2 (hi:QI X (.Name x tp) iter ti) (he:∀ (s:Shared) (H:Hp) (C:Addr) (fp:List Addr),QE (cQ X scope N s H C fp e9) elt te)
  (hc:X.calm=true:=by rfl) (S:gS X scope N fr:=by exact gS.of rfl rfl) (hN:N.Nodup:=by decide +kernel) (h0:N[0]? = some x:=by rfl) (hl:∀ (s:Shared) (H:Hp) (C:Addr) (fp:List Addr),(cQ X scope N s H C fp e9).env.scope.names.lookup x=some .local:=by intro _ _ _ _; rfl) (hf:fr[0]? = some none:=by rfl)
  (hs:∀ x,foldedSetIterable iter X.env x=pure x:=by intro _; rfl):QE X (.ListComp elt [⟨.Name x tp,iter,[],0⟩] scope pos) (jS ti fr (dI 0) gD te):=
 cL (zO (gh:=fun _=>eC 0) (tch:=fun H=>LT (X.frm H) gD) (teh:=fun H=>LE (X.frm H) te) hc S hi (av0 he (fun _ _ _ _=>F1) hN h0 hl) hs) fun _ _ _=>B5 (B4 _ 0) (fun i e=>by subst e; exact hf)
end
end
end PP
namespace SO
open PySem PyProof.Rows
section
variable (rk : Keyed → Int)
def Kr (xs:Array Keyed) (i:Nat):Int:=((xs[i]?).map rk).getD 0
def Up (xs:Array Keyed) (lo hi:Nat):Prop:=∀ i j,lo<=i->i<=j->j < hi->Kr rk xs i<=Kr rk xs j
def Dn (xs:Array Keyed) (lo hi:Nat):Prop:=∀ i j,lo<=i->i<=j->j < hi->Kr rk xs j<=Kr rk xs i
end
variable {rk : Keyed → Int}
theorem kK {xs ys:Array Keyed}{i j:Nat} (h:xs[i]? = ys[j]?):Kr rk xs i=Kr rk ys j:=by unfold Kr; rw [h]
theorem qF {xs:Array Keyed}{i j:Nat} (hj:j<=xs.size) (k:Nat):Kr rk (mirror xs i j ((j - i) / 2)) k=Kr rk xs (if i<=k/\k < j then i+j - 1 - k else k):=by
 refine kK ?_
 rw [getElem?_mirror_all hj]
 split <;> rfl
theorem uV {xs:Array Keyed}{i j:Nat} (hj:j<=xs.size) (e:∀ k,i<=k->k < j->Kr rk xs k=Kr rk xs (j - 1)) (k:Nat):Kr rk (mirror xs i j ((j - i) / 2)) k=Kr rk xs k:=by
 rw [qF hj]
 split
 ·rename_i h; rw [e k h.1 h.2,e _ (by omega) (by omega)]
 ·rfl
theorem av1 {xs:Array Keyed}{src d:Nat} (hs:src < xs.size) (hd:d<=src) (k:Nat):Kr rk (bubble xs src d) k=Kr rk xs (if k=src - d then src else if src - d < k/\k<=src then k - 1 else k):=by
 refine kK ?_
 rw [getElem?_bubble hs d hd]
 repeat' split
 all_goals rfl
structure SB (κ:SortKind) (a0:Array Keyed) (pd:Array (Nat × Nat × Nat)) (st:SortSt):Prop where
 pm:(arrOf st).Perm a0
 kd:kindOf st=κ
 ok:failedOf st=none
 pd:pendingOf st=pd
section
variable {κ : SortKind} {a0 : Array Keyed} {pd : Array (Nat × Nat × Nat)} {st : SortSt} {prog : Program} {w : World} {A : Around} {E : Value → Shared → Prop} {s : Shared} {Ok : Keyed → Prop}
theorem SB.sz (h:SB κ a0 pd st):(arrOf st).size=a0.size:=h.pm.size_eq
theorem SB.put (h:SB κ a0 pd st) {xs:Array Keyed} (hp:xs.Perm (arrOf st)):SB κ a0 pd (setArr st xs):=⟨hp.trans h.pm,h.kd,h.ok,h.pd⟩
def cE (prog:Program) (w:World) (A:Around) (E:Value->Shared->Prop) (s:Shared) (κ:SortKind) (Ok:Keyed->Prop) (rk:Keyed->Int):Prop:=
 ∀ (x y:Keyed),Ok x->Ok y->∀ (st:SortSt) (Q:Option Bool->SortSt->Prop),kindOf st=κ->Q (some (decide (rk x < rk y))) st->wpS (model prog w) A E s (lt' x y) Q st
def bM (Ok:Keyed->Prop) (xs:Array Keyed):Prop:=∀ x ∈ xs,Ok x
theorem SB.all (h:SB κ a0 pd st) (o:bM Ok a0):bM Ok (arrOf st):=fun x hx=>o x (h.pm.mem_iff.mp hx)
theorem cR {xs:Array Keyed}{i:Nat}{Q:Keyed->SortSt->Prop} (hi:i < xs.size) (h:Q xs[i] st):wpS (model prog w) A E s (elem' xs i) Q st:=by
 rw [elem'_eq,getElem?_pos xs i hi]; exact aX9 h
theorem cA {xs:Array Keyed}{i:Nat} (hi:i < xs.size):Kr rk xs i=rk xs[i]:=by unfold Kr; rw [getElem?_pos xs i hi]; rfl
theorem nM (c:cE prog w A E s κ Ok rk) (o:bM Ok a0) (b:SB κ a0 pd st) {i j:Nat}{Q:Option Bool->SortSt->Prop} (hi:i < a0.size) (hj:j < a0.size)
  (h:Q (some (decide (Kr rk (arrOf st) i < Kr rk (arrOf st) j))) st):wpS (model prog w) A E s (ltAt' i j) Q st:=by
 have hi':i < (arrOf st).size:=by rw [b.sz]; exact hi
 have hj':j < (arrOf st).size:=by rw [b.sz]; exact hj
 rw [ltAt'_eq]
 refine aX0 (wpS_get (aX0 (cR hi' (aX0 (cR hj' ?_)))))
 refine c _ _ (b.all o _ (aZ9 hi')) (b.all o _ (aZ9 hj')) st Q b.kd ?_
 rw [<- cA (rk:=rk) hi',<- cA (rk:=rk) hj']; exact h
theorem qG {i j:Nat}{Q:Unit->SortSt->Prop} (h:Q () (setArr st (mirror (arrOf st) i j ((j - i) / 2)))):wpS (model prog w) A E s (reverseSlice' i j) Q st:=by
 rw [reverseSlice'_eq]; exact wpS_modify h
abbrev CS:=Option (Option Nat) × Nat
abbrev DS:=Option (Option Nat) × Nat × Nat
def nN (lo b nrem:Nat):StateT SortSt Sem CS:=forIn [b:nrem] ((none,b):CS) fun _ r=>do
 match <- ltAt' (lo+r.2) (lo+r.2 - 1) with
 | some q=>if q=true then pure (ForInStep.done (none,r.2)) else pure (ForInStep.yield (none,r.2+1))
 | _=>pure (ForInStep.done (some none,r.2))
def uW (lo b nrem:Nat):StateT SortSt Sem DS:=forIn [b:nrem] ((none,b,0):DS) fun _ r=>do
 match <- ltAt' (lo+r.2.1) (lo+r.2.1 - 1) with
 | some q=>
  if q=true then (if r.2.2 > 0 then do reverseSlice' (lo+r.2.1 - (r.2.2+1)) (lo+r.2.1); pure (ForInStep.yield (none,r.2.1+1,0)) else pure (ForInStep.yield (none,r.2.1+1,0)))
  else do
   match <- ltAt' (lo+r.2.1 - 1) (lo+r.2.1) with
   | some q=>if q=true then pure (ForInStep.done (none,r.2.1,r.2.2)) else pure (ForInStep.yield (none,r.2.1+1,r.2.2+1))
   | _=>pure (ForInStep.done (some none,r.2.1,r.2.2))
 | _=>pure (ForInStep.done (some none,r.2.1,r.2.2))
theorem F3 (c:cE prog w A E s κ Ok rk) (o:bM Ok a0) (b:SB κ a0 pd st) {lo n nrem:Nat}{Q:CS->SortSt->Prop} (hz:lo+nrem<=a0.size) (h1:1<=n) (hn:n<=nrem) (u:Up rk (arrOf st) lo (lo+n))
  (h:∀ m,n<=m->m<=nrem->Up rk (arrOf st) lo (lo+m)->(m=nrem ∨ Kr rk (arrOf st) (lo+m) < Kr rk (arrOf st) (lo+m - 1))->Q (none,m) st):wpS (model prog w) A E s (nN lo n nrem) Q st:=by
 unfold nN
 refine be8 (I:=fun x r st'=>st'=st/\r=(none,x)/\Up rk (arrOf st) lo (lo+x)) ?_ ?_ ⟨rfl,rfl,u⟩
 ·rintro x r st' hx hx' ⟨rfl,rfl,u'⟩
  refine aX0 (nM c o b (by omega) (by omega) ?_)
  by_cases hq:Kr rk (arrOf st') (lo+x) < Kr rk (arrOf st') (lo+x - 1)
  ·rw [aX3 hq]
   exact aX9 (h x hx (by omega) u' (.inr hq))
  ·rw [aW4 hq]
   refine aX9 ⟨rfl,rfl,fun i j hi hij hj=>?_⟩
   rcases ba5 j (lo+x) with z | z
   ·exact u' i j hi hij z
   ·have ej:j=lo+x:=by omega
    subst ej
    rcases bk7 hij with z | z
    ·rw [z]; exact aW5 _
    ·have:=u' i (lo+x - 1) hi (by omega) (by omega)
     omega
 ·rintro r st' ⟨rfl,rfl,u'⟩
  have em:max n nrem=nrem:=by omega
  rw [em] at u' ⊢
  exact h nrem hn (aW8 _) u' (.inl rfl)
structure nO (rk:Keyed->Int) (xs ys:Array Keyed) (lo m q:Nat):Prop where
 dn:Dn rk ys lo (lo+m)
 le:q+1<=m
 eq:∀ i,lo+m - (q+1)<=i->i < lo+m->Kr rk ys i=Kr rk ys (lo+m - 1)
 low:∀ i,i < lo->Kr rk ys i=Kr rk xs i
theorem av2 (c:cE prog w A E s κ Ok rk) (o:bM Ok a0) (b:SB κ a0 pd st) {lo n nrem:Nat}{xs:Array Keyed}{Q:DS->SortSt->Prop} (hz:lo+nrem<=a0.size) (h1:1<=n) (hn:n<=nrem) (u:nO rk xs (arrOf st) lo n 0)
  (h:∀ m q st',SB κ a0 pd st'->n<=m->m<=nrem->nO rk xs (arrOf st') lo m q->Q (none,m,q) st'):wpS (model prog w) A E s (uW lo n nrem) Q st:=by
 unfold uW
 refine be8 (I:=fun x r st'=>∃ q,r=(none,x,q)/\SB κ a0 pd st'/\nO rk xs (arrOf st') lo x q) ?_ ?_ ⟨0,rfl,b,u⟩
 ·rintro x r st' hx hx' ⟨q,rfl,b',f⟩
  have sz:=b'.sz
  dsimp only
  refine aX0 (nM c o b' (by omega) (by omega) ?_)
  by_cases hq:Kr rk (arrOf st') (lo+x) < Kr rk (arrOf st') (lo+x - 1)
  ·rw [aX3 hq]
   have nx:∀ ys:Array Keyed,(∀ k,Kr rk ys k=Kr rk (arrOf st') k)->nO rk xs ys lo (x+1) 0:=fun ys e=>by
    refine⟨fun i j hi hij hj=>?_,by omega,fun i h1 h2=>by rw [show i=lo+(x+1) - 1 by omega],fun i hi=>(e i).trans (f.low i hi)⟩
    rw [e,e]
    rcases ba5 j (lo+x) with z | z
    ·exact f.dn i j hi hij z
    ·have ej:j=lo+x:=by omega
     subst ej
     rcases bk7 hij with z | z
     ·rw [z]; exact aW5 _
     ·have:=f.dn i (lo+x - 1) hi (by omega) (by omega)
      omega
   dsimp only
   rw [if_pos rfl]
   by_cases hp:q > 0
   ·rw [if_pos hp]
    exact aX0 (qG (aX9 ⟨0,rfl,b'.put (mirror_perm _ _ _ _),nx _ (uV (by omega) f.eq)⟩))
   ·rw [if_neg hp]
    exact aX9 ⟨0,rfl,b',nx _ fun _=>rfl⟩
  ·rw [aW4 hq]
   dsimp only
   rw [if_neg aY3]
   refine aX0 (nM c o b' (by omega) (by omega) ?_)
   by_cases hl:Kr rk (arrOf st') (lo+x - 1) < Kr rk (arrOf st') (lo+x)
   ·rw [aX3 hl]
    exact aX9 (h x q st' b' hx (by omega) f)
   ·rw [aW4 hl]
    have ex:Kr rk (arrOf st') (lo+x)=Kr rk (arrOf st') (lo+x - 1):=by omega
    refine aX9 ⟨q+1,rfl,b',fun i j hi hij hj=>?_,by have:=f.le; omega,fun i h1 h2=>?_,f.low⟩
    ·rcases ba5 j (lo+x) with z | z
     ·exact f.dn i j hi hij z
     ·have ej:j=lo+x:=by omega
      subst ej
      rcases bk7 hij with z | z
      ·rw [z]; exact aW5 _
      ·rw [ex]; exact f.dn i (lo+x - 1) hi (by omega) (by omega)
    ·rw [show lo+(x+1) - 1=lo+x by omega]
     rcases ba5 i (lo+x) with z | z
     ·rw [ex]; exact f.eq i (by omega) z
     ·rw [show i=lo+x by omega]
 ·rintro r st' ⟨q,rfl,b',f⟩
  have em:max n nrem=nrem:=by omega
  rw [em] at f ⊢
  exact h nrem q st' b' hn (aW8 _) f
theorem F4 (c:cE prog w A E s κ Ok rk) (o:bM Ok a0) (b:SB κ a0 pd st) {lo nrem:Nat} (n:Nat) {xs:Array Keyed}{Q:Option Nat->SortSt->Prop}{K:DS->StateT SortSt Sem (Option Nat)}{k:CS->StateT SortSt Sem (Option Nat)} (hz:lo+nrem<=a0.size) (hn:n+1<=nrem)
  (hK:∀ m q,K (none,m,q)=if q > 0 then reverseSlice' (lo+m - (q+1)) (lo+m) >>= fun _=>reverseSlice' lo (lo+m) >>= fun _=>nN lo m nrem >>= k else reverseSlice' lo (lo+m) >>= fun _=>nN lo m nrem >>= k)
  (hk:∀ m,k (none,m)=pure (some m)) (u:nO rk xs (arrOf st) lo (n+1) 0)
  (h:∀ m st',SB κ a0 pd st'->1<=m->m<=nrem->Up rk (arrOf st') lo (lo+m)->(∀ i,i < lo->Kr rk (arrOf st') i=Kr rk xs i)->Q (some m) st'):wpS (model prog w) A E s (liftM (rule "list.sort.descending-run") >>= fun _=>uW lo (n+1) nrem >>= K) Q st:=by
 refine aX0 (wpS_lift (bj8 ⟨rfl,?_⟩))
 refine aX0 (av2 c o b hz (by omega) hn u fun m q st1 b1 m1 m2 f=>?_)
 have fin:∀ st2:SortSt,SB κ a0 pd st2->(∀ k,Kr rk (arrOf st2) k=Kr rk (arrOf st1) k)->
   wpS (model prog w) A E s (reverseSlice' lo (lo+m) >>= fun _=>nN lo m nrem >>= k) Q st2:=fun st2 b2 e=>by
  have sz:=b2.sz
  have low:∀ i,i < lo->Kr rk (mirror (arrOf st2) lo (lo+m) ((lo+m - lo) / 2)) i=Kr rk xs i:=fun i hi=>by
   rw [qF (by omega),if_neg (by omega),e]
   exact f.low i hi
  refine aX0 (qG (aX0 (F3 (κ:=κ) c o (b2.put (mirror_perm _ _ _ _)) hz (by omega) m2 ?_ fun m' h1 h2 up _=>by rw [hk]; exact aX9 (h m' _ (b2.put (mirror_perm _ _ _ _)) (by omega) h2 up low))))
  ·intro i j hi hij hj
   show Kr rk (mirror (arrOf st2) lo (lo+m) _) i<=Kr rk (mirror (arrOf st2) lo (lo+m) _) j
   rw [qF (by omega),qF (by omega),if_pos (by omega),if_pos (by omega),e,e]
   exact f.dn _ _ (by omega) (by omega) (by omega)
 rw [hK]
 by_cases hp:q > 0
 ·rw [if_pos hp]
  have sz:=b1.sz
  exact aX0 (qG (fin _ (b1.put (mirror_perm _ _ _ _)) (uV (by omega) f.eq)))
 ·rw [if_neg hp]
  exact fin st1 b1 fun _=>rfl
theorem av3 (c:cE prog w A E s κ Ok rk) (o:bM Ok a0) (b:SB κ a0 pd st) {lo nrem:Nat}{Q:Option Nat->SortSt->Prop} (hz:lo+nrem<=a0.size) (h1:1<=nrem)
  (h:∀ m st',SB κ a0 pd st'->1<=m->m<=nrem->Up rk (arrOf st') lo (lo+m)->(∀ i,i < lo->Kr rk (arrOf st') i=Kr rk (arrOf st) i)->Q (some m) st'):wpS (model prog w) A E s (countRun' lo nrem) Q st:=by
 rw [countRun'_eq]
 refine aX0 (F3 (n:=1) c o b hz (aW8 _) h1 (fun i j hi hij hj=>by rw [show i=j by omega]; exact aW5 _) fun n n1 n2 un on=>?_)
 dsimp only
 by_cases en:(n == nrem)=true
 ·rw [if_pos en]
  exact aX9 (h n st b n1 n2 un fun _ _=>rfl)
 ·rw [if_neg en]
  have en':n ≠ nrem:=by simpa using en
  have lt:=on.resolve_left en'
  have sz:=b.sz
  by_cases g:n > 1
  ·rw [if_pos g]
   refine aX0 (nM c o b (by omega) (by omega) ?_)
   by_cases hq:Kr rk (arrOf st) lo < Kr rk (arrOf st) (lo+n - 1)
   ·rw [aX3 hq]
    exact aX9 (h n st b n1 n2 un fun _ _=>rfl)
   ·rw [aW4 hq]
    dsimp only
    rw [if_neg aY3]
    have all:∀ k,lo<=k->k < lo+n->Kr rk (arrOf st) k=Kr rk (arrOf st) (lo+n - 1):=fun k k1 k2=>by
     have a1:=un lo k (aW8 _) k1 k2
     have a2:=un k (lo+n - 1) k1 (by omega) (by omega)
     omega
    have sm:=uV (rk:=rk) (xs:=arrOf st) (i:=lo) (j:=lo+n) (by omega) all
    refine aX0 (qG (F4 (xs:=arrOf st) (κ:=κ) c o (b.put (mirror_perm _ _ _ _)) n hz (by omega) (fun _ _=>rfl) (fun _=>rfl) ⟨fun i j hi hij hj=>?_,by omega,fun i h1 h2=>by rw [show i=lo+(n+1) - 1 by omega],fun i _=>sm i⟩ h))
    show Kr rk (mirror (arrOf st) lo (lo+n) _) j<=Kr rk (mirror (arrOf st) lo (lo+n) _) i
    rw [sm,sm]
    rcases ba5 j (lo+n) with z | z
    ·rw [all i hi (by omega),all j (by omega) z]; exact aW5 _
    ·have ej:j=lo+n:=by omega
     subst ej
     rcases bk7 hij with z | z
     ·rw [z]; exact aW5 _
     ·rw [all i hi (by omega)]; exact Int.le_of_lt lt
  ·rw [if_neg g]
   have e1:n=1:=by omega
   subst e1
   refine F4 (xs:=arrOf st) c o b 1 hz (by omega) (fun _ _=>rfl) (fun _=>rfl) ⟨fun i j hi hij hj=>?_,by omega,fun i h1 h2=>by rw [show i=lo+(1+1) - 1 by omega],fun i _=>rfl⟩ h
   rcases bk7 hij with z | z
   ·rw [z]; exact aW5 _
   ·have ei:i=lo+1 - 1:=by omega
    have ej:j=lo+1:=by omega
    rw [ei,ej]; exact Int.le_of_lt lt
theorem av4 (c:cE prog w A E s κ Ok rk) (o:bM Ok a0) (b:SB κ a0 pd st) {lo n q:Nat}{Q:Bool->SortSt->Prop} (hz:lo+n<=a0.size) (hq:q<=n) (u:Up rk (arrOf st) lo (lo+q))
  (h:∀ st',SB κ a0 pd st'->Up rk (arrOf st') lo (lo+n)->(∀ i,i < lo->Kr rk (arrOf st') i=Kr rk (arrOf st) i)->Q true st'):wpS (model prog w) A E s (binarySort' lo n q) Q st:=by
 rw [binarySort'_eq]
 refine aX0 (bl9 (be8 (I:=fun k r st'=>r=(none,())/\SB κ a0 pd st'/\Up rk (arrOf st') lo (lo+min k n)/\∀ i,i < lo->Kr rk (arrOf st') i=Kr rk (arrOf st) i)
  (Q:=fun r st'=>r=(none,())/\SB κ a0 pd st'/\Up rk (arrOf st') lo (lo+n)/\∀ i,i < lo->Kr rk (arrOf st') i=Kr rk (arrOf st) i) ?_ ?_ ?_) ?_)
 ·rintro k r st1 hk hkn ⟨rfl,b1,u1,l1⟩
  rw [show min k n=k by omega] at u1
  have hk0:lo+k < a0.size:=by omega
  have sz:=b1.sz
  refine aX0 (bl9 (be8 (I:=fun x r st'=>st'=st1/\∃ l g,r=(none,l,g)/\l<=g/\g<=k/\g - l<=k - x/\(∀ i,i < l->Kr rk (arrOf st1) (lo+i)<=Kr rk (arrOf st1) (lo+k))/\∀ i,g<=i->i < k->Kr rk (arrOf st1) (lo+k) < Kr rk (arrOf st1) (lo+i))
   (Q:=fun r st'=>st'=st1/\∃ l g,r=(none,l,g)/\l<=k/\(∀ i,i < l->Kr rk (arrOf st1) (lo+i)<=Kr rk (arrOf st1) (lo+k))/\∀ i,l<=i->i < k->Kr rk (arrOf st1) (lo+k) < Kr rk (arrOf st1) (lo+i)) ?_ ?_ ?_) ?_)
  ·rintro x r st2 _ hx ⟨rfl,l,g,rfl,d1,d2,d3,f1,f2⟩
   dsimp only
   by_cases hlg:l >= g
   ·rw [if_pos hlg]
    have e:g=l:=by omega
    subst e
    exact aX9 ⟨rfl,g,g,rfl,d2,f1,f2⟩
   ·rw [if_neg hlg]
    refine aX0 (nM c o b1 hk0 (by omega) ?_)
    by_cases hc:Kr rk (arrOf st2) (lo+k) < Kr rk (arrOf st2) (lo+(l+g) / 2)
    ·rw [aX3 hc]
     refine aX9 ⟨rfl,l,(l+g) / 2,rfl,by omega,by omega,by omega,f1,fun i i1 i2=>?_⟩
     have:=u1 (lo+(l+g) / 2) (lo+i) (by omega) (by omega) (by omega)
     omega
    ·rw [aW4 hc]
     refine aX9 ⟨rfl,(l+g) / 2+1,g,rfl,by omega,d2,by omega,fun i i1=>?_,f2⟩
     have:=u1 (lo+i) (lo+(l+g) / 2) (by omega) (by omega) (by omega)
     omega
  ·rintro r st2 ⟨rfl,l,g,rfl,d1,d2,d3,f1,f2⟩
   have e:g=l:=by omega
   subst e
   exact⟨rfl,g,g,rfl,d2,f1,f2⟩
  ·exact⟨rfl,0,k,rfl,by omega,by omega,by omega,fun i hi=>absurd hi (by omega),fun i i1 i2=>absurd i1 (by omega)⟩
  ·rintro r st2 ⟨rfl,l,g,rfl,d,f1,f2⟩
   dsimp only
   rw [moveDown'_eq]
   have kb:∀ i,Kr rk (bubble (arrOf st2) (lo+k) (lo+k - (lo+l))) i=Kr rk (arrOf st2) (if i=lo+l then lo+k else if lo+l < i/\i<=lo+k then i - 1 else i):=fun i=>by
    rw [av1 (by omega) (by omega),show lo+k - (lo+k - (lo+l))=lo+l by omega]
   refine aX0 (wpS_modify (aX9 ⟨rfl,b1.put (bubble_perm _ _ _),fun i j hi hij hj=>?_,fun i hi=>?_⟩))
   ·show Kr rk (bubble (arrOf st2) (lo+k) (lo+k - (lo+l))) i<=Kr rk (bubble (arrOf st2) (lo+k) (lo+k - (lo+l))) j
    rw [kb,kb]
    rw [show min (k+1) n=k+1 by omega] at hj
    have v1:∀ p,lo<=p->p < lo+l->Kr rk (arrOf st2) p<=Kr rk (arrOf st2) (lo+k):=fun p p1 p2=>by have:=f1 (p - lo) (by omega); rwa [show lo+(p - lo)=p by omega] at this
    have v2:∀ p,lo+l<=p->p < lo+k->Kr rk (arrOf st2) (lo+k) < Kr rk (arrOf st2) p:=fun p p1 p2=>by have:=f2 (p - lo) (by omega) (by omega); rwa [show lo+(p - lo)=p by omega] at this
    repeat' split
    all_goals first
     | (exfalso; omega)
     | exact aW5 _
     | exact v1 _ (by omega) (by omega)
     | exact Int.le_of_lt (v2 _ (by omega) (by omega))
     | exact u1 _ _ (by omega) (by omega) (by omega)
   ·show Kr rk (bubble (arrOf st2) (lo+k) (lo+k - (lo+l))) i=_
    rw [kb,if_neg (by omega),if_neg (by omega)]
    exact l1 i hi
 ·rintro r st1 ⟨rfl,b1,u1,l1⟩
  rw [show min (max (max q 1) n) n=n by omega] at u1
  exact⟨rfl,b1,u1,l1⟩
 ·refine⟨rfl,b,fun i j hi hij hj=>?_,fun _ _=>rfl⟩
  rcases ba5 j (lo+q) with z | z
  ·exact u i j hi hij z
  ·rw [show i=j by omega]; exact aW5 _
 ·rintro r st1 ⟨rfl,b1,u1,l1⟩
  exact aX9 (h st1 b1 u1 l1)
end
def jZ:Bool->Keyed->Array Keyed->Nat->Nat->Nat->StateT SortSt Sem (Option Nat):=sortPriv% PySem.Builtin.gallop
def kL (lf:Bool) (key:Keyed) (xs:Array Keyed) (bs i:Nat):StateT SortSt Sem (Option Bool):=do
 let z <- elem' xs (bs+i)
 if lf then lt' z key else return (<- lt' key z).map (!·)
theorem av5 (lf:Bool) (key:Keyed) (xs:Array Keyed) (bs n h:Nat):jZ lf key xs bs n h=(do
 let mut la:=0
 let mut of:=1
 let mut l:=0
 let mut g:=0
 let some rt <- kL lf key xs bs h | return none
 if rt then
  let mx:=n - h
  for _ in [0:n] do
   if of >= mx then break
   let some mr <- kL lf key xs bs (h+of) | return none
   if !mr then break
   la:=of
   of:=2 * of+1
  l:=h+la+1
  g:=h+min of mx
 else
  let mx:=h+1
  for _ in [0:n] do
   if of >= mx then break
   let some fd <- kL lf key xs bs (h - of) | return none
   if fd then break
   la:=of
   of:=2 * of+1
  l:=h+1 - min of mx
  g:=h - la
 for _ in [0:n] do
  if l >= g then break
  let m:=l+(g - l) / 2
  let some mr <- kL lf key xs bs m | return none
  if mr then l:=m+1 else g:=m
 return some g):=rfl
section
variable {rk : Keyed → Int} {κ : SortKind} {st : SortSt} {prog : Program} {w : World} {A : Around} {E : Value → Shared → Prop} {s : Shared} {Ok : Keyed → Prop}
def bY (rk:Keyed->Int) (lf:Bool) (key:Keyed) (xs:Array Keyed) (bs i:Nat):Bool:=if lf then decide (Kr rk xs (bs+i) < rk key) else decide (Kr rk xs (bs+i)<=rk key)
theorem qH (c:cE prog w A E s κ Ok rk) (hk:kindOf st=κ) {lf:Bool}{key:Keyed}{xs:Array Keyed}{bs i:Nat}{Q:Option Bool->SortSt->Prop} (ok:Ok key) (o:bM Ok xs) (hi:bs+i < xs.size)
  (h:Q (some (bY rk lf key xs bs i)) st):wpS (model prog w) A E s (kL lf key xs bs i) Q st:=by
 unfold kL
 refine aX0 (cR hi ?_)
 unfold bY at h
 rw [cA hi] at h
 cases lf with
 | true=>
  simp only [if_true] at h ⊢
  exact c _ _ (o _ (aZ9 hi)) ok st Q hk h
 | false=>
  simp only [aY8,be6] at h ⊢
  refine aX0 (c _ _ ok (o _ (aZ9 hi)) st _ hk (aX9 ?_))
  have e:(!decide (rk key < rk xs[bs+i]))=decide (rk xs[bs+i]<=rk key):=by
   by_cases z:rk xs[bs+i]<=rk key
   ·rw [aX3 z,aW4 (by omega)]; rfl
   ·rw [aW4 z,aX3 (by omega)]; rfl
  show Q (some (!decide (rk key < rk xs[bs+i]))) st
  rw [e]; exact h
abbrev GS:=Option (Option Nat) × Nat × Nat
def F5 (lf:Bool) (key:Keyed) (xs:Array Keyed) (bs n l g:Nat):StateT SortSt Sem GS:=forIn [0:n] ((none,l,g):GS) fun _ r=>
 if r.2.1 >= r.2.2 then pure (ForInStep.done (none,r.2.1,r.2.2)) else do
  match <- kL lf key xs bs (r.2.1+(r.2.2 - r.2.1) / 2) with
  | some q=>if q=true then pure (ForInStep.yield (none,r.2.1+(r.2.2 - r.2.1) / 2+1,r.2.2)) else pure (ForInStep.yield (none,r.2.1,r.2.1+(r.2.2 - r.2.1) / 2))
  | _=>pure (ForInStep.done (some none,r.2.1,r.2.2))
theorem F6 (c:cE prog w A E s κ Ok rk) (hk:kindOf st=κ) {lf:Bool}{key:Keyed}{xs:Array Keyed}{bs n l g:Nat}{Q:GS->SortSt->Prop} (ok:Ok key) (o:bM Ok xs) (hz:bs+n<=xs.size)
  (mono:∀ i j,i<=j->j < n->bY rk lf key xs bs j=true->bY rk lf key xs bs i=true) (hlg:l<=g) (hg:g<=n) (h1:∀ i,i < l->bY rk lf key xs bs i=true) (h2:∀ i,g<=i->i < n->bY rk lf key xs bs i=false)
  (hq:∀ k,k<=n->(∀ i,i < k->bY rk lf key xs bs i=true)->(∀ i,k<=i->i < n->bY rk lf key xs bs i=false)->Q (none,k,k) st):wpS (model prog w) A E s (F5 lf key xs bs n l g) Q st:=by
 unfold F5
 refine be8 (I:=fun x r st'=>st'=st/\∃ l g,r=(none,l,g)/\l<=g/\g<=n/\g - l<=n - x/\(∀ i,i < l->bY rk lf key xs bs i=true)/\∀ i,g<=i->i < n->bY rk lf key xs bs i=false) ?_ ?_ ⟨rfl,l,g,rfl,hlg,hg,by omega,h1,h2⟩
 ·rintro x r st' _ hx ⟨rfl,l,g,rfl,d1,d2,d3,f1,f2⟩
  dsimp only
  by_cases hc:l >= g
  ·rw [if_pos hc]
   have e:g=l:=by omega
   subst e
   exact aX9 (hq g d2 f1 f2)
  ·rw [if_neg hc]
   refine aX0 (qH c hk ok o (by omega) ?_)
   cases z:bY rk lf key xs bs (l+(g - l) / 2) with
   | true=>exact aX9 ⟨rfl,_,_,rfl,by omega,d2,by omega,fun i hi=>mono i (l+(g - l) / 2) (by omega) (by omega) z,f2⟩
   | false=>
    refine aX9 ⟨rfl,_,_,rfl,by omega,by omega,by omega,f1,fun i i1 i2=>?_⟩
    cases y:bY rk lf key xs bs i with
    | false=>rfl
    | true=>rw [mono _ i i1 i2 y] at z; cases z
 ·rintro r st' ⟨rfl,l,g,rfl,d1,d2,d3,f1,f2⟩
  have e:g=l:=by omega
  subst e
  exact hq g d2 f1 f2
theorem lZ (c:cE prog w A E s κ Ok rk) (hk:kindOf st=κ) {lf:Bool}{key:Keyed}{xs:Array Keyed}{bs n h:Nat}{Q:Option Nat->SortSt->Prop} (ok:Ok key) (o:bM Ok xs) (hh:h < n) (hz:bs+n<=xs.size) (u:Up rk xs bs (bs+n))
  (hq:∀ k,k<=n->(∀ i,i < k->bY rk lf key xs bs i=true)->(∀ i,k<=i->i < n->bY rk lf key xs bs i=false)->Q (some k) st):wpS (model prog w) A E s (jZ lf key xs bs n h) Q st:=by
 have mono:∀ i j,i<=j->j < n->bY rk lf key xs bs j=true->bY rk lf key xs bs i=true:=fun i j hij hj e=>by
  have:=u (bs+i) (bs+j) (by omega) (by omega) (by omega)
  unfold bY at e ⊢
  cases lf with
  | true=>simp only [if_true,aY7] at e ⊢; omega
  | false=>simp only [aY8,be6,aY7] at e ⊢; omega
 have monf:∀ i j,i<=j->j < n->bY rk lf key xs bs i=false->bY rk lf key xs bs j=false:=fun i j hij hj e=>by
  cases z:bY rk lf key xs bs j with
  | false=>rfl
  | true=>rw [mono i j hij hj z] at e; cases e
 rw [av5]
 refine aX0 (qH c hk ok o (by omega) ?_)
 dsimp only
 cases z:bY rk lf key xs bs h with
 | true=>
  rw [if_pos rfl]
  refine aX0 (bl9 (be8 (I:=fun x r st'=>st'=st/\∃ la of,r=(none,la,of)/\la < of/\x < of/\h+la < n/\bY rk lf key xs bs (h+la)=true)
   (Q:=fun r st'=>st'=st/\∃ la of,r=(none,la,of)/\la < of/\h+la < n/\bY rk lf key xs bs (h+la)=true/\(of < n - h->bY rk lf key xs bs (h+of)=false)) ?_ ?_ ⟨rfl,0,1,rfl,by omega,by omega,by omega,z⟩) ?_)
  ·rintro x r st' _ hx ⟨rfl,la,of,rfl,d1,d2,d3,f⟩
   dsimp only
   by_cases hc:of >= n - h
   ·rw [if_pos hc]
    exact aX9 ⟨rfl,la,of,rfl,d1,d3,f,fun y=>absurd y (by omega)⟩
   ·rw [if_neg hc]
    refine aX0 (qH c hk ok o (by omega) ?_)
    cases y:bY rk lf key xs bs (h+of) with
    | true=>exact aX9 ⟨rfl,of,2 * of+1,rfl,by omega,by omega,by omega,y⟩
    | false=>exact aX9 ⟨rfl,la,of,rfl,d1,d3,f,fun _=>y⟩
  ·rintro r st' ⟨rfl,la,of,rfl,d1,d2,d3,f⟩
   exact⟨rfl,la,of,rfl,d1,d3,f,fun y=>absurd y (by omega)⟩
  ·rintro r st' ⟨rfl,la,of,rfl,d1,d3,f,ft⟩
   dsimp only
   refine aX0 (F6 (l:=h+la+1) (g:=h+min of (n - h)) c hk ok o hz mono (by omega) (by omega) (fun i hi=>mono i (h+la) (by omega) d3 f) (fun i i1 i2=>?_) fun k k1 k2 k3=>aX9 (hq k k1 k2 k3))
   rcases ba5 of (n - h) with y | y
   ·exact monf (h+of) i (by omega) i2 (ft y)
   ·exact absurd i1 (by omega)
 | false=>
  rw [if_neg aY3]
  refine aX0 (bl9 (be8 (I:=fun x r st'=>st'=st/\∃ la of,r=(none,la,of)/\la < of/\x < of/\la<=h/\bY rk lf key xs bs (h - la)=false)
   (Q:=fun r st'=>st'=st/\∃ la of,r=(none,la,of)/\la < of/\la<=h/\bY rk lf key xs bs (h - la)=false/\(of < h+1->bY rk lf key xs bs (h - of)=true)) ?_ ?_ ⟨rfl,0,1,rfl,by omega,by omega,by omega,z⟩) ?_)
  ·rintro x r st' _ hx ⟨rfl,la,of,rfl,d1,d2,d3,f⟩
   dsimp only
   by_cases hc:of >= h+1
   ·rw [if_pos hc]
    exact aX9 ⟨rfl,la,of,rfl,d1,d3,f,fun y=>absurd y (by omega)⟩
   ·rw [if_neg hc]
    refine aX0 (qH c hk ok o (by omega) ?_)
    cases y:bY rk lf key xs bs (h - of) with
    | false=>exact aX9 ⟨rfl,of,2 * of+1,rfl,by omega,by omega,by omega,y⟩
    | true=>exact aX9 ⟨rfl,la,of,rfl,d1,d3,f,fun _=>y⟩
  ·rintro r st' ⟨rfl,la,of,rfl,d1,d2,d3,f⟩
   exact⟨rfl,la,of,rfl,d1,d3,f,fun y=>absurd y (by omega)⟩
  ·rintro r st' ⟨rfl,la,of,rfl,d1,d3,f,ft⟩
   dsimp only
   refine aX0 (F6 (l:=h+1 - min of (h+1)) (g:=h - la) c hk ok o hz mono (by omega) (by omega) (fun i hi=>?_) (fun i i1 i2=>monf (h - la) i i1 i2 f) fun k k1 k2 k3=>aX9 (hq k k1 k2 k3))
   rcases ba5 of (h+1) with y | y
   ·exact mono i (h - of) (by omega) (by omega) (ft y)
   ·exact absurd hi (by omega)
end
def m5:Nat->StateT SortSt Sem Unit:=sortPriv% PySem.Builtin.setMinGallop
def uX:Array Keyed->Array Keyed->StateT SortSt Sem (Array Keyed):=sortPriv% PySem.Builtin.mergeLo
theorem av6 (g:Nat):m5 g=modify (fun st=>SortSt.mk' (kindOf st) (arrOf st) (pendingOf st) g (failedOf st)):=rfl
abbrev LS:=Option (Array Keyed) × Array Keyed × Nat × Nat × Nat × Nat × Nat
abbrev uY:=Option (Array Keyed) × Array Keyed × Nat × Nat × Nat × Nat
abbrev LO:=Option (Array Keyed) × Array Keyed × Nat × Nat × Nat
def qI (x y o:Array Keyed) (i j mg p q:Nat):StateT SortSt Sem (ForInStep LS):=do
 let v <- elem' x i
 if (i+1+1 == x.size)=true then pure (.done (some (o.push v ++ y.extract j y.size ++ x.extract (i+1) x.size),o.push v,i+1,j,mg,p,q))
 else if (decide (p < 7) && decide (q < 7))=true then pure (.done (none,o.push v,i+1,j,mg,p,q)) else pure (.yield (none,o.push v,i+1,j,mg,p,q))
def qJ (x y o:Array Keyed) (i j mg p q:Nat):StateT SortSt Sem (ForInStep LS):=do
 let v <- elem' y j
 if (j+1 == y.size)=true then pure (.done (some (o.push v ++ x.extract i x.size ++ y.extract (j+1) y.size),o.push v,i,j+1,mg,p,q)) else do
  let u <- elem' x i
  match <- jZ true u y (j+1) (y.size - (j+1)) 0 with
  | some k=>
   if k > 0 then
    if (j+1+k == y.size)=true then pure (.done (some (o.push v ++ y.extract (j+1) (j+1+k) ++ x.extract i x.size ++ y.extract (j+1+k) y.size),o.push v ++ y.extract (j+1) (j+1+k),i,j+1+k,mg,p,k))
    else qI x y (o.push v ++ y.extract (j+1) (j+1+k)) i (j+1+k) mg p k
   else qI x y (o.push v) i (j+1) mg p k
  | _=>pure (.done (some (o.push v ++ x.extract i x.size ++ y.extract (j+1) y.size),o.push v,i,j+1,mg,p,q))
def qK (x y o:Array Keyed) (i j mg p q:Nat):StateT SortSt Sem (ForInStep LS):=do
 m5 mg
 let v <- elem' y j
 match <- jZ false v x i (x.size - i) 0 with
 | some k=>
  if k > 0 then
   if (i+k+1 == x.size)=true then pure (.done (some (o ++ x.extract i (i+k) ++ y.extract j y.size ++ x.extract (i+k) x.size),o ++ x.extract i (i+k),i+k,j,mg,k,q))
   else if (i+k == x.size)=true then pure (.done (some (o ++ x.extract i (i+k) ++ x.extract (i+k) x.size ++ y.extract j y.size),o ++ x.extract i (i+k),i+k,j,mg,k,q))
   else qJ x y (o ++ x.extract i (i+k)) (i+k) j mg k q
  else qJ x y o i j mg k q
 | _=>pure (.done (some (o ++ x.extract i x.size ++ y.extract j y.size),o,i,j,mg,p,q))
def uZ (x y o:Array Keyed) (i j mg p q:Nat):StateT SortSt Sem LS:=forIn [0:x.size+y.size] ((none,o,i,j,mg,p,q):LS) fun _ r=>
 if r.2.2.2.2.1 > 1 then qK x y r.2.1 r.2.2.1 r.2.2.2.1 (r.2.2.2.2.1 - 1) r.2.2.2.2.2.1 r.2.2.2.2.2.2 else qK x y r.2.1 r.2.2.1 r.2.2.2.1 r.2.2.2.2.1 r.2.2.2.2.2.1 r.2.2.2.2.2.2
def v3 (x y o:Array Keyed) (i j mg:Nat):StateT SortSt Sem uY:=forIn [0:x.size+y.size] ((none,o,i,j,0,0):uY) fun _ r=>do
 let v <- elem' y r.2.2.2.1
 let u <- elem' x r.2.2.1
 match <- lt' v u with
 | some q=>
  if q=true then do
   let v <- elem' y r.2.2.2.1
   if (r.2.2.2.1+1 == y.size)=true then pure (.done (some (r.2.1.push v ++ x.extract r.2.2.1 x.size ++ y.extract (r.2.2.2.1+1) y.size),r.2.1.push v,r.2.2.1,r.2.2.2.1+1,0,r.2.2.2.2.2+1))
   else if r.2.2.2.2.2+1 >= mg then pure (.done (none,r.2.1.push v,r.2.2.1,r.2.2.2.1+1,0,r.2.2.2.2.2+1)) else pure (.yield (none,r.2.1.push v,r.2.2.1,r.2.2.2.1+1,0,r.2.2.2.2.2+1))
  else do
   let u <- elem' x r.2.2.1
   if (r.2.2.1+1+1 == x.size)=true then pure (.done (some (r.2.1.push u ++ y.extract r.2.2.2.1 y.size ++ x.extract (r.2.2.1+1) x.size),r.2.1.push u,r.2.2.1+1,r.2.2.2.1,r.2.2.2.2.1+1,0))
   else if r.2.2.2.2.1+1 >= mg then pure (.done (none,r.2.1.push u,r.2.2.1+1,r.2.2.2.1,r.2.2.2.2.1+1,0)) else pure (.yield (none,r.2.1.push u,r.2.2.1+1,r.2.2.2.1,r.2.2.2.2.1+1,0))
 | _=>pure (.done (some (r.2.1 ++ x.extract r.2.2.1 x.size ++ y.extract r.2.2.2.1 y.size),r.2.1,r.2.2.1,r.2.2.2.1,r.2.2.2.2.1,r.2.2.2.2.2))
def F7 (x y o:Array Keyed) (i j mg:Nat):StateT SortSt Sem LO:=forIn [0:x.size+y.size] ((none,o,i,j,mg):LO) fun _ r=>do
 let u <- v3 x y r.2.1 r.2.2.1 r.2.2.2.1 r.2.2.2.2
 match u.1 with
 | some z=>pure (.done (some z,u.2.1,u.2.2.1,u.2.2.2.1,r.2.2.2.2))
 | none=>do
  liftM (rule "list.sort.gallop")
  let v <- uZ x y u.2.1 u.2.2.1 u.2.2.2.1 (r.2.2.2.2+1) u.2.2.2.2.1 u.2.2.2.2.2
  match v.1 with
  | some z=>pure (.done (some z,v.2.1,v.2.2.1,v.2.2.2.1,v.2.2.2.2.1))
  | none=>do
   m5 (v.2.2.2.2.1+1)
   pure (.yield (none,v.2.1,v.2.2.1,v.2.2.2.1,v.2.2.2.2.1+1))
theorem av7 (x y:Array Keyed):uX x y=(do
 liftM (rule "list.sort.merge-lo")
 let v <- elem' y 0
 if (1 == y.size)=true then pure (#[v] ++ x.extract 0 x.size ++ y.extract 1 y.size)
 else if (0+1 == x.size)=true then pure (#[v] ++ y.extract 1 y.size ++ x.extract 0 x.size)
 else do
  let z <- get
  let r <- F7 x y #[v] 0 1 (gallopOf z)
  match r.1 with
  | some z=>pure z
  | none=>unsupported "internal:list.sort.merge-bound"):=by kernel_rfl
section
variable (rk : Keyed → Int)
def Sd (l:List Keyed):Prop:=l.Pairwise fun a b=>rk a<=rk b
structure MI (xs ys o:List Keyed) (i j:Nat):Prop where
 pm:o.Perm (xs.take i ++ ys.take j)
 sx:Sd rk (o ++ xs.drop i)
 sy:Sd rk (o ++ ys.drop j)
end
variable {rk : Keyed → Int} {xs ys o : List Keyed} {i j : Nat}
theorem Sd.ins {o a b d:List Keyed} (h1:Sd rk (o ++ a)) (h2:Sd rk (o ++ (b ++ d))) (h:∀ u ∈ b,∀ t ∈ a,rk u<=rk t):Sd rk ((o ++ b) ++ a):=by
 unfold Sd at *
 rw [aY2]
 obtain ⟨p1,p2,p3⟩:=aZ3.mp h1
 obtain ⟨q1,q2,q3⟩:=aZ3.mp h2
 obtain ⟨r1,r2,r3⟩:=aZ3.mp q2
 refine aZ3.mpr ⟨p1,aZ3.mpr ⟨r1,p2,h⟩,fun u hu t ht=>?_⟩
 rcases bb6.mp ht with z | z
 ·exact q3 u hu t (be5 _ z)
 ·exact p3 u hu t z
theorem MI.ofy (m:MI rk xs ys o i j) (k:Nat) (h:∀ u ∈ (ys.drop j).take k,∀ t ∈ xs.drop i,rk u<=rk t):MI rk xs ys (o ++ (ys.drop j).take k) i (j+k):=by
 have e:(ys.drop j).take k ++ ys.drop (j+k)=ys.drop j:=by rw [<- List.drop_drop]; exact aZ6 k _
 refine⟨?_,Sd.ins m.sx (d:=ys.drop (j+k)) (by rw [e]; exact m.sy) h,by rw [aY2,e]; exact m.sy⟩
 rw [List.take_add,<- aY2]
 exact m.pm.append_right _
theorem MI.ofx (m:MI rk xs ys o i j) (k:Nat) (h:∀ u ∈ (xs.drop i).take k,∀ t ∈ ys.drop j,rk u<=rk t):MI rk xs ys (o ++ (xs.drop i).take k) (i+k) j:=by
 have e:(xs.drop i).take k ++ xs.drop (i+k)=xs.drop i:=by rw [<- List.drop_drop]; exact aZ6 k _
 refine⟨?_,by rw [aY2,e]; exact m.sx,Sd.ins m.sy (d:=xs.drop (i+k)) (by rw [e]; exact m.sx) h⟩
 rw [List.take_add]
 refine (m.pm.append_right _).trans ?_
 rw [aY2,aY2]
 exact (bd6).append_left _
theorem MI.fin (m:MI rk xs ys o i j) (h:xs.length<=i ∨ ys.length<=j):(o ++ xs.drop i ++ ys.drop j).Perm (xs ++ ys)/\Sd rk (o ++ xs.drop i ++ ys.drop j):=by
 refine⟨?_,?_⟩
 ·rw [aY2]
  refine (m.pm.append_right _).trans ?_
  have e1:xs=xs.take i ++ xs.drop i:=(aZ6 i xs).symm
  have e2:ys=ys.take j ++ ys.drop j:=(aZ6 j ys).symm
  conv=>rhs; rw [e1,e2]
  rw [aY2,aY2]
  refine bk9 _ ?_
  rw [<- aY2,<- aY2]
  exact (bd6).append_right _
 ·rcases h with h | h
  ·rw [List.drop_eq_nil_of_le h,bf1]; exact m.sy
  ·rw [List.drop_eq_nil_of_le h,bf1]; exact m.sx
theorem MI.lst (m:MI rk xs ys o i j) (h:∀ u ∈ ys,∀ t ∈ xs.drop i,rk u<=rk t):(o ++ ys.drop j ++ xs.drop i).Perm (xs ++ ys)/\Sd rk (o ++ ys.drop j ++ xs.drop i):=by
 have m2:=m.ofy ys.length fun u hu t ht=>h u (List.mem_of_mem_drop (bm0 hu)) t ht
 have e:(ys.drop j).take ys.length=ys.drop j:=bg5 (by simp)
 rw [e] at m2
 have f:=m2.fin (.inr (by omega))
 rw [List.drop_eq_nil_of_le (as:=ys) (i:=j+ys.length) (by omega),bf1] at f
 exact f
theorem F8 {x:Array Keyed}{i k:Nat}{u:Keyed} (h:u ∈ (x.toList.drop i).take k):∃ t,t < k/\i+t < x.size/\rk u=Kr rk x (i+t):=by
 obtain ⟨t,ht,e⟩:=bd7 h
 have h1:t < k/\i+t < x.size:=by simp at ht; omega
 refine⟨t,h1.1,h1.2,?_⟩
 rw [cA h1.2,<- e]
 simp
theorem nP {x:Array Keyed}{i:Nat}{u:Keyed} (h:u ∈ x.toList.drop i):∃ t,i+t < x.size/\rk u=Kr rk x (i+t):=by
 obtain ⟨t,ht,e⟩:=bd7 h
 have h1:i+t < x.size:=by simp at ht; omega
 refine⟨t,h1,?_⟩
 rw [cA h1,<- e]
 simp
theorem Sd.up {x:Array Keyed} (h:Sd rk x.toList) (lo hi:Nat) (hh:hi<=x.size):Up rk x lo hi:=fun i j _ hij hj=>by
 rw [cA (by omega:i < x.size),cA (by omega:j < x.size)]
 rcases bk7 hij with z | z
 ·subst z; exact aW5 _
 ·have:=ba0.mp h i j (by simp; omega) (by simp; omega) z
  simpa using this
theorem F9 (x:Array Keyed) (i k:Nat):(x.extract i (i+k)).toList=(x.toList.drop i).take k:=by
 simp [List.extract]
theorem qL (x:Array Keyed) (i:Nat):(x.extract i x.size).toList=x.toList.drop i:=by
 simp [List.extract]
 exact bg5 (by simp)
theorem kN {x:Array Keyed}{i:Nat} (h:i < x.size) : [x[i]]=(x.toList.drop i).take 1:=by
 rw [bi8 (by simpa using h)]; simp
structure Gq (st st':SortSt):Prop where
 kd:kindOf st'=kindOf st
 ar:arrOf st'=arrOf st
 pd:pendingOf st'=pendingOf st
 ok:failedOf st'=failedOf st
theorem Gq.refl (st:SortSt):Gq st st:=⟨rfl,rfl,rfl,rfl⟩
section
variable {κ : SortKind} {st : SortSt} {prog : Program} {w : World} {A : Around} {E : Value → Shared → Prop} {s : Shared} {Ok : Keyed → Prop}
theorem qM {st0:SortSt}{g:Nat}{Q:Unit->SortSt->Prop} (q:Gq st0 st) (h:∀ st',Gq st0 st'->Q () st'):wpS (model prog w) A E s (m5 g) Q st:=by
 rw [av6]; exact wpS_modify (h _ ⟨q.kd,q.ar,q.pd,q.ok⟩)
def dL (rk:Keyed->Int) (x y r:Array Keyed):Prop:=r.toList.Perm (x.toList ++ y.toList)/\Sd rk r.toList
theorem MI.y1 {x y o:Array Keyed} (m:MI rk x.toList y.toList o.toList i j) (hj:j < y.size) (h:∀ t,i+t < x.size->rk y[j]<=Kr rk x (i+t)):MI rk x.toList y.toList (o.push y[j]).toList i (j+1):=by
 have:=m.ofy 1 fun u hu t ht=>?_
 ·rw [<- kN hj] at this; simpa using this
 ·rw [<- kN hj,aX6] at hu
  subst hu
  obtain ⟨q,q1,q2⟩:=nP (rk:=rk) ht
  rw [q2]; exact h q q1
theorem MI.x1 {x y o:Array Keyed} (m:MI rk x.toList y.toList o.toList i j) (hi:i < x.size) (h:∀ t,j+t < y.size->rk x[i]<=Kr rk y (j+t)):MI rk x.toList y.toList (o.push x[i]).toList (i+1) j:=by
 have:=m.ofx 1 fun u hu t ht=>?_
 ·rw [<- kN hi] at this; simpa using this
 ·rw [<- kN hi,aX6] at hu
  subst hu
  obtain ⟨q,q1,q2⟩:=nP (rk:=rk) ht
  rw [q2]; exact h q q1
theorem MI.yk {x y o:Array Keyed} (m:MI rk x.toList y.toList o.toList i j) (k:Nat) (h:∀ p t,p < k->j+p < y.size->i+t < x.size->Kr rk y (j+p)<=Kr rk x (i+t)):MI rk x.toList y.toList (o ++ y.extract j (j+k)).toList i (j+k):=by
 have:=m.ofy k fun u hu t ht=>?_
 ·rw [<- F9] at this; rw [bd8]; exact this
 ·obtain ⟨p,p1,p2,p3⟩:=F8 (rk:=rk) hu
  obtain ⟨q,q1,q2⟩:=nP (rk:=rk) ht
  rw [q2,p3]; exact h p q p1 p2 q1
theorem MI.xk {x y o:Array Keyed} (m:MI rk x.toList y.toList o.toList i j) (k:Nat) (h:∀ p t,p < k->i+p < x.size->j+t < y.size->Kr rk x (i+p)<=Kr rk y (j+t)):MI rk x.toList y.toList (o ++ x.extract i (i+k)).toList (i+k) j:=by
 have:=m.ofx k fun u hu t ht=>?_
 ·rw [<- F9] at this; rw [bd8]; exact this
 ·obtain ⟨p,p1,p2,p3⟩:=F8 (rk:=rk) hu
  obtain ⟨q,q1,q2⟩:=nP (rk:=rk) ht
  rw [q2,p3]; exact h p q p1 p2 q1
theorem m6 {key:Keyed}{xs:Array Keyed}{bs i:Nat}:bY rk false key xs bs i=decide (Kr rk xs (bs+i)<=rk key):=rfl
theorem m7 {key:Keyed}{xs:Array Keyed}{bs i:Nat}:bY rk true key xs bs i=decide (Kr rk xs (bs+i) < rk key):=rfl
def GI (rk:Keyed->Int) (x y:Array Keyed) (lb:Nat) (st:SortSt) (c:LS) (st':SortSt):Prop:=Gq st st'/\∃ o i j mg p q,c=(none,o,i,j,mg,p,q)/\MI rk x.toList y.toList o.toList i j/\i+1 < x.size/\j < y.size/\lb<=i+j
def GQ (rk:Keyed->Int) (x y:Array Keyed) (lb:Nat) (st:SortSt) (c:LS) (st':SortSt):Prop:=Gq st st'/\((∃ r o i j mg p q,c=(some r,o,i,j,mg,p,q)/\dL rk x y r) ∨ ∃ o i j mg p q,c=(none,o,i,j,mg,p,q)/\MI rk x.toList y.toList o.toList i j/\i+1 < x.size/\j < y.size/\lb<=i+j)
def GR (rk:Keyed->Int) (x y:Array Keyed) (lb:Nat) (st:SortSt) (r:ForInStep LS) (st':SortSt):Prop:=match r with | .done c=>GQ rk x y lb st c st' | .yield c=>GI rk x y lb st c st'
theorem MI.done {x y o:Array Keyed} (m:MI rk x.toList y.toList o.toList i j) (hh:x.size<=i ∨ y.size<=j):dL rk x y (o ++ x.extract i x.size ++ y.extract j y.size):=by
 unfold dL
 rw [bd8,bd8,qL,qL]
 exact m.fin (by simpa using hh)
theorem MI.last {x y o:Array Keyed} (m:MI rk x.toList y.toList o.toList i j) (x0:0 < x.size) (hl:∀ u ∈ y.toList,rk u<=rk x[x.size - 1]) (hh:i+1=x.size):dL rk x y (o ++ y.extract j y.size ++ x.extract i x.size):=by
 unfold dL
 rw [bd8,bd8,qL,qL]
 refine m.lst fun u hu t ht=>?_
 obtain ⟨q,q1,q2⟩:=nP (rk:=rk) ht
 have e:i+q=x.size - 1:=by omega
 rw [q2,e,cA (by omega)]
 exact hl u hu
theorem G0 {st0:SortSt}{x y o:Array Keyed}{mg p q lb:Nat} (x0:0 < x.size) (hl:∀ u ∈ y.toList,rk u<=rk x[x.size - 1]) (g:Gq st0 st) (m:MI rk x.toList y.toList o.toList i j) (hi:i+1 < x.size) (hj:j < y.size) (hb:lb<=i+j)
  (hm:∀ t,j+t < y.size->rk x[i]<=Kr rk y (j+t)):wpS (model prog w) A E s (qI x y o i j mg p q) (GR rk x y lb st0) st:=by
 unfold qI
 have hi':i < x.size:=by omega
 have m':=m.x1 hi' hm
 refine aX0 (cR hi' ?_)
 by_cases he:(i+1+1 == x.size)=true
 ·rw [if_pos he]
  have he:i+1+1=x.size:=by simpa using he
  exact aX9 ⟨g,.inl ⟨_,_,_,_,_,_,_,rfl,m'.last x0 hl he⟩⟩
 ·rw [if_neg he]
  have he:i+1+1 ≠ x.size:=by simpa using he
  split
  ·exact aX9 ⟨g,.inr ⟨_,_,_,_,_,_,rfl,m',by omega,hj,by omega⟩⟩
  ·exact aX9 ⟨g,_,_,_,_,_,_,rfl,m',by omega,hj,by omega⟩
theorem G1 (c:cE prog w A E s κ Ok rk) {st0:SortSt} (hk:kindOf st0=κ) {x y o:Array Keyed}{mg p q lb:Nat} (ox:bM Ok x) (oy:bM Ok y) (sx:Sd rk x.toList) (sy:Sd rk y.toList) (x0:0 < x.size) (hl:∀ u ∈ y.toList,rk u<=rk x[x.size - 1]) (g:Gq st0 st) (m:MI rk x.toList y.toList o.toList i j) (hi:i+1 < x.size) (hj:j < y.size) (hb:lb<=i+j)
  (hm:∀ t,i+t < x.size->rk y[j]<=Kr rk x (i+t)):wpS (model prog w) A E s (qJ x y o i j mg p q) (GR rk x y lb st0) st:=by
 unfold qJ
 have hi':i < x.size:=by omega
 have m':=m.y1 hj hm
 refine aX0 (cR hj ?_)
 by_cases he:(j+1 == y.size)=true
 ·rw [if_pos he]
  have he:j+1=y.size:=by simpa using he
  exact aX9 ⟨g,.inl ⟨_,_,_,_,_,_,_,rfl,m'.done (.inr (by omega))⟩⟩
 ·rw [if_neg he]
  have he:j+1 ≠ y.size:=by simpa using he
  refine aX0 (cR hi' (aX0 (lZ c (g.kd.trans hk) (ox _ (aZ9 hi')) oy (by omega) (by omega) (sy.up _ _ (by omega)) fun k k1 k2 k3=>?_)))
  dsimp only
  have ux:=sx.up 0 _ (aW8 x.size)
  have mk:=m'.yk k fun p t hp _ ht=>by
   have a1:=k2 p hp
   rw [m7,aY7] at a1
   have a2:=ux i (i+t) (by omega) (by omega) ht
   rw [cA hi'] at a2
   omega
  have km:∀ t,j+1+k+t < y.size->rk x[i]<=Kr rk y (j+1+k+t):=fun t ht=>by
   have a1:=k3 (k+t) (by omega) (by omega)
   rw [m7,bh9,<- Nat.add_assoc] at a1
   omega
  by_cases hk0:k > 0
  ·rw [if_pos hk0]
   by_cases hf:(j+1+k == y.size)=true
   ·rw [if_pos hf]
    have hf:j+1+k=y.size:=by simpa using hf
    exact aX9 ⟨g,.inl ⟨_,_,_,_,_,_,_,rfl,mk.done (.inr (by omega))⟩⟩
   ·rw [if_neg hf]
    have hf:j+1+k ≠ y.size:=by simpa using hf
    exact G0 x0 hl g mk hi (by omega) (by omega) km
  ·rw [if_neg hk0]
   have e0:k=0:=by omega
   subst e0
   exact G0 x0 hl g m' hi (by omega) (by omega) km
theorem G2 (c:cE prog w A E s κ Ok rk) {st0:SortSt} (hk:kindOf st0=κ) {x y o:Array Keyed}{mg p q lb:Nat} (ox:bM Ok x) (oy:bM Ok y) (sx:Sd rk x.toList) (sy:Sd rk y.toList) (x0:0 < x.size) (hl:∀ u ∈ y.toList,rk u<=rk x[x.size - 1]) (g:Gq st0 st) (m:MI rk x.toList y.toList o.toList i j) (hi:i+1 < x.size) (hj:j < y.size) (hb:lb<=i+j) :
  wpS (model prog w) A E s (qK x y o i j mg p q) (GR rk x y lb st0) st:=by
 unfold qK
 refine aX0 (qM g fun st4 q4=>aX0 (cR hj (aX0 (lZ c (q4.kd.trans hk) (oy _ (aZ9 hj)) ox (by omega) (by omega) (sx.up _ _ (by omega)) fun k k1 k2 k3=>?_))))
 dsimp only
 have uy:=sy.up 0 _ (aW8 y.size)
 have mk:=m.xk k fun p t hp _ ht=>by
  have a1:=k2 p hp
  rw [m6,aY7] at a1
  have a2:=uy j (j+t) (by omega) (by omega) ht
  rw [cA hj] at a2
  omega
 have km:∀ t,i+k+t < x.size->rk y[j]<=Kr rk x (i+k+t):=fun t ht=>by
  have a1:=k3 (k+t) (by omega) (by omega)
  rw [m6,bh9,<- Nat.add_assoc] at a1
  omega
 by_cases hk0:k > 0
 ·rw [if_pos hk0]
  by_cases he:(i+k+1 == x.size)=true
  ·rw [if_pos he]
   exact aX9 ⟨q4,.inl ⟨_,_,_,_,_,_,_,rfl,mk.last x0 hl (by simpa using he)⟩⟩
  ·rw [if_neg he]
   have he:i+k+1 ≠ x.size:=by simpa using he
   by_cases hf:(i+k == x.size)=true
   ·rw [if_pos hf]
    have hf:i+k=x.size:=by simpa using hf
    exact aX9 ⟨q4,.inl ⟨_,_,_,_,_,_,_,rfl,mk.done (.inl (by omega))⟩⟩
   ·rw [if_neg hf]
    have hf:i+k ≠ x.size:=by simpa using hf
    exact G1 c hk ox oy sx sy x0 hl q4 mk (by omega) hj (by omega) km
 ·rw [if_neg hk0]
  have e0:k=0:=by omega
  subst e0
  exact G1 c hk ox oy sx sy x0 hl q4 m hi hj hb km
theorem av8 (c:cE prog w A E s κ Ok rk) {st0:SortSt} (hk:kindOf st0=κ) {x y o:Array Keyed}{mg p q lb:Nat} (ox:bM Ok x) (oy:bM Ok y) (sx:Sd rk x.toList) (sy:Sd rk y.toList) (x0:0 < x.size) (hl:∀ u ∈ y.toList,rk u<=rk x[x.size - 1]) (g:Gq st0 st) (m:MI rk x.toList y.toList o.toList i j) (hi:i+1 < x.size) (hj:j < y.size) (hb:lb<=i+j) :
  wpS (model prog w) A E s (uZ x y o i j mg p q) (GQ rk x y lb st0) st:=by
 unfold uZ
 refine be8 (I:=fun _=>GI rk x y lb st0) ?_ ?_ ⟨g,o,i,j,_,p,q,rfl,m,hi,hj,hb⟩
 ·rintro t c3 st3 _ _ ⟨q3,o,i,j,mg,p,q,rfl,m,hi,hj,pr3⟩
  dsimp only
  split
  ·exact bl9 (G2 c hk ox oy sx sy x0 hl q3 m hi hj pr3) fun r _ hr=>by cases r <;> exact hr
  ·exact bl9 (G2 c hk ox oy sx sy x0 hl q3 m hi hj pr3) fun r _ hr=>by cases r <;> exact hr
 ·rintro c3 st3 ⟨q3,o,i,j,mg,p,q,rfl,m,hi,hj,pr3⟩
  exact⟨q3,.inr ⟨_,_,_,_,_,_,rfl,m,hi,hj,pr3⟩⟩
theorem av9 (c:cE prog w A E s κ Ok rk) {st0:SortSt} (hk:kindOf st0=κ) {x y o:Array Keyed}{mg:Nat}{Q:uY->SortSt->Prop} (ox:bM Ok x) (oy:bM Ok y) (sx:Sd rk x.toList) (sy:Sd rk y.toList) (x0:0 < x.size) (hl:∀ u ∈ y.toList,rk u<=rk x[x.size - 1]) (g:Gq st0 st) (m:MI rk x.toList y.toList o.toList i j) (hi:i+1 < x.size) (hj:j < y.size)
  (h1:∀ r o' i' j' p q st',Gq st0 st'->dL rk x y r->Q (some r,o',i',j',p,q) st')
  (h2:∀ o' i' j' p q st',Gq st0 st'->MI rk x.toList y.toList o'.toList i' j'->i'+1 < x.size->j' < y.size->i+j+1<=i'+j'->Q (none,o',i',j',p,q) st') :
  wpS (model prog w) A E s (v3 x y o i j mg) Q st:=by
 have ux:Up rk x 0 x.size:=sx.up 0 _ (aW8 _)
 have uy:Up rk y 0 y.size:=sy.up 0 _ (aW8 _)
 unfold v3
 refine be8 (I:=fun t c st'=>Gq st0 st'/\∃ o i' j' p q,c=(none,o,i',j',p,q)/\MI rk x.toList y.toList o.toList i' j'/\i'+1 < x.size/\j' < y.size/\i+j+t<=i'+j') ?_ ?_ ⟨g,o,i,j,0,0,rfl,m,hi,hj,by omega⟩
 ·rintro t c2 st2 _ ht ⟨q2,o,i',j',p,q,rfl,m,hi,hj,pr2⟩
  dsimp only
  have hi':i' < x.size:=by omega
  refine aX0 (cR hj (aX0 (cR hi' (aX0 (c _ _ (oy _ (aZ9 hj)) (ox _ (aZ9 hi')) st2 _ (q2.kd.trans hk) ?_)))))
  by_cases hc:rk y[j'] < rk x[i']
  ·rw [aX3 hc]
   dsimp only
   rw [if_pos rfl]
   have m':=m.y1 hj fun t ht=>by
    have:=ux i' (i'+t) (by omega) (by omega) ht
    rw [cA hi'] at this
    omega
   refine aX0 (cR hj ?_)
   by_cases he:(j'+1 == y.size)=true
   ·rw [if_pos he]
    have he:j'+1=y.size:=by simpa using he
    exact aX9 (h1 _ _ _ _ _ _ _ q2 (m'.done (.inr (by omega))))
   ·rw [if_neg he]
    have he:j'+1 ≠ y.size:=by simpa using he
    split
    ·exact aX9 (h2 _ _ _ _ _ _ q2 m' hi (by omega) (by omega))
    ·exact aX9 ⟨q2,_,_,_,_,_,rfl,m',hi,by omega,by omega⟩
  ·rw [aW4 hc]
   dsimp only
   rw [if_neg aY3]
   have m':=m.x1 hi' fun t ht=>by
    have:=uy j' (j'+t) (by omega) (by omega) ht
    rw [cA hj] at this
    omega
   refine aX0 (cR hi' ?_)
   by_cases he:(i'+1+1 == x.size)=true
   ·rw [if_pos he]
    exact aX9 (h1 _ _ _ _ _ _ _ q2 (m'.last x0 hl (by simpa using he)))
   ·rw [if_neg he]
    have he:i'+1+1 ≠ x.size:=by simpa using he
    split
    ·exact aX9 (h2 _ _ _ _ _ _ q2 m' (by omega) hj (by omega))
    ·exact aX9 ⟨q2,_,_,_,_,_,rfl,m',by omega,hj,by omega⟩
 ·rintro c2 st2 ⟨q2,o,i',j',p,q,rfl,m,hi,hj,pr2⟩
  exact h2 _ _ _ _ _ _ q2 m hi hj (by omega)
theorem aw0 (c:cE prog w A E s κ Ok rk) (hk:kindOf st=κ) {x y:Array Keyed}{Q:Array Keyed->SortSt->Prop} (ox:bM Ok x) (oy:bM Ok y) (sx:Sd rk x.toList) (sy:Sd rk y.toList) (x0:0 < x.size) (y0:0 < y.size)
  (hf:∀ t ∈ x.toList,rk y[0]<=rk t) (hl:∀ u ∈ y.toList,rk u<=rk x[x.size - 1])
  (h:∀ r st',Gq st st'->dL rk x y r->Q r st'):wpS (model prog w) A E s (uX x y) Q st:=by
 rw [av7]
 refine aX0 (wpS_lift (bj8 ⟨rfl,aX0 (cR y0 ?_)⟩))
 have m0:MI rk x.toList y.toList (#[y[0]]:Array Keyed).toList 0 1:=by
  have mm:MI rk x.toList y.toList [] 0 0:=⟨by simp,sx,sy⟩
  have:=mm.ofy 1 fun u hu t ht=>?_
  ·rw [<- kN y0] at this; exact this
  ·rw [<- kN y0,aX6] at hu
   subst hu
   exact hf t ht
 by_cases e1:(1 == y.size)=true
 ·rw [if_pos e1]
  have e1:1=y.size:=by simpa using e1
  exact aX9 (h _ st (Gq.refl st) (m0.done (.inr (by omega))))
 ·rw [if_neg e1]
  have e1:1 ≠ y.size:=by simpa using e1
  by_cases e2:(0+1 == x.size)=true
  ·rw [if_pos e2]
   exact aX9 (h _ st (Gq.refl st) (m0.last x0 hl (by simpa using e2)))
  ·rw [if_neg e2]
   have e2:0+1 ≠ x.size:=by simpa using e2
   refine aX0 (wpS_get ?_)
   unfold F7
   refine aX0 (bl9 (be8
    (I:=fun n c st'=>Gq st st'/\∃ o i j mg,c=(none,o,i,j,mg)/\MI rk x.toList y.toList o.toList i j/\i+1 < x.size/\j < y.size/\n+1<=i+j)
    (Q:=fun c st'=>Gq st st'/\∃ r o i j mg,c=(some r,o,i,j,mg)/\dL rk x y r) ?_ ?_ ⟨Gq.refl st,_,0,1,_,rfl,m0,by omega,by omega,by omega⟩) ?_)
   ·rintro n c1 st1 _ hn ⟨q1,o,i,j,mg,rfl,m,hi,hj,pr⟩
    dsimp only
    refine aX0 (av9 c hk ox oy sx sy x0 hl q1 m hi hj (fun r o' i' j' p q st' g md=>aX9 ⟨g,r,_,_,_,_,rfl,md⟩) fun o' i' j' p q st' g m' hi' hj' pr'=>?_)
    refine aX0 (wpS_lift (bj8 ⟨rfl,?_⟩))
    refine aX0 (bl9 (av8 c hk ox oy sx sy x0 hl g m' hi' hj' pr') ?_)
    rintro c3 st3 ⟨q3,⟨r,o,i3,j3,mg,p,q,rfl,md⟩ | ⟨o,i3,j3,mg,p,q,rfl,m,hi,hj,pr3⟩⟩
    ·exact aX9 ⟨q3,r,_,_,_,_,rfl,md⟩
    ·exact aX0 (qM q3 fun st4 q4=>aX9 ⟨q4,o,i3,j3,_,rfl,m,hi,hj,by omega⟩)
   ·rintro c1 st1 ⟨q1,o,i,j,mg,rfl,m,hi,hj,pr⟩
    exact absurd pr (by omega)
   ·rintro c1 st1 ⟨q1,r,o,i,j,mg,rfl,md⟩
    exact aX9 (h r _ q1 md)
end
def v4:Array Keyed->Array Keyed->StateT SortSt Sem (Array Keyed):=sortPriv% PySem.Builtin.mergeHi
abbrev LH:=Option (Array Keyed) × Nat × Nat × Array Keyed × Nat × Nat × Nat
abbrev v7:=Option (Array Keyed) × Nat × Nat × Array Keyed × Nat × Nat
abbrev LP:=Option (Array Keyed) × Nat × Nat × Array Keyed × Nat
def qN (x y o:Array Keyed) (i j mg p q:Nat):StateT SortSt Sem (ForInStep LH):=do
 let v <- elem' x (i - 1)
 if (i - 1 == 0)=true then pure (.done (some (x.extract 0 (i - 1) ++ y.extract 0 j ++ (o.push v).reverse),i - 1,j,o.push v,mg,p,q))
 else if (decide (p < 7) && decide (q < 7))=true then pure (.done (none,i - 1,j,o.push v,mg,p,q)) else pure (.yield (none,i - 1,j,o.push v,mg,p,q))
def qO (x y o:Array Keyed) (i j mg p q:Nat):StateT SortSt Sem (ForInStep LH):=do
 let v <- elem' y (j - 1)
 if (j - 1 == 1)=true then pure (.done (some (y.extract 0 (j - 1) ++ x.extract 0 i ++ (o.push v).reverse),i,j - 1,o.push v,mg,p,q)) else do
  let u <- elem' x (i - 1)
  match <- jZ true u y 0 (j - 1) (j - 1 - 1) with
  | some z=>
   if j - 1 - z > 0 then
    if (z == 1)=true then pure (.done (some (y.extract 0 z ++ x.extract 0 i ++ (o.push v ++ (y.extract z (j - 1)).reverse).reverse),i,z,o.push v ++ (y.extract z (j - 1)).reverse,mg,p,j - 1 - z))
    else if (z == 0)=true then pure (.done (some (x.extract 0 i ++ y.extract 0 z ++ (o.push v ++ (y.extract z (j - 1)).reverse).reverse),i,z,o.push v ++ (y.extract z (j - 1)).reverse,mg,p,j - 1 - z))
    else qN x y (o.push v ++ (y.extract z (j - 1)).reverse) i z mg p (j - 1 - z)
   else qN x y (o.push v) i (j - 1) mg p (j - 1 - z)
  | _=>pure (.done (some (x.extract 0 i ++ y.extract 0 (j - 1) ++ (o.push v).reverse),i,j - 1,o.push v,mg,p,q))
def qP (x y o:Array Keyed) (i j mg p q:Nat):StateT SortSt Sem (ForInStep LH):=do
 m5 mg
 let v <- elem' y (j - 1)
 match <- jZ false v x 0 i (i - 1) with
 | some z=>
  if i - z > 0 then
   if (z == 0)=true then pure (.done (some (x.extract 0 z ++ y.extract 0 j ++ (o ++ (x.extract z i).reverse).reverse),z,j,o ++ (x.extract z i).reverse,mg,i - z,q))
   else qO x y (o ++ (x.extract z i).reverse) z j mg (i - z) q
  else qO x y o i j mg (i - z) q
 | _=>pure (.done (some (x.extract 0 i ++ y.extract 0 j ++ o.reverse),i,j,o,mg,p,q))
def v8 (x y o:Array Keyed) (i j mg p q:Nat):StateT SortSt Sem LH:=forIn [0:x.size+y.size] ((none,i,j,o,mg,p,q):LH) fun _ r=>
 if r.2.2.2.2.1 > 1 then qP x y r.2.2.2.1 r.2.1 r.2.2.1 (r.2.2.2.2.1 - 1) r.2.2.2.2.2.1 r.2.2.2.2.2.2 else qP x y r.2.2.2.1 r.2.1 r.2.2.1 r.2.2.2.2.1 r.2.2.2.2.2.1 r.2.2.2.2.2.2
def v9 (x y o:Array Keyed) (i j mg:Nat):StateT SortSt Sem v7:=forIn [0:x.size+y.size] ((none,i,j,o,0,0):v7) fun _ r=>do
 let v <- elem' y (r.2.2.1 - 1)
 let u <- elem' x (r.2.1 - 1)
 match <- lt' v u with
 | some q=>
  if q=true then do
   let u <- elem' x (r.2.1 - 1)
   if (r.2.1 - 1 == 0)=true then pure (.done (some (x.extract 0 (r.2.1 - 1) ++ y.extract 0 r.2.2.1 ++ (r.2.2.2.1.push u).reverse),r.2.1 - 1,r.2.2.1,r.2.2.2.1.push u,r.2.2.2.2.1+1,0))
   else if r.2.2.2.2.1+1 >= mg then pure (.done (none,r.2.1 - 1,r.2.2.1,r.2.2.2.1.push u,r.2.2.2.2.1+1,0)) else pure (.yield (none,r.2.1 - 1,r.2.2.1,r.2.2.2.1.push u,r.2.2.2.2.1+1,0))
  else do
   let v <- elem' y (r.2.2.1 - 1)
   if (r.2.2.1 - 1 == 1)=true then pure (.done (some (y.extract 0 (r.2.2.1 - 1) ++ x.extract 0 r.2.1 ++ (r.2.2.2.1.push v).reverse),r.2.1,r.2.2.1 - 1,r.2.2.2.1.push v,0,r.2.2.2.2.2+1))
   else if r.2.2.2.2.2+1 >= mg then pure (.done (none,r.2.1,r.2.2.1 - 1,r.2.2.2.1.push v,0,r.2.2.2.2.2+1)) else pure (.yield (none,r.2.1,r.2.2.1 - 1,r.2.2.2.1.push v,0,r.2.2.2.2.2+1))
 | _=>pure (.done (some (x.extract 0 r.2.1 ++ y.extract 0 r.2.2.1 ++ r.2.2.2.1.reverse),r.2.1,r.2.2.1,r.2.2.2.1,r.2.2.2.2.1,r.2.2.2.2.2))
def G3 (x y o:Array Keyed) (i j mg:Nat):StateT SortSt Sem LP:=forIn [0:x.size+y.size] ((none,i,j,o,mg):LP) fun _ r=>do
 let u <- v9 x y r.2.2.2.1 r.2.1 r.2.2.1 r.2.2.2.2
 match u.1 with
 | some z=>pure (.done (some z,u.2.1,u.2.2.1,u.2.2.2.1,r.2.2.2.2))
 | none=>do
  liftM (rule "list.sort.gallop")
  let v <- v8 x y u.2.2.2.1 u.2.1 u.2.2.1 (r.2.2.2.2+1) u.2.2.2.2.1 u.2.2.2.2.2
  match v.1 with
  | some z=>pure (.done (some z,v.2.1,v.2.2.1,v.2.2.2.1,v.2.2.2.2.1))
  | none=>do
   m5 (v.2.2.2.2.1+1)
   pure (.yield (none,v.2.1,v.2.2.1,v.2.2.2.1,v.2.2.2.2.1+1))
theorem aw1 (x y:Array Keyed):v4 x y=(do
 liftM (rule "list.sort.merge-hi")
 let v <- elem' x (x.size - 1)
 if (x.size - 1 == 0)=true then pure (x.extract 0 (x.size - 1) ++ y.extract 0 y.size ++ (#[v]:Array Keyed).reverse)
 else if (y.size == 1)=true then pure (y.extract 0 y.size ++ x.extract 0 (x.size - 1) ++ (#[v]:Array Keyed).reverse)
 else do
  let z <- get
  let r <- G3 x y #[v] (x.size - 1) y.size (gallopOf z)
  match r.1 with
  | some z=>pure z
  | none=>unsupported "internal:list.sort.merge-bound"):=by kernel_rfl
structure MH (rk:Keyed->Int) (xs ys o:List Keyed) (i j:Nat):Prop where
 pm:o.Perm (xs.drop i ++ ys.drop j)
 sx:Sd rk (xs.take i ++ o)
 sy:Sd rk (ys.take j ++ o)
variable {rk : Keyed → Int} {xs ys o : List Keyed} {i j : Nat}
theorem Sd.insR {o a b d:List Keyed} (h1:Sd rk (a ++ o)) (h2:Sd rk ((d ++ b) ++ o)) (h:∀ t ∈ a,∀ u ∈ b,rk t<=rk u):Sd rk (a ++ (b ++ o)):=by
 unfold Sd at *
 obtain ⟨p1,p2,p3⟩:=aZ3.mp h1
 obtain ⟨q1,q2,q3⟩:=aZ3.mp h2
 obtain ⟨r1,r2,r3⟩:=aZ3.mp q1
 refine aZ3.mpr ⟨p1,aZ3.mpr ⟨r2,p2,fun u hu t ht=>q3 u (aZ4 _ hu) t ht⟩,fun u hu t ht=>?_⟩
 rcases bb6.mp ht with z | z
 ·exact h u hu t z
 ·exact p3 u hu t z
theorem qQ (l:List Keyed) {z j:Nat} (h:z<=j):l.take z ++ (l.take j).drop z=l.take j:=by
 have e:l.take z=(l.take j).take z:=by rw [List.take_take,Nat.min_eq_left h]
 rw [e]; exact aZ6 z _
theorem vA (l:List Keyed) {z j:Nat} (h:z<=j):(l.take j).drop z ++ l.drop j=l.drop z:=by
 rw [bm6,show l.drop j=(l.drop z).drop (j - z) by rw [List.drop_drop,Nat.add_sub_cancel' h]]
 exact aZ6 _ _
theorem MH.ofy (m:MH rk xs ys o i j) {z:Nat} (hz:z<=j) (h:∀ t ∈ xs.take i,∀ u ∈ (ys.take j).drop z,rk t<=rk u):MH rk xs ys ((ys.take j).drop z ++ o) i z:=by
 refine⟨?_,Sd.insR m.sx (d:=ys.take z) (by rw [qQ _ hz]; exact m.sy) h,by rw [<- aY2,qQ _ hz]; exact m.sy⟩
 rw [<- vA ys hz]
 refine (m.pm.append_left _).trans ?_
 rw [<- aY2,<- aY2]
 exact (bd6).append_right _
theorem MH.ofx (m:MH rk xs ys o i j) {z:Nat} (hz:z<=i) (h:∀ t ∈ ys.take j,∀ u ∈ (xs.take i).drop z,rk t<=rk u):MH rk xs ys ((xs.take i).drop z ++ o) z j:=by
 refine⟨?_,by rw [<- aY2,qQ _ hz]; exact m.sx,Sd.insR m.sy (d:=xs.take z) (by rw [qQ _ hz]; exact m.sx) h⟩
 rw [<- vA xs hz,aY2]
 exact m.pm.append_left _
theorem MH.fin (m:MH rk xs ys o i j) (h:i=0 ∨ j=0):(xs.take i ++ ys.take j ++ o).Perm (xs ++ ys)/\Sd rk (xs.take i ++ ys.take j ++ o):=by
 refine⟨?_,?_⟩
 ·have e1:xs=xs.take i ++ xs.drop i:=(aZ6 i xs).symm
  have e2:ys=ys.take j ++ ys.drop j:=(aZ6 j ys).symm
  conv=>rhs; rw [e1,e2]
  rw [aY2,aY2]
  refine bk9 _ ((m.pm.append_left _).trans ?_)
  rw [<- aY2,<- aY2]
  exact (bd6).append_right _
 ·rcases h with h | h
  ·subst h; simpa using m.sy
  ·subst h; simpa using m.sx
theorem MH.fst (m:MH rk xs ys o i j) (h:∀ t ∈ ys.take j,∀ u ∈ xs,rk t<=rk u):(ys.take j ++ xs.take i ++ o).Perm (xs ++ ys)/\Sd rk (ys.take j ++ xs.take i ++ o):=by
 have m2:=m.ofx (bh0 i) fun t ht u hu=>h t ht u (bm0 (List.mem_of_mem_drop hu))
 have f:=m2.fin (.inl rfl)
 simpa using f
theorem nQ {x:Array Keyed}{i:Nat}{u:Keyed} (h:u ∈ x.toList.take i):∃ t,t < i/\t < x.size/\rk u=Kr rk x t:=by
 obtain ⟨t,ht,e⟩:=bd7 h
 have h1:t < i/\t < x.size:=by simp at ht; omega
 refine⟨t,h1.1,h1.2,?_⟩
 rw [cA h1.2,<- e]
 simp
theorem nR {x:Array Keyed}{z i:Nat}{u:Keyed} (h:u ∈ (x.toList.take i).drop z):∃ t,z<=t/\t < i/\t < x.size/\rk u=Kr rk x t:=by
 obtain ⟨t,ht,e⟩:=bd7 h
 have h1:z+t < i/\z+t < x.size:=by simp at ht; omega
 refine⟨z+t,by omega,h1.1,h1.2,?_⟩
 rw [cA h1.2,<- e]
 simp
theorem kO (x:Array Keyed) (z i:Nat):(x.extract z i).toList=(x.toList.take i).drop z:=by
 rw [bm6]; simp [List.extract]
theorem qR (x:Array Keyed) (i:Nat):(x.extract 0 i).toList=x.toList.take i:=by
 simp [List.extract]
theorem nT {x:Array Keyed}{i:Nat} (h:i < x.size) : [x[i]]=(x.toList.take (i+1)).drop i:=by
 rw [bm6,kN h,show i+1 - i=1 by omega]
section
variable {κ : SortKind} {st : SortSt} {prog : Program} {w : World} {A : Around} {E : Value → Shared → Prop} {s : Shared} {Ok : Keyed → Prop}
theorem MH.y1 {x y o:Array Keyed} (m:MH rk x.toList y.toList o.toList.reverse i (j+1)) (hj:j < y.size) (h:∀ t,t < i->t < x.size->Kr rk x t<=rk y[j]):MH rk x.toList y.toList (o.push y[j]).toList.reverse i j:=by
 have:=m.ofy (Nat.le_succ j) fun t ht u hu=>?_
 ·rw [<- nT hj] at this; simpa using this
 ·rw [<- nT hj,aX6] at hu
  subst hu
  obtain ⟨q,q1,q2,q3⟩:=nQ (rk:=rk) ht
  rw [q3]; exact h q q1 q2
theorem MH.x1 {x y o:Array Keyed} (m:MH rk x.toList y.toList o.toList.reverse (i+1) j) (hi:i < x.size) (h:∀ t,t < j->t < y.size->Kr rk y t<=rk x[i]):MH rk x.toList y.toList (o.push x[i]).toList.reverse i j:=by
 have:=m.ofx (Nat.le_succ i) fun t ht u hu=>?_
 ·rw [<- nT hi] at this; simpa using this
 ·rw [<- nT hi,aX6] at hu
  subst hu
  obtain ⟨q,q1,q2,q3⟩:=nQ (rk:=rk) ht
  rw [q3]; exact h q q1 q2
theorem MH.yk {x y o:Array Keyed} (m:MH rk x.toList y.toList o.toList.reverse i j) {z:Nat} (hz:z<=j) (h:∀ t p,t < i->t < x.size->z<=p->p < j->p < y.size->Kr rk x t<=Kr rk y p):MH rk x.toList y.toList (o ++ (y.extract z j).reverse).toList.reverse i z:=by
 have:=m.ofy hz fun t ht u hu=>?_
 ·rw [<- kO] at this; simpa using this
 ·obtain ⟨q,q1,q2,q3⟩:=nQ (rk:=rk) ht
  obtain ⟨p,p1,p2,p3,p4⟩:=nR (rk:=rk) hu
  rw [q3,p4]; exact h q p q1 q2 p1 p2 p3
theorem MH.xk {x y o:Array Keyed} (m:MH rk x.toList y.toList o.toList.reverse i j) {z:Nat} (hz:z<=i) (h:∀ t p,t < j->t < y.size->z<=p->p < i->p < x.size->Kr rk y t<=Kr rk x p):MH rk x.toList y.toList (o ++ (x.extract z i).reverse).toList.reverse z j:=by
 have:=m.ofx hz fun t ht u hu=>?_
 ·rw [<- kO] at this; simpa using this
 ·obtain ⟨q,q1,q2,q3⟩:=nQ (rk:=rk) ht
  obtain ⟨p,p1,p2,p3,p4⟩:=nR (rk:=rk) hu
  rw [q3,p4]; exact h q p q1 q2 p1 p2 p3
theorem MH.done {x y o:Array Keyed} (m:MH rk x.toList y.toList o.toList.reverse i j) (hh:i=0 ∨ j=0):dL rk x y (x.extract 0 i ++ y.extract 0 j ++ o.reverse):=by
 unfold dL
 rw [bd8,bd8,qR,qR,Array.toList_reverse]
 exact m.fin hh
theorem MH.frst {x y o:Array Keyed} (m:MH rk x.toList y.toList o.toList.reverse i j) (y0:0 < y.size) (hf:∀ t ∈ x.toList,rk y[0]<=rk t) (hh:j=1):dL rk x y (y.extract 0 j ++ x.extract 0 i ++ o.reverse):=by
 unfold dL
 rw [bd8,bd8,qR,qR,Array.toList_reverse]
 refine m.fst fun t ht u hu=>?_
 subst hh
 obtain ⟨q,q1,q2,q3⟩:=nQ (rk:=rk) ht
 have e:q=0:=by omega
 subst e
 rw [q3,cA y0]
 exact hf u hu
structure HB (rk:Keyed->Int) (x y:Array Keyed) (lb i j:Nat) (o:Array Keyed):Prop where
 m:MH rk x.toList y.toList o.toList.reverse i j
 i0:0 < i
 i1:i < x.size
 j0:1 < j
 j1:j<=y.size
 pr:i+j+lb<=x.size+y.size
def HI (rk:Keyed->Int) (x y:Array Keyed) (lb:Nat) (st:SortSt) (c:LH) (st':SortSt):Prop:=Gq st st'/\∃ i j o mg p q,c=(none,i,j,o,mg,p,q)/\HB rk x y lb i j o
def HQ (rk:Keyed->Int) (x y:Array Keyed) (lb:Nat) (st:SortSt) (c:LH) (st':SortSt):Prop:=Gq st st'/\((∃ r i j o mg p q,c=(some r,i,j,o,mg,p,q)/\dL rk x y r) ∨ ∃ i j o mg p q,c=(none,i,j,o,mg,p,q)/\HB rk x y lb i j o)
def HR (rk:Keyed->Int) (x y:Array Keyed) (lb:Nat) (st:SortSt) (r:ForInStep LH) (st':SortSt):Prop:=match r with | .done c=>HQ rk x y lb st c st' | .yield c=>HI rk x y lb st c st'
theorem G4 {st0:SortSt}{x y o:Array Keyed}{i j mg p q lb:Nat} (g:Gq st0 st) (b:HB rk x y lb (i+1) j o) (hm:∀ (hi:i < x.size) t,t < j->t < y.size->Kr rk y t<=rk x[i]):wpS (model prog w) A E s (qN x y o (i+1) j mg p q) (HR rk x y lb st0) st:=by
 unfold qN
 obtain ⟨m,i0,i1,j0,j1,pr⟩:=b
 have hi':i < x.size:=by omega
 have m':=m.x1 hi' (hm hi')
 simp only [Nat.add_sub_cancel]
 refine aX0 (cR hi' ?_)
 by_cases he:(i == 0)=true
 ·rw [if_pos he]
  have he:i=0:=by simpa using he
  exact aX9 ⟨g,.inl ⟨_,_,_,_,_,_,_,rfl,m'.done (.inl he)⟩⟩
 ·rw [if_neg he]
  have he:i ≠ 0:=by simpa using he
  split
  ·exact aX9 ⟨g,.inr ⟨_,_,_,_,_,_,rfl,m',by omega,by omega,j0,j1,by omega⟩⟩
  ·exact aX9 ⟨g,_,_,_,_,_,_,rfl,m',by omega,by omega,j0,j1,by omega⟩
theorem G5 (c:cE prog w A E s κ Ok rk) {st0:SortSt} (hk:kindOf st0=κ) {x y o:Array Keyed}{i j mg p q lb:Nat} (ox:bM Ok x) (oy:bM Ok y) (sx:Sd rk x.toList) (sy:Sd rk y.toList) (y0:0 < y.size) (hf:∀ t ∈ x.toList,rk y[0]<=rk t) (g:Gq st0 st) (b:HB rk x y lb (i+1) (j+1) o)
  (hm:∀ (hj:j < y.size) t,t < i+1->t < x.size->Kr rk x t<=rk y[j]):wpS (model prog w) A E s (qO x y o (i+1) (j+1) mg p q) (HR rk x y lb st0) st:=by
 unfold qO
 obtain ⟨m,i0,i1,j0,j1,pr⟩:=b
 have hi':i < x.size:=by omega
 have hj:j < y.size:=by omega
 have m':=m.y1 hj (hm hj)
 simp only [Nat.add_sub_cancel]
 refine aX0 (cR hj ?_)
 by_cases he:(j == 1)=true
 ·rw [if_pos he]
  have he:j=1:=by simpa using he
  exact aX9 ⟨g,.inl ⟨_,_,_,_,_,_,_,rfl,m'.frst y0 hf he⟩⟩
 ·rw [if_neg he]
  have he:j ≠ 1:=by simpa using he
  refine aX0 (cR hi' (aX0 (lZ c (g.kd.trans hk) (ox _ (aZ9 hi')) oy (by omega) (by omega) (sy.up _ _ (by omega)) fun z k1 k2 k3=>?_)))
  dsimp only
  have ux:=sx.up 0 _ (aW8 x.size)
  have mk:=m'.yk k1 fun t p ht ht' hp hp' _=>by
   have a1:=k3 p hp hp'
   rw [m7,bh9,Nat.zero_add] at a1
   have a2:=ux t i (by omega) (by omega) hi'
   rw [cA (i:=i) hi'] at a2
   omega
  have km:∀ (hi:i < x.size) t,t < z->t < y.size->Kr rk y t<=rk x[i]:=fun _ t ht _=>by
   have a1:=k2 t ht
   rw [m7,aY7,Nat.zero_add] at a1
   omega
  by_cases hk0:j - z > 0
  ·rw [if_pos hk0]
   by_cases h1:(z == 1)=true
   ·rw [if_pos h1]
    have h1:z=1:=by simpa using h1
    exact aX9 ⟨g,.inl ⟨_,_,_,_,_,_,_,rfl,mk.frst y0 hf h1⟩⟩
   ·rw [if_neg h1]
    have h1:z ≠ 1:=by simpa using h1
    by_cases h0:(z == 0)=true
    ·rw [if_pos h0]
     have h0:z=0:=by simpa using h0
     exact aX9 ⟨g,.inl ⟨_,_,_,_,_,_,_,rfl,mk.done (.inr h0)⟩⟩
    ·rw [if_neg h0]
     have h0:z ≠ 0:=by simpa using h0
     exact G4 g ⟨mk,by omega,i1,by omega,by omega,by omega⟩ km
  ·rw [if_neg hk0]
   have e0:z=j:=by omega
   subst e0
   exact G4 g ⟨m',by omega,i1,by omega,by omega,by omega⟩ km
theorem G6 (c:cE prog w A E s κ Ok rk) {st0:SortSt} (hk:kindOf st0=κ) {x y o:Array Keyed}{i j mg p q lb:Nat} (ox:bM Ok x) (oy:bM Ok y) (sx:Sd rk x.toList) (sy:Sd rk y.toList) (y0:0 < y.size) (hf:∀ t ∈ x.toList,rk y[0]<=rk t) (g:Gq st0 st) (b:HB rk x y lb i (j+1) o) :
  wpS (model prog w) A E s (qP x y o i (j+1) mg p q) (HR rk x y lb st0) st:=by
 unfold qP
 obtain ⟨m,i0,i1,j0,j1,pr⟩:=b
 have hj:j < y.size:=by omega
 simp only [Nat.add_sub_cancel]
 refine aX0 (qM g fun st4 q4=>aX0 (cR hj (aX0 (lZ c (q4.kd.trans hk) (oy _ (aZ9 hj)) ox (by omega) (by omega) (sx.up _ _ (by omega)) fun z k1 k2 k3=>?_))))
 dsimp only
 have uy:=sy.up 0 _ (aW8 y.size)
 have mk:=m.xk k1 fun t p ht ht' hp hp' _=>by
  have a1:=k3 p hp hp'
  rw [m6,bh9,Nat.zero_add] at a1
  have a2:=uy t j (by omega) (by omega) hj
  rw [cA (i:=j) hj] at a2
  omega
 have km:∀ (hj:j < y.size) t,t < z->t < x.size->Kr rk x t<=rk y[j]:=fun _ t ht _=>by
  have a1:=k2 t ht
  rw [m6,aY7,Nat.zero_add] at a1
  exact a1
 by_cases hk0:i - z > 0
 ·rw [if_pos hk0]
  by_cases he:(z == 0)=true
  ·rw [if_pos he]
   exact aX9 ⟨q4,.inl ⟨_,_,_,_,_,_,_,rfl,mk.done (.inl (by simpa using he))⟩⟩
  ·rw [if_neg he]
   have he:z ≠ 0:=by simpa using he
   obtain ⟨z2,rfl⟩:∃ z2,z=z2+1:=⟨z - 1,by omega⟩
   exact G5 c hk ox oy sx sy y0 hf q4 ⟨mk,by omega,by omega,j0,j1,by omega⟩ km
 ·rw [if_neg hk0]
  have e0:z=i:=by omega
  subst e0
  obtain ⟨z2,rfl⟩:∃ z2,z=z2+1:=⟨z - 1,by omega⟩
  exact G5 c hk ox oy sx sy y0 hf q4 ⟨m,i0,i1,j0,j1,pr⟩ km
theorem aw2 (c:cE prog w A E s κ Ok rk) {st0:SortSt} (hk:kindOf st0=κ) {x y o:Array Keyed}{i j mg p q lb:Nat} (ox:bM Ok x) (oy:bM Ok y) (sx:Sd rk x.toList) (sy:Sd rk y.toList) (y0:0 < y.size) (hf:∀ t ∈ x.toList,rk y[0]<=rk t) (g:Gq st0 st) (b:HB rk x y lb i j o) :
  wpS (model prog w) A E s (v8 x y o i j mg p q) (HQ rk x y lb st0) st:=by
 unfold v8
 refine be8 (I:=fun _=>HI rk x y lb st0) ?_ ?_ ⟨g,i,j,o,_,p,q,rfl,b⟩
 ·rintro t c3 st3 _ _ ⟨q3,i,j,o,mg,p,q,rfl,b3⟩
  obtain ⟨j3,rfl⟩:∃ j3,j=j3+1:=⟨j - 1,by have:=b3.j0; omega⟩
  dsimp only
  split
  ·exact bl9 (G6 c hk ox oy sx sy y0 hf q3 b3) fun r _ hr=>by cases r <;> exact hr
  ·exact bl9 (G6 c hk ox oy sx sy y0 hf q3 b3) fun r _ hr=>by cases r <;> exact hr
 ·rintro c3 st3 ⟨q3,i,j,o,mg,p,q,rfl,b3⟩
  exact⟨q3,.inr ⟨_,_,_,_,_,_,rfl,b3⟩⟩
theorem aw3 (c:cE prog w A E s κ Ok rk) {st0:SortSt} (hk:kindOf st0=κ) {x y o:Array Keyed}{i j mg n:Nat}{Q:v7->SortSt->Prop} (ox:bM Ok x) (oy:bM Ok y) (sx:Sd rk x.toList) (sy:Sd rk y.toList) (y0:0 < y.size) (hf:∀ t ∈ x.toList,rk y[0]<=rk t) (g:Gq st0 st) (b:HB rk x y n i j o)
  (h1:∀ r i' j' o' p q st',Gq st0 st'->dL rk x y r->Q (some r,i',j',o',p,q) st') (h2:∀ i' j' o' p q st',Gq st0 st'->HB rk x y (n+1) i' j' o'->Q (none,i',j',o',p,q) st') :
  wpS (model prog w) A E s (v9 x y o i j mg) Q st:=by
 have ux:Up rk x 0 x.size:=sx.up 0 _ (aW8 _)
 have uy:Up rk y 0 y.size:=sy.up 0 _ (aW8 _)
 unfold v9
 refine be8 (I:=fun t c st'=>Gq st0 st'/\∃ i j o p q,c=(none,i,j,o,p,q)/\HB rk x y (n+t) i j o) ?_ ?_ ⟨g,i,j,o,0,0,rfl,b⟩
 ·rintro t c2 st2 _ ht ⟨q2,i',j',o,p,q,rfl,m,i0,i1,j0,j1,pr⟩
  obtain ⟨i2,rfl⟩:∃ i2,i'=i2+1:=⟨i' - 1,by omega⟩
  obtain ⟨j2,rfl⟩:∃ j2,j'=j2+1:=⟨j' - 1,by omega⟩
  simp only [Nat.add_sub_cancel]
  have hi:i2 < x.size:=by omega
  have hj:j2 < y.size:=by omega
  refine aX0 (cR hj (aX0 (cR hi (aX0 (c _ _ (oy _ (aZ9 hj)) (ox _ (aZ9 hi)) st2 _ (q2.kd.trans hk) ?_)))))
  by_cases hc:rk y[j2] < rk x[i2]
  ·rw [aX3 hc]
   dsimp only
   rw [if_pos rfl]
   have m':=m.x1 hi fun t ht _=>by
    have:=uy t j2 (by omega) (by omega) hj
    rw [cA hj] at this
    omega
   refine aX0 (cR hi ?_)
   by_cases he:(i2 == 0)=true
   ·rw [if_pos he]
    exact aX9 (h1 _ _ _ _ _ _ _ q2 (m'.done (.inl (by simpa using he))))
   ·rw [if_neg he]
    have he:i2 ≠ 0:=by simpa using he
    split
    ·exact aX9 (h2 _ _ _ _ _ _ q2 ⟨m',by omega,by omega,j0,j1,by omega⟩)
    ·exact aX9 ⟨q2,_,_,_,_,_,rfl,m',by omega,by omega,j0,j1,by omega⟩
  ·rw [aW4 hc]
   dsimp only
   rw [if_neg aY3]
   have m':=m.y1 hj fun t ht _=>by
    have:=ux t i2 (by omega) (by omega) hi
    rw [cA hi] at this
    omega
   refine aX0 (cR hj ?_)
   by_cases he:(j2 == 1)=true
   ·rw [if_pos he]
    exact aX9 (h1 _ _ _ _ _ _ _ q2 (m'.frst y0 hf (by simpa using he)))
   ·rw [if_neg he]
    have he:j2 ≠ 1:=by simpa using he
    split
    ·exact aX9 (h2 _ _ _ _ _ _ q2 ⟨m',i0,i1,by omega,by omega,by omega⟩)
    ·exact aX9 ⟨q2,_,_,_,_,_,rfl,m',i0,i1,by omega,by omega,by omega⟩
 ·rintro c2 st2 ⟨q2,i',j',o,p,q,rfl,m,i0,i1,j0,j1,pr⟩
  exact h2 _ _ _ _ _ _ q2 ⟨m,i0,i1,j0,j1,by omega⟩
theorem aw4 (c:cE prog w A E s κ Ok rk) (hk:kindOf st=κ) {x y:Array Keyed}{Q:Array Keyed->SortSt->Prop} (ox:bM Ok x) (oy:bM Ok y) (sx:Sd rk x.toList) (sy:Sd rk y.toList) (x0:0 < x.size) (y0:0 < y.size)
  (hf:∀ t ∈ x.toList,rk y[0]<=rk t) (hl:∀ u ∈ y.toList,rk u<=rk x[x.size - 1])
  (h:∀ r st',Gq st st'->dL rk x y r->Q r st'):wpS (model prog w) A E s (v4 x y) Q st:=by
 rw [aw1]
 refine aX0 (wpS_lift (bj8 ⟨rfl,aX0 (cR (by omega:x.size - 1 < x.size) ?_)⟩))
 have m0:MH rk x.toList y.toList (#[x[x.size - 1]]:Array Keyed).toList.reverse (x.size - 1) y.size:=by
  have mm:MH rk x.toList y.toList [] x.size y.size:=⟨by simp,by rw [bg5 (by simp),bf1]; exact sx,by rw [bg5 (by simp),bf1]; exact sy⟩
  have e:=nT (x:=x) (i:=x.size - 1) (by omega)
  rw [show x.size - 1+1=x.size by omega] at e
  have:=mm.ofx (Nat.sub_le x.size 1) fun t ht u hu=>?_
  ·rw [<- e] at this; simpa using this
  ·rw [<- e,aX6] at hu
   subst hu
   exact hl t (bm0 ht)
 by_cases e1:(x.size - 1 == 0)=true
 ·rw [if_pos e1]
  exact aX9 (h _ st (Gq.refl st) (m0.done (.inl (by simpa using e1))))
 ·rw [if_neg e1]
  have e1:x.size - 1 ≠ 0:=by simpa using e1
  by_cases e2:(y.size == 1)=true
  ·rw [if_pos e2]
   exact aX9 (h _ st (Gq.refl st) (m0.frst y0 hf (by simpa using e2)))
  ·rw [if_neg e2]
   have e2:y.size ≠ 1:=by simpa using e2
   refine aX0 (wpS_get ?_)
   unfold G3
   refine aX0 (bl9 (be8
    (I:=fun n c st'=>Gq st st'/\∃ i j o mg,c=(none,i,j,o,mg)/\HB rk x y (n+1) i j o)
    (Q:=fun c st'=>Gq st st'/\∃ r i j o mg,c=(some r,i,j,o,mg)/\dL rk x y r) ?_ ?_ ⟨Gq.refl st,_,_,_,_,rfl,m0,by omega,by omega,by omega,by omega,by omega⟩) ?_)
   ·rintro n c1 st1 _ hn ⟨q1,i,j,o,mg,rfl,b⟩
    dsimp only
    refine aX0 (aw3 c hk ox oy sx sy y0 hf q1 b (fun r o' i' j' p q st' g md=>aX9 ⟨g,r,_,_,_,_,rfl,md⟩) fun i' j' o' p q st' g b'=>?_)
    refine aX0 (wpS_lift (bj8 ⟨rfl,?_⟩))
    refine aX0 (bl9 (aw2 c hk ox oy sx sy y0 hf g b') ?_)
    rintro c3 st3 ⟨q3,⟨r,i3,j3,o,mg,p,q,rfl,md⟩ | ⟨i3,j3,o,mg,p,q,rfl,b3⟩⟩
    ·exact aX9 ⟨q3,r,_,_,_,_,rfl,md⟩
    ·exact aX0 (qM q3 fun st4 q4=>aX9 ⟨q4,i3,j3,o,_,rfl,b3⟩)
   ·rintro c1 st1 ⟨q1,i,j,o,mg,rfl,b⟩
    have:=b.pr
    exact absurd this (by omega)
   ·rintro c1 st1 ⟨q1,r,i,j,o,mg,rfl,md⟩
    exact aX9 (h r _ q1 md)
end
theorem aw5 (i:Nat):mergeAt' i=(do
 let z <- get
 let (some (sa,na,pw),some (sb,nb,_)):=((pendingOf z)[i]?,(pendingOf z)[i+1]?) | unsupported "internal:list.sort.pending"
 set (SortSt.mk' (kindOf z) (arrOf z) (((pendingOf z).setIfInBounds i (sa,na+nb,pw)).eraseIdxIfInBounds (i+1)) (gallopOf z) (failedOf z))
 let some k <- jZ false (<- elem' (arrOf z) sb) (arrOf z) sa na 0 | return false
 let (sa,na):=(sa+k,na - k)
 if na == 0 then return true
 let some nb <- jZ true (<- elem' (arrOf z) (sa+na - 1)) (arrOf z) sb nb (nb - 1) | return false
 if nb == 0 then return true
 let x:=(arrOf z).extract sa sb
 let y:=(arrOf z).extract sb (sb+nb)
 let m <- if na<=nb then uX x y else v4 x y
 modify fun z=>setArr z (m.toList.zipIdx.foldl (fun a (p,j)=>a.setIfInBounds (sa+j) p) (arrOf z))
 return (failedOf (<- get)).isNone):=rfl
variable {rk : Keyed → Int}
theorem aw6 {σ:Type}{M:Model}{A:Around}{E:Value->Shared->Prop}{s:Shared}{a b:σ}{Q:PUnit->σ->Prop} (h:Q ⟨⟩ a):wpS M A E s (set a:StateT σ Sem PUnit) Q b:=by
 unfold wpS; rw [StateT.run_set]; exact aW2 ⟨rfl,h⟩
theorem G7 (o:Nat):∀ (m:List Keyed) (n:Nat) (a:Array Keyed) (t:Nat),o+n+m.length<=a.size->
  ((m.zipIdx n).foldl (fun a (p,j)=>a.setIfInBounds (o+j) p) a)[t]? = if o+n<=t/\t < o+n+m.length then m[t - (o+n)]? else a[t]?
 | [],n,a,t,_=>by
  show a[t]? = _
  rw [if_neg (fun z=>Nat.not_lt_of_ge z.1 z.2)]
 | p :: m,n,a,t,h=>by
  rw [List.zipIdx_cons,List.foldl_cons]
  have h':o+(n+1)+m.length<=(a.setIfInBounds (o+n) p).size:=by rw [Array.size_setIfInBounds]; simp at h; omega
  have ih:=G7 o m (n+1) (a.setIfInBounds (o+n) p) t h'
  refine ih.trans ?_
  have hs:o+n < a.size:=by simp at h; omega
  rw [Array.getElem?_setIfInBounds]
  by_cases e:o+n=t
  ·subst e
   rw [if_neg (by omega),if_pos rfl,if_pos hs,if_pos (by simp),Nat.sub_self]; rfl
  ·rw [if_neg e]
   by_cases c:o+n<=t/\t < o+n+(p :: m).length
   ·rw [if_pos c,if_pos (by simp at c; omega)]
    rw [show t - (o+n)=(t - (o+(n+1)))+1 by omega]; rfl
   ·rw [if_neg c,if_neg (by simp at c ⊢; omega)]
theorem G8 {a:Array Keyed}{lo hi:Nat} (u:Up rk a lo hi) (hh:hi<=a.size):Sd rk (a.extract lo hi).toList:=by
 unfold Sd
 rw [ba0]
 intro i j hi' hj hij
 have h2:lo+j < hi:=by simp at hj; omega
 have:=u (lo+i) (lo+j) (by omega) (by omega) h2
 rw [cA (by omega:lo+i < a.size),cA (by omega:lo+j < a.size)] at this
 simpa using this
theorem G9 {a:Array Keyed}{lo mid hi:Nat} (u:Up rk a lo mid) (v:Up rk a mid hi) (h0:lo < mid) (h1:mid < hi) (h:Kr rk a (mid - 1)<=Kr rk a mid):Up rk a lo hi:=fun i j hi' hij hj=>by
 rcases ba5 j mid with z | z
 ·exact u i j hi' hij z
 ·rcases ba5 i mid with y | y
  ·have a1:=u i (mid - 1) hi' (by omega) (by omega)
   have a2:=v mid j (aW8 _) z hj
   omega
  ·exact v i j y hij hj
theorem J0 {a:Array Keyed}{lo hi t:Nat} (h:t < hi - lo) (hh:hi<=a.size):Kr rk (a.extract lo hi) t=Kr rk a (lo+t):=by
 refine kK ?_
 rw [Array.getElem?_extract_of_lt (by omega)]
 exact (getElem?_pos a (lo+t) (by omega)).symm
section
variable {κ : SortKind} {a0 : Array Keyed} {pd : Array (Nat × Nat × Nat)} {st : SortSt} {prog : Program} {w : World} {A : Around} {E : Value → Shared → Prop} {s : Shared} {Ok : Keyed → Prop}
theorem aw7 {a m:Array Keyed}{p x e:Nat} (hpx:p<=x) (hxe:x<=e) (he:e<=a.size) (md:dL rk (a.extract p x) (a.extract x e) m) :
  let r:=m.toList.zipIdx.foldl (fun a (q,j)=>a.setIfInBounds (p+j) q) a
  r.Perm a/\(∀ t,(t < p ∨ e<=t)->Kr rk r t=Kr rk a t)/\(∀ t t',p<=t->t<=t'->t' < e->Kr rk r t<=Kr rk r t')/\∀ t,p<=t->t < e->∃ t',p<=t'/\t' < e/\Kr rk r t=Kr rk a t':=by
 intro r
 have ml:m.toList.length=e - p:=by
  rw [md.1.length_eq]; simp; omega
 have g:∀ t,r[t]? = if p<=t/\t < e then m[t - p]? else a[t]?:=fun t=>by
  have:=G7 p m.toList 0 a t (by omega)
  rw [show r=(m.toList.zipIdx 0).foldl (fun a (q,j)=>a.setIfInBounds (p+j) q) a from rfl,this]
  simp only [Nat.add_zero,ml,show p+(e - p)=e by omega,bh2]
 have ex:(a.extract p x).toList ++ (a.extract x e).toList=(a.toList.take e).drop p:=by
  rw [kO,kO,bm6,bm6,bm6]
  rw [show x=p+(x - p) by omega,<- List.drop_drop,show p+(x - p) - p=x - p by omega,show e - (p+(x - p))=(e - p) - (x - p) by omega]
  have:=aZ6 (x - p) ((a.toList.drop p).take (e - p))
  rw [List.take_take,bm6,Nat.min_eq_left (by omega)] at this
  exact this
 have rl:r.toList=a.toList.take p ++ (m.toList ++ a.toList.drop e):=by
  apply List.ext_getElem?
  intro t
  rw [bh2,g]
  rcases ba5 t p with z | z
  ·rw [if_neg (by omega),bi7 (by simp; omega),List.getElem?_take_of_lt z,bh2]
  ·rw [bk4 (by simp; omega)]
   have lp:(a.toList.take p).length=p:=by simp; omega
   rw [lp]
   rcases ba5 t e with y | y
   ·rw [if_pos ⟨z,y⟩,bi7 (by omega),bh2]
   ·rw [if_neg (by omega),bk4 (by omega),ml,List.getElem?_drop,bh2]
    congr 1; omega
 have mp:m.toList.Perm ((a.toList.take e).drop p):=ex ▸ md.1
 refine⟨?_,fun t ht=>kK (by rw [g,if_neg (by omega)]),fun t t' h1 h2 h3=>?_,fun t h1 h2=>?_⟩
 ·refine Array.perm_iff_toList_perm.mpr ?_
  rw [rl]
  have:a.toList=a.toList.take p ++ ((a.toList.take e).drop p ++ a.toList.drop e):=by
   rw [vA _ (by omega:p<=e)]; exact (aZ6 p _).symm
  conv=>rhs; rw [this]
  exact (mp.append_right _).append_left _
 ·have e1:Kr rk r t=Kr rk m (t - p):=kK (by rw [g,if_pos (by omega)])
  have e2:Kr rk r t'=Kr rk m (t' - p):=kK (by rw [g,if_pos (by omega)])
  rw [e1,e2]
  have ms:m.size=e - p:=by rw [<- ml]; simp
  exact md.2.up 0 m.size (aW8 _) (t - p) (t' - p) (by omega) (by omega) (by omega)
 ·have e1:Kr rk r t=Kr rk m (t - p):=kK (by rw [g,if_pos (by omega)])
  have ms:m.size=e - p:=by rw [<- ml]; simp
  have hm:t - p < m.size:=by omega
  have mm:m[t - p] ∈ (a.toList.take e).drop p:=mp.mem_iff.mp (by simp)
  obtain ⟨t',q1,q2,q3,q4⟩:=nR (rk:=rk) mm
  exact⟨t',q1,q2,by rw [e1,cA hm]; exact q4⟩
theorem aw8 (c:cE prog w A E s κ Ok rk) (o:bM Ok a0) (b:SB κ a0 pd st) {i sa na pw sb nb pw':Nat}{Q:Bool->SortSt->Prop} (e1:pd[i]? = some (sa,na,pw)) (e2:pd[i+1]? = some (sb,nb,pw')) (hs:sb=sa+na) (n0:0 < na) (m0:0 < nb) (hz:sb+nb<=a0.size)
  (u:Up rk (arrOf st) sa sb) (v:Up rk (arrOf st) sb (sb+nb))
  (h:∀ st',SB κ a0 ((pd.setIfInBounds i (sa,na+nb,pw)).eraseIdxIfInBounds (i+1)) st'->Up rk (arrOf st') sa (sb+nb)->(∀ t,(t < sa ∨ sb+nb<=t)->Kr rk (arrOf st') t=Kr rk (arrOf st) t)->Q true st'):wpS (model prog w) A E s (mergeAt' i) Q st:=by
 have sz:=b.sz
 rw [aw5]
 refine aX0 (wpS_get ?_)
 rw [b.pd,e1,e2]
 dsimp only
 refine aX0 (aw6 ?_)
 generalize hst:SortSt.mk' (kindOf st) (arrOf st) ((pd.setIfInBounds i (sa,na+nb,pw)).eraseIdxIfInBounds (i+1)) (gallopOf st) (failedOf st)=st1
 have b1:SB κ a0 ((pd.setIfInBounds i (sa,na+nb,pw)).eraseIdxIfInBounds (i+1)) st1:=by rw [<- hst]; exact⟨b.pm,b.kd,b.ok,rfl⟩
 have ar:arrOf st1=arrOf st:=by rw [<- hst]
 have oa:=b.all o
 have hsb:sb < (arrOf st).size:=by omega
 refine aX0 (cR hsb (aX0 (lZ c b1.kd (oa _ (aZ9 hsb)) oa n0 (by omega) (hs ▸ u) fun k k1 k2 k3=>?_)))
 dsimp only
 have k2':∀ t,sa<=t->t < sa+k->Kr rk (arrOf st) t<=Kr rk (arrOf st) sb:=fun t t1 t2=>by
  have:=k2 (t - sa) (by omega)
  rw [m6,aY7,show sa+(t - sa)=t by omega] at this
  rw [cA hsb]; exact this
 have k3':∀ t,sa+k<=t->t < sb->Kr rk (arrOf st) sb < Kr rk (arrOf st) t:=fun t t1 t2=>by
  have:=k3 (t - sa) (by omega) (by omega)
  rw [m6,bh9,show sa+(t - sa)=t by omega] at this
  rw [cA hsb]; omega
 by_cases ek:(na - k == 0)=true
 ·rw [if_pos ek]
  have ek:na - k=0:=by simpa using ek
  refine aX9 (h st1 b1 ?_ fun t _=>by rw [ar])
  rw [ar]
  exact G9 u v (by omega) (by omega) (k2' (sb - 1) (by omega) (by omega))
 ·rw [if_neg ek]
  have ek:na - k ≠ 0:=by simpa using ek
  have el:sa+k+(na - k) - 1=sb - 1:=by omega
  rw [el]
  have hsl:sb - 1 < (arrOf st).size:=by omega
  refine aX0 (cR hsl (aX0 (lZ c b1.kd (oa _ (aZ9 hsl)) oa (by omega) (by omega) v fun l l1 l2 l3=>?_)))
  dsimp only
  have l2':∀ t,sb<=t->t < sb+l->Kr rk (arrOf st) t < Kr rk (arrOf st) (sb - 1):=fun t t1 t2=>by
   have:=l2 (t - sb) (by omega)
   rw [m7,aY7,show sb+(t - sb)=t by omega] at this
   rw [cA hsl]; exact this
  have l3':∀ t,sb+l<=t->t < sb+nb->Kr rk (arrOf st) (sb - 1)<=Kr rk (arrOf st) t:=fun t t1 t2=>by
   have:=l3 (t - sb) (by omega) (by omega)
   rw [m7,bh9,show sb+(t - sb)=t by omega] at this
   rw [cA hsl]; omega
  by_cases en:(l == 0)=true
  ·rw [if_pos en]
   have en:l=0:=by simpa using en
   subst en
   refine aX9 (h st1 b1 ?_ fun t _=>by rw [ar])
   rw [ar]
   exact G9 u v (by omega) (by omega) (l3' sb (by omega) (by omega))
  ·rw [if_neg en]
   have en:l ≠ 0:=by simpa using en
   have sub:∀ p e,bM Ok ((arrOf st).extract p e):=fun p e z hz=>oa z (by
    have:z ∈ ((arrOf st).extract p e).toList:=Array.mem_toList_iff.mpr hz
    rw [kO] at this
    exact Array.mem_toList_iff.mp (bm0 (List.mem_of_mem_drop this)))
   have sx:Sd rk ((arrOf st).extract (sa+k) sb).toList:=G8 (fun i j h1 h2 h3=>u i j (by omega) h2 h3) (by omega)
   have sy:Sd rk ((arrOf st).extract sb (sb+l)).toList:=G8 (fun i j h1 h2 h3=>v i j h1 h2 (by omega)) (by omega)
   have x0:0 < ((arrOf st).extract (sa+k) sb).size:=by simp; omega
   have y0:0 < ((arrOf st).extract sb (sb+l)).size:=by simp; omega
   have hf:∀ t ∈ ((arrOf st).extract (sa+k) sb).toList,rk ((arrOf st).extract sb (sb+l))[0]<=rk t:=fun t ht=>by
    rw [kO] at ht
    obtain ⟨t',q1,q2,q3,q4⟩:=nR (rk:=rk) ht
    rw [q4,<- cA (rk:=rk) y0,J0 (by omega) (by omega)]
    exact Int.le_of_lt (k3' t' q1 q2)
   have hl:∀ t ∈ ((arrOf st).extract sb (sb+l)).toList,rk t<=rk ((arrOf st).extract (sa+k) sb)[((arrOf st).extract (sa+k) sb).size - 1]:=fun t ht=>by
    rw [kO] at ht
    obtain ⟨t',q1,q2,q3,q4⟩:=nR (rk:=rk) ht
    have e:((arrOf st).extract (sa+k) sb).size=sb - (sa+k):=by simp; omega
    rw [q4,<- cA (rk:=rk) (by omega),J0 (by omega) (by omega),e,show sa+k+(sb - (sa+k) - 1)=sb - 1 by omega]
    exact Int.le_of_lt (l2' t' q1 q2)
   have fin:∀ (m:Array Keyed) (st2:SortSt),Gq st1 st2->dL rk ((arrOf st).extract (sa+k) sb) ((arrOf st).extract sb (sb+l)) m->
     wpS (model prog w) A E s (do modify (fun z=>setArr z (m.toList.zipIdx.foldl (fun a (p,j)=>a.setIfInBounds (sa+k+j) p) (arrOf z))); return (failedOf (<- get)).isNone) Q st2:=fun m st2 g md=>by
    have b2:SB κ a0 ((pd.setIfInBounds i (sa,na+nb,pw)).eraseIdxIfInBounds (i+1)) st2:=⟨by rw [g.ar]; exact b1.pm,g.kd.trans b1.kd,g.ok.trans b1.ok,g.pd.trans b1.pd⟩
    have a2:arrOf st2=arrOf st:=g.ar.trans ar
    obtain ⟨r1,r2,r3,r4⟩:=aw7 (by omega) (by omega) (by omega) md
    generalize hr:m.toList.zipIdx.foldl (fun a (q,j)=>a.setIfInBounds (sa+k+j) q) (arrOf st)=r at r1 r2 r3 r4
    refine aX0 (wpS_modify (aX0 (wpS_get (aX9 ?_))))
    have b3:=b2.put (xs:=m.toList.zipIdx.foldl (fun a (q,j)=>a.setIfInBounds (sa+k+j) q) (arrOf st2)) (by rw [a2,hr]; exact r1)
    have er:arrOf (setArr st2 (m.toList.zipIdx.foldl (fun a (q,j)=>a.setIfInBounds (sa+k+j) q) (arrOf st2)))=r:=by rw [<- hr,a2]
    have tr:(failedOf (setArr st2 (m.toList.zipIdx.foldl (fun a (q,j)=>a.setIfInBounds (sa+k+j) q) (arrOf st2)))).isNone=true:=by rw [b3.ok]; rfl
    rw [tr]
    refine h _ b3 (fun i j hi hij hj=>?_) fun t ht=>?_
    ·rw [er]
     have bl:∀ t,sa<=t->t < sa+k->∀ t',sa+k<=t'->t' < sb+l->Kr rk (arrOf st) t<=Kr rk (arrOf st) t':=fun t t1 t2 t' t3 t4=>by
      rcases ba5 t' sb with z | z
      ·exact u t t' t1 (by omega) z
      ·have a1:=k2' t t1 t2
       have a2:=v sb t' (aW8 _) z (by omega)
       omega
     have br:∀ t,sb+l<=t->t < sb+nb->∀ t',sa+k<=t'->t' < sb+l->Kr rk (arrOf st) t'<=Kr rk (arrOf st) t:=fun t t1 t2 t' t3 t4=>by
      rcases ba5 t' sb with z | z
      ·have a1:=u t' (sb - 1) (by omega) (by omega) (by omega)
       have a2:=l3' t t1 t2
       omega
      ·exact v t' t z (by omega) t2
     have blr:∀ t,sa<=t->t < sa+k->∀ t',sb+l<=t'->t' < sb+nb->Kr rk (arrOf st) t<=Kr rk (arrOf st) t':=fun t t1 t2 t' t3 t4=>by
      have a1:=bl t t1 t2 (sb - 1) (by omega) (by omega)
      have a2:=l3' t' t3 t4
      omega
     rcases ba5 i (sa+k) with z | z
     ·rw [r2 i (.inl z)]
      rcases ba5 j (sa+k) with y | y
      ·rw [r2 j (.inl y)]; exact u i j hi hij (by omega)
      ·rcases ba5 j (sb+l) with x | x
       ·obtain ⟨t',q1,q2,q3⟩:=r4 j y x
        rw [q3]; exact bl i hi z t' q1 q2
       ·rw [r2 j (.inr x)]; exact blr i hi z j x hj
     ·rcases ba5 j (sb+l) with x | x
      ·exact r3 i j z hij x
      ·rw [r2 j (.inr x)]
       rcases ba5 i (sb+l) with y | y
       ·obtain ⟨t',q1,q2,q3⟩:=r4 i z y
        rw [q3]; exact br j x hj t' q1 q2
       ·rw [r2 i (.inr y)]; exact v i j (by omega) hij hj
    ·rw [er]; exact r2 t (by omega)
   by_cases hle:na - k<=l
   ·rw [if_pos hle]
    exact aX0 (aw0 c b1.kd (sub _ _) (sub _ _) sx sy x0 y0 hf hl fun m st2 g md=>fin m st2 g md)
   ·rw [if_neg hle]
    exact aX0 (aw4 c b1.kd (sub _ _) (sub _ _) sx sy x0 y0 hf hl fun m st2 g md=>fin m st2 g md)
end
def Ch:Nat->List (Nat × Nat)->Nat->Prop
 | a,[],b=>a=b
 | a,(p,n) :: r,b=>p=a/\0 < n/\Ch (a+n) r b
theorem Ch.split:∀ {l l':List (Nat × Nat)}{a b:Nat},Ch a (l ++ l') b->∃ m,Ch a l m/\Ch m l' b
 | [],_,a,_,h=>⟨a,rfl,h⟩
 | (p,n) :: l,l',a,b,h=>by
  obtain ⟨h1,h2,h3⟩:=h
  obtain ⟨m,q1,q2⟩:=Ch.split h3
  exact⟨m,⟨h1,h2,q1⟩,q2⟩
theorem Ch.join:∀ {l l':List (Nat × Nat)}{a m b:Nat},Ch a l m->Ch m l' b->Ch a (l ++ l') b
 | [],_,a,m,_,h,h'=>by cases (show a=m from h); exact h'
 | (p,n) :: l,l',a,m,b,h,h'=>⟨h.1,h.2.1,Ch.join h.2.2 h'⟩
theorem Ch.len:∀ {l:List (Nat × Nat)}{a b:Nat},Ch a l b->a+l.length<=b
 | [],a,b,h=>by cases (show a=b from h); simp
 | (p,n) :: l,a,b,h=>by
  have:=Ch.len h.2.2
  have:=h.2.1
  simp; omega
theorem Ch.mem:∀ {l:List (Nat × Nat)}{a b:Nat}{r:Nat × Nat},Ch a l b->r ∈ l->a<=r.1/\r.1+r.2<=b/\0 < r.2
 | (p,n) :: l,a,b,r,h,hr=>by
  obtain ⟨h1,h2,h3⟩:=h
  have hb:=Ch.len h3
  rcases aW3.mp hr with e | e
  ·subst e
   have h1:p=a:=h1
   refine⟨?_,?_,h2⟩
   ·show a<=p; omega
   ·show p+n<=b; omega
  ·have:=Ch.mem h3 e
   exact⟨by omega,this.2.1,this.2.2⟩
def sk (pd:Array (Nat × Nat × Nat)):List (Nat × Nat):=pd.toList.map fun r=>(r.1,r.2.1)
theorem qS (pd:Array (Nat × Nat × Nat)):(sk pd).length=pd.size:=by simp [sk]
structure Rn (rk:Keyed->Int) (a:Array Keyed) (l:List (Nat × Nat)) (lo:Nat):Prop where
 ch:Ch 0 l lo
 up:∀ r ∈ l,Up rk a r.1 (r.1+r.2)
variable {rk : Keyed → Int} {κ : SortKind} {a0 : Array Keyed} {pd : Array (Nat × Nat × Nat)} {st : SortSt} {prog : Program} {w : World} {A : Around} {E : Value → Shared → Prop} {s : Shared} {Ok : Keyed → Prop}
theorem Rn.same {a b:Array Keyed}{l:List (Nat × Nat)}{lo:Nat} (h:Rn rk a l lo) (e:∀ t,t < lo->Kr rk b t=Kr rk a t):Rn rk b l lo:=⟨h.ch,fun r hr i j hi hij hj=>by
 have:=(h.ch.mem hr).2.1
 rw [e i (by omega),e j (by omega)]
 exact h.up r hr i j hi hij hj⟩
theorem J1 (c:cE prog w A E s κ Ok rk) (o:bM Ok a0) (b:SB κ a0 pd st) {i lo:Nat}{Q:Bool->SortSt->Prop} (hi:i+1 < pd.size) (hz:lo<=a0.size) (rn:Rn rk (arrOf st) (sk pd) lo)
  (h:∀ pd' st',SB κ a0 pd' st'->pd'.size+1=pd.size->Rn rk (arrOf st') (sk pd') lo->(∀ t,lo<=t->Kr rk (arrOf st') t=Kr rk (arrOf st) t)->Q true st'):wpS (model prog w) A E s (mergeAt' i) Q st:=by
 obtain ⟨⟨sa,na,pw⟩,e1⟩:∃ r,pd[i]? = some r:=⟨pd[i],getElem?_pos pd i (by omega)⟩
 obtain ⟨⟨sb,nb,pw'⟩,e2⟩:∃ r,pd[i+1]? = some r:=⟨pd[i+1],getElem?_pos pd (i+1) hi⟩
 have d1:pd.toList=pd.toList.take i ++ (sa,na,pw) :: (sb,nb,pw') :: pd.toList.drop (i+2):=by
  have hl:i < pd.toList.length:=by simp; omega
  have hl2:i+1 < pd.toList.length:=by simpa using hi
  have g1:pd.toList[i]=(sa,na,pw):=by rw [getElem?_pos pd i (by omega)] at e1; simpa using e1
  have g2:pd.toList[i+1]=(sb,nb,pw'):=by rw [getElem?_pos pd (i+1) hi] at e2; simpa using e2
  have:=aZ6 i pd.toList
  rw [bi8 hl,bi8 hl2,g1,g2] at this
  exact this.symm
 have li:(pd.toList.take i).length=i:=by simp; omega
 have d2:((pd.setIfInBounds i (sa,na+nb,pw)).eraseIdxIfInBounds (i+1)).toList=pd.toList.take i ++ (sa,na+nb,pw) :: pd.toList.drop (i+2):=by
  have e:((pd.setIfInBounds i (sa,na+nb,pw)).eraseIdxIfInBounds (i+1)).toList=(pd.toList.set i (sa,na+nb,pw)).eraseIdx (i+1):=by
   unfold Array.eraseIdxIfInBounds
   rw [dif_pos (by rw [Array.size_setIfInBounds]; exact hi),Array.toList_eraseIdx,Array.toList_setIfInBounds]
  rw [e]
  conv=>lhs; rw [d1]
  rw [List.set_append_right _ _ (by omega),li,Nat.sub_self,List.set_cons_zero,List.eraseIdx_append_of_length_le (by omega),li,show i+1 - i=1 by omega]
  rfl
 have k1:sk pd=(pd.toList.take i).map (fun r=>(r.1,r.2.1)) ++ (sa,na) :: (sb,nb) :: (pd.toList.drop (i+2)).map (fun r=>(r.1,r.2.1)):=by
  unfold sk; conv=>lhs; rw [d1]
  simp
 have k2:sk ((pd.setIfInBounds i (sa,na+nb,pw)).eraseIdxIfInBounds (i+1))=(pd.toList.take i).map (fun r=>(r.1,r.2.1)) ++ (sa,na+nb) :: (pd.toList.drop (i+2)).map (fun r=>(r.1,r.2.1)):=by
  unfold sk; rw [d2]
  simp
 have ch:=rn.ch
 rw [k1] at ch
 obtain ⟨m,c1,c2⟩:=ch.split
 obtain ⟨f1,f2,f3,f4,f5⟩:=c2
 have f1:sa=m:=f1
 have f3:sb=m+na:=f3
 have up:=rn.up
 rw [k1] at up
 have lo2:=f5.len
 refine aw8 c o b e1 e2 (by omega) f2 f4 (by omega) (by have:=up (sa,na) (by simp); rw [f3,<- f1]; exact this) (up (sb,nb) (by simp)) fun st' b' u' fr=>h _ st' b' ?_ ⟨?_,?_⟩ fun t ht=>fr t (by omega)
 ·rw [<- qS,<- qS,k1,k2]; simp; omega
 ·rw [k2]
  refine c1.join ⟨f1,by omega,?_⟩
  rw [<- Nat.add_assoc]; exact f5
 ·intro r hr
  rw [k2] at hr
  rcases bb6.mp hr with z | z
  ·intro p q h1 h2 h3
   have:=(c1.mem z).2.1
   rw [fr p (by omega),fr q (by omega)]
   exact up r (be5 _ z) p q h1 h2 h3
  ·rcases aW3.mp z with z | z
   ·subst z
    show Up rk (arrOf st') sa (sa+(na+nb))
    rw [show sa+(na+nb)=sb+nb by omega]; exact u'
   ·intro p q h1 h2 h3
    have:=(f5.mem z).1
    rw [fr p (by omega),fr q (by omega)]
    exact up r (aZ4 _ (aW7 _ (aW7 _ z))) p q h1 h2 h3
abbrev RS:=Option Unit × Nat
def J2 (sz pw:Nat):StateT SortSt Sem (Option Unit × Unit):=forIn [0:sz] ((none,()):Option Unit × Unit) fun _ _=>do
 let z <- get
 match (if (pendingOf z).size > 1 then (pendingOf z)[(pendingOf z).size - 2]? else none) with
 | some (_,_,o)=>if o<=pw then pure (.done (none,())) else do
   let q <- mergeAt' ((pendingOf z).size - 2)
   if (!q)=true then pure (.done (some (),())) else pure (.yield (none,()))
 | _=>pure (.done (none,()))
def jn (sz lo n:Nat):StateT SortSt Sem (ForInStep RS):=do
 let z <- get
 match (pendingOf z).back? with
 | some (s1,n1,_)=>do
  let r <- J2 sz (power' sz (2 * s1+n1) (2 * s1+n1+n1+n) sz)
  match r.1 with
  | some u=>pure (.done (some u,lo))
  | none=>do
   modify fun s=>setPending s ((pendingOf s).modify ((pendingOf s).size - 1) fun x=>(x.1,x.2.1,power' sz (2 * s1+n1) (2 * s1+n1+n1+n) sz))
   modify fun s=>setPending s ((pendingOf s).push (lo,n,0))
   pure (.yield (none,lo+n))
 | _=>do
  modify fun s=>setPending s ((pendingOf s).push (lo,n,0))
  pure (.yield (none,lo+n))
def J3 (sz mr lo:Nat):StateT SortSt Sem (ForInStep RS):=if lo >= sz then pure (.done (none,lo)) else do
 match <- countRun' lo (sz - lo) with
 | some n=>
  if n < mr then
   liftM (rule "list.sort.binary-insertion")
   let q <- binarySort' lo (min (sz - lo) mr) n
   if (!q)=true then pure (.done (some (),lo)) else jn sz lo (min (sz - lo) mr)
  else jn sz lo n
 | _=>pure (.done (some (),lo))
def J4 (sz:Nat):StateT SortSt Sem (Option Unit × Unit):=forIn [0:sz] ((none,()):Option Unit × Unit) fun _ _=>do
 let z <- get
 if (pendingOf z).size<=1 then pure (.done (none,())) else do
  let q <- mergeAt' (if ((if (pendingOf z).size - 2 > 0 then (pendingOf z)[(pendingOf z).size - 2 - 1]?.map (·.2.1) else none).any (· < ((pendingOf z)[(pendingOf z).size - 2+1]?.elim 0 (·.2.1))))=true then (pendingOf z).size - 2 - 1 else (pendingOf z).size - 2)
  if (!q)=true then pure (.done (some (),())) else pure (.yield (none,()))
theorem aw9:sortRuns'=(do
 let z <- get
 let r <- (forIn [0:(arrOf z).size] ((none,0):RS) fun _ r=>J3 (arrOf z).size (minRun' (arrOf z).size (arrOf z).size 0) r.2)
 match r.1 with
 | some u=>pure u
 | none=>do
  let q <- J4 (arrOf z).size
  match q.1 with
  | some u=>pure u
  | none=>pure ()):=by kernel_rfl
theorem J5 {lo nn:Nat} (n1:0 < nn) {pd:Array (Nat × Nat × Nat)}{a:Array Keyed} (r:Rn rk a (sk pd) lo) (u:Up rk a lo (lo+nn)):Rn rk a (sk (pd.push (lo,nn,0))) (lo+nn):=by
 have e:sk (pd.push (lo,nn,0))=sk pd ++ [(lo,nn)]:=by simp [sk]
 refine⟨by rw [e]; exact r.ch.join ⟨rfl,n1,rfl⟩,fun q hq=>?_⟩
 rw [e] at hq
 rcases bb6.mp hq with z | z
 ·exact r.up q z
 ·rw [aX6] at z
  subst z
  exact u
theorem J6 (c:cE prog w A E s κ Ok rk) (o:bM Ok a0) (b:SB κ a0 pd st) {lo n:Nat}{Q:ForInStep RS->SortSt->Prop} (n1:1<=n) (n2:lo+n<=a0.size) (rn:Rn rk (arrOf st) (sk pd) lo) (u:Up rk (arrOf st) lo (lo+n))
  (h:∀ pd' st',SB κ a0 pd' st'->Rn rk (arrOf st') (sk pd') (lo+n)->Q (.yield (none,lo+n)) st'):wpS (model prog w) A E s (jn a0.size lo n) Q st:=by
 unfold jn
 refine aX0 (wpS_get ?_)
 rw [b.pd]
 cases hb:pd.back? with
 | none=>exact aX0 (wpS_modify (aX9 (h (pd.push (lo,n,0)) _ ⟨b.pm,b.kd,b.ok,by show (pendingOf st).push _=_; rw [b.pd]⟩ (J5 n1 rn u))))
 | some q=>
  obtain ⟨s1,m1,q3⟩:=q
  dsimp only
  generalize power' a0.size (2 * s1+m1) (2 * s1+m1+m1+n) a0.size=pw
  unfold J2
  refine aX0 (bl9 (be8
   (I:=fun _ r st'=>r=(none,())/\∃ pd,SB κ a0 pd st'/\Rn rk (arrOf st') (sk pd) lo/\Up rk (arrOf st') lo (lo+n))
   (Q:=fun r st'=>r=(none,())/\∃ pd,SB κ a0 pd st'/\Rn rk (arrOf st') (sk pd) lo/\Up rk (arrOf st') lo (lo+n)) ?_ (fun _ _ z=>z) ⟨rfl,pd,b,rn,u⟩) ?_)
  ·rintro t r st4 _ ht ⟨rfl,pd4,b4,r4,u4⟩
   refine aX0 (wpS_get ?_)
   rw [b4.pd]
   cases ho:(if pd4.size > 1 then pd4[pd4.size - 2]? else none) with
   | none=>exact aX9 ⟨rfl,pd4,b4,r4,u4⟩
   | some z=>
    obtain ⟨z1,z2,z3⟩:=z
    have h1:pd4.size > 1:=by
     by_cases y:pd4.size > 1
     ·exact y
     ·rw [if_neg y] at ho; cases ho
    dsimp only
    by_cases hp:z3<=pw
    ·rw [if_pos hp]
     exact aX9 ⟨rfl,pd4,b4,r4,u4⟩
    ·rw [if_neg hp]
     refine aX0 (J1 c o b4 (by omega) (by omega) r4 fun pd5 st5 b5 _ r5 f5=>?_)
     exact aX9 ⟨rfl,pd5,b5,r5,fun i j hi hij hj=>by rw [f5 i hi,f5 j (by omega)]; exact u4 i j hi hij hj⟩
  ·rintro r st4 ⟨rfl,pd4,b4,r4,u4⟩
   refine aX0 (wpS_modify (aX0 (wpS_modify (aX9 ?_))))
   have e:sk (pd4.modify (pd4.size - 1) fun x=>(x.1,x.2.1,pw))=sk pd4:=by
    unfold sk
    rw [Array.toList_modify]
    apply List.ext_getElem?
    intro t
    rw [aY1,aY1,List.getElem?_modify]
    cases pd4.toList[t]? with
    | none=>simp
    | some v=>by_cases y:pd4.size - 1=t <;> simp [y]
   refine h ((pd4.modify (pd4.size - 1) fun x=>(x.1,x.2.1,pw)).push (lo,n,0)) _ ⟨b4.pm,b4.kd,b4.ok,?_⟩ (J5 n1 (by rw [e]; exact r4) u4)
   show ((pendingOf st4).modify ((pendingOf st4).size - 1) fun x=>(x.1,x.2.1,pw)).push _=_
   rw [b4.pd]
theorem ax0 (c:cE prog w A E s κ Ok rk) (o:bM Ok a0) (b:SB κ a0 #[] st) {Q:Unit->SortSt->Prop} (h2:1<=a0.size)
  (h:∀ st',(arrOf st').Perm a0->failedOf st'=none->Up rk (arrOf st') 0 a0.size->Q () st'):wpS (model prog w) A E s sortRuns' Q st:=by
 rw [aw9]
 refine aX0 (wpS_get ?_)
 rw [b.sz]
 generalize minRun' a0.size a0.size 0=mr
 refine aX0 (bl9 (be8
  (I:=fun x r st'=>∃ lo pd,r=(none,lo)/\x<=lo/\lo<=a0.size/\SB κ a0 pd st'/\Rn rk (arrOf st') (sk pd) lo)
  (Q:=fun r st'=>∃ pd,r=(none,a0.size)/\SB κ a0 pd st'/\Rn rk (arrOf st') (sk pd) a0.size) ?_ ?_ ⟨0,#[],rfl,aW8 _,bh0 _,b,⟨rfl,fun r hr=>absurd hr (by simp [sk])⟩⟩) ?_)
 ·rintro x r st1 _ hx ⟨lo,pd,rfl,xl,lz,b1,rn⟩
  unfold J3
  dsimp only
  by_cases hd:lo >= a0.size
  ·rw [if_pos hd]
   have e:lo=a0.size:=by omega
   subst e
   exact aX9 ⟨pd,rfl,b1,rn⟩
  ·rw [if_neg hd]
   refine aX0 (av3 c o b1 (by omega) (by omega) fun n st2 b2 n1 n2 u2 l2=>?_)
   have rn2:=rn.same l2
   dsimp only
   by_cases hmr:n < mr
   ·rw [if_pos hmr]
    refine aX0 (wpS_lift (bj8 ⟨rfl,?_⟩))
    refine aX0 (av4 c o b2 (by omega) (by omega) u2 fun st3 b3 u3 l3=>?_)
    rw [if_neg (by decide)]
    exact J6 c o b3 (by omega) (by omega) (rn2.same l3) u3 fun pd' st' b' r'=>⟨_,pd',rfl,by omega,by omega,b',r'⟩
   ·rw [if_neg hmr]
    exact J6 c o b2 n1 (by omega) rn2 u2 fun pd' st' b' r'=>⟨lo+n,pd',rfl,by omega,by omega,b',r'⟩
 ·rintro r st1 ⟨lo,pd,rfl,xl,lz,b1,rn⟩
  have e:lo=a0.size:=by omega
  subst e
  exact⟨pd,rfl,b1,rn⟩
 ·rintro r st1 ⟨pd,rfl,b1,rn⟩
  dsimp only
  unfold J4
  refine aX0 (bl9 (be8
   (I:=fun t r st'=>r=(none,())/\∃ pd,SB κ a0 pd st'/\Rn rk (arrOf st') (sk pd) a0.size/\(pd.size+t<=a0.size ∨ pd.size<=1))
   (Q:=fun r st'=>r=(none,())/\∃ pd,SB κ a0 pd st'/\Rn rk (arrOf st') (sk pd) a0.size/\pd.size<=1) ?_ ?_ ⟨rfl,pd,b1,rn,.inl (by have:=rn.ch.len; rw [qS] at this; omega)⟩) ?_)
  ·rintro t r st2 _ ht ⟨rfl,pd,b2,rn2,pr⟩
   refine aX0 (wpS_get ?_)
   rw [b2.pd]
   by_cases h1:pd.size<=1
   ·rw [if_pos h1]
    exact aX9 ⟨rfl,pd,b2,rn2,h1⟩
   ·rw [if_neg h1]
    refine aX0 (J1 c o b2 ?_ (aW8 _) rn2 fun pd' st3 b3 sz3 rn3 _=>?_)
    ·split <;> split <;> omega
    ·exact aX9 ⟨rfl,pd',b3,rn3,by omega⟩
  ·rintro r st2 ⟨rfl,pd,b2,rn2,pr⟩
   exact⟨rfl,pd,b2,rn2,by omega⟩
  ·rintro r st2 ⟨rfl,pd,b2,rn2,pr⟩
   refine aX9 (h st2 b2.pm b2.ok ?_)
   have ch:=rn2.ch
   have up:=rn2.up
   rw [<- qS] at pr
   cases e:sk pd with
   | nil=>rw [e] at ch; exact absurd (show 0=a0.size from ch) (by omega)
   | cons r l=>
    rw [e] at ch up pr
    have el:l = []:=List.eq_nil_of_length_eq_zero (by have:=pr; rw [bb4] at this; omega)
    subst el
    obtain ⟨p,n⟩:=r
    obtain ⟨q1,q2,q3⟩:=ch
    have q1:p=0:=q1
    have q3:0+n=a0.size:=q3
    subst q1
    have:=up (0,n) (by simp)
    rw [<- q3]; exact this
end SO
namespace L2
open PySem PySem.Spec PyProof.Rows SO
abbrev cJ (h:Heap) (a:Addr) (vs:List Value):Heap:=((h.update a (Obj.mapSeq fun _=>#[])).push (seqObj "tuple" vs.toArray 0)).push (seqObj "list" #[] 0)
abbrev dE (h:Heap) (vs:List Value):Heap:=((h.push (seqObj "list" #[] 0)).update h.objs.size (Obj.mapSeq (· ++ vs.toArray))).push (seqObj "list" vs.toArray 0)
theorem J7 {h:Heap}{vs:List Value}{b:Addr}{o:Obj} (e:h.get? b=some o):(dE h vs).get? b=some o:=by
 have l:=aX1 e
 refine aV9 _ ?_
 rw [Heap.get?_update_ne _ _ _ _ (aZ0 l)]
 exact aV9 _ e
theorem vB {h:Heap}{vs:List Value}{a b:Addr}{o:Obj} (hb:b ≠ a) (e:h.get? b=some o):(cJ h a vs).get? b=some o:=by
 refine aV9 _ (aV9 _ ?_)
 rw [Heap.get?_update_ne _ _ _ _ hb]; exact e
theorem J8 {prog:Program}{w:World}{A:Around}{E:Value->Shared->Prop}{s:Shared}{a:Addr}{vs:List Value}{n:Nat}{P:PySem.Fin->Shared->Prop}{κ:SortKind}{Ok:Keyed->Prop}{rk:Keyed->Int}
  (e:s.heap.get? a=some (seqObj "list" vs.toArray n)) (h2:2<=vs.length) (big:vs.length<=sizeLine)
  (hk:∀ Q:SortKind->Shared->Prop,Q κ { s with heap:=cJ s.heap a vs }->wpAny (model prog w) A (keyKind' vs.toArray) Q E { s with heap:=cJ s.heap a vs })
  (c:cE prog w A E { s with heap:=cJ s.heap a vs } κ Ok rk) (o:∀ v ∈ vs,Ok (v,v))
  (q:∀ out:List Value,out.Perm vs->out.Pairwise (fun u v=>rk (u,u)<=rk (v,v))->P (.done (.ret .none)) { s with heap:=sortedHeap s.heap a vs out.toArray }):wpAny (model prog w) A (Builtin.«list.sort» ⟨[.ref a],[]⟩) P E s:=by
 have la:=aX1 e
 have cc : ¬ vs.toArray.size < 2:=by simpa using h2
 obtain ⟨k,ek⟩:∃ k,(s.heap.update a (Obj.mapSeq fun _=>#[])).get? a=some (seqObj "list" #[] k):=⟨_,get?_update_seq e fun _=>#[]⟩
 have there:(cJ s.heap a vs).get? a=some (seqObj "list" #[] k):=aV9 _ (aV9 _ ek)
 rw [list_sort_plain]
 apply aV7
 apply listItems_at e rfl
 apply aV7
 refine listUpdate_at e rfl ?_ (by simpa using big) (bh0 _)
 apply aV7
 apply seqEpoch_at ek rfl
 apply aV7
 refine wpAny_newTuple ?_ big
 apply aV7
 refine wpAny_newList ?_ (bh0 _)
 apply bb0
 simp only [cc,be6]
 apply aV7
 refine hk _ ?_
 have zl:(vs.toArray.zip vs.toArray).toList=vs.zip vs:=by simp
 apply aV7
 refine bf5 (ax0 (a0:=vs.toArray.zip vs.toArray) (Q:=fun _ st'=>(arrOf st').Perm (vs.toArray.zip vs.toArray)/\failedOf st'=none/\Up rk (arrOf st') 0 (vs.toArray.zip vs.toArray).size) c (fun x hx=>?_) ⟨Array.Perm.refl _,rfl,rfl,rfl⟩ (by simp; omega) fun st' a1 a2 a3=>⟨a1,a2,a3⟩) ?_ fun _ _ z=>z
 ·have hx':x ∈ vs.zip vs:=by rw [<- zl]; exact Array.mem_toList_iff.mpr hx
  obtain ⟨y1,y2⟩:=mem_zip_self hx'
  have:=o x.1 y2
  have ex:x=(x.1,x.1):=Prod.ext rfl y1.symm
  rw [ex]; exact this
 ·rintro ⟨⟨⟩,st'⟩ s' ⟨rfl,pm,ok,up⟩
  have lp:(arrOf st').toList.Perm (vs.zip vs):=by rw [<- zl]; exact Array.perm_iff_toList_perm.mp pm
  have out:(arrOf st').map (·.2)=((arrOf st').toList.map (·.2)).toArray:=by apply Array.toList_inj.mp; rw [Array.toList_map]
  have op:((arrOf st').toList.map (·.2)).Perm vs:=by
   have:=lp.map (·.2)
   rw [pB] at this; exact this
  have sz:(arrOf st').size=vs.length:=by rw [pm.size_eq]; simp
  dsimp only
  apply aV7
  apply seqEpoch_at there rfl
  apply aV7
  refine listUpdate_at there rfl ?_ (bh0 _) (by rw [Array.size_map,sz]; exact Nat.le_succ_of_le big)
  rw [ok]
  simp only [bne_self_eq_false,aY8,be6]
  refine aW2 ?_
  have hq:=q _ op ?_
  ·rw [<- out] at hq; exact hq
  ·rw [be3,ba0]
   intro i j hi hj hij
   have hi':i < (arrOf st').size:=by simpa using hi
   have hj':j < (arrOf st').size:=by simpa using hj
   have h1:=up i j (bh0 _) (bi1 hij) (by simp; omega)
   rw [cA hi',cA hj'] at h1
   have dg:∀ x ∈ (arrOf st').toList,(x.2,x.2)=x:=fun x hx=>Prod.ext (mem_zip_self (lp.mem_iff.mp hx)).1.symm rfl
   rw [dg _ (bf3 hi),dg _ (bf3 hj)]
   simpa using h1
theorem K0 {prog:Program}{w:World}{A:Around}{E:Value->Shared->Prop}{s:Shared}{l:Addr}{vs:List Value}{Q:Value->Shared->Prop}{κ:SortKind}{Ok:Keyed->Prop}{rk:Keyed->Int}
  (hl:s.heap.IsList l vs.toArray) (h2:2<=vs.length) (big:vs.length<=sizeLine)
  (hk:∀ (A:Around) (E:Value->Shared->Prop) (Q:SortKind->Shared->Prop),Q κ { s with heap:=cJ (dE s.heap vs) (s.heap.objs.size+1) vs }->wpAny (model prog w) A (keyKind' vs.toArray) Q E { s with heap:=cJ (dE s.heap vs) (s.heap.objs.size+1) vs })
  (c:∀ (A:Around) (E:Value->Shared->Prop),cE prog w A E { s with heap:=cJ (dE s.heap vs) (s.heap.objs.size+1) vs } κ Ok rk) (o:∀ v ∈ vs,Ok (v,v))
  (q:∀ out:List Value,out.Perm vs->out.Pairwise (fun u v=>rk (u,u)<=rk (v,v))->Q (.ref (s.heap.objs.size+1)) { s with heap:=sortedAll s.heap vs out.toArray }):wpAny (model prog w) A (call (.builtin "sorted") [.ref l]) Q E s:=by
 apply Calls.call_function_entry kind_sorted plain_sorted entry_sorted (args_sorted1 _)
 simp only [Builtin.«sorted»]
 apply aV7 (m:=checkCount "sorted" 1 1 _)
 apply aW2
 apply aV7
 refine collect_list hl ?_ big
 apply aV7
 refine wpAny_newList ?_ big
 have one:((s.heap.push (seqObj "list" #[] 0)).update s.heap.objs.size (Obj.mapSeq (· ++ vs.toArray))).objs.size=s.heap.objs.size+1:=(Heap.size_update _ _ _).trans (size_push' _ _)
 have at1:(dE s.heap vs).get? (s.heap.objs.size+1)=some (seqObj "list" vs.toArray 0):=one ▸ aX4 _ rfl
 change wpAny _ _ _ _ _ { s with heap:=dE s.heap vs }
 rw [one]
 apply aV7
 apply bb0
 refine bc6 slot_list_sort ⟨_,at1,rfl⟩ entry_list_sort ?_ (args_list_sort _)
 exact J8 (s:={ s with heap:=dE s.heap vs }) at1 h2 big (hk _ _) (c _ _) o fun out a1 a2=>⟨_,rfl,aW2 ⟨_,rfl,q out a1 a2⟩⟩
def qT (h:Heap) (B:Int) (x:Keyed):Int:=match x.1 with
 | .ref b=>match h.get? b with
  | some ob=>match ob.data with
   | .seq us _=>numOf (us.getD 0 .none) * B+numOf (us.getD 1 .none)
   | _=>0
  | none=>0
 | _=>0
structure j8 (h:Heap) (M:Int) (v:Value) (p q:Int):Prop where
 at_:∃ b ob us n,v = .ref b/\h.get? b=some ob/\ob.cls = .type "tuple"/\ob.data = .seq (List.toArray us) n/\IntsAre us [p,q]
 lo : -M<=q
 hi:q<=M
theorem j8.rk {h:Heap}{M B:Int}{x:Keyed}{p q:Int} (z:j8 h M x.1 p q):qT h B x=p * B+q:=by
 obtain ⟨b,ob,us,n,e1,e2,_,e4,e5⟩:=z.at_
 cases e5 with
 | cons _ t e6=>cases e6 with
  | cons _ u e7=>cases e7; unfold qT; rw [e1]; dsimp only; rw [e2]; dsimp only; rw [e4]; rfl
theorem K1 {p q p' q' M:Int} (h1 : -M<=q) (h2:q<=M) (h3 : -M<=q') (h4:q'<=M):HT.aK [p,q] [p',q']=decide (p * (2 * M+1)+q < p' * (2 * M+1)+q'):=by
 rw [HT.fZ]
 have mm:∀ {a b:Int},a < b->a * (2 * M+1)+(2 * M+1)<=b * (2 * M+1):=fun {a b} z=>by
  have:=Int.mul_le_mul_of_nonneg_right (show a+1<=b by omega) (show 0<=2 * M+1 by omega)
  rw [Int.add_mul,Int.one_mul] at this
  exact this
 by_cases e:p=p'
 ·subst e
  rw [if_pos rfl,HT.fZ]
  by_cases e2:q=q'
  ·subst e2
   rw [if_pos rfl,HT.oT,aW4 (by omega)]
  ·rw [if_neg e2]
   by_cases l:q < q'
   ·rw [aX3 l,aX3 (by omega)]
   ·rw [aW4 l,aW4 (by omega)]
 ·rw [if_neg e]
  by_cases l:p < p'
  ·have:=mm l
   rw [aX3 l,aX3 (by omega)]
  ·have:=mm (show p' < p by omega)
   rw [aW4 l,aW4 (by omega)]
theorem ax1 {prog:Program}{w:World}{A:Around}{E:Value->Shared->Prop}{s:Shared}{M:Int}:cE prog w A E s (tuples' true) (fun x=>∃ p q,j8 s.heap M x.1 p q) (qT s.heap (2 * M+1)):=by
 rintro x y ⟨p,q,z⟩ ⟨p',q',z'⟩ st Q hk hq
 rw [z.rk,z'.rk] at hq
 rw [<- K1 z.lo z.hi z'.lo z'.hi] at hq
 obtain ⟨b,ob,us,n,e1,e2,e3,e4,e5⟩:=z.at_
 obtain ⟨b',ob',us',n',e1',e2',e3',e4',e5'⟩:=z'.at_
 rw [lt'_eq]
 refine aX0 (wpS_get ?_)
 rw [hk,e1,e1']
 refine aX0 (wpS_lift (bm3 (PySem.W.kat_lt e2 e4 e2' e4' ?_)))
 have:=tV (prog:=prog) (w:=w) (A:=A) (s:=s) (Q:=fun a s'=>s'=s/\wpS (model prog w) A E s (pure (some a)) Q st) 0 e5 e5' ⟨rfl,aX9 hq⟩
 simpa using this
theorem K2 {vs vs':List Value} (h:vs.Perm vs'):∀ {xs:List V},aI xs vs->∃ xs',xs'.Perm xs/\aI xs' vs':=by
 induction h with
 | nil=>intro xs r; exact⟨xs,bh4 _,r⟩
 | cons v _ ih=>
  intro xs r
  cases r with
  | cons r t=>
   obtain ⟨xs',p,r'⟩:=ih t
   exact⟨_ :: xs',p.cons _,.cons r r'⟩
 | swap u v l=>
  intro xs r
  cases r with
  | cons r t=>cases t with
   | cons r2 t2=>exact⟨_,bm7 _ _ _,.cons r2 (.cons r t2)⟩
 | trans _ _ ih1 ih2=>
  intro xs r
  obtain ⟨x1,p1,r1⟩:=ih1 r
  obtain ⟨x2,p2,r2⟩:=ih2 r1
  exact⟨x2,p2.trans p1,r2⟩
theorem K3 {α:Type} (f:α->Int):∀ l:List α,∃ M:Int,∀ y ∈ l,-M<=f y/\f y<=M
 | []=>⟨0,fun _ h=>nomatch h⟩
 | x :: l=>by
  obtain ⟨M,h⟩:=K3 f l
  refine⟨max M (max (f x) (- f x)),fun y hy=>?_⟩
  rcases aW3.mp hy with e | e
  ·subst e; omega
  ·have:=h y e; omega
def K4 (K:PySem.W.Frag):List V->Hp->VK->Prop:=fun xs H Q=>∃ (a:Addr) (ys:List V) (key:V->List Int),xs = [.ref a]/\aN K H a ys/\ys.length<=4096/\(∀ y ∈ ys,∃ b,y = .ref b/\aL K H b ((key y).map V.int)/\(key y).length=2)/\
 ∀ l (zs:List V),H l=none->zs.Perm ys->zs.Pairwise (fun u v=>HT.aK (key v) (key u)=false)->Q (.ref l) (upd H l (.lst zs))
theorem ax2 {X:Cx}:cH X (.builtin "sorted") (K4 X.K):=by
 intro pins s σ H xs us Q I r h
 obtain ⟨a,ys,key,rfl,hs,hz4,hk,q⟩:=h
 obtain ⟨u,rfl,ru⟩:=eQ r
 cases ru
 obtain ⟨its,rv,p,hz⟩:=I.list hs
 have hl:=rv.length
 have hn:s.heap.objs.size<=s.heap.objs.size+1:=Nat.le_succ _
 by_cases h2:its.length < 2
 ·refine zR p.isList h2 ?_
  obtain ⟨e,he⟩:=sortedAll_at s.heap its its.toArray
  refine⟨.ref (s.heap.objs.size+1),upd H (s.heap.objs.size+1) (.lst ys),I.laid (t':=s.toks) (fun _ _=>sortedAll_old) hn ⟨hz,its,e,rv,he⟩,rfl,q _ ys (I.hok.fresh hn) (bh4 _) ?_⟩
  match ys,hl with
  | [],_=>exact bh1
  | [_],_=>exact ba6 _ _
  | _ :: _ :: _,hl=>simp at hl; omega
 ·obtain ⟨M,hM⟩:=K3 (fun y=>(key y).getD 1 0) ys
  have pv:∀ {y:V}{v:Value},aP y v->y ∈ ys->∃ pp qq,key y = [pp,qq]/\j8 (cJ (dE s.heap its) (s.heap.objs.size+1) its) M v pp qq:=fun {y v} ry hy=>by
   obtain ⟨b,rfl,sq,l2⟩:=hk y hy
   cases ry
   obtain ⟨us,ru,⟨ob,e1,c1,n1,d1⟩,_⟩:=I.tuple sq
   have ia:=iR ru
   have mm:=hM _ hy
   match hkk:key (V.ref b),l2 with
   | [pp,qq],_=>
    rw [hkk] at ia mm
    exact⟨pp,qq,rfl,⟨b,ob,us,n1,rfl,vB (aZ0 (Nat.lt_succ_of_lt (aX1 e1))) (J7 e1),c1,d1,ia⟩,mm.1,mm.2⟩
  have pvs:∀ {xs:List V}{vs:List Value},aI xs vs->(∀ y ∈ xs,y ∈ ys)->∀ v ∈ vs,∃ pp qq,j8 (cJ (dE s.heap its) (s.heap.objs.size+1) its) M v pp qq:=by
   intro xs vs r
   induction r with
   | nil=>intro _ v hv; cases hv
   | cons rx rt ih=>
    intro hh v hv
    rcases aW3.mp hv with z | z
    ·subst z
     obtain ⟨pp,qq,_,z⟩:=pv rx (hh _ aX5)
     exact⟨pp,qq,z⟩
    ·exact ih (fun y hy=>hh y (aW7 _ hy)) v z
  have firsts:∀ {vs:List Value},(∀ v ∈ vs,∃ pp qq,j8 (cJ (dE s.heap its) (s.heap.objs.size+1) its) M v pp qq)->∃ fs:List Value,PySem.W.KatTups (cJ (dE s.heap its) (s.heap.objs.size+1) its) vs fs/\fs.length=vs.length/\∀ v ∈ fs,∃ i t,v=Value.int i t:=by
   intro vs
   induction vs with
   | nil=>intro _; exact⟨[],PySem.W.KatTups.nil,rfl,fun _ z=>nomatch z⟩
   | cons v vs ih=>
    intro hh
    obtain ⟨fs,t1,t2,t3⟩:=ih fun y hy=>hh y (aW7 _ hy)
    obtain ⟨pp,qq,z⟩:=hh v aX5
    obtain ⟨b,ob,us,n,rfl,e2,e3,e4,e5⟩:=z.at_
    cases e5 with
    | cons _ t e6=>exact⟨Value.int pp t :: fs,PySem.W.KatTups.cons e2 e3 e4 (by simp) t1,by simp [t2],fun v hv=>(aW3.mp hv).elim (fun z=>⟨pp,t,z⟩) (t3 v)⟩
  have allp:=pvs rv fun _ h=>h
  obtain ⟨fs,t1,t2,t3⟩:=firsts allp
  refine K0 (κ:=tuples' true) (Ok:=fun x=>∃ pp qq,j8 (cJ (dE s.heap its) (s.heap.objs.size+1) its) M x.1 pp qq) (rk:=qT (cJ (dE s.heap its) (s.heap.objs.size+1) its) (2 * M+1)) p.isList (by omega) (by rw [<- hl]; exact hz)
   (fun A E Q hQ=>?_) (fun A E=>ax1 (s:={ s with heap:=cJ (dE s.heap its) (s.heap.objs.size+1) its })) (fun v hv=>allp v hv) fun out pm so=>?_
  ·refine PySem.W.kat_kind (T:=.type "int") t1 (by omega) (fun v hv=>?_) (by decide) ?_
   ·obtain ⟨i,t,rfl⟩:=t3 v hv
    exact PySem.W.Looks.now
   ·have eT:(Value.type "int" != Value.type "tuple")=true:=by decide
    rw [eT]; exact hQ
  ·obtain ⟨zs,pz,rz⟩:=K2 pm.symm rv
   obtain ⟨e,he⟩:=sortedAll_at s.heap its out.toArray
   refine⟨.ref (s.heap.objs.size+1),upd H (s.heap.objs.size+1) (.lst zs),I.laid (t':=s.toks) (fun _ _=>sortedAll_old) hn ⟨by rw [pz.length_eq]; exact hz,out,e,rz,he⟩,rfl,q _ zs (I.hok.fresh hn) pz ?_⟩
   have lz:=rz.length
   rw [ba0]
   intro i j hi hj hij
   have s1:=ba0.mp so i j (by omega) (by omega) hij
   have gi:=nB i hi rz
   have gj:=nB j hj rz
   simp only [aX8,aW0 hi,aW0 hj,aW0 (show i < out.length by omega),aW0 (show j < out.length by omega),Option.getD_some] at gi gj
   obtain ⟨pi,qi,ki,vi⟩:=pv gi (pz.mem_iff.mp (bf3 hi))
   obtain ⟨pj,qj,kj,vj⟩:=pv gj (pz.mem_iff.mp (bf3 hj))
   rw [j8.rk (x:=(out[i],out[i])) vi,j8.rk (x:=(out[j],out[j])) vj] at s1
   rw [ki,kj,K1 vj.lo vj.hi vi.lo vi.hi]
   exact aW4 (by omega)
end L2
namespace L2
open PySem PySem.Spec PyProof.Rows
theorem bW.at {P:Program}{w:World}{H:Hp}{h:Heap}{a:Addr}{o:HO} (x:bW P w H h a o):∃ ob,h.get? a=some ob:=by
 cases o with
 | lst xs=>obtain ⟨_,_,_,_,e⟩:=x; exact⟨_,e⟩
 | tup xs=>obtain ⟨_,_,_,⟨_,e,_⟩,_⟩:=x; exact⟨_,e⟩
 | dK kvs=>obtain ⟨_,_,_,_,_,_,_,e,_⟩:=x; exact⟨_,e⟩
 | dT kvs=>obtain ⟨_,_,_,_,_,_,_,e,_⟩:=x; exact⟨_,e⟩
 | set S n=>obtain ⟨_,_,_,_,e,_⟩:=x; exact⟨_,e⟩
 | ins C dx fs=>obtain ⟨_,_,_,e,_⟩:=x; exact⟨_,e⟩
 | own y=>exact x
 | xd fs=>obtain ⟨_,⟨_,_,_,e,_⟩,_⟩:=x; exact⟨_,e⟩
 | rng lo hi=>obtain ⟨_,_,_,e⟩:=x; exact⟨_,e⟩
 | frz ob u=>obtain ⟨e,_⟩:=x; exact⟨_,e⟩
 | tbl ps=>exact⟨_,x⟩
 | met f y=>exact⟨_,x⟩
 | ext φ=>exact x.2.1
structure kQ (P:Program) (w:World) (outer:List Env) (H:Hp) (s:Shared) (H':Hp) (B:Heap) (a C:Addr) (s':Shared):Prop where
 os:s'.os=s.os
 bare:AllBare s'.gens
 un:Un (bN outer) [] H H' s.heap s'.heap
 hok:bT P w H' s'.heap
 fly:∃ a0,Heap.FlyingW B outer a (.ref C) a0 s'.heap
 b0:∀ b o,s.heap.get? b=some o->b ∉ bN outer->∃ o',B.get? b=some o'
 b1:∀ b o,s.heap.get? b=some o->H b=none->b ∉ bN outer->B.get? b=some o
 b2:∀ b u o,H' b=some u->s'.heap.get? b=some o->B.get? b=some o
def dM (P:Program) (w:World):fX:=fun outer H s E e s'=>∃ (H':Hp) (B:Heap) (a C:Addr),e = .ref a/\kQ P w outer H s H' B a C s'/\E (.ref C) none H'
section
variable {P : Program} {w : World} {outer : List Env} {H H' : Hp} {s s' : Shared} {B h2 : Heap} {a C : Addr}
theorem kQ.fresh (f:kQ P w outer H s H' B a C s'):H' a=none:=by
 cases q:H' a with
 | none=>rfl
 | some u=>
  obtain ⟨ob,e⟩:=(f.hok a u q).at
  have z:=f.b2 a u ob q e
  obtain ⟨_,_,n,_⟩:=f.fly
  rw [n] at z; cases z
theorem kQ.hok2 (f:kQ P w outer H s H' B a C s') (k:B.StaysIn h2):bT P w H' h2:=fun b u e=>
 (f.hok b u e).stay (fun c v hc q=>by
  rcases hc with z | z
  ·subst z; exact k _ _ (f.b2 _ _ _ e q)
  ·exact k _ _ (f.b2 _ _ _ z q)) (fun _ q=>q) fun _ _ q=>q
end
section
variable {P : Program} {w : World} {K : PySem.W.Frag} {mg : Str → Option Value} {base : Heap} {N : List Str} {qual : Str} {scope : Scope} {f : Addr} {cd : Value} {A : Around} {outer : List Env} {s₀ : Shared} {H₀ : Hp} {E₀ E₁ : XK}
theorem qU {pins:List (Addr × Obj)}{σ:St}{H:Hp}{s:Shared} (I:a8 (cV (dM P w) P w K mg base N qual scope f cd A outer s₀ H₀ E₀) pins σ H s) {b:Addr}{o:Obj} (e:s₀.heap.get? b=some o) (n:b ∉ bN outer) :
  b ∉ bN (envOfC qual scope s₀.heap.objs.size f cd :: outer):=fun z=>by
 rcases aW3.mp (I.stkSub b z) with y | y
 ·have l:=aX1 e
  have y:b=s₀.heap.objs.size:=y
  exact absurd l (by rw [y]; exact bf2 _)
 ·exact n y
theorem ax3 (hE:∀ c d H',E₁ c d H'->E₀ c d H'):mX (dM P w) (cV (dM P w) P w K mg base N qual scope f cd A outer s₀ H₀ E₀) E₁:=by
 intro pins σ H s e s' I hx
 obtain ⟨H',B,a,C,e1,fl,q⟩:=hx
 subst e1
 have I':=I.call' fl.os fl.un fl.hok fl.bare (ch:=[]) (fun b z=>absurd z (by simp))
 obtain ⟨a0,fly⟩:=fl.fly
 refine wpAny_leaves_onW I.ok.frames rfl fly fun h' fly' up=>?_
 have slot:∀ b o,s₀.heap.get? b=some o->b ∈ bN outer->∃ sl,h'.get? b=some { o with slots:=sl }:=fun b o e hb=>by
  obtain ⟨sl,e1⟩:=I'.base.slot b o e (I.ok.frf b hb) hb (fun z=>nomatch z)
  obtain ⟨_,o2,e2,nf⟩:=I.ok.funs.mem hb
  rw [show (cV (dM P w) P w K mg base N qual scope f cd A outer s₀ H₀ E₀).s₀=s₀ from rfl,e] at e2
  cases e2
  obtain ⟨sl',e3⟩:=up b _ e1 nf
  exact⟨sl',e3⟩
 have old:∀ b o,s₀.heap.get? b=some o->H₀ b=none->b ∉ bN outer->B.get? b=some o:=fun b o e n hb=>
  fl.b1 b o (I.base.keep b o e n hb (fun z=>nomatch z)) (I.base.free b o e n (fun z=>nomatch z)) (qU I e hb)
 have old0:∀ b o,s₀.heap.get? b=some o->b ∉ bN outer->∃ o',B.get? b=some o':=fun b o e hb=>by
  obtain ⟨o1,e1⟩:=I.base.there b o e (fun z=>nomatch z)
  exact fl.b0 b o1 e1 (qU I e hb)
 refine⟨H',B,a,C,rfl,⟨I'.os,I'.bare,⟨fun b o e n hb _=>fly'.1 _ _ (old b o e n hb),fun b o e n hb _=>slot b o e hb,fun b o e n hx=>I'.base.free b o e n hx,fun b o e _=>?_,I'.base.tups,I'.base.frzs,I'.base.tbls⟩,fl.hok2 fly'.1,⟨a0,fly'⟩,old0,old,fun b u o e h=>?_⟩,hE _ _ _ q⟩
 ·by_cases hb:b ∈ bN outer
  ·obtain ⟨sl,e1⟩:=slot b o e hb
   exact⟨_,e1⟩
  ·obtain ⟨o',e1⟩:=old0 b o e hb
   exact⟨o',fly'.1 _ _ e1⟩
 ·obtain ⟨ob,e1⟩:=(fl.hok b u e).at
  have e2:=fl.b2 b u ob e e1
  have e3:=fly'.1 _ _ e2
  have h:h'.get? b=some o:=h
  rw [h] at e3; cases e3; exact e2
theorem ax4 {pins:List (Addr × Obj)}{σ:St}{H:Hp}{s:Shared}{h':Heap}{e C:Addr}{args:List Value} (I:a8 (cV (dM P w) P w K mg base N qual scope f cd A outer s₀ H₀ E₀) pins σ H s) (mx:Heap.MadeExcOf s.heap h' e (.ref C) args) (q:E₀ (.ref C) none H) :
  (cV (dM P w) P w K mg base N qual scope f cd A outer s₀ H₀ E₀).xe (.ref e) { s with heap:=h' }:=by
 have tr:∀ b u,H b=some u->b ∉ bN (envOfC qual scope s₀.heap.objs.size f cd :: outer):=fun b u z n=>by
  rw [I.stkFree b n] at z; cases z
 have inB:∀ b o,s.heap.get? b=some o->b ∉ bN (envOfC qual scope s₀.heap.objs.size f cd :: outer)->(PySem.W.hideAll s.heap (bN (envOfC qual scope s₀.heap.objs.size f cd :: outer))).get? b=some o:=fun b o z n=>PySem.W.hideAll_get _ z n
 refine wpAny_leaves_madeW (base:=PySem.W.hideAll s.heap (bN (envOfC qual scope s₀.heap.objs.size f cd :: outer))) I.ok.frames rfl (fun b o z=>PySem.W.of_hideAll _ z) (PySem.W.funFrames_hide I.stack fun env he b hb=>List.mem_filterMap.mpr ⟨env,he,hb⟩) mx fun h'' t fly _ _ up=>?_
 have slot:∀ b o,s₀.heap.get? b=some o->b ∈ bN outer->∃ sl,h''.get? b=some { o with slots:=sl }:=fun b o e hb=>by
  obtain ⟨sl,e1⟩:=I.base.slot b o e (I.ok.frf b hb) hb (fun z=>nomatch z)
  obtain ⟨_,o2,e2,nf⟩:=I.ok.funs.mem hb
  rw [show (cV (dM P w) P w K mg base N qual scope f cd A outer s₀ H₀ E₀).s₀=s₀ from rfl,e] at e2
  cases e2
  obtain ⟨sl',e3⟩:=up b _ (mx.keeps _ _ e1) nf
  exact⟨sl',e3⟩
 have old:∀ b o,s₀.heap.get? b=some o->H₀ b=none->b ∉ bN outer->(PySem.W.hideAll s.heap (bN (envOfC qual scope s₀.heap.objs.size f cd :: outer))).get? b=some o:=fun b o e n hb=>
  inB b o (I.base.keep b o e n hb (fun z=>nomatch z)) (qU I e hb)
 have old0:∀ b o,s₀.heap.get? b=some o->b ∉ bN outer->∃ o',(PySem.W.hideAll s.heap (bN (envOfC qual scope s₀.heap.objs.size f cd :: outer))).get? b=some o':=fun b o e hb=>by
  obtain ⟨o1,e1⟩:=I.base.there b o e (fun z=>nomatch z)
  exact⟨o1,inB b o1 e1 (qU I e hb)⟩
 refine⟨H,_,e,C,rfl,⟨I.os,I.bare,⟨fun b o e n hb _=>fly.1 _ _ (old b o e n hb),fun b o e n hb _=>slot b o e hb,fun b o e n hx=>I.base.free b o e n hx,fun b o e _=>?_,I.base.tups,I.base.frzs,I.base.tbls⟩,fun b u z=>?_,⟨_,fly⟩,old0,old,fun b u o z h=>?_⟩,q⟩
 ·by_cases hb:b ∈ bN outer
  ·obtain ⟨sl,e1⟩:=slot b o e hb
   exact⟨_,e1⟩
  ·obtain ⟨o',e1⟩:=old0 b o e hb
   exact⟨o',fly.1 _ _ e1⟩
 ·refine (I.hok b u z).stay (fun c v hc y=>?_) (fun _ y=>y) fun _ _ y=>y
  rcases hc with z' | z'
  ·subst z'; exact fly.1 _ _ (inB _ _ y (tr _ _ z))
  ·exact fly.1 _ _ (inB _ _ y (tr _ _ z'))
 ·obtain ⟨ob,e1⟩:=(I.hok b u z).at
  have e2:=inB b ob e1 (tr b u z)
  have e3:=fly.1 _ _ e2
  have h:h''.get? b=some o:=h
  rw [h] at e3; cases e3; exact e2
end
structure m8 (X:Cx) (E:XK):Prop where
 pass:mX (dM X.prog X.w) X E
 made:∀ (pins:List (Addr × Obj)) (σ:St) (H:Hp) (s:Shared) (h':Heap) (e C:Addr) (args:List Value),a8 X pins σ H s->Heap.MadeExcOf s.heap h' e (.ref C) args->E (.ref C) none H->X.xe (.ref e) { s with heap:=h' }
 own:PassesOwn (model X.prog X.w) X.A X.env X.xe
theorem ax5 {P:Program}{w:World}{K:PySem.W.Frag}{mg:Str->Option Value}{base:Heap}{N:List Str}{qual:Str}{scope:Scope}{f:Addr}{cd:Value}{A:Around}{outer:List Env}{s₀:Shared}{H₀:Hp}{E₀ E₁:XK} (hE:∀ c d H',E₁ c d H'->E₀ c d H') :
  m8 (cV (dM P w) P w K mg base N qual scope f cd A outer s₀ H₀ E₀) E₁:=
 ⟨ax3 hE,fun _ _ _ _ _ _ _ _ I mx q=>ax4 I mx (hE _ _ _ q),PassesOwn.leaving⟩
def K5 (E:XK) (C:Addr) (t:TA):TS:=fun _ σ H=>t σ H fun vs H1=>vs.length<=sizeLine/\E (.ref C) none H1
theorem ax6 {X:Cx}{E:XK}{x:Str}{C:Addr}{bm:List Value}{B newId initId:String}{np cpos pos:Pos}{e:Expr}{es:List Expr}{t:TA} (hX:m8 X E) (hc:X.calm=true) (O:OwnCls x C bm newId X.mg X.base) (FB:ExcBaseFacts B newId initId bm) (ha:PA X (e :: es) t) (hg:Gl X x)
  (hd:(x == ("__debug__" : Str))=false:=by decide) (he:starEach (e :: es) X.env=(false,eval e X.env) :: starEach es X.env:=by rfl) (hpl:(backTo cpos (starEach es X.env)).any (·.1)=false:=by rfl) :
  PS X (.Raise (some (.Call (.Name x np) (e :: es) [] cpos)) none pos) (K5 E C t):=by
 intro pins s σ H D I h
 obtain ⟨tl,Na,nm,qn,bs,hx,sn,sub,ab,col,dd,k0,k1,k2,k3,k5,mN,hC,hN,hni,T⟩:=O.obj
 refine wpAny_Raise_call_subT (nm:=nm) (q:=qn) (N:=Na) (bs:=bs) (bm:=tl) (hdct:=hx) (sn:=sn) (sub:=sub) (ab:=ab) (col:=col) (dd:=dd) (k0:=k0) (k1:=k1) (k2:=k2) (k3:=k3) (k5:=k5) FB (C:=C) (mN:=mN) (T.hasType FB.hasBase) (I.ok.hd hc) (by rw [he]; show (false || (backTo cpos (starEach es X.env)).any (·.1))=false; rw [hpl]; rfl) hni (mQ I hg O.bound ⟨rfl,?_⟩ hd)
 have h1:=ha cpos pins s σ H _ I h
 rw [he] at h1 ⊢
 refine Calls.evalArgs_plain (bf5 h1 (fun us s2 h2=>?_) fun _ _ y=>y)
 obtain ⟨vs,H2,I2,r,hl,q⟩:=h2
 have r:aI vs us:=r
 exact⟨rfl,by show us.length<=sizeLine; rw [<- r.length]; exact hl,I2.bk _ _ hC,hN.keeps I2.bk,T.keeps I2.bk,fun h' e' mx=>hX.made pins σ H2 s2 h' e' C _ I2 mx q⟩
theorem fE.okX {P:Program}{w:World}{K:PySem.W.Frag}{mg:Str->Option Value}{base:Heap}{x qual:Str}{st:Stmt}{f:Addr}{fd:FuncData}{N ps:List Str}{k:Nat}{sp:Sp} (F:fE K x qual st f fd) (S:FnScope N ps (b6 st)) (len:∀ vs H Q E,sp vs H Q E->vs.length=ps.length)
  (hbody:∀ (cdv:Value) (A:Around) (outer:List Env) (s:Shared) (H:Hp) (vs:List V) (Q:VK) (E:XK),bZ k (A.deeper (envOfC qual (b6 st) s.heap.objs.size f cdv))->sp vs H Q E->
   ∃ t,dF (cV (dM P w) P w K mg base N qual (b6 st) f cdv A outer s H E) (dU st) t/\t { nx:=fun _ H'=>Q .non H',rt:=Q } (fY N vs) H):dC P w K mg base (dM P w) (k+1) f fd ps sp:=by
 obtain ⟨oc,od,kV,doc,pm,an,cdv,ct,osl,rfl,lk,hcd⟩:=F.ex
 exact yG lk hcd S len fun A outer s H vs Q E hr hsp=>hbody cdv A outer s H vs Q E hr hsp
section
variable {X : Cx} {pins : List (Addr × Obj)} {σ : St} {H H1 H' : Hp} {s s1 s' : Shared} {B h2 : Heap} {a C : Addr}
theorem K6 {oe:Obj} (I:a8 X pins σ H1 s1) (fl:kQ X.prog X.w X.stack H1 s1 H' B a C s') (st:B.StaysIn h2) (up:s'.heap.UpToSlots h2) (he:h2.get? a=some oe) :
  a8 X pins σ (upd H' a (.frz oe (.own a))) { s' with heap:=h2 }:=by
 obtain ⟨a0,fly⟩:=fl.fly
 have na:B.get? a=none:=fly.2.1
 have nf:a ∉ bN X.stack:=fun z=>by
  obtain ⟨_,o,e,d⟩:=fly.2.2.1.mem z
  obtain ⟨o2,vs,e2,_,d2,_⟩:=fly.first
  rw [e] at e2; cases e2
  exact d vs d2
 have nb:∀ b o,s1.heap.get? b=some o->b ≠ a:=fun b o e z=>by
  subst z
  obtain ⟨o',e'⟩:=fl.b0 _ o e nf
  rw [na] at e'; cases e'
 have nt:∀ b u,H' b=some u->b ≠ a:=fun b u e z=>by
  subst z; rw [fl.fresh] at e; cases e
 have off:∀ b,b ≠ X.env.locals->b ∉ X.fs->b ∉ bN X.stack:=fun b n1 n2 z=>(aW3.mp (I.stkSub b z)).elim n1 n2
 have slot:∀ b o,s1.heap.get? b=some o->b ∈ bN X.stack->∃ sl,h2.get? b=some { o with slots:=sl }:=fun b o e hb=>by
  obtain ⟨sl,e1⟩:=fl.un.any e (I.stkFree b hb) (fun z=>nomatch z)
  obtain ⟨_,o2,e2,d⟩:=I.stack.mem hb
  rw [e] at e2; cases e2
  obtain ⟨sl',e3⟩:=up b _ e1 d
  exact⟨sl',e3⟩
 have ns:∀ m,s1.heap.Ns X.env.locals m->h2.Ns X.env.locals m:=fun m hm=>by
  obtain ⟨o,es,ep,e,r⟩:=hm
  obtain ⟨sl,e1⟩:=fl.un.any e I.free (fun z=>nomatch z)
  exact up.ns ⟨_,es,ep,e1,r⟩
 have hok:bT X.prog X.w (upd H' a (.frz oe (.own a))) h2:=fun b u e=>by
  by_cases hb:b=a
  ·subst hb; rw [bU] at e; cases e; exact⟨he,_,he⟩
  ·rw [aX hb] at e
   exact (fl.hok2 st b u e).stay (fun _ _ _ q=>q) (fun c q=>by rw [aX (nt c _ q)]; exact q) fun c xs q=>by rw [aX (nt c _ q)]; exact q
 have bare:=fl.bare
 have un:=fl.un
 have b0:=fl.b0
 have b1:=fl.b1
 have os:=fl.os
 clear fl fly up
 obtain ⟨hh,g,d,t,os'⟩:=s'
 obtain rfl:os'=s1.os:=os
 show a8 X pins σ _ { s1 with heap:=h2,gens:=g,drawn:=d,toks:=t }
 refine I.step (h':=h2) (g':=g) (d':=d) (t':=t) (ch:=[]) (fun _ z=>nomatch z) (fun b o n1 n2 _ e n=>st _ _ (b1 b o e n (off b n1 n2))) (fun b o n1 hb _ e n=>?_) (fun b o _ e n=>by rw [aX (nb b o e)]; exact un.free b o e n (fun z=>nomatch z)) (fun b o _ e=>?_)
  (fun b xs q=>by rw [aX (nt b _ (un.tups b xs q))]; exact un.tups b xs q) (fun b o u q=>by rw [aX (nt b _ (un.frzs b o u q))]; exact un.frzs b o u q) (fun b ps q=>by
   obtain ⟨more,q'⟩:=un.tbls b ps q
   exact⟨more,by rw [aX (nt b _ q')]; exact q'⟩) ns hok bare
 ·by_cases hs:b ∈ bN X.stack
  ·exact slot b o e hs
  ·exact⟨o.slots,st _ _ (b1 b o e n hs)⟩
 ·by_cases hb:b ∈ bN X.stack
  ·obtain ⟨sl,e1⟩:=slot b o e hb
   exact⟨_,e1⟩
  ·obtain ⟨o',e1⟩:=b0 b o e hb
   exact⟨o',st _ _ e1⟩
abbrev Cx.suite (X:Cx) (a:Addr):Cx:={ X with A:=X.A.mark (some (.ref a)),calm:=false,xe:=fun _ _=>False }
theorem Cx.Ok.suite {X:Cx} (ok:X.Ok) (a:Addr):(X.suite a).Ok:=
 ⟨ok.mod,ok.kind,ok.glob,ok.blt,ok.above,ok.inj,ok.has,ok.cab,fun z=>Bool.noConfusion z,ok.frames,ok.stk,ok.exf,ok.bs,ok.bsz,ok.noex,ok.exfs,ok.funs,ok.frf⟩
theorem a8.suite (I:a8 X pins σ H s) (a:Addr):a8 (X.suite a) pins σ H s:=⟨I.ok.suite a,I.os,I.bare,I.base,I.loc,I.cell,I.free,I.freeC,I.pin,I.hok,I.len⟩
theorem a8.unsuite (I:a8 (X.suite a) pins σ H s) (ok:X.Ok):a8 X pins σ H s:=⟨ok,I.os,I.bare,I.base,I.loc,I.cell,I.free,I.freeC,I.pin,I.hok,I.len⟩
theorem qV {M:Model}{A:Around}{E:Value->Shared->Prop}{i:Nat}{x:Str}{pos:Pos}{Q:Unit->Shared->Prop} (I:a8 X pins σ H s) (hN:X.N.Nodup) (hi:X.N[i]? = some x) (hk:X.env.scope.names.lookup x=some .local)
  (h:∀ s',a8 X pins (σ.set i none) H s'->Q () s'):wpAny M A (do bindName X.env x .none; unbindBehindTheSuite X.env x pos) Q E s:=by
 obtain ⟨m,hn,hl⟩:=id I.loc
 obtain ⟨oL,_,_,hoL,_⟩:=id hn
 have ab:∀ b o,X.s₀.heap.get? b=some o->b ≠ X.env.locals:=fun b o e=>aZ0 (aY0 (aX1 e) I.ok.above)
 refine wpAny_nameGoes_keeps hk hn (by rw [I.ok.kind]; rfl) fun h' v hn' hs=>?_
 refine h _ ⟨I.ok,I.os,I.bare,⟨fun b o e n hb hx=>(hs.2 b (ab b o e)).trans (I.base.keep b o e n hb hx),fun b o e n hb hx=>?_,I.base.free,fun b o e hx=>?_,I.base.tups,I.base.frzs,I.base.tbls⟩,⟨_,hn',fun j y v' e1 e2 e3=>?_⟩,fun y c e=>?_,I.free,I.freeC,fun p hp=>?_,fun b u e=>?_,by simpa using I.len⟩
 ·obtain ⟨sl,e1⟩:=I.base.slot b o e n hb hx
  exact⟨sl,(hs.2 b (ab b o e)).trans e1⟩
 ·obtain ⟨o',e1⟩:=I.base.there b o e hx
  exact⟨o',(hs.2 b (ab b o e)).trans e1⟩
 ·by_cases hj:j=i
  ·subst hj
   have hjl:j < σ.length:=by rw [I.len]; exact (aW9.mp hi).1
   rw [bd0 hjl] at e2
   cases e2
  ·rw [aZ2 (Ne.symm hj)] at e2
   obtain ⟨u',r',q⟩:=hl j y v' e1 e2 e3
   refine⟨u',r',?_⟩
   rcases q with ⟨k,e⟩ | ⟨k,c,e,z⟩
   ·have ny:y ≠ x:=fun z=>hj (sO hN e1 (z ▸ hi))
    exact .inl ⟨k,by simp [ny,e]⟩
   ·exact .inr ⟨k,c,e,z.sameBut hs (I.cne y c e)⟩
 ·obtain ⟨w',z⟩:=I.cell y c e
  exact⟨w',z.sameBut hs (I.cne y c e)⟩
 ·obtain ⟨e,n,ne,nf,d⟩:=I.pin p hp
  exact⟨(hs.2 p.1 ne).trans e,n,ne,nf,d⟩
 ·refine (I.hok b u e).stay (fun c v hc q=>(hs.2 c fun z=>?_).trans q) (fun _ q=>q) fun _ _ q=>q
  subst z
  rcases hc with z | z
  ·subst z; rw [I.free] at e; cases e
  ·rw [I.free] at z; cases z
theorem ax7 {M:Model}{A:Around}{E:Value->Shared->Prop}{K:PySem.W.Frag}{e C D:Addr}{oe:Obj}{Q:Bool->Shared->Prop} (k:K.In s.heap) (he:s.heap.get? e=some oe) (hc:oe.cls = .ref C) (h1:(PySem.W.clsIn K D).isSome=true) (h2:PySem.W.typeIn K (.ref D)=some (.type "type"))
  (h3:PySem.W.subIn K (.ref D) (.type "BaseException")=some true) (h4:PySem.W.subIn K (.ref C) (.ref D)=some true) (hq:Q true s):wpAny M A (excMatches (.ref e) (.ref D)) Q E s:=by
 obtain ⟨h,g,d,t,os⟩:=s
 have k:K.In h:=k
 have he:h.get? e=some oe:=he
 have l1:PySem.W.Looks M h (isType (.ref D)) true:=by
  unfold PySem.W.clsIn at h1
  split at h1
  ·rename_i c' d' cd' sl' ho
   intro A' Q' E' s' kk q
   unfold isType loadHead
   exact aV7 (wpAny_loadPart (kk _ _ (k _ _ ho)) (aW2 q))
  ·cases h1
 have l2:PySem.W.Looks M h (typeOf (.ref D)) (.type "type"):=PySem.W.looks_typeIn k h2
 have l3:PySem.W.Looks M h (isSubtype (.ref D) (.type "BaseException")) true:=PySem.W.looks_subIn k h3
 have l4:PySem.W.Looks M h (isSubtype (.ref C) (.ref D)) true:=PySem.W.looks_subIn k h4
 have l5:PySem.W.Looks M h (typeOf (.ref e)) (.ref C):=hc ▸ (PySem.W.Looks.ld he).andThen .now
 have l6:PySem.W.Looks M h (isInstance (.ref D) (.type "tuple")) false:=l2.andThen (PySem.W.Looks.of_pure tc_notTuple)
 have l7:PySem.W.Looks M h (isExcClass (.ref D)) true:=by
  unfold isExcClass
  exact l1.andThen (by simpa using l3)
 have f:=tc_notTuple
 unfold excMatches
 repeat (first | exact hq | (with_reducible refine l2.at ?_) | (with_reducible refine l7.at ?_) | (with_reducible refine l1.at ?_) | (with_reducible refine l3.at ?_) | (with_reducible refine l5.at ?_) | (with_reducible refine l4.at ?_) | wp_step)
end
def vC (D:cP) (i:Nat):cP:={ nx:=fun σ H=>D.nx (σ.set i none) H,rt:=D.rt,bk:=fun σ H=>D.bk (σ.set i none) H,ct:=fun σ H=>D.ct (σ.set i none) H }
section
variable {X : Cx} {pins : List (Addr × Obj)} {σ : St} {H H1 H' : Hp} {s s1 s' : Shared} {B : Heap} {a C Ch : Addr} {i : Nat} {x n : Str} {np pos hpos : Pos} {b₀ : Stmt} {suite : List Stmt} {ts : TS} {D : cP} {cG : List ExceptHandler}
structure vD (K:PySem.W.Frag) (Ch:Addr):Prop where
 c1:(PySem.W.clsIn K Ch).isSome=true
 c2:PySem.W.typeIn K (.ref Ch)=some (.type "type")
 c3:PySem.W.subIn K (.ref Ch) (.type "BaseException")=some true
theorem ax8 (I:a8 X pins σ H1 s1) (fl:kQ X.prog X.w X.stack H1 s1 H' B a C s') (hstk:X.stack=X.env :: X.outer/\X.env.frame=some X.env.locals) (hg:Gl X x) (hm:X.mg x=some (.ref Ch)) (ct:vD X.K Ch) (sub:PySem.W.subIn X.K (.ref C) (.ref Ch)=some true)
  (hN:X.N.Nodup) (hi:X.N[i]? = some n) (hl:X.env.scope.names.lookup n=some .local) (hs:dF (X.suite a) (b₀ :: suite) ts) (q:∀ oe:Obj,oe.cls = .ref C->ts (vC D i) (σ.set i (some (.ref a))) (upd H' a (.frz oe (.own a)))) (hd:(x == ("__debug__" : Str))=false) :
  wpAny (model X.prog X.w) X.A (noteFrame (.ref a) X.env) (fun _ s₂=>wpAny (model X.prog X.w) X.A (setFlight (.ref a) none) (fun _ s₃=>wpAny (model X.prog X.w) X.A (handleBy (.ref a) X.env (.ExceptHandler (some (.Name x np)) (some n) (b₀ :: suite) hpos :: cG)) (SP X pins D) X.xe s₃) X.xe s₂) X.xe s':=by
 obtain ⟨a0,fly⟩:=fl.fly
 rw [hstk.1] at fly
 refine wpAny_looks_onW (outer:=X.outer) (L:=X.env.locals) (by rw [I.ok.frames,hstk.1]) hstk.2 fly fun h4 held up4=>wpAny_landsW held fun h5 fly5 up5=>?_
 obtain ⟨o5,v5,e5,c5,_⟩:=fly5.first
 have I5:=K6 I fl fly5.1 (up4.trans up5) e5
 refine wpAny_handleBy_cons (codeAny_handlers_test (mQ (I5.suite a) hg hm ?_ hd)) (by intro z; cases z)
 refine ax7 I5.kIn e5 c5 ct.c1 ct.c2 ct.c3 sub ?_
 show codeAny (model X.prog X.w) (X.A.mark (some (.ref a))) (.handlers (.ref a) [.ExceptHandler none (some n) (b₀ :: suite) hpos] X.env) _ _
 refine codeAny_handlers_suite_as (lands_againW fly5 fun h6 fly6 up6=>?_)
 obtain ⟨o6,v6,e6,c6,_⟩:=fly6.first
 have I6:=K6 I fl fly6.1 ((up4.trans up5).trans up6) e6
 refine oI I6 hN hi (.inl hl) (v:=.ref a) rfl (fun s7 I7=>?_) (.inr hl)
 refine bf5 (hs pins s7 _ _ (vC D i) (I7.suite a) (q o6 c6)) (fun f s8 h8=>?_) fun _ _ z=>z.elim
 show wpAny (model X.prog X.w) X.A (do bindName X.env n .none; unbindBehindTheSuite X.env n hpos) (fun _ s9=>SP X pins D f s9) X.xe s8
 cases f with
 | next=>obtain ⟨σ',H',J,q⟩:=h8; exact qV (J.unsuite I.ok) hN hi hl fun s9 J9=>⟨_,_,J9,q⟩
 | brk=>obtain ⟨σ',H',J,q⟩:=h8; exact qV (J.unsuite I.ok) hN hi hl fun s9 J9=>⟨_,_,J9,q⟩
 | cont=>obtain ⟨σ',H',J,q⟩:=h8; exact qV (J.unsuite I.ok) hN hi hl fun s9 J9=>⟨_,_,J9,q⟩
 | ret u=>obtain ⟨v,σ',H',J,r,q⟩:=h8; exact qV (J.unsuite I.ok) hN hi hl fun s9 J9=>⟨v,_,_,J9,r,q⟩
end
abbrev TB:=cP->XK->St->Hp->Prop
def XB (X:Cx) (pins:List (Addr × Obj)) (σ:St) (Ex:XK):Value->Shared->Prop:=fun e s'=>∃ H1 s1,a8 X pins σ H1 s1/\dM X.prog X.w X.stack H1 s1 Ex e s'
def PB (X:Cx) (sts:List Stmt) (t:TB):Prop:=
 ∀ (pins:List (Addr × Obj)) (s:Shared) (σ:St) (H:Hp) (D:cP) (Ex:XK),a8 X pins σ H s->t D Ex σ H->wpAny (model X.prog X.w) X.A (execs sts X.env) (SP X pins D) (XB X pins σ Ex) s
section
variable {X : Cx} {k : Nat} {f Ch : Addr} {fd : FuncData} {ps : List Str} {sp : Sp} {x n : Str} {p cp pos np hpos : Pos} {e c : Expr} {es : List Expr} {t : TA} {tb ub : TB} {tc : TT} {sa sb body : List Stmt} {i : Nat} {b₀ : Stmt} {suite : List Stmt} {ts : TS}
def K7 (K:PySem.W.Frag) (Ch:Addr) (i:Nat) (tb:TB) (ts:TS):TS:=fun D σ H=>
 tb D (fun c _ H'=>∀ (a C:Addr) (oe:Obj),c = .ref C->H' a=none->oe.cls = .ref C->PySem.W.subIn K (.ref C) (.ref Ch)=some true/\ts (vC D i) (σ.set i (some (.ref a))) (upd H' a (.frz oe (.own a)))) σ H
theorem ax9 (hstk:X.stack=X.env :: X.outer/\X.env.frame=some X.env.locals) (hb:PB X body tb) (hg:Gl X x) (hm:X.mg x=some (.ref Ch)) (ct:vD X.K Ch) (hN:X.N.Nodup) (hi:X.N[i]? = some n) (hl:X.env.scope.names.lookup n=some .local) (hs:∀ a,dF (X.suite a) (b₀ :: suite) ts)
  (hd:(x == ("__debug__" : Str))=false:=by decide):PS X (.Try body [.ExceptHandler (some (.Name x np)) (some n) (b₀ :: suite) hpos] [] [] pos) (K7 X.K Ch i tb ts):=by
 intro pins s σ H D I h
 refine wpAny_Try_except (bf5 (hb pins s σ H D _ I h) (fun fl s1 q=>?_) (fun ev s1 q=>?_))
 ·cases fl with
  | next=>exact wpAny_execs_nil q
  | _=>exact q
 ·obtain ⟨H1,s2,I1,H',B,a,C,e1,fl,q⟩:=q
  subst e1
  obtain ⟨a0,fly⟩:=fl.fly
  obtain ⟨o5,_,_,c5,_⟩:=fly.first
  exact ax8 I1 fl hstk hg hm ct (q a C o5 rfl fl.fresh c5).1 hN hi hl (hs a) (fun oe hc=>(q a C oe rfl fl.fresh hc).2) hd
end
end L2
namespace L2
open PySem PySem.Spec PyProof.Rows PySem.Calls Builtin Builtin.ObjectAttr Builtin.Getset_descriptor
structure iH (K:PySem.W.Frag) (D:Addr):Prop where
 cls:(PySem.W.clsIn K D).isSome=true
 ga:PySem.W.findIn K (.ref D) "__getattribute__" = some (some (.builtin "BaseException.__getattribute__"))
 gt:PySem.W.findIn K (.ref D) "__getattr__" = some none
 fc:PySem.W.findIn K (.ref D) "__class__" = some (some (.builtin "object.__class__"))
 fg:PySem.W.specialIn K (.builtin "object.__class__") "__get__" = some (some (.builtin "getset_descriptor.__get__"))
 ft:PySem.W.takesIn K (.builtin "object.__class__")=some true
 ob:PySem.W.mroIn K D (.type "object")=some true
 be:PySem.W.mroIn K D (.type "BaseException")=some true
def k6 (h:Heap) (x D:Addr):Prop:=∃ ox:Obj,h.get? x=some ox/\ox.cls = .ref D
theorem k6.type {h:Heap}{x D:Addr}{M:Model} (I:k6 h x D):PySem.W.Looks M h (typeOf (.ref x)) (.ref D):=by
 obtain ⟨ox,e,c⟩:=I
 exact c ▸ (PySem.W.Looks.ld e).andThen .now
section
variable {prog : Program} {w : World} {A : Around} {E : Value → Shared → Prop} {K : PySem.W.Frag} {x D : Addr} {h : Heap} {g : Array GenState} {d : Drawn} {t : Nat} {os : OsState}
theorem ay0 {M:Model} (F:iH K D) (k:K.In h):PySem.W.Looks M h (find (.ref x) (.ref D) "__class__") (.bind (.builtin "getset_descriptor.__get__") (.builtin "object.__class__")):=by
 have L1:=PySem.W.looks_findIn (M:=M) k F.fc
 have L2:=PySem.W.looks_specialIn (M:=M) k F.fg
 have L3:=PySem.W.looks_takesIn (M:=M) k F.ft
 unfold find
 refine L1.andThen (PySem.W.Looks.andThen (a:=some (Value.builtin "getset_descriptor.__get__")) L2 ?_)
 refine PySem.W.Looks.andThen (a:=some (Value.builtin "getset_descriptor.__get__",Value.builtin "object.__class__")) ?_ (PySem.W.Looks.tag .now)
 unfold dataDescriptor?
 exact L3.andThen .now
theorem ay1 {tp:Value}{R:Result->Shared->Prop} (F:iH K D) (k:K.In h) (I:k6 h x D) (hq:R (.ok (.ret (.ref D))) ⟨h,g,d,t,os⟩):codeAny (model prog w) A (.call (.builtin "getset_descriptor.__get__") ⟨[.builtin "object.__class__",.ref x,tp],[]⟩) R ⟨h,g,d,t,os⟩:=by
 have L0:=I.type (M:=model prog w)
 have L1:=PySem.W.looks_mroIn (M:=model prog w) k F.ob
 refine codeAny_call_builtin PySem.W.KF.slot_gs.plain PySem.W.KF.entry_gs (PySem.W.KF.slot_gs.check _ _ _ _ _ _ _ _ PySem.W.KF.type_class (PySem.W.KF.args_gs _ _ _) ?_)
 unfold Builtin.«getset_descriptor.__get__» descrGet; rw [PySem.W.dga_obj]
 refine aV7 (aW2 ?_); unfold descrGetter descrCheckInstance descrNameAndClass isInstance
 simp only [PySem.W.KF.owner_class]
 repeat lk
 refine⟨Code.quiet_builtin _ (by decide +kernel),bg1 PySem.W.KF.entry_class ?_⟩; unfold Builtin.«object.__class__» shownTypeOf
 repeat lk
 exact hq
theorem ay2 {M:Model}{nameV:Value}{Q:Unit->Shared->Prop} (F:iH K D) (k:K.In h) (I:k6 h x D) (hq:Q () ⟨h,g,d,t,os⟩):wpAny M A (checkBuiltinCall "BaseException.__getattribute__" ⟨[.ref x,nameV],[]⟩) Q E ⟨h,g,d,t,os⟩:=by
 have kd:builtinKind "BaseException.__getattribute__" = some .slot:=by decide +kernel
 have sp:splitId "BaseException.__getattribute__" = some ("BaseException","__getattribute__"):=by decide +kernel
 have L:PySem.W.Looks M h (isInstance (.ref x) (.type "BaseException")) true:=(I.type (M:=M)).andThen (PySem.W.looks_mroIn k F.be)
 have ha:=PySem.F.args_bexc_ga (.ref x) nameV
 simp only [checkBuiltinCall,kd,sp]
 refine aV7 (L.at ?_)
 repeat (any_goals (first | assumption | wp_step))
theorem ay3 {tk:Tok}{Q:Fin->Shared->Prop} (F:iH K D) (k:K.In h) (I:k6 h x D) (hq:Q (.done (.ret (.ref D))) ⟨h,g,d,t,os⟩):wpAny (model prog w) A (Builtin.«object.__getattribute__» ⟨[.ref x,.str "__class__" tk],[]⟩) Q E ⟨h,g,d,t,os⟩:=by
 have L0:=I.type (M:=model prog w)
 have L1:=ay0 (M:=model prog w) F k (x:=x)
 refine aV7 (aW2 (aV7 (aW2 (aV7 (L0.at (aV7 (L1.at ?_)))))))
 show wpAny _ _ (holding [_] (call _ _) >>= ret) _ _ _
 exact aV7 (bb0 (wpAny_call (ay1 F k I (aW2 hq))))
theorem ay4 {tk:Tok}{R:Result->Shared->Prop} (F:iH K D) (k:K.In h) (I:k6 h x D) (hq:R (.ok (.ret (.ref D))) ⟨h,g,d,t,os⟩):codeAny (model prog w) A (.call (.builtin "BaseException.__getattribute__") ⟨[.ref x,.str "__class__" tk],[]⟩) R ⟨h,g,d,t,os⟩:=
 codeAny_call_builtin PySem.F.excAttr_ValueError.ga.plain PySem.F.entry_bexc_ga (ay2 F k I (ay3 F k I hq))
theorem ay5 {Q:Option Value->Shared->Prop} (F:iH K D) (k:K.In h) (I:k6 h x D) (hq:Q (some (.ref D)) ⟨h,g,d,t+1,os⟩):wpAny (model prog w) A (getAttr? (.ref x) "__class__") Q E ⟨h,g,d,t,os⟩:=by
 have L0:=I.type (M:=model prog w)
 have L1:=PySem.W.looks_findIn (M:=model prog w) k F.ga
 have L2:=PySem.W.looks_findIn (M:=model prog w) k F.gt
 have f3:=PySem.F.excAttr_ValueError.ga.bind (.ref x)
 unfold getAttr? getAttrBy? getAttrBy
 refine aV7 (wpAny_mkText (aV7 (bm3 (bb0 (aV7 (L0.at (aV7 (L1.at ?_))))))))
 have nx:(onTheHeap (Value.ref D) && Value.builtin "BaseException.__getattribute__" == Value.builtin "object.__getattribute__")=false:=by
  rw [show (Value.builtin "BaseException.__getattribute__" == Value.builtin "object.__getattribute__")=false by decide +kernel,bf6]
 dsimp only
 rw [if_neg (by rw [nx]; decide)]
 unfold getAttrByItsOwn hookBefore
 repeat (any_goals (first | assumption | (with_reducible refine L2.at ?_) | wp_step))
 exact ay4 F k I (PySem.W.handed_on rfl (aW2 hq))
end
theorem ay6 {K:PySem.W.Frag}{x D:Addr} (F:iH K D):PySem.W.KitX K (.ref x) (.ref D) (fun h=>k6 h x D) where
 ty:=fun _ _ _ I=>I.type
 it:=fun M h k _=>by
  have z:=F.cls
  unfold PySem.W.clsIn at z
  split at z
  ·rename_i c' d' cd' sl' ho
   intro A' Q' E' s' kk q
   unfold isType loadHead
   exact aV7 (wpAny_loadPart (kk _ _ (k _ _ ho)) (aW2 q))
  ·cases z
 ne:=fun h tp dd its n sl k htp=>by
  have z:=F.cls
  refine Bool.eq_false_iff.mpr fun q=>?_
  obtain rfl:D=tp:=Value.ref.inj (beq_iff_eq.mp q)
  unfold PySem.W.clsIn at z
  split at z
  ·rename_i ho
   have y:=(k _ _ ho).symm.trans htp
   cases y
  ·cases z
 ca:=fun {_ _ _ _ _ s} k I q=>by
  obtain ⟨h,g,d,t,os⟩:=s
  exact ay5 F k I q
end L2
namespace Raw
open PySem PySem.W PySem.Calls PyProof.Rows
theorem j9 {α β:Type} (f:α->β):∀ (j:Nat) (l:List α),(l.eraseIdx j).map f=(l.map f).eraseIdx j
 | _,[]=>rfl
 | 0,_ :: _=>rfl
 | j+1,x :: r=>by
  show f x :: (r.eraseIdx j).map f=f x :: (r.map f).eraseIdx j
  rw [j9 f j r]
section
variable {prog : Program} {w : World} {K : Type} [DecidableEq K] {knd : HeapKind prog w K} {A : Around} {E : Value → Shared → Prop} {s : Shared} {d a : Addr} {k : K} {xs : List (K × Addr × Value)}
def K8 (knd:HeapKind prog w K) (h:Heap) (d:Addr) (xs:List (K × Addr × Value)) (j:Nat):Prop:=∃ o es ep,h.get? d=some o/\o.ExactDict/\o.data = .dict es ep/\es.toList=(xs.eraseIdx j).map (entryOfKey knd)
theorem ay7 {Q:Option DictEntry->Shared->Prop} (hu:knd.room A) (hkey:knd.is s.heap k a) (hm:s.heap.DictOfH knd d xs) (hz:xs.length<=sizeLine) (is:∃ (j:Nat) (p:Addr × Value),xs[j]? = some (k,p))
  (q:∀ (j:Nat) (p:Addr × Value) h',xs[j]? = some (k,p)->K8 knd h' d xs j->Heap.SameBut d s.heap h'->Q (some (entryOfKey knd (k,p))) { s with heap:=h',toks:=s.toks+knd.draws k }):wpAny (model prog w) A (Builtin.Dict.takeOut d (.ref a)) Q E s:=by
 obtain ⟨o,es,ep,e1,e2,e3,e4,e5,e6⟩:=hm
 obtain ⟨j0,p0,h0⟩:=is
 unfold Builtin.Dict.takeOut
 try with_reducible refine bb0 ?_
 apply aV7
 apply knd.pyHash hu hkey
 apply aV7
 refine wpAny_dictFind_heap (s:={ s with toks:=s.toks+knd.draws k }) hu hkey e1 e3 e4 e5 e6 (fun no=>absurd h0 (no j0 p0)) fun j p hj=>?_
 apply aV7
 apply wpAny_dictEntries (s:={ s with toks:=s.toks+knd.draws k }) e1 e3
 rw [entry_at e4 j,hj]
 have sz:=size_of_entries e4
 apply aV7
 refine wpAny_updateDictKeys (hz:=by omega) (s:={ s with toks:=s.toks+knd.draws k }) e1 e3 (aW2 (q j p _ hj ⟨_,_,ep+1,bd5 _ e1 (Obj.isFreed_of_dict (Obj.data_mapDictKeys e3 _)),e2.mapDictKeys _,Obj.data_mapDictKeys e3 _,?_⟩ (bi4 ..)))
 rw [j9,<- e4]
 obtain ⟨l⟩:=es
 simp
end
section
variable {prog : Program} {w : World} {K : Type} [DecidableEq K] (knd : HeapKind prog w K) (d a : Addr)
theorem ay8:MeetsIn prog w (Builtin.«dict.pop» ⟨[.ref d,.ref a],[]⟩) (fun A R s=>knd.room A.in1/\∃ k xs,knd.is s.heap k a/\s.heap.DictOfH knd d xs/\xs.length<=sizeLine/\(∃ (j:Nat) (p:Addr × Value),xs[j]? = some (k,p))/\
  ∀ (j:Nat) (p:Addr × Value) h',xs[j]? = some (k,p)->K8 knd h' d xs j->Heap.SameBut d s.heap h'->R (.ok (.ret p.2)) { s with heap:=h',toks:=s.toks+knd.draws k }):=
 .of_wp fun A R s h=>by
  obtain ⟨hu,k,xs,hk,hm,hz,is,q⟩:=h
  obtain ⟨o,es,ep,e1,e2,e3,e4,e5,e6⟩:=id hm
  have ne:es.isEmpty=false:=by
   obtain ⟨j,p,hj⟩:=is
   have sz:=size_of_entries e4
   have:=(aW9.mp hj).1
   rw [Array.isEmpty_eq_false_iff,ne_eq,<- Array.size_eq_zero_iff]
   omega
  unfold Builtin.«dict.pop»
  apply aV7
  unfold Builtin.Dict.keyAndDefault
  apply aV7
  apply wpAny_notOrdered_dict hm.typeIs
  change wpAny _ _ (pure (d,Value.ref a,none)) _ _ s
  apply aW2
  have kp:(keyPart (Value.ref a)).isSome=false:=rfl
  simp only [kp,aY8,be6]
  refine aV7 (wpAny_dictEntries e1 e3 (aV7 (aW2 ?_)))
  simp only [ne,aY8,be6]
  apply aV7
  refine ay7 hu hk hm hz is fun j p h' hj c sb=>?_
  simp only [Option.isNone_some,aY8,be6]
  exact aV7 (bi5 (aW2 ⟨p.2,rfl,q j p h' hj c sb⟩))
end
end Raw
namespace L2
open PySem PySem.Spec PyProof.Rows
theorem Paired.erase {α β:Type}{F:α->β->Prop}:∀ (j:Nat) {l:List α}{m:List β},Paired F l m->Paired F (l.eraseIdx j) (m.eraseIdx j)
 | _,_,_,.nil=>.nil
 | 0,_,_,.cons _ t=>t
 | j+1,_,_,.cons r t=>.cons r (Paired.erase j t)
theorem K9 {α β:Type}{F:α->β->Prop}:∀ {l:List α}{m:List β}{i:Nat}{y:β},Paired F l m->m[i]? = some y->∃ x,l[i]? = some x/\F x y
 | _,_,_,_,.nil,e=>by simp at e
 | _,_,0,_,.cons r _,e=>by simp at e; subst e; exact⟨_,rfl,r⟩
 | _,_,i+1,y,.cons _ t,e=>by
  rw [ba4] at e
  obtain ⟨x,h1,h2⟩:=K9 t e
  exact⟨x,by rw [ba4]; exact h1,h2⟩
theorem L4 {α β:Type}{F:α->β->Prop}:∀ {l:List α}{m:List β}{i:Nat}{x:α},Paired F l m->l[i]? = some x->∃ y,m[i]? = some y/\F x y
 | _,_,_,_,.nil,e=>by simp at e
 | _,_,0,_,.cons r _,e=>by simp at e; subst e; exact⟨_,rfl,r⟩
 | _,_,i+1,x,.cons _ t,e=>by
  rw [ba4] at e
  obtain ⟨y,h1,h2⟩:=L4 t e
  exact⟨y,by rw [ba4]; exact h1,h2⟩
section
variable {X : Cx} {pins : List (Addr × Obj)} {σ : St} {H : Hp} {s : Shared} {a b : Addr} {kvs : List (List aM × V)} {k : List aM} {A : Around} {E : Value → Shared → Prop}
theorem ay9 {Q:Value->Shared->Prop} (hu:A.units+1 < cLine) (I:a8 X pins σ H s) (e:H a=some (.dT kvs)) (eb:H b=some (.tup (k.map kV))) (is:∃ j:Nat,(kvs.map (·.1))[j]? = some k)
  (h:∀ (j:Nat) v w' s',(kvs.map (·.1))[j]? = some k->a8 X pins σ (upd H a (.dT (kvs.eraseIdx j))) s'->aP v w'->Q w' s'):wpAny (model X.prog X.w) A (call (.builtin "dict.pop") [.ref a,.ref b]) Q E s:=by
 obtain ⟨z,hd,xs,rel,dd⟩:=zC I.hok e
 have hz:xs.length<=sizeLine:=by rw [<- Paired.length rel]; exact z
 refine call_meetsIn PySem.F.slot_dict_pop dd.typeIs PySem.F.entry_dict_pop (PySem.F.args_dict_pop_2 _ _) (Raw.ay8 (tupleKind (eO X.prog X.w)) a b) ⟨tupleKind_room_in1 hu,k,xs,oX I.hok eb,dd,hz,?_,fun j p h' hj c sb=>?_⟩
 ·obtain ⟨j,hj⟩:=is
  rw [aY1] at hj
  cases ej:kvs[j]? with
  | none=>rw [ej] at hj; cases hj
  | some kv=>
   rw [ej] at hj
   cases hj
   obtain ⟨y,hy,r⟩:=L4 rel ej
   exact⟨j,y.2,by rw [hy]; exact congrArg some (Prod.ext r.1.symm rfl)⟩
 ·obtain ⟨kv,hkv,r⟩:=K9 rel hj
  obtain ⟨o,es,ep,h1,h2,h3,h4⟩:=c
  have nd:((xs.eraseIdx j).map (·.1)).Nodup:=by
   obtain ⟨_,_,_,_,_,_,_,_,nd⟩:=dd
   exact nd.sublist ((List.eraseIdx_sublist xs j).map _)
  refine h j kv.2 p.2 _ (by rw [aY1,hkv]; exact congrArg some r.1) ?_ r.2.2
  refine tO I (by rw [e]; exact bm9) sb ⟨o,h1⟩ ⟨aZ7 (List.length_eraseIdx_le kvs j) z,hd,_,KT.keeps (Paired.erase j rel) fun c ys ec=>?_,o,es,ep,h1,h2,h3,h4,nd⟩
  rw [aX (x9 ec e (fun z=>nomatch z))]
  exact ec
end
section
variable {X : Cx} {o e : Expr} {apos cpos : Pos} {td ty : TE}
def L5 (td ty:TE):TE:=fun σ H Q=>td σ H fun x H1=>∃ a,x = .ref a/\zG H1 a/\ty σ H1 fun y H2=>∃ kvs k b,H2 a=some (.dT kvs)/\y = .ref b/\H2 b=some (.tup (k.map kV))/\(∃ j:Nat,(kvs.map (·.1))[j]? = some k)/\∀ (j:Nat) v,(kvs.map (·.1))[j]? = some k->Q v (upd H2 a (.dT (kvs.eraseIdx j)))
theorem az0 (hu:X.A.units+1 < cLine) (ho:PE X o td) (he:PE X e ty) (m:M1 X o "pop" apos e cpos):PE X (.Call (.Attribute o "pop" apos) [e] [] cpos) (L5 td ty):=by
 intro pins s σ H Q I h
 refine wpAny_Call_method m.base m.few m.line PySem.F.plainAttrs_dict PySem.F.slot_dict_pop PySem.F.type_dict_pop (aQ (ho pins s σ H _ I h) fun u s1 h1=>?_)
 obtain ⟨x,H1,I1,rx,a,ex,d,q1⟩:=h1
 subst ex
 obtain rfl:u=Value.ref a:=rx
 obtain ⟨t1,t2,_⟩:=al3 I1 d
 refine⟨t1,t2,?_⟩
 rw [m.trees]
 refine Calls.callWith_builtin rfl (Calls.evalArgs_plain (Calls.spliced_cons (aQ (he pins s1 σ H1 _ I1 q1) fun iv s2 h2=>Calls.spliced_nil ?_)))
 obtain ⟨y,H2,I2,ry,kvs,k,b,ea,ey,eb,is,q2⟩:=h2
 subst ey
 obtain rfl:iv=Value.ref b:=ry
 exact ay9 hu I2 ea eb is fun j v w' s3 hj I3 rw'=>⟨v,_,I3,rw',q2 j v hj⟩
end
end L2
namespace Core
open PySem L2 PP
def vE (ns:List Int):Bool:=((ns.zip (ns.drop 1)).map fun p=>decide (p.1 < p.2)).all id
def kin (ws:List Int) (ls:List (Int × Int)) (S:List Int) (h:Int):Bool:=!decide (h ∈ S) && decide (ws.getD h.toNat 0<=(((tX ls h).filter fun x=>decide (x ∈ S)).length:Int))
def nextOf (ws:List Int) (ls:List (Int × Int)) (S:List Int):List Int:=((List.range ws.length).map fun (i:Nat)=>(i:Int)).filter (kin ws ls S)
def nU (ws:List Int) (ls:List (Int × Int)) (S:List Int):Nat->List Int
 | 0=>S
 | k+1=>nU ws ls S k ++ nextOf ws ls (nU ws ls S k)
def after (ws:List Int) (ls:List (Int × Int)) (S:List Int) (m:Nat):List (List Int):=(List.range m).map fun k=>nextOf ws ls (nU ws ls S k)
def cP (ws:List Int) (ls:List (Int × Int)) (ns:List Int) (m:Nat):Prop:=(∀ k < m,nextOf ws ls (nU ws ls ns k) ≠ [])/\nextOf ws ls (nU ws ls ns m) = []
theorem qW {lo:Int}{n i:Nat}{x:PV} (h:(jR lo n)[i]? = some x):x = .int (lo+i)/\i < n:=by
 have hi:i < n:=by
  have:=(aW9.mp h).1
  rwa [kH] at this
 rw [B3 hi] at h
 exact⟨(aY5 h).symm,hi⟩
def rng (n:Nat):List Int:=(List.range n).map fun (i:Nat)=>(i:Int)
theorem az1 (a b:List Int):intz (a ++ b)=intz a ++ intz b:=aY9
theorem az2 (a:List Int):(intz a).length=a.length:=aW6 _
def L6 (x:PV) (ns:List Int):Prop:=x = .tup (intz ns) ∨ x = .lst (intz ns)
theorem kR:∀ (ls:List (Int × Int)),flats (ls.map fun l=>PV.tup [.int l.1,.int l.2])=true
 | []=>rfl
 | l :: r=>by
  show (flat (.tup [.int l.1,.int l.2]) && flats (r.map fun l=>PV.tup [.int l.1,.int l.2]))=true
  rw [kR r]; rfl
theorem qX (ns:List Int):flat (.tup (intz ns))=true:=nC ns
abbrev dG (t:aO) (N:List Str) (p:c7):Prop:=∀ xs Q,p xs Q->t { nx:=fun _=>Q .non,rt:=Q } (eW N xs)
def az3:c7:=fun xs Q=>∃ x ns,xs = [x]/\L6 x ns/\ns.length<=1000/\Q (.bl (vE ns))
def inB (n:Nat) (x:Int):Bool:=decide (0<=x) && decide (x < (n:Int))
structure DS (ps:List (aM × PV)) (S:List Int):Prop where
 has:∀ i:Int,(dR ps (Sum.inl i:aM)).isSome=decide (i ∈ S)
 len:ps.length<=S.length
 fl:flats (ps.map (·.2))=true
section
variable {κ : Type} [DecidableEq κ]
theorem az4 {p:κ × PV}{r:List (κ × PV)}{k:κ} (e:p.1=k):dR (p :: r) k=some p.2:=by simp [dR,bh5,e]
theorem az5 {p:κ × PV}{r:List (κ × PV)}{k:κ} (e : ¬ p.1=k):dR (p :: r) k=dR r k:=by simp [dR,bh5,e]
theorem L7 (k:κ):∀ kvs:List (κ × PV),(kvs.any fun kv=>decide (kv.1=k))=(dR kvs k).isSome
 | []=>rfl
 | p :: r=>by
  rw [List.any_cons]
  by_cases e:p.1=k
  ·simp only [az4 e,aX3 e,Bool.true_or,Option.isSome_some]
  ·rw [az5 e,aW4 e,Bool.false_or]; exact L7 k r
end
theorem L8 {ws:List Int}{h:Int} (h0:0<=h) (h1:h < (ws.length:Int)):atI (intz ws) h=some (.int (ws.getD h.toNat 0)):=by
 refine an3 h0 ?_
 have:h.toNat < ws.length:=by omega
 rw [aY1,aX8,aW0 this]; rfl
def tups (rs:List (List Int)):List PV:=rs.map fun r=>PV.tup (intz r)
theorem L9:∀ (rs:List (List Int)),flats (tups rs)=true
 | []=>rfl
 | r :: t=>by
  show (flat (.tup (intz r)) && flats (tups t))=true
  rw [qX,L9 t]; rfl
end Core
namespace PP
open PySem L2
def vF:List PV->(PV->Prop)->Prop:=fun xs Q=>∃ ps:List (List aM × PV),xs = [.dT ps]/\Q (.lst (ps.map fun p=>PV.tup (p.1.map kP)))
end PP
namespace Core
open PySem L2 PP
theorem az6 (g:Tg) (n:Int):Nw g (.int n):=by cases g <;> first | exact trivial | rfl
def nV (x:PV) (ns:List Int):Prop:=x = .scr ns ∨ x = .lst (intz ns)
theorem nV.seq {x:PV}{ns:List Int} (h:nV x ns):iZ x=some (intz ns):=by rcases h with rfl | rfl <;> rfl
theorem nV.len {x:PV}{ns:List Int} (h:nV x ns):A7 x=some ns.length:=by
 rcases h with rfl | rfl
 ·rfl
 ·show some (intz ns).length=_
  rw [az2]
def gK:c7:=fun xs Q=>∃ x ns k,xs = [x,.int k]/\nV x ns/\0<=k/\Q (.int (ns.getD k.toNat 0))
def M0:aO:=(aG (bO (aW (j5 (a5 1) (aF gW (a6 (a5 0) aA)))) (bD (aS (a5 0) (a5 1))) bQ)
 (bD (qC (.int 0))))
theorem az7:dG M0 ["script","k"] gK:=by
 rintro xs Q ⟨x,ns,k,rfl,hx,h0,q⟩
 refine⟨_,rfl,_,rfl,_,_,rfl,hx.len,_,_,rfl,rfl,_,rfl,?_⟩
 by_cases h:k < (ns.length:Int)
 ·rw [aX3 h]
  exact b7 ⟨_,rfl,_,rfl,_,_,_,hx.seq,rfl,L8 h0 h,az6 _ _,q⟩
 ·rw [aW4 h]
  rw [aX8,List.getElem?_eq_none (by omega)] at q
  exact aY ⟨trivial,q⟩
def aZ (ls:List (Int × Int)):List PV:=ls.map fun l=>PV.tup [.int l.1,.int l.2]
theorem m9 (ls:List (Int × Int)):(aZ ls).length=ls.length:=aW6 _
def fU (l m:Int × Int):Prop:=l.1 < m.1 ∨ (l.1=m.1/\l.2 < m.2)
abbrev si (n:Int):Option Slot:=some (.sh true (.int n))
theorem vG {ls:List (Int × Int)}{i:Nat}{x:PV} (h:(aZ ls)[i]? = some x):∃ l,x = .tup [.int l.1,.int l.2]/\ls[i]? = some l:=by
 unfold aZ at h
 rw [aY1] at h
 cases e:ls[i]? with
 | none=>rw [e] at h; cases h
 | some n=>rw [e] at h; exact⟨n,(aY5 h).symm,rfl⟩
end Core
namespace PP
open PySem L2 PyProof.Rows
section
variable {X : Cx} {a b e : Expr} {ta tb te : aC} {tr : cB} {pos p2 p3 pos2 : Pos}
theorem az8:dH X vF (fun xs H Q=>∃ a kvs,xs = [.ref a]/\H a=some (.dT kvs)/\∀ l ys,H l=none->Paired (gU H) ys (kvs.map (·.1))->Q (.ref l) (upd H l (.lst ys))):=by
 rintro H vs xs Q Q' r ⟨ps,rfl,q⟩ k
 obtain ⟨v,rfl,r1⟩:=r.one
 cases r1 with
 | @dT a kvs _ m h e r2=>
  refine⟨a,kvs,rfl,h,fun l ys hl pr=>k _ _ _ (bK hl _) (.lst hl bU ?_) q⟩
  have kv:∀ (k:List aM),Reps X.K (fun a=>H a=none) H (k.map kV) (k.map kP):=fun k=>by
   induction k with
   | nil=>exact .nil
   | cons a r ih=>exact .cons (by cases a <;> constructor) ih
  have go:∀ {ys:List V}{ks:List (List aM)},Paired (gU H) ys ks->Reps X.K (fun a=>H a=none) H ys (ks.map fun k=>PV.tup (k.map kP)):=fun {ys ks} pr=>by
   induction pr with
   | nil=>exact .nil
   | cons h t ih=>
    obtain ⟨q,rfl,hq⟩:=h
    exact .cons (.tup hq (kv _)) ih
  have e2:(ps.map fun p=>PV.tup (p.1.map kP))=(kvs.map (·.1)).map fun k=>PV.tup (k.map kP):=by rw [e,ba7]; rfl
  rw [e2]
  exact (go pr).same (bK hl _) fun _ z=>z
theorem az9 (B:Bt X.mg) (hc:X.calm=true) (ha:QA X [e] tr) (hg:Gl X "list":=by rfl) (he:starEach [e] X.env=(false,eval e X.env) :: starEach [] X.env:=by rfl) (hpl:(backTo pos (starEach [] X.env)).any (·.1)=false:=by rfl):QE X (.Call (.Name "list" p2) [e] [] pos) (aF vF tr):=
 qA (an1 hc) az8 hg B.list PyProof.Rows.boot_list ha (he:=he) (hpl:=hpl)
def vH:V->Int
 | .int i=>i
 | _=>0
def jA (H:Hp):V->List Int
 | .ref a=>match H a with
  | some (.tup us)=>us.map vH
  | _=>[]
 | _=>[]
theorem aA0 {H:Hp}{a:Addr}{ns:List Int} (h:H a=some (.tup (ns.map V.int))):jA H (.ref a)=ns:=by
 show (match H a with | some (.tup us)=>us.map vH | _=>[])=ns
 rw [h]
 show (ns.map V.int).map vH=ns
 rw [ba7]
 exact List.map_id _
theorem vI {K:PySem.W.Frag}{M:Addr->Prop}{H:Hp}:∀ {us:List V}{ys:List (List Int)},Reps K M H us (ys.map fun r=>PV.tup (intz r))->us.map (jA H)=ys/\∀ u ∈ us,∃ b,u = .ref b/\H b=some (.tup ((jA H u).map V.int))
 | _,[],.nil=>⟨rfl,fun u h=>nomatch h⟩
 | _,y :: ys,.cons r t=>by
  obtain ⟨a,us,rfl,h,r1⟩:=r.sqT
  obtain rfl:=r1.ofInts
  obtain ⟨h1,h2⟩:=vI t
  have hk:=aA0 h
  refine⟨by rw [bc2,h1,hk],fun u hu=>?_⟩
  rcases aW3.mp hu with rfl | hu
  ·exact⟨a,rfl,by rw [hk]; exact h⟩
  ·exact h2 u hu
theorem vJ {K:PySem.W.Frag}{M:Addr->Prop}{H:Hp}:∀ {us:List V},(∀ u ∈ us,∃ b,u = .ref b/\H b=some (.tup ((jA H u).map V.int)))->Reps K M H us ((us.map (jA H)).map fun r=>PV.tup (intz r))
 | [],_=>.nil
 | u :: us,h=>by
  obtain ⟨b,rfl,hb⟩:=h u aX5
  exact .cons (.tup hb (Reps.intz _)) (vJ fun v hv=>h v (aW7 _ hv))
end
def aA1 (K:PySem.W.Frag):Sp:=fun vs H Q _=>∃ (a:Addr) (ns:List Int),vs = [.ref a]/\(aL K H a (ns.map V.int) ∨ aN K H a (ns.map V.int))/\ns.length<=1000/\∀ H',aD H H'->Q (.bl (Core.vE ns)) H'
section
variable {P : Program} {w : World} {K : PySem.W.Frag} {mg : Str → Option Value} {base : Heap} {f : Addr} {fd : FuncData} {k : Nat}
theorem M3 (F:dC P w K mg base eG k f fd ["things"] (aA1 K)) (b:iQ K fd ["things"] []) (kp:PySem.W.keepIn K (.ref f)=true) (m:mg "rises" = some (.ref f)):Df P w K mg base k "rises" ["things"] Core.az3:=by
 refine⟨f,fd,F.imp fun vs H Q E h=>?_,b,kp,m⟩
 obtain ⟨xs,Qp,r,⟨x,ns,rfl,hx,hl,q⟩,k⟩:=h
 obtain ⟨v,rfl,r1⟩:=r.one
 rcases hx with rfl | rfl
 ·obtain ⟨a,us,rfl,h,r2⟩:=r1.sqT
  obtain rfl:=r2.ofInts
  exact⟨a,ns,rfl,.inl (aL.of h),hl,fun H' s=>k _ H' _ s (.bl _) q⟩
 ·obtain ⟨a,us,rfl,_,h,r2⟩:=r1.sqL
  obtain rfl:=r2.ofInts
  exact⟨a,ns,rfl,.inr (aN.of h),hl,fun H' s=>k _ H' _ s (.bl _) q⟩
end
end PP
namespace Core
open PySem L2 PP
def two (l:Int × Int):List Int:=[l.1,l.2]
def nW (r:List Int):Int × Int:=(r.getD 0 0,r.getD 1 0)
theorem vK (ls:List (Int × Int)):aZ ls=(ls.map two).map fun r=>PV.tup (intz r):=by
 unfold aZ
 rw [ba7]; rfl
theorem aA2 {zs:List (List Int)}{ls:List (Int × Int)} (h:zs.Perm (ls.map two)):∃ ls':List (Int × Int),zs=ls'.map two/\ls'.Perm ls:=by
 refine⟨zs.map nW,?_,?_⟩
 ·rw [ba7]
  have:∀ z ∈ zs,(two ∘ nW) z=z:=fun z hz=>by
   obtain ⟨l,_,rfl⟩:=ba1.mp (h.mem_iff.mp hz)
   rfl
  rw [List.map_congr_left this,List.map_id']
 ·have:=h.map nW
  rw [ba7] at this
  have e:ls.map (nW ∘ two)=ls:=by
   have:∀ l ∈ ls,(nW ∘ two) l=id l:=fun l _=>rfl
   rw [List.map_congr_left this,List.map_id]
  rw [e] at this
  exact this
theorem aA3 {ls:List (Int × Int)} (so:(ls.map two).Pairwise fun u v=>HT.aK v u=false) (nd:ls.Nodup):ls.Pairwise fU:=by
 rw [be3] at so
 refine (List.pairwise_and_iff.mpr ⟨so,nd⟩).imp fun {a b} h=>?_
 obtain ⟨h1,h2⟩:=h
 unfold two at h1
 rw [HT.fZ] at h1
 unfold fU
 by_cases e:b.1=a.1
 ·rw [if_pos e,HT.fZ] at h1
  by_cases e2:b.2=a.2
  ·exact absurd (Prod.ext e.symm e2.symm) h2
  ·rw [if_neg e2] at h1
   have:=bk6 h1
   omega
 ·rw [if_neg e] at h1
  have:=bk6 h1
  omega
def M4:c7:=fun xs Q=>∃ ns:List Int,xs = [.scr ns]/\ns.length<=63/\Q (.bl true)
structure aA4 (K:PySem.W.Frag):Prop where
 ii:PySem.W.kitOne K (.type "int") (.type "int")=some true
 ib:PySem.W.kitOne K (.type "int") (.type "bool")=some false
 tt:PySem.W.kitOne K (.type "tuple") (.type "tuple")=some true
 ll:PySem.W.kitOne K (.type "list") (.type "list")=some true
 bb:PySem.W.kitOne K (.type "bool") (.type "bool")=some true
theorem aA5 (K:PySem.W.Frag):aA4 K:=by
 have same:∀ n:String,PySem.W.kitMeta n=true->True:=fun _ _=>trivial
 refine⟨?_,?_,?_,?_,?_⟩
 ·unfold PySem.W.kitOne; rw [if_pos (by decide)]
 ·have e:(if PySem.W.kitMeta "bool" = true then (fastBuiltinMro "int").map (·.contains (Value.type "bool")) else none)=some false:=by decide +kernel
  unfold PySem.W.kitOne
  rw [if_neg (by decide)]
  exact e
 ·unfold PySem.W.kitOne; rw [if_pos (by decide)]
 ·unfold PySem.W.kitOne; rw [if_pos (by decide)]
 ·unfold PySem.W.kitOne; rw [if_pos (by decide)]
end Core
namespace PP
open PySem L2 PyProof.Rows
theorem aA6 {P:Program}{w:World}{K:PySem.W.Frag}{mg:Str->Option Value}{base:Heap}{k:Nat}{x:Str}{ps N:List Str}{p:c7}{st:Stmt}{f:Addr}{fd:FuncData} (F:fE K x x st f fd) (S:FnScope N ps (b6 st))
  (len:∀ xs Q,p xs Q->xs.length=ps.length)
  (body:∀ (cdv:Value) (A:Around) (outer:List Env) (s:Shared) (H:Hp) (E:XK),bZ k (A.deeper (envOfC x (b6 st) s.heap.objs.size f cdv))->
   ∃ t,dY (cV eG P w K mg base N x (b6 st) f cdv A outer s H E).nox (dU st) t/\∀ xs Q,p xs Q->t { nx:=fun _=>Q .non,rt:=Q } (eW N xs)):dC P w K mg base eG (k+1) f fd ps (nH K p):=by
 refine F.ok S (fun vs H Q E h=>?_) (fun cdv A outer s H vs Q E hr h=>?_)
 ·obtain ⟨xs,Qp,r,q,_⟩:=h
  rw [r.length]; exact len xs Qp q
 ·obtain ⟨xs,Qp,r,q,k⟩:=h
  obtain ⟨t,ht,hq⟩:=body cdv A outer s H E hr
  refine⟨_,ht,fun _=>False,eW N xs,_,uT r,hq xs Qp q,?_,?_,?_,?_⟩
  ·exact fun W' σ' H' ρ' e px q=>k _ _ _ px.same .non q
  ·exact fun v H' x s r q=>k _ _ _ s r q
  ·exact fun W' σ' H' ρ' e px q=>q
  ·exact fun W' σ' H' ρ' e px q=>q
def qY (K:PySem.W.Frag):Sp:=fun vs H Q _=>∃ (a:Addr) (ns:List Int),vs = [.ref a]/\iW K H a ns/\ns.length<=63/\∀ H',Q (.bl true) H'
theorem aA7 {P:Program}{w:World}{K:PySem.W.Frag}{mg:Str->Option Value}{base:Heap}{k:Nat}{f:Addr}{fd:FuncData} (F:dC P w K mg base eG k f fd ["script"] (nH K Core.M4)):dC P w K mg base eG k f fd ["script"] (qY K):=
 F.imp fun vs H Q E h=>by
  obtain ⟨a,ns,rfl,hs,hl,q⟩:=h
  refine⟨[.scr ns],fun z=>z = .bl true,.cons (.scr hs) .nil,⟨ns,rfl,hl,rfl⟩,?_⟩
  rintro v H' x _ r rfl
  cases r
  exact q H'
theorem aA8 {K:PySem.W.Frag}{H:Hp}{a:Addr}{ns:List Int} (hO:oY H) (h:aN K H a (ns.map V.int)):iW K H a ns:=by
 rcases h with (h | ⟨o,h⟩) | h
 ·rcases hO a with e | ⟨o,xs,e⟩ <;> (rw [h] at e; cases e)
 ·exact .inl ⟨o,h⟩
 ·exact .inr h
end PP
namespace PyProof.Rows
open PySem
end PyProof.Rows
namespace PP
open PySem L2 PyProof.Rows
section
variable {X : Cx} {a b e : Expr} {ta tb te : aC} {tr : cB} {pos p2 : Pos}
def M5:PV->Tg->PV->Tg->PK->Prop:=fun x _ y _ Q=>∃ xs ys,x = .lst xs/\y = .lst ys/\flats xs=true/\flats ys=true/\xs.length+ys.length<=16000000/\Q (.lst (xs ++ ys)) .fr
abbrev jB (ta tb:aC):aC:=q2 M5 ta tb
theorem aA9:dD X M5 yZ:=by
 rintro W Hs H u v x y g g' Q Q' s n r1 r2 ⟨xs,ys,rfl,rfl,f1,f2,hl,q⟩ k
 obtain ⟨a,us,rfl,_,h1,q1⟩:=r1.sqL
 obtain ⟨b,ws,rfl,_,h2,q2⟩:=r2.sqL
 have l1:=q1.length
 have l2:=q2.length
 refine⟨a,b,us,ws,rfl,rfl,h1,h2,lim (by omega),fun p hp=>k _ _ _ .fr (bK hp _) (.lst (s.free hp) bU (((q1.flat f1).append (q2.flat f2)).same (bK hp _) fun _ z=>z)) q⟩
theorem kS (ha:QE X a ta) (hb:QE X b tb):QE X (.BinOp a .Add b pos) (jB ta tb):=jU ak3 aA9 ha hb
end
end PP
namespace L2
open PySem PySem.Spec PyProof.Rows
def vL (K:PySem.W.Frag) (a:Addr):It:=
  ⟨fun i H=>∃ xs x,aN K H a xs/\xs[i]? = some x,
   fun i H v H'=>∃ T x,H T=none/\v = .ref T/\H'=upd H T (.tup [.int i,x])/\∀ xs,aN K H a xs->xs[i]? = some x,
   fun i H=>∃ xs,aN K H a xs/\xs.length<=i⟩
structure aB0 (e it a:Addr) (i:Nat) (h:Heap):Prop where
 ee:∃ old,IsEnum h e it i old
 s1:h.IsListIter it a i
theorem aB1 {P:Program}{w:World}{K:PySem.W.Frag}{elts:List Expr}{k:Nat}{pos:Pos} (a e it:Addr) (d:e ≠ it) :
  i8 P w K (.Tuple elts k pos) (vL K a) [e,it] e (aB0 e it a):=by
 refine⟨by simp,fun i h st c hc=>?_,fun i h h' st kp=>?_,?_,?_,fun A i s Q E st q=>?_⟩
 ·simp only [aW3,aX2,aZ8] at hc
  obtain ⟨old,ee⟩:=st.ee
  obtain ⟨o1,f1,g1,d1⟩:=st.s1
  rcases hc with rfl | rfl
  ·exact⟨_,ee,fun v q=>by cases q⟩
  ·exact⟨_,f1,fun v q=>by rw [d1] at q; cases q⟩
 ·obtain ⟨old,ee⟩:=st.ee
  exact⟨⟨old,kp e (by simp) _ ee⟩,st.s1.at fun o z=>kp it (by simp) o z⟩
 ·intro X hP hw hK hc i pins s σ H E I hf st hg
  subst hP hw hK
  obtain ⟨xs,x,ha,hx⟩:=hg
  obtain ⟨us,ru,pu,lu⟩:=I.list ha
  obtain ⟨ux,eux,rux⟩:=ru.get hx
  obtain ⟨old,ee⟩:=st.ee
  refine wpAny_pyNext_enum_item ee st.s1 pu.isList (by simpa using eux) d fun h' eo it' pr sz kp=>⟨_,rfl,?_⟩
  refine wpAny_letOwnedTupleGo_enum (s:={ s with heap:=h',toks:=s.toks+1 }) eo fun g zz sb=>?_
  have hzl:e < s.heap.objs.size:=aX1 ee
  have up:∀ c o,c ≠ e->c ≠ it->s.heap.get? c=some o->g.get? c=some o:=fun c o c1 c2 z=>sb.extBut c o c1 (kp c o c1 c2 z)
  have hT:H s.heap.objs.size=none:=I.hok.fresh (aW8 _)
  have prG:g.get? s.heap.objs.size=some { cls:=.type "tuple",data:=.seq #[.int i s.toks,ux] }:=sb.extBut _ _ (bg3 hzl) pr
  have fpn:∀ c u,H c=some u->c ∉ [e,it]:=fun c u z hm=>by rw [(hf c hm).1] at z; cases z
  have upH:∀ c o u,H c=some u->s.heap.get? c=some o->g.get? c=some o:=fun c o u q z=>by
   have:=fpn c u q
   simp only [aW3,aX2,aZ8,not_or] at this
   exact up c o this.1 this.2 z
  have ns:∀ m,s.heap.Ns X.env.locals m->g.Ns X.env.locals m:=fun m hm=>by
   obtain ⟨o,es,ep,e1,e2⟩:=hm
   exact⟨o,es,ep,up _ o (Ne.symm (hf e (by simp)).2.1) (Ne.symm (hf it (by simp)).2.1) e1,e2⟩
  have I2:a8 X pins σ (upd H s.heap.objs.size (.tup [.int i,x])) { s with heap:=g,toks:=s.toks+1 }:=by
   refine I.step (g':=s.gens) (d':=s.drawn) (ch:=[e,it]) (fun c hc'=>?_) (fun c o _ _ hc' z _=>?_) (fun c o _ _ hc' z _=>⟨o.slots,?_⟩) (fun c o _ z n=>?_) (fun c o hc' z=>⟨o,?_⟩)
    (fun c zs z=>by rw [aX (cU z hT)]; exact z) (fun c u zs z=>by rw [aX (cU z hT)]; exact z) (fun c ps z=>⟨#[],by rw [aX (cU z hT),z]; simp⟩) ns (fun c u z=>?_) I.bare
   ·exact⟨(hf c hc').2.2.2.1,(hf c hc').2.1,(hf c hc').2.2.2.2.1,(hf c hc').2.2.2.2.2⟩
   ·simp only [aW3,aX2,aZ8,not_or] at hc'
    exact up c o hc'.1 hc'.2 z
   ·simp only [aW3,aX2,aZ8,not_or] at hc'
    exact up c o hc'.1 hc'.2 z
   ·rw [aX (aZ0 (aX1 z))]; exact n
   ·simp only [aW3,aX2,aZ8,not_or] at hc'
    exact up c o hc'.1 hc'.2 z
   ·by_cases hcT:c=s.heap.objs.size
    ·subst hcT
     rw [bU] at z; cases z
     exact⟨by show 2<=sizeLine; decide,[.int i s.toks,ux],.cons ⟨_,rfl⟩ (.cons rux .nil),⟨_,prG,rfl,_,rfl⟩,fun u e=>by rw [prG] at e; cases e; rfl⟩
    ·rw [aX hcT] at z
     refine (I.hok c u z).stay (fun c' o' hc2 q'=>?_) (fun c' q'=>by rw [aX (cU q' hT)]; exact q') fun c' zs q'=>by rw [aX (cU q' hT)]; exact q'
     rcases hc2 with rfl | hc2
     ·exact upH _ _ _ z q'
     ·exact upH _ _ _ hc2 q'
  refine⟨.ref s.heap.objs.size,_,I2,rfl,⟨_,x,hT,rfl,rfl,fun xs' ha'=>?_⟩,⟨⟨ux,by push_cast; exact zz⟩,it'.at fun o z=>sb.extBut _ o (Ne.symm d) z⟩,fun c hc'=>?_⟩
  ·rw [I.list_inj ha' ha]; exact hx
  ·obtain ⟨o,z⟩:∃ o,s.heap.get? c=some o:=by
    simp only [aW3,aX2,aZ8] at hc'
    obtain ⟨o1,f1,_⟩:=st.s1
    rcases hc' with rfl | rfl
    ·exact⟨_,ee⟩
    ·exact⟨_,f1⟩
   rw [aX (aZ0 (aX1 z))]; exact (hf c hc').1
 ·intro X hP hw hK hc i pins s σ H E I hf st hg
  subst hP hw hK
  obtain ⟨xs,ha,hi⟩:=hg
  obtain ⟨us,ru,pu,lu⟩:=I.list ha
  obtain ⟨old,ee⟩:=st.ee
  have hh:X.A.handled=none:=I.ok.hd hc
  have e1:=ru.length
  refine wpAny_pyNext_enum_end hh ee st.s1 pu.isList (by rw [Array.getElem?_eq_none]; simp only [aW1]; omega) fun g kp=>⟨rfl,?_⟩
  have fpn:∀ c u,H c=some u->c ∉ [e,it]:=fun c u z hm=>by rw [(hf c hm).1] at z; cases z
  have upH:∀ c o u,H c=some u->s.heap.get? c=some o->g.get? c=some o:=fun c o u q z=>by
   have:=fpn c u q
   simp only [aW3,aX2,aZ8,not_or] at this
   exact kp c o this.2 z
  have ns:∀ m,s.heap.Ns X.env.locals m->g.Ns X.env.locals m:=fun m hm=>by
   obtain ⟨o,es,ep,e1,e2⟩:=hm
   exact⟨o,es,ep,kp _ o (Ne.symm (hf it (by simp)).2.1) e1,e2⟩
  refine I.step (g':=s.gens) (d':=s.drawn) (ch:=[it]) (fun c hc'=>?_) (fun c o _ _ hc' z _=>?_) (fun c o _ _ hc' z _=>⟨o.slots,?_⟩) (fun c o _ z n=>n) (fun c o hc' z=>⟨o,?_⟩)
   (fun c zs z=>z) (fun c u zs z=>z) (fun c ps z=>⟨#[],by rw [z]; simp⟩) ns (fun c u z=>?_) I.bare
  ·have hm:c ∈ [e,it]:=aW7 _ hc'
   exact⟨(hf c hm).2.2.2.1,(hf c hm).2.1,(hf c hm).2.2.2.2.1,(hf c hm).2.2.2.2.2⟩
  ·exact kp c o (fun y=>hc' (by rw [y]; simp)) z
  ·exact kp c o (fun y=>hc' (by rw [y]; simp)) z
  ·exact kp c o (fun y=>hc' (by rw [y]; simp)) z
  ·refine (I.hok c u z).stay (fun c' o' hc2 q'=>?_) (fun _ q'=>q') fun _ _ q'=>q'
   rcases hc2 with rfl | hc2
   ·exact upH _ _ _ z q'
   ·exact upH _ _ _ hc2 q'
 ·obtain ⟨old,ee⟩:=st.ee
  exact wpAny_pyIter_enum ee q
end L2
namespace Zp
open PySem PyProof.Rows
section
variable {prog : Program} {w : World} {A : Around} {E : Value → Shared → Prop} {s : Shared}
theorem aB2 {e it t:Addr}{i:Nat}{items:Array Value}{x old:Value}{Q:Option Value->Shared->Prop} (he:IsEnum s.heap e it i old) (hi:s.heap.IsTupleIter it t i) (ht:s.heap.IsTuple t items) (hx:items[i]? = some x) (ne:e ≠ it)
  (q:∀ h',IsEnumOut h' e it ((i:Int)+1) x s.heap.objs.size->h'.IsTupleIter it t (i+1)->h'.get? s.heap.objs.size=some { cls:=.type "tuple",data:=.seq #[.int i s.toks,x] }->h'.objs.size=s.heap.objs.size+1->
   (∀ b o,b ≠ e->b ≠ it->s.heap.get? b=some o->h'.get? b=some o)->Q (some (.ref s.heap.objs.size)) { s with heap:=h',toks:=s.toks+1 }):wpAny (model prog w) A (pyNext (.ref e)) Q E s:=by
 have T:s.TypeIs (.ref e) "enumerate":=⟨_,he,rfl⟩
 have slot:=PySem.F.slot_enumerate_next
 unfold pyNext
 apply aV7
 apply bm3
 apply bc1 (name:=Str.ofString "__next__") T slot
 apply bc6 slot T PySem.F.entry_enumerate_next _ (PySem.F.args_enumerate_next_1 _)
 change wpAny _ _ (field (.ref e) 2 >>= _) _ _ _
 apply aV7
 refine bc0 he rfl (x:=.ref it) rfl ?_
 apply aV7
 refine zV hi ht hx fun g1 it1 sb1=>?_
 have e1:IsEnum g1 e it i old:=sb1.extBut _ _ ne he
 change wpAny _ _ (field (.ref e) 3 >>= _) _ _ _
 apply aV7
 refine bc0 e1 rfl (x:=rawInt i) rfl ?_
 change wpAny _ _ (field (.ref e) 4 >>= _) _ _ _
 apply aV7
 refine bc0 e1 rfl (x:=.none) rfl ?_
 change wpAny _ _ (mkInt i >>= _) _ _ _
 apply aV7
 refine wpAny_mkInt ?_
 change wpAny _ _ (setField (.ref e) 3 (rawInt ((i:Int)+1)) >>= _) _ _ _
 apply aV7
 refine bd4 e1 (by simp) fun g2 e2 sb2=>?_
 apply aV7
 refine bd4 e2 (by simp) fun g3 e3 sb3=>?_
 have e3:IsEnum g3 e it ((i:Int)+1) old:=e3
 apply aV7
 refine wpAny_newTuple ?_ (by show 2<=sizeLine; decide)
 have e4:IsEnum (g3.push { cls:=.type "tuple",data:=.seq #[.int i s.toks,x] }) e it ((i:Int)+1) old:=aV9 _ e3
 have size:g3.objs.size=s.heap.objs.size:=by rw [sb3.1,sb2.1,sb1.1]
 change wpAny _ _ (Builtin.SmallTypes.ownedTupleIsFree (.ref e) >>= _) _ _ _
 apply aV7
 unfold Builtin.SmallTypes.ownedTupleIsFree
 apply aV7
 refine bc0 e4 rfl (x:=.none) rfl (aW2 ?_)
 simp only [if_true]
 apply aV7
 apply bj8
 apply aV7
 refine bc0 e4 rfl (x:=old) rfl ?_
 apply aV7
 refine bd4 e4 (by simp) fun g5 e5 sb5=>?_
 apply aV7
 unfold Builtin.SmallTypes.ownedTupleHandOut
 apply aV7
 refine bd4 e5 (by simp) fun g6 e6 sb6=>?_
 refine bd4 e6 (by simp) fun g7 e7 sb7=>?_
 have e7:IsEnumOut g7 e it ((i:Int)+1) x g3.objs.size:=e7
 have elt:e < g3.objs.size:=aX1 e3
 have up:∀ c o,c ≠ e->(g3.push { cls:=.type "tuple",data:=.seq #[.int i s.toks,x] }).get? c=some o->g7.get? c=some o:=fun c o c1 z=>sb7.extBut c o c1 (sb6.extBut c o c1 (sb5.extBut c o c1 z))
 have up3:∀ c o,c ≠ e->g1.get? c=some o->g7.get? c=some o:=fun c o c1 z=>up c o c1 (aV9 _ (sb3.extBut c o c1 (sb2.extBut c o c1 z)))
 have p7:g7.get? g3.objs.size=some { cls:=.type "tuple",data:=.seq #[.int i s.toks,x] }:=up _ _ (bg3 elt) (aX4 _ rfl)
 have s7:g7.objs.size=g3.objs.size+1:=by rw [sb7.1,sb6.1,sb5.1,be0]
 apply aV7
 apply bi5
 apply aW2
 rw [size] at e7 p7 s7
 refine⟨_,rfl,aW2 ?_⟩
 change Q (some (.ref g3.objs.size)) _
 rw [size]
 exact q g7 e7 (it1.at fun o z=>up3 it o (Ne.symm ne) z) p7 s7 fun b o b1 b2 z=>up3 b o b1 (sb1.extBut b o b2 z)
theorem aB3 {e it t:Addr}{i:Nat}{items:Array Value}{old:Value}{Q:Option Value->Shared->Prop} (hh:A.handled=none) (he:IsEnum s.heap e it i old) (hi:s.heap.IsTupleIter it t i) (ht:s.heap.IsTuple t items) (hx:items[i]? = none)
  (q:∀ h',Heap.ExtBut it s.heap h'->Q none { s with heap:=h' }):wpAny (model prog w) A (pyNext (.ref e)) Q E s:=by
 have T:s.TypeIs (.ref e) "enumerate":=⟨_,he,rfl⟩
 have slot:=PySem.F.slot_enumerate_next
 unfold pyNext
 apply aV7
 apply bm3
 apply bc1 (name:=Str.ofString "__next__") T slot
 apply bc6 slot T PySem.F.entry_enumerate_next _ (PySem.F.args_enumerate_next_1 _)
 change wpAny _ _ (field (.ref e) 2 >>= _) _ _ _
 apply aV7
 refine bc0 he rfl (x:=.ref it) rfl ?_
 apply aV7
 refine zW hh hi ht hx fun g2 ex eb exo=>?_
 obtain ⟨oe,eo,co⟩:=exo
 apply aV7
 refine wpAny_isInstance (T:="StopIteration") (b:=true) ⟨oe,eo,co⟩ isSubtype_stop ?_
 exact aW2 (q g2 eb)
theorem aB4 {M:Model}{A:Around}{E:Value->Shared->Prop}{s:Shared}{α:Type}{c:Prop} [Decidable c] {m n:Sem α}{Q:α->Shared->Prop} (h1:wpAny M A m Q E s) (h2:wpAny M A n Q E s):wpAny M A (if c then m else n) Q E s:=by
 split
 ·exact h1
 ·exact h2
theorem aB5 (t:Addr) (xs:Array Value):Meets (Builtin.«enumerate.__new__» ⟨[.type "enumerate",.ref t],[]⟩) (fun _ R s=>s.heap.IsTuple t xs/\R (.ok (.ret (.ref (s.heap.objs.size+1)))) { s with heap:=(s.heap.push { cls:=.type "tuple_iterator",data:=.fields #[.ref t,.int 0 0] }).push { cls:=.type "enumerate",data:=.fields #[.none,.bool false,.ref s.heap.objs.size,rawInt 0,.none,.none] } }):=
 .of_wp fun prog w A R s h=>by
  obtain ⟨hp,g,d,tk,os⟩:=s
  obtain ⟨ht,h⟩:=h
  have sub:=sub_enumerate
  have a1:Heap.IsTuple (Shared.heap ⟨hp,g,d,tk,os⟩) t xs:=ht
  wp_walk using bh6 a1
  refine wpAny_stack_any fun st=>aW2 ?_
  refine aB4 ?_ ?_
  all_goals
   apply aV7
   refine wpAny_of_eq (a:=(Value.ref t,none)) rfl ?_
   wp_walk using bh6 a1
   have e:∀ (o:Obj) (k:Heap),(k.push o).objs.size=k.objs.size+1:=fun o k=>be0 ..
   refine⟨_,rfl,?_⟩
   simp only [e] at h ⊢
   exact h
theorem aB6 {t:Addr}{xs:Array Value}{Q:Value->Shared->Prop} (ht:s.heap.IsTuple t xs)
  (q:∀ h',IsEnum h' (s.heap.objs.size+1) s.heap.objs.size 0 .none->h'.IsTupleIter s.heap.objs.size t 0->h'.objs.size=s.heap.objs.size+2->(∀ c o,s.heap.get? c=some o->h'.get? c=some o)->Q (.ref (s.heap.objs.size+1)) { s with heap:=h' }) :
  wpAny (model prog w) A (call (.type "enumerate") [.ref t]) Q E s:=by
 refine callType_new PySem.F.called_enumerate (by decide) (PySem.F.typeCall_enumerate_1 _) (PySem.F.newCall_enumerate_1 _) (fun obj=>PySem.F.args_object_init_2 obj _) PySem.F.entry_enumerate_new (aB5 t xs) ⟨ht,?_⟩
 have e:∀ (o:Obj) (k:Heap),(k.push o).objs.size=k.objs.size+1:=fun o k=>be0 ..
 have g0:((s.heap.push { cls:=.type "tuple_iterator",data:=.fields #[.ref t,.int 0 0] }).push { cls:=.type "enumerate",data:=.fields #[.none,.bool false,.ref s.heap.objs.size,rawInt 0,.none,.none] }).get? s.heap.objs.size=some { cls:=.type "tuple_iterator",data:=.fields #[.ref t,.int 0 0] }:=aV9 _ (aX4 _ rfl)
 have g1:((s.heap.push { cls:=.type "tuple_iterator",data:=.fields #[.ref t,.int 0 0] }).push { cls:=.type "enumerate",data:=.fields #[.none,.bool false,.ref s.heap.objs.size,rawInt 0,.none,.none] }).get? (s.heap.objs.size+1)=some { cls:=.type "enumerate",data:=.fields #[.none,.bool false,.ref s.heap.objs.size,rawInt 0,.none,.none] }:=by
  have:=aX4 (h:=s.heap.push { cls:=.type "tuple_iterator",data:=.fields #[.ref t,.int 0 0] }) (o:={ cls:=.type "enumerate",data:=.fields #[.none,.bool false,.ref s.heap.objs.size,rawInt 0,.none,.none] }) rfl
  rw [e] at this; exact this
 exact⟨⟨_,g1,rfl⟩,q _ g1 ⟨_,g0,rfl,rfl⟩ (by rw [e,e]) fun c o z=>aV9 _ (aV9 _ z)⟩
end
end Zp
namespace L2
open PySem PySem.Spec PyProof.Rows
def vM (K:PySem.W.Frag) (a:Addr):It:=
  ⟨fun i H=>∃ xs x,aL K H a xs/\xs[i]? = some x,
   fun i H v H'=>∃ T x,H T=none/\v = .ref T/\H'=upd H T (.tup [.int i,x])/\∀ xs,aL K H a xs->xs[i]? = some x,
   fun i H=>∃ xs,aL K H a xs/\xs.length<=i⟩
structure aB7 (e it a:Addr) (i:Nat) (h:Heap):Prop where
 ee:∃ old,IsEnum h e it i old
 s1:h.IsTupleIter it a i
theorem aB8 {P:Program}{w:World}{K:PySem.W.Frag}{elts:List Expr}{k:Nat}{pos:Pos} (a e it:Addr) (d:e ≠ it) :
  i8 P w K (.Tuple elts k pos) (vM K a) [e,it] e (aB7 e it a):=by
 refine⟨by simp,fun i h st c hc=>?_,fun i h h' st kp=>?_,?_,?_,fun A i s Q E st q=>?_⟩
 ·simp only [aW3,aX2,aZ8] at hc
  obtain ⟨old,ee⟩:=st.ee
  obtain ⟨o1,f1,g1,d1⟩:=st.s1
  rcases hc with rfl | rfl
  ·exact⟨_,ee,fun v q=>by cases q⟩
  ·exact⟨_,f1,fun v q=>by rw [d1] at q; cases q⟩
 ·obtain ⟨old,ee⟩:=st.ee
  exact⟨⟨old,kp e (by simp) _ ee⟩,st.s1.at fun o z=>kp it (by simp) o z⟩
 ·intro X hP hw hK hc i pins s σ H E I hf st hg
  subst hP hw hK
  obtain ⟨xs,x,ha,hx⟩:=hg
  obtain ⟨us,ru,pu,lu⟩:=I.tuple ha
  obtain ⟨ux,eux,rux⟩:=ru.get hx
  obtain ⟨old,ee⟩:=st.ee
  refine Zp.aB2 ee st.s1 pu (by simpa using eux) d fun h' eo it' pr sz kp=>⟨_,rfl,?_⟩
  refine wpAny_letOwnedTupleGo_enum (s:={ s with heap:=h',toks:=s.toks+1 }) eo fun g zz sb=>?_
  have hzl:e < s.heap.objs.size:=aX1 ee
  have up:∀ c o,c ≠ e->c ≠ it->s.heap.get? c=some o->g.get? c=some o:=fun c o c1 c2 z=>sb.extBut c o c1 (kp c o c1 c2 z)
  have hT:H s.heap.objs.size=none:=I.hok.fresh (aW8 _)
  have prG:g.get? s.heap.objs.size=some { cls:=.type "tuple",data:=.seq #[.int i s.toks,ux] }:=sb.extBut _ _ (bg3 hzl) pr
  have fpn:∀ c u,H c=some u->c ∉ [e,it]:=fun c u z hm=>by rw [(hf c hm).1] at z; cases z
  have upH:∀ c o u,H c=some u->s.heap.get? c=some o->g.get? c=some o:=fun c o u q z=>by
   have:=fpn c u q
   simp only [aW3,aX2,aZ8,not_or] at this
   exact up c o this.1 this.2 z
  have ns:∀ m,s.heap.Ns X.env.locals m->g.Ns X.env.locals m:=fun m hm=>by
   obtain ⟨o,es,ep,e1,e2⟩:=hm
   exact⟨o,es,ep,up _ o (Ne.symm (hf e (by simp)).2.1) (Ne.symm (hf it (by simp)).2.1) e1,e2⟩
  have I2:a8 X pins σ (upd H s.heap.objs.size (.tup [.int i,x])) { s with heap:=g,toks:=s.toks+1 }:=by
   refine I.step (g':=s.gens) (d':=s.drawn) (ch:=[e,it]) (fun c hc'=>?_) (fun c o _ _ hc' z _=>?_) (fun c o _ _ hc' z _=>⟨o.slots,?_⟩) (fun c o _ z n=>?_) (fun c o hc' z=>⟨o,?_⟩)
    (fun c zs z=>by rw [aX (cU z hT)]; exact z) (fun c u zs z=>by rw [aX (cU z hT)]; exact z) (fun c ps z=>⟨#[],by rw [aX (cU z hT),z]; simp⟩) ns (fun c u z=>?_) I.bare
   ·exact⟨(hf c hc').2.2.2.1,(hf c hc').2.1,(hf c hc').2.2.2.2.1,(hf c hc').2.2.2.2.2⟩
   ·simp only [aW3,aX2,aZ8,not_or] at hc'
    exact up c o hc'.1 hc'.2 z
   ·simp only [aW3,aX2,aZ8,not_or] at hc'
    exact up c o hc'.1 hc'.2 z
   ·rw [aX (aZ0 (aX1 z))]; exact n
   ·simp only [aW3,aX2,aZ8,not_or] at hc'
    exact up c o hc'.1 hc'.2 z
   ·by_cases hcT:c=s.heap.objs.size
    ·subst hcT
     rw [bU] at z; cases z
     exact⟨by show 2<=sizeLine; decide,[.int i s.toks,ux],.cons ⟨_,rfl⟩ (.cons rux .nil),⟨_,prG,rfl,_,rfl⟩,fun u e=>by rw [prG] at e; cases e; rfl⟩
    ·rw [aX hcT] at z
     refine (I.hok c u z).stay (fun c' o' hc2 q'=>?_) (fun c' q'=>by rw [aX (cU q' hT)]; exact q') fun c' zs q'=>by rw [aX (cU q' hT)]; exact q'
     rcases hc2 with rfl | hc2
     ·exact upH _ _ _ z q'
     ·exact upH _ _ _ hc2 q'
  refine⟨.ref s.heap.objs.size,_,I2,rfl,⟨_,x,hT,rfl,rfl,fun xs' ha'=>?_⟩,⟨⟨ux,by push_cast; exact zz⟩,it'.at fun o z=>sb.extBut _ o (Ne.symm d) z⟩,fun c hc'=>?_⟩
  ·rw [I.tuple_inj ha' ha]; exact hx
  ·obtain ⟨o,z⟩:∃ o,s.heap.get? c=some o:=by
    simp only [aW3,aX2,aZ8] at hc'
    obtain ⟨o1,f1,_⟩:=st.s1
    rcases hc' with rfl | rfl
    ·exact⟨_,ee⟩
    ·exact⟨_,f1⟩
   rw [aX (aZ0 (aX1 z))]; exact (hf c hc').1
 ·intro X hP hw hK hc i pins s σ H E I hf st hg
  subst hP hw hK
  obtain ⟨xs,ha,hi⟩:=hg
  obtain ⟨us,ru,pu,lu⟩:=I.tuple ha
  obtain ⟨old,ee⟩:=st.ee
  have hh:X.A.handled=none:=I.ok.hd hc
  have e1:=ru.length
  refine Zp.aB3 hh ee st.s1 pu (by rw [Array.getElem?_eq_none]; simp only [aW1]; omega) fun g kp=>⟨rfl,?_⟩
  have fpn:∀ c u,H c=some u->c ∉ [e,it]:=fun c u z hm=>by rw [(hf c hm).1] at z; cases z
  have upH:∀ c o u,H c=some u->s.heap.get? c=some o->g.get? c=some o:=fun c o u q z=>by
   have:=fpn c u q
   simp only [aW3,aX2,aZ8,not_or] at this
   exact kp c o this.2 z
  have ns:∀ m,s.heap.Ns X.env.locals m->g.Ns X.env.locals m:=fun m hm=>by
   obtain ⟨o,es,ep,e1,e2⟩:=hm
   exact⟨o,es,ep,kp _ o (Ne.symm (hf it (by simp)).2.1) e1,e2⟩
  refine I.step (g':=s.gens) (d':=s.drawn) (ch:=[it]) (fun c hc'=>?_) (fun c o _ _ hc' z _=>?_) (fun c o _ _ hc' z _=>⟨o.slots,?_⟩) (fun c o _ z n=>n) (fun c o hc' z=>⟨o,?_⟩)
   (fun c zs z=>z) (fun c u zs z=>z) (fun c ps z=>⟨#[],by rw [z]; simp⟩) ns (fun c u z=>?_) I.bare
  ·have hm:c ∈ [e,it]:=aW7 _ hc'
   exact⟨(hf c hm).2.2.2.1,(hf c hm).2.1,(hf c hm).2.2.2.2.1,(hf c hm).2.2.2.2.2⟩
  ·exact kp c o (fun y=>hc' (by rw [y]; simp)) z
  ·exact kp c o (fun y=>hc' (by rw [y]; simp)) z
  ·exact kp c o (fun y=>hc' (by rw [y]; simp)) z
  ·refine (I.hok c u z).stay (fun c' o' hc2 q'=>?_) (fun _ q'=>q') fun _ _ q'=>q'
   rcases hc2 with rfl | hc2
   ·exact upH _ _ _ z q'
   ·exact upH _ _ _ hc2 q'
 ·obtain ⟨old,ee⟩:=st.ee
  exact wpAny_pyIter_enum ee q
section
variable {X : Cx}
def M6 (K:PySem.W.Frag) (ta:TA):TI:=fun σ H R=>ta σ H fun vs H1=>∃ a,vs = [.ref a]/\((∃ xs,aN K H1 a xs/\R (vL K a) H1) ∨ (∃ xs,aL K H1 a xs/\R (vM K a) H1))
theorem aB9 {elts:List Expr}{kt:Nat}{pt:Pos}{a:Expr}{ta:TA}{p pos:Pos} (hg:Gl X "enumerate") (hm:X.mg "enumerate" = none) (ha:PA X [a] ta) (hs:starEach [a] X.env = [(false,eval a X.env)]:=by rfl) :
  PI X (.Tuple elts kt pt) (.Call (.Name "enumerate" p) [a] [] pos) (M6 X.K ta):=by
 intro pins s σ H R I h
 refine Call_ (lC I hg hm PyProof.Rows.boot_enumerate (bj9 (aQ (ha pos pins s σ H _ I h) fun us s1 ⟨vs,H1,I1,r1,q1⟩=>?_) (by rw [hs]; rfl) (by rfl)))
 obtain ⟨a',e,q⟩:=q1
 subst e
 have fresh:∀ k,H1 (s1.heap.objs.size+k)=none:=fun k=>I1.hok.fresh (bg6 _ _)
 cases r1 with
 | cons r rr=>
  cases rr
  cases r
  rcases q with ⟨xs,h1,q⟩ | ⟨xs,h1,q⟩
  ·obtain ⟨us,_,p1,_⟩:=I1.list h1
   refine call_enumerate_list p1.isList fun h' z s1' sz kp=>wpAny_pyIter_enum z ?_
   refine⟨s1.heap.objs.size+1,[s1.heap.objs.size+1,s1.heap.objs.size],_,_,H1,rfl,I1.kept (t':=s1.toks) kp,
    aB1 a' _ _ (Nat.succ_ne_self _),⟨⟨_,z⟩,s1'⟩,fun c hc=>?_,q⟩
   simp only [aW3,aX2,aZ8] at hc
   rcases hc with rfl | rfl
   ·exact I1.fpOk (bg6 _ _) (fresh 1)
   ·exact I1.fpOk (aW8 _) (fresh 0)
  ·obtain ⟨us,_,p1,_⟩:=I1.tuple h1
   refine Zp.aB6 p1 fun h' z s1' sz kp=>wpAny_pyIter_enum z ?_
   refine⟨s1.heap.objs.size+1,[s1.heap.objs.size+1,s1.heap.objs.size],_,_,H1,rfl,I1.kept (t':=s1.toks) kp,
    aB8 a' _ _ (Nat.succ_ne_self _),⟨⟨_,z⟩,s1'⟩,fun c hc=>?_,q⟩
   simp only [aW3,aX2,aZ8] at hc
   rcases hc with rfl | rfl
   ·exact I1.fpOk (bg6 _ _) (fresh 1)
   ·exact I1.fpOk (aW8 _) (fresh 0)
end
end L2
namespace Zp
open PySem PyProof.Rows
theorem aC0 (t b:Addr) (xs ys:Array Value) (n n2:Nat) (dd dd2:Option Addr) (sl sl2:Array (Option Value)) (hx:xs.isEmpty=true):Meets (Builtin.«tuple.__add__» ⟨[.ref t,.ref b],[]⟩)
  (fun _ R s=>s.heap.get? t=some { cls:=.type "tuple",dict:=dd,data:=.seq xs n,slots:=sl }/\s.heap.get? b=some { cls:=.type "tuple",dict:=dd2,data:=.seq ys n2,slots:=sl2 }/\R (.ok (.ret (.ref b))) s):=
 .of_wp fun prog w A R s h=>by
  obtain ⟨h1,h2,h⟩:=h
  have sub:isSubtype (Value.type "tuple") (Value.type "tuple")=pure true:=rfl
  wp_walk
  exact⟨_,rfl,h⟩
end Zp
namespace L2
open PySem PySem.Spec PyProof.Rows
section
variable {X : Cx}
def M7 (K:PySem.W.Frag):R2:=fun x y H Q=>∃ a b xs ys,x = .ref a/\y = .ref b/\aL K H a xs/\aL K H b ys/\xs.length+ys.length<=sizeLine/\
 (xs = []->Q (.ref b) H)/\(xs ≠ []->ys = []->Q (.ref a) H)/\(xs ≠ []->ys ≠ []->∀ p,H p=none->Q (.ref p) (upd H p (.tup (xs ++ ys))))
theorem aC1:bX X (binaryOp .Add) (M7 X.K):=by
 intro pins s σ H x y v u Q I rx ry h
 obtain ⟨a,b,xs,ys,ex,ey,ha,hb,hz,q0,q1,q2⟩:=h
 by_cases hx:xs = []
 ·subst ex ey
  cases rx
  cases ry
  obtain ⟨its,r1,p1,_⟩:=I.tuple ha
  obtain ⟨its2,r2,p2,_⟩:=I.tuple hb
  have hi:its = []:=r1.nil_iff.mpr hx
  obtain ⟨⟨cls,dd,data,sl⟩,ho,hc,n,hd⟩:=id p1
  obtain ⟨⟨cls2,dd2,data2,sl2⟩,ho2,hc2,n2,hd2⟩:=id p2
  simp only at hc hd hc2 hd2
  subst hc hd hc2 hd2
  exact concat_meets ⟨_,ho,rfl⟩ ⟨_,ho2,rfl⟩ noFill_tuple_add seq_tuple_add PySem.F.slot_tuple_add PySem.F.entry_tuple_add (PySem.F.args_tuple_add_2 _ _)
   (Zp.aC0 a b its.toArray its2.toArray n n2 dd dd2 sl sl2 (by simp [hi])) ⟨ho,ho2,⟨.ref b,H,I,rfl,q0 hx⟩⟩
 ·exact ai6 pins s σ H x y v u Q I rx ry ⟨a,b,xs,ys,ex,ey,ha,hb,hx,hz,q1 hx,q2 hx⟩
end
end L2
namespace PP
open PySem L2 PyProof.Rows
def jC (xs:List PV):List PV:=xs.mapIdx fun i x=>PV.tup [.int (i:Int),x]
theorem vN (xs:List PV):(jC xs).length=xs.length:=by unfold jC; rw [List.length_mapIdx]
theorem M8 {xs:List PV}{i:Nat}{x:PV} (h:xs[i]? = some x):(jC xs)[i]? = some (.tup [.int (i:Int),x]):=by
 unfold jC; rw [List.getElem?_mapIdx,h]; rfl
theorem aC2 {xs:List PV}{i:Nat}{z:PV} (h:(jC xs)[i]? = some z):∃ x,xs[i]? = some x/\z = .tup [.int (i:Int),x]:=by
 unfold jC at h
 rw [List.getElem?_mapIdx] at h
 cases e:xs[i]? with
 | none=>rw [e] at h; cases h
 | some x=>rw [e] at h; exact⟨x,rfl,(aY5 h).symm⟩
def vO (te:aC):eJ:=fun ρ Q=>te ρ fun x g=>∃ xs,(x = .lst xs ∨ x = .tup xs)/\(g = .rd->flat x=true)/\Q (jC xs) (uG g xs)
theorem aC3 {K:PySem.W.Frag}{H0:Hp}{W:Addr->Prop}{g:Bool}{H1:Hp}{a:Addr}{us:List V}{xs:List PV} (tw:∀ a,W a->∃ o,H1 a=some o/\eV o=true) (ha:∀ W' H',Ev W H1 W' H'->aN K H' a us) (r:Reps K (Ms H0 W g) H1 us xs):jQ K H0 W g H1 (vL K a) (jC xs):=by
 have lr:=r.length
 have ll:=vN xs
 refine⟨fun W' H' i e hi=>⟨us,us[i]'(by omega),ha W' H' e,by simp⟩,fun W' H' i v H2 e y hi=>?_,fun W' H' e=>⟨us,ha W' H' e,by omega⟩⟩
 obtain ⟨T,x,hT,rfl,rfl,y⟩:=y
 obtain ⟨z,hz,rz⟩:=r.get (y us (ha W' _ e))
 have sm:=bK hT (HO.tup [.int (i:Int),x])
 exact⟨sm,_,M8 hz,.tup bU (.cons (.int _) (.cons ((rz.keep (e.keep tw)).same sm fun _ q=>q) .nil))⟩
theorem aC4 {K:PySem.W.Frag}{H0:Hp}{W:Addr->Prop}{g:Bool}{H1:Hp}{a:Addr}{us:List V}{xs:List PV} (tw:∀ a,W a->∃ o,H1 a=some o/\eV o=true) (ha:∀ W' H',Ev W H1 W' H'->aL K H' a us) (r:Reps K (Ms H0 W g) H1 us xs):jQ K H0 W g H1 (vM K a) (jC xs):=by
 have lr:=r.length
 have ll:=vN xs
 refine⟨fun W' H' i e hi=>⟨us,us[i]'(by omega),ha W' H' e,by simp⟩,fun W' H' i v H2 e y hi=>?_,fun W' H' e=>⟨us,ha W' H' e,by omega⟩⟩
 obtain ⟨T,x,hT,rfl,rfl,y⟩:=y
 obtain ⟨z,hz,rz⟩:=r.get (y us (ha W' _ e))
 have sm:=bK hT (HO.tup [.int (i:Int),x])
 exact⟨sm,_,M8 hz,.tup bU (.cons (.int _) (.cons ((rz.keep (e.keep tw)).same sm fun _ q=>q) .nil))⟩
section
variable {X : Cx} {σ : L2.St} {H : Hp} {te : aC} {R : It → Hp → Prop}
theorem aC5 (h:LI X (vO te) σ H R):M6 X.K (iO (LE X te) jM) σ H R:=by
 obtain ⟨W,ρ,Q,px,q,k⟩:=h
 refine⟨W,ρ,_,px,q,?_⟩
 rintro v H1 x g s r ⟨xs,hx,hg,q⟩
 have px1:=px.mono s
 have tw:∀ a,W a->∃ o,H1 a=some o/\eV o=true:=fun a z=>(px1.wm a z).2
 rcases hx with rfl | rfl
 ·obtain ⟨a,us,rfl,m,h,r⟩:=r.sqL
  have wa : ¬ W a:=by
   cases g with
   | fr=>exact (px.new m).1
   | nw=>exact m.1
   | sh=>exact m
   | rd=>have:=hg rfl; unfold flat at this; cases this
  exact⟨a,rfl,.inl ⟨us,aN.of h,k _ _ _ _ s (aC3 tw (fun W' H' e=>aN.of (e _ _ h wa).1) (lO px (fun z=>by have:=hg z; unfold flat at this; cases this) r)) q⟩⟩
 ·obtain ⟨a,us,rfl,h,r⟩:=r.sqT
  refine⟨a,rfl,.inr ⟨us,aL.of h,k _ _ _ _ s (aC4 tw (fun W' H' e=>aL.of (e _ _ h fun z=>?_).1) (lO px (fun z=>by have:=hg z; unfold flat at this; exact this) r)) q⟩⟩
  obtain ⟨o,h',mu⟩:=tw _ z; rw [h] at h'; cases h'; cases mu
theorem aC6 {elts:List Expr}{kt:Nat}{pt p2 pos:Pos}{a:Expr}{ta:aC} (hg:Gl X "enumerate") (hm:X.mg "enumerate" = none) (ha:QE X a ta) (hs:starEach [a] X.env = [(false,eval a X.env)]:=by rfl):QI X (.Tuple elts kt pt) (.Call (.Name "enumerate" p2) [a] [] pos) (vO ta):=
 pV (aB9 hg hm (fW ha iP hs) hs) fun _ _ _=>aC5
end
section
variable {X : Cx} {e : Expr} {te : aC} {pos p2 : Pos} {scope : Scope} {N : List Str} {fr : List (Option Nat)} {x y : Str} {tp xp yp : Pos} {kt : Nat} {iter elt : Expr} {ti : eJ}
abbrev vP (x y:Str) (xp yp:Pos) (kt:Nat) (tp:Pos):Expr:=.Tuple [.Name x xp,.Name y yp] kt tp
theorem aC7 {ifs:List Expr}{tcs:cO} (hc:X.calm=true) (he:∀ (s:Shared) (H:Hp) (C:Addr) (fp:List Addr),QE (cQ X scope N s H C fp e9) elt te) (hi:∀ (s:Shared) (H:Hp) (C:Addr) (fp:List Addr),lG (cQ X scope N s H C fp e9) ifs (LT (cQ X scope N s H C fp e9) tcs))
  (hN:N.Nodup) (h0:N[0]? = some x) (h1:N[1]? = some y) (hl:∀ (s:Shared) (H:Hp) (C:Addr) (fp:List Addr),(cQ X scope N s H C fp e9).env.scope.names.lookup x=some .local) (hl2:∀ (s:Shared) (H:Hp) (C:Addr) (fp:List Addr),(cQ X scope N s H C fp e9).env.scope.names.lookup y=some .local) (s:Shared) (H:Hp) :
  pA X scope N (vP x y xp yp kt tp) ifs elt s H (lE X.K 2 (gO (eC 0) (gO (eC 1) lD))) (LT (X.frm H) tcs) (LE (X.frm H) te):=
 ⟨fun C fp=>oN (X:=cQ X scope N s H C fp e9) hc (jK (jJ hN h0 (.inl (hl s H C fp)) (.inr (hl s H C fp))) (jK (jJ hN h1 (.inl (hl2 s H C fp)) (.inr (hl2 s H C fp))) oM)),fun C fp=>hi s H C fp,fun C fp=>he s H C fp⟩
theorem M9 (hi:QI X (vP x y xp yp kt tp) iter ti) (he:∀ (s:Shared) (H:Hp) (C:Addr) (fp:List Addr),QE (cQ X scope N s H C fp e9) elt te)
  (hc:X.calm=true:=by rfl) (S:gS X scope N fr:=by exact gS.of rfl rfl) (hN:N.Nodup:=by decide +kernel) (h0:N[0]? = some x:=by rfl) (h1:N[1]? = some y:=by rfl) (hl:∀ (s:Shared) (H:Hp) (C:Addr) (fp:List Addr),(cQ X scope N s H C fp e9).env.scope.names.lookup x=some .local:=by intro _ _ _ _; rfl) (hl2:∀ (s:Shared) (H:Hp) (C:Addr) (fp:List Addr),(cQ X scope N s H C fp e9).env.scope.names.lookup y=some .local:=by intro _ _ _ _; rfl) (hf:fr[0]? = some none:=by rfl) (hf2:fr[1]? = some none:=by rfl)
  (hs:∀ x,foldedSetIterable iter X.env x=pure x:=by intro _; rfl):QE X (.ListComp elt [⟨vP x y xp yp kt tp,iter,[],0⟩] scope pos) (jS ti fr (gC 0 1) gD te):=
 cL (zO (gh:=fun _=>lE X.K 2 (gO (eC 0) (gO (eC 1) lD))) (tch:=fun H=>LT (X.frm H) gD) (teh:=fun H=>LE (X.frm H) te) hc S hi (aC7 hc he (fun _ _ _ _=>F1) hN h0 h1 hl hl2) hs) fun _ _ _=>B5 (uH _ 0 1) (fun i e=>by rcases e with e | e <;> (subst e; assumption))
end
section
variable {X : Cx} {a b e o f : Expr} {ta tb te td tk tx : aC} {pos p2 apos cpos : Pos} {σ : L2.St} {H : Hp} {Q' : VK}
theorem N0 {x:Str}{n:Int}{t:Nat} (hg:Gl X x) (hm:X.mg x=some (.int n t)) (hd:(x == ("__debug__" : Str))=false:=by decide):QE X (.Name x pos) (qC (.int n)):=
 cL (xA (v:=.int n) hg hm ⟨t,rfl⟩ hd) fun _ _ _=>nE fun _=>.int n
end
section
variable {X : Cx} {a b : Expr} {ta tb : aC} {pos : Pos}
def N1:PV->Tg->PV->Tg->PK->Prop:=fun x _ y _ Q=>∃ xs ys,x = .tup xs/\y = .tup ys/\flats xs=true/\flats ys=true/\xs.length+ys.length<=16000000/\Q (.tup (xs ++ ys)) .fr
abbrev N2 (ta tb:aC):aC:=q2 N1 ta tb
theorem aC8:dD X N1 (M7 X.K):=by
 rintro W Hs H u v x y g g' Q Q' s n r1 r2 ⟨xs,ys,rfl,rfl,f1,f2,hl,q⟩ k
 obtain ⟨a,us,rfl,h1,q1⟩:=r1.sqT
 obtain ⟨b,ws,rfl,h2,q2⟩:=r2.sqT
 have l1:=q1.length
 have l2:=q2.length
 refine⟨a,b,us,ws,rfl,rfl,aL.of h1,aL.of h2,lim (by omega),fun z=>?_,fun _ z=>?_,fun _ _ p hp=>k _ _ _ .fr (bK hp _) (.tup bU (((q1.flat f1).append (q2.flat f2)).same (bK hp _) fun _ z=>z)) q⟩
 ·obtain rfl:xs = []:=by cases xs with
   | nil=>rfl
   | cons _ _=>rw [z] at l1; cases l1
  exact k _ _ _ .fr (aD.refl _) (.tup h2 (q2.flat f2)) q
 ·obtain rfl:ys = []:=by cases ys with
   | nil=>rfl
   | cons _ _=>rw [z] at l2; cases l2
  rw [bf1] at q
  exact k _ _ _ .fr (aD.refl _) (.tup h1 (q1.flat f1)) q
theorem aC9 (ha:QE X a ta) (hb:QE X b tb):QE X (.BinOp a .Add b pos) (N2 ta tb):=jU aC1 aC8 ha hb
end
end PP
namespace Core
open PySem L2 PP
section
variable {ws : List Int} {ls : List (Int × Int)} {os ns : List Int}
def aD0 (ws:List Int) (ls:List (Int × Int)) (T:List Int):Prop:=∀ h ∈ rng ws.length,kin ws ls T h=false
end
theorem N3 {i:Nat}{h:Int}{g:Bool}{ρ:bA}{Q:bA->Prop} (q:Q (ρ.set i (some (.sh true (.int h))))):dI i (.int h) g ρ Q:=by
 show Q (ρ.set i (some (.sh (g || true) (.int h))))
 rw [Bool.or_true]; exact q
def aD1 (ns S:List Int):Int:=(ns.length:Int) - (((ns.filter fun x=>decide (x ∈ S)).length:Nat):Int)
def aD2 (ws:List Int) (ls:List (Int × Int)) (S:List Int) (h:Int):Bool:=decide (aD1 (tX ls h) S < ws.getD h.toNat 0)
def stay (ws:List Int) (ls:List (Int × Int)) (S:List Int):List Int:=S.filter (aD2 ws ls S)
end Core
namespace Raw
open PySem PySem.W PyProof.Rows
section
variable {prog : Program} {w : World} {A : Around} {E : Value → Shared → Prop} {s : Shared} {T : String} {r d : Addr} {n : Nat} {P : Nat → Value → Prop} {OK : Heap → Prop}
theorem aD3 {R:Result->Shared->Prop} (K:KdlSrc prog w T r d n P OK) (hh:A.handled=none) (hok:OK s.heap) (hn:n<=sizeLine)
  (hR:∀ h' tk acc c,(∀ b o,b ≠ s.heap.objs.size->(s.heap.push { cls:=.type "list",data:=.seq ([]:List Value).toArray }).get? b=some o->h'.get? b=some o)->h'.get? s.heap.objs.size=some { cls:=.type "list",dict:=none,data:=.seq acc c,slots:=#[] }->ItemsOf P acc n->R (.ok (.ret (.ref s.heap.objs.size))) { s with heap:=h',toks:=tk }) :
  codeAny (model prog w) A (.builtin "proto.collect" ⟨[.ref r],[]⟩) R s:=by
 have lt:=K.there _ hok
 refine bg1 PySem.F.entry_proto_collect ?_
 rw [bd1 PySem.F.plain_proto_collect _]
 show wpAny _ A.in1 (newList [] >>= fun l=>again (.builtin "list.__iadd__" ⟨[l,.ref r],[]⟩)) _ _ s
 refine aV7 (ba2 ?_)
 refine aW2 ⟨bi0 PySem.F.plain_list_iadd _,bg1 PySem.F.entry_list_iadd ?_⟩
 rw [bd1 PySem.F.plain_list_iadd _]
 show wpAny _ A.in1 (Builtin.List.listExtendWith (.ref s.heap.objs.size) (.ref r) (.ref s.heap.objs.size)) _ _ _
 exact kdl_extend (s:={ s with heap:=s.heap.push { cls:=.type "list",data:=.seq ([]:List Value).toArray } }) (R:=R) K hh (K.keep _ _ hok fun b _ o e=>aV9 _ e) s.heap.objs.size (bg3 lt.1) (bg3 lt.2) _ 0 (aX4 _ rfl) hR hn
theorem aD4 {Q:List Value->Shared->Prop} (K:KdlSrc prog w T r d n P OK) (hh:A.handled=none) (hok:OK s.heap) (hn:n<=sizeLine)
  (hQ:∀ h' tk acc,(∀ b o,s.heap.get? b=some o->h'.get? b=some o)->s.heap.objs.size<=h'.objs.size->ItemsOf P acc n->Q acc.toList { s with heap:=h',toks:=tk }) :
  wpAny (model prog w) A (collect (.ref r)) Q E s:=by
 unfold collect
 refine aV7 (wpAny_runValue (aD3 (s:=s) K hh hok hn fun h' tk acc c kp at1 it=>?_))
 show wpAny _ A (load s.heap.objs.size >>= _) _ _ _
 refine aV7 (wpAny_load at1 ?_)
 exact aW2 (hQ h' tk acc (fun b o e=>kp b o (aZ0 (aX1 e)) (aV9 _ e)) (bi1 (aX1 at1)) it)
end
end Raw
namespace Core
open PySem L2 PP
theorem vQ {xs:List PV}{w:Int} (h:0<=w):fN xs none (some w)=xs.take w.toNat:=by
 unfold fN
 rw [HT.ah2,List.drop_zero,Nat.sub_zero]
 have:HT.aV xs.length xs.length (some w)=min w.toNat xs.length:=by
  show (if w < 0 then (w+(xs.length:Int)).toNat else min w.toNat xs.length)=_
  rw [if_neg (by omega)]
 rw [this,<- List.take_take,bc9]
end Core
namespace L2
open PySem PySem.Spec PyProof.Rows
theorem N4:∀ (n:Nat) (ns:List Int),n<=ns.length->preSum (fun i=>ns.getD i 0) n=(ns.take n).sum
 | 0,_,_=>by simp [preSum]
 | n+1,ns,h=>by
  show preSum (fun i=>ns.getD i 0) n+ns.getD n 0=_
  have h1:ns[n]? = some (ns[n]'(by omega)):=aW0 (by omega)
  have h2:ns.take (n+1)=ns.take n ++ [ns[n]'(by omega)]:=by rw [ba8,h1]; rfl
  have h3:ns.getD n 0=ns[n]'(by omega):=by rw [aX8,h1]; rfl
  rw [N4 n ns (by omega),h2,h3,List.sum_append,List.sum_cons,List.sum_nil]
  omega
section
variable {X : Cx}
theorem aD5 (hc:X.calm=true):cH X (.builtin "sum") (fun xs H Q=>∃ (a:Addr) (ns:List Int),xs = [.ref a]/\(aN X.K H a (ns.map V.int) ∨ aL X.K H a (ns.map V.int))/\Q (.int ns.sum) H):=by
 intro pins s σ H xs us Q I r h
 obtain ⟨a,ns,rfl,hq,q⟩:=h
 obtain ⟨u,rfl,ru⟩:=eQ r
 cases ru
 have hh:X.A.in1.handled=none:=I.ok.hd hc
 have fin:∀ (its:List Value) (o:Obj) (wr:List Addr) (hw:∀ b ∈ wr,s.heap.objs.size<=b),aI (ns.map V.int) its->∀ s' t',Moved wr (fun a b=>b=a) { s with heap:=s.heap.push o } s'->
   ∃ x H',a8 X pins σ H' s'/\aP x (.int (preSum (fun i=>ns.getD i 0) its.toArray.size) t')/\Q x H':=fun its o wr hw rv s' t' hm=>by
  have hl:=rv.length
  rw [aW6] at hl
  have e:=Moved.eq_with hm
  have e2:preSum (fun i=>ns.getD i 0) its.toArray.size=ns.sum:=by rw [aW1,<- hl,N4 _ _ (aW8 _),bc9]
  rw [e2,e]
  refine⟨.int ns.sum,H,I.kept (t':=s'.toks) (h':=s'.heap) fun b o' eb=>hm.heap b o' (fun z=>?_) (aV9 _ eb),⟨t',rfl⟩,q⟩
  exact absurd (aX1 eb) (Nat.not_lt.mpr (hw b z))
 have val:∀ (its:List Value),aI (ns.map V.int) its->∀ (i:Nat) (v:Value),its.toArray[i]? = some v->∃ t,v = .int (ns.getD i 0) t:=fun its rv i v hv=>by
  have hi:its[i]? = some v:=by simpa using hv
  have hl:=rv.length
  rw [aW6] at hl
  have hil:i < ns.length:=by rw [hl]; exact (aW9.mp hi).1
  obtain ⟨u,e1,e2⟩:=rv.get (i:=i) (x:=.int ns[i]) (by simp [hil])
  rw [hi] at e1; cases e1
  obtain ⟨t,rfl⟩:=e2
  exact⟨t,by rw [aX8,aW0 hil]; rfl⟩
 rcases hq with hq | hq
 ·obtain ⟨its,rv,p,hz⟩:=I.list hq
  have hlt:a < s.heap.objs.size:=by obtain ⟨o,e,_⟩:=p.isList; exact aX1 e
  refine call_sum_walkAnyS (wpAny_pyIter_list p.isList ?_)
  refine⟨s.heap.objs.size,_,_,_,_,_,_,fun i=>ns.getD i 0,rfl,(Walks.list hh s.heap.objs.size a (aZ0 hlt) its.toArray).toS,⟨⟨_,aX4 _ rfl,rfl,rfl⟩,p.isList.push _⟩,?_,val its rv,fun s' t' hm=>fin its _ _ ?_ rv s' t' hm⟩
  ·intro b hb
   have hs:(s.heap.push { cls:=.type "list_iterator",data:=.fields #[.ref a,.int 0 0] }).objs.size=s.heap.objs.size+1:=size_push' _ _
   show b < (s.heap.push _).objs.size
   rw [size_push']
   rcases aW3.mp hb with rfl | hb
   ·exact Nat.lt_succ_self _
   ·rw [aX6.mp hb]; exact Nat.lt_succ_of_lt hlt
  ·intro b hb
   rw [aX6.mp hb]; exact aW8 _
 ·obtain ⟨its,rv,p,hz⟩:=I.tuple hq
  have hlt:a < s.heap.objs.size:=by obtain ⟨o,e,_⟩:=p; exact aX1 e
  refine call_sum_walkAnyS (bh6 p ?_)
  refine⟨s.heap.objs.size,_,_,_,_,_,_,fun i=>ns.getD i 0,rfl,(Walks.tuple hh s.heap.objs.size a (aZ0 hlt) its.toArray).toS,⟨⟨_,aX4 _ rfl,rfl,rfl⟩,?_⟩,?_,val its rv,fun s' t' hm=>fin its _ _ ?_ rv s' t' hm⟩
  ·obtain ⟨o,e,h⟩:=p
   exact⟨o,aV9 _ e,h⟩
  ·intro b hb
   show b < (s.heap.push _).objs.size
   rw [size_push']
   rcases aW3.mp hb with rfl | hb
   ·exact Nat.lt_succ_self _
   ·rw [aX6.mp hb]; exact Nat.lt_succ_of_lt hlt
  ·intro b hb
   rw [aX6.mp hb]; exact aW8 _
end
end L2
namespace PP
open PySem L2 PyProof.Rows
section
variable {X : Cx} {a b e : Expr} {ta tb te : aC} {tr : cB} {pos p2 : Pos}
def qZ:List PV->(PV->Prop)->Prop:=fun xs Q=>∃ x ns,xs = [x]/\iZ x=some (intz ns)/\Q (.int ns.sum)
theorem aD6:dH X qZ (fun xs H Q=>∃ (a:Addr) (ns:List Int),xs = [.ref a]/\(aN X.K H a (ns.map V.int) ∨ aL X.K H a (ns.map V.int))/\Q (.int ns.sum) H):=by
 rintro H vs xs Q Q' r ⟨x,ns,rfl,e,q⟩ k
 obtain ⟨v,rfl,r1⟩:=r.one
 obtain ⟨a,us,rfl,hs,r2⟩:=r1.seq e
 obtain rfl:=r2.ofInts
 exact⟨a,ns,rfl,hs,k _ _ _ (aD.refl _) (.int _) q⟩
theorem aD7 (B:Bt X.mg) (hc:X.calm=true) (ha:QA X [e] tr) (hg:Gl X "sum":=by rfl) (he:starEach [e] X.env=(false,eval e X.env) :: starEach [] X.env:=by rfl) (hpl:(backTo pos (starEach [] X.env)).any (·.1)=false:=by rfl):QE X (.Call (.Name "sum" p2) [e] [] pos) (aF qZ tr):=
 gY (aD5 hc) aD6 hg B.sum PyProof.Rows.boot_sum ha (he:=he) (hpl:=hpl)
end
def iI (xs ys:List PV):List PV:=List.zipWith (fun x y=>PV.tup [x,y]) xs ys
theorem vR (xs ys:List PV):(iI xs ys).length=min xs.length ys.length:=by unfold iI; rw [List.length_zipWith]
theorem N5 {xs ys:List PV}{i:Nat}{x y:PV} (h:xs[i]? = some x) (h':ys[i]? = some y):(iI xs ys)[i]? = some (.tup [x,y]):=by
 unfold iI; rw [List.getElem?_zipWith,h,h']
theorem aD8 {xs ys:List PV}{i:Nat}{z:PV} (h:(iI xs ys)[i]? = some z):∃ x y,xs[i]? = some x/\ys[i]? = some y/\z = .tup [x,y]:=by
 unfold iI at h
 rw [List.getElem?_zipWith] at h
 cases e:xs[i]? with
 | none=>rw [e] at h; cases h
 | some x=>
  cases e':ys[i]? with
  | none=>rw [e,e'] at h; cases h
  | some y=>rw [e,e'] at h; exact⟨x,y,rfl,rfl,(aY5 h).symm⟩
theorem aD9 {K:PySem.W.Frag}{H0:Hp}{W:Addr->Prop}{g:Bool}{H1:Hp}{a b:Addr}{us vs:List V}{xs ys:List PV} (tw:∀ a,W a->∃ o,H1 a=some o/\eV o=true) (ha:∀ W' H',Ev W H1 W' H'->aL K H' a us) (hb:∀ W' H',Ev W H1 W' H'->aL K H' b vs)
  (r:Reps K (Ms H0 W g) H1 us xs) (r':Reps K (Ms H0 W g) H1 vs ys):jQ K H0 W g H1 (u5 K a b) (iI xs ys):=by
 have lr:=r.length
 have lr':=r'.length
 have ll:=vR xs ys
 refine⟨fun W' H' i e hi=>⟨us,vs,us[i]'(by omega),vs[i]'(by omega),ha W' H' e,hb W' H' e,by simp,by simp⟩,fun W' H' i v H2 e y hi=>?_,fun W' H' e=>⟨us,vs,ha W' H' e,hb W' H' e,by omega⟩⟩
 obtain ⟨T,x,y',hT,rfl,rfl,y⟩:=y
 obtain ⟨h1,h2⟩:=y us vs (ha W' _ e) (hb W' _ e)
 obtain ⟨z,hz,rz⟩:=r.get h1
 obtain ⟨z',hz',rz'⟩:=r'.get h2
 have sm:=bK hT (HO.tup [x,y'])
 exact⟨sm,_,N5 hz hz',.tup bU (.cons ((rz.keep (e.keep tw)).same sm fun _ q=>q) (.cons ((rz'.keep (e.keep tw)).same sm fun _ q=>q) .nil))⟩
end PP
namespace Core
open PySem L2 PP
theorem pB {ls:List (Int × Int)}{wts:List Int} (e:wts.length=ls.length):(ls.zip wts).map (·.2)=wts:=by
 rw [List.map_snd_zip]; omega
section
variable {ws : List Int} {ls : List (Int × Int)} {ns wts : List Int} {m : Nat}
def loose (ls:List (Int × Int)) (wts ns:List Int):List ((Int × Int) × Int):=(ls.zip wts).filter fun z=>!(decide (z.1.1 ∈ ns) && decide (z.1.2 ∈ ns))
end
end Core
namespace PP
open PySem L2 PyProof.Rows
section
variable {X : Cx} {a b e : Expr} {ta tb te : aC} {D : cP} {σ : L2.St} {H : Hp} {pos p2 : Pos}
def vS (p:iC) (te:aC):aO:=fun D ρ=>te ρ fun x g=>uB g x/\p x (uA g x) ρ fun ρ2=>D.nx ρ2
theorem aE0 {p:iC}{g:TG}{own:Nat->Prop} (hg:lQ X.K own p g) (h:LS X (vS p te) D σ H):lF (LE X te) g D σ H:=by
 obtain ⟨W,ρ,D',px,q,k⟩:=h
 refine⟨W,ρ,_,px,q,?_⟩
 rintro v H1 x gt s r ⟨st,q⟩
 refine hg X.H₀ W σ ρ H1 v x _ _ _ (px.mono s) (A5 px st r) q fun σ' ρ' px' _ _ q'=>?_
 exact k.nx W σ' H1 ρ' (Ev.same s) px' q'
theorem aE1 (i j:Nat) {x y:Str}{tp xp yp:Pos}{kt:Nat} (hN:X.N.Nodup) (he:QE X e te) (hx:X.N[i]? = some x:=by rfl) (hy:X.N[j]? = some y:=by rfl) (hlx:gN X.env.scope x:=by first | exact Or.inl rfl | exact Or.inr rfl) (hly:gN X.env.scope y:=by first | exact Or.inl rfl | exact Or.inr rfl)
  (hfx:X.fn x=true ∨ X.env.scope.names.lookup x=some .local:=by first | exact .inl rfl | exact .inr rfl) (hfy:X.fn y=true ∨ X.env.scope.names.lookup y=some .local:=by first | exact .inl rfl | exact .inr rfl) (hc:X.calm=true:=by rfl)
  (hs:swapsWithSole [.Tuple [.Name x xp,.Name y yp] kt tp] e pos.line X.env=pure false:=by rfl) (hw:swappedStores [.Tuple [.Name x xp,.Name y yp] kt tp] e X.env=pure none:=by rfl):QS X (.Assign [.Tuple [.Name x xp,.Name y yp] kt tp] e pos) (vS (gC i j) te):=by
 have g:PG X (.Tuple [.Name x xp,.Name y yp] kt tp) (lE X.K 2 (gO (eC i) (gO (eC j) lD))):=oN hc (jK (jJ hN hx hlx hfx) (jK (jJ hN hy hly hfy) oM))
 exact dZ (xM he g hs hw) fun _ _ _=>aE0 (uH _ i j)
end
end PP
set_option maxHeartbeats 1000000
set_option maxHeartbeats 1000000
set_option maxHeartbeats 1000000
set_option maxHeartbeats 1000000
namespace PP
open PySem L2 PyProof.Rows
abbrev eL:=(Str->Prop)->c7
def EX (K:PySem.W.Frag) (H0:Hp) (Ep:Str->Prop):XK:=fun c d H'=>d=none/\aD H0 H'/\∃ n C,c = .ref C/\PySem.W.nsIn K mainGlobals n=some (some (.ref C))/\Ep n
def N6 (K:PySem.W.Frag) (p:eL):Sp:=fun vs H Q E=>∃ xs Qp Ep,Reps K (fun _=>True) H vs xs/\p Ep xs Qp/\(∀ v H' x,aD H H'->aE K (fun a=>H a=none) H' v x->Qp x->Q v H')/\
 ∀ n C H',aD H H'->PySem.W.nsIn K mainGlobals n=some (some (.ref C))->Ep n->E (.ref C) none H'
structure cY (P:Program) (w:World) (K:PySem.W.Frag) (mg:Str->Option Value) (base:Heap) (k:Nat) (x:Str) (ps:List Str) (p:eL):Prop where
 ex:∃ f fd,dC P w K mg base (dM P w) k f fd ps (N6 K p)/\iQ K fd ps []/\PySem.W.keepIn K (.ref f)=true/\mg x=some (.ref f)
section
variable {X : Cx} {σ : L2.St} {H : Hp} {D : cP} {tr : cB} {Q' : VK} {a b c e : Expr} {es : List Expr} {pos p2 cp np hp : Pos} {t : aO} {te : aC} {tc : cO}
def nX (Ep:Str->Prop) (p:eL) (t:cB):aC:=aF (p Ep) t
theorem N7 {p:eL}{Ep:Str->Prop} (h:LE X (nX Ep p tr) σ H Q'):t9 (N6 X.K p) [] (EX X.K X.H₀ Ep) (LA X tr) σ H Q':=by
 obtain ⟨W,ρ,Q,px,q,k⟩:=h
 refine⟨W,ρ,_,px,q,fun vs H1 xs s1 r1 q1=>⟨_,_,Ep,by rw [bf1]; exact r1.any,q1,fun v H' x s2 r2 q2=>k v H' x .fr (s1.trans s2) (r2.same (aD.refl _) fun _ z=>s1.free z) q2,fun n C H' s2 z1 z2=>⟨rfl,(px.same.trans s1).trans s2,n,C,rfl,z1,z2⟩⟩⟩
theorem vT {Ep:Str->Prop}{k j:Nat}{x:Str}{ps:List Str}{p:eL} (hX:m8 X (EX X.K X.H₀ Ep)) (d:cY X.prog X.w X.K X.mg X.base k x ps p) (hr:bZ j X.A) (ha:QA X (e :: es) tr) (hkj:k<=j:=by decide) (hg:Gl X x:=by rfl) (hdb:(x == ("__debug__" : Str))=false:=by decide)
  (he:starEach (e :: es) X.env=(false,eval e X.env) :: starEach es X.env:=by rfl) (hpl:(backTo pos (starEach es X.env)).any (·.1)=false:=by rfl):QE X (.Call (.Name x p2) (e :: es) [] pos) (nX Ep p tr):=by
 obtain ⟨f,fd,F,b,kp,m⟩:=d.ex
 exact cL (tD F (hr.mono hkj) hg m kp b .nil hX.pass ha hdb he hpl) fun _ _ _=>N7
theorem aE2 {k j:Nat}{x:Str}{ps:List Str}{p:eL} (d:cY X.prog X.w X.K X.mg X.base k x ps p) (hr:bZ j X.A) (ha:QA X (e :: es) tr) (hkj:k<=j:=by decide) (hg:Gl X x:=by rfl) (hdb:(x == ("__debug__" : Str))=false:=by decide)
  (he:starEach (e :: es) X.env=(false,eval e X.env) :: starEach es X.env:=by rfl) (hpl:(backTo pos (starEach es X.env)).any (·.1)=false:=by rfl):QE X (.Call (.Name x p2) (e :: es) [] pos) (aF (p fun _=>False) tr):=by
 obtain ⟨f,fd,F,b,kp,m⟩:=d.ex
 refine cL (tD F (E:=EX X.K X.H₀ fun _=>False) (hr.mono hkj) hg m kp b .nil (fun _ _ _ _ _ _ _ h=>?_) ha hdb he hpl) fun _ _ _ h=>N7 (Ep:=fun _=>False) h
 obtain ⟨_,_,_,_,_,_,_,_,_,_,_,_,z⟩:=h
 exact z.elim
def mB (Ep:Str->Prop) (n:Str) (t:cB):aO:=fun _ ρ=>t ρ fun xs=>xs.length<=1000/\Ep n
theorem aE3 {Ep:Str->Prop}{n:Str}{C:Addr} (hn:PySem.W.nsIn X.K mainGlobals n=some (some (.ref C))) (h:LS X (mB Ep n tr) D σ H):K5 (EX X.K X.H₀ Ep) C (LA X tr) D σ H:=by
 obtain ⟨W,ρ,D',px,q,k⟩:=h
 exact⟨W,ρ,_,px,q,fun vs H1 xs s1 r z=>⟨by rw [r.length]; exact pK z.1,rfl,px.same.trans s1,n,C,rfl,hn,z.2⟩⟩
structure Xc (K:PySem.W.Frag) (mg:Str->Option Value) (base:Heap) (n:Str):Prop where
 ex:∃ C B newId initId bm,OwnCls n C bm newId mg base/\ExcBaseFacts B newId initId bm/\PySem.W.nsIn K mainGlobals n=some (some (.ref C))
theorem r6 {Ep:Str->Prop}{n:Str} (hX:m8 X (EX X.K X.H₀ Ep)) (x:Xc X.K X.mg X.base n) (ha:QA X (e :: es) tr) (hc:X.calm=true:=by rfl) (hg:Gl X n:=by rfl) (hd:(n == ("__debug__" : Str))=false:=by decide)
  (he:starEach (e :: es) X.env=(false,eval e X.env) :: starEach es X.env:=by rfl) (hpl:(backTo cp (starEach es X.env)).any (·.1)=false:=by rfl):QS X (.Raise (some (.Call (.Name n np) (e :: es) [] cp)) none pos) (mB Ep n tr):=by
 obtain ⟨C,B,newId,initId,bm,O,FB,hn⟩:=x.ex
 exact dZ (ax6 hX hc O FB ha hg hd he hpl) fun _ _ _=>aE3 hn
abbrev mC:=iX->(Str->Prop)->bA->Prop
def LB (X:Cx) (t:mC):TB:=fun D Ex σ H=>∃ (W:Addr->Prop) (ρ:bA) (D':iX) (Ep:Str->Prop),PX X.K X.H₀ W σ ρ H/\t D' Ep ρ/\nF X W H D' D/\∀ n C H',aD H H'->PySem.W.nsIn X.K mainGlobals n=some (some (.ref C))->Ep n->Ex (.ref C) none H'
def QB (X:Cx) (sts:List Stmt) (t:mC):Prop:=PB X sts (LB X t)
theorem pbI {sts:List Stmt}{t t':TB} (h:PB X sts t) (m:∀ D Ex σ H,t' D Ex σ H->t D Ex σ H):PB X sts t':=fun pins s σ H D Ex I q=>h pins s σ H D Ex I (m D Ex σ H q)
def N8 (D:iX) (i:Nat):iX:={ nx:=fun ρ=>D.nx (ρ.set i none),rt:=D.rt,bk:=fun ρ=>D.bk (ρ.set i none),ct:=fun ρ=>D.ct (ρ.set i none) }
def kT:List Str:=["BadWeb","BadSet","BadOrder","BadPrices","BadBoard","BadDeed","NotWood","NoPaper","NoSuch","TooMany","NoText","OddRound"]
def kU (n m:Str):Option Bool:=if kT.contains n then some (n == m || m == "HearthError" || m == "ValueError") else none
def vU (m:Str) (i:Nat) (tb:mC) (ts:aO):aO:=fun D ρ=>tb D (fun n=>kU n m=some true/\ts (N8 D i) (ρ.set i (some (.sh true (.exc n))))) ρ
theorem aE4 {m:Str}{Ch:Addr}{i:Nat}{tb:mC}{ts:aO} (hs:∀ n C,kU n m=some true->PySem.W.nsIn X.K mainGlobals n=some (some (.ref C))->PySem.W.subIn X.K (.ref C) (.ref Ch)=some true) (h:LS X (vU m i tb ts) D σ H):K7 X.K Ch i (LB X tb) (LS X ts) D σ H:=by
 obtain ⟨W,ρ,D',px,q,k⟩:=h
 refine⟨W,ρ,D',_,px,q,k,fun n C H' s z1 z2 a C' oe hc na hcl=>?_⟩
 cases hc
 refine⟨hs n C z2.1 z1,W,_,N8 D' i,(px.mono (s.trans (bK na _))).setSh (g:=true) (.exc bU z1 hcl),z2.2,?_⟩
 have k':=k.step (Ev.same (W:=W) (s.trans (bK na (.frz oe (.own a)))))
 exact⟨fun W' σ' H2 ρ' ev px' q'=>k'.nx W' _ H2 _ ev px'.setNone q',k'.rt,fun W' σ' H2 ρ' ev px' q'=>k'.bk W' _ H2 _ ev px'.setNone q',fun W' σ' H2 ρ' ev px' q'=>k'.ct W' _ H2 _ ev px'.setNone q'⟩
structure vV (K:PySem.W.Frag) (mg:Str->Option Value) (m:Str):Prop where
 ex:∃ Ch,mg m=some (.ref Ch)/\vD K Ch/\∀ n C,kU n m=some true->PySem.W.nsIn K mainGlobals n=some (some (.ref C))->PySem.W.subIn K (.ref C) (.ref Ch)=some true
theorem aE5 (i:Nat) {m n:Str}{b₀:Stmt}{suite body:List Stmt}{tb:mC}{ts:aO} (ct:vV X.K X.mg m) (hN:X.N.Nodup) (hb:QB X body tb) (hs:∀ a,dY (X.suite a) (b₀ :: suite) ts) (hstk:X.stack=X.env :: X.outer/\X.env.frame=some X.env.locals:=by exact⟨rfl,rfl⟩) (hi:X.N[i]? = some n:=by rfl) (hl:X.env.scope.names.lookup n=some .local:=by rfl) (hg:Gl X m:=by rfl)
  (hd:(m == ("__debug__" : Str))=false:=by decide):QS X (.Try body [.ExceptHandler (some (.Name m np)) (some n) (b₀ :: suite) hp] [] [] pos) (vU m i tb ts):=by
 obtain ⟨Ch,hm,c,sub⟩:=ct.ex
 exact dZ (ax9 (ts:=LS X ts) hstk hb hg hm c hN hi hl (fun a=>uN (hs a) fun _ _ _ ⟨W,ρ,D',px,q,k⟩=>⟨W,ρ,D',px,q,⟨k.nx,k.rt,k.bk,k.ct⟩⟩) hd) fun _ _ _=>aE4 sub
def gR:V->Value
 | .ref a=>.ref a
 | .ty n=>.type n
 | _=>.none
def aE6 (K:PySem.W.Frag):List V->Hp->VK->Prop:=fun xs H Q=>∃ v v2 b,xs = [v,v2]/\gR v2 ≠ .none/\((∃ a o C,v = .ref a/\H a=some (.frz o (.own a))/\o.cls = .ref C/\iH K C/\PySem.W.kitOne K (.ref C) (gR v2)=some b) ∨ (v = .non/\PySem.W.kitOne K (.type "NoneType") (gR v2)=some b))/\Q (.bl b) H
theorem aE7:cH X (.builtin "isinstance") (aE6 X.K):=by
 intro pins s σ H xs us Q I r h
 obtain ⟨v,v2,b,rfl,hv,hk,q⟩:=h
 obtain ⟨u,u',rfl,ru,ru'⟩:=jL r
 obtain rfl:u'=gR v2:=by
  cases v2 <;> first | exact ru' | exact absurd rfl hv
 rcases hk with ⟨a,o,C,rfl,hH,hc,F,e⟩ | ⟨rfl,e⟩
 ·obtain ⟨h1,_⟩:=I.hok a _ hH
  cases (show u=Value.ref a from ru)
  exact bc5 (ay6 F) I.kIn ⟨o,h1,hc⟩ e (fun z=>nomatch z) fun tk=>⟨.bl b,H,I.tok tk,rfl,q⟩
 ·cases (show u=Value.none from ru)
  exact bc5 PySem.W.kitx_none I.kIn trivial e (fun z=>nomatch z) fun tk=>⟨.bl b,H,I.tok tk,rfl,q⟩
def N9 (m:Str):PV->Option Bool
 | .exc n=>kU n m
 | .non=>some false
 | _=>none
def k7 (m:Str) (te:aC):aC:=fun ρ Q=>te ρ fun x _=>∃ b,N9 m x=some b/\Q (.bl b) .fr
structure vW (K:PySem.W.Frag) (m:Str) (v2:V):Prop where
 nn:gR v2 ≠ .none
 ex:∀ n C b,PySem.W.nsIn K mainGlobals n=some (some (.ref C))->kU n m=some b->iH K C/\PySem.W.kitOne K (.ref C) (gR v2)=some b
 no:PySem.W.kitOne K (.type "NoneType") (gR v2)=some false
theorem O0 {x:Str}{v2:V}{px:Pos} (B:Bt X.mg) (A:vW X.K x v2) (hx:PE X (.Name x px) (tC v2)) (ha:QE X a te) (hg:Gl X "isinstance":=by rfl)
  (he:starEach [a,.Name x px] X.env=(false,eval a X.env) :: starEach [.Name x px] X.env:=by rfl) (he2:starEach [.Name x px] X.env=(false,eval (.Name x px) X.env) :: starEach [] X.env:=by rfl) (hpl:(backTo pos (starEach [.Name x px] X.env)).any (·.1)=false:=by rfl):QE X (.Call (.Name "isinstance" p2) [a,.Name x px] [] pos) (k7 x te):=
 cL (tF aE7 hg B.isinst PyProof.Rows.boot_isinstance (fW ha (fW hx iP he2) he) (he:=he) (hpl:=hpl)) fun σ H Q' h=>by
  obtain ⟨W,ρ,Q,px,q,k⟩:=h
  refine⟨W,ρ,_,px,q,?_⟩
  rintro v H1 y g s r ⟨b,e,q⟩
  refine⟨v,v2,b,rfl,A.nn,?_,k _ _ _ .fr s (.bl _) q⟩
  cases r with
  | exc h z c=>
   obtain ⟨F,kt⟩:=A.ex _ _ _ z e
   exact .inl ⟨_,_,_,rfl,h,c,F,kt⟩
  | non=>cases e; exact .inr ⟨rfl,A.no⟩
  | _=>cases e
end
section
variable {X : Cx} {a : Expr} {pos p2 px : Pos} {te : aC}
structure kW (K:PySem.W.Frag) (mg:Str->Option Value) (m:Str):Prop where
 ex:∃ C,mg m=some (.ref C)/\vW K m (.ref C)
structure vX (K:PySem.W.Frag) (mg:Str->Option Value):Prop where
 mg:mg "ValueError" = none
 is:vW K "ValueError" (.ty "ValueError")
theorem vY {x:Str} (B:Bt X.mg) (A:kW X.K X.mg x) (ha:QE X a te) (hgx:Gl X x:=by rfl) (hdx:(x == ("__debug__" : Str))=false:=by decide) (hg:Gl X "isinstance":=by rfl)
  (he:starEach [a,.Name x px] X.env=(false,eval a X.env) :: starEach [.Name x px] X.env:=by rfl) (he2:starEach [.Name x px] X.env=(false,eval (.Name x px) X.env) :: starEach [] X.env:=by rfl) (hpl:(backTo pos (starEach [.Name x px] X.env)).any (·.1)=false:=by rfl):QE X (.Call (.Name "isinstance" p2) [a,.Name x px] [] pos) (k7 x te):=by
 obtain ⟨C,m,i⟩:=A.ex
 exact O0 B i (xA hgx m rfl hdx) ha hg he he2 hpl
theorem aE8 (B:Bt X.mg) (A:vX X.K X.mg) (ha:QE X a te) (hgx:Gl X "ValueError":=by rfl) (hg:Gl X "isinstance":=by rfl)
  (he:starEach [a,.Name "ValueError" px] X.env=(false,eval a X.env) :: starEach [.Name "ValueError" px] X.env:=by rfl) (he2:starEach [.Name "ValueError" px] X.env=(false,eval (.Name "ValueError" px) X.env) :: starEach [] X.env:=by rfl) (hpl:(backTo pos (starEach [.Name "ValueError" px] X.env)).any (·.1)=false:=by rfl):QE X (.Call (.Name "isinstance" p2) [a,.Name "ValueError" px] [] pos) (k7 "ValueError" te):=
 O0 B A.is (xB (v:=.ty "ValueError") hgx A.mg PyProof.Rows.Boot.«ValueError» rfl (by decide) (by decide)) ha hg he he2 hpl
end
structure k8 (K:PySem.W.Frag) (C:Addr):Prop where
 cls:PySem.W.isClsIn K C=true
 ty:PySem.W.typeIn K (.ref C)=some (.type "type")
 ga:PySem.W.findIn K (.ref C) "__getattribute__" = some (some (.builtin "BaseException.__getattribute__"))
 gt:PySem.W.findIn K (.ref C) "__getattr__" = some none
 fc:PySem.W.findIn K (.ref C) "__class__" = some (some (.builtin "object.__class__"))
 fg:PySem.W.specialIn K (.builtin "object.__class__") "__get__" = some (some (.builtin "getset_descriptor.__get__"))
 ft:PySem.W.takesIn K (.builtin "object.__class__")=some true
 ob:PySem.W.mroIn K C (.type "object")=some true
 be:PySem.W.mroIn K C (.type "BaseException")=some true
theorem k8.exc {K:PySem.W.Frag}{C:Addr} (h:k8 K C):iH K C:=⟨h.cls,h.ga,h.gt,h.fc,h.fg,h.ft,h.ob,h.be⟩
theorem vZ {K:PySem.W.Frag}{h₀:Heap}{mg:Str->Option Value}{x:Str}{C:Addr}{bmB:List Value}{newId:String} (X:K.In h₀) (m:mg x=some (.ref C)) (q:PySem.W.excIn K C bmB newId=true):OwnCls x C bmB newId mg h₀:=by
 refine⟨m,?_⟩
 unfold PySem.W.excIn at q
 split at q
 case h_2=>cases q
 rename_i dd cd sl ho
 split at q
 case h_2=>cases q
 rename_i C' bm k0 k1 k2 k3 n k5 hm hs
 simp only [bg4,beq_iff_eq,Bool.not_eq_true'] at q
 obtain ⟨⟨⟨⟨⟨rfl,rfl⟩,dl⟩,ht⟩,hok⟩,hni⟩:=q
 obtain ⟨nm,bs,mro,ns,qn,hd,sn,sub,ab,col,del⟩:=cd
 dsimp only at hm dl hok hni
 subst hm dl
 obtain rfl:sl = #[k0,k1,k2,k3,some (.builtin n),k5]:=by
  obtain ⟨l⟩:=sl
  exact congrArg Array.mk hs
 exact⟨bm,ns,nm,qn,bs,hd,sn,sub,ab,col,dd,k0,k1,k2,k3,k5,_,X _ _ ho,.of_isNs (PySem.W.isNs_of_in X hok),PySem.W.nsMap_none_of_in X hok hni,PySem.W.tail_of_in X ht⟩
theorem nY {n m:Str}{b:Bool} (h:kU n m=some b):n ∈ kT/\b=(n == m || m == "HearthError" || m == "ValueError"):=by
 unfold kU at h
 split at h
 ·rename_i z
  exact⟨by simpa using z,by cases h; rfl⟩
 ·cases h
theorem mD {K:PySem.W.Frag}{C D:Addr}{b:Bool} (hd:k8 K D) (ne:(C == D)=false) (s:PySem.W.subIn K (.ref C) (.ref D)=some b):PySem.W.kitOne K (.ref C) (.ref D)=some b:=by
 have ne':(Value.ref C == Value.ref D)=false:=by
  rw [beq_eq_false_iff_ne] at ne ⊢
  exact fun z=>ne (Value.ref.inj z)
 have c:=hd.cls
 unfold PySem.W.isClsIn at c
 unfold PySem.W.kitOne PySem.W.kitCls
 rw [if_neg (by rw [ne']; decide)]
 dsimp only
 rw [if_pos (by rw [c,hd.ty]; decide)]
 exact s
theorem w4 {K:PySem.W.Frag}{C:Addr}:PySem.W.kitOne K (.ref C) (.ref C)=some true:=by
 unfold PySem.W.kitOne
 rw [if_pos (bb5 _)]
theorem w5 {K:PySem.W.Frag}{C:Addr} (s:PySem.W.subIn K (.ref C) (.type "ValueError")=some true):PySem.W.kitOne K (.ref C) (.type "ValueError")=some true:=by
 unfold PySem.W.kitOne PySem.W.kitCls
 rw [if_neg (fun z=>by cases beq_iff_eq.mp z)]
 dsimp only
 rw [if_pos (by decide +kernel)]
 exact s
theorem w6 {K:PySem.W.Frag}{D:Addr} (hd:k8 K D) (s:PySem.W.subIn K (.type "NoneType") (.ref D)=some false):PySem.W.kitOne K (.type "NoneType") (.ref D)=some false:=by
 have c:=hd.cls
 unfold PySem.W.isClsIn at c
 unfold PySem.W.kitOne PySem.W.kitCls
 rw [if_neg (fun z=>by cases beq_iff_eq.mp z)]
 dsimp only
 rw [if_pos (by rw [c,hd.ty]; decide)]
 exact s
theorem aE9 {K:PySem.W.Frag}:PySem.W.kitOne K (.type "NoneType") (.type "ValueError")=some false:=by
 have e:(if PySem.W.kitMeta "ValueError" = true then (fastBuiltinMro "NoneType").map (·.contains (Value.type "ValueError")) else none)=some false:=by decide +kernel
 unfold PySem.W.kitOne
 rw [if_neg (by decide)]
 exact e
theorem cY.of {P:Program}{w:World}{K:PySem.W.Frag}{mg:Str->Option Value}{base:Heap}{k:Nat}{x:Str}{ps N:List Str}{p:eL}{st:Stmt}{f:Addr}{fd:FuncData} (F:fE K x x st f fd) (m:mg x=some (.ref f)) (S:FnScope N ps (b6 st))
  (hb:∀ (kV doc pm:Value) (an:Option Addr) (cdv ct:Value) (us:List Value),us.length=ps.length->bindArgs (PySem.W.fnOf x x (iU st) (dU st) (b6 st) .none kV doc pm an cdv ct) ⟨us,[]⟩=pure (ps.zip us))
  (t:(Str->Prop)->aO) (len:∀ Ep xs Q,p Ep xs Q->xs.length=ps.length) (rd:∀ Ep xs Q,p Ep xs Q->t Ep { nx:=fun _=>Q .non,rt:=Q } (eW N xs))
  (body:∀ (cdv:Value) (A:Around) (outer:List Env) (s:Shared) (H:Hp) (E:XK) (Ep:Str->Prop),bZ k (A.deeper (envOfC x (b6 st) s.heap.objs.size f cdv))->m8 (cV (dM P w) P w K mg base N x (b6 st) f cdv A outer s H E) (EX K H Ep)->
   dY (cV (dM P w) P w K mg base N x (b6 st) f cdv A outer s H E) (dU st) (t Ep)):cY P w K mg base (k+1) x ps p:=by
 refine⟨f,fd,F.okX S (fun vs H Q E h=>?_) (fun cdv A outer s H vs Q E hr h=>?_),F.binds hb,F.kp,m⟩
 ·obtain ⟨xs,Qp,Ep,r,q,_⟩:=h
  rw [r.length]; exact len Ep xs Qp q
 ·obtain ⟨xs,Qp,Ep,r,q,k,ke⟩:=h
  have ht:=body cdv A outer s H E Ep hr (ax5 fun c d H' z=>?_)
  ·refine⟨_,ht,fun _=>False,eW N xs,_,uT r,rd Ep xs Qp q,?_,?_,?_,?_⟩
   ·exact fun W' σ' H' ρ' e px q=>k _ _ _ px.same .non q
   ·exact fun v H' x s r q=>k _ _ _ s r q
   ·exact fun W' σ' H' ρ' e px q=>q
   ·exact fun W' σ' H' ρ' e px q=>q
  ·obtain ⟨rfl,s1,n,C,rfl,z1,z2⟩:=z
   exact ke n C H' s1 z1 z2
end PP
namespace Core
open PySem L2 PP
abbrev r9 (t:(Str->Prop)->aO) (N:List Str) (p:eL):Prop:=∀ Ep xs Q,p Ep xs Q->t Ep { nx:=fun _=>Q .non,rt:=Q } (eW N xs)
end Core
namespace PP
open PySem L2
theorem w9 {us:List Value} (h:us.length=1):∃ a,us = [a]:=List.length_eq_one_iff.mp h
theorem wA {us:List Value} (h:us.length=2):∃ a b,us = [a,b]:=by
 cases us with
 | nil=>cases h
 | cons a r=>
  obtain ⟨b,rfl⟩:=w9 (us:=r) (by simpa using h)
  exact⟨a,b,rfl⟩
theorem wB {us:List Value} (h:us.length=3):∃ a b c,us = [a,b,c]:=by
 cases us with
 | nil=>cases h
 | cons a r=>
  obtain ⟨b,c,rfl⟩:=wA (us:=r) (by simpa using h)
  exact⟨a,b,c,rfl⟩
theorem O1 {us:List Value} (h:us.length=4):∃ a b c d,us = [a,b,c,d]:=by
 cases us with
 | nil=>cases h
 | cons a r=>
  obtain ⟨b,c,d,rfl⟩:=wB (us:=r) (by simpa using h)
  exact⟨a,b,c,d,rfl⟩
section
variable {X : Cx} {e : Expr} {tk : aC} {D : cP} {σ : St} {H : Hp} {pos : Pos}
def mE (i:Nat) (tk:aC):aO:=fun D ρ=>∃ ps,ρ[i]? = some (some (.own (.dT ps)))/\tk ρ fun y _=>∃ k,y = .tup (k.map kP)/\(∃ j:Nat,(ps.map (·.1))[j]? = some k)/\∀ j:Nat,(ps.map (·.1))[j]? = some k->D.nx (ρ.set i (some (.own (.dT (ps.eraseIdx j)))))
theorem aF0 {i:Nat} (h:LS X (mE i tk) D σ H):mR (L5 (iN i) (LE X tk)) D σ H:=by
 obtain ⟨W,ρ,D',px,⟨ps,hi,q⟩,k⟩:=h
 obtain ⟨v,ev,a,rfl,wa,kvs,ea,e1,r⟩:=px.sl i _ hi
 refine⟨_,ev,a,rfl,.inr ⟨kvs,.inl ea⟩,W,ρ,_,px,q,?_⟩
 rintro kv H2 y g s ry ⟨kk,rfl,is,q⟩
 obtain ⟨b,us,rfl,hb,rb⟩:=ry.sqT
 obtain rfl:=pO rb
 have ea2:=s _ _ ea
 refine⟨kvs,kk,b,ea2,rfl,hb,by rw [e1]; exact is,fun j v hj=>?_⟩
 rw [e1] at hj
 refine k.nx W σ _ _ ((Ev.same s).trans (Ev.upd wa)) ((px.mono s).updT hi ev wa ⟨?_,?_⟩) (q j hj)
 ·rw [Raw.j9,Raw.j9,e1]
 ·rw [Raw.j9,Raw.j9]
  exact ((r.same s fun _ z=>z).eraseIdx j).keep (.upd ea2 rfl fun b m=>⟨iY wa m,m⟩)
theorem rA (i:Nat) {x:Str}{apos cpos xpos:Pos} (hu:X.A.units+1 < cLine) (he:QE X e tk) (hm:M1 X (.Name x xpos) "pop" apos e cpos:=by exact⟨rfl,rfl,rfl,rfl⟩) (hN:X.N[i]? = some x:=by rfl) (hv:i7 X.env.scope x:=by first | exact Or.inl rfl | exact Or.inr (Or.inl rfl) | exact Or.inr (Or.inr rfl)) (hd:(x == ("__debug__" : Str))=false:=by decide) (hcd:(x == ("__classdict__" : Str))=false:=by decide)
  (hsw:swapsWith (.Call (.Attribute (.Name x xpos) "pop" apos) [e] [] cpos) none pos.line X.env=pure false:=by rfl):QS X (.Expr (.Call (.Attribute (.Name x xpos) "pop" apos) [e] [] cpos) pos) (mE i tk):=
 dZ (oJ (az0 hu (jI hN hv hd hcd) he hm) hsw) fun _ _ _=>aF0
end
section
variable {X : Cx} {e : Expr} {tr : cB} {pos p2 : Pos}
def wC:List PV->(PV->Prop)->Prop:=fun xs Q=>∃ ys:List (List Int),xs = [.lst (ys.map fun r=>PV.tup (intz r))]/\ys.length<=4096/\(∀ y ∈ ys,y.length=2)/\∀ zs:List (List Int),zs.Perm ys->zs.Pairwise (fun u v=>HT.aK v u=false)->Q (.lst (zs.map fun r=>PV.tup (intz r)))
theorem aF1:dH X wC (K4 X.K):=by
 rintro H vs xs Q Q' r ⟨ys,rfl,hl,hne,q⟩ k
 obtain ⟨v,rfl,r1⟩:=r.one
 obtain ⟨a,us,rfl,_,h,r2⟩:=r1.sqL
 obtain ⟨h1,h2⟩:=vI r2
 have lr:=r2.length
 rw [aW6] at lr
 refine⟨a,us,jA H,rfl,aN.of h,by omega,fun y hy=>?_,fun l zs hl' pm so=>?_⟩
 ·obtain ⟨b,rfl,hb⟩:=h2 y hy
  refine⟨b,rfl,aL.of hb,hne _ ?_⟩
  rw [<- h1]; exact ba1.mpr ⟨_,hy,rfl⟩
 ·have hz:∀ u ∈ zs,∃ b,u = .ref b/\H b=some (.tup ((jA H u).map V.int)):=fun u hu=>h2 u (pm.mem_iff.mp hu)
  refine k _ _ _ (bK hl' _) (.lst hl' bU ((vJ hz).same (bK hl' _) fun _ z=>z)) (q _ ?_ ?_)
  ·rw [<- h1]; exact pm.map _
  ·rw [be3]; exact so
theorem aF2 (B:Bt X.mg) (ha:QA X [e] tr) (hg:Gl X "sorted":=by rfl) (he:starEach [e] X.env=(false,eval e X.env) :: starEach [] X.env:=by rfl) (hpl:(backTo pos (starEach [] X.env)).any (·.1)=false:=by rfl):QE X (.Call (.Name "sorted" p2) [e] [] pos) (aF wC tr):=
 gY ax2 aF1 hg B.sorted PyProof.Rows.boot_sorted ha (he:=he) (hpl:=hpl)
end
end PP
namespace Core
open PySem L2 PP
theorem O2 (n:Nat):∀ (a b:List (List Int)),((((tups a).zip (tups b)).all fun p=>bG (n+1) p.1 p.2) && (tups a).length == (tups b).length)=decide (a=b)
 | [],[]=>rfl
 | [],_ :: _=>by simp [tups]
 | _ :: _,[]=>by simp [tups]
 | x :: a,y :: b=>by
  have ih:=O2 n a b
  have e:∀ (z:List Int) (c:List (List Int)),tups (z :: c)=PV.tup (intz z) :: tups c:=fun _ _=>rfl
  rw [e,e]
  simp only [bd2,bk0,bb4,pP] at ih ⊢
  by_cases h:x=y
  ·subst h
   have:((tups a).length+1 == (tups b).length+1)=((tups a).length == (tups b).length):=by simp
   rw [this,aX3 rfl,Bool.true_and,ih]
   simp
  ·rw [aW4 h,bh3,bh3]
   simp [h]
theorem aF3 (n:Nat) (a b:List (List Int)):bG (n+2) (.lst (tups a)) (.lst (tups b))=decide (a=b):=O2 n a b
theorem O3 (n:Nat):∀ (a b:List (List Int)),cD (n+2) (.lst (tups a)) (.lst (tups b))=true
 | [],_=>by unfold cD tups; simp
 | _ :: _,[]=>by unfold cD tups; simp
 | x :: a,y :: b=>by
  have ih:=O3 n a b
  show (((PV.tup (intz x) :: tups a).zip (PV.tup (intz y) :: tups b)).all fun p=>cD (n+1) p.1 p.2)=true
  rw [bd2,bk0,pQ,Bool.true_and]
  exact ih
abbrev O4 (bs:List Bool):List PV:=bs.map PV.bl
section
variable {ws : List Int} {ls : List (Int × Int)}
def cne (ws:List Int) (ls:List (Int × Int)) (S:List Int):Bool:=!decide (S = []) && decide (stay ws ls S=S)
theorem aF4 {a b:List (List Int)} (h:a.Perm b) (ha:a.Pairwise fun u v=>HT.aK v u=false) (hb:b.Pairwise fun u v=>HT.aK v u=false):a=b:=
 h.eq_of_pairwise (fun x y _ _ h1 h2=>pD h2 h1) ha hb
end
end Core
namespace PP
open PySem L2
section
variable {X : Cx} {a b : Expr} {ta tb : aC} {pos : Pos}
theorem aF5 {K:PySem.W.Frag}{M M':Addr->Prop}{H:Hp}{v:V}{m n:List Int} (r1:aE K M H v (.tup (intz m))) (r2:aE K M' H v (.tup (intz n))):m=n:=by
 obtain ⟨p,us,rfl,h1,q1⟩:=r1.sqT
 obtain ⟨p2,ws,e,h2,q2⟩:=r2.sqT
 cases e
 rw [h1] at h2
 cases h2
 have:=(q1.ofInts).symm.trans q2.ofInts
 exact (List.map_inj_right fun _ _ e=>by cases e; rfl).mp this
end
end PP
namespace Core
open PySem L2 PP
def far (ns S:List Int):Bool:=decide (((S.filter fun x=>decide (x ∈ ns)).length:Int)=0)
def O5 (ws:List Int) (ls:List (Int × Int)):List Int->List Int->Bool
 | _,[]=>true
 | B,h :: R=>inB ws.length h && (kin ws ls B h && O5 ws ls (B ++ [h]) R)
end Core
namespace Raw
open PySem PySem.W PySem.Calls PyProof.Rows
theorem wD {xs:List Nat} (a:xs.Pairwise (· < ·)) {i k:Nat} (hk:k < xs.length) (h:i<=k):xs.getD i 0<=xs.getD k 0:=by
 rcases ba5 i k with z | z
 ·have:=ba0.mp a i k (by omega) hk z
  rw [aX8,aX8,aW0 (by omega),aW0 hk]
  exact bi1 this
 ·rw [Nat.le_antisymm h z]; exact aW8 _
theorem aF6 {xs:Array Nat}{i j:Nat} (h:i < xs.size):xs.getD i j=xs.toList.getD i 0:=by
 rw [aX8,bh2,Array.getD_eq_getD_getElem?,Array.getElem?_eq_getElem h]; rfl
theorem wE {xs:Array Nat}{j:Nat} (a:xs.toList.Pairwise (· < ·)):∀ (fuel lo hi:Nat),lo<=hi->hi<=xs.size->hi - lo<=fuel->(∀ i,i < lo->xs.toList.getD i 0 < j)->(∀ i,hi<=i->i < xs.size->j<=xs.toList.getD i 0)->
  SetTable.below.go xs j fuel lo hi<=xs.size/\(∀ i,i < SetTable.below.go xs j fuel lo hi->xs.toList.getD i 0 < j)/\∀ i,SetTable.below.go xs j fuel lo hi<=i->i < xs.size->j<=xs.toList.getD i 0
 | 0,lo,hi,h1,h2,h3,h4,h5=>by
  have e:lo=hi:=by omega
  subst e
  exact⟨h2,h4,h5⟩
 | fuel+1,lo,hi,h1,h2,h3,h4,h5=>by
  have sz:xs.toList.length=xs.size:=ba3
  unfold SetTable.below.go
  by_cases lt:lo < hi
  ·rw [if_pos lt]
   dsimp only
   have m1:lo<=(lo+hi) / 2:=by omega
   have m2:(lo+hi) / 2 < hi:=by omega
   rw [aF6 (by omega)]
   by_cases c:xs.toList.getD ((lo+hi) / 2) 0 < j
   ·rw [if_pos c]
    exact wE a fuel _ _ (by omega) h2 (by omega) (fun i hi'=>Nat.lt_of_le_of_lt (wD a (by omega) (by omega)) c) h5
   ·rw [if_neg c]
    exact wE a fuel _ _ (by omega) (by omega) (by omega) h4 fun i h6 h7=>aZ7 (Nat.le_of_not_lt c) (wD a (by omega) h6)
  ·rw [if_neg lt]
   have e:lo=hi:=by omega
   subst e
   exact⟨h2,h4,h5⟩
theorem aF7 {xs:Array Nat}{j:Nat} (a:xs.toList.Pairwise (· < ·)):SetTable.below xs j<=xs.size/\(∀ i,i < SetTable.below xs j->xs.toList.getD i 0 < j)/\∀ i,SetTable.below xs j<=i->i < xs.size->j<=xs.toList.getD i 0:=
 wE a xs.size 0 xs.size (bh0 _) (aW8 _) (by omega) (fun i h=>absurd h (Nat.not_lt_zero _)) fun i h1 h2=>absurd h2 (by omega)
theorem aF8 {α:Type} (xs:Array α) (p:Nat) (x:α):(SetTable.insertAt xs p x).toList=xs.toList.take p ++ x :: xs.toList.drop p:=by
 unfold SetTable.insertAt
 simp
 exact bg5 (by simp)
theorem aF9 {xs:Array Nat}{j:Nat} (a:xs.toList.Pairwise (· < ·)) (ne:xs[SetTable.below xs j]? ≠ some j):(SetTable.insertAt xs (SetTable.below xs j) j).toList.Pairwise (· < ·):=by
 obtain ⟨b1,b2,b3⟩:=aF7 (j:=j) a
 have sz:xs.toList.length=xs.size:=ba3
 rw [aF8]
 refine aZ3.mpr ⟨a.sublist (bl6 _ _),List.pairwise_cons.mpr ⟨fun x hx=>?_,a.sublist (List.drop_sublist _ _)⟩,fun x hx y hy=>?_⟩
 ·obtain ⟨i,hi,e⟩:=bd7 hx
  rw [bi9] at hi
  rw [List.getElem_drop] at e
  have h1:=b3 (SetTable.below xs j) (aW8 _) (by omega)
  have h2:=wD a (i:=SetTable.below xs j) (k:=SetTable.below xs j+i) (by omega) (by omega)
  have h3:xs.toList.getD (SetTable.below xs j+i) 0=x:=by rw [aX8,aW0 (by omega),e]; rfl
  rcases ba5 j x with z | z
  ·exact z
  ·exfalso
   have h4:xs.toList.getD (SetTable.below xs j) 0=j:=by omega
   rw [aX8,aW0 (by omega)] at h4
   refine ne ?_
   rw [<- bh2,aW0 (by omega)]
   exact congrArg some h4
 ·have hx':x < j:=by
   obtain ⟨i,hi,e⟩:=bd7 hx
   rw [bk1] at hi
   rw [List.getElem_take] at e
   have:=b2 i (by omega)
   rw [aX8,aW0 (by omega),e] at this
   exact this
  rcases aW3.mp hy with e | hy
  ·rw [e]; exact hx'
  ·obtain ⟨i,hi,e⟩:=bd7 hy
   rw [bi9] at hi
   rw [List.getElem_drop] at e
   have:=b3 (SetTable.below xs j+i) (by omega) (by omega)
   rw [aX8,aW0 (by omega),e] at this
   exact aY0 hx' this
structure hU (b:Bool) (t:SetTable):Prop where
 asc:t.place.toList.Pairwise (· < ·)
 dm:t.dummies = #[]
 led:t.led=b
theorem O6 (j:Nat):SetTable.has #[] j=false:=by
 unfold SetTable.has
 simp
theorem O7 {t:SetTable} (dm:t.dummies = #[]) {h:Int}{j:Nat}{d:Option Nat}:∀ (fuel:Nat) (p:SetTable.Probe),p.dummy=none->SetTable.probe.go t (fun _=>h+1) h fuel p=some (.empty j d)->d=none/\t.slot j = .empty
 | 0,p,_,e=>by cases e
 | fuel+1,p,hp,e=>by
  unfold SetTable.probe.go at e
  have adv:∀ p:SetTable.Probe,p.dummy=none->(t.advance p).dummy=none:=fun p hp=>by
   unfold SetTable.advance
   split <;> exact hp
  cases hs:t.slot p.j with
  | empty=>
   rw [hs] at e
   cases e
   exact⟨hp,hs⟩
  | dummy=>
   exfalso
   unfold SetTable.slot at hs
   dsimp only at hs
   rw [dm,O6] at hs
   split at hs <;> cases hs
  | live i=>
   rw [hs] at e
   dsimp only at e
   rw [if_neg (by simp; omega)] at e
   exact O7 dm fuel _ (adv p hp) e
theorem aG0 {t:SetTable} (dm:t.dummies = #[]) {h:Int}{sl:Nat}{d:Bool} (e:t.freeSlot h=some (sl,d)):t.slot sl = .empty:=by
 unfold SetTable.freeSlot at e
 split at e
 ·rename_i j dummy hm
  obtain ⟨e1,e2⟩:=O7 dm _ _ rfl hm
  subst e1
  cases e
  exact e2
 ·cases e
theorem rB {b:Bool}{t:SetTable} (h:hU b t) (n:Nat):hU b (t.standIn n):=⟨by
 show (Array.range n).toList.Pairwise (· < ·)
 rw [Array.toList_range]; exact List.pairwise_lt_range,rfl,h.led⟩
theorem aG1 {b:Bool}{t:SetTable} (h:hU b t) {j:Nat} (hs:t.slot j = .empty):hU b (t.put j).1:=by
 refine⟨?_,?_,h.led⟩
 ·refine aF9 h.asc fun e=>?_
  unfold SetTable.slot at hs
  dsimp only at hs
  rw [if_pos (by rw [e]; exact bb5 _)] at hs
  cases hs
 ·show (if SetTable.has t.dummies j then SetTable.eraseAt t.dummies (SetTable.below t.dummies j) else t.dummies) = #[]
  rw [h.dm,O6]; rfl
theorem aG2 {b:Bool}{t:SetTable} (h:hU b t) (es:Array (Int × Value)) (k:Int) (x:Value):hU b (layNew t es k x).2.1:=by
 unfold layNew
 split
 ·rename_i sl wd e
  have p:=aG1 h (aG0 h.dm e)
  show hU b (SetTable.orStandIn _ _)
  unfold SetTable.orStandIn
  split
  ·exact p
  ·exact rB p _
 ·exact rB h _
theorem aG3 {b:Bool}{t:SetTable} (h:hU b t) (es:Array (Int × Value)) (n:Nat):hU b (relayAll t es n).2.1:=by
 unfold relayAll
 split
 ·rename_i t' order e
  dsimp only
  split
  ·show hU b t'
   unfold SetTable.relaid SetTable.laid at e
   cases hc:SetTable.layClean (SetTable.sizeAbove n - 1) (es.map (·.1)) with
   | none=>rw [hc] at e; cases e
   | some owner=>
    rw [hc] at e
    cases e
    refine⟨?_,rfl,h.led⟩
    show (List.map _ _).Pairwise (· < ·)
    refine be3.mpr (List.Pairwise.filterMap _ (R:=(· < ·)) ?_ List.pairwise_lt_range)
    intro i i' hlt x hx y hy
    cases ho:owner.getD i none with
    | none=>rw [ho] at hx; cases hx
    | some v=>
     rw [ho] at hx
     cases ho2:owner.getD i' none with
     | none=>rw [ho2] at hy; cases hy
     | some v2=>
      rw [ho2] at hy
      cases hx; cases hy
      exact hlt
  ·exact rB h _
 ·exact rB h _
theorem O8 {us vs:List Value} (p:us.Perm vs):∀ {ns:List Int},IntsAre vs ns->∃ ms,IntsAre us ms/\ms.Perm ns:=by
 induction p with
 | nil=>intro ns h; exact⟨ns,h,bh4 _⟩
 | cons x _ ih=>
  intro ns h
  cases h with
  | cons n t r=>
   obtain ⟨ms,h1,h2⟩:=ih r
   exact⟨n :: ms,.cons n t h1,h2.cons n⟩
 | swap x y l=>
  intro ns h
  cases h with
  | cons n t r=>
   cases r with
   | cons n' t' r=>
    exact⟨n' :: n :: _,.cons n' t' (.cons n t r),bm7 _ _ _⟩
 | trans _ _ ih1 ih2=>
  intro ns h
  obtain ⟨ms,h1,h2⟩:=ih2 h
  obtain ⟨ms',h3,h4⟩:=ih1 h1
  exact⟨ms',h3,h4.trans h2⟩
theorem O9:∀ {us:List Value}{ns:List Int},IntsAre us ns->∀ (k:Int) (t:Nat),IntsAre (us ++ [.int k t]) (ns ++ [k])
 | _,_,.nil,k,t=>.cons k t .nil
 | _,_,.cons n u r,k,t=>.cons n u (O9 r k t)
theorem rC:∀ {us:List Value}{ns:List Int},IntsAre us ns->∀ k:Int,k ∈ ns ↔ ∃ t,Value.int k t ∈ us
 | _,_,.nil,k=>⟨(fun h=>nomatch h),(fun ⟨_,h⟩=>nomatch h)⟩
 | _,_,.cons n u r,k=>by
  constructor
  ·intro h
   rcases aW3.mp h with e | h
   ·exact⟨u,by rw [e]; exact aX5⟩
   ·obtain ⟨t,ht⟩:=(rC r k).mp h
    exact⟨t,aW7 _ ht⟩
  ·rintro ⟨t,h⟩
   rcases aW3.mp h with e | h
   ·cases e; exact aX5
   ·exact aW7 _ ((rC r k).mpr ⟨t,h⟩)
abbrev nZ (es:Array (Int × Value)) (ep:Nat) (t:SetTable):Obj:={ cls:=.type "set",dict:=none,data:=.set es ep t,slots:=#[] }
section
variable {prog : Program} {w : World} {A : Around} {E : Value → Shared → Prop} {s : Shared}
def aG4 (prog:Program) (w:World) (es:Array (Int × Value)) (t:SetTable) (ms:List Int):Prop:=ElemsOf (intKind prog w) es.toList/\IntsAre (es.toList.map (·.2)) ms/\es.size < scanBound/\t.fits es.size=true/\hU (!w.params.followText "set-order") t
def P0 (prog:Program) (w:World) (h:Heap) (a:Addr) (ms:List Int):Prop:=∃ es ep t,h.get? a=some (nZ es ep t)/\aG4 prog w es t ms
theorem P3 {h:Heap}{a:Addr}{es es':Array (Int × Value)}{ep:Nat}{t t':SetTable} (ho:h.get? a=some (nZ es ep t)):(h.update a (Obj.putSet es' t')).get? a=some (nZ es' (ep+1) t'):=by
 have:=bd5 (Obj.putSet es' t') ho (by rw [putSet_of es' t' (rfl:(nZ es ep t).data=_)]; rfl)
 rw [putSet_of es' t' (rfl:(nZ es ep t).data=_)] at this
 exact this
theorem add_int {a:Addr}{ms:List Int}{k:Int}{u:Nat}{Q:Bool->Shared->Prop} (hS:P0 prog w s.heap a ms) (room:ms.length+1 < scanBound)
  (h:∀ b h' ms',Heap.SameBut a s.heap h'->P0 prog w h' a ms'->(k ∈ ms->ms'.Perm ms)->(k ∉ ms->ms'.Perm (ms ++ [k]))->Q b { s with heap:=h' }) :
  wpAny (model prog w) A (setAddHashed a (.int k u) ((intKind prog w).hash k)) Q E s:=by
 obtain ⟨es,ep,t,ho,hel,hi,hb,hf,tk⟩:=hS
 have key:(intKind prog w).is k (.int k u)=true:=intKind_is _ _ _ _
 have ln:ms.length=es.size:=by
  have:=IntsAre.length hi
  rw [aW6,ba3] at this
  exact this.symm
 have isk:∀ v,(intKind prog w).is k v=true->∃ u,v = .int k u:=fun v hv=>Value.isInt_shape hv
 unfold setAddHashed setAddHashedIn
 refine bb0 (aV7 (wpAny_setState_of ho rfl hf ?_))
 dsimp only
 rw [byScan_of (knd:=intKind prog w) (x:=.int k u) rfl hb hel,if_pos rfl]
 unfold setAddByScan
 refine aV7 (aV7 (bj8 ?_))
 refine aV7 (wpAny_setScan_of key ho rfl hf hel ?_)
 cases hr:List.findIdx? (fun e=>(intKind prog w).is k e.2) es.toList with
 | some j=>
  dsimp only
  obtain ⟨hj,hp,_⟩:=List.findIdx?_eq_some_iff_getElem.mp hr
  have km:k ∈ ms:=by
   obtain ⟨u',e⟩:=isk _ hp
   exact (rC hi k).mpr ⟨u',by rw [<- e]; exact ba1.mpr ⟨_,bf3 hj,rfl⟩⟩
  have e:s={ s with heap:=s.heap }:=by cases s; rfl
  rw [e]
  exact aW2 (aW2 (h _ s.heap ms (Heap.SameBut.refl a s.heap) ⟨es,ep,t,ho,hel,hi,hb,hf,tk⟩ (fun _=>bh4 _) fun n=>absurd km n))
 | none=>
  dsimp only
  have km:k ∉ ms:=fun z=>by
   obtain ⟨u',hm⟩:=(rC hi k).mp z
   obtain ⟨e,he,e2⟩:=ba1.mp hm
   have:=List.findIdx?_eq_none_iff.mp hr e he
   rw [e2,intKind_is _ _ _ _] at this; cases this
  have lp:=layNew_perm t es ((intKind prog w).hash k) (.int k u)
  have lf:=layNew_fits t es ((intKind prog w).hash k) (.int k u)
  have lk:=aG2 tk es ((intKind prog w).hash k) (.int k u)
  generalize hL:layNew t es ((intKind prog w).hash k) (.int k u)=L at lp lf lk ⊢
  obtain ⟨es1,t1,wd,gave⟩:=L
  dsimp only at lp lf lk ⊢
  rw [Array.toList_push] at lp
  have el1:ElemsOf (intKind prog w) es1.toList:=(hel.push key rfl).perm lp
  have sz1:es1.size=es.size+1:=by rw [<- ba3,lp.length_eq,aY4,ba3]; rfl
  obtain ⟨ms1,i1,p1⟩:∃ ms1,IntsAre (es1.toList.map (·.2)) ms1/\ms1.Perm (ms ++ [k]):=O8 (lp.map (·.2)) (by rw [aY9]; exact O9 hi k u)
  have hb1:es1.size < scanBound:=by omega
  have gw:∀ (b:Bool) (s₁:Shared) (Q':Unit->Shared->Prop),Q' () s₁->wpAny (model prog w) A (match b with | true=>rule "set.scan.the-table-gave-way" | false=>pure ()) Q' E s₁:=fun b s₁ Q' hq=>by
   cases b
   ·exact aW2 hq
   ·exact bj8 hq
  refine aV7 (gw _ _ _ ?_)
  split <;> (
   show wpAny _ _ (storeSet a es1 t1 >>= _) _ _ _
   simp only [↓reduceIte]
   refine aV7 (wpAny_storeSet_of ho rfl ?_ (fits_of_scanBound hb1))
   have ho1:=P3 (es':=es1) (t':=t1) ho
   have sb1:=bi4 s.heap a (Obj.putSet es1 t1)
   split
   ·have rp:=relayAll_perm t1 es1 (SetTable.grown es1.size)
    have rf:=relayAll_fits t1 es1 (SetTable.grown es1.size)
    have rk:=aG3 lk es1 (SetTable.grown es1.size)
    generalize relayAll t1 es1 (SetTable.grown es1.size)=L at rp rf rk ⊢
    obtain ⟨es2,t2,gave2⟩:=L
    dsimp only at rp rf rk ⊢
    have sz2:es2.size=es1.size:=by rw [<- ba3,rp.length_eq,ba3]
    obtain ⟨ms2,i2,p2⟩:=O8 (rp.map (·.2)) i1
    refine aV7 (gw _ _ _ ?_)
    refine aV7 (wpAny_storeSet_of ho1 rfl ?_ (fits_of_scanBound (by omega)))
    exact aW2 (aW2 (h _ _ ms2 (sb1.trans (bi4 _ a _)) ⟨es2,_,t2,P3 ho1,el1.perm rp,i2,by omega,rf,rk⟩ (fun z=>absurd z km) fun _=>p2.trans p1))
   ·exact aW2 (aW2 (h _ _ ms1 sb1 ⟨es1,_,t1,ho1,el1,i1,hb1,lf,lk⟩ (fun z=>absurd z km) fun _=>p1)))
end
end Raw
namespace L2
open PySem PySem.Spec PyProof.Rows
theorem aG5 {a b c:List Int} (h1:HT.aK a b=true) (h2:HT.aK b c=true):HT.aK a c=true:=by
 cases e:HT.aK a c with
 | true=>rfl
 | false=>
  have ca:=tU (kD h2) (kD h1)
  have:=pD e ca
  subst this
  have:=kD h1
  rw [h2] at this; cases this
theorem wF {α:Type}{p q:α->Bool}:∀ {l:List α},(∀ x ∈ l,p x=true->q x=true)->(l.filter p).length<=(l.filter q).length
 | [],_=>aW8 _
 | x :: l,h=>by
  have ih:=wF (l:=l) fun y hy=>h y (aW7 _ hy)
  have hx:=h x aX5
  rw [List.filter_cons,List.filter_cons]
  cases ep:p x with
  | false=>cases q x <;> simp <;> omega
  | true=>rw [hx ep]; simp; omega
theorem P4 {α:Type}{p q:α->Bool}:∀ {l:List α},(∀ x ∈ l,p x=true->q x=true)->(∃ x ∈ l,q x=true/\p x=false)->(l.filter p).length < (l.filter q).length
 | [],_,e=>by obtain ⟨_,z,_⟩:=e; cases z
 | x :: l,h,e=>by
  have hx:=h x aX5
  have h':∀ y ∈ l,p y=true->q y=true:=fun y hy=>h y (aW7 _ hy)
  have le:=wF h'
  rw [List.filter_cons,List.filter_cons]
  obtain ⟨y,hy,qy,py⟩:=e
  rcases aW3.mp hy with rfl | hy
  ·rw [qy,py]; simp; omega
  ·have ih:=P4 h' ⟨y,hy,qy,py⟩
   cases ep:p x with
   | false=>cases q x <;> simp <;> omega
   | true=>rw [hx ep]; simp; omega
def kX (ys:List (List Int)) (x:List Int):Nat:=(ys.filter fun y=>HT.aK y x).length
theorem P5 {ys:List (List Int)}{u v:List Int} (hu:u ∈ ys) (hv:v ∈ ys):HT.aK u v=decide ((kX ys u:Int) < (kX ys v:Int)):=by
 have irr:∀ a:List Int,HT.aK a a=false:=fun a=>by
  cases e:HT.aK a a with
  | false=>rfl
  | true=>have:=kD e; rw [e] at this; cases this
 cases e:HT.aK u v with
 | true=>
  have:kX ys u < kX ys v:=P4 (fun x _ h=>aG5 h e) ⟨u,hu,e,irr u⟩
  exact (aX3 (by omega)).symm
 | false=>
  have:kX ys v<=kX ys u:=wF fun x _ h=>by
   cases e2:HT.aK x u with
   | true=>rfl
   | false=>have:=tU e2 e; rw [h] at this; cases this
  exact (aW4 (by omega)).symm
end L2
namespace L2
open PySem PySem.Spec PyProof.Rows SO
section
variable {prog : Program} {w : World} {A : Around} {E : Value → Shared → Prop} {s : Shared}
structure gL (h:Heap) (v:Value) (ns:List Int):Prop where
 at_:∃ b ob us n,v = .ref b/\h.get? b=some ob/\ob.cls = .type "tuple"/\ob.data = .seq (List.toArray us) n/\IntsAre us ns
def wG (h:Heap) (v:Value):List Int:=match v with
 | .ref b=>match h.get? b with
  | some ob=>match ob.data with
   | .seq us _=>us.toList.map numOf
   | _=>[]
  | none=>[]
 | _=>[]
theorem P6:∀ {us:List Value}{ns:List Int},IntsAre us ns->us.map numOf=ns
 | _,_,.nil=>rfl
 | _,_,.cons _ _ h=>by rw [bc2,P6 h]; rfl
theorem gL.ints {h:Heap}{v:Value}{ns:List Int} (z:gL h v ns):wG h v=ns:=by
 obtain ⟨b,ob,us,n,rfl,e2,_,e4,e5⟩:=z.at_
 unfold wG
 dsimp only
 rw [e2]; dsimp only
 rw [e4]; exact P6 e5
def kY (h:Heap) (ys:List (List Int)) (x:Keyed):Int:=(kX ys (wG h x.1):Int)
end
end L2
namespace PP
open PySem L2
section
variable {X : Cx} {a b e o : Expr} {ta tb te to : aC} {tr : cB} {pos p2 apos cpos : Pos} {σ : St} {H : Hp} {Q' : VK}
def rD:List PV->(PV->Prop)->Prop:=fun xs Q=>(∃ i,xs = [.int i]/\Q (.int i)) ∨ ∃ k,xs = [.bl k]/\Q (.int (if k then 1 else 0))
theorem aG6:dH X rD (fun xs H Q=>(∃ i,xs = [.int i]/\Q (.int i) H) ∨ ∃ k,xs = [.bl k]/\Q (.int (if k then 1 else 0)) H):=by
 rintro H vs xs Q Q' r (⟨i,rfl,q⟩ | ⟨i,rfl,q⟩) k
 ·obtain ⟨v,rfl,r1⟩:=r.one
  cases r1
  exact .inl ⟨i,rfl,k _ _ _ (aD.refl _) (.int _) q⟩
 ·obtain ⟨v,rfl,r1⟩:=r.one
  cases r1
  exact .inr ⟨i,rfl,k _ _ _ (aD.refl _) (.int _) q⟩
theorem aG7 (B:Bt X.mg) (ha:QA X [e] tr) (hg:Gl X "int":=by rfl) (he:starEach [e] X.env=(false,eval e X.env) :: starEach [] X.env:=by rfl) (hpl:(backTo pos (starEach [] X.env)).any (·.1)=false:=by rfl):QE X (.Call (.Name "int" p2) [e] [] pos) (aF rD tr):=
 qA ag1 aG6 hg B.int PyProof.Rows.boot_int ha (he:=he) (hpl:=hpl)
open Classical in
theorem P7 {A:Around} (hu:A.units+2 < cLine) {pins:List (Addr × Obj)}{s:Shared}{H:Hp}{us:List V}{its:List Value}{rs:List (List Int)}{ns:List Int}{x:V}{v:Value} (I:a8 X pins σ H s) (rx:aP x v) (r:aI us its)
  (rn:aE X.K (fun _=>True) H x (.tup (intz ns))) (rr:Reps X.K (fun _=>True) H us (rs.map fun r=>PV.tup (intz r))):∃ f:Value->Bool,∀ (j:Nat) (w:Value),its[j]? = some w->∃ m,rs[j]? = some m/\SeqAt.EqAt A s w v (f w)/\f w=decide (m=ns):=by
 have lr:=r.length
 have lp:=rr.length
 rw [aW6] at lp
 refine⟨fun w=>decide (∃ v',aP v' w/\aE X.K (fun _=>True) H v' (.tup (intz ns))),fun j w hw=>?_⟩
 have hj:=(aW9.mp hw).1
 have h1:j < us.length:=by omega
 obtain ⟨w',hw',rw'⟩:=r.get (aW0 h1)
 rw [hw] at hw'
 cases hw'
 obtain ⟨m',hm',rm⟩:=rr.get (aW0 h1)
 rw [aY1] at hm'
 cases hm:rs[j]? with
 | none=>rw [hm] at hm'; cases hm'
 | some m=>
  rw [hm] at hm'
  cases hm'
  have e2:(decide (∃ v',aP v' w/\aE X.K (fun _=>True) H v' (.tup (intz ns))))=decide (m=ns):=by
   have:(∃ v',aP v' w/\aE X.K (fun _=>True) H v' (.tup (intz ns))) ↔ m=ns:=by
    refine⟨fun ⟨v',h1',h2'⟩=>?_,fun e=>⟨_,rw',by rw [<- e]; exact rm⟩⟩
    obtain ⟨p1,w1,e1,_,_⟩:=rm.sqT
    obtain ⟨p2,w2,e2,_,_⟩:=h2'.sqT
    rw [e1] at rw' rm
    rw [e2] at h1' h2'
    cases rw'
    cases h1'
    exact aF5 rm h2'
   exact decide_eq_decide.mpr this
  refine⟨m,rfl,?_,e2⟩
  show SeqAt.EqAt A s w v (decide _)
  rw [e2]
  have:=E6 I 2 (A:=A) hu rm rn rw' rx (by exact pQ 1 m ns)
  rw [pP 1] at this
  exact this
def P8 (K:PySem.W.Frag):R2:=fun x y H Q=>∃ p us ns,∃ rs:List (List Int),y = .ref p/\H p=some (.lst us)/\aE K (fun _=>True) H x (.tup (intz ns))/\Reps K (fun _=>True) H us (rs.map fun r=>PV.tup (intz r))/\Q (.bl (!decide (ns ∈ rs))) H
theorem aG8 (hu:X.A.units+3 < cLine):bX X (compareOp .NotIn) (P8 X.K):=by
 intro pins s σ H x y v u Q I rx ry h
 obtain ⟨p,us,ns,rs,rfl,hp,rn,rr,q⟩:=h
 cases ry
 obtain ⟨its,r,pl,hz⟩:=I.list (aN.of (K:=X.K) hp)
 have lr:=r.length
 have lp:=rr.length
 rw [aW6] at lp
 obtain ⟨f,key⟩:=P7 (A:=X.A.in1) (by show X.A.units+1+2 < cLine; omega) I rx r rn rr
 refine SeqAt.notIn_listAt f pl.isList (fun w hw=>?_) ⟨.bl _,H,I,rfl,?_⟩
 ·have hw:w ∈ its:=by simpa using hw
  obtain ⟨j,hj⟩:=bj4 hw
  obtain ⟨m,_,h1,h2⟩:=key j w hj
  exact h1
 ·have:its.toArray.any f=decide (ns ∈ rs):=by
   rw [show its.toArray.any f=its.any f by simp,bf0,List.any_eq_true,aY7]
   refine⟨fun ⟨w,hw,e⟩=>?_,fun h=>?_⟩
   ·obtain ⟨j,hj⟩:=bj4 hw
    obtain ⟨m,hm,_,h2⟩:=key j w hj
    rw [h2,aY7] at e
    rw [<- e]; exact bj3 hm
   ·obtain ⟨j,hj⟩:=bj4 h
    have hl:=(aW9.mp hj).1
    obtain ⟨m,hm,_,h2⟩:=key j its[j] (aW0 (by omega))
    rw [hj] at hm
    cases hm
    exact⟨its[j]'(by omega),bf3 _,by rw [h2]; exact aX3 rfl⟩
  rw [this]
  exact q
def rE:PV->Tg->PV->Tg->PK->Prop:=fun x _ y _ Q=>∃ ns,∃ rs:List (List Int),x = .tup (intz ns)/\y = .lst (rs.map fun r=>PV.tup (intz r))/\Q (.bl (!decide (ns ∈ rs))) .fr
theorem aG9:dD X rE (P8 X.K):=by
 rintro W Hs H u v x y g g' Q Q' s n r1 r2 ⟨ns,rs,rfl,rfl,q⟩ k
 obtain ⟨p,us,rfl,_,h,r⟩:=r2.sqL
 exact⟨p,us,ns,rs,rfl,h,r1.same (aD.refl _) (fun _ _=>trivial),r.same (aD.refl _) (fun _ _=>trivial),k _ _ _ .fr (aD.refl _) (.bl _) q⟩
theorem aH0 (hu:X.A.units+3 < cLine) (ha:QE X a ta) (hb:QE X b tb) (hm:behindInMarks .NotIn b=false:=by rfl):QT X (.Compare a [.NotIn] [b] pos) (aW (q2 rE ta tb)):=iE (aG8 hu) aG9 ha hb hm
end
section
variable {X : Cx} {a b e : Expr} {ta tb te : aC} {tr : cB} {pos : Pos} {σ : St} {H : Hp} {Q' : VK} {es : List Expr}
def kZ (neg:Bool):PV->Tg->PV->Tg->PK->Prop:=fun x _ y _ Q=>∃ i j:Str,x = .str i/\y = .str j/\Q (.bl (if neg=true then !decide (i=j) else decide (i=j))) .fr
theorem P9 (i j:Str):decide (V.str i=V.str j)=decide (i=j):=by
 rw [bf0,aY7,aY7]; exact⟨fun z=>V.str.inj z,fun z=>congrArg V.str z⟩
theorem aH1:dD X (kZ true) t0:=by
 rintro W Hs H u v x y g g' Q Q' s n r1 r2 ⟨i,j,rfl,rfl,q⟩ k
 cases r1; cases r2
 exact⟨rfl,by rw [P9]; exact k _ _ _ _ (aD.refl _) (.bl _) q⟩
theorem aH2:dD X (kZ false) sZ:=by
 rintro W Hs H u v x y g g' Q Q' s n r1 r2 ⟨i,j,rfl,rfl,q⟩ k
 cases r1; cases r2
 exact⟨rfl,by rw [P9]; exact k _ _ _ _ (aD.refl _) (.bl _) q⟩
theorem Q0 (ha:QE X a ta) (hb:QE X b tb):QT X (.Compare a [.NotEq] [b] pos) (aW (q2 (kZ true) ta tb)):=iE xZ aH1 ha hb (eD _)
theorem aH3 (ha:QE X a ta) (hb:QE X b tb):QE X (.Compare a [.Eq] [b] pos) (q2 (kZ false) ta tb):=lV xY aH2 ha hb (eD _)
end
end PP
namespace Core
open PySem L2 PP
def zP (ws:List Int) (ls:List (Int × Int)) (ns R:List Int):Prop:=O5 ws ls ns R=true/\aD0 ws ls (ns ++ R)
end Core
namespace PP
open PySem L2
section
variable {X : Cx} {a b : Expr} {ta tb : aC} {pos : Pos}
def mF:PV->Tg->PV->Tg->PK->Prop:=fun x _ y _ Q=>∃ ns ms:List Int,x = .tup (intz ns)/\y = .tup (intz ms)/\Q (.bl (HT.aK ns ms)) .fr
theorem wH:dD X mF (tG X.K):=by
 rintro W Hs H u v x y g g' Q Q' s n r1 r2 ⟨ns,ms,rfl,rfl,q⟩ k
 obtain ⟨p1,us,rfl,h1,r1⟩:=r1.sqT
 obtain ⟨p2,vs,rfl,h2,r2⟩:=r2.sqT
 obtain rfl:=r1.ofInts
 obtain rfl:=r2.ofInts
 exact⟨p1,p2,ns,ms,rfl,rfl,aL.of h1,aL.of h2,k _ _ _ _ (aD.refl _) (.bl _) q⟩
theorem aH4 (hu:X.A.units+3 < cLine) (ha:QE X a ta) (hb:QE X b tb):QE X (.Compare a [.Lt] [b] pos) (q2 mF ta tb):=lV (tH (by omega)) wH ha hb (eD _)
theorem aH5 (hu:X.A.units+3 < cLine) (ha:QE X a ta) (hb:QE X b tb):QT X (.Compare a [.Lt] [b] pos) (aW (q2 mF ta tb)):=iE (tH (by omega)) wH ha hb (eD _)
end
end PP
namespace L2
open PySem PySem.Spec PyProof.Rows PP
section
variable {prog : Program} {w : World} {A : Around} {R : Result → Shared → Prop} {I S : Addr} {n : Nat} {l : Addr} {its : Array Value} {s0 : Shared} {bt : Nat → Nat → Bool}
abbrev at_ (s:Shared) (h:Heap) (k:Nat):Shared:={ s with heap:=h,toks:=k }
abbrev cZ (g h:Heap):Prop:=∀ b o,g.get? b=some o->h.get? b=some o
def cE (prog:Program) (w:World) (A:Around) (s0:Shared) (its:Array Value) (bt:Nat->Nat->Bool):Prop:=
 ∀ (i j:Nat) (v u:Value) (h:Heap) (k:Nat) (Q E:Value->Shared->Prop),its[i]? = some v->its[j]? = some u->cZ s0.heap h->Q (.bool (bt i j)) (at_ s0 h k)->wpAny (model prog w) A (richCompare .Lt v u) Q E (at_ s0 h k)
end
section
variable {prog : Program} {w : World} {A : Around} {s0 : Shared} {l : Addr} {its : Array Value} {bt : Nat → Nat → Bool}
theorem rF {h:Heap}{a:Addr} (z:h.objs.size<=a):h.get? a=none:=by
 cases q:h.get? a with
 | none=>rfl
 | some o=>exact absurd (aX1 q) (Nat.not_lt.mpr z)
end
end L2
namespace Core
open PySem L2 PP
def FB (L:List (List Int)) (f:List Int->Int) (r:List Int):Prop:=∃ i,L[i]? = some r/\(∀ (j:Nat) (s:List Int),j < i->L[j]? = some s->f s < f r)/\∀ s ∈ L,f s<=f r
end Core
namespace PP
open PySem L2
section
variable {X : Cx} {a b e : Expr} {ta tb : aC} {tr : cB} {pos p2 : Pos}
def Q2 (K:PySem.W.Frag):R2:=fun x y H Q=>gP (fun i j=>.bl (decide (i < j))) x y H Q ∨ tG K x y H Q
theorem aH6 (hu:X.A.units < cLine):bX X (compareOp .Lt) (Q2 X.K):=by
 intro pins s σ H x y v u Q I rx ry h
 rcases h with h | h
 ·exact t5 pins s σ H x y v u Q I rx ry h
 ·exact tH hu pins s σ H x y v u Q I rx ry h
def rG:PV->Tg->PV->Tg->PK->Prop:=fun x g y g' Q=>dW (fun i j=>.bl (decide (i < j))) x g y g' Q ∨ mF x g y g' Q
theorem aH7:dD X rG (Q2 X.K):=by
 intro W Hs H u v x y g g' Q Q' s n r1 r2 h k
 rcases h with h | h
 ·exact .inl (lJ W Hs H u v x y g g' Q Q' s n r1 r2 h k)
 ·exact .inr (wH W Hs H u v x y g g' Q Q' s n r1 r2 h k)
theorem aH8 (hu:X.A.units+1 < cLine) (ha:QE X a ta) (hb:QE X b tb):QE X (.Compare a [.Lt] [b] pos) (q2 rG ta tb):=lV (aH6 (by omega)) aH7 ha hb (eD _)
end
end PP
namespace L2
open PySem PySem.Spec PyProof.Rows
section
variable {X : Cx}
def Q3 (K:PySem.W.Frag) (ta:TA):TI:=fun σ H R=>ta σ H fun vs H1=>∃ a b,vs = [.ref a,.ref b]/\((∃ xs ys,aL K H1 a xs/\aL K H1 b ys/\R (u5 K a b) H1) ∨ ∃ xs ys,aN K H1 a xs/\aN K H1 b ys/\R (u7 K a b) H1)
theorem aH9 {elts:List Expr}{kt:Nat}{pt:Pos}{a b:Expr}{ta:TA}{p pos:Pos} (hg:Gl X "zip") (hm:X.mg "zip" = none) (ha:PA X [a,b] ta) (hs:starEach [a,b] X.env = [(false,eval a X.env),(false,eval b X.env)]:=by rfl) (hs2:starEach [b] X.env = [(false,eval b X.env)]:=by rfl) :
  PI X (.Tuple elts kt pt) (.Call (.Name "zip" p) [a,b] [] pos) (Q3 X.K ta):=by
 intro pins s σ H R I h
 refine Call_ (lC I hg hm PyProof.Rows.boot_zip (bj9 (aQ (ha pos pins s σ H _ I h) fun us s1 ⟨vs,H1,I1,r1,q1⟩=>?_) (by rw [hs,hs2]) (by rw [hs2]; rfl)))
 obtain ⟨a',b',e,q1⟩:=q1
 subst e
 obtain ⟨u1,u2,rfl,r,r'⟩:=aI.two r1
 cases r
 cases r'
 have fresh:∀ k,H1 (s1.heap.objs.size+k)=none:=fun k=>I1.hok.fresh (bg6 _ _)
 have fp:∀ c ∈ [s1.heap.objs.size+4,s1.heap.objs.size+2,s1.heap.objs.size+3,s1.heap.objs.size,s1.heap.objs.size+1],fB X pins H1 c:=fun c hc=>by
  simp only [aW3,aX2,aZ8] at hc
  rcases hc with rfl | rfl | rfl | rfl | rfl
  ·exact I1.fpOk (bg6 _ _) (fresh 4)
  ·exact I1.fpOk (bg6 _ _) (fresh 2)
  ·exact I1.fpOk (bg6 _ _) (fresh 3)
  ·exact I1.fpOk (aW8 _) (fresh 0)
  ·exact I1.fpOk (bg6 _ _) (fresh 1)
 rcases q1 with ⟨xs,ys,h1,h2,q⟩ | ⟨xs,ys,h1,h2,q⟩
 ·obtain ⟨us,_,p1,_⟩:=I1.tuple h1
  obtain ⟨ws,_,p2,_⟩:=I1.tuple h2
  refine Zp.an6 p1 p2 fun h' z ti to s1' s2' kp=>wpAny_pyIter_zip z ?_
  exact⟨s1.heap.objs.size+4,[s1.heap.objs.size+4,s1.heap.objs.size+2,s1.heap.objs.size+3,s1.heap.objs.size,s1.heap.objs.size+1],_,_,H1,rfl,I1.kept (t':=s1.toks) kp,an9 a' b' _ _ _ _ _ (by simp),⟨z,ti,⟨_,_,to⟩,s1',s2'⟩,fp,q⟩
 ·obtain ⟨us,_,p1,_⟩:=I1.list h1
  obtain ⟨ws,_,p2,_⟩:=I1.list h2
  refine call_zip_2 p1.isList p2.isList fun h' z ti to s1' s2' _ kp=>wpAny_pyIter_zip z ?_
  exact⟨s1.heap.objs.size+4,[s1.heap.objs.size+4,s1.heap.objs.size+2,s1.heap.objs.size+3,s1.heap.objs.size,s1.heap.objs.size+1],_,_,H1,rfl,I1.kept (t':=s1.toks) kp,ao5 a' b' _ _ _ _ _ (by simp),⟨z,ti,⟨_,_,to⟩,s1',s2'⟩,fp,q⟩
end
end L2
namespace PP
open PySem L2
theorem aI0 {K:PySem.W.Frag}{H0:Hp}{W:Addr->Prop}{g:Bool}{H1:Hp}{a b:Addr}{us vs:List V}{xs ys:List PV} (tw:∀ a,W a->∃ o,H1 a=some o/\eV o=true) (ha:∀ W' H',Ev W H1 W' H'->aN K H' a us) (hb:∀ W' H',Ev W H1 W' H'->aN K H' b vs)
  (r:Reps K (Ms H0 W g) H1 us xs) (r':Reps K (Ms H0 W g) H1 vs ys):jQ K H0 W g H1 (u7 K a b) (iI xs ys):=by
 have lr:=r.length
 have lr':=r'.length
 have ll:=vR xs ys
 refine⟨fun W' H' i e hi=>⟨us,vs,us[i]'(by omega),vs[i]'(by omega),ha W' H' e,hb W' H' e,by simp,by simp⟩,fun W' H' i v H2 e y hi=>?_,fun W' H' e=>⟨us,vs,ha W' H' e,hb W' H' e,by omega⟩⟩
 obtain ⟨T,x,y',hT,rfl,rfl,y⟩:=y
 obtain ⟨h1,h2⟩:=y us vs (ha W' _ e) (hb W' _ e)
 obtain ⟨z,hz,rz⟩:=r.get h1
 obtain ⟨z',hz',rz'⟩:=r'.get h2
 have sm:=bK hT (HO.tup [x,y'])
 exact⟨sm,_,N5 hz hz',.tup bU (.cons ((rz.keep (e.keep tw)).same sm fun _ q=>q) (.cons ((rz'.keep (e.keep tw)).same sm fun _ q=>q) .nil))⟩
section
variable {X : Cx} {σ : L2.St} {H : Hp} {ta tb : aC} {R : It → Hp → Prop}
def wI (ta tb:aC):eJ:=fun ρ Q=>ta ρ fun x g0=>tb ρ fun y g=>∃ xs ys,((x = .tup xs/\y = .tup ys) ∨ (x = .lst xs/\y = .lst ys/\g0 ≠ .rd/\g ≠ .rd))/\flats xs=true/\flats ys=true/\Q (iI xs ys) true
theorem Q4 {K:PySem.W.Frag}{H0 Hs:Hp}{W:Addr->Prop}{σ:L2.St}{ρ:bA}{g:Tg}{b:Addr} (px:PX K H0 W σ ρ Hs) (ng:g ≠ .rd) (m:Mg H0 W Hs g b) : ¬ W b:=by
 cases g with
 | fr=>exact (px.new m).1
 | nw=>exact m.1
 | sh=>exact m
 | rd=>exact absurd rfl ng
theorem aI1 (h:LI X (wI ta tb) σ H R):Q3 X.K (iO (LE X ta) (iO (LE X tb) jM)) σ H R:=by
 obtain ⟨W,ρ,Q,px,q,k⟩:=h
 refine⟨W,ρ,_,px,q,fun v0 H0 x0 g0 s0 r0 q0=>⟨W,ρ,_,px.mono s0,q0,?_⟩⟩
 rintro v H1 x g s r ⟨xs,ys,c,fx,fy,q⟩
 have S:=s0.trans s
 have px1:=px.mono S
 have tw:∀ a,W a->∃ o,H1 a=some o/\eV o=true:=fun a z=>(px1.wm a z).2
 rcases c with ⟨rfl,rfl⟩ | ⟨rfl,rfl,n0,n1⟩
 ·obtain ⟨a,us,rfl,h1,ra⟩:=(r0.same (M':=fun _=>True) s fun _ _=>trivial).sqT
  obtain ⟨b,vs,rfl,h2,rb⟩:=r.sqT
  have sta:∀ {c us},H1 c=some (.tup us)->∀ W' H',Ev W H1 W' H'->aL X.K H' c us:=fun {c us} hc W' H' e=>aL.of (e _ _ hc fun z=>by obtain ⟨o,h',mu⟩:=tw _ z; rw [hc] at h'; cases h'; cases mu).1
  exact⟨a,b,rfl,.inl ⟨us,vs,aL.of h1,aL.of h2,k _ _ _ _ S (aD9 tw (sta h1) (sta h2) (ra.flat fx) (rb.flat fy)) q⟩⟩
 ·obtain ⟨a,us,rfl,m0,h1,ra⟩:=(r0.same s fun _ z=>z).sqL
  obtain ⟨b,vs,rfl,m1,h2,rb⟩:=r.sqL
  have w0:=Q4 px n0 m0
  have w1:=Q4 (px.mono s0) n1 m1
  exact⟨a,b,rfl,.inr ⟨us,vs,aN.of h1,aN.of h2,k _ _ _ _ S (aI0 tw (fun W' H' e=>aN.of (e _ _ h1 w0).1) (fun W' H' e=>aN.of (e _ _ h2 w1).1) (ra.flat fx) (rb.flat fy)) q⟩⟩
theorem aI2 {elts:List Expr}{kt:Nat}{pt p2 pos:Pos}{a b:Expr} (B:Bt X.mg) (ha:QE X a ta) (hb:QE X b tb) (hg:Gl X "zip":=by rfl) (hs:starEach [a,b] X.env = [(false,eval a X.env),(false,eval b X.env)]:=by rfl) (hs2:starEach [b] X.env = [(false,eval b X.env)]:=by rfl):QI X (.Tuple elts kt pt) (.Call (.Name "zip" p2) [a,b] [] pos) (wI ta tb):=
 pV (aH9 hg B.zip (fW ha (fW hb iP hs2) (by rw [hs,hs2])) hs hs2) fun _ _ _=>aI1
end
end PP
namespace Core
open PySem L2 PP
theorem aI3 (xs:List PV):fN xs (some 1) none=xs.drop 1:=by
 unfold fN
 have e1:HT.aV xs.length 0 (some 1)=min 1 xs.length:=by
  show (if (1:Int) < 0 then ((1:Int)+(xs.length:Int)).toNat else min (1:Int).toNat xs.length)=_
  rw [if_neg (by decide)]; rfl
 rw [e1]
 show (xs.drop (min 1 xs.length)).take (xs.length - min 1 xs.length)=_
 rw [bg5 (by rw [bi9]; exact aW8 _)]
 cases xs with
 | nil=>rfl
 | cons x xs=>rw [show min 1 (x :: xs).length=1 by simp]
def rH {α:Type} (lt:α->α->Bool) (A:List α):Bool:=((A.zip (A.drop 1)).map fun p=>lt p.1 p.2).all id
def Q5:aO:=(bD (aF pM (a6 (jS (wI (a5 0) (gG (a5 0) (gF (qC (.int 1))) gE)) [none,none] (gC 0 1) gD (q2 rG (a5 0) (a5 1))) aA)))
theorem Q6 {α:Type} (f:α->PV) (lt:α->α->Bool) (fl:∀ a,flat (f a)=true) (hlt:∀ (a b:α) (g g':Tg) (K:PK),K (.bl (lt a b)) .fr->rG (f a) g (f b) g' K) (A:List α) (la:A.length<=10000) (x:PV) (hx:x = .tup (A.map f) ∨ x = .lst (A.map f)) {Q:PV->Prop} (q:Q (.bl (rH lt A))) :
  Q5 { nx:=fun _=>Q .non,rt:=Q } [some (.sh (flat x) x)]:=by
 have fls:∀ B:List α,flats (B.map f)=true:=fun B=>by
  induction B with
  | nil=>rfl
  | cons b B ih=>show (flat (f b) && flats (B.map f))=true; rw [fl,ih]; rfl
 have sx:pL x=some (A.map f):=by rcases hx with rfl | rfl <;> rfl
 have cut:fN (A.map f) (some 1) none=(A.drop 1).map f:=by rw [aI3,List.map_drop]
 refine⟨_,rfl,_,rfl,_,rfl,_,sx,fls A,?_⟩
 rw [cut]
 refine⟨A.map f,(A.drop 1).map f,?_,fls A,fls _,?_⟩
 ·rcases hx with rfl | rfl
  ·exact .inl ⟨rfl,rfl⟩
  ·refine .inr ⟨rfl,rfl,?_,fun z=>by cases z⟩
   cases flat (.lst (A.map f)) <;> intro z <;> cases z
 have zl:(iI (A.map f) ((A.drop 1).map f)).length=A.length - 1:=by rw [vR,aW6,aW6,bi9]; omega
 refine⟨by rw [zl]; omega,fun i acc=>acc=O4 (((A.zip (A.drop 1)).take i).map fun p=>lt p.1 p.2),rfl,?_,?_⟩
 ·rintro i y acc hy rfl
  obtain ⟨u,v,h1,h2,rfl⟩:=aD8 hy
  rw [aY1] at h1 h2
  cases ha:A[i]? with
  | none=>rw [ha] at h1; cases h1
  | some a=>
   cases hb:(A.drop 1)[i]? with
   | none=>rw [hb] at h2; cases h2
   | some b=>
    rw [ha] at h1
    rw [hb] at h2
    cases h1
    cases h2
    have hz:(A.zip (A.drop 1))[i]? = some (a,b):=List.getElem?_zip_eq_some.mpr ⟨ha,hb⟩
    refine⟨_,_,rfl,_,rfl,_,rfl,hlt a b _ _ _ ⟨trivial,?_⟩⟩
    dsimp only
    rw [ba8,hz,aY9]
    unfold O4
    rw [aY9]; rfl
 ·rintro acc rfl
  rw [bg5 (by rw [zl,List.length_zip,bi9]; omega)]
  exact⟨_,rfl,trivial,q⟩
theorem aI4 (ls:List (Int × Int)):rH (fun a b=>HT.aK [a.1,a.2] [b.1,b.2]) ls=true ↔ ls.Pairwise fU:=by
 have lt2:∀ a b:Int × Int,HT.aK [a.1,a.2] [b.1,b.2]=true ↔ fU a b:=fun a b=>by
  unfold fU
  rw [HT.fZ,HT.fZ,HT.oT]
  by_cases h1:a.1=b.1
  ·rw [if_pos h1]
   by_cases h2:a.2=b.2
   ·rw [if_pos h2]
    exact⟨fun z=>(by cases z),fun z=>(by omega)⟩
   ·rw [if_neg h2,aY7]; omega
  ·rw [if_neg h1,aY7]; omega
 induction ls with
 | nil=>exact⟨fun _=>.nil,fun _=>rfl⟩
 | cons a r ih=>
  cases r with
  | nil=>exact⟨fun _=>ba6 _ _,fun _=>rfl⟩
  | cons b r=>
   have e:rH (fun a b:Int × Int=>HT.aK [a.1,a.2] [b.1,b.2]) (a :: b :: r)=(HT.aK [a.1,a.2] [b.1,b.2] && rH (fun a b:Int × Int=>HT.aK [a.1,a.2] [b.1,b.2]) (b :: r)):=rfl
   rw [e,bg4,lt2,List.pairwise_cons]
   refine⟨fun ⟨h1,h2⟩=>⟨fun c hc=>?_,ih.mp h2⟩,fun ⟨h1,h2⟩=>⟨h1 b aX5,ih.mpr h2⟩⟩
   rcases aW3.mp hc with rfl | hc
   ·exact h1
   ·have:=(List.pairwise_cons.mp (ih.mp h2)).1 c hc
    unfold fU at *; omega
structure Moved (ws os ws':List Int):Prop where
 len:ws'.length=ws.length
 at_:∀ h:Nat,h < ws.length->ws'[(os.getD h 0).toNat]? = ws[h]?
theorem wJ {ls:List (Int × Int)} (h:ls.Pairwise fU):ls.Nodup:=h.imp fun {a b} z e=>by subst e; unfold fU at z; omega
end Core
namespace PP
open PySem L2
section
variable {X : Cx} {σ : L2.St} {H : Hp} {Q' : VK} {to te : aC} {o e : Expr} {apos cpos : Pos}
def Q7 (K:PySem.W.Frag):V->List V->Hp->VK->Prop:=fun x vs H Q=>∃ (p:Addr) (bs:List Bool) (c:Bool),x = .ref p/\vs = [.bl c]/\aN K H p (bs.map V.bl)/\c ∈ bs/\bs.length<=16000000/\Q (.int (bs.idxOf c:Nat)) H
def isB (c:Bool):Value->Bool
 | .bool b=>b == c
 | _=>false
theorem Q8:∀ {bs:List Bool}{its:List Value},aI (bs.map V.bl) its->its=bs.map Value.bool
 | [],_,.nil=>rfl
 | b :: r,_,.cons h t=>by
  cases h
  rw [Q8 t]; rfl
theorem aI5:oV X "list.index" (Q7 X.K):=by
 intro pins s σ H x vs v us Q I rx rv h
 obtain ⟨p,bs,c,rfl,rfl,hp,hi,hl,q⟩:=h
 cases rx
 obtain ⟨u,rfl,rfl⟩:=eQ rv
 obtain ⟨its,r,pl,hz⟩:=I.list hp
 obtain rfl:=Q8 r
 have hj:bs.idxOf c < bs.length:=List.idxOf_lt_length_iff.mpr hi
 obtain ⟨⟨cls,dd,data,sl⟩,ho,hc,n,hd⟩:=id pl.isList
 simp only at hc hd
 subst hc hd
 refine call_meets PySem.F.slot_list_index ⟨_,ho,rfl⟩ PySem.F.entry_list_index (PySem.F.args_list_index_2 _ _)
  (SeqAt.list_indexAt p (bs.map Value.bool).toArray n dd sl (.bool c) (isB c) (bs.idxOf c) (by simpa using hj) (by omega) ?_ ?_) ⟨ho,fun y hy=>?_,⟨.int _,H,I.tok _,⟨_,rfl⟩,q⟩⟩
 ·have:(bs.map Value.bool).toArray[bs.idxOf c]'(by simpa using hj)=Value.bool c:=by simp
  rw [this]
  exact bb5 c
 ·intro j hjs hlt
  have hjl:j < bs.length:=by simpa using hjs
  have:(bs.map Value.bool).toArray[j]'hjs=Value.bool (bs[j]):=by simp
  rw [this]
  show (bs[j] == c)=false
  exact List.not_of_lt_findIdx hlt
 ·have hy:y ∈ bs.map Value.bool:=by simpa using hy
  obtain ⟨b,hb,rfl⟩:=ba1.mp hy
  exact SeqAt.EqAt.bool_bool _ _
def rJ (to te:aC):aC:=fun ρ Q=>to ρ fun x _=>∃ bs:List Bool,x = .lst (bs.map PV.bl)/\te ρ fun y _=>∃ c:Bool,y = .bl c/\c ∈ bs/\bs.length<=16000000/\Q (.int (bs.idxOf c:Nat)) .fr
theorem aI6 (h:LE X (rJ to te) σ H Q'):oU X.K "list" (Q7 X.K) (LE X to) (iO (LE X te) jM) σ H Q':=by
 obtain ⟨W,ρ,Q,px,q,k⟩:=h
 refine⟨W,ρ,_,px,q,?_⟩
 rintro v H1 x g s1 r1 ⟨bs,rfl,q1⟩
 obtain ⟨a,us,rfl,m,ea,r⟩:=r1.sqL
 obtain rfl:=r.ofBls
 refine⟨tY (aN.of ea),W,ρ,_,px.mono s1,q1,?_⟩
 rintro w H2 y gy s2 r2 ⟨c,rfl,hi,hl,q2⟩
 cases r2
 exact⟨a,bs,c,rfl,rfl,aN.of (s2 _ _ ea),hi,hl,k _ _ _ .fr (s1.trans s2) (.int _) q2⟩
theorem aI7 (ho:QE X o to) (he:QE X e te) (hbase:attributeBase o "index" X.env (eval o X.env)=eval o X.env:=by rfl)
  (hfew:((backTo cpos (starEach [e] X.env)).all (fun x=>!x.1) && (backToKw cpos (keywordEach [] X.env)).all (fun x=>x.1.isSome) && decide (([e]:List Expr).length+([]:List Keyword).length+(if ([]:List Keyword).isEmpty then 0 else 1) < 30))=true:=by rfl)
  (hline:(apos.endLine == cpos.line)=true:=by rfl) (hs:starEach [e] X.env=(false,eval e X.env) :: starEach [] X.env:=by rfl) (hplain:(backTo cpos (starEach [] X.env)).any (·.1)=false:=by rfl) :
  QE X (.Call (.Attribute o "index" apos) [e] [] cpos) (rJ to te):=
 cL (tJ PySem.F.plainAttrs_list PySem.F.slot_list_index PySem.F.type_list_index aI5 ho (fW he iP hs) hbase hfew hline hs hplain) fun _ _ _=>aI6
end
end PP
namespace Core
open PySem L2 PP
def rK:c7:=fun xs Q=>∃ x,xs = [x]/\((∃ ns,L6 x ns/\ns.length<=1000/\Q (.bl (vE ns))) ∨ ∃ ls:List (Int × Int),(x = .tup (aZ ls) ∨ x = .lst (aZ ls))/\ls.length<=4096/\∀ b:Bool,(b=true ↔ ls.Pairwise fU)->Q (.bl b))
abbrev Q9:aO:=Q5
theorem aI8:dG Q9 ["things"] rK:=by
 rintro xs Q ⟨x,rfl,⟨ns,hx,hl,q⟩ | ⟨ls,hx,hl,q⟩⟩
 ·exact Q6 PV.int (fun a b=>decide (a < b)) (fun _=>rfl) (fun a b g g' K h=>.inl ⟨_,_,rfl,rfl,h⟩) ns (by omega) x hx q
 ·exact Q6 (fun l:Int × Int=>PV.tup [.int l.1,.int l.2]) (fun a b=>HT.aK [a.1,a.2] [b.1,b.2]) (fun _=>rfl) (fun a b g g' K h=>.inr ⟨_,_,rfl,rfl,h⟩) ls (by omega) x hx (q _ (aI4 ls))
def cF (r c:Int):Prop:=1<=r/\r<=40/\1<=c/\c<=40
def rL:eL:=fun Ep xs Q=>∃ r c:Int,xs = [.int r,.int c]/\(cF r c->Q .non)/\(¬ cF r c->Ep "BadBoard")
def R0 (Ep:Str->Prop):aO:=(bO (fJ (aW (j5 (aF kG (a6 (a5 0) (a6 (a5 1) aA))) (qC (.int 1)))) (aW (uK (aF jP (a6 (a5 0) (a6 (a5 1) aA))) (qC (.int 40))))) (mB Ep "BadBoard" (a6 (qC (.str "a board has from 1 to 40 rows and columns")) aA)) bQ)
theorem aI9:r9 R0 ["rows","columns"] rL:=by
 rintro Ep xs Q ⟨r,c,rfl,q,ex⟩
 refine⟨_,rfl,_,rfl,_,_,rfl,_,_,rfl,rfl,_,rfl,?_⟩
 show if decide ((if c < r then c else r) < 1)=true then _ else _
 by_cases h1:(if c < r then c else r) < 1
 ·rw [aX3 h1]
  exact b7 (b7 ⟨by decide,ex fun z=>by unfold cF at z; split at h1 <;> omega⟩)
 rw [aW4 h1]
 refine aY ⟨_,rfl,_,rfl,_,_,rfl,_,_,rfl,rfl,_,rfl,?_⟩
 show if decide ((if c > r then c else r) > 40)=true then _ else _
 by_cases h2:(if c > r then c else r) > 40
 ·rw [aX3 h2]
  exact b7 ⟨by decide,ex fun z=>by unfold cF at z; split at h2 <;> omega⟩
 rw [aW4 h2]
 refine aY (q ?_)
 unfold cF
 split at h1 <;> split at h2 <;> omega
def eM (r c:Int) (l:Int × Int):Bool:=decide (0<=l.1) && (decide (l.1 < r) && (decide (0<=l.2) && decide (l.2 < c)))
theorem rM {r c:Int}{l:Int × Int}:eM r c l=true ↔ 0<=l.1/\l.1 < r/\0<=l.2/\l.2 < c:=by
 unfold eM
 simp only [bg4,aY7]
def rN:c7:=fun xs Q=>∃ (r c:Int) (l:Int × Int),xs = [.int r,.int c,.tup [.int l.1,.int l.2]]/\Q (.bl (eM r c l))
def R3:aO:=(bD (lL (C3 (aS (a5 2) (qC (.int 0))) (qC (.int 0))) (lL (j5 (aS (a5 2) (qC (.int 0))) (a5 0)) (lL (C3 (aS (a5 2) (qC (.int 1))) (qC (.int 0))) (j5 (aS (a5 2) (qC (.int 1))) (a5 1))))))
theorem aJ0:dG R3 ["rows","columns","cell"] rN:=by
 rintro xs Q ⟨r,c,l,rfl,q⟩
 unfold eM at q
 refine⟨_,rfl,_,_,_,rfl,rfl,rfl,_,_,rfl,rfl,_,rfl,?_⟩
 show if decide (l.1 >= 0)=true then _ else _
 by_cases h1:0<=l.1
 ·rw [aX3 h1] at q
  rw [aX3 (show l.1 >= 0 from h1)]
  refine b7 ⟨_,rfl,_,_,_,rfl,rfl,rfl,_,rfl,_,_,rfl,rfl,_,rfl,?_⟩
  show if decide (l.1 < r)=true then _ else _
  by_cases h2:l.1 < r
  ·rw [aX3 h2] at q ⊢
   refine b7 ⟨_,rfl,_,_,_,rfl,rfl,rfl,_,_,rfl,rfl,_,rfl,?_⟩
   show if decide (l.2 >= 0)=true then _ else _
   by_cases h3:0<=l.2
   ·rw [aX3 h3] at q
    rw [aX3 (show l.2 >= 0 from h3)]
    exact b7 ⟨_,rfl,_,_,_,rfl,rfl,rfl,_,rfl,_,_,rfl,rfl,trivial,q⟩
   ·rw [aW4 h3] at q
    rw [aW4 (show ¬ l.2 >= 0 from h3)]
    exact aY ⟨trivial,q⟩
  ·rw [aW4 h2] at q ⊢
   exact aY ⟨trivial,q⟩
 ·rw [aW4 h1] at q
  rw [aW4 (show ¬ l.1 >= 0 from h1)]
  exact aY ⟨trivial,q⟩
def dN (r c:Int) (ls:List (Int × Int)):Prop:=ls.Pairwise fU/\∀ l ∈ ls,eM r c l=true
def mG:eL:=fun Ep xs Q=>∃ (r c:Int) (x:PV) (ls:List (Int × Int)),xs = [.int r,.int c,x]/\(x = .tup (aZ ls) ∨ x = .lst (aZ ls))/\ls.length<=4096/\(¬ cF r c->Ep "BadBoard")/\(cF r c->¬ dN r c ls->Ep "BadSet")/\(cF r c->dN r c ls->Q (.tup (aZ ls)))
def R4 (Ep:Str->Prop):aO:=(aG (uC (nX Ep rL (a6 (a5 0) (a6 (a5 1) aA))))
 (aG (bO (fJ (iA (aW (aF rK (a6 (a5 2) aA)))) (iA (aW (aF pM (a6 (jS (fM (a5 2)) [none,some 0,some 1] (dI 0) gD (aF rN (a6 (a5 1) (a6 (a5 2) (a6 (a5 0) aA))))) aA))))) (mB Ep "BadSet" (a6 (qC (.str "a set is of rising cells of the board")) aA)) bQ)
 (bD (aF pT (a6 (a5 2) aA)))))
theorem aJ1:r9 R4 ["rows","columns","cells"] mG:=by
 rintro Ep xs Q ⟨r,c,x,ls,rfl,hx,hl,e1,e2,q⟩
 have sx:iZ x=some (aZ ls):=by rcases hx with rfl | rfl <;> rfl
 have pl:(aZ ls).length=ls.length:=aW6 _
 have tg:(Slot.sh (flat x) x).tag = .rd->flat x=true:=by cases flat x <;> intro z <;> cases z
 refine⟨_,rfl,_,rfl,r,c,rfl,fun ok=>?_,e1⟩
 refine⟨_,rfl,_,rfl,.inr ⟨ls,hx,hl,fun b hb=>⟨_,rfl,?_⟩⟩⟩
 cases b with
 | false=>exact b7 (b7 ⟨by decide,e2 ok fun z=>by have:=hb.mpr z.1; cases this⟩)
 | true=>
  have ord:=hb.mp rfl
  refine aY ⟨_,rfl,aZ ls,sx,tg,by rw [pl]; omega,fun i acc=>acc=(((ls.take i).map (eM r c)).map PV.bl),rfl,?_,?_⟩
  ·rintro i z acc hz rfl
   obtain ⟨l,rfl,hlm⟩:=vG hz
   refine⟨_,rfl,_,rfl,_,rfl,r,c,l,rfl,trivial,?_⟩
   dsimp only
   rw [ba8,hlm,aY9,aY9]; rfl
  rintro acc rfl
  rw [pl,bc9]
  refine⟨ls.map (eM r c),rfl,_,rfl,?_⟩
  cases ha:(ls.map (eM r c)).all id with
  | false=>
   refine b7 ⟨by decide,e2 ok fun z=>?_⟩
   have:(ls.map (eM r c)).all id=true:=by
    rw [List.all_map,bh8]
    exact fun l hlm=>z.2 l hlm
   rw [ha] at this; cases this
  | true=>
   refine aY ?_
   have st:dN r c ls:=⟨ord,fun l hlm=>by
    rw [List.all_map,bh8] at ha
    exact ha l hlm⟩
   have sT:pL x=some (aZ ls):=by rcases hx with rfl | rfl <;> rfl
   refine⟨_,rfl,⟨_,_,rfl,sT,kR _,trivial,q ok st⟩,fun ns z=>?_⟩
   rcases hx with rfl | rfl <;> cases z
def aJ2 (l:Int × Int):List (Int × Int):=[(l.1 - 1,l.2),(l.1,l.2 - 1),(l.1,l.2+1),(l.1+1,l.2)]
def wK (r c:Int) (l:Int × Int):List (Int × Int):=(aJ2 l).filter (eM r c)
section
variable {ls : List (Int × Int)} {n : Nat} {B : List Int}
def ins (ls:List (Int × Int)) (S:List Int) (h:Int):Nat:=((tX ls h).filter fun x=>decide (x ∈ S)).length
end
end Core
namespace L2
open PySem PySem.Spec PyProof.Rows SO
abbrev kk (l:Int × Int):List aM:=[Sum.inl l.1,Sum.inl l.2]
theorem aJ3 {α β:Type}{R:α->β->Prop}{xs ys:List α} (h:xs.Perm ys):∀ {ks:List β},Paired R xs ks->∃ ks',ks'.Perm ks/\Paired R ys ks':=by
 induction h with
 | nil=>intro ks r; exact⟨ks,bh4 _,r⟩
 | cons v _ ih=>
  intro ks r
  cases r with
  | cons r t=>
   obtain ⟨xs',p,r'⟩:=ih t
   exact⟨_ :: xs',p.cons _,.cons r r'⟩
 | swap u v l=>
  intro xs r
  cases r with
  | cons r t=>cases t with
   | cons r2 t2=>exact⟨_,bm7 _ _ _,.cons r2 (.cons r t2)⟩
 | trans _ _ ih1 ih2=>
  intro xs r
  obtain ⟨x1,p1,r1⟩:=ih1 r
  obtain ⟨x2,p2,r2⟩:=ih2 r1
  exact⟨x2,p2.trans p1,r2⟩
theorem R5 {α β:Type}{R:α->β->Prop}:∀ {xs:List α}{ys:List β},Paired R xs ys->∀ y ∈ ys,∃ x ∈ xs,R x y
 | _,_,.nil,y,h=>nomatch h
 | _,_,.cons r p,y,h=>by
  rcases aW3.mp h with rfl | h
  ·exact⟨_,aX5,r⟩
  ·obtain ⟨x,hx,rx⟩:=R5 p y h
   exact⟨x,aW7 _ hx,rx⟩
theorem R6 {α β:Type}{R:α->β->Prop}:∀ {xs:List α}{ys:List β},Paired R xs ys->∀ x ∈ xs,∃ y ∈ ys,R x y
 | _,_,.nil,y,h=>nomatch h
 | _,_,.cons r p,y,h=>by
  rcases aW3.mp h with rfl | h
  ·exact⟨_,aX5,r⟩
  ·obtain ⟨x,hx,rx⟩:=R6 p y h
   exact⟨x,aW7 _ hx,rx⟩
theorem R7 {α β:Type}{J:α->β->Prop}{R:α->α->Prop}{S:β->β->Prop}:∀ {xs:List α}{ys:List β},Paired J xs ys->xs.Pairwise R->(∀ u v a b,a ∈ ys->b ∈ ys->J u a->J v b->R u v->S a b)->ys.Pairwise S
 | _,_,.nil,_,_=>.nil
 | _,_,.cons (a:=x) (b:=y) r p,.cons h t,f=>by
  refine .cons (fun b hb=>?_) (R7 p t fun u v a b ha hb=>f u v a b (aW7 _ ha) (aW7 _ hb))
  obtain ⟨v,hv,jv⟩:=R5 p b hb
  exact f x v y b aX5 (aW7 _ hb) r jv (h v hv)
end L2
namespace PP
open PySem L2
section
variable {X : Cx} {a b e : Expr} {te : aC} {pos : Pos} {D : cP} {σ : St} {H : Hp}
def wL (i:Nat) (tk1 tk2 te:aC):aO:=fun D ρ=>te ρ fun x _=>∃ u w xs,x = .tup [u,w]/\flats [u,w]=true/\ρ[i]? = some (some (.own (.lst xs)))/\tk1 ρ fun y _=>∃ n j,y = .int n/\fD xs.length n=some j/\
 tk2 (ρ.set i (some (.own (.lst (xs.set j u))))) fun y' _=>∃ n' j',y' = .int n'/\fD (xs.set j u).length n'=some j'/\D.nx ((ρ.set i (some (.own (.lst (xs.set j u))))).set i (some (.own (.lst ((xs.set j u).set j' w)))))
theorem aJ4 {i:Nat}{tk1 tk2:aC} (h:LS X (wL i tk1 tk2 te) D σ H):lF (LE X te) (lE X.K 2 (gO (mS (iN i) (LE X tk1) mY) (gO (mS (iN i) (LE X tk2) mY) lD))) D σ H:=by
 obtain ⟨W,ρ,D',px,q,k⟩:=h
 refine⟨W,ρ,_,px,q,?_⟩
 rintro w H1 x g s rx ⟨u,z,xs,rfl,fl,hi,q1⟩
 obtain ⟨b,ub,rfl,hb,rb⟩:=rx.sqT
 obtain ⟨u1,u2,rfl,_,_⟩:=rb.two
 obtain ⟨v,ev,a,rfl,wa,us,ea,r⟩:=(px.mono s).sl i _ hi
 refine⟨b,[u1,u2],rfl,aL.of hb,rfl,u1,[u2],rfl,_,ev,W,ρ,_,px.mono s,q1,?_⟩
 rintro kv H2 y gy s2 ry ⟨n,j,rfl,hj,q2⟩
 cases ry
 have ea2:=s2 _ _ ea
 have ht:i < ρ.length:=(aW9.mp hi).1
 have hi':(ρ.set i (some (.own (.lst (xs.set j u)))))[i]? = some (some (.own (.lst (xs.set j u)))):=by rw [bd0 ht]
 have f2:Reps X.K (Ms X.H₀ W true) H2 [u1,u2] [u,z]:=(Reps.flat fl rb).same s2 fun _ z=>z
 obtain ⟨w1,w2,e12,ru,rw_⟩:=f2.two
 cases e12
 refine⟨a,us,n,j,rfl,rfl,ea2,by rw [r.length]; exact hj,u2,[],rfl,?_⟩
 have px2:=(px.mono (s.trans s2)).updL hi ev wa ((Reps.set ru j (r.same s2 fun _ z=>z)).keep (.upd ea2 rfl fun b m=>⟨iY wa m,m⟩))
 have rs:Reps X.K (Ms X.H₀ W true) (upd H2 a (.lst (us.set j u1))) (us.set j u1) (xs.set j u):=(Reps.set ru j (r.same s2 fun _ z=>z)).keep (.upd ea2 rfl fun b m=>⟨iY wa m,m⟩)
 refine⟨_,ev,W,_,_,px2,q2,?_⟩
 rintro kv' H4 y' gy' s4 ry' ⟨n',j',rfl,hj',q3⟩
 cases ry'
 have ea4:=s4 _ _ (bU (H:=H2) (a:=a) (o:=.lst (us.set j u1)))
 refine⟨a,us.set j u1,n',j',rfl,rfl,ea4,by rw [rs.length]; exact hj',rfl,?_⟩
 have rz0:aE X.K (Ms X.H₀ W true) (upd H2 a (.lst (us.set j u1))) u2 z:=rw_.keep (.upd ea2 rfl fun b m=>⟨iY wa m,m⟩)
 have rz:=rz0.same s4 fun _ z=>z
 refine k.nx W σ _ _ (((Ev.same (s.trans s2)).trans (Ev.upd wa)).trans ((Ev.same s4).trans (Ev.upd wa))) ((px2.mono s4).updL hi' ev wa ?_) q3
 exact (Reps.set rz j' (rs.same s4 fun _ z=>z)).keep (.upd ea4 rfl fun b m=>⟨iY wa m,m⟩)
theorem aJ5 (i:Nat) {x:Str}{xp1 xp2 tp1 tp2 tp:Pos}{kt:Nat}{tk1 tk2:aC} (hk1:QE X a tk1) (hk2:QE X b tk2) (he:QE X e te) (hN:X.N[i]? = some x:=by rfl) (hv:i7 X.env.scope x:=by first | exact Or.inl rfl | exact Or.inr (Or.inl rfl) | exact Or.inr (Or.inr rfl)) (hd:(x == ("__debug__" : Str))=false:=by decide) (hcd:(x == ("__classdict__" : Str))=false:=by decide) (hc:X.calm=true:=by rfl)
  (hp1:∀ (tx:TE) (tg:TE),PE X (.Name x xp1) tx->PE X a tg->PG X (.Subscript (.Name x xp1) a tp1) (mS tx tg mY):=by intro _ _ h1 h2; exact xL h1 h2 yW)
  (hp2:∀ (tx:TE) (tg:TE),PE X (.Name x xp2) tx->PE X b tg->PG X (.Subscript (.Name x xp2) b tp2) (mS tx tg mY):=by intro _ _ h1 h2; exact xL h1 h2 yW)
  (hs:swapsWithSole [.Tuple [.Subscript (.Name x xp1) a tp1,.Subscript (.Name x xp2) b tp2] kt tp] e pos.line X.env=pure false:=by rfl) (hw:swappedStores [.Tuple [.Subscript (.Name x xp1) a tp1,.Subscript (.Name x xp2) b tp2] kt tp] e X.env=pure none:=by rfl) :
  QS X (.Assign [.Tuple [.Subscript (.Name x xp1) a tp1,.Subscript (.Name x xp2) b tp2] kt tp] e pos) (wL i tk1 tk2 te):=
 dZ (xM he (oN hc (jK (hp1 _ _ (jI hN hv hd hcd) hk1) (jK (hp2 _ _ (jI hN hv hd hcd) hk2) oM))) hs hw) fun _ _ _=>aJ4
end
end PP
namespace Core
open PySem L2 PP
inductive o0 (r c:Int) (S:List (Int × Int)):Int × Int->Prop
 | seed {x:Int × Int}:x ∈ S->o0 r c S x
 | kin {x a b:Int × Int}:eM r c x=true->a ∈ wK r c x->b ∈ wK r c x->a ≠ b->o0 r c S a->o0 r c S b->o0 r c S x
def nbC (r c:Int) (P:List (Int × Int)) (x:Int × Int):Nat:=(P.filter fun p=>decide (x ∈ wK r c p)).length
structure Wk (r c:Int) (S K P:List (Int × Int)):Prop where
 nd:K.Nodup
 ndP:P.Nodup
 sub:∀ x ∈ P,x ∈ K
 brn:∀ x ∈ K,o0 r c S x
 sd:∀ x ∈ S,x ∈ K
 bd:∀ x ∈ K,eM r c x=true
 low:∀ x,x ∉ K->nbC r c P x < 2
theorem R8 {α:Type}{l:List α}{i:Nat}{x:α} (nd:l.Nodup) (h:l[i]? = some x):x ∉ l.take i:=fun z=>by
 have:(l.take (i+1)).Nodup:=nd.sublist (bl6 _ _)
 rw [ba8,h] at this
 exact (List.nodup_append.mp this).2.2 x z x (by simp) rfl
def rO:c7:=fun xs Q=>∃ (ns:List Int) (k:Int),xs = [.scr ns,.int k]/\ns.length<=63/\0<=k/\k<=1000/\∀ z:Int,Q (.int z)
def R9:aO:=(aG (bO (aW (j5 (a5 1) (aF gW (a6 (a5 0) aA)))) (bD (aS (a5 0) (a5 1))) bQ)
 (aG (bC 2 (bR (nI (dJ (dJ (bR (aF gK (a6 (a5 0) (a6 (bR (a5 1) (aF jP (a6 (qC (.int 1)) (a6 (aF gW (a6 (a5 0) aA)) aA)))) aA))) (qC (.int 1000000007))) (nI (qC (.int 977)) (a5 1))) (qC (.int 1))) (qC (.int 48271))) (qC (.int 2147483647))))
 (bD (cW (bR (nI (a5 2) (a5 2)) (qC (.int 2147483647))) (qC (.int 8))))))
theorem aJ6:dG R9 ["script","k","stir"] rO:=by
 rintro xs Q ⟨ns,k,rfl,hl,k0,k1,q⟩
 refine⟨_,rfl,_,rfl,_,_,rfl,rfl,_,_,rfl,rfl,_,rfl,?_⟩
 show if decide (k < (ns.length:Int))=true then _ else _
 by_cases h:k < (ns.length:Int)
 ·rw [aX3 h]
  have hk:L2.atI (intz ns) k=some (.int (ns.getD k.toNat 0)):=L8 k0 h
  exact b7 ⟨_,rfl,_,rfl,_,_,_,rfl,rfl,hk,trivial,q _⟩
 ·rw [aW4 h]
  refine aY ?_
  have mx:(0:Int) < (if (ns.length:Int) > 1 then (ns.length:Int) else 1):=by split <;> omega
  refine⟨_,rfl,_,rfl,_,rfl,_,_,rfl,rfl,_,_,rfl,_,_,rfl,rfl,mx,_,ns,_,rfl,.inl rfl,bg2 _ (Int.ne_of_gt mx),?_⟩
  refine⟨_,_,rfl,rfl,(by show (0:Int) < 1000000007; decide),_,rfl,_,_,rfl,rfl,.inl ⟨by decide,by decide⟩,_,_,rfl,rfl,_,_,rfl,rfl,_,_,rfl,rfl,.inr ⟨by decide,by decide⟩,_,_,rfl,rfl,(by show (0:Int) < 2147483647; decide),trivial,?_⟩
  dsimp only
  generalize hv:(ns.getD (k % (if (ns.length:Int) > 1 then (ns.length:Int) else 1)).toNat 0 % 1000000007+977 * k+1) * 48271 % 2147483647=v
  have v0:0<=v:=by rw [<- hv]; exact bg2 _ (by decide)
  have v1:v < 2147483647:=by rw [<- hv]; exact be9 _ (by decide)
  exact⟨_,rfl,_,rfl,_,_,rfl,rfl,.inl ⟨by omega,by omega⟩,_,_,rfl,rfl,(by show (0:Int) < 2147483647; decide),_,_,rfl,rfl,⟨by decide,by decide⟩,trivial,q _⟩
def rP:c7:=fun xs Q=>∃ (ns:List Int) (a r c:Int),xs = [.scr ns,.int a,.int r,.int c]/\ns.length<=63/\0<=a/\a<=10/\cF r c/\∀ ls,dN r c ls->ls.length<=200->Q (.tup (aZ ls))
def wM:aO:=(aG (iB 5 (eI aA))
 (aG (bC 8 (qC (.int 0)))
 (aG (bC 9 (qC (.int 0)))
 (aG (dX (lP (a5 7)) (dI 10)
  (aG (bC 4 (aF rO (a6 (a5 0) (a6 (dJ (a5 1) (a5 10)) aA))))
  (aG (bO (aW (fP (bR (a5 4) (qC (.int 4))) (qC (.int 0)))) (aG (bC 8 (bR (cW (a5 4) (qC (.int 4))) (a5 2)))
   (bC 9 (bR (cW (a5 4) (qC (.int 169))) (a5 3)))) (aG (bC 8 (bR (fO (dJ (a5 8) (bR (cW (a5 4) (qC (.int 4))) (qC (.int 5)))) (qC (.int 2))) (a5 2)))
   (bC 9 (bR (fO (dJ (a5 9) (bR (cW (a5 4) (qC (.int 23))) (qC (.int 5)))) (qC (.int 2))) (a5 3)))))
  (bO (kE (aW (q2 rE (bL (a6 (a5 8) (a6 (a5 9) aA))) (a5 5))) (aW (uK (bR (cW (a5 4) (qC (.int 127))) (qC (.int 3))) (qC (.int 0))))) (kF 5 (bL (a6 (a5 8) (a6 (a5 9) aA)))) bQ))))
 (bD (aF pT (a6 (aF wC (a6 (a5 5) aA)) aA)))))))
def S0:aO:=(aG (bC 4 (aF gK (a6 (a5 0) (a6 (a5 1) aA))))
 (aG (bO (kE (aW (fP (bR (a5 4) (qC (.int 2))) (qC (.int 1)))) (aW (j5 (nI (a5 2) (a5 3)) (qC (.int 101))))) (aG (iB 5 (eI aA))
  (aG (dX (lP (nI (a5 2) (a5 3))) (dI 6)
   (aG (bC 4 (cW (a5 4) (qC (.int 2))))
   (bO (aW (fP (bR (a5 4) (qC (.int 2))) (qC (.int 1)))) (kF 5 (bL (a6 (cW (a5 6) (a5 3)) (a6 (bR (a5 6) (a5 3)) aA)))) bQ)))
  (bD (aF pT (a6 (a5 5) aA))))) bQ)
 (aG (bC 7 (fO (aF gW (a6 (a5 0) aA)) (a5 1)))
 (aG (bO (aW (j5 (a5 7) (qC (.int 1)))) (bC 7 (qC (.int 1))) bQ)
 wM))))
theorem aJ7 {c:Int}{a b:Int × Int} (h:a.1 * c+a.2 < b.1 * c+b.2) (a0:0<=a.2) (b1:b.2 < c) (c1:1<=c):fU a b:=by
 unfold fU
 rcases Int.lt_trichotomy a.1 b.1 with z | z | z
 ·exact .inl z
 ·rw [z] at h; exact .inr ⟨z,by omega⟩
 ·have:=Int.mul_le_mul_of_nonneg_right (show b.1+1<=a.1 by omega) (show 0<=c by omega)
  rw [Int.add_mul,Int.one_mul] at this
  omega
theorem aJ8 {x:Int × Int}{ls:List (Int × Int)}:decide (two x ∈ ls.map two)=decide (x ∈ ls):=by
 rw [bf0,aY7,aY7]
 refine⟨fun h=>?_,fun h=>ba1.mpr ⟨x,h,rfl⟩⟩
 obtain ⟨y,hy,e⟩:=ba1.mp h
 unfold two at e
 injection e with e1 e2
 injection e2 with e2
 rw [<- Prod.ext e1 e2]; exact hy
section
variable {ns : List Int} {a r c m : Int} {y4 y5 y6 : Option Slot} {Q : PV → Prop}
theorem S2 (hl:ns.length<=63) (a0:0<=a) (a1:a<=10) (ok:cF r c) (m1:1<=m) (m2:m<=63) (q:∀ ls,dN r c ls->ls.length<=200->Q (.tup (aZ ls))) :
  wM { nx:=fun _=>Q .non,rt:=Q } [some (.sh true (.scr ns)),si a,si r,si c,y4,y5,y6,si m,none,none,none]:=by
 obtain ⟨r1,r2,c1,c2⟩:=id ok
 refine⟨by decide,rfl,rfl,rfl,trivial,trivial,?_⟩
 refine⟨_,rfl,m,rfl,by omega,by omega,fun i ρ=>∃ (y4 y10:Option Slot) (x y:Int) (ls:List (Int × Int)),ρ = [some (.sh true (.scr ns)),si a,si r,si c,y4,some (.own (.lst (aZ ls))),y6,si m,si x,si y,y10]/\ls.Nodup/\(∀ l ∈ ls,eM r c l=true)/\ls.length<=i,
  ⟨y4,none,0,0,[],rfl,.nil,(fun _ h=>nomatch h),aW8 _⟩,?_,?_⟩
 ·rintro i y ρ hy ⟨y4,y10,x,y,ls,rfl,nd,bd,len⟩
  obtain ⟨rfl,hi⟩:=qW hy
  rw [show (0:Int)+(i:Int)=(i:Int) by omega]
  refine⟨_,rfl,_,rfl,_,rfl,_,_,rfl,rfl,ns,a+(i:Int),rfl,hl,by omega,by omega,fun z=>⟨trivial,?_⟩⟩
  have tail:∀ x y:Int,0<=x->x < r->0<=y->y < c->(bO (kE (aW (q2 rE (bL (a6 (a5 8) (a6 (a5 9) aA))) (a5 5))) (aW (uK (bR (cW (a5 4) (qC (.int 127))) (qC (.int 3))) (qC (.int 0))))) (kF 5 (bL (a6 (a5 8) (a6 (a5 9) aA)))) bQ) { nx:=fun ρ=>∃ (y4 y10:Option Slot) (x y:Int) (ls:List (Int × Int)),ρ = [some (.sh true (.scr ns)),si a,si r,si c,y4,some (.own (.lst (aZ ls))),y6,si m,si x,si y,y10]/\ls.Nodup/\(∀ l ∈ ls,eM r c l=true)/\ls.length<=i+1,rt:=Q } [some (.sh true (.scr ns)),si a,si r,si c,si z,some (.own (.lst (aZ ls))),y6,si m,si x,si y,si (i:Nat)]:=by
   intro x y x0 x1 y0 y1
   refine⟨_,rfl,_,rfl,by show 2<=1000; decide,rfl,_,rfl,[x,y],ls.map two,rfl,by rw [vK]; rfl,_,rfl,?_⟩
   rw [show decide ([x,y] ∈ ls.map two)=decide ((x,y) ∈ ls) from aJ8 (x:=(x,y))]
   by_cases h1:(x,y) ∈ ls
   ·rw [aX3 h1]
    exact aY (aY ⟨si z,si (i:Nat),x,y,ls,rfl,nd,bd,by omega⟩)
   ·rw [aW4 h1]
    refine b7 ⟨_,rfl,_,_,rfl,rfl,⟨by decide,by decide⟩,_,_,rfl,rfl,(by show (0:Int) < 3; decide),_,_,rfl,rfl,_,rfl,?_⟩
    show if decide (z / 127 % 3 > 0)=true then _ else _
    cases decide (z / 127 % 3 > 0) with
    | false=>exact aY ⟨si z,si (i:Nat),x,y,ls,rfl,nd,bd,by omega⟩
    | true=>
     refine b7 ⟨_,rfl,_,rfl,_,rfl,by show 2<=1000; decide,rfl,trivial,by rw [m9]; omega,si z,si (i:Nat),x,y,ls ++ [(x,y)],?_,List.nodup_append.mpr ⟨nd,ba6 _ _,fun u hu v hv e=>h1 (by rw [aX6.mp hv] at e; rw [<- e]; exact hu)⟩,fun l hl=>?_,by rw [aY4,bb9]; omega⟩
     ·unfold aZ
      rw [aY9]; rfl
     ·rcases bb6.mp hl with h | h
      ·exact bd l h
      ·rw [aX6.mp h]; exact rM.mpr ⟨x0,x1,y0,y1⟩
  refine⟨_,rfl,_,_,rfl,rfl,(by show (0:Int) < 4; decide),.inl ⟨_,_,rfl,rfl,_,rfl,?_⟩⟩
  show if decide (z % 4=0)=true then _ else _
  have em:=fun u:Int=>bg2 u (show r ≠ 0 by omega)
  have el:=fun u:Int=>be9 u (show 0 < r by omega)
  have fm:=fun u:Int=>bg2 u (show c ≠ 0 by omega)
  have fl:=fun u:Int=>be9 u (show 0 < c by omega)
  cases decide (z % 4=0) with
  | true=>
   refine b7 ⟨_,rfl,_,_,rfl,rfl,⟨by decide,by decide⟩,_,rfl,_,_,rfl,rfl,by omega,trivial,_,rfl,_,_,rfl,rfl,⟨by decide,by decide⟩,_,rfl,_,_,rfl,rfl,by omega,trivial,?_⟩
   exact tail _ _ (em _) (el _) (fm _) (fl _)
  | false=>
   refine aY ⟨_,rfl,_,rfl,_,_,rfl,rfl,⟨by decide,by decide⟩,_,_,rfl,rfl,(by show (0:Int) < 5; decide),_,_,rfl,rfl,_,_,rfl,rfl,_,rfl,_,_,rfl,rfl,by omega,trivial,_,rfl,_,rfl,_,_,rfl,rfl,⟨by decide,by decide⟩,_,_,rfl,rfl,(by show (0:Int) < 5; decide),_,_,rfl,rfl,_,_,rfl,rfl,_,rfl,_,_,rfl,rfl,by omega,trivial,?_⟩
   exact tail _ _ (em _) (el _) (fm _) (fl _)
 ·rintro ρ ⟨y4,y10,x,y,ls,rfl,nd,bd,len⟩
  rw [kH] at len
  refine⟨_,rfl,ls.map two,by rw [vK]; rfl,by rw [aW6]; omega,fun r hr=>by obtain ⟨l,_,rfl⟩:=ba1.mp hr; rfl,fun Z pz so=>?_⟩
  obtain ⟨l2,rfl,pp⟩:=aA2 pz
  rw [show ((l2.map two).map fun r=>PV.tup (intz r))=aZ l2 from (vK _).symm]
  exact⟨⟨_,_,rfl,rfl,kR _,trivial,q l2 ⟨aA3 so (pp.nodup_iff.mpr nd),fun l hl=>bd l (pp.mem_iff.mp hl)⟩ (by rw [pp.length_eq]; omega)⟩,fun ns z=>by cases z⟩
end
theorem aJ9:dG S0 ["script","at","rows","columns","cell","seeds","place","many","row","column","k"] rP:=by
 rintro xs Q ⟨ns,a,r,c,rfl,hl,a0,a1,ok,q⟩
 obtain ⟨r1,r2,c1,c2⟩:=id ok
 refine⟨_,rfl,_,rfl,_,ns,a,rfl,.inl rfl,a0,trivial,?_⟩
 generalize ns.getD a.toNat 0=v
 have two:(aG (bC 7 (fO (aF gW (a6 (a5 0) aA)) (a5 1)))
  (aG (bO (aW (j5 (a5 7) (qC (.int 1)))) (bC 7 (qC (.int 1))) bQ)
  wM)) { nx:=fun _=>Q .non,rt:=Q } [some (.sh true (.scr ns)),si a,si r,si c,si v,none,none,none,none,none,none]:=by
  refine⟨_,rfl,_,_,rfl,rfl,_,rfl,_,_,rfl,rfl,trivial,?_⟩
  refine⟨_,rfl,_,_,rfl,rfl,_,rfl,?_⟩
  show if decide ((ns.length:Int) - a < 1)=true then _ else _
  by_cases h:(ns.length:Int) - a < 1
  ·rw [aX3 h]
   exact b7 ⟨trivial,S2 hl a0 a1 ok (by decide) (by decide) q⟩
  ·rw [aW4 h]
   exact aY (S2 (m:=(ns.length:Int) - a) hl a0 a1 ok (by omega) (by omega) q)
 have hp:0<=r * c:=Int.mul_nonneg (by omega) (by omega)
 refine⟨_,rfl,_,_,rfl,rfl,(by show (0:Int) < 2; decide),.inl ⟨_,_,rfl,rfl,_,rfl,?_⟩⟩
 show if decide (v % 2=1)=true then _ else _
 cases decide (v % 2=1) with
 | false=>exact aY (aY two)
 | true=>
  refine b7 ⟨_,rfl,_,rfl,_,_,rfl,rfl,.inl ⟨by omega,by omega⟩,_,_,rfl,rfl,_,rfl,?_⟩
  show if decide (r * c < 101)=true then _ else _
  by_cases h:r * c < 101
  ·rw [aX3 h]
   refine b7 ⟨by decide,rfl,rfl,rfl,?_⟩
   refine⟨_,rfl,_,rfl,_,_,rfl,rfl,.inl ⟨by omega,by omega⟩,r * c,rfl,by omega,by omega,fun i ρ=>∃ (v:Int) (y6:Option Slot) (ls:List (Int × Int)),ρ = [some (.sh true (.scr ns)),si a,si r,si c,si v,some (.own (.lst (aZ ls))),y6,none,none,none,none]/\ls.Pairwise fU/\(∀ l ∈ ls,eM r c l=true/\l.1 * c+l.2 < (i:Int))/\ls.length<=i,
    ⟨v,none,[],rfl,.nil,(fun _ h=>nomatch h),aW8 _⟩,?_,?_⟩
   ·rintro i y ρ hy ⟨v,y6,ls,rfl,ord,bd,len⟩
    obtain ⟨rfl,hi⟩:=qW hy
    rw [show (0:Int)+(i:Int)=(i:Int) by omega]
    have im:(i:Int) < r * c:=by omega
    have d1:=Int.mul_ediv_add_emod (i:Int) c
    have d2:=bg2 (i:Int) (show c ≠ 0 by omega)
    have d3:=be9 (i:Int) (show 0 < c by omega)
    have d4:(i:Int) / c < r:=Int.ediv_lt_of_lt_mul (by omega) im
    have d5:0<=(i:Int) / c:=Int.ediv_nonneg (by omega) (by omega)
    rw [Int.mul_comm] at d1
    refine⟨_,rfl,_,_,rfl,rfl,⟨by decide,by decide⟩,trivial,?_⟩
    refine⟨_,rfl,_,_,rfl,rfl,(by show (0:Int) < 2; decide),.inl ⟨_,_,rfl,rfl,_,rfl,?_⟩⟩
    show if decide (v / 2 % 2=1)=true then _ else _
    cases decide (v / 2 % 2=1) with
    | false=>exact aY ⟨v / 2,si (i:Nat),ls,rfl,ord,fun l hl=>⟨(bd l hl).1,by have:=(bd l hl).2; omega⟩,by omega⟩
    | true=>
     refine b7 ⟨_,rfl,_,rfl,_,rfl,_,_,rfl,rfl,⟨by omega,by omega⟩,_,rfl,_,rfl,_,_,rfl,rfl,by omega,by show 2<=1000; decide,rfl,trivial,by rw [m9]; omega,v / 2,si (i:Nat),ls ++ [((i:Int) / c,(i:Int) % c)],?_,aZ3.mpr ⟨ord,ba6 _ _,fun u hu w hw=>?_⟩,fun l hl=>?_,by rw [aY4,bb9]; omega⟩
     ·unfold aZ
      rw [aY9]; rfl
     ·rw [aX6.mp hw]
      have bu:=bd u hu
      have iu:=rM.mp bu.1
      exact aJ7 (by show u.1 * c+u.2 < (i:Int) / c * c+(i:Int) % c; omega) (by omega) d3 c1
     ·rcases bb6.mp hl with h | h
      ·exact⟨(bd l h).1,by have:=(bd l h).2; omega⟩
      ·rw [aX6.mp h]
       exact⟨rM.mpr ⟨d5,d4,d2,d3⟩,by show (i:Int) / c * c+(i:Int) % c < _; omega⟩
   ·rintro ρ ⟨v,y6,ls,rfl,ord,bd,len⟩
    rw [kH] at len
    exact⟨_,rfl,⟨_,_,rfl,rfl,kR _,trivial,q ls ⟨ord,fun l hl=>(bd l hl).1⟩ (by omega)⟩,fun ns z=>by cases z⟩
  ·rw [aW4 h]
   exact aY two
end Core
namespace L2
open PySem PySem.Spec PyProof.Rows SO
abbrev kn (ns:List Int):List aM:=ns.map Sum.inl
def hV (h:Heap) (ys:List (List Int)) (v:Value):Prop:=∃ ns ∈ ys,ns ≠ []/\gL h v ns
theorem gL.keep {h h':Heap}{v:Value}{ns:List Int} (z:gL h v ns) (k:∀ b o,h.get? b=some o->h'.get? b=some o):gL h' v ns:=by
 obtain ⟨b,ob,us,n,e1,e2,e3,e4,e5⟩:=z.at_
 exact⟨⟨b,ob,us,n,e1,k _ _ e2,e3,e4,e5⟩⟩
theorem hV.keep {h h':Heap}{ys:List (List Int)}{v:Value} (z:hV h ys v) (k:∀ b o,h.get? b=some o->h'.get? b=some o):hV h' ys v:=by
 obtain ⟨ns,m,ne,z⟩:=z
 exact⟨ns,m,ne,z.keep k⟩
theorem S3 {prog:Program}{w:World}{A:Around}{E:Value->Shared->Prop}{s:Shared} (ys:List (List Int)):SO.cE prog w A E s (tuples' true) (fun x=>hV s.heap ys x.1) (kY s.heap ys):=by
 rintro x y ⟨ns,m1,_,z⟩ ⟨ms,m2,_,z'⟩ st Q hk hq
 unfold kY at hq
 rw [z.ints,z'.ints,<- P5 m1 m2] at hq
 obtain ⟨b,ob,us,n,e1,e2,e3,e4,e5⟩:=z.at_
 obtain ⟨b',ob',us',n',e1',e2',e3',e4',e5'⟩:=z'.at_
 rw [lt'_eq]
 refine aX0 (wpS_get ?_)
 rw [hk,e1,e1']
 refine aX0 (wpS_lift (bm3 (PySem.W.kat_lt e2 e4 e2' e4' ?_)))
 have:=tV (prog:=prog) (w:=w) (A:=A) (s:=s) (Q:=fun a s'=>s'=s/\wpS (model prog w) A E s (pure (some a)) Q st) 0 e5 e5' ⟨rfl,aX9 hq⟩
 simpa using this
theorem aK0 {h:Heap}{ys:List (List Int)}:∀ {vs:List Value},(∀ v ∈ vs,hV h ys v)->∃ fs:List Value,PySem.W.KatTups h vs fs/\fs.length=vs.length/\∀ v ∈ fs,∃ i t,v=Value.int i t:=by
 intro vs
 induction vs with
 | nil=>intro _; exact⟨[],PySem.W.KatTups.nil,rfl,fun _ z=>nomatch z⟩
 | cons v vs ih=>
  intro hh
  obtain ⟨fs,t1,t2,t3⟩:=ih fun y hy=>hh y (aW7 _ hy)
  obtain ⟨ns,_,ne,z⟩:=hh v aX5
  obtain ⟨b,ob,us,n,rfl,e2,e3,e4,e5⟩:=z.at_
  cases e5 with
  | nil=>exact absurd rfl ne
  | cons p t e6=>exact⟨Value.int p t :: fs,PySem.W.KatTups.cons e2 e3 e4 (by simp) t1,by simp [t2],fun v hv=>(aW3.mp hv).elim (fun z=>⟨p,t,z⟩) (t3 v)⟩
theorem S4 {M:Model}{A:Around}{E:Value->Shared->Prop}{s:Shared}{ys:List (List Int)}{vs:List Value}{Q:SortKind->Shared->Prop} (hh:∀ v ∈ vs,hV s.heap ys v) (h2:2<=vs.length) (hQ:Q (tuples' true) s):wpAny M A (keyKind' vs.toArray) Q E s:=by
 obtain ⟨fs,t1,t2,t3⟩:=aK0 hh
 refine PySem.W.kat_kind (T:=.type "int") t1 (by omega) (fun v hv=>?_) (by decide) ?_
 ·obtain ⟨i,t,rfl⟩:=t3 v hv
  exact PySem.W.Looks.now
 ·have eT:(Value.type "int" != Value.type "tuple")=true:=by decide
  rw [eT]; exact hQ
theorem S5 {h:Heap}{ys:List (List Int)}{u v:Value}{p q:List Int} (z:gL h u p) (z':gL h v q) (hp:p ∈ ys) (hq:q ∈ ys) (le:kY h ys (u,u)<=kY h ys (v,v)):HT.aK q p=false:=by
 unfold kY at le
 rw [z.ints,z'.ints] at le
 rw [P5 hq hp]
 exact aW4 (by omega)
theorem aK1 {prog:Program}{w:World}{A:Around}{E:Value->Shared->Prop}{s:Shared}{T:String}{r d:Addr}{n:Nat}{P:Nat->Value->Prop}{OK:Heap->Prop}{Q:Value->Shared->Prop}{ys:List (List Int)} (K:PySem.W.KdlSrc prog w T r d n P OK) (hh:A.handled=none) (hok:OK s.heap) (hn:n<=sizeLine)
  (hI:∀ acc,ItemsOf P acc n->∀ v ∈ acc.toList,hV s.heap ys v)
  (h:∀ h' tk a (acc:Array Value) (out:List Value) e,(∀ b o,s.heap.get? b=some o->h'.get? b=some o)->s.heap.objs.size<=a->h'.get? a=some (seqObj "list" out.toArray e)->ItemsOf P acc n->out.Perm acc.toList->out.Pairwise (fun u v=>∀ p q,p ∈ ys->q ∈ ys->gL s.heap u p->gL s.heap v q->HT.aK q p=false)->Q (.ref a) { s with heap:=h',toks:=tk }) :
  wpAny (model prog w) A (call (.builtin "sorted") [.ref r]) Q E s:=by
 refine Calls.call_function_entry kind_sorted plain_sorted entry_sorted (args_sorted1 _) ?_
 unfold Builtin.«sorted»
 refine aV7 (m:=checkCount "sorted" 1 1 _) (aW2 ?_)
 refine aV7 (Raw.aD4 (s:=s) K hh hok hn fun h' tk acc kp hs it=>?_)
 have hz:acc.toList.length<=sizeLine:=by rw [ba3,it.1]; exact hn
 refine aV7 (wpAny_newList ?_ hz)
 have hoL:(h'.push (seqObj "list" acc.toList.toArray 0)).get? h'.objs.size=some (seqObj "list" acc.toList.toArray 0):=aX4 _ rfl
 show wpAny _ _ _ _ _ { s with heap:=h'.push (seqObj "list" acc.toList.toArray 0),toks:=tk }
 refine aV7 (bb0 (bc6 slot_list_sort ⟨_,hoL,rfl⟩ entry_list_sort ?_ (args_list_sort _)))
 have keepS:∀ out:List Value,∀ b o,s.heap.get? b=some o->(sortedHeap (h'.push (seqObj "list" acc.toList.toArray 0)) h'.objs.size acc.toList out.toArray).get? b=some o:=fun out b o hb=>by
  have lt:=aX1 (kp b o hb)
  rw [sortedHeap_old (aZ0 lt) (by rw [size_push']; exact Nat.lt_succ_of_lt lt)]
  exact aV9 _ (kp b o hb)
 by_cases h2:acc.toList.length < 2
 ·refine zQ (s:={ s with heap:=h'.push (seqObj "list" acc.toList.toArray 0),toks:=tk }) hoL h2 ⟨_,rfl,aW2 ⟨_,rfl,?_⟩⟩
  obtain ⟨e,he⟩:=sortedHeap_at (vs:=acc.toList) (out:=acc.toList.toArray) hoL
  refine h _ tk h'.objs.size acc acc.toList e (keepS acc.toList) hs he it (bh4 _) ?_
  match hl:acc.toList,h2 with
  | [],_=>exact bh1
  | [_],_=>exact ba6 _ _
  | _ :: _ :: _,h2=>simp at h2; omega
 ·have kM:∀ b o,s.heap.get? b=some o->(cJ (h'.push (seqObj "list" acc.toList.toArray 0)) h'.objs.size acc.toList).get? b=some o:=fun b o hb=>by
   have lt:=aX1 (kp b o hb)
   exact vB (aZ0 lt) (aV9 _ (kp b o hb))
  have allp:∀ v ∈ acc.toList,hV (cJ (h'.push (seqObj "list" acc.toList.toArray 0)) h'.objs.size acc.toList) ys v:=fun v hv=>(hI acc it v hv).keep kM
  refine J8 (s:={ s with heap:=h'.push (seqObj "list" acc.toList.toArray 0),toks:=tk }) (κ:=tuples' true) (Ok:=fun x=>hV (cJ (h'.push (seqObj "list" acc.toList.toArray 0)) h'.objs.size acc.toList) ys x.1) (rk:=kY (cJ (h'.push (seqObj "list" acc.toList.toArray 0)) h'.objs.size acc.toList) ys) hoL (by omega) hz (fun Q hQ=>?_)
   (S3 (s:={ s with heap:=cJ (h'.push (seqObj "list" acc.toList.toArray 0)) h'.objs.size acc.toList,toks:=tk }) ys) (fun v hv=>allp v hv) fun out pm so=>⟨_,rfl,aW2 ⟨_,rfl,?_⟩⟩
  ·exact S4 (s:={ s with heap:=cJ (h'.push (seqObj "list" acc.toList.toArray 0)) h'.objs.size acc.toList,toks:=tk }) allp (by omega) hQ
  ·obtain ⟨e,he⟩:=sortedHeap_at (vs:=acc.toList) (out:=out.toArray) hoL
   exact h _ tk h'.objs.size acc out e (keepS out) hs he it pm (so.imp fun {u v} le p q hp hq z z'=>S5 (z.keep kM) (z'.keep kM) hp hq le)
def S6:List V->Hp->VK->Prop:=fun xs H Q=>∃ (a:Addr) (kvs:List (List aM × V)) (ls:List (List Int)),xs = [.ref a]/\H a=some (.dT kvs)/\kvs.map (·.1)=ls.map kn/\(∀ k ∈ ls,k ≠ [])/\∀ (l:Addr) (zs:List V) (ms:List (List Int)),H l=none->ms.Perm ls->ms.Pairwise (fun u v=>HT.aK v u=false)->Paired (gU H) zs (ms.map kn)->Q (.ref l) (upd H l (.lst zs))
theorem S7 {H:Hp}:∀ {ys:List V}{vs:List Value}{ls:List (List Int)},aI ys vs->Paired (gU H) ys (ls.map kn)->Paired (fun v l=>∃ y,aP y v/\gU H y (kn l)) vs ls
 | _,_,[],.nil,_=>.nil
 | _,_,[],.cons _ _,p=>nomatch p
 | _,_,l :: ls,.cons r t,.cons k p=>.cons ⟨_,r,k⟩ (S7 t p)
theorem S8 {H:Hp}:∀ {vs:List Value}{ls:List (List Int)},Paired (fun v l=>∃ y,aP y v/\gU H y (kn l)) vs ls->∃ ys:List V,aI ys vs/\Paired (gU H) ys (ls.map kn)
 | _,_,.nil=>⟨[],.nil,.nil⟩
 | _,_,.cons ⟨y,r,k⟩ p=>by
  obtain ⟨ys,t,q⟩:=S8 p
  exact⟨y :: ys,.cons r t,.cons k q⟩
theorem S9 (l:List Int):(kn l).map kV=l.map V.int:=by unfold kn; rw [ba7]; rfl
theorem aK2 {X:Cx} (hc:X.calm=true):cH X (.builtin "sorted") S6:=by
 intro pins s σ H xs us Q I r h
 obtain ⟨a,kvs,ls,rfl,ha,hk,hne,q⟩:=h
 obtain ⟨u,rfl,ru⟩:=eQ r
 cases ru
 obtain ⟨es,ep,ys,rd,far,pk,vk,z⟩:=zT I ha
 rw [hk] at pk
 have hl:=vk.length
 have hl2:=pk.length
 have hl3:=congrArg List.length hk
 rw [aW6] at hl hl2 hl3
 rw [aW6] at hl3
 have hsz:es.toList.length=es.size:=ba3
 have pv:∀ {y:V}{v:Value}{l:List Int},aP y v->gU H y (kn l)->gL s.heap v l:=fun {y v l} ry ka=>by
  obtain ⟨b,rfl,hb⟩:=ka
  cases ry
  rw [S9] at hb
  obtain ⟨us,ru,⟨ob,e1,c1,n1,d1⟩,_⟩:=I.tuple (show aL X.K H b (l.map V.int) from aL.of hb)
  exact⟨⟨b,ob,us,n1,rfl,e1,c1,d1,iR ru⟩⟩
 have jt:=S7 vk pk
 refine aK1 (ys:=ls) (Raw.zS far) (I.ok.hd hc) rd (by omega) (fun acc it v hv=>?_) fun h' tk l acc out e kp hn he it pm so=>?_
 ·rw [tW it] at hv
  obtain ⟨m,hm,y,ry,ka⟩:=R6 jt v hv
  exact⟨m,hm,hne m hm,pv ry ka⟩
 ·rw [tW it] at pm
  obtain ⟨ms,pms,jo⟩:=aJ3 pm.symm jt
  obtain ⟨zs,vz,pz⟩:=S8 jo
  have lz:=vz.length
  have lo:=pm.length_eq
  rw [aW6] at lo
  refine⟨.ref l,upd H l (.lst zs),I.laid (t':=tk) kp hn ⟨by omega,out,e,vz,he⟩,rfl,q l zs ms (I.hok.fresh hn) pms ?_ pz⟩
  exact R7 jo so fun u v a b ha hb ⟨y,ry,ka⟩ ⟨y',ry',kb⟩ le=>le _ _ (pms.mem_iff.mp ha) (pms.mem_iff.mp hb) (pv ry ka) (pv ry' kb)
def T0 (K:PySem.W.Frag):List V->Hp->VK->Prop:=fun xs H Q=>∃ (a:Addr) (ys:List V) (key:V->List Int),xs = [.ref a]/\aN K H a ys/\ys.length<=4096/\(∀ y ∈ ys,∃ b,y = .ref b/\aL K H b ((key y).map V.int)/\key y ≠ [])/\
 ∀ l (zs:List V),H l=none->zs.Perm ys->zs.Pairwise (fun u v=>HT.aK (key v) (key u)=false)->Q (.ref l) (upd H l (.lst zs))
theorem aK3 {X:Cx}:cH X (.builtin "sorted") (T0 X.K):=by
 intro pins s σ H xs us Q I r h
 obtain ⟨a,ys,key,rfl,hs,hz4,hk,q⟩:=h
 obtain ⟨u,rfl,ru⟩:=eQ r
 cases ru
 obtain ⟨its,rv,p,hz⟩:=I.list hs
 have hl:=rv.length
 have hn:s.heap.objs.size<=s.heap.objs.size+1:=Nat.le_succ _
 by_cases h2:its.length < 2
 ·refine zR p.isList h2 ?_
  obtain ⟨e,he⟩:=sortedAll_at s.heap its its.toArray
  refine⟨.ref (s.heap.objs.size+1),upd H (s.heap.objs.size+1) (.lst ys),I.laid (t':=s.toks) (fun _ _=>sortedAll_old) hn ⟨hz,its,e,rv,he⟩,rfl,q _ ys (I.hok.fresh hn) (bh4 _) ?_⟩
  match ys,hl with
  | [],_=>exact bh1
  | [_],_=>exact ba6 _ _
  | _ :: _ :: _,hl=>simp at hl; omega
 ·have pv:∀ {y:V}{v:Value},aP y v->y ∈ ys->gL (cJ (dE s.heap its) (s.heap.objs.size+1) its) v (key y):=fun {y v} ry hy=>by
   obtain ⟨b,rfl,sq,_⟩:=hk y hy
   cases ry
   obtain ⟨us,ru,⟨ob,e1,c1,n1,d1⟩,_⟩:=I.tuple sq
   exact⟨b,ob,us,n1,rfl,vB (aZ0 (Nat.lt_succ_of_lt (aX1 e1))) (J7 e1),c1,d1,iR ru⟩
  have pvs:∀ {xs:List V}{vs:List Value},aI xs vs->(∀ y ∈ xs,y ∈ ys)->∀ v ∈ vs,hV (cJ (dE s.heap its) (s.heap.objs.size+1) its) (ys.map key) v:=by
   intro xs vs r
   induction r with
   | nil=>intro _ v hv; cases hv
   | cons rx rt ih=>
    intro hh v hv
    rcases aW3.mp hv with z | z
    ·subst z
     obtain ⟨_,_,_,ne⟩:=hk _ (hh _ aX5)
     exact⟨_,ba1.mpr ⟨_,hh _ aX5,rfl⟩,ne,pv rx (hh _ aX5)⟩
    ·exact ih (fun y hy=>hh y (aW7 _ hy)) v z
  have allp:=pvs rv fun _ h=>h
  refine K0 (κ:=tuples' true) (Ok:=fun x=>hV (cJ (dE s.heap its) (s.heap.objs.size+1) its) (ys.map key) x.1) (rk:=kY (cJ (dE s.heap its) (s.heap.objs.size+1) its) (ys.map key)) p.isList (by omega) (by rw [<- hl]; exact hz)
   (fun A E Q hQ=>S4 (s:={ s with heap:=cJ (dE s.heap its) (s.heap.objs.size+1) its }) allp (by omega) hQ) (fun A E=>S3 (s:={ s with heap:=cJ (dE s.heap its) (s.heap.objs.size+1) its }) (ys.map key)) (fun v hv=>allp v hv) fun out pm so=>?_
  obtain ⟨zs,pz,rz⟩:=K2 pm.symm rv
  obtain ⟨e,he⟩:=sortedAll_at s.heap its out.toArray
  refine⟨.ref (s.heap.objs.size+1),upd H (s.heap.objs.size+1) (.lst zs),I.laid (t':=s.toks) (fun _ _=>sortedAll_old) hn ⟨by rw [pz.length_eq]; exact hz,out,e,rz,he⟩,rfl,q _ zs (I.hok.fresh hn) pz ?_⟩
  have lz:=rz.length
  rw [ba0]
  intro i j hi hj hij
  have s1:=ba0.mp so i j (by omega) (by omega) hij
  have gi:=nB i hi rz
  have gj:=nB j hj rz
  simp only [aX8,aW0 hi,aW0 hj,aW0 (show i < out.length by omega),aW0 (show j < out.length by omega),Option.getD_some] at gi gj
  have mi:=pz.mem_iff.mp (bf3 hi)
  have mj:=pz.mem_iff.mp (bf3 hj)
  exact S5 (pv gi mi) (pv gj mj) (ba1.mpr ⟨_,mi,rfl⟩) (ba1.mpr ⟨_,mj,rfl⟩) s1
end L2
namespace PP
open PySem L2
section
variable {X : Cx} {e : Expr} {tr : cB} {pos p2 : Pos}
abbrev eY (rs:List (List Int)):List PV:=rs.map fun r=>PV.tup (intz r)
def wN:List PV->(PV->Prop)->Prop:=fun xs Q=>∃ (ps:List (List aM × PV)) (ls:List (List Int)),xs = [.dT ps]/\ps.map (·.1)=ls.map kn/\(∀ k ∈ ls,k ≠ [])/\∀ ms:List (List Int),ms.Perm ls->ms.Pairwise (fun u v=>HT.aK v u=false)->Q (.lst (eY ms))
theorem T2 {K:PySem.W.Frag}{M:Addr->Prop}{H:Hp}:∀ {zs:List V}{ms:List (List Int)},Paired (gU H) zs (ms.map kn)->Reps K M H zs (eY ms)
 | _,[],.nil=>.nil
 | _,l :: ms,.cons ⟨q,e,h⟩ p=>by
  subst e
  rw [S9] at h
  exact .cons (.tup h (Reps.intz l)) (T2 p)
theorem aK4:dH X wN S6:=by
 rintro H vs xs Q Q' r ⟨ps,ls,rfl,e,hne,q⟩ k
 obtain ⟨v,rfl,r1⟩:=r.one
 cases r1 with
 | @dT a kvs _ m h e2 r2=>
  exact⟨a,kvs,ls,rfl,h,e2.trans e,hne,fun l zs ms hl' p o pz=>k _ _ _ (bK hl' _) (.lst hl' bU ((T2 pz).same (bK hl' _) fun _ z=>z)) (q ms p o)⟩
theorem aK5 (B:Bt X.mg) (hc:X.calm=true) (ha:QA X [e] tr) (hg:Gl X "sorted":=by rfl) (he:starEach [e] X.env=(false,eval e X.env) :: starEach [] X.env:=by rfl) (hpl:(backTo pos (starEach [] X.env)).any (·.1)=false:=by rfl):QE X (.Call (.Name "sorted" p2) [e] [] pos) (aF wN tr):=
 gY (aK2 hc) aK4 hg B.sorted PyProof.Rows.boot_sorted ha (he:=he) (hpl:=hpl)
def wO:List PV->(PV->Prop)->Prop:=fun xs Q=>∃ ys:List (List Int),xs = [.lst (eY ys)]/\ys.length<=4096/\(∀ y ∈ ys,y ≠ [])/\∀ zs:List (List Int),zs.Perm ys->zs.Pairwise (fun u v=>HT.aK v u=false)->Q (.lst (eY zs))
theorem aK6:dH X wO (T0 X.K):=by
 rintro H vs xs Q Q' r ⟨ys,rfl,hl,hne,q⟩ k
 obtain ⟨v,rfl,r1⟩:=r.one
 obtain ⟨a,us,rfl,_,h,r2⟩:=r1.sqL
 obtain ⟨h1,h2⟩:=vI r2
 have lr:=r2.length
 rw [aW6] at lr
 refine⟨a,us,jA H,rfl,aN.of h,by omega,fun y hy=>?_,fun l zs hl' pm so=>?_⟩
 ·obtain ⟨b,rfl,hb⟩:=h2 y hy
  refine⟨b,rfl,aL.of hb,hne _ ?_⟩
  rw [<- h1]; exact ba1.mpr ⟨_,hy,rfl⟩
 ·have hz:∀ u ∈ zs,∃ b,u = .ref b/\H b=some (.tup ((jA H u).map V.int)):=fun u hu=>h2 u (pm.mem_iff.mp hu)
  refine k _ _ _ (bK hl' _) (.lst hl' bU ((vJ hz).same (bK hl' _) fun _ z=>z)) (q _ ?_ ?_)
  ·rw [<- h1]; exact pm.map _
  ·rw [be3]; exact so
theorem aK7 (B:Bt X.mg) (ha:QA X [e] tr) (hg:Gl X "sorted":=by rfl) (he:starEach [e] X.env=(false,eval e X.env) :: starEach [] X.env:=by rfl) (hpl:(backTo pos (starEach [] X.env)).any (·.1)=false:=by rfl):QE X (.Call (.Name "sorted" p2) [e] [] pos) (aF wO tr):=
 gY aK3 aK6 hg B.sorted PyProof.Rows.boot_sorted ha (he:=he) (hpl:=hpl)
end
end PP
namespace HT
open PySem PyProof.Rows
section
open PySem.SeqAt
open PySem.MeetsSeq PySem.MeetsSeq2 PySem.MeetsSeq3
theorem aK8 (A:Around) (s:Shared) (a:Int) (t:Tok) (c:Int) (u:Tok) (prog:Program) (w:World) (E:Value->Shared->Prop) (Q:Value->Shared->Prop) (h:Q (.bool (decide (c < a))) s) :
  wpAny (model prog w) A (richCompare .Gt (.int a t) (.int c u)) Q E s:=
 (PyProof.Rows.gt_int h:wpAny (model prog w) A (compareOp .Gt (.int a t) (.int c u)) Q E s)
theorem aK9 (l b:Addr) (items items2:Array Value) (n n2:Nat) (dd dd2:Option Addr) (sl sl2:Array (Option Value)) (ns ms:List Int) (hi:IntsAre items.toList ns) (hj:IntsAre items2.toList ms) :
  Meets (Builtin.«tuple.__gt__» ⟨[.ref l,.ref b],[]⟩)
   (fun _ R s=>s.heap.get? l=some { cls:=.type "tuple",dict:=dd,data:=.seq items n,slots:=sl }/\s.heap.get? b=some { cls:=.type "tuple",dict:=dd2,data:=.seq items2 n2,slots:=sl2 }/\
    R (.ok (.ret (.bool (aK ms ns)))) s):=
 .of_wp fun prog w A R s h=>by
  obtain ⟨hp,g,d,tk,os⟩:=s; obtain ⟨hl,hb,h⟩:=h
  have f2:=AutoSeq1.sub_tuple_tuple
  have z1:items.size=ns.length:=by rw [<- hi.length]; simp
  have z2:items2.size=ms.length:=by rw [<- hj.length]; simp
  wp_walk using bg0 hl,bg0 hb,wpAny_forIn_list _ (fun cG b s'=>b.1=none/\s'=⟨hp,g,d,tk,os⟩/\∃ (vs ws:List Value) (ns' ms':List Int),cG=vs.zip ws/\
   IntsAre vs ns'/\IntsAre ws ms'/\ns'.length+items2.size=ms'.length+items.size/\R (.ok (.ret (.bool (aK ms' ns')))) ⟨hp,g,d,tk,os⟩) _
  case turn=>
   rintro ⟨y,x⟩ cG b s' ⟨hb',rfl,vs,ws,ns',ms',hz,hvi,hwi,hlen,hR⟩
   cases hvi with
   | nil=>rw [List.zip_nil_left] at hz; cases hz
   | cons a t hvi'=>
    cases hwi with
    | nil=>rw [List.zip_nil_right] at hz; cases hz
    | cons c u hwi'=>
     rw [bd2] at hz
     injection hz with hyx hrest
     injection hyx with hy hx
     subst hy hx
     rw [fZ] at hR
     simp only [bb4] at hlen
     obtain ⟨e,he,hiff⟩:=yJ A.in1 ⟨hp,g,d,tk,os⟩ a t c u
     refine aV7 (he prog w _ _ ?_)
     cases e with
     | true=>
      rw [if_pos (hiff.mp rfl).symm] at hR
      wp_walk
      exact⟨rfl,rfl,_,_,_,_,hrest,hvi',hwi',by omega,hR⟩
     | false=>
      rw [if_neg (fun q=>absurd (hiff.mpr (Eq.symm q)) aY3)] at hR
      have hri:=aK8 A.in1 ⟨hp,g,d,tk,os⟩ a t c u prog w
      wp_walk using hri
      exact⟨_,rfl,by simpa using hR⟩
  case fin=>
   rintro ⟨b1,b2⟩ s' ⟨hb',rfl,vs,ws,ns',ms',hz,hvi,hwi,hlen,hR⟩
   simp only at hb'
   subst hb'
   have hv:aK ms' ns'=decide (items.size > items2.size):=by
    cases hvi with
    | nil=>
     cases hwi with
     | nil=>
      simp only [bl2] at hlen
      rw [oT]
      exact (aW4 (by omega)).symm
     | cons c u hw=>
      simp only [bl2,bb4] at hlen
      rw [yI]
      exact (aW4 (by omega)).symm
    | cons a t hv=>
     cases hwi with
     | nil=>
      simp only [bl2,bb4] at hlen
      rw [yH]
      exact (aX3 (by omega)).symm
     | cons c u hw=>
      rw [bd2] at hz
      cases hz
   rw [hv] at hR
   wp_walk
   exact⟨_,rfl,by simpa [Builtin.Tuple.tupleCompareSizes] using hR⟩
  case h=>
   exact⟨rfl,rfl,items.toList,items2.toList,ns,ms,rfl,hi,hj,by omega,h⟩
end
section
variable {prog : Program} {w : World} {A : Around} {E : Value → Shared → Prop} {s : Shared}
theorem aL0 {l b:Addr}{items items2:Array Value}{ns ms:List Int}{Q:Value->Shared->Prop} (hl:IsTup s.heap l items) (hb:IsTup s.heap b items2) (hi:IntsAre items.toList ns) (hj:IntsAre items2.toList ms)
  (hu:A.units < cLine) (h:Q (.bool (aK ms ns)) s):wpAny (model prog w) A (richCompare .Gt (.ref l) (.ref b)) Q E s:=by
 obtain ⟨⟨cls,dd,data,sl⟩,ho,hc,n,hd⟩:=id hl
 obtain ⟨⟨cls2,dd2,data2,sl2⟩,ho2,hc2,n2,hd2⟩:=id hb
 simp only at hc hd hc2 hd2
 subst hc hd hc2 hd2
 exact richCompare_meets_room (op:=.Gt) ⟨_,ho,rfl⟩ ⟨_,ho2,rfl⟩ PySem.F.slot_tuple_gt PySem.F.entry_tuple_gt (PySem.F.args_tuple_gt_2 _ _) (aK9 l b items items2 n n2 dd dd2 sl sl2 ns ms hi hj)
  ⟨ho,ho2,show Value.bool (aK ms ns) ≠ Value.notImplemented/\Q (.bool (aK ms ns)) s from ⟨(fun x=>nomatch x),h⟩⟩ hu
end
end HT
namespace L2
open PySem PySem.Spec PyProof.Rows PP
section
variable {prog : Program} {w : World} {A : Around} {R : Result → Shared → Prop} {I S : Addr} {n : Nat} {s0 : Shared} {a b : Value} {lt : Bool} {fp : List Addr} {P : Nat → Value → Prop} {St : Nat → Heap → Prop}
theorem aL1 (W:Walks prog w A.in1 I fp [I] 2 P St) (p0:∀ v,P 0 v->v=a) (p1:∀ v,P 1 v->v=b) (sI:S ≠ I) (sf:S ∉ fp) (fI:s0.heap.get? I=none) (fS:s0.heap.get? S=none)
  (ask:∀ (h:Heap) (k:Nat) (Q E:Value->Shared->Prop),cZ s0.heap h->Q (.bool lt) (at_ s0 h k)->wpAny (model prog w) A.in1 (richCompare .Lt b a) Q E (at_ s0 h k))
  (fin:∀ h k,cZ s0.heap h->R (.ok (.ret (if lt=true then b else a))) (at_ s0 h k)) {h:Heap}{k c:Nat} (old:cZ s0.heap h) (st:St 0 h)
  (hS:h.get? S=some { cls:=.type "list",dict:=none,data:=.seq #[] c,slots:=#[] }):codeAny (model prog w) A (.builtin "min.loop" ⟨[.ref I,.none,.ref S],[]⟩) R (at_ s0 h k):=by
 have nm:(toString "min" ++ toString ".loop" : String)="min.loop":=by decide
 have nS:S ∉ [I]:=fun z=>sI (aX6.mp z)
 have put:∀ {h h':Heap},cZ s0.heap h->(∀ b o,b ∉ [I]->h.get? b=some o->h'.get? b=some o)->cZ s0.heap h':=fun {h h'} o1 o2 b o e=>o2 b o (fun z=>by rw [aX6.mp z,fI] at e; cases e) (o1 b o e)
 have put2:∀ {h:Heap}{f:Obj->Obj},cZ s0.heap h->cZ s0.heap (h.update S f):=fun {h f} o1 b o e=>(bi3 _ _ (fun z:S=b=>by rw [<- z,fS] at e; cases e)).trans (o1 b o e)
 have last:∀ (h:Heap) (k c:Nat),cZ s0.heap h->St 2 h->h.get? S=some { cls:=.type "list",dict:=none,data:=.seq #[if lt=true then b else a,if lt=true then b else a] c,slots:=#[] }->codeAny (model prog w) A (.builtin "min.loop" ⟨[.ref I,.none,.ref S],[]⟩) R (at_ s0 h k):=fun h k c old st hS=>by
  refine bg1 PySem.F.entry_min_loop ?_
  rw [bd1 bg7]
  refine aV7 (be1 hS rfl ?_)
  refine aV7 (bk8 (W.done _ _ _ st fun h2 k2 o2=>?_))
  exact aV7 (bl3 (o2 S _ nS hS) rfl (aV7 (bi5 (aW2 (fin _ k2 (put2 (put old o2)))))))
 have fr:∀ {h:Heap}{f:Obj->Obj}{j:Nat},St j h->St j (h.update S f):=fun {h f j} st=>W.frame _ _ _ st fun b hb o e=>(bi3 _ _ (fun z:S=b=>sf (by rw [z]; exact hb))).trans e
 refine bg1 PySem.F.entry_min_loop ?_
 rw [bd1 bg7]
 refine aV7 (be1 hS rfl ?_)
 refine aV7 (bk8 (W.item 0 _ _ _ (by decide) st fun v h2 k2 hv st2 o2=>?_))
 obtain rfl:=p0 v hv
 have hS2:=o2 S _ nS hS
 refine aV7 (aW2 ?_)
 refine aV7 (m:=updateSeq _ (fun _=>#[v,v])) (bl3 hS2 rfl ?_)
 rw [nm]
 refine aW2 ⟨bi0 bg7 _,bg1 PySem.F.entry_min_loop ?_⟩
 rw [bd1 bg7]
 have hS3:(h2.update S (Obj.mapSeq fun _=>#[v,v])).get? S=some (Obj.mapSeq (fun _=>#[v,v]) { cls:=.type "list",dict:=none,data:=.seq #[] c,slots:=#[] }):=bd5 _ hS2 rfl
 refine aV7 (be1 hS3 rfl ?_)
 refine aV7 (bk8 (W.item 1 _ _ _ (by decide) (fr st2) fun u h4 k4 hu st4 o4=>?_))
 obtain rfl:=p1 u hu
 have hS4:=o4 S _ nS hS3
 have old4:=put (put2 (f:=Obj.mapSeq fun _=>#[v,v]) (put old o2)) o4
 refine aV7 (aW2 ?_)
 refine aV7 (m:=tryCatch (holding [u,u] (richCompare .Lt u v >>= _)) _) (bk8 (bb0 (aV7 (ask h4 k4 _ _ old4 ?_))))
 refine aV7 (bb0 (bj5 (aV7 (bi5 (aW2 ?_)))))
 cases lt with
 | false=>
  simp only [aY8,be6]
  refine aV7 (bi5 ?_)
  rw [nm]
  exact aW2 ⟨bi0 bg7 _,last h4 k4 _ old4 st4 hS4⟩
 | true=>
  simp only [if_true]
  refine aV7 (bl3 hS4 rfl (aV7 (bi5 ?_)))
  rw [nm]
  exact aW2 ⟨bi0 bg7 _,last _ k4 _ (put2 old4) (fr st4) (bd5 _ hS4 rfl)⟩
theorem aL2 {Q E:Value->Shared->Prop} (hh:A.in1.handled=none)
  (ask:∀ (h:Heap) (k:Nat) (Q E:Value->Shared->Prop),cZ s0.heap h->Q (.bool lt) (at_ s0 h k)->wpAny (model prog w) A.in1 (richCompare .Lt b a) Q E (at_ s0 h k))
  (fin:∀ h k,cZ s0.heap h->Q (if lt=true then b else a) (at_ s0 h k)):wpAny (model prog w) A (call (.builtin "min") [a,b]) Q E s0:=by
 have nm:(toString "min" ++ toString ".loop" : String)="min.loop":=by decide
 refine call_function_tree PySem.F.kind_min PySem.F.plain_min PySem.F.entry_min (PySem.F.args_min2 _ _) ?_
 refine aV7 (wpAny_of_eq (show Builtin.Builtins.bindParams "min" ["key","default"] 0 ⟨[],[]⟩=pure [none,none] from rfl) ?_)
 show wpAny _ A.in1 (newTuple [a,b] >>= _) _ _ _
 refine aV7 (ba2 ?_)
 have hT:(s0.heap.push { cls:=.type "tuple",data:=.seq #[a,b] }).IsTuple s0.heap.objs.size #[a,b]:=⟨_,aX4 _ rfl,rfl,0,rfl⟩
 have z1:(s0.heap.push { cls:=.type "tuple",data:=.seq #[a,b] }).objs.size=s0.heap.objs.size+1:=be0 ..
 refine aV7 (bh6 hT ?_)
 refine aV7 (ba2 ?_)
 rw [nm]
 have z2:((s0.heap.push { cls:=.type "tuple",data:=.seq #[a,b] }).push { cls:=.type "tuple_iterator",data:=.fields #[.ref s0.heap.objs.size,.int 0 0] }).objs.size=s0.heap.objs.size+2:=by rw [be0,z1]
 have ne:s0.heap.objs.size ≠ (s0.heap.push { cls:=.type "tuple",data:=.seq #[a,b] }).objs.size:=by omega
 refine aW2 ⟨bi0 bg7 _,aL1 (lt:=lt) (Walks.tuple (A:=A.in1) hh _ s0.heap.objs.size ne #[a,b]) (fun v hv=>?_) (fun v hv=>?_) (fun z=>?_) (fun z=>?_) (rF (aZ7 (Nat.le_succ _) (Nat.le_of_eq z1.symm))) (rF (aZ7 (bg6 _ 2) (Nat.le_of_eq z2.symm))) ask fin (fun b o e=>aV9 _ (aV9 _ (aV9 _ e)))
  ⟨⟨_,aV9 _ (aX4 _ rfl),rfl,rfl⟩,(hT.push _).push _⟩ (aX4 _ rfl)⟩
 ·exact (aY5 (show some a=some v from hv)).symm
 ·exact (aY5 (show some b=some v from hv)).symm
 ·have z:=z2.symm.trans (z.trans z1)
  omega
 ·rcases aW3.mp z with z | z
  ·have z:=z2.symm.trans (z.trans z1)
   omega
  ·have z:=z2.symm.trans (aX6.mp z)
   omega
end
section
variable {prog : Program} {w : World} {A : Around} {R : Result → Shared → Prop} {I S : Addr} {n : Nat} {s0 : Shared} {a b : Value} {lt : Bool} {fp : List Addr} {P : Nat → Value → Prop} {St : Nat → Heap → Prop}
theorem aL3 (W:Walks prog w A.in1 I fp [I] 2 P St) (p0:∀ v,P 0 v->v=a) (p1:∀ v,P 1 v->v=b) (sI:S ≠ I) (sf:S ∉ fp) (fI:s0.heap.get? I=none) (fS:s0.heap.get? S=none)
  (ask:∀ (h:Heap) (k:Nat) (Q E:Value->Shared->Prop),cZ s0.heap h->Q (.bool lt) (at_ s0 h k)->wpAny (model prog w) A.in1 (richCompare .Gt b a) Q E (at_ s0 h k))
  (fin:∀ h k,cZ s0.heap h->R (.ok (.ret (if lt=true then b else a))) (at_ s0 h k)) {h:Heap}{k c:Nat} (old:cZ s0.heap h) (st:St 0 h)
  (hS:h.get? S=some { cls:=.type "list",dict:=none,data:=.seq #[] c,slots:=#[] }):codeAny (model prog w) A (.builtin "max.loop" ⟨[.ref I,.none,.ref S],[]⟩) R (at_ s0 h k):=by
 have nm:(toString "max" ++ toString ".loop" : String)="max.loop":=by decide
 have nS:S ∉ [I]:=fun z=>sI (aX6.mp z)
 have put:∀ {h h':Heap},cZ s0.heap h->(∀ b o,b ∉ [I]->h.get? b=some o->h'.get? b=some o)->cZ s0.heap h':=fun {h h'} o1 o2 b o e=>o2 b o (fun z=>by rw [aX6.mp z,fI] at e; cases e) (o1 b o e)
 have put2:∀ {h:Heap}{f:Obj->Obj},cZ s0.heap h->cZ s0.heap (h.update S f):=fun {h f} o1 b o e=>(bi3 _ _ (fun z:S=b=>by rw [<- z,fS] at e; cases e)).trans (o1 b o e)
 have last:∀ (h:Heap) (k c:Nat),cZ s0.heap h->St 2 h->h.get? S=some { cls:=.type "list",dict:=none,data:=.seq #[if lt=true then b else a,if lt=true then b else a] c,slots:=#[] }->codeAny (model prog w) A (.builtin "max.loop" ⟨[.ref I,.none,.ref S],[]⟩) R (at_ s0 h k):=fun h k c old st hS=>by
  refine bg1 PySem.F.entry_max_loop ?_
  rw [bd1 bg8]
  refine aV7 (be1 hS rfl ?_)
  refine aV7 (bk8 (W.done _ _ _ st fun h2 k2 o2=>?_))
  exact aV7 (bl3 (o2 S _ nS hS) rfl (aV7 (bi5 (aW2 (fin _ k2 (put2 (put old o2)))))))
 have fr:∀ {h:Heap}{f:Obj->Obj}{j:Nat},St j h->St j (h.update S f):=fun {h f j} st=>W.frame _ _ _ st fun b hb o e=>(bi3 _ _ (fun z:S=b=>sf (by rw [z]; exact hb))).trans e
 refine bg1 PySem.F.entry_max_loop ?_
 rw [bd1 bg8]
 refine aV7 (be1 hS rfl ?_)
 refine aV7 (bk8 (W.item 0 _ _ _ (by decide) st fun v h2 k2 hv st2 o2=>?_))
 obtain rfl:=p0 v hv
 have hS2:=o2 S _ nS hS
 refine aV7 (aW2 ?_)
 refine aV7 (m:=updateSeq _ (fun _=>#[v,v])) (bl3 hS2 rfl ?_)
 rw [nm]
 refine aW2 ⟨bi0 bg8 _,bg1 PySem.F.entry_max_loop ?_⟩
 rw [bd1 bg8]
 have hS3:(h2.update S (Obj.mapSeq fun _=>#[v,v])).get? S=some (Obj.mapSeq (fun _=>#[v,v]) { cls:=.type "list",dict:=none,data:=.seq #[] c,slots:=#[] }):=bd5 _ hS2 rfl
 refine aV7 (be1 hS3 rfl ?_)
 refine aV7 (bk8 (W.item 1 _ _ _ (by decide) (fr st2) fun u h4 k4 hu st4 o4=>?_))
 obtain rfl:=p1 u hu
 have hS4:=o4 S _ nS hS3
 have old4:=put (put2 (f:=Obj.mapSeq fun _=>#[v,v]) (put old o2)) o4
 refine aV7 (aW2 ?_)
 refine aV7 (m:=tryCatch (holding [u,u] (richCompare .Gt u v >>= _)) _) (bk8 (bb0 (aV7 (ask h4 k4 _ _ old4 ?_))))
 refine aV7 (bb0 (bj5 (aV7 (bi5 (aW2 ?_)))))
 cases lt with
 | false=>
  simp only [aY8,be6]
  refine aV7 (bi5 ?_)
  rw [nm]
  exact aW2 ⟨bi0 bg8 _,last h4 k4 _ old4 st4 hS4⟩
 | true=>
  simp only [if_true]
  refine aV7 (bl3 hS4 rfl (aV7 (bi5 ?_)))
  rw [nm]
  exact aW2 ⟨bi0 bg8 _,last _ k4 _ (put2 old4) (fr st4) (bd5 _ hS4 rfl)⟩
theorem aL4 {Q E:Value->Shared->Prop} (hh:A.in1.handled=none)
  (ask:∀ (h:Heap) (k:Nat) (Q E:Value->Shared->Prop),cZ s0.heap h->Q (.bool lt) (at_ s0 h k)->wpAny (model prog w) A.in1 (richCompare .Gt b a) Q E (at_ s0 h k))
  (fin:∀ h k,cZ s0.heap h->Q (if lt=true then b else a) (at_ s0 h k)):wpAny (model prog w) A (call (.builtin "max") [a,b]) Q E s0:=by
 have nm:(toString "max" ++ toString ".loop" : String)="max.loop":=by decide
 refine call_function_tree PySem.F.kind_max PySem.F.plain_max PySem.F.entry_max (PySem.F.args_max2 _ _) ?_
 refine aV7 (wpAny_of_eq (show Builtin.Builtins.bindParams "max" ["key","default"] 0 ⟨[],[]⟩=pure [none,none] from rfl) ?_)
 show wpAny _ A.in1 (newTuple [a,b] >>= _) _ _ _
 refine aV7 (ba2 ?_)
 have hT:(s0.heap.push { cls:=.type "tuple",data:=.seq #[a,b] }).IsTuple s0.heap.objs.size #[a,b]:=⟨_,aX4 _ rfl,rfl,0,rfl⟩
 have z1:(s0.heap.push { cls:=.type "tuple",data:=.seq #[a,b] }).objs.size=s0.heap.objs.size+1:=be0 ..
 refine aV7 (bh6 hT ?_)
 refine aV7 (ba2 ?_)
 rw [nm]
 have z2:((s0.heap.push { cls:=.type "tuple",data:=.seq #[a,b] }).push { cls:=.type "tuple_iterator",data:=.fields #[.ref s0.heap.objs.size,.int 0 0] }).objs.size=s0.heap.objs.size+2:=by rw [be0,z1]
 have ne:s0.heap.objs.size ≠ (s0.heap.push { cls:=.type "tuple",data:=.seq #[a,b] }).objs.size:=by omega
 refine aW2 ⟨bi0 bg8 _,aL3 (lt:=lt) (Walks.tuple (A:=A.in1) hh _ s0.heap.objs.size ne #[a,b]) (fun v hv=>?_) (fun v hv=>?_) (fun z=>?_) (fun z=>?_) (rF (aZ7 (Nat.le_succ _) (Nat.le_of_eq z1.symm))) (rF (aZ7 (bg6 _ 2) (Nat.le_of_eq z2.symm))) ask fin (fun b o e=>aV9 _ (aV9 _ (aV9 _ e)))
  ⟨⟨_,aV9 _ (aX4 _ rfl),rfl,rfl⟩,(hT.push _).push _⟩ (aX4 _ rfl)⟩
 ·exact (aY5 (show some a=some v from hv)).symm
 ·exact (aY5 (show some b=some v from hv)).symm
 ·have z:=z2.symm.trans (z.trans z1)
  omega
 ·rcases aW3.mp z with z | z
  ·have z:=z2.symm.trans (z.trans z1)
   omega
  ·have z:=z2.symm.trans (aX6.mp z)
   omega
end
section
variable {X : Cx}
theorem aL5 (hc:X.calm=true) (hu:X.A.units+3 < cLine):cH X (.builtin "min") (fun xs H Q=>∃ a b ns ms,xs = [.ref a,.ref b]/\H a=some (.tup (ns.map V.int))/\H b=some (.tup (ms.map V.int))/\Q (if HT.aK ms ns=true then .ref b else .ref a) H):=by
 intro pins s σ H xs us Q I r h
 obtain ⟨a,b,ns,ms,rfl,ha,hb,q⟩:=h
 obtain ⟨u,w',rfl,r1,r2⟩:=jL r
 cases r1
 cases r2
 refine aL2 (lt:=HT.aK ms ns) (I.ok.hd hc) (fun h k Q E old hq=>?_) fun h k old=>⟨_,H,I.kept (t':=k) old,?_,q⟩
 ·have I2:a8 X pins σ H (at_ s h k):=I.kept (t':=k) old
  obtain ⟨its,v1,t1,_⟩:=I2.tuple (aL.of (K:=X.K) ha)
  obtain ⟨its2,v2,t2,_⟩:=I2.tuple (aL.of (K:=X.K) hb)
  exact (HT.yK t2 t1 (iR v2) (iR v1) (by show X.A.units+1 < cLine; omega) hq:wpAny (model X.prog X.w) X.A.in1 (compareOp .Lt _ _) Q E (at_ s h k))
 ·split <;> rfl
theorem aL6 (hc:X.calm=true) (hu:X.A.units+3 < cLine):cH X (.builtin "max") (fun xs H Q=>∃ a b ns ms,xs = [.ref a,.ref b]/\H a=some (.tup (ns.map V.int))/\H b=some (.tup (ms.map V.int))/\Q (if HT.aK ns ms=true then .ref b else .ref a) H):=by
 intro pins s σ H xs us Q I r h
 obtain ⟨a,b,ns,ms,rfl,ha,hb,q⟩:=h
 obtain ⟨u,w',rfl,r1,r2⟩:=jL r
 cases r1
 cases r2
 refine aL4 (lt:=HT.aK ns ms) (I.ok.hd hc) (fun h k Q E old hq=>?_) fun h k old=>⟨_,H,I.kept (t':=k) old,?_,q⟩
 ·have I2:a8 X pins σ H (at_ s h k):=I.kept (t':=k) old
  obtain ⟨its,v1,t1,_⟩:=I2.tuple (aL.of (K:=X.K) ha)
  obtain ⟨its2,v2,t2,_⟩:=I2.tuple (aL.of (K:=X.K) hb)
  exact HT.aL0 t2 t1 (iR v2) (iR v1) (by show X.A.units+1 < cLine; omega) hq
 ·split <;> rfl
theorem aL7 (hc:X.calm=true):cH X (.builtin "max") (fun xs H Q=>∃ i j k,xs = [.int i,.int j,.int k]/\Q (.int (max i (max j k))) H):=by
 intro pins s σ H xs us Q I r h
 obtain ⟨i,j,k,rfl,q⟩:=h
 cases r with
 | cons r1 r2=>
  obtain ⟨u,w',rfl,⟨t',rfl⟩,⟨t'',rfl⟩⟩:=jL r2
  obtain ⟨t,rfl⟩:=r1
  refine max_three_ints (I.ok.hd hc) fun h' tk kp=>⟨_,H,I.kept kp,?_,q⟩
  by_cases h1:j > i
  ·rw [if_pos h1]
   by_cases h2:k > j
   ·rw [if_pos h2,show max i (max j k)=k by omega]; exact⟨_,rfl⟩
   ·rw [if_neg h2,show max i (max j k)=j by omega]; exact⟨_,rfl⟩
  ·rw [if_neg h1]
   by_cases h2:k > i
   ·rw [if_pos h2,show max i (max j k)=k by omega]; exact⟨_,rfl⟩
   ·rw [if_neg h2,show max i (max j k)=i by omega]; exact⟨_,rfl⟩
end
end L2
namespace PP
open PySem L2
section
variable {X : Cx} {a b c e : Expr} {ta tb te : aC} {tr : cB} {pos p2 : Pos} {σ : St} {H : Hp} {D : cP}
theorem Reps.three {K:PySem.W.Frag}{M:Addr->Prop}{H:Hp}{vs:List V}{x y z:PV} (r:Reps K M H vs [x,y,z]):∃ v w u,vs = [v,w,u]/\aE K M H v x/\aE K M H w y/\aE K M H u z:=by
 cases r with
 | cons r t=>
  obtain ⟨w,u,rfl,q1,q2⟩:=t.two
  exact⟨_,_,_,rfl,r,q1,q2⟩
def o3:List PV->(PV->Prop)->Prop:=fun xs Q=>∃ i j k:Int,xs = [.int i,.int j,.int k]/\Q (.int (max i (max j k)))
theorem aL8:dH X o3 (fun xs H Q=>∃ i j k,xs = [.int i,.int j,.int k]/\Q (.int (max i (max j k))) H):=by
 rintro H vs xs Q Q' r ⟨i,j,k,rfl,q⟩ kk
 obtain ⟨v,w,u,rfl,r1,r2,r3⟩:=r.three
 cases r1; cases r2; cases r3
 exact⟨i,j,k,rfl,kk _ _ _ (aD.refl _) (.int _) q⟩
theorem wP (B:Bt X.mg) (hc:X.calm=true) (ha:QA X [a,b,c] tr) (hg:Gl X "max":=by rfl) (he:starEach [a,b,c] X.env=(false,eval a X.env) :: starEach [b,c] X.env:=by rfl) (hpl:(backTo pos (starEach [b,c] X.env)).any (·.1)=false:=by rfl):QE X (.Call (.Name "max" p2) [a,b,c] [] pos) (aF o3 tr):=
 gY (aL7 hc) aL8 hg B.max PyProof.Rows.boot_max ha (he:=he) (hpl:=hpl)
def wQ:List PV->(PV->Prop)->Prop:=fun xs Q=>∃ ns ms:List Int,xs = [.tup (intz ns),.tup (intz ms)]/\Q (.tup (intz (if HT.aK ms ns=true then ms else ns)))
def wR:List PV->(PV->Prop)->Prop:=fun xs Q=>∃ ns ms:List Int,xs = [.tup (intz ns),.tup (intz ms)]/\Q (.tup (intz (if HT.aK ns ms=true then ms else ns)))
theorem aL9:dH X wQ (fun xs H Q=>∃ a b ns ms,xs = [.ref a,.ref b]/\H a=some (.tup (ns.map V.int))/\H b=some (.tup (ms.map V.int))/\Q (if HT.aK ms ns=true then .ref b else .ref a) H):=by
 rintro H vs xs Q Q' r ⟨ns,ms,rfl,q⟩ k
 obtain ⟨v,w,rfl,r1,r2⟩:=r.two
 obtain ⟨p,us,rfl,h1,q1⟩:=r1.sqT
 obtain ⟨p',us',rfl,h2,q2⟩:=r2.sqT
 obtain rfl:=q1.ofInts
 obtain rfl:=q2.ofInts
 refine⟨p,p',ns,ms,rfl,h1,h2,k _ _ _ (aD.refl _) ?_ q⟩
 split
 ·exact .tup h2 (Reps.intz _)
 ·exact .tup h1 (Reps.intz _)
theorem aM0:dH X wR (fun xs H Q=>∃ a b ns ms,xs = [.ref a,.ref b]/\H a=some (.tup (ns.map V.int))/\H b=some (.tup (ms.map V.int))/\Q (if HT.aK ns ms=true then .ref b else .ref a) H):=by
 rintro H vs xs Q Q' r ⟨ns,ms,rfl,q⟩ k
 obtain ⟨v,w,rfl,r1,r2⟩:=r.two
 obtain ⟨p,us,rfl,h1,q1⟩:=r1.sqT
 obtain ⟨p',us',rfl,h2,q2⟩:=r2.sqT
 obtain rfl:=q1.ofInts
 obtain rfl:=q2.ofInts
 refine⟨p,p',ns,ms,rfl,h1,h2,k _ _ _ (aD.refl _) ?_ q⟩
 split
 ·exact .tup h2 (Reps.intz _)
 ·exact .tup h1 (Reps.intz _)
theorem aM1 (B:Bt X.mg) (hc:X.calm=true) (hu:X.A.units+3 < cLine) (ha:QA X [a,b] tr) (hg:Gl X "min":=by rfl) (he:starEach [a,b] X.env=(false,eval a X.env) :: starEach [b] X.env:=by rfl) (hpl:(backTo pos (starEach [b] X.env)).any (·.1)=false:=by rfl):QE X (.Call (.Name "min" p2) [a,b] [] pos) (aF wQ tr):=
 gY (aL5 hc hu) aL9 hg B.min PyProof.Rows.boot_min ha (he:=he) (hpl:=hpl)
theorem aM2 (B:Bt X.mg) (hc:X.calm=true) (hu:X.A.units+3 < cLine) (ha:QA X [a,b] tr) (hg:Gl X "max":=by rfl) (he:starEach [a,b] X.env=(false,eval a X.env) :: starEach [b] X.env:=by rfl) (hpl:(backTo pos (starEach [b] X.env)).any (·.1)=false:=by rfl):QE X (.Call (.Name "max" p2) [a,b] [] pos) (aF wR tr):=
 gY (aL6 hc hu) aM0 hg B.max PyProof.Rows.boot_max ha (he:=he) (hpl:=hpl)
end
end PP
namespace HT
open PySem PyProof.Rows
section
open PySem.SeqAt
open PySem.MeetsSeq PySem.MeetsSeq2 PySem.MeetsSeq3
theorem aM3 (l:Addr) (items:Array Value) (n:Nat) (x:Value) (e:Value->Bool) (j:Nat) (hj:j < items.size) (hit:e items[j]=true) (hs1:items.size<=sizeLine) (k:Nat) :
  ∀ i:Nat,j - i=k->i<=j->(∀ m (hm:m < items.size),i<=m->m < j->e items[m]=false)->Meets (Builtin.«list.remove.loop» ⟨[.ref l,x,rawInt i],[]⟩)
   (fun A R s=>s.heap.get? l=some (seqObj "list" items n)/\(∀ y,y ∈ items->EqAt A.in1 s y x (e y))/\R (.ok (.ret .none)) { s with heap:=s.heap.update l (Obj.mapSeq fun xs=>xs.eraseIdxIfInBounds j) }):=by
 have fits:∀ i,(items.eraseIdxIfInBounds i).size<=sizeLine+1:=fun i=>aZ7 (size_erased items _) (Nat.le_succ_of_le hs1)
 induction k with
 | zero=>
  intro i hk hij hno prog w A R s h
  obtain ⟨hp,g,d,tk,os⟩:=s
  obtain ⟨hl,he,h⟩:=h
  obtain rfl:i=j:=by omega
  have hl':hp.get? l=some { cls:=.type "list",dict:=none,data:=.seq items n,slots:=#[] }:=hl
  wp_walk using bg0 hl'
  rw [show items[((i:Nat):Int).toNat]? = some items[i] by simp [hj]]
  refine aV7 (he _ (aZ9 hj) prog w _ _ ?_)
  rw [hit]
  wp_walk using (bl3 hl' rfl (hz:=hs1) (_hz':=fits i)),bg0 hl'
  simpa using h
 | succ k ih=>
  intro i hk hij hno prog w A R s h
  obtain ⟨hp,g,d,tk,os⟩:=s
  obtain ⟨hl,he,h⟩:=h
  have hlt:i < items.size:=by omega
  have hl':hp.get? l=some { cls:=.type "list",dict:=none,data:=.seq items n,slots:=#[] }:=hl
  wp_walk using bg0 hl'
  rw [show items[((i:Nat):Int).toNat]? = some items[i] by simp [hlt]]
  refine aV7 (he _ (aZ9 hlt) prog w _ _ ?_)
  rw [hno i hlt (aW8 _) (by omega)]
  wp_walk
  rw [show ((i:Int)+1)=((i+1:Nat):Int) by omega]
  refine⟨bi0 plain_remove_loop _,bg1 entry_remove_loop ?_⟩
  rw [bd1 plain_remove_loop _]
  exact ih (i+1) (by omega) (by omega) (fun m hm h1 h2=>hno m hm (by omega) h2) prog w A R _ ⟨hl,he,h⟩
theorem aM4 (l:Addr) (items:Array Value) (n:Nat) (x:Value) (e:Value->Bool) (j:Nat) (hj:j < items.size) (hit:e items[j]=true) (hno:∀ m (hm:m < items.size),m < j->e items[m]=false) (hs1:items.size<=sizeLine) :
  Meets (Builtin.«list.remove» ⟨[.ref l,x],[]⟩)
   (fun A R s=>s.heap.get? l=some (seqObj "list" items n)/\(∀ y,y ∈ items->EqAt A.in1 s y x (e y))/\R (.ok (.ret .none)) { s with heap:=s.heap.update l (Obj.mapSeq fun xs=>xs.eraseIdxIfInBounds j) }):=by
 intro prog w A R s h
 obtain ⟨hp,g,d,tk,os⟩:=s
 obtain ⟨hl,he,h⟩:=h
 have hl':hp.get? l=some { cls:=.type "list",dict:=none,data:=.seq items n,slots:=#[] }:=hl
 wp_walk using bg0 hl'
 refine⟨bi0 plain_remove_loop _,bg1 entry_remove_loop ?_⟩
 rw [bd1 plain_remove_loop _]
 exact aM3 l items n x e j hj hit hs1 _ 0 rfl (bh0 _) (fun m hm _ h2=>hno m hm h2) prog w A R _ ⟨hl,he,h⟩
end
end HT
namespace PP
open PySem L2
section
variable {X : Cx} {σ : St} {H : Hp} {D : cP} {te : aC} {e : Expr} {pos : Pos}
def T3 (K:PySem.W.Frag):V->List V->Hp->VK->Prop:=fun x vs H Q=>∃ (p:Addr) (us:List V) (w:V) (ns:List Int) (rs:List (List Int)) (j:Nat),x = .ref p/\vs = [w]/\H p=some (.lst us)/\aE K (fun _=>True) H w (.tup (intz ns))/\Reps K (fun _=>True) H us (rs.map fun r=>PV.tup (intz r))/\rs[j]? = some ns/\(∀ k,k < j->rs[k]? ≠ some ns)/\us.length < 16000000/\Q .non (upd H p (.lst (us.eraseIdx j)))
theorem T4:∀ (j:Nat) {us:List V}{its:List Value},aI us its->aI (us.eraseIdx j) (its.eraseIdx j)
 | _,_,_,.nil=>.nil
 | 0,_,_,.cons _ t=>t
 | j+1,_,_,.cons r t=>.cons r (T4 j t)
theorem aM5 (hu:X.A.units+3 < cLine):oV X "list.remove" (T3 X.K):=by
 intro pins s σ H x vs v us Q I rx rv h
 obtain ⟨p,ws,w,ns,rs,j,rfl,rfl,hp,rn,rr,hj,hno,hl,q⟩:=h
 cases rx
 obtain ⟨u,rfl,ru⟩:=eQ rv
 obtain ⟨z,its,n,r,hl2,e⟩:=I.lstM hp
 have lr:=r.length
 have lp:=rr.length
 rw [aW6] at lp
 have jl:=(aW9.mp hj).1
 have hsz:sizeLine=16777216:=sizeLine_eq
 obtain ⟨f,key⟩:=P7 (A:=X.A.in1) (by show X.A.units+1+2 < cLine; omega) I ru r rn rr
 have jz:j < its.toArray.size:=by rw [aW1]; omega
 refine call_meets PySem.F.slot_list_remove ⟨_,e,rfl⟩ PySem.F.entry_list_remove (PySem.F.args_list_remove_2 _ _) (HT.aM4 p its.toArray n u f j jz ?_ ?_ (by rw [aW1]; omega)) ⟨e,fun y hy=>?_,.non,_,I.lset (its':=its.eraseIdx j) hp e ?_ (T4 j r) ?_,rfl,q⟩
 ·obtain ⟨m,hm,_,h2⟩:=key j its[j] (aW0 (by omega))
  rw [hj] at hm
  cases hm
  show f its[j]=true
  rw [h2]; exact aX3 rfl
 ·intro k hk hlt
  rw [aW1] at hk
  obtain ⟨m,hm,_,h2⟩:=key k its[k] (aW0 hk)
  show f its[k]=false
  rw [h2]
  exact aW4 fun z=>hno k hlt (by rw [hm,z])
 ·have hy:y ∈ its:=by simpa using hy
  obtain ⟨k,hk⟩:=bj4 hy
  obtain ⟨m,_,h1,_⟩:=key k y hk
  exact h1
 ·simp [Array.eraseIdxIfInBounds,jz]
  omega
 ·have:=List.length_eraseIdx_le ws j
  omega
def wS (i:Nat) (te:aC):aO:=fun D ρ=>∃ rs:List (List Int),ρ[i]? = some (some (.own (.lst (rs.map fun r=>PV.tup (intz r)))))/\te ρ fun y _=>∃ (ns:List Int) (j:Nat),y = .tup (intz ns)/\rs[j]? = some ns/\(∀ k,k < j->rs[k]? ≠ some ns)/\rs.length < 16000000/\D.nx (ρ.set i (some (.own (.lst ((rs.eraseIdx j).map fun r=>PV.tup (intz r))))))
theorem aM6 {i:Nat} (h:LS X (wS i te) D σ H):mR (oU X.K "list" (T3 X.K) (iN i) (iO (LE X te) jM)) D σ H:=by
 obtain ⟨W,ρ,D',px,⟨rs,hi,q⟩,k⟩:=h
 obtain ⟨v,ev,a,rfl,wa,us,ea,r⟩:=px.sl i _ hi
 have lr:=r.length
 rw [aW6] at lr
 refine⟨_,ev,tY (aN.of ea),W,ρ,_,px,q,?_⟩
 rintro w H1 y g s ry ⟨ns,j,rfl,hj,hno,hl,q⟩
 have ea2:=s _ _ ea
 refine⟨a,us,w,ns,rs,j,rfl,rfl,ea2,ry.same (aD.refl _) (fun _ _=>trivial),r.same s (fun _ _=>trivial),hj,hno,by omega,?_⟩
 refine k.nx W σ _ _ ((Ev.same s).trans (Ev.upd wa)) ((px.mono s).updL hi ev wa ?_) q
 have r2:=(r.same (M':=Ms X.H₀ W true) s fun _ z=>z).eraseIdx j
 rw [<- Raw.j9] at r2
 exact r2.keep (.upd ea2 rfl fun b m=>⟨iY wa m,m⟩)
theorem aM7 (i:Nat) {x:Str}{apos cpos xpos:Pos} (hu:X.A.units+3 < cLine) (he:QE X e te) (hN:X.N[i]? = some x:=by rfl) (hv:i7 X.env.scope x:=by first | exact Or.inl rfl | exact Or.inr (Or.inl rfl) | exact Or.inr (Or.inr rfl)) (hd:(x == ("__debug__" : Str))=false:=by decide) (hcd:(x == ("__classdict__" : Str))=false:=by decide)
  (hbase:attributeBase (.Name x xpos) "remove" X.env (eval (.Name x xpos) X.env)=eval (.Name x xpos) X.env:=by rfl)
  (hfew:((backTo cpos (starEach [e] X.env)).all (fun x=>!x.1) && (backToKw cpos (keywordEach [] X.env)).all (fun x=>x.1.isSome) && decide (([e]:List Expr).length+([]:List Keyword).length+(if ([]:List Keyword).isEmpty then 0 else 1) < 30))=true:=by rfl)
  (hline:(apos.endLine == cpos.line)=true:=by rfl) (hs:starEach [e] X.env=(false,eval e X.env) :: starEach [] X.env:=by rfl) (hplain:(backTo cpos (starEach [] X.env)).any (·.1)=false:=by rfl)
  (hsw:swapsWith (.Call (.Attribute (.Name x xpos) "remove" apos) [e] [] cpos) none pos.line X.env=pure false:=by rfl) :
  QS X (.Expr (.Call (.Attribute (.Name x xpos) "remove" apos) [e] [] cpos) pos) (wS i te):=
 dZ (oJ (tJ PySem.F.plainAttrs_list PySem.F.slot_list_remove PySem.F.type_list_remove (aM5 hu) (jI hN hv hd hcd) (fW he iP hs) hbase hfew hline hs hplain) hsw) fun _ _ _=>aM6
end
end PP
namespace Core
open PySem L2 PP
structure Bx where
 t:Int
 l:Int
 b:Int
 r:Int
deriving DecidableEq
def Bx.k (x:Bx):List Int:=[x.t,x.l,x.b,x.r]
theorem Bx.k_inj {x y:Bx} (h:x.k=y.k):x=y:=by
 obtain ⟨a,b,c,d⟩:=x
 obtain ⟨a',b',c',d'⟩:=y
 unfold Bx.k at h
 simp only [List.cons.injEq,and_true] at h
 obtain ⟨rfl,rfl,rfl,rfl⟩:=h
 rfl
def jD (s e s' e':Int):Int:=max 0 (max (s' - e) (s - e'))
def bJ (x y:Bx):Bool:=decide (jD x.t x.b y.t y.b+jD x.l x.r y.l y.r<=2)
def bP (x y:Bx):Bx:=⟨min x.t y.t,min x.l y.l,max x.b y.b,max x.r y.r⟩
def okX (x:Bx):Prop:=x.t<=x.b/\x.l<=x.r
def cK (x:Bx) (p:Int × Int):Prop:=x.t<=p.1/\p.1<=x.b/\x.l<=p.2/\p.2<=x.r
def bB (x y:Bx):Prop:=y.t<=x.t/\y.l<=x.l/\x.b<=y.b/\x.r<=y.r
def cX (p:Int × Int):Bx:=⟨p.1,p.2,p.1,p.2⟩
def rQ (x a:Int × Int):Prop:=(a.1=x.1/\(a.2=x.2 - 1 ∨ a.2=x.2+1)) ∨ (a.2=x.2/\(a.1=x.1 - 1 ∨ a.1=x.1+1))
theorem iJ {a b:Int × Int} (h:a.1 ≠ b.1 ∨ a.2 ≠ b.2):a ≠ b:=fun e=>by subst e; exact h.elim (fun z=>z rfl) fun z=>z rfl
theorem T5 (s e s' e':Int):0<=jD s e s' e'/\s' - e<=jD s e s' e'/\s - e'<=jD s e s' e':=
 ⟨Int.le_max_left ..,ba9 (Int.le_max_left ..) (Int.le_max_right ..),ba9 (Int.le_max_right ..) (Int.le_max_right ..)⟩
theorem T6 {s e s' e' g:Int} (h0:0<=g) (h1:s' - e<=g) (h2:s - e'<=g):jD s e s' e'<=g:=Int.max_le.mpr ⟨h0,Int.max_le.mpr ⟨h1,h2⟩⟩
theorem T7 {x y:Bx} (h:bJ x y=true):∃ g h:Int,0<=g/\0<=h/\g+h<=2/\y.t - x.b<=g/\x.t - y.b<=g/\y.l - x.r<=h/\x.l - y.r<=h:=
 have a:=T5 x.t x.b y.t y.b
 have b:=T5 x.l x.r y.l y.r
 ⟨_,_,a.1,b.1,of_decide_eq_true h,a.2.1,a.2.2,b.2.1,b.2.2⟩
theorem T8 {x y:Bx}{g h:Int} (g0:0<=g) (h0:0<=h) (gh:g+h<=2) (a1:y.t - x.b<=g) (a2:x.t - y.b<=g) (b1:y.l - x.r<=h) (b2:x.l - y.r<=h):bJ x y=true:=
 aX3 (ba9 (Int.add_le_add (T6 g0 a1 a2) (T6 h0 b1 b2)) gh)
theorem o7 (x y:Bx):bJ x y=bJ y x:=by
 have go:∀ x y:Bx,bJ x y=true->bJ y x=true:=fun x y h=>by
  obtain ⟨g,h,g0,h0,gh,a1,a2,b1,b2⟩:=T7 h
  exact T8 g0 h0 gh a2 a1 b2 b1
 exact bf0.mpr ⟨go x y,go y x⟩
theorem aM8 {x y:Bx}{p:Int × Int} (h1:cK x p) (h2:cK y p):bJ x y=true:=
 T8 (g:=0) (h:=0) (aW5 _) (aW5 _) (by decide) (Int.sub_nonpos_of_le (ba9 h2.1 h1.2.1)) (Int.sub_nonpos_of_le (ba9 h1.1 h2.2.1)) (Int.sub_nonpos_of_le (ba9 h2.2.2.1 h1.2.2.2)) (Int.sub_nonpos_of_le (ba9 h1.2.2.1 h2.2.2.2))
theorem rR (x y:Bx):bB x (bP x y):=⟨Int.min_le_left ..,Int.min_le_left ..,Int.le_max_left ..,Int.le_max_left ..⟩
theorem wT (x y:Bx):bB y (bP x y):=⟨Int.min_le_right ..,Int.min_le_right ..,Int.le_max_right ..,Int.le_max_right ..⟩
theorem aM9 {x y z:Bx} (h:bB x z) (h':bB y z):bB (bP x y) z:=⟨Int.le_min.mpr ⟨h.1,h'.1⟩,Int.le_min.mpr ⟨h.2.1,h'.2.1⟩,Int.max_le.mpr ⟨h.2.2.1,h'.2.2.1⟩,Int.max_le.mpr ⟨h.2.2.2,h'.2.2.2⟩⟩
theorem bB.in_ {x y:Bx} (s:bB x y) {p:Int × Int} (h:cK x p):cK y p:=⟨ba9 s.1 h.1,ba9 h.2.1 s.2.2.1,ba9 s.2.1 h.2.2.1,ba9 h.2.2.2 s.2.2.2⟩
theorem bB.refl (x:Bx):bB x x:=⟨aW5 _,aW5 _,aW5 _,aW5 _⟩
theorem bB.trans {x y z:Bx} (h:bB x y) (h':bB y z):bB x z:=⟨ba9 h'.1 h.1,ba9 h'.2.1 h.2.1,ba9 h.2.2.1 h'.2.2.1,ba9 h.2.2.2 h'.2.2.2⟩
theorem aN0 {x y:Bx} (h:okX x):okX (bP x y):=
 have s:=rR x y
 ⟨ba9 s.1 (ba9 h.1 s.2.2.1),ba9 s.2.1 (ba9 h.2 s.2.2.2)⟩
theorem aN1 (x y:Bx):bP x y=bP y x:=by unfold bP; rw [Int.min_comm x.t,Int.min_comm x.l,Int.max_comm x.b,Int.max_comm x.r]
theorem aN2 {x y:Bx}{p:Int × Int} (h:cK x p):cK (bP x y) p:=(rR x y).in_ h
theorem wU {x y:Bx}{p:Int × Int} (h:cK y p):cK (bP x y) p:=(wT x y).in_ h
def gM (B:Bx) (U:Int × Int->Prop):Prop:=∀ x a b,cK B x->rQ x a->rQ x b->a ≠ b->U a->U b->U x
def cS (U:Int × Int->Prop) (x:Bx):Prop:=∀ p,cK x p->U p
theorem aN3 {U:Int × Int->Prop}{x y:Bx} (f:cS U y) (s:bB x y):cS U x:=fun p h=>f p (s.in_ h)
section
variable {B : Bx} {U : Int × Int → Prop}
theorem aN4 (cl:gM B U) {y y' l r c0:Int} (hy:y'=y - 1 ∨ y'=y+1) (bd:∀ c,l<=c->c<=r->cK B (y,c)) (f:∀ c,l<=c->c<=r->U (y',c)) (h0:l<=c0/\c0<=r) (u0:U (y,c0)):∀ (n:Nat) (c:Int),l<=c->c<=r->(c - c0).natAbs=n->U (y,c):=by
 have ny:y ≠ y':=by omega
 intro n
 induction n with
 | zero=>intro c h1 h2 h3; rw [show c=c0 by omega]; exact u0
 | succ n ih=>
  intro c h1 h2 h3
  have go:∀ d:Int,(d=c - 1 ∨ d=c+1)->l<=d->d<=r->(d - c0).natAbs=n->U (y,c):=fun d hd g1 g2 g3=>
   cl (y,c) (y,d) (y',c) (bd c h1 h2) (.inl ⟨rfl,hd⟩) (.inr ⟨rfl,hy⟩) (iJ (.inl ny)) (ih d g1 g2 g3) (f c h1 h2)
  by_cases g:c0 < c
  ·exact go (c - 1) (.inl rfl) (by omega) (by omega) (by omega)
  ·exact go (c+1) (.inr rfl) (by omega) (by omega) (by omega)
theorem aN5 (cl:gM B U) {y y' l r c0:Int} (hy:y'=y - 1 ∨ y'=y+1) (bd:∀ c,l<=c->c<=r->cK B (c,y)) (f:∀ c,l<=c->c<=r->U (c,y')) (h0:l<=c0/\c0<=r) (u0:U (c0,y)):∀ (n:Nat) (c:Int),l<=c->c<=r->(c - c0).natAbs=n->U (c,y):=by
 have ny:y ≠ y':=by omega
 intro n
 induction n with
 | zero=>intro c h1 h2 h3; rw [show c=c0 by omega]; exact u0
 | succ n ih=>
  intro c h1 h2 h3
  have go:∀ d:Int,(d=c - 1 ∨ d=c+1)->l<=d->d<=r->(d - c0).natAbs=n->U (c,y):=fun d hd g1 g2 g3=>
   cl (c,y) (d,y) (c,y') (bd c h1 h2) (.inr ⟨rfl,hd⟩) (.inl ⟨rfl,hy⟩) (iJ (.inr ny)) (ih d g1 g2 g3) (f c h1 h2)
  by_cases g:c0 < c
  ·exact go (c - 1) (.inl rfl) (by omega) (by omega) (by omega)
  ·exact go (c+1) (.inr rfl) (by omega) (by omega) (by omega)
variable {t l b r : Int}
theorem T9 (cl:gM B U) (f:cS U ⟨t,l,b,r⟩) {y y' c0:Int} (hy:y'=y - 1 ∨ y'=y+1) (h1:t<=y'/\y'<=b) (u:U (y,c0)) (h2:l<=c0/\c0<=r) {R:Bx} (s:bB R B) (hl:R.l=l) (hr:R.r=r) (iy:R.t<=y/\y<=R.b) (old:∀ q:Int × Int,cK R q->q.1 ≠ y->t<=q.1/\q.1<=b):cS U R:=by
 intro q hq
 have a3:l<=q.2:=hl ▸ hq.2.2.1
 have a4:q.2<=r:=hr ▸ hq.2.2.2
 by_cases e:q.1=y
 ·have:=aN4 cl hy (fun c g1 g2=>s.in_ ⟨iy.1,iy.2,hl.symm ▸ g1,hr.symm ▸ g2⟩) (fun c g1 g2=>f (y',c) ⟨h1.1,h1.2,g1,g2⟩) h2 u _ q.2 a3 a4 rfl
  rw [show q=(y,q.2) from Prod.ext e rfl]; exact this
 ·have o:=old q hq e
  exact f q ⟨o.1,o.2,a3,a4⟩
theorem U0 (cl:gM B U) (f:cS U ⟨t,l,b,r⟩) {y y' c0:Int} (hy:y'=y - 1 ∨ y'=y+1) (h1:l<=y'/\y'<=r) (u:U (c0,y)) (h2:t<=c0/\c0<=b) {R:Bx} (s:bB R B) (ht:R.t=t) (hb:R.b=b) (iy:R.l<=y/\y<=R.r) (old:∀ q:Int × Int,cK R q->q.2 ≠ y->l<=q.2/\q.2<=r):cS U R:=by
 intro q hq
 have a3:t<=q.1:=ht ▸ hq.1
 have a4:q.1<=b:=hb ▸ hq.2.1
 by_cases e:q.2=y
 ·have:=aN5 cl hy (fun c g1 g2=>s.in_ ⟨ht.symm ▸ g1,hb.symm ▸ g2,iy.1,iy.2⟩) (fun c g1 g2=>f (c,y') ⟨g1,g2,h1.1,h1.2⟩) h2 u _ q.1 a3 a4 rfl
  rw [show q=(q.1,y) from Prod.ext rfl e]; exact this
 ·have o:=old q hq e
  exact f q ⟨a3,a4,o.1,o.2⟩
theorem rS (cl:gM B U) (f:cS U ⟨t,l,b,r⟩) (tb:t<=b) {c0:Int} (u:U (b+1,c0)) (h2:l<=c0/\c0<=r) (s:bB ⟨t,l,b+1,r⟩ B):cS U ⟨t,l,b+1,r⟩:=
 T9 cl f (y:=b+1) (y':=b) (.inl (by omega)) ⟨tb,aW5 _⟩ u h2 s rfl rfl ⟨by show t<=b+1; omega,aW5 _⟩ fun q hq ne=>⟨hq.1,by have:q.1<=b+1:=hq.2.1; omega⟩
theorem rT (cl:gM B U) (f:cS U ⟨t,l,b,r⟩) (tb:t<=b) {c0:Int} (u:U (t - 1,c0)) (h2:l<=c0/\c0<=r) (s:bB ⟨t - 1,l,b,r⟩ B):cS U ⟨t - 1,l,b,r⟩:=
 T9 cl f (y:=t - 1) (y':=t) (.inr (by omega)) ⟨aW5 _,tb⟩ u h2 s rfl rfl ⟨aW5 _,by show t - 1<=b; omega⟩ fun q hq ne=>⟨by have:t - 1<=q.1:=hq.1; omega,hq.2.1⟩
theorem wV (cl:gM B U) (f:cS U ⟨t,l,b,r⟩) (lr:l<=r) {c0:Int} (u:U (c0,r+1)) (h2:t<=c0/\c0<=b) (s:bB ⟨t,l,b,r+1⟩ B):cS U ⟨t,l,b,r+1⟩:=
 U0 cl f (y:=r+1) (y':=r) (.inl (by omega)) ⟨lr,aW5 _⟩ u h2 s rfl rfl ⟨by show l<=r+1; omega,aW5 _⟩ fun q hq ne=>⟨hq.2.2.1,by have:q.2<=r+1:=hq.2.2.2; omega⟩
theorem wW (cl:gM B U) (f:cS U ⟨t,l,b,r⟩) (lr:l<=r) {c0:Int} (u:U (c0,l - 1)) (h2:t<=c0/\c0<=b) (s:bB ⟨t,l - 1,b,r⟩ B):cS U ⟨t,l - 1,b,r⟩:=
 U0 cl f (y:=l - 1) (y':=l) (.inr (by omega)) ⟨aW5 _,lr⟩ u h2 s rfl rfl ⟨aW5 _,by show l - 1<=r; omega⟩ fun q hq ne=>⟨by have:l - 1<=q.2:=hq.2.2.1; omega,hq.2.2.2⟩
def jE (B:Bx) (U:Int × Int->Prop) (R:Bx) (p:Int × Int):Prop:=∃ R',okX R'/\bB R R'/\cK R' p/\bB R' B/\cS U R'
theorem jE.step {R R1:Bx}{p:Int × Int} (s:bB R R1) (h:jE B U R1 p):jE B U R p:=by
 obtain ⟨R',h1,h2,h3,h4,h5⟩:=h
 exact⟨R',h1,s.trans h2,h3,h4,h5⟩
section
variable (cl : gM B U) {p1 p2 : Int} (u : U (p1, p2)) (ip : cK B (p1, p2))
include cl u ip
theorem wX (f:cS U ⟨t,l,b,r⟩) (tb:t<=b) (lr:l<=r) (s:bB ⟨t,l,b,r⟩ B) (h:t<=p1/\p1<=b) (g1:p2 - r<=2) (g2:l - p2<=2):jE B U ⟨t,l,b,r⟩ (p1,p2):=by
 obtain ⟨s1,s2,s3,s4⟩:=s
 obtain ⟨i1,i2,i3,i4⟩:=ip
 dsimp only at *
 by_cases a:p2<=r
 ·by_cases a':l<=p2
  ·exact⟨_,⟨tb,lr⟩,bB.refl _,⟨h.1,h.2,a',a⟩,⟨s1,s2,s3,s4⟩,f⟩
  ·have u1:U (p1,l - 1):=by
    by_cases e:p2=l - 1
    ·rw [<- e]; exact u
    ·exact cl (p1,l - 1) (p1,p2) (p1,l) ⟨i1,i2,by show B.l<=l - 1; omega,by show l - 1<=B.r; omega⟩ (.inl ⟨rfl,.inl (by show p2=l - 1 - 1; omega)⟩) (.inl ⟨rfl,.inr (by show l=l - 1+1; omega)⟩) (iJ (.inr (by show p2 ≠ l; omega))) u (f _ ⟨h.1,h.2,aW5 _,lr⟩)
   have f1:=wW cl f lr u1 h ⟨s1,by show B.l<=l - 1; omega,s3,s4⟩
   by_cases e:p2=l - 1
   ·exact⟨⟨t,l - 1,b,r⟩,⟨tb,by show l - 1<=r; omega⟩,⟨aW5 _,by show l - 1<=l; omega,aW5 _,aW5 _⟩,⟨h.1,h.2,by show l - 1<=p2; omega,a⟩,⟨s1,by show B.l<=l - 1; omega,s3,s4⟩,f1⟩
   ·have e2:p2=l - 1 - 1:=by omega
    have f2:=wW cl f1 (by omega) (c0:=p1) (by rw [<- e2]; exact u) h ⟨s1,by show B.l<=l - 1 - 1; omega,s3,s4⟩
    exact⟨⟨t,l - 1 - 1,b,r⟩,⟨tb,by show l - 1 - 1<=r; omega⟩,⟨aW5 _,by show l - 1 - 1<=l; omega,aW5 _,aW5 _⟩,⟨h.1,h.2,by show l - 1 - 1<=p2; omega,a⟩,⟨s1,by show B.l<=l - 1 - 1; omega,s3,s4⟩,f2⟩
 ·have u1:U (p1,r+1):=by
   by_cases e:p2=r+1
   ·rw [<- e]; exact u
   ·exact cl (p1,r+1) (p1,p2) (p1,r) ⟨i1,i2,by show B.l<=r+1; omega,by show r+1<=B.r; omega⟩ (.inl ⟨rfl,.inr (by show p2=r+1+1; omega)⟩) (.inl ⟨rfl,.inl (by show r=r+1 - 1; omega)⟩) (iJ (.inr (by show p2 ≠ r; omega))) u (f _ ⟨h.1,h.2,lr,aW5 _⟩)
  have f1:=wV cl f lr u1 h ⟨s1,s2,s3,by show r+1<=B.r; omega⟩
  by_cases e:p2=r+1
  ·exact⟨⟨t,l,b,r+1⟩,⟨tb,by show l<=r+1; omega⟩,⟨aW5 _,aW5 _,aW5 _,by show r<=r+1; omega⟩,⟨h.1,h.2,by show l<=p2; omega,by show p2<=r+1; omega⟩,⟨s1,s2,s3,by show r+1<=B.r; omega⟩,f1⟩
  ·have e2:p2=r+1+1:=by omega
   have f2:=wV cl f1 (by omega) (c0:=p1) (by rw [<- e2]; exact u) h ⟨s1,s2,s3,by show r+1+1<=B.r; omega⟩
   exact⟨⟨t,l,b,r+1+1⟩,⟨tb,by show l<=r+1+1; omega⟩,⟨aW5 _,aW5 _,aW5 _,by show r<=r+1+1; omega⟩,⟨h.1,h.2,by show l<=p2; omega,by show p2<=r+1+1; omega⟩,⟨s1,s2,s3,by show r+1+1<=B.r; omega⟩,f2⟩
theorem aN6 (f:cS U ⟨t,l,b,r⟩) (tb:t<=b) (lr:l<=r) (s:bB ⟨t,l,b,r⟩ B) {g h:Int} (g0:0<=g) (h0:0<=h) (gh:g+h<=2) (a1:p1 - b<=g) (a2:t - p1<=g) (b1:p2 - r<=h) (b2:l - p2<=h):jE B U ⟨t,l,b,r⟩ (p1,p2):=by
 by_cases c1:p1<=b
 ·by_cases c2:t<=p1
  ·exact wX cl u ip f tb lr s ⟨c2,c1⟩ (by omega) (by omega)
  ·
   obtain ⟨s1,s2,s3,s4⟩:=s
   obtain ⟨i1,i2,i3,i4⟩:=ip
   dsimp only at *
   have go:∀ c0,U (t - 1,c0)->l<=c0/\c0<=r->p1=t - 1->jE B U ⟨t,l,b,r⟩ (p1,p2):=fun c0 u0 hc e=>
    jE.step (R1:=⟨t - 1,l,b,r⟩) ⟨by show t - 1<=t; omega,aW5 _,aW5 _,aW5 _⟩ (wX cl u ⟨i1,i2,i3,i4⟩ (rT cl f tb u0 hc ⟨by show B.t<=t - 1; omega,s2,s3,s4⟩) (by omega) lr ⟨by show B.t<=t - 1; omega,s2,s3,s4⟩ ⟨by omega,by omega⟩ (by omega) (by omega))
   by_cases e:p1=t - 1
   ·by_cases d1:p2<=r
    ·by_cases d2:l<=p2
     ·exact go p2 (by rw [<- e]; exact u) ⟨d2,d1⟩ e
     ·exact go l (cl (t - 1,l) (p1,p2) (t,l) ⟨by show B.t<=t - 1; omega,by show t - 1<=B.b; omega,s2,by show l<=B.r; omega⟩ (.inl ⟨e,.inl (by show p2=l - 1; omega)⟩) (.inr ⟨rfl,.inr (by show t=t - 1+1; omega)⟩) (iJ (.inl (by show p1 ≠ t; omega))) u (f _ ⟨aW5 _,tb,aW5 _,lr⟩)) ⟨aW5 _,lr⟩ e
    ·exact go r (cl (t - 1,r) (p1,p2) (t,r) ⟨by show B.t<=t - 1; omega,by show t - 1<=B.b; omega,by show B.l<=r; omega,s4⟩ (.inl ⟨e,.inr (by show p2=r+1; omega)⟩) (.inr ⟨rfl,.inr (by show t=t - 1+1; omega)⟩) (iJ (.inl (by show p1 ≠ t; omega))) u (f _ ⟨aW5 _,tb,lr,aW5 _⟩)) ⟨lr,aW5 _⟩ e
   ·have hc:l<=p2/\p2<=r:=⟨by omega,by omega⟩
    have e2:p1=t - 1 - 1:=by omega
    have u1:U (t - 1,p2):=cl (t - 1,p2) (p1,p2) (t,p2) ⟨by show B.t<=t - 1; omega,by show t - 1<=B.b; omega,i3,i4⟩ (.inr ⟨rfl,.inl e2⟩) (.inr ⟨rfl,.inr (by show t=t - 1+1; omega)⟩) (iJ (.inl (by show p1 ≠ t; omega))) u (f _ ⟨aW5 _,tb,hc.1,hc.2⟩)
    have f1:=rT cl f tb u1 hc ⟨by show B.t<=t - 1; omega,s2,s3,s4⟩
    have f2:=rT cl f1 (by omega) (c0:=p2) (by rw [<- e2]; exact u) hc ⟨by show B.t<=t - 1 - 1; omega,s2,s3,s4⟩
    exact⟨⟨t - 1 - 1,l,b,r⟩,⟨by show t - 1 - 1<=b; omega,lr⟩,⟨by show t - 1 - 1<=t; omega,aW5 _,aW5 _,aW5 _⟩,⟨by show t - 1 - 1<=p1; omega,c1,hc.1,hc.2⟩,⟨by show B.t<=t - 1 - 1; omega,s2,s3,s4⟩,f2⟩
 ·
  obtain ⟨s1,s2,s3,s4⟩:=s
  obtain ⟨i1,i2,i3,i4⟩:=ip
  dsimp only at *
  have go:∀ c0,U (b+1,c0)->l<=c0/\c0<=r->p1=b+1->jE B U ⟨t,l,b,r⟩ (p1,p2):=fun c0 u0 hc e=>
   jE.step (R1:=⟨t,l,b+1,r⟩) ⟨aW5 _,aW5 _,by show b<=b+1; omega,aW5 _⟩ (wX cl u ⟨i1,i2,i3,i4⟩ (rS cl f tb u0 hc ⟨s1,s2,by show b+1<=B.b; omega,s4⟩) (by omega) lr ⟨s1,s2,by show b+1<=B.b; omega,s4⟩ ⟨by omega,by omega⟩ (by omega) (by omega))
  by_cases e:p1=b+1
  ·by_cases d1:p2<=r
   ·by_cases d2:l<=p2
    ·exact go p2 (by rw [<- e]; exact u) ⟨d2,d1⟩ e
    ·exact go l (cl (b+1,l) (p1,p2) (b,l) ⟨by show B.t<=b+1; omega,by show b+1<=B.b; omega,s2,by show l<=B.r; omega⟩ (.inl ⟨e,.inl (by show p2=l - 1; omega)⟩) (.inr ⟨rfl,.inl (by show b=b+1 - 1; omega)⟩) (iJ (.inl (by show p1 ≠ b; omega))) u (f _ ⟨tb,aW5 _,aW5 _,lr⟩)) ⟨aW5 _,lr⟩ e
   ·exact go r (cl (b+1,r) (p1,p2) (b,r) ⟨by show B.t<=b+1; omega,by show b+1<=B.b; omega,by show B.l<=r; omega,s4⟩ (.inl ⟨e,.inr (by show p2=r+1; omega)⟩) (.inr ⟨rfl,.inl (by show b=b+1 - 1; omega)⟩) (iJ (.inl (by show p1 ≠ b; omega))) u (f _ ⟨tb,aW5 _,lr,aW5 _⟩)) ⟨lr,aW5 _⟩ e
  ·have hc:l<=p2/\p2<=r:=⟨by omega,by omega⟩
   have e2:p1=b+1+1:=by omega
   have u1:U (b+1,p2):=cl (b+1,p2) (p1,p2) (b,p2) ⟨by show B.t<=b+1; omega,by show b+1<=B.b; omega,i3,i4⟩ (.inr ⟨rfl,.inr e2⟩) (.inr ⟨rfl,.inl (by show b=b+1 - 1; omega)⟩) (iJ (.inl (by show p1 ≠ b; omega))) u (f _ ⟨tb,aW5 _,hc.1,hc.2⟩)
   have f1:=rS cl f tb u1 hc ⟨s1,s2,by show b+1<=B.b; omega,s4⟩
   have f2:=rS cl f1 (by omega) (c0:=p2) (by rw [<- e2]; exact u) hc ⟨s1,s2,by show b+1+1<=B.b; omega,s4⟩
   exact⟨⟨t,l,b+1+1,r⟩,⟨by show t<=b+1+1; omega,lr⟩,⟨aW5 _,aW5 _,by show b<=b+1+1; omega,aW5 _⟩,⟨by show t<=p1; omega,by show p1<=b+1+1; omega,hc.1,hc.2⟩,⟨s1,s2,by show b+1+1<=B.b; omega,s4⟩,f2⟩
end
theorem aN7 (cl:gM B U) {C:Bx} (fC:cS U C) (sC:bB C B) {p:Int × Int} (pC:cK C p):∀ (n:Nat) (t l b r:Int),cK ⟨t,l,b,r⟩ p->cS U ⟨t,l,b,r⟩->bB ⟨t,l,b,r⟩ B->(t - C.t).toNat+(l - C.l).toNat+(C.b - b).toNat+(C.r - r).toNat=n->∃ R,cS U R/\bB ⟨t,l,b,r⟩ R/\bB C R:=by
 obtain ⟨c1,c2,c3,c4⟩:=pC
 obtain ⟨d1,d2,d3,d4⟩:=sC
 intro n
 induction n with
 | zero=>
  intro t l b r pR f s h
  exact⟨_,f,bB.refl _,by show t<=C.t; omega,by show l<=C.l; omega,by show C.b<=b; omega,by show C.r<=r; omega⟩
 | succ n ih=>
  rintro t l b r ⟨a1,a2,a3,a4⟩ f ⟨s1,s2,s3,s4⟩ h
  dsimp only at a1 a2 a3 a4 s1 s2 s3 s4
  have tb:=ba9 a1 a2
  have lr:=ba9 a3 a4
  by_cases h1:C.t < t
  ·have s':bB ⟨t - 1,l,b,r⟩ B:=⟨by show B.t<=t - 1; omega,s2,s3,s4⟩
   have u:=fC (t - 1,p.2) ⟨by show C.t<=t - 1; omega,by show t - 1<=C.b; omega,c3,c4⟩
   obtain ⟨R,g1,g2,g3⟩:=ih (t - 1) l b r ⟨by show t - 1<=p.1; omega,a2,a3,a4⟩ (rT cl f tb u ⟨a3,a4⟩ s') s' (by omega)
   exact⟨R,g1,bB.trans (y:=⟨t - 1,l,b,r⟩) ⟨by show t - 1<=t; omega,aW5 _,aW5 _,aW5 _⟩ g2,g3⟩
  ·by_cases h2:C.l < l
   ·have s':bB ⟨t,l - 1,b,r⟩ B:=⟨s1,by show B.l<=l - 1; omega,s3,s4⟩
    have u:=fC (p.1,l - 1) ⟨c1,c2,by show C.l<=l - 1; omega,by show l - 1<=C.r; omega⟩
    obtain ⟨R,g1,g2,g3⟩:=ih t (l - 1) b r ⟨a1,a2,by show l - 1<=p.2; omega,a4⟩ (wW cl f lr u ⟨a1,a2⟩ s') s' (by omega)
    exact⟨R,g1,bB.trans (y:=⟨t,l - 1,b,r⟩) ⟨aW5 _,by show l - 1<=l; omega,aW5 _,aW5 _⟩ g2,g3⟩
   ·by_cases h3:b < C.b
    ·have s':bB ⟨t,l,b+1,r⟩ B:=⟨s1,s2,by show b+1<=B.b; omega,s4⟩
     have u:=fC (b+1,p.2) ⟨by show C.t<=b+1; omega,by show b+1<=C.b; omega,c3,c4⟩
     obtain ⟨R,g1,g2,g3⟩:=ih t l (b+1) r ⟨a1,by show p.1<=b+1; omega,a3,a4⟩ (rS cl f tb u ⟨a3,a4⟩ s') s' (by omega)
     exact⟨R,g1,bB.trans (y:=⟨t,l,b+1,r⟩) ⟨aW5 _,aW5 _,by show b<=b+1; omega,aW5 _⟩ g2,g3⟩
    ·have h4:r < C.r:=by omega
     have s':bB ⟨t,l,b,r+1⟩ B:=⟨s1,s2,s3,by show r+1<=B.r; omega⟩
     have u:=fC (p.1,r+1) ⟨c1,c2,by show C.l<=r+1; omega,by show r+1<=C.r; omega⟩
     obtain ⟨R,g1,g2,g3⟩:=ih t l b (r+1) ⟨a1,a2,a3,by show p.2<=r+1; omega⟩ (wV cl f lr u ⟨a1,a2⟩ s') s' (by omega)
     exact⟨R,g1,bB.trans (y:=⟨t,l,b,r+1⟩) ⟨aW5 _,aW5 _,aW5 _,by show r<=r+1; omega⟩ g2,g3⟩
theorem U1 {a b c d g:Int} (ab:a<=b) (cd:c<=d) (g0:0<=g) (h1:c - b<=g) (h2:a - d<=g):∃ p,c<=p/\p<=d/\p - b<=g/\a - p<=g:=by
 by_cases e1:a<=c
 ·exact⟨c,aW5 _,cd,h1,by omega⟩
 ·by_cases e2:a<=d
  ·exact⟨a,by omega,e2,by omega,by omega⟩
  ·exact⟨d,cd,aW5 _,by omega,h2⟩
theorem aN8 {A C:Bx} (okA:okX A) (okC:okX C) (nr:bJ A C=true) (cl:gM (bP A C) U) (fA:cS U A) (fC:cS U C):cS U (bP A C):=by
 obtain ⟨g,h,g0,h0,gh,a1,a2,b1,b2⟩:=T7 nr
 obtain ⟨p1,q1,q2,q3,q4⟩:=U1 okA.1 okC.1 g0 a1 a2
 obtain ⟨p2,r1,r2,r3,r4⟩:=U1 okA.2 okC.2 h0 b1 b2
 have pC:cK C (p1,p2):=⟨q1,q2,r1,r2⟩
 obtain ⟨⟨t,l,b,r⟩,k1,k2,k3,k4,k5⟩:=aN6 cl (fC _ pC) (wU pC) (t:=A.t) (l:=A.l) (b:=A.b) (r:=A.r) fA okA.1 okA.2 (rR A C) g0 h0 gh q3 q4 r3 r4
 obtain ⟨R,m1,m2,m3⟩:=aN7 cl fC (wT A C) pC _ t l b r k3 k5 k4 rfl
 exact aN3 m1 (aM9 (bB.trans k2 m2) m3)
end
abbrev bF:=Int × Int
inductive hZ (B:Bx) (S:bF->Prop):bF->Prop
 | seed {x:bF}:S x->hZ B S x
 | kin {x a b:bF}:cK B x->rQ x a->rQ x b->a ≠ b->hZ B S a->hZ B S b->hZ B S x
theorem hZ.clo {B B':Bx}{S:bF->Prop} (s:bB B' B):gM B' (hZ B S):=fun x a b h1 h2 h3 h4 h5 h6=>.kin (s.in_ h1) h2 h3 h4 h5 h6
theorem hZ.mono {B B':Bx}{S S':bF->Prop} (s:bB B B') (h:∀ x,S x->S' x) {x:bF} (b:hZ B S x):hZ B' S' x:=by
 induction b with
 | seed z=>exact .seed (h _ z)
 | kin h1 h2 h3 h4 _ _ i1 i2=>exact .kin (s.in_ h1) h2 h3 h4 i1 i2
def jF (x:Bx):Int:=(x.b - x.t+1)+(x.r - x.l+1)
structure i5 (G:List bF) (x:Bx):Prop where
 ok:okX x
 ins:∀ s ∈ G,cK x s
 full:∀ p,cK x p->hZ x (· ∈ G) p
 few:jF x<=2 * (G.length:Int)
theorem i5.cell (p:bF):i5 [p] (cX p):=by
 refine⟨by unfold okX cX; exact⟨aW5 _,aW5 _⟩,fun s hs=>?_,fun q hq=>.seed ?_,?_⟩
 ·rw [aX6.mp hs]; unfold cK cX; dsimp only; omega
 ·unfold cK cX at hq
  dsimp only at hq
  exact aX6.mpr (Prod.ext (by omega) (by omega))
 ·unfold jF cX; dsimp only; simp only [bb9]; omega
theorem aN9 {x y:Bx} (h1:okX x) (h2:okX y) (nr:bJ x y=true):jF (bP x y)<=jF x+jF y:=by
 have nr:=of_decide_eq_true nr
 unfold jD at nr; unfold okX at h1 h2; unfold jF bP; dsimp only; omega
theorem i5.hull {G G':List bF}{x y:Bx} (h:i5 G x) (h':i5 G' y) (nr:bJ x y=true):i5 (G ++ G') (bP x y):=by
 refine⟨aN0 h.ok,fun s hs=>?_,?_,?_⟩
 ·rcases bb6.mp hs with z | z
  ·exact aN2 (h.ins s z)
  ·exact wU (h'.ins s z)
 ·exact aN8 h.ok h'.ok nr (hZ.clo (bB.refl _)) (fun p hp=>(h.full p hp).mono (rR x y) fun s hs=>be5 _ hs) (fun p hp=>(h'.full p hp).mono (wT x y) fun s hs=>aZ4 _ hs)
 ·have:=aN9 h.ok h'.ok nr
  have:=h.few
  have:=h'.few
  rw [aY4]; omega
theorem i5.same {G G':List bF}{x:Bx} (h:i5 G x) (h':∀ s ∈ G',cK x s):i5 (G ++ G') x:=by
 refine⟨h.ok,fun s hs=>?_,fun p hp=>(h.full p hp).mono (bB.refl _) fun s hs=>be5 _ hs,?_⟩
 ·rcases bb6.mp hs with z | z
  ·exact h.ins s z
  ·exact h' s z
 ·have:=h.few
  rw [aY4]; omega
def eB (T:List Bx) (s:Bx × Bx):Bool:=decide (s.1 ∈ T) && (decide (s.2 ∈ T) && (HT.aK s.1.k s.2.k && bJ s.1 s.2))
def eN (T:List Bx) (s:Bx × Bx):List Bx:=(T.erase s.1).erase s.2
def iK (T:List Bx) (s:Bx × Bx):List Bx:=if bP s.1 s.2 ∈ eN T s then eN T s else eN T s ++ [bP s.1 s.2]
def eZ (s:Bx × Bx) (T:List Bx):Option (List Bx):=if eB T s=true then some (iK T s) else none
def cM (T:List Bx) (sts:List (Bx × Bx)):Option (List Bx):=sts.foldl (fun o s=>o.bind (eZ s)) (some T)
theorem o8 (T:List Bx) (sts:List (Bx × Bx)) (s:Bx × Bx):cM T (sts ++ [s])=(cM T sts).bind (eZ s):=by unfold cM; rw [List.foldl_append]; rfl
theorem U2 {T:List Bx}:∀ {a b:List (Bx × Bx)},cM T a=none->cM T (a ++ b)=none:=by
 intro a b h
 unfold cM at *
 rw [List.foldl_append,h]
 induction b with
 | nil=>rfl
 | cons x r ih=>exact ih
theorem o9 {T:List Bx}{s:Bx × Bx}:eB T s=true ↔ s.1 ∈ T/\s.2 ∈ T/\HT.aK s.1.k s.2.k=true/\bJ s.1 s.2=true:=by
 unfold eB
 simp only [bg4,aY7]
def dO (S:List bF) (T:List Bx):Prop:=∃ f:List (Bx × List bF),T=f.map (·.1)/\(∀ e ∈ f,i5 e.2 e.1)/\(f.map (·.2)).flatten.Perm S
theorem dO.init (S:List bF):dO S (S.map cX):=by
 refine⟨S.map fun p=>(cX p,[p]),by rw [ba7]; rfl,fun e he=>?_,?_⟩
 ·obtain ⟨p,_,rfl⟩:=ba1.mp he
  exact i5.cell p
 ·rw [ba7]
  have:(S.map ((·.2) ∘ fun p:bF=>(cX p,[p]))).flatten=S:=by
   induction S with
   | nil=>rfl
   | cons a r ih=>show [a] ++ _=_; rw [ih]; rfl
  rw [this]
theorem dO.perm {S:List bF}{T T':List Bx} (p:T'.Perm T) (h:dO S T):dO S T':=by
 obtain ⟨f,rfl,h1,h2⟩:=h
 obtain ⟨g,pg,rfl⟩:∃ g:List (Bx × List bF),g.Perm f/\T'=g.map (·.1):=by
  clear h1 h2
  generalize hm:f.map (·.1)=m at p
  induction p generalizing f with
  | nil=>exact⟨f,bh4 _,hm.symm⟩
  | cons x _ ih=>
   cases f with
   | nil=>cases hm
   | cons e f=>
    cases hm
    obtain ⟨g,pg,hg⟩:=ih f rfl
    exact⟨e :: g,pg.cons _,by rw [hg]; rfl⟩
  | swap x y l=>
   match f,hm with
   | e :: e' :: f,hm=>
    cases hm
    exact⟨e' :: e :: f,bm7 _ _ _,rfl⟩
  | trans _ _ ih1 ih2=>
   obtain ⟨g,pg,hg⟩:=ih2 f hm
   obtain ⟨g',pg',hg'⟩:=ih1 g hg.symm
   exact⟨g',pg'.trans pg,hg'⟩
 exact⟨g,rfl,fun e he=>h1 e (pg.mem_iff.mp he),((pg.map _).flatten).trans h2⟩
theorem dO.join {S:List bF}{x y:Bx}{T:List Bx} (h:dO S (x :: y :: T)) (nr:bJ x y=true):dO S (bP x y :: T):=by
 obtain ⟨f,e,h1,h2⟩:=h
 match f,e with
 | ex :: ey :: f,e=>
  cases e
  refine⟨(bP ex.1 ey.1,ex.2 ++ ey.2) :: f,rfl,fun e he=>?_,?_⟩
  ·rcases aW3.mp he with rfl | he
   ·exact (h1 ex aX5).hull (h1 ey (aW7 _ aX5)) nr
   ·exact h1 e (aW7 _ (aW7 _ he))
  ·have:(((bP ex.1 ey.1,ex.2 ++ ey.2) :: f).map (·.2)).flatten=((ex :: ey :: f).map (·.2)).flatten:=by
    simp only [bc2,List.flatten_cons,aY2]
   rw [this]; exact h2
theorem dO.dup {S:List bF}{x:Bx}{T:List Bx} (h:dO S (x :: T)) (hx:x ∈ T):dO S T:=by
 obtain ⟨f,e,h1,h2⟩:=h
 match f,e with
 | ex :: f,e=>
  cases e
  obtain ⟨ey,hy,e2⟩:=ba1.mp hx
  obtain ⟨a,b,rfl⟩:=List.append_of_mem hy
  refine⟨a ++ (ey.1,ey.2 ++ ex.2) :: b,by simp,fun e he=>?_,?_⟩
  ·rcases bb6.mp he with z | z
   ·exact h1 e (aW7 _ (be5 _ z))
   ·rcases aW3.mp z with rfl | z
    ·refine (h1 ey (by simp)).same fun s hs=>?_
     have e2:ey.1=ex.1:=e2
     rw [e2]
     exact (h1 ex aX5).ins s hs
    ·exact h1 e (aW7 _ (aZ4 _ (aW7 _ z)))
  ·refine List.Perm.trans ?_ h2
   simp only [aY9,bc2,List.flatten_append,List.flatten_cons]
   have p1:(ey.2 ++ ex.2 ++ (b.map (·.2)).flatten).Perm (ex.2 ++ (ey.2 ++ (b.map (·.2)).flatten)):=by
    rw [aY2]
    refine bd6.trans ?_
    rw [aY2]
    exact bk9 _ bd6
   refine (bk9 _ p1).trans ?_
   rw [<- aY2,<- aY2 ex.2]
   exact List.Perm.append_right _ bd6
theorem wY {x y:Bx} (h:HT.aK x.k y.k=true):x ≠ y:=fun e=>by
 subst e
 have:=kD h
 rw [h] at this; cases this
theorem wZ {T:List Bx}{s:Bx × Bx} (ok:eB T s=true):T.Perm (s.1 :: s.2 :: eN T s):=by
 obtain ⟨h1,h2,h3,_⟩:=o9.mp ok
 have:s.2 ∈ T.erase s.1:=(List.mem_erase_of_ne (wY h3).symm).mpr h2
 exact (List.perm_cons_erase h1).trans ((List.perm_cons_erase this).cons _)
theorem dO.step {S:List bF}{T:List Bx}{s:Bx × Bx} (h:dO S T) (ok:eB T s=true):dO S (iK T s):=by
 have h2:=(h.perm (wZ ok).symm).join (o9.mp ok).2.2.2
 unfold iK
 by_cases e:bP s.1 s.2 ∈ eN T s
 ·rw [if_pos e]; exact h2.dup e
 ·rw [if_neg e]; exact h2.perm (bd6 (l₁:=eN T s) (l₂:=[bP s.1 s.2]))
theorem aO0 {T:List Bx}{s:Bx × Bx} (nd:T.Nodup):(iK T s).Nodup:=by
 have:(eN T s).Nodup:=(nd.erase _).erase _
 unfold iK
 split
 ·exact this
 ·rename_i h
  exact List.nodup_append.mpr ⟨this,ba6 _ _,fun a ha b hb e=>h (by rw [<- aX6.mp hb,<- e]; exact ha)⟩
theorem oA {S:List bF} (nd:S.Nodup):∀ (sts:List (Bx × Bx)) {T:List Bx},cM (S.map cX) sts=some T->dO S T/\T.Nodup:=by
 intro sts
 rcases List.eq_nil_or_concat sts with rfl | ⟨a,s,rfl⟩
 ·intro T h
  cases h
  refine⟨dO.init S,be3.mpr (nd.imp fun {a b} ne e=>ne ?_)⟩
  unfold cX at e
  simp only [Bx.mk.injEq] at e
  exact Prod.ext e.1 e.2.1
 ·intro T h
  rw [List.concat_eq_append,o8] at h
  cases hw:cM (S.map cX) a with
  | none=>rw [hw] at h; cases h
  | some T1=>
   rw [hw] at h
   obtain ⟨o1,n1⟩:=oA nd a hw
   have h:eZ s T1=some T:=h
   unfold eZ at h
   split at h
   ·rename_i ok
    cases h
    exact⟨o1.step ok,aO0 n1⟩
   ·cases h
 termination_by sts=>sts.length
 decreasing_by subst_vars; simp
def dP (T:List Bx):Prop:=T.Pairwise fun x y=>bJ x y=false
theorem dP.eq {T:List Bx} (h:dP T) {x y:Bx} (hx:x ∈ T) (hy:y ∈ T) (nr:bJ x y=true):x=y:=by
 obtain ⟨i,hi,rfl⟩:=bd7 hx
 obtain ⟨j,hj,rfl⟩:=bd7 hy
 have pw:=ba0.mp h
 rcases Nat.lt_trichotomy i j with z | z | z
 ·rw [pw i j hi hj z] at nr; cases nr
 ·subst z; rfl
 ·rw [o7,pw j i hj hi z] at nr; cases nr
theorem dO.ok {S:List bF}{T:List Bx} (o:dO S T) {x:Bx} (hx:x ∈ T):okX x:=by
 obtain ⟨f,rfl,h1,_⟩:=o
 obtain ⟨e,he,rfl⟩:=ba1.mp hx
 exact (h1 e he).ok
theorem rV {i:Nat}{x:PV}{g:Bool}{ρ:bA}{Q:bA->Prop} (f:flat x=true) (q:Q (ρ.set i (some (.sh true x)))):dI i x g ρ Q:=by
 unfold dI
 rw [f,Bool.or_true]
 exact q
theorem mH {b:Bool}{x:PV}{P:Prop} (h:(Slot.sh b x).tag = .rd):P:=by cases b <;> cases h
abbrev bE (x:Bx):PV:=.tup (intz x.k)
abbrev aU (bs:List Bx):List PV:=eY (bs.map Bx.k)
theorem jG (x:Bx):flat (bE x)=true:=qX x.k
theorem oB {bs:List Bx}{i:Nat}{v:PV} (h:(aU bs)[i]? = some v):∃ x,v=bE x/\bs[i]? = some x:=by
 unfold aU eY at h
 rw [ba7,aY1] at h
 cases e:bs[i]? with
 | none=>rw [e] at h; cases h
 | some x=>rw [e] at h; cases h; exact⟨x,rfl,rfl⟩
theorem aO1 {bs:List Bx}{i:Nat}{x:Bx} (h:bs[i]? = some x):(aU bs)[i]? = some (bE x):=by
 unfold aU eY
 rw [ba7,aY1,h]; rfl
theorem l0 (bs:List Bx):(aU bs).length=bs.length:=by unfold aU eY; rw [aW6,aW6]
theorem U3 (bs:List Bx):flats (aU bs)=true:=L9 _
def oC:c7:=fun xs Q=>∃ a b c d:Int,xs = [.int a,.int b,.int c,.int d]/\Q (.int (jD a b c d))
def U4:aO:=(bD (aF o3 (a6 (qC (.int 0)) (a6 (fO (a5 2) (a5 1)) (a6 (fO (a5 0) (a5 3)) aA)))))
theorem aO2:dG U4 ["start","end","other_start","other_end"] oC:=by
 rintro xs Q ⟨a,b,c,d,rfl,q⟩
 exact⟨_,rfl,_,rfl,c,b,rfl,rfl,_,rfl,_,rfl,a,d,rfl,rfl,_,_,_,rfl,trivial,q⟩
def mI:c7:=fun xs Q=>∃ x y:Bx,xs = [bE x,bE y]/\Q (.bl (bJ x y))
def U5:aO:=(aG (bC 2 (aF oC (a6 (aS (a5 0) (qC (.int 0))) (a6 (aS (a5 0) (qC (.int 2))) (a6 (aS (a5 1) (qC (.int 0))) (a6 (aS (a5 1) (qC (.int 2))) aA))))))
 (aG (bC 3 (aF oC (a6 (aS (a5 0) (qC (.int 1))) (a6 (aS (a5 0) (qC (.int 3))) (a6 (aS (a5 1) (qC (.int 1))) (a6 (aS (a5 1) (qC (.int 3))) aA))))))
 (bD (qLe (dJ (a5 2) (a5 3)) (qC (.int 2))))))
theorem aO3:dG U5 ["one","other","between_rows","between_columns"] mI:=by
 rintro xs Q ⟨x,y,rfl,q⟩
 refine⟨_,rfl,_,_,_,rfl,rfl,rfl,_,rfl,_,_,_,rfl,rfl,rfl,_,rfl,_,_,_,rfl,rfl,rfl,_,rfl,_,_,_,rfl,rfl,rfl,_,_,_,_,rfl,trivial,?_⟩
 refine⟨_,rfl,_,_,_,rfl,rfl,rfl,_,rfl,_,_,_,rfl,rfl,rfl,_,rfl,_,_,_,rfl,rfl,rfl,_,rfl,_,_,_,rfl,rfl,rfl,_,_,_,_,rfl,trivial,?_⟩
 exact⟨_,rfl,_,rfl,_,_,rfl,rfl,_,_,rfl,rfl,trivial,q⟩
def mJ:c7:=fun xs Q=>∃ x y:Bx,xs = [bE x,bE y]/\Q (bE (bP x y))
def U6:aO:=(bD (bL (a6 (aF kG (a6 (aS (a5 0) (qC (.int 0))) (a6 (aS (a5 1) (qC (.int 0))) aA))) (a6 (aF kG (a6 (aS (a5 0) (qC (.int 1))) (a6 (aS (a5 1) (qC (.int 1))) aA))) (a6 (aF jP (a6 (aS (a5 0) (qC (.int 2))) (a6 (aS (a5 1) (qC (.int 2))) aA))) (a6 (aF jP (a6 (aS (a5 0) (qC (.int 3))) (a6 (aS (a5 1) (qC (.int 3))) aA))) aA))))))
theorem U7 (i j:Int):(if j < i then j else i)=min i j:=by split <;> omega
theorem U8 (i j:Int):(if j > i then j else i)=max i j:=by split <;> omega
theorem U9:dG U6 ["one","other"] mJ:=by
 rintro xs Q ⟨x,y,rfl,q⟩
 refine⟨_,rfl,_,_,_,rfl,rfl,rfl,_,rfl,_,_,_,rfl,rfl,rfl,x.t,y.t,rfl,_,rfl,_,_,_,rfl,rfl,rfl,_,rfl,_,_,_,rfl,rfl,rfl,x.l,y.l,rfl,
  _,rfl,_,_,_,rfl,rfl,rfl,_,rfl,_,_,_,rfl,rfl,rfl,x.b,y.b,rfl,_,rfl,_,_,_,rfl,rfl,rfl,_,rfl,_,_,_,rfl,rfl,rfl,x.r,y.r,rfl,by show 4<=1000; decide,rfl,trivial,?_⟩
 show Q (.tup [.int (if y.t < x.t then y.t else x.t),.int (if y.l < x.l then y.l else x.l),.int (if y.b > x.b then y.b else x.b),.int (if y.r > x.r then y.r else x.r)])
 rw [U7,U7,U8,U8]
 exact q
def mK:c7:=fun xs Q=>∃ (x:PV) (ls:List (Int × Int)),xs = [x]/\(x = .tup (aZ ls) ∨ x = .lst (aZ ls))/\ls.length<=4096/\Q (.lst (aU (ls.map cX)))
def V0:aO:=(bD (jS (fM (a5 0)) [none,none] (gC 0 1) gD (bL (a6 (a5 0) (a6 (a5 1) (a6 (a5 0) (a6 (a5 1) aA)))))))
theorem aO4:dG V0 ["cells"] mK:=by
 rintro xs Q ⟨x,ls,rfl,hx,hl,q⟩
 have sx:iZ x=some (aZ ls):=by rcases hx with rfl | rfl <;> rfl
 refine⟨_,rfl,aZ ls,sx,mH,by rw [m9]; omega,fun i acc=>acc=aU ((ls.take i).map cX),rfl,?_,?_⟩
 ·rintro i v acc hv rfl
  obtain ⟨l,rfl,h⟩:=vG hv
  refine⟨_,_,rfl,?_⟩
  unfold gD
  dsimp only
  rw [if_pos rfl]
  refine⟨_,rfl,_,rfl,_,rfl,_,rfl,by show 4<=1000; decide,rfl,trivial,?_⟩
  have tk:ls.take (i+1)=ls.take i ++ [l]:=by rw [ba8,h]; rfl
  rw [tk,aY9]
  unfold aU eY
  rw [aY9,aY9]
  rfl
 ·rintro acc rfl
  rw [m9,bc9]
  exact⟨trivial,q⟩
def x3:Option Bx->PV
 | some y=>bE y
 | none=>.non
def l8:c7:=fun xs Q=>∃ (bs:List Bx) (x:Bx),xs = [.lst (aU bs),bE x]/\Q (x3 (bs.find? fun y=>bJ y x))
def V1:aO:=(aG (dX (fM (a5 0)) (dI 2)
  (bO (aW (aF mI (a6 (a5 2) (a6 (a5 1) aA)))) (jO 2) bQ))
 (bD (qC .non)))
theorem V2 {bs:List Bx}{x:Bx} (h:∀ y ∈ bs,bJ y x=false):bs.find? (fun y=>bJ y x)=none:=by
 rw [List.find?_eq_none]
 intro y hy
 rw [h y hy]; exact aY3
theorem aO5 {bs:List Bx}{x y:Bx}{i:Nat} (h:∀ z ∈ bs.take i,bJ z x=false) (hi:bs[i]? = some y) (hy:bJ y x=true):bs.find? (fun y=>bJ y x)=some y:=by
 have hl:=(aW9.mp hi).1
 have e:bs=bs.take i ++ y :: bs.drop (i+1):=by
  have:=(aZ6 i bs).symm
  rw [bi8 hl] at this
  rw [(aW9.mp hi).2] at this
  exact this
 rw [e,List.find?_append,V2 h]
 simp [hy]
theorem aO6:dG V1 ["boxes","box","other"] l8:=by
 rintro xs Q ⟨bs,x,rfl,q⟩
 refine⟨_,rfl,aU bs,rfl,mH,fun i ρ=>(∀ y ∈ bs.take i,bJ y x=false)/\∃ z,ρ = [some (.sh (flat (.lst (aU bs))) (.lst (aU bs))),some (.sh (flat (bE x)) (bE x)),z],⟨fun y hy=>(by rw [List.take_zero] at hy; cases hy),none,rfl⟩,?_,?_⟩
 ·rintro i v ρ hv ⟨hno,z,rfl⟩
  obtain ⟨y,rfl,hy⟩:=oB hv
  refine rV (jG y) ?_
  refine⟨_,rfl,_,rfl,y,x,rfl,_,rfl,?_⟩
  cases hn:bJ y x with
  | true=>
   refine b7 ⟨_,rfl,trivial,?_⟩
   rw [aO5 hno hy hn] at q
   exact q
  | false=>
   refine aY ⟨fun w hw=>?_,_,rfl⟩
   rw [ba8,hy] at hw
   rcases bb6.mp hw with g | g
   ·exact hno w g
   ·rw [show w=y by simpa using g]; exact hn
 ·rintro ρ ⟨hno,z,rfl⟩
  rw [l0,bc9] at hno
  rw [V2 hno] at q
  exact⟨trivial,q⟩
abbrev cN (s:Bx × Bx):PV:=.tup [bE s.1,bE s.2]
theorem l9 (s:Bx × Bx):flat (cN s)=true:=by
 show (flat (bE s.1) && (flat (bE s.2) && true))=true
 rw [jG,jG]; rfl
def b8 (T:List Bx):List (List aM × PV):=T.map fun x=>(kn x.k,PV.bl true)
theorem V3 {a b:Bx} (h:kn a.k=kn b.k):a=b:=Bx.k_inj (by
 have:=congrArg (List.map fun k:aM=>match k with | .inl i=>i | .inr _=>0) h
 unfold kn at this
 rw [ba7,ba7] at this
 exact (List.map_id _).symm.trans (Eq.trans this (List.map_id _)))
theorem aO7 (T:List Bx):(b8 T).map (·.1)=(T.map Bx.k).map kn:=by unfold b8; rw [ba7,ba7]; rfl
theorem V4 (T:List Bx) (x:Bx):((b8 T).any fun p=>decide (p.1=kn x.k))=decide (x ∈ T):=by
 rw [bf0,List.any_eq_true,aY7]
 unfold b8
 refine⟨fun ⟨p,hp,e⟩=>?_,fun h=>⟨_,ba1.mpr ⟨x,h,rfl⟩,aX3 rfl⟩⟩
 obtain ⟨y,hy,rfl⟩:=ba1.mp hp
 rw [<- V3 (of_decide_eq_true e:kn y.k=kn x.k)]; exact hy
theorem rW (T:List Bx) (x:Bx):(dR (b8 T) (kn x.k)).isSome=decide (x ∈ T):=by rw [<- L7,V4]
theorem rX (T:List Bx) (x:Bx):jT (b8 T) (kn x.k) (.bl true)=b8 (if x ∈ T then T else T ++ [x]):=by
 unfold jT
 rw [V4]
 by_cases h:x ∈ T
 ·rw [aX3 h,if_pos rfl,if_pos h]
  unfold b8
  rw [ba7]
  refine List.map_congr_left fun y _=>?_
  show (if kn y.k=kn x.k then (kn y.k,PV.bl true) else (kn y.k,PV.bl true))=_
  split <;> rfl
 ·rw [aW4 h,if_neg (by decide),if_neg h]
  unfold b8
  rw [aY9]; rfl
theorem rY (T:List Bx):(b8 T).length=T.length:=by unfold b8; rw [aW6]
theorem aO8 (T:List Bx):flats ((b8 T).map (·.2))=true:=by
 unfold b8
 rw [ba7]
 induction T with
 | nil=>rfl
 | cons a r ih=>exact ih
theorem fV (l:List Int):(kn l).map kP=intz l:=by unfold kn; rw [ba7]; rfl
def rZ:c7:=fun xs Q=>∃ (T:List Bx) (s:Bx × Bx),xs = [.dT (b8 T),cN s]/\Q (.bl (eB T s))
def V5 (K:PySem.W.Frag):aO:=(aG (bO (fJ (iA (aW (uJ K "tuple" (a5 1)))) (aW (uL (aF gW (a6 (a5 1) aA)) (qC (.int 2))))) (bD (qC (.bl false))) bQ)
 (aG (bO (fJ (aW (lS true (aS (a5 1) (qC (.int 0))) (a5 0))) (aW (lS true (aS (a5 1) (qC (.int 1))) (a5 0)))) (bD (qC (.bl false))) bQ)
 (bD (lL (q2 mF (aS (a5 1) (qC (.int 0))) (aS (a5 1) (qC (.int 1)))) (aF mI (a6 (aS (a5 1) (qC (.int 0))) (a6 (aS (a5 1) (qC (.int 1))) aA)))))))
theorem aO9 {K:PySem.W.Frag} (kt:PySem.W.kitOne K (.type "tuple") (.type "tuple")=some true):dG (V5 K) ["there","step"] rZ:=by
 rintro xs Q ⟨T,s,rfl,q⟩
 refine⟨_,rfl,_,_,rfl,kt,_,rfl,aY ⟨_,rfl,_,_,rfl,rfl,.inl ⟨_,_,rfl,rfl,_,rfl,aY ?_⟩⟩⟩
 refine⟨_,rfl,_,_,_,rfl,rfl,rfl,_,rfl,_,.inr ⟨b8 T,kn s.1.k,rfl,by rw [fV],rfl⟩,_,rfl,?_⟩
 show if (!(dR (b8 T) (kn s.1.k)).isSome)=true then _ else _
 rw [rW]
 by_cases h1:s.1 ∈ T
 ·rw [aX3 h1]
  refine aY ⟨_,rfl,_,_,_,rfl,rfl,rfl,_,rfl,_,.inr ⟨b8 T,kn s.2.k,rfl,by rw [fV],rfl⟩,_,rfl,?_⟩
  show if (!(dR (b8 T) (kn s.2.k)).isSome)=true then _ else _
  rw [rW]
  by_cases h2:s.2 ∈ T
  ·rw [aX3 h2]
   refine aY ⟨_,rfl,_,_,_,rfl,rfl,rfl,_,rfl,_,_,_,rfl,rfl,rfl,s.1.k,s.2.k,rfl,rfl,_,rfl,?_⟩
   unfold eB at q
   rw [aX3 h1,aX3 h2,Bool.true_and,Bool.true_and] at q
   cases hl:HT.aK s.1.k s.2.k with
   | true=>
    rw [hl,Bool.true_and] at q
    exact b7 ⟨_,rfl,_,_,_,rfl,rfl,rfl,_,rfl,_,_,_,rfl,rfl,rfl,s.1,s.2,rfl,trivial,q⟩
   | false=>
    rw [hl,bh3] at q
    exact aY ⟨trivial,q⟩
  ·rw [aW4 h2]
   unfold eB at q
   rw [aW4 h2,bh3,bf6] at q
   exact b7 ⟨trivial,q⟩
 ·rw [aW4 h1]
  unfold eB at q
  rw [aW4 h1,bh3] at q
  exact b7 (b7 ⟨trivial,q⟩)
def sA:c7:=fun xs Q=>∃ ls:List Bx,xs = [.lst (aU ls)]/\ls.Nodup/\ls.length<=4096/\Q (.dT (b8 ls))
def V6:aO:=(aG (iB 1 (qC (.dT [])))
 (aG (dX (fM (a5 0)) (dI 2)
  (lT 1 (a5 2) (qC (.bl true))))
 (jO 1)))
theorem aP0:dG V6 ["hearths","inside","hearth"] sA:=by
 rintro xs Q ⟨ls,rfl,nd,hl,q⟩
 refine⟨rfl,rfl,_,rfl,aU ls,rfl,mH,fun i ρ=>∃ y,ρ = [some (.sh (flat (.lst (aU ls))) (.lst (aU ls))),some (.own (.dT (b8 (ls.take i)))),y],⟨none,rfl⟩,?_,?_⟩
 ·rintro i y ρ hy ⟨y0,rfl⟩
  obtain ⟨l,rfl,h⟩:=oB hy
  have tk:jT (b8 (ls.take i)) (kn l.k) (.bl true)=b8 (ls.take (i+1)):=by rw [rX,if_neg (R8 nd h),ba8,h]; rfl
  refine⟨_,rfl,_,rfl,kn l.k,by rw [fV]; rfl,trivial,by rw [rY,bk1]; omega,?_⟩
  rw [tk]
  exact⟨_,rfl⟩
 ·rintro ρ ⟨y,rfl⟩
  rw [l0,bc9]
  exact⟨_,rfl,trivial,q⟩
theorem V7 {α:Type}:∀ {l:List α}{j:Nat}{x:α},l[j]? = some x->l.Perm (x :: l.eraseIdx j)
 | [],_,_,h=>by simp at h
 | a :: l,0,x,h=>by simp at h; subst h; exact bh4 _
 | a :: l,j+1,x,h=>by
  rw [ba4] at h
  exact ((V7 h).cons a).trans (bm7 _ _ _)
theorem sB {l:List Bx}{j:Nat}{x:Bx} (nd:l.Nodup) (h:l[j]? = some x):l.eraseIdx j=l.erase x:=by
 induction l generalizing j with
 | nil=>simp at h
 | cons a l ih=>
  obtain ⟨h1,h2⟩:=bl1.mp nd
  cases j with
  | zero=>simp at h; subst h; simp
  | succ j=>
   rw [ba4] at h
   have:a ≠ x:=fun e=>h1 (by rw [e]; exact bj3 h)
   rw [List.eraseIdx_cons_succ,ih h2 h,List.erase_cons_tail (by simpa using this)]
theorem V8 {α β:Type}{f:α->β}{zs:List β}{l:List α} (p:zs.Perm (l.map f)):∃ l':List α,zs=l'.map f/\l'.Perm l:=by
 generalize hm:l.map f=m at p
 induction p generalizing l with
 | nil=>exact⟨l,hm.symm,bh4 _⟩
 | cons x _ ih=>
  cases l with
  | nil=>cases hm
  | cons e l=>
   cases hm
   obtain ⟨g,hg,pg⟩:=ih rfl
   exact⟨e :: g,by rw [hg]; rfl,pg.cons _⟩
 | swap x y z=>
  match l,hm with
  | e :: e' :: l,hm=>
   cases hm
   exact⟨e' :: e :: l,rfl,bm7 _ _ _⟩
 | trans _ _ ih1 ih2=>
  obtain ⟨g,hg,pg⟩:=ih2 hm
  obtain ⟨g',hg',pg'⟩:=ih1 hg.symm
  exact⟨g',hg',pg'.trans pg⟩
theorem dP.perm {T T':List Bx} (p:T.Perm T') (h:dP T):dP T':=(p.pairwise_iff fun {x y} z=>by rw [o7]; exact z).mp h
theorem aP1 {ls:List bF} (nd:ls.Nodup):(ls.map cX).Nodup:=be3.mpr (nd.imp fun {a b} ne e=>ne (by
 unfold cX at e
 simp only [Bx.mk.injEq] at e
 exact Prod.ext e.1 e.2.1))
structure jH (ls:List bF) (sts:List (Bx × Bx)) (se more:List Bx):Prop where
 ex:∃ T,cM (ls.map cX) sts=some T/\T.Perm (se ++ more)
 far:dP se
def dA (g c:Bx):Bx × Bx:=if HT.aK c.k g.k=true then (c,g) else (g,c)
theorem V9 {g c:Bx} (ne:g ≠ c) (h:HT.aK c.k g.k=false):HT.aK g.k c.k=true:=by
 cases e:HT.aK g.k c.k with
 | true=>rfl
 | false=>exact absurd (Bx.k_inj (pD e h)) ne
theorem aP2 {g c:Bx} (h1:okX g) (h2:okX c) (ne:g ≠ c):3<=jF (bP g c):=by
 refine Classical.byContradiction fun z=>ne ?_
 obtain ⟨a,b,d,e⟩:=g
 obtain ⟨a',b',d',e'⟩:=c
 unfold jF bP at z
 unfold okX at h1 h2
 dsimp only at *
 simp only [Bx.mk.injEq]
 omega
theorem jH.step {ls:List bF}{sts:List (Bx × Bx)}{se:List Bx}{g c:Bx}{more:List bF}{j:Nat} (nd:ls.Nodup) (h:jH ls sts se (g :: more.map cX)) (hj:se[j]? = some c) (nr:bJ c g=true) :
  g ≠ c/\jH ls (sts ++ [dA g c]) (se.eraseIdx j) (bP g c :: more.map cX):=by
 obtain ⟨T,hw,pm⟩:=h.ex
 obtain ⟨ow,tnd⟩:=oA nd sts hw
 have snd:(se ++ g :: more.map cX).Nodup:=pm.nodup_iff.mp tnd
 have hc:=bj3 hj
 obtain ⟨nd1,nd2,nd3⟩:=List.nodup_append.mp snd
 have ne:g ≠ c:=fun e=>nd3 c hc g aX5 e.symm
 have gT:g ∈ T:=pm.mem_iff.mpr (by simp)
 have cT:c ∈ T:=pm.mem_iff.mpr (be5 _ hc)
 have okg:=ow.ok gT
 have okc:=ow.ok cT
 have p1:(dA g c).1=c/\(dA g c).2=g ∨ (dA g c).1=g/\(dA g c).2=c:=by unfold dA; split; exact .inl ⟨rfl,rfl⟩; exact .inr ⟨rfl,rfl⟩
 have hu:bP (dA g c).1 (dA g c).2=bP g c:=by
  rcases p1 with ⟨e1,e2⟩ | ⟨e1,e2⟩ <;> rw [e1,e2]
  exact aN1 _ _
 have ok:eB T (dA g c)=true:=by
  refine o9.mpr ⟨?_,?_,?_,?_⟩
  ·rcases p1 with ⟨e1,_⟩ | ⟨e1,_⟩ <;> rw [e1] <;> assumption
  ·rcases p1 with ⟨_,e1⟩ | ⟨_,e1⟩ <;> rw [e1] <;> assumption
  ·unfold dA
   cases hl:HT.aK c.k g.k with
   | true=>exact hl
   | false=>exact V9 ne hl
  ·rcases p1 with ⟨e1,e2⟩ | ⟨e1,e2⟩ <;> rw [e1,e2]
   ·exact nr
   ·rw [o7]; exact nr
 have pse:=V7 hj
 have cutP':(eN T (dA g c)).Perm (se.eraseIdx j ++ more.map cX):=by
  have a1:(c :: g :: eN T (dA g c)).Perm (c :: g :: (se.eraseIdx j ++ more.map cX)):=by
   have b1:(c :: g :: eN T (dA g c)).Perm T:=by
    refine List.Perm.trans ?_ (wZ ok).symm
    rcases p1 with ⟨e1,e2⟩ | ⟨e1,e2⟩ <;> rw [e1,e2]
    exact bm7 _ _ _
   refine b1.trans (pm.trans ((pse.append_right _).trans ?_))
   show (c :: (se.eraseIdx j ++ g :: more.map cX)).Perm _
   exact List.perm_middle.cons c
  exact a1.cons_inv.cons_inv
 have hn:bP g c ∉ eN T (dA g c):=fun z=>by
  rcases bb6.mp (cutP'.mem_iff.mp z) with z | z
  ·have hs:=(List.eraseIdx_sublist se j).subset z
   have okk:=okc
   unfold okX at okk
   have:bJ c (bP g c)=true:=aM8 (p:=(c.t,c.l)) (by unfold cK; dsimp only; omega) (wU (by unfold cK; dsimp only; omega))
   have e:=h.far.eq hc hs this
   have nd5:(c :: se.eraseIdx j).Nodup:=pse.nodup_iff.mp nd1
   exact (bl1.mp nd5).1 (by rw [e]; rw [e] at z; rwa [e])
  ·obtain ⟨p,_,e⟩:=ba1.mp z
   have:=aP2 okg okc ne
   rw [<- e] at this
   unfold jF cX at this
   dsimp only at this
   omega
 refine⟨ne,⟨iK T (dA g c),?_,?_⟩,h.far.sublist (List.eraseIdx_sublist se j)⟩
 ·rw [o8,hw]
  show eZ (dA g c) T=_
  unfold eZ
  rw [if_pos ok]
 ·unfold iK
  rw [hu,if_neg hn]
  refine (cutP'.append_right _).trans ?_
  rw [aY2]
  refine bk9 _ ?_
  exact bd6
theorem aP3 {α:Type}{P:List α->Prop} (h0:P []) (hs:∀ a s,P a->P (a ++ [s])) (l:List α):P l:=by
 rw [<- List.reverse_reverse l]
 induction l.reverse with
 | nil=>exact h0
 | cons x r ih=>rw [List.reverse_cons]; exact hs _ _ ih
theorem jH.len {ls:List bF}{sts:List (Bx × Bx)}:∀ {T:List Bx},cM (ls.map cX) sts=some T->T.length<=ls.length:=by
 refine aP3 (P:=fun sts=>∀ {T:List Bx},cM (ls.map cX) sts=some T->T.length<=ls.length) ?_ ?_ sts
 ·intro T h; cases h; rw [aW6]; exact aW8 _
 ·intro a s ih T h
  rw [o8] at h
  cases hw:cM (ls.map cX) a with
  | none=>rw [hw] at h; cases h
  | some T1=>
   rw [hw] at h
   have h:eZ s T1=some T:=h
   unfold eZ at h
   split at h
   ·rename_i ok
    cases h
    have:=ih hw
    have:=(wZ ok).length_eq
    rw [bb4,bb4] at this
    unfold iK
    split
    ·omega
    ·rw [aY4,bb9]; omega
   ·cases h
abbrev aH (sts:List (Bx × Bx)):List PV:=sts.map cN
theorem W0 {sts:List (Bx × Bx)}{i:Nat}{v:PV} (h:(aH sts)[i]? = some v):∃ s,v=cN s/\sts[i]? = some s:=by
 rw [aY1] at h
 cases e:sts[i]? with
 | none=>rw [e] at h; cases h
 | some x=>rw [e] at h; cases h; exact⟨x,rfl,rfl⟩
def sD:eL:=fun Ep xs Q=>∃ (r c:Int) (x:PV) (ls:List bF),xs = [.int r,.int c,x]/\(x = .tup (aZ ls) ∨ x = .lst (aZ ls))/\ls.length<=4096/\(¬ cF r c->Ep "BadBoard")/\(cF r c->¬ dN r c ls->Ep "BadSet")/\
 (cF r c->dN r c ls->∀ sts T,cM (ls.map cX) sts=some T->dP T->sts.length<=ls.length->Q (.lst (aH sts)))
def W5 (Ep:Str->Prop):aO:=(aG (iB 3 (eI aA))
 (aG (iB 4 (eI aA))
 (aG (dX (fM (aF mK (a6 (nX Ep mG (a6 (a5 0) (a6 (a5 1) (a6 (a5 2) aA)))) aA))) (dI 5)
  (aG (bC 6 (a5 5))
  (aG (bC 7 (aF l8 (a6 (a5 3) (a6 (a5 6) aA))))
  (aG (uD (aW (uM (a5 7) (qC .non)))
   (aG (kF 4 (bL (a6 (aF wQ (a6 (a5 6) (a6 (a5 7) aA))) (a6 (aF wR (a6 (a5 6) (a6 (a5 7) aA))) aA))))
   (aG (bC 6 (aF mJ (a6 (a5 6) (a6 (a5 7) aA))))
   (aG (wS 3 (a5 7))
   (bC 7 (aF l8 (a6 (a5 3) (a6 (a5 6) aA))))))))
  (kF 3 (a5 6))))))
 (jO 4))))
theorem aP4:r9 W5 ["rows","columns","seeds","settled","steps","box","growing","close"] sD:=by
 rintro Ep xs Q ⟨r,c,x,ls,rfl,hx,hl,e1,e2,q⟩
 refine⟨by show 0<=1000; decide,rfl,rfl,rfl,by show 0<=1000; decide,rfl,rfl,rfl,?_⟩
 refine⟨_,rfl,_,rfl,_,rfl,r,c,x,ls,rfl,hx,hl,e1,e2,fun ok st=>?_⟩
 have q:=q ok st
 have nd:ls.Nodup:=wJ st.1
 refine⟨_,ls,rfl,.inl rfl,hl,aU (ls.map cX),rfl,(fun z=>by cases z),fun i ρ=>∃ (se:List Bx) (sts:List (Bx × Bx)) (y5 y6 y7:Option Slot),ρ = [si r,si c,some (.sh (flat x) x),some (.own (.lst (aU se))),some (.own (.lst (aH sts))),y5,y6,y7]/\jH ls sts se ((ls.drop i).map cX)/\sts.length+se.length=i,
  ⟨[],[],none,none,none,rfl,⟨⟨_,rfl,bh4 _⟩,bh1⟩,rfl⟩,?_,?_⟩
 ·rintro i v ρ hv ⟨se,sts,y5,y6,y7,rfl,gr,cnt⟩
  obtain ⟨b,rfl,hb⟩:=oB hv
  rw [aY1] at hb
  obtain ⟨p,hp,rfl⟩:∃ p,ls[i]? = some p/\b=cX p:=by
   cases e:ls[i]? with
   | none=>rw [e] at hb; cases hb
   | some p=>rw [e] at hb; cases hb; exact⟨p,rfl,rfl⟩
  have il:=(aW9.mp hp).1
  have dr:ls.drop i=p :: ls.drop (i+1):=by rw [bi8 il,(aW9.mp hp).2]
  rw [dr,bc2] at gr
  refine rV (jG _) ?_
  refine⟨_,rfl,trivial,?_⟩
  refine⟨_,rfl,_,rfl,se,cX p,rfl,trivial,?_⟩
  refine⟨fun m ρ=>∃ (se:List Bx) (sts:List (Bx × Bx)) (g:Bx),ρ = [si r,si c,some (.sh (flat x) x),some (.own (.lst (aU se))),some (.own (.lst (aH sts))),some (.sh true (bE (cX p))),some (.sh true (bE g)),some (.sh true (x3 (se.find? fun y=>bJ y g)))]/\jH ls sts se (g :: (ls.drop (i+1)).map cX)/\sts.length+se.length=i/\m=se.length,
   ⟨_,se,sts,cX p,rfl,gr,cnt,rfl⟩,?_⟩
  rintro m ρ ⟨se,sts,g,rfl,gr,cnt,rfl⟩
  refine⟨_,rfl,rfl,_,rfl,?_⟩
  cases hf:se.find? fun y=>bJ y g with
  | none=>
   refine aY ⟨_,rfl,_,rfl,trivial,by rw [l0]; omega,?_⟩
   refine⟨se ++ [g],sts,some (.sh true (bE (cX p))),some (.sh true (bE g)),some (.sh true (x3 none)),?_,⟨?_,?_⟩,by rw [aY4,bb9]; omega⟩
   ·have:aU se ++ [bE g]=aU (se ++ [g]):=by unfold aU eY; rw [aY9,aY9]; rfl
    show [_,_,_,some (Slot.own (PV.lst (aU se ++ [bE g]))),_,_,_,_]=_
    rw [this]
   ·obtain ⟨T,hw,pm⟩:=gr.ex
    exact⟨T,hw,by rw [aY2]; exact pm⟩
   ·have hn:=List.find?_eq_none.mp hf
    refine aZ3.mpr ⟨gr.far,ba6 _ _,fun a ha b hb=>?_⟩
    rw [aX6.mp hb]
    simpa using hn a ha
  | some cl=>
   have nr:bJ cl g=true:=by simpa using List.find?_some hf
   have hc:=List.mem_of_find?_eq_some hf
   obtain ⟨j,hj⟩:=bj4 hc
   obtain ⟨ne,gr2⟩:=gr.step nd hj nr
   obtain ⟨T,hw,pm⟩:=gr.ex
   have snd:(se ++ g :: (ls.drop (i+1)).map cX).Nodup:=pm.nodup_iff.mp (oA nd sts hw).2
   have nd1:=(List.nodup_append.mp snd).1
   have il':i < 4096:=by omega
   refine b7 ⟨_,rfl,_,rfl,_,rfl,g.k,cl.k,rfl,_,rfl,_,rfl,g.k,cl.k,rfl,by show 2<=1000; decide,?_,trivial,by rw [aW6]; omega,?_⟩
   ·show (flat (.tup (intz (if HT.aK cl.k g.k=true then cl.k else g.k))) && (flat (.tup (intz (if HT.aK g.k cl.k=true then cl.k else g.k))) && true))=true
    rw [qX,qX]; rfl
   have eS:PV.tup [.tup (intz (if HT.aK cl.k g.k=true then cl.k else g.k)),.tup (intz (if HT.aK g.k cl.k=true then cl.k else g.k))]=cN (dA g cl):=by
    unfold dA
    cases hl:HT.aK cl.k g.k with
    | true=>rw [kD hl]; rfl
    | false=>rw [V9 ne hl]; rfl
   refine⟨_,rfl,_,rfl,g,cl,rfl,trivial,?_⟩
   refine⟨se.map Bx.k,rfl,_,rfl,cl.k,j,rfl,by rw [aY1,hj]; rfl,fun k hk e=>?_,by rw [aW6]; omega,?_⟩
   ·rw [aY1] at e
    cases e2:se[k]? with
    | none=>rw [e2] at e; cases e
    | some y=>
     rw [e2] at e
     have e3:=Bx.k_inj (aY5 e)
     subst e3
     have kl:=(aW9.mp e2).1
     have jl:=(aW9.mp hj).1
     have:=ba0.mp nd1 k j kl jl hk
     exact this ((aW9.mp e2).2.trans (aW9.mp hj).2.symm)
   have jl:=(aW9.mp hj).1
   have cutE:((se.map Bx.k).eraseIdx j).map (fun r=>PV.tup (intz r))=aU (se.eraseIdx j):=by
    unfold aU eY
    rw [<- Raw.j9]
   dsimp only
   rw [cutE]
   refine⟨_,rfl,_,rfl,se.eraseIdx j,bP g cl,rfl,trivial,?_⟩
   have le:(se.eraseIdx j).length+1=se.length:=by rw [List.length_eraseIdx,if_pos jl]; omega
   refine⟨(se.eraseIdx j).length,by omega,se.eraseIdx j,sts ++ [dA g cl],bP g cl,?_,gr2,by rw [aY4,bb9]; omega,rfl⟩
   show [_,_,_,_,some (Slot.own (PV.lst (aH sts ++ [PV.tup [.tup (intz (if HT.aK cl.k g.k=true then cl.k else g.k)),.tup (intz (if HT.aK g.k cl.k=true then cl.k else g.k))]]))),_,_,_]=_
   rw [eS]
   have:aH sts ++ [cN (dA g cl)]=aH (sts ++ [dA g cl]):=by unfold aH; rw [aY9]; rfl
   rw [this]; rfl
 ·rintro ρ ⟨se,sts,y5,y6,y7,rfl,gr,cnt⟩
  rw [l0,aW6] at gr cnt
  rw [List.drop_length] at gr
  obtain ⟨T,hw,pm⟩:=gr.ex
  rw [List.map_nil,bf1] at pm
  exact⟨_,rfl,trivial,q sts T hw (gr.far.perm pm.symm) (by omega)⟩
def sE:eL:=fun Ep xs Q=>∃ (r c:Int) (x:PV) (ls:List bF) (sts:List (Bx × Bx)),xs = [.int r,.int c,x,.lst (aH sts)]/\(x = .tup (aZ ls) ∨ x = .lst (aZ ls))/\ls.length<=4096/\(¬ cF r c->Ep "BadBoard")/\(cF r c->¬ dN r c ls->Ep "BadSet")/\
 (cF r c->dN r c ls->(cM (ls.map cX) sts=none->Ep "NoPaper")/\∀ T,cM (ls.map cX) sts=some T->(¬ dP T->Ep "NoPaper")/\(dP T->∀ bs:List Bx,bs.Perm T->bs.Pairwise (fun u v=>HT.aK v.k u.k=false)->Q (.lst (aU bs))))
def W6 (Ep:Str->Prop):aO:=(aG (iB 4 (aF sA (a6 (aF mK (a6 (nX Ep mG (a6 (a5 0) (a6 (a5 1) (a6 (a5 2) aA)))) aA)) aA)))
 (aG (dX (fM (a5 3)) (dI 5)
  (aG (bO (iA (aW (aF rZ (a6 (a5 4) (a6 (a5 5) aA))))) (mB Ep "NoPaper" (a6 (qC (.str "a step is of two near boxes that are there, the lesser first")) aA)) bQ)
  (aG (mE 4 (aS (a5 5) (qC (.int 0))))
  (aG (mE 4 (aS (a5 5) (qC (.int 1))))
  (lT 4 (aF mJ (a6 (aS (a5 5) (qC (.int 0))) (a6 (aS (a5 5) (qC (.int 1))) aA))) (qC (.bl true)))))))
 (aG (bC 6 (aF wN (a6 (a5 4) aA)))
 (aG (dX (vO (a5 6)) (gC 7 8)
  (bO (aW (uM (aF l8 (a6 (gG (a5 6) gE (gF (a5 7))) (a6 (a5 8) aA))) (qC .non))) (mB Ep "NoPaper" (a6 (qC (.str "near boxes are left behind the last step")) aA)) bQ))
 (jO 6)))))
theorem sF (T:List Bx) (j:Nat):(b8 T).eraseIdx j=b8 (T.eraseIdx j):=by unfold b8; rw [Raw.j9]
theorem sG {T:List Bx}{j:Nat}{x:Bx} (h:((b8 T).map (·.1))[j]? = some (kn x.k)):T[j]? = some x:=by
 unfold b8 at h
 rw [ba7,aY1] at h
 cases e:T[j]? with
 | none=>rw [e] at h; cases h
 | some y=>rw [e] at h; rw [V3 (aY5 h)]
theorem sH {T:List Bx}{x:Bx} (h:x ∈ T):∃ j:Nat,((b8 T).map (·.1))[j]? = some (kn x.k):=by
 obtain ⟨j,hj⟩:=bj4 h
 refine⟨j,?_⟩
 unfold b8
 rw [ba7,aY1,hj]; rfl
theorem aP5:r9 W6 ["rows","columns","seeds","steps","there","step","boxes","turn","box"] sE:=by
 rintro Ep xs Q ⟨r,c,x,ls,sts,rfl,hx,hl,e1,e2,q⟩
 refine⟨_,rfl,_,rfl,_,rfl,r,c,x,ls,rfl,hx,hl,e1,e2,fun ok st=>?_⟩
 obtain ⟨qn,q⟩:=q ok st
 have nd:ls.Nodup:=wJ st.1
 refine⟨_,ls,rfl,.inl rfl,hl,ls.map cX,rfl,aP1 nd,by rw [aW6]; exact hl,rfl,aO8 _,?_⟩
 refine⟨_,rfl,aH sts,rfl,mH,fun i ρ=>∃ (T:List Bx) (z5:Option Slot),cM (ls.map cX) (sts.take i)=some T/\ρ = [si r,si c,some (.sh (flat x) x),some (.sh (flat (.lst (aH sts))) (.lst (aH sts))),some (.own (.dT (b8 T))),z5,none,none,none],⟨ls.map cX,none,rfl,rfl⟩,?_,?_⟩
 ·rintro i v ρ hv ⟨T,z5,hw,rfl⟩
  obtain ⟨s,rfl,hs⟩:=W0 hv
  have tk:sts.take (i+1)=sts.take i ++ [s]:=by rw [ba8,hs]; rfl
  have wn:cM (ls.map cX) (sts.take (i+1))=eZ s T:=by rw [tk,o8,hw]; rfl
  have tnd:=(oA nd _ hw).2
  have tl:=jH.len hw
  refine rV (l9 s) ?_
  refine⟨_,rfl,_,rfl,T,s,rfl,_,rfl,?_⟩
  cases hok:eB T s with
  | false=>
   refine b7 ⟨by show 1<=1000; decide,qn ?_⟩
   have:cM (ls.map cX) (sts.take (i+1))=none:=by rw [wn]; unfold eZ; rw [hok]; rfl
   have:=U2 (b:=sts.drop (i+1)) this
   rwa [aZ6] at this
  | true=>
   obtain ⟨h1,h2,h3,h4⟩:=o9.mp hok
   have ne:=wY h3
   refine aY ⟨b8 T,rfl,_,rfl,_,_,_,rfl,rfl,rfl,kn s.1.k,by rw [fV],sH h1,fun j hj=>?_⟩
   rw [sF,sB tnd (sG hj)]
   have h2':s.2 ∈ T.erase s.1:=(List.mem_erase_of_ne ne.symm).mpr h2
   refine⟨b8 (T.erase s.1),rfl,_,rfl,_,_,_,rfl,rfl,rfl,kn s.2.k,by rw [fV],sH h2',fun j hj=>?_⟩
   rw [sF,sB (tnd.erase _) (sG hj)]
   have ll:(eN T s).length<=T.length:=aZ7 (List.length_erase_le ..) (List.length_erase_le ..)
   refine⟨b8 (eN T s),rfl,_,rfl,_,_,_,rfl,rfl,rfl,_,rfl,_,_,_,rfl,rfl,rfl,s.1,s.2,rfl,kn (bP s.1 s.2).k,by rw [fV],trivial,by rw [rY]; omega,?_⟩
   rw [rX]
   refine⟨iK T s,some (.sh true (cN s)),?_,rfl⟩
   rw [wn]
   unfold eZ
   rw [if_pos hok]
 ·rintro ρ ⟨T,z5,hw,rfl⟩
  rw [aW6,bc9] at hw
  obtain ⟨q1,q2⟩:=q T hw
  refine⟨_,rfl,b8 T,T.map Bx.k,rfl,aO7 T,fun k hk=>?_,fun ms pm so=>⟨trivial,?_⟩⟩
  ·obtain ⟨b,_,rfl⟩:=ba1.mp hk
   unfold Bx.k
   exact List.cons_ne_nil _ _
  obtain ⟨bs,rfl,pb⟩:=V8 pm
  rw [be3] at so
  refine⟨_,rfl,aU bs,.inl rfl,(fun z=>by cases z),fun i ρ=>∃ z7 z8:Option Slot,dP (bs.take i)/\ρ = [si r,si c,some (.sh (flat x) x),some (.sh (flat (.lst (aH sts))) (.lst (aH sts))),some (.own (.dT (b8 T))),z5,some (.sh true (.lst (aU bs))),z7,z8],⟨none,none,by rw [List.take_zero]; exact bh1,rfl⟩,?_,?_⟩
  ·rintro i v ρ hv ⟨z7,z8,far,rfl⟩
   obtain ⟨w,hw2,rfl⟩:=aC2 hv
   obtain ⟨b,rfl,hb⟩:=oB hw2
   have tk:bs.take (i+1)=bs.take i ++ [b]:=by rw [ba8,hb]; rfl
   refine⟨_,_,rfl,?_⟩
   have cut:fN (aU bs) none (some (i:Int))=aU (bs.take i):=by
    rw [vQ (by omega)]
    unfold aU eY
    rw [show ((i:Int)).toNat=i by omega,List.map_take,List.map_take]
   refine⟨_,rfl,_,rfl,(i:Int),rfl,aU bs,rfl,U3 bs,_,rfl,bs.take i,b,by rw [cut]; rfl,rfl,_,rfl,?_⟩
   cases hf:(bs.take i).find? fun y=>bJ y b with
   | some y=>
    refine b7 ⟨by show 1<=1000; decide,q1 fun fT=>?_⟩
    have nr:bJ y b=true:=by simpa using List.find?_some hf
    have fb:dP (bs.take (i+1)):=(fT.perm pb.symm).sublist (bl6 _ _)
    rw [tk] at fb
    have:=(aZ3.mp fb).2.2 y (List.mem_of_find?_eq_some hf) b (by simp)
    rw [nr] at this; cases this
   | none=>
    refine aY ⟨_,_,?_,rfl⟩
    have hn:=List.find?_eq_none.mp hf
    rw [tk]
    refine aZ3.mpr ⟨far,ba6 _ _,fun a ha b' hb'=>?_⟩
    rw [aX6.mp hb']
    simpa using hn a ha
  ·rintro ρ ⟨z7,z8,far,rfl⟩
   rw [vN,l0,bc9] at far
   exact⟨_,rfl,trivial,q2 (far.perm pb) bs pb so⟩
def oD:c7:=fun xs Q=>∃ x y:Bx,xs = [bE x,bE y]/\Q (.bl (bJ x y))
def W7:aO:=(aG (bC 2 (aF o3 (a6 (qC (.int 0)) (a6 (fO (aS (a5 0) (qC (.int 0))) (aS (a5 1) (qC (.int 2)))) (a6 (fO (aS (a5 1) (qC (.int 0))) (aS (a5 0) (qC (.int 2)))) aA)))))
 (bD (j5 (dJ (a5 2) (aF o3 (a6 (qC (.int 0)) (a6 (fO (aS (a5 0) (qC (.int 1))) (aS (a5 1) (qC (.int 3)))) (a6 (fO (aS (a5 1) (qC (.int 1))) (aS (a5 0) (qC (.int 3)))) aA))))) (qC (.int 3)))))
theorem aP6:dG W7 ["one","other","down"] oD:=by
 rintro xs Q ⟨x,y,rfl,q⟩
 refine⟨_,rfl,_,_,_,rfl,rfl,rfl,_,rfl,_,_,_,rfl,rfl,rfl,x.t,y.b,rfl,rfl,_,rfl,_,_,_,rfl,rfl,rfl,_,rfl,_,_,_,rfl,rfl,rfl,y.t,x.b,rfl,rfl,_,_,_,rfl,trivial,?_⟩
 refine⟨_,rfl,_,rfl,_,_,_,rfl,rfl,rfl,_,rfl,_,_,_,rfl,rfl,rfl,x.l,y.r,rfl,rfl,_,rfl,_,_,_,rfl,rfl,rfl,_,rfl,_,_,_,rfl,rfl,rfl,y.l,x.r,rfl,rfl,_,_,_,rfl,_,_,rfl,rfl,_,_,rfl,rfl,trivial,?_⟩
 have:bJ x y=decide (max 0 (max (x.t - y.b) (y.t - x.b))+max 0 (max (x.l - y.r) (y.l - x.r)) < 3):=by
  unfold bJ jD
  congr 1
  exact propext ⟨fun h=>by omega,fun h=>by omega⟩
 rw [this] at q
 exact q
theorem aP7 (x:Bx):x.k ≠ []:=List.cons_ne_nil _ _
theorem aP8 (a b:List bF):aZ a ++ aZ b=aZ (a ++ b):=by unfold aZ; rw [aY9]
theorem dN.take {r c:Int}{ls:List bF} (h:dN r c ls) (n:Nat):dN r c (ls.take n):=⟨h.1.sublist (bl6 _ _),fun l hl=>h.2 l (bm0 hl)⟩
theorem aP9 {i j:Nat}{a b:Int}{g:Bool}{ρ:bA}{Q:bA->Prop} (q:Q ((ρ.set i (si a)).set j (si b))):gC i j (.tup [.int a,.int b]) g ρ Q:=by
 refine⟨_,_,rfl,?_⟩
 rw [show flat (.int a)=true from rfl,show flat (.int b)=true from rfl,Bool.or_true]
 exact q
section
variable {ns : List Int} {a r c z t l : Int} {Q : PV → Prop} (q : ∀ x : Bx, Q (bE x))
include q
end
theorem aQ0 (ls:List bF) (n:Nat):(aZ ls).take n=aZ (ls.take n):=by unfold aZ; rw [List.map_take]
def mL:c7:=fun xs Q=>∃ x y:Bx,xs = [bE x,bE y]/\Q (bE (bP x y))
def W8:aO:=(bD (bL (a6 (aF kG (a6 (aS (a5 0) (qC (.int 0))) (a6 (aS (a5 1) (qC (.int 0))) aA))) (a6 (aF kG (a6 (aS (a5 0) (qC (.int 1))) (a6 (aS (a5 1) (qC (.int 1))) aA))) (a6 (aF jP (a6 (aS (a5 0) (qC (.int 2))) (a6 (aS (a5 1) (qC (.int 2))) aA))) (a6 (aF jP (a6 (aS (a5 0) (qC (.int 3))) (a6 (aS (a5 1) (qC (.int 3))) aA))) aA))))))
theorem aQ1:dG W8 ["one","other"] mL:=fun xs Q h=>U9 xs Q h
theorem aQ2 (bs:List Bx) (i:Nat):fN (aU bs) none (some (i:Int))=aU (bs.take i):=by
 rw [vQ (by omega)]
 unfold aU eY
 rw [show ((i:Int)).toNat=i by omega,List.map_take,List.map_take]
theorem aQ3 (T:List Bx):((b8 T).map fun p=>PV.tup (p.1.map kP))=aU T:=by
 unfold b8 aU eY
 rw [ba7,ba7]
 refine List.map_congr_left fun x _=>?_
 show PV.tup ((kn x.k).map kP)=_
 rw [fV]; rfl
theorem dB:∀ sts:List (Bx × Bx),flats (aH sts)=true
 | []=>rfl
 | s :: r=>by
  show (flat (cN s) && flats (aH r))=true
  rw [l9,dB r]; rfl
theorem oE {f:PV->PV->Bool}:∀ {xs:List PV},(∀ x ∈ xs,f x x=true)->((xs.zip xs).all fun p=>f p.1 p.2)=true
 | [],_=>rfl
 | x :: r,h=>by
  rw [bd2,bk0,h x aX5,oE fun y hy=>h y (aW7 _ hy)]; rfl
theorem W9 (s:Bx × Bx):cD 2 (cN s) (cN s)=true/\bG 2 (cN s) (cN s)=true:=by
 refine⟨oE (f:=cD 1) fun x hx=>?_,?_⟩
 ·simp only [aW3,aX2,aZ8] at hx
  rcases hx with rfl | rfl
  ·exact pQ 0 _ _
  ·exact pQ 0 _ _
 ·show ((([bE s.1,bE s.2].zip [bE s.1,bE s.2]).all fun p=>bG 1 p.1 p.2) && ([bE s.1,bE s.2].length == [bE s.1,bE s.2].length))=true
  rw [oE (f:=bG 1) fun x hx=>?_]; rfl
  simp only [aW3,aX2,aZ8] at hx
  rcases hx with rfl | rfl
  ·rw [pP 0]; exact aX3 rfl
  ·rw [pP 0]; exact aX3 rfl
theorem sJ (sts:List (Bx × Bx)):cD 3 (.lst (aH sts)) (.lst (aH sts))=true/\bG 3 (.lst (aH sts)) (.lst (aH sts))=true:=by
 refine⟨oE (f:=cD 2) fun x hx=>?_,?_⟩
 ·obtain ⟨s,_,rfl⟩:=ba1.mp hx
  exact (W9 s).1
 ·show (((aH sts).zip (aH sts)).all (fun p=>bG 2 p.1 p.2) && ((aH sts).length == (aH sts).length))=true
  rw [oE (f:=bG 2) fun x hx=>?_,bb5]; rfl
  obtain ⟨s,_,rfl⟩:=ba1.mp hx
  exact (W9 s).2
theorem aQ4 {i j:Nat}{a b:PV}{g:Bool}{ρ:bA}{Q:bA->Prop} (fa:flat a=true) (fb:flat b=true) (q:Q ((ρ.set i (some (.sh true a))).set j (some (.sh true b)))):gC i j (.tup [a,b]) g ρ Q:=by
 refine⟨_,_,rfl,?_⟩
 rw [fa,fb,Bool.or_true]
 exact q
end Core
namespace L2
open PySem PySem.Spec PyProof.Rows
def aQ5 (sp:Sp) (t:TA) (i:Nat):TB:=fun D Ex σ H=>t σ H fun vs H1=>sp vs H1 (fun v H2=>D.nx (σ.set i (some v)) H2) Ex
section
variable {X : Cx} {k : Nat} {f : Addr} {fd : FuncData} {ps : List Str} {sp : Sp} {x z : Str} {p cp pos zp : Pos} {e : Expr} {es : List Expr} {t : TA} {i : Nat}
theorem aQ6 (F:dC X.prog X.w X.K X.mg X.base (dM X.prog X.w) k f fd ps sp) (hr:bZ k X.A) (hg:Gl X x) (hm:X.mg x=some (.ref f)) (hk:PySem.W.keepIn X.K (.ref f)=true) (hb:iQ X.K fd ps []) (ha:∀ E,PA (X.wish E) (e :: es) t)
  (hN:X.N.Nodup) (hi:X.N[i]? = some z) (hz:X.env.scope.names.lookup z=some .local)
  (hdb:(x == ("__debug__" : Str))=false:=by decide) (he:starEach (e :: es) X.env=(false,eval e X.env) :: starEach es X.env:=by rfl) (hpl:(backTo cp (starEach es X.env)).any (·.1)=false:=by rfl) (hsw:swapsWith (.Call (.Name x p) (e :: es) [] cp) (some (.Name z zp)) pos.line X.env=pure false:=by rfl) :
  PB X [.Assign [.Name z zp] (.Call (.Name x p) (e :: es) [] cp) pos] (aQ5 sp t i):=by
 intro pins s σ H D Ex I h
 refine wpAny_execs_cons (wpAny_Assign_Name ?_ hsw)
 refine wpAny_Call_Name_kw (mQ I hg hm ?_ hdb)
 refine PySem.W.callWith_K (h₀:=X.base) I.ok.mod.kin hk (aQ (ha (XB X pins σ Ex) cp pins s σ H _ (I.wish _) h) fun us s1 h1=>⟨?_,?_⟩) he hpl
 ·obtain ⟨_,_,I1,_⟩:=h1
  exact I1.kIn
 ·obtain ⟨vs,H1,I1,r,q⟩:=h1
  have I1:=I1.unwish
  have hl:us.length=ps.length:=by rw [<- r.length]; exact F.len _ _ _ _ q
  have bd:=hb s1 us I1.kIn (by rw [bf1]; exact hl)
  rw [bf1] at bd
  refine wpAny_call (codeAny_mono (F.run X.A X.stack s1 H1 ⟨us,[]⟩ us vs _ Ex hr I1.env0 bd r q) fun rs s' hq=>?_)
  cases rs with
  | error ev=>exact⟨H1,s1,I1,hq⟩
  | ok fl=>
   cases fl with
   | ret u=>
    obtain ⟨v,H2,I2,rv,q2⟩:=I1.after hq
    exact oI I2 hN hi (.inl hz) rv (fun s3 I3=>wpAny_execs_nil ⟨_,H2,I3,q2⟩) (.inr hz)
   | next=>exact False.elim hq
   | brk=>exact False.elim hq
   | cont=>exact False.elim hq
end
end L2
namespace PP
open PySem L2
section
variable {X : Cx} {e : Expr} {es : List Expr} {tr : cB} {p2 cp pos zp : Pos}
def X0 (i:Nat) (p:eL) (t:cB):mC:=fun D Ep ρ=>t ρ fun xs=>p Ep (xs.map (·.1)) fun z=>D.nx (ρ.set i (some (.sh true z)))
theorem aQ7 (i:Nat) {k j:Nat}{x z:Str}{ps:List Str}{p:eL} (d:cY X.prog X.w X.K X.mg X.base k x ps p) (hr:bZ j X.A) (hN:X.N.Nodup) (ha:∀ E,QA (X.wish E) (e :: es) tr) (hkj:k<=j:=by decide) (hg:Gl X x:=by rfl) (hi:X.N[i]? = some z:=by rfl) (hz:X.env.scope.names.lookup z=some .local:=by rfl) (hdb:(x == ("__debug__" : Str))=false:=by decide)
  (he:starEach (e :: es) X.env=(false,eval e X.env) :: starEach es X.env:=by rfl) (hpl:(backTo cp (starEach es X.env)).any (·.1)=false:=by rfl) (hsw:swapsWith (.Call (.Name x p2) (e :: es) [] cp) (some (.Name z zp)) pos.line X.env=pure false:=by rfl):QB X [.Assign [.Name z zp] (.Call (.Name x p2) (e :: es) [] cp) pos] (X0 i p tr):=by
 obtain ⟨f,fd,F,b,kp,m⟩:=d.ex
 refine pbI (aQ6 (t:=LA X tr) F (hr.mono hkj) hg m kp b (fun E=>ha E) hN hi hz hdb he hpl hsw) fun D Ex σ H h=>?_
 obtain ⟨W,ρ,D',Ep,px,q,k,ke⟩:=h
 refine⟨W,ρ,_,px,q,fun vs H1 xs s1 r q1=>⟨_,_,Ep,r.any,q1,fun v H' x s2 r2 q2=>?_,fun n C H' s2 z1 z2=>ke n C H' (s1.trans s2) z1 z2⟩⟩
 have s3:=s1.trans s2
 exact k.nx W _ H' _ (Ev.same s3) ((px.mono s3).setSh (g:=true) (r2.same (aD.refl _) fun a za=>px.new (s1.free za))) q2
end
end PP
namespace Core
open PySem L2 PP
def lA (ls:List bF) (sts:List (Bx × Bx)) (bad:Prop) (good:List Bx->Prop):Prop:=(cM (ls.map cX) sts=none->bad)/\∀ T,cM (ls.map cX) sts=some T->(¬ dP T->bad)/\(dP T->∀ bs:List Bx,bs.Perm T->bs.Pairwise (fun u v=>HT.aK v.k u.k=false)->good bs)
def sK:c7:=fun xs Q=>∃ (ls:List bF) (sts:List (Bx × Bx)),xs = [.tup (aZ ls),.lst (aH sts)]/\ls.Nodup/\ls.length<=4096/\lA ls sts (Q .non) fun bs=>Q (.lst (aU bs))
def X1:aO:=(aG (dX (lP (aF gW (a6 (a5 7) aA))) (dI 8)
  (dX (fM (gG (a5 7) gE (gF (a5 8)))) (dI 6)
   (bO (aW (aF oD (a6 (aS (a5 7) (a5 8)) (a6 (a5 6) aA)))) (bD (qC .non)) bQ)))
 (jO 7))
def X2:aO:=(aG (dX (fM (a5 1)) (gC 5 6)
  (aG (bO (fJ (aW (lS true (a5 5) (a5 2))) (fJ (aW (lS true (a5 6) (a5 2))) (fJ (iA (aW (q2 mF (a5 5) (a5 6)))) (iA (aW (aF oD (a6 (a5 5) (a6 (a5 6) aA)))))))) (bD (qC .non)) bQ)
  (aG (mE 2 (a5 5))
  (aG (mE 2 (a5 6))
  (lT 2 (aF mL (a6 (a5 5) (a6 (a5 6) aA))) (qC (.bl true)))))))
 (aG (bC 7 (aF wO (a6 (aF vF (a6 (a5 2) aA)) aA)))
 X1))
def X3:aO:=(aG (iB 2 (qC (.dT [])))
 (aG (dX (fM (a5 0)) (gC 3 4)
  (lT 2 (bL (a6 (a5 3) (a6 (a5 4) (a6 (a5 3) (a6 (a5 4) aA))))) (qC (.bl true))))
 X2))
theorem aQ8 {Q:PV->Prop}{bs:List Bx}{y0 y1 y2 y3 y4 y5 y6:Option Slot} (hl:bs.length<=4096) (qb : ¬ dP bs->Q .non) (qg:dP bs->Q (.lst (aU bs))) :
  X1 { nx:=fun _=>Q .non,rt:=Q } [y0,y1,y2,y3,y4,y5,y6,some (.sh true (.lst (aU bs))),none]:=by
 have bl:=l0 bs
 refine⟨_,rfl,_,_,rfl,rfl,_,rfl,by omega,by omega,fun i ρ=>∃ (y6 y8:Option Slot),ρ = [y0,y1,y2,y3,y4,y5,y6,some (.sh true (.lst (aU bs))),y8]/\dP (bs.take i),⟨y6,none,rfl,by rw [List.take_zero]; exact bh1⟩,?_,?_⟩
 ·rintro i v ρ hv ⟨y6,y8,rfl,far⟩
  obtain ⟨rfl,hi⟩:=qW hv
  have i1:i < bs.length:=by omega
  obtain ⟨b,hb⟩:∃ b,bs[i]? = some b:=⟨_,aW0 i1⟩
  rw [show (0:Int)+(i:Int)=(i:Int) by omega]
  refine N3 ?_
  have a1:L2.atI (aU bs) (i:Int)=some (bE b):=yQ (aO1 hb)
  have tk:bs.take (i+1)=bs.take i ++ [b]:=by rw [ba8,hb]; rfl
  refine⟨_,rfl,_,rfl,(i:Int),rfl,aU bs,rfl,U3 bs,aU (bs.take i),by rw [aQ2]; rfl,(fun z=>by cases z),fun j ρ=>∃ y6:Option Slot,ρ = [y0,y1,y2,y3,y4,y5,y6,some (.sh true (.lst (aU bs))),si i]/\∀ y ∈ (bs.take i).take j,bJ y b=false,⟨y6,rfl,fun y hy=>(by rw [List.take_zero] at hy; cases hy)⟩,?_,?_⟩
  ·rintro j v ρ hv ⟨y6,rfl,no⟩
   obtain ⟨y,rfl,hy⟩:=oB hv
   refine rV (jG y) ?_
   refine⟨_,rfl,_,rfl,_,_,_,rfl,rfl,a1,_,rfl,b,y,rfl,_,rfl,?_⟩
   cases hn:bJ b y with
   | true=>
    refine b7 ⟨trivial,qb fun fb=>?_⟩
    have:=fb.sublist (bl6 (i+1) bs)
    rw [tk] at this
    have:=(aZ3.mp this).2.2 y (bj3 hy) b (by simp)
    rw [o7,hn] at this; cases this
   | false=>
    refine aY ⟨_,rfl,fun z hz=>?_⟩
    rw [ba8,hy] at hz
    rcases bb6.mp hz with g | g
    ·exact no z g
    ·rw [show z=y by simpa using g,o7]; exact hn
  ·rintro ρ ⟨y6,rfl,no⟩
   rw [l0,bc9] at no
   refine⟨_,_,rfl,?_⟩
   rw [tk]
   exact aZ3.mpr ⟨far,ba6 _ _,fun a ha c hc=>by rw [aX6.mp hc]; exact no a ha⟩
 ·rintro ρ ⟨y6,y8,rfl,far⟩
  rw [kH,show (((aU bs).length:Int)).toNat=bs.length by omega,bc9] at far
  exact⟨_,rfl,trivial,qg far⟩
theorem aQ9 {Q:PV->Prop}{ls:List bF}{sts:List (Bx × Bx)}{y0 y3 y4:Option Slot}{b1:Bool} (nd:ls.Nodup) (hl:ls.length<=4096) (jd:lA ls sts (Q .non) fun bs=>Q (.lst (aU bs))) :
  X2 { nx:=fun _=>Q .non,rt:=Q } [y0,some (.sh b1 (.lst (aH sts))),some (.own (.dT (b8 (ls.map cX)))),y3,y4,none,none,none,none]:=by
 obtain ⟨jn,js⟩:=jd
 refine⟨_,rfl,aH sts,rfl,mH,fun i ρ=>∃ (T:List Bx) (y5 y6:Option Slot),cM (ls.map cX) (sts.take i)=some T/\ρ = [y0,some (.sh b1 (.lst (aH sts))),some (.own (.dT (b8 T))),y3,y4,y5,y6,none,none],⟨ls.map cX,none,none,rfl,rfl⟩,?_,?_⟩
 ·rintro i v ρ hv ⟨T1,y5,y6,hw1,rfl⟩
  obtain ⟨s,rfl,hs⟩:=W0 hv
  have tk:sts.take (i+1)=sts.take i ++ [s]:=by rw [ba8,hs]; rfl
  have wn:cM (ls.map cX) (sts.take (i+1))=eZ s T1:=by rw [tk,o8,hw1]; rfl
  have tnd:=(oA nd _ hw1).2
  have tl:=jH.len hw1
  have bad:eB T1 s=false->Q .non:=fun hok=>by
   refine jn ?_
   have:cM (ls.map cX) (sts.take (i+1))=none:=by rw [wn]; unfold eZ; rw [hok]; rfl
   have:=U2 (b:=sts.drop (i+1)) this
   rwa [aZ6] at this
  refine aQ4 (jG _) (jG _) ?_
  refine⟨_,rfl,_,rfl,_,.inr ⟨b8 T1,kn s.1.k,rfl,by rw [fV]; rfl,rfl⟩,_,rfl,?_⟩
  show if (!(dR (b8 T1) (kn s.1.k)).isSome)=true then _ else _
  rw [rW]
  by_cases h1:s.1 ∈ T1
  ·rw [aX3 h1]
   refine aY ⟨_,rfl,_,rfl,_,.inr ⟨b8 T1,kn s.2.k,rfl,by rw [fV]; rfl,rfl⟩,_,rfl,?_⟩
   show if (!(dR (b8 T1) (kn s.2.k)).isSome)=true then _ else _
   rw [rW]
   by_cases h2:s.2 ∈ T1
   ·rw [aX3 h2]
    refine aY ⟨_,rfl,_,rfl,s.1.k,s.2.k,rfl,rfl,_,rfl,?_⟩
    cases h3:HT.aK s.1.k s.2.k with
    | false=>exact b7 (b7 ⟨trivial,bad (by unfold eB; rw [h3,bh3,bf6,bf6])⟩)
    | true=>
     refine aY ⟨_,rfl,_,rfl,s.1,s.2,rfl,_,rfl,?_⟩
     cases h4:bJ s.1 s.2 with
     | false=>exact b7 ⟨trivial,bad (by unfold eB; rw [h4,bf6,bf6,bf6])⟩
     | true=>
      have hok:=o9.mpr ⟨h1,h2,h3,h4⟩
      have ne:=wY h3
      refine aY ⟨b8 T1,rfl,_,rfl,kn s.1.k,by rw [fV]; rfl,sH h1,fun j hj=>?_⟩
      rw [sF,sB tnd (sG hj)]
      have h2':s.2 ∈ T1.erase s.1:=(List.mem_erase_of_ne ne.symm).mpr h2
      refine⟨b8 (T1.erase s.1),rfl,_,rfl,kn s.2.k,by rw [fV]; rfl,sH h2',fun j hj=>?_⟩
      rw [sF,sB (tnd.erase _) (sG hj)]
      have ll:(eN T1 s).length<=T1.length:=aZ7 (List.length_erase_le ..) (List.length_erase_le ..)
      refine⟨b8 (eN T1 s),rfl,_,rfl,_,rfl,s.1,s.2,rfl,kn (bP s.1 s.2).k,by rw [fV],trivial,by rw [rY]; omega,?_⟩
      rw [rX]
      refine⟨iK T1 s,_,_,?_,rfl⟩
      rw [wn]; unfold eZ; rw [if_pos hok]
   ·rw [aW4 h2]
    exact b7 (b7 ⟨trivial,bad (by unfold eB; rw [aW4 h2,bh3,bf6])⟩)
  ·rw [aW4 h1]
   exact b7 (b7 ⟨trivial,bad (by unfold eB; rw [aW4 h1,bh3])⟩)
 ·rintro ρ ⟨T1,y5,y6,hw1,rfl⟩
  rw [aW6,bc9] at hw1
  obtain ⟨q1,q2⟩:=js T1 hw1
  have tl:=jH.len hw1
  refine⟨_,rfl,b8 T1,rfl,T1.map Bx.k,by rw [aQ3]; rfl,by rw [aW6]; omega,fun y hy=>?_,fun Z pz so=>⟨trivial,?_⟩⟩
  ·obtain ⟨b,_,rfl⟩:=ba1.mp hy
   exact aP7 b
  obtain ⟨bs,rfl,pb⟩:=V8 pz
  rw [be3] at so
  exact aQ8 (by rw [pb.length_eq]; omega) (fun nf=>q1 fun fT=>nf (fT.perm pb.symm)) fun fb=>q2 (fb.perm pb) bs pb so
theorem aR0:dG X3 ["seeds","steps","there","row","column","one","other","boxes","k"] sK:=by
 rintro xs Q ⟨ls,sts,rfl,nd,hl,jd⟩
 refine⟨rfl,rfl,_,rfl,aZ ls,rfl,mH,fun i ρ=>∃ y3 y4,ρ = [some (.sh (flat (.tup (aZ ls))) (.tup (aZ ls))),some (.sh (flat (.lst (aH sts))) (.lst (aH sts))),some (.own (.dT (b8 ((ls.take i).map cX)))),y3,y4,none,none,none,none],⟨none,none,rfl⟩,?_,?_⟩
 ·rintro i y ρ hy ⟨y2,y3,rfl⟩
  obtain ⟨l,rfl,h⟩:=vG hy
  refine aP9 ?_
  have no:cX l ∉ (ls.take i).map cX:=fun z=>by
   obtain ⟨p,hp,e⟩:=ba1.mp z
   unfold cX at e
   simp only [Bx.mk.injEq] at e
   have:p=l:=Prod.ext e.1 e.2.1
   rw [this] at hp
   exact R8 nd h hp
  have tk:jT (b8 ((ls.take i).map cX)) (kn (cX l).k) (.bl true)=b8 ((ls.take (i+1)).map cX):=by rw [rX,if_neg no,ba8,h,aY9]; rfl
  refine⟨_,rfl,_,rfl,_,rfl,_,rfl,_,rfl,by show 4<=1000; decide,rfl,kn (cX l).k,by rw [fV]; rfl,trivial,by rw [rY,aW6,bk1]; omega,?_⟩
  rw [tk]
  exact⟨_,_,rfl⟩
 ·rintro ρ ⟨y2,y3,rfl⟩
  rw [m9,bc9]
  exact aQ9 nd hl jd
def mM:c7:=fun xs Q=>∃ (r c:Int) (v:PV) (ls:List bF) (sts:List (Bx × Bx)),xs = [.int r,.int c,v,.lst (aH sts)]/\(v = .tup (aZ ls) ∨ v = .lst (aZ ls))/\ls.length<=4096/\(¬ cF r c->Q (.tup [.str "board",.non]))/\(cF r c->¬ dN r c ls->Q (.tup [.str "set",.non]))/\
 (cF r c->dN r c ls->lA ls sts (Q (.tup [.str "paper",.non])) fun bs=>Q (.tup [.str "told",.lst (aU bs)]))
def sL:aO:=(aG (bO (aW (C4 (a5 4) (qC .non))) (bD (pJ (a6 (qC (.str "told")) (a6 (a5 5) aA)))) bQ)
 (aG (bC 7 (eI (a6 (k7 "BadBoard" (a5 4)) (a6 (k7 "BadSet" (a5 4)) (a6 (k7 "NoPaper" (a5 4)) aA)))))
 (aG (bO (fJ (iA (aW (k7 "ValueError" (a5 4)))) (aW (uL (aF qZ (a6 (jS (fM (a5 7)) [none] (dI 0) gD (aF rD (a6 (a5 0) aA))) aA)) (qC (.int 1))))) (bD (bL (a6 (qC (.str "odd")) (a6 (qC .non) aA)))) bQ)
 (bD (bL (a6 (aS (eI (a6 (qC (.str "board")) (a6 (qC (.str "set")) (a6 (qC (.str "paper")) aA)))) (rJ (a5 7) (qC (.bl true)))) (a6 (qC .non) aA)))))))
def X4:aO:=(aG (bC 4 (qC .non))
 (aG (bC 5 (qC .non))
 (aG (vU "HearthError" 6 (X0 5 sE (a6 (a5 0) (a6 (a5 1) (a6 (a5 2) (a6 (a5 3) aA))))) (bC 4 (a5 6)))
 sL)))
section
variable {Q : PV → Prop} {y0 y1 y2 y3 y5 : Option Slot}
def aR1:aO:=(aG (bO (fJ (iA (aW (k7 "ValueError" (a5 4)))) (aW (uL (aF qZ (a6 (jS (fM (a5 7)) [none] (dI 0) gD (aF rD (a6 (a5 0) aA))) aA)) (qC (.int 1))))) (bD (bL (a6 (qC (.str "odd")) (a6 (qC .non) aA)))) bQ)
 (bD (bL (a6 (aS (eI (a6 (qC (.str "board")) (a6 (qC (.str "set")) (a6 (qC (.str "paper")) aA)))) (rJ (a5 7) (qC (.bl true)))) (a6 (qC .non) aA)))))
theorem x4 {c r:Str} (hv:N9 "ValueError" (.exc c)=some true) (bs:List Bool) (hsum:(bs.map fun b=>if b then (1:Int) else 0).sum=1) (htr:true ∈ bs) (hat:L2.atI [PV.str "board",.str "set",.str "paper"] (bs.idxOf true:Nat)=some (.str r)) (hbl:bs.length<=4) (q:Q (.tup [.str r,.non])) :
  aR1 { nx:=fun _=>Q .non,rt:=Q } [y0,y1,y2,y3,some (.sh true (.exc c)),y5,none,some (.sh true (.lst (bs.map PV.bl)))]:=by
 refine⟨_,rfl,true,hv,_,rfl,aY ?_⟩
 refine⟨_,rfl,bs.map PV.bl,rfl,(fun z=>by cases z),by rw [aW6]; omega,fun i acc=>acc=intz ((bs.take i).map fun b=>if b then (1:Int) else 0),rfl,?_,?_⟩
 ·rintro i z acc hz rfl
  rw [aY1] at hz
  cases e:bs[i]? with
  | none=>rw [e] at hz; cases hz
  | some b=>
   rw [e] at hz; cases hz
   refine⟨_,rfl,.inr ⟨b,rfl,trivial,?_⟩⟩
   dsimp only
   rw [ba8,e,aY9,az1]; rfl
 rintro acc rfl
 rw [aW6,bc9]
 refine⟨_,_,rfl,rfl,.inl ⟨_,_,rfl,rfl,_,rfl,?_⟩⟩
 rw [hsum]
 refine aY ?_
 exact⟨by show 3<=1000; decide,rfl,_,rfl,bs,rfl,true,rfl,htr,by omega,_,_,_,rfl,rfl,hat,by show 2<=1000; decide,rfl,trivial,q⟩
theorem aR2 (q:Q (.tup [.str "board",.non])):sL { nx:=fun _=>Q .non,rt:=Q } [y0,y1,y2,y3,some (.sh true (.exc "BadBoard")),y5,none,none]:=by
 refine⟨_,rfl,rfl,_,rfl,aY ?_⟩
 refine⟨_,rfl,true,(by decide),_,rfl,false,(by decide),_,rfl,false,(by decide),by show 3<=1000; decide,rfl,trivial,?_⟩
 exact x4 (by decide) [true,false,false] (by decide) (by decide) rfl (by decide) q
theorem aR3 (q:Q (.tup [.str "set",.non])):sL { nx:=fun _=>Q .non,rt:=Q } [y0,y1,y2,y3,some (.sh true (.exc "BadSet")),y5,none,none]:=by
 refine⟨_,rfl,rfl,_,rfl,aY ?_⟩
 refine⟨_,rfl,false,(by decide),_,rfl,true,(by decide),_,rfl,false,(by decide),by show 3<=1000; decide,rfl,trivial,?_⟩
 exact x4 (by decide) [false,true,false] (by decide) (by decide) rfl (by decide) q
theorem X5 (q:Q (.tup [.str "paper",.non])):sL { nx:=fun _=>Q .non,rt:=Q } [y0,y1,y2,y3,some (.sh true (.exc "NoPaper")),y5,none,none]:=by
 refine⟨_,rfl,rfl,_,rfl,aY ?_⟩
 refine⟨_,rfl,false,(by decide),_,rfl,false,(by decide),_,rfl,true,(by decide),by show 3<=1000; decide,rfl,trivial,?_⟩
 exact x4 (by decide) [false,false,true] (by decide) (by decide) rfl (by decide) q
end
theorem aR4:dG X4 ["rows","columns","seeds","steps","caught","found","e","kinds"] mM:=by
 rintro xs Q ⟨r,c,v,ls,sts,rfl,hv,hl,qb,qs,qj⟩
 refine⟨trivial,trivial,?_⟩
 refine⟨_,rfl,_,rfl,_,rfl,_,rfl,r,c,v,ls,sts,rfl,hv,hl,fun no=>⟨by decide,_,rfl,trivial,aR2 (qb no)⟩,fun ok no=>⟨by decide,_,rfl,trivial,aR3 (qs ok no)⟩,fun ok st=>?_⟩
 obtain ⟨j1,j2⟩:=qj ok st
 refine⟨fun w=>⟨by decide,_,rfl,trivial,X5 (j1 w)⟩,fun T w=>⟨fun nf=>⟨by decide,_,rfl,trivial,X5 ((j2 T w).1 nf)⟩,fun far bs pb so=>?_⟩⟩
 refine⟨_,rfl,rfl,_,rfl,b7 ⟨_,rfl,by show 2<=1000; decide,?_,trivial,(j2 T w).2 far bs pb so⟩⟩
 intro p hp
 simp only [aW3,aX2,aZ8] at hp
 rcases hp with rfl | rfl <;> trivial
def sM:c7:=fun xs Q=>∃ (s:Bx × Bx) (z:Int),xs = [cN s,.int z]/\∀ s':Bx × Bx,Q (cN s')
def X6:aO:=(aG (vS (gC 2 3) (a5 0))
 (aG (bC 4 (bR (a5 1) (qC (.int 6))))
 (aG (bO (aW (fP (a5 4) (qC (.int 0)))) (bD (bL (a6 (a5 3) (a6 (a5 2) aA)))) bQ)
 (aG (bO (aW (fP (a5 4) (qC (.int 1)))) (bD (bL (a6 (a5 2) (a6 (a5 2) aA)))) bQ)
 (aG (bO (aW (fP (a5 4) (qC (.int 2)))) (bD (bL (a6 (N2 (gG (a5 2) gE (gF (qC (.int 3)))) (bL (a6 (dJ (aS (a5 2) (qC (.int 3))) (qC (.int 1))) aA))) (a6 (a5 3) aA)))) bQ)
 (aG (bO (aW (fP (a5 4) (qC (.int 3)))) (bD (bL (a6 (a5 2) (a6 (bL (a6 (aS (a5 3) (qC (.int 0))) (a6 (aS (a5 3) (qC (.int 1))) (a6 (dJ (aS (a5 3) (qC (.int 2))) (bR (cW (a5 1) (qC (.int 6))) (qC (.int 3)))) (a6 (aS (a5 3) (qC (.int 3))) aA))))) aA)))) bQ)
 (aG (bO (aW (fP (a5 4) (qC (.int 4)))) (bD (bL (a6 (bL (a6 (fO (uI (qC (.int 1))) (bR (cW (a5 1) (qC (.int 6))) (at8 (qC (.int 10)) (qC (.int 30))))) (a6 (qC (.int 0)) (a6 (qC (.int 0)) (a6 (qC (.int 0)) aA))))) (a6 (a5 3) aA)))) bQ)
 (bD (bL (a6 (a5 2) (a6 (aF mL (a6 (a5 2) (a6 (a5 3) aA))) aA)))))))))))
theorem mO (x y:Bx):flats [bE x,bE y]=true:=by
 show (flat (bE x) && (flat (bE y) && true))=true
 rw [jG,jG]; rfl
theorem aR5:dG X6 ["step","cell","one","other","way"] sM:=by
 rintro xs Q ⟨s,z,rfl,q⟩
 have q:∀ x y:Bx,Q (.tup [bE x,bE y]):=fun x y=>q (x,y)
 refine⟨_,rfl,trivial,_,_,rfl,?_⟩
 refine⟨_,rfl,_,_,rfl,rfl,(by show (0:Int) < 6; decide),trivial,?_⟩
 refine⟨_,rfl,.inl ⟨_,_,rfl,rfl,_,rfl,?_⟩⟩
 generalize decide (z % 6=0)=d0
 show if d0=true then _ else _
 cases d0 with
 | true=>exact b7 ⟨_,rfl,_,rfl,by show 2<=1000; decide,mO _ _,trivial,q s.2 s.1⟩
 | false=>
 refine aY ⟨_,rfl,.inl ⟨_,_,rfl,rfl,_,rfl,?_⟩⟩
 generalize decide (z % 6=1)=d1
 show if d1=true then _ else _
 cases d1 with
 | true=>exact b7 ⟨_,rfl,_,rfl,by show 2<=1000; decide,mO _ _,trivial,q s.1 s.1⟩
 | false=>
 refine aY ⟨_,rfl,.inl ⟨_,_,rfl,rfl,_,rfl,?_⟩⟩
 generalize decide (z % 6=2)=d2
 show if d2=true then _ else _
 cases d2 with
 | true=>
  refine b7 ⟨_,rfl,3,rfl,intz s.1.k,rfl,nC _,_,rfl,_,_,_,rfl,rfl,rfl,s.1.r,1,rfl,rfl,by show 1<=1000; decide,rfl,intz [s.1.t,s.1.l,s.1.b],[.int (s.1.r+1)],rfl,rfl,nC _,rfl,by show 4<=16000000; decide,_,rfl,by show 2<=1000; decide,?_,trivial,q ⟨s.1.t,s.1.l,s.1.b,s.1.r+1⟩ s.2⟩
  exact mO ⟨s.1.t,s.1.l,s.1.b,s.1.r+1⟩ s.2
 | false=>
 refine aY ⟨_,rfl,.inl ⟨_,_,rfl,rfl,_,rfl,?_⟩⟩
 generalize decide (z % 6=3)=d3
 show if d3=true then _ else _
 cases d3 with
 | true=>
  refine b7 ⟨_,rfl,_,rfl,_,_,_,rfl,rfl,rfl,_,rfl,_,_,_,rfl,rfl,rfl,_,rfl,_,_,_,rfl,rfl,rfl,_,rfl,_,_,rfl,rfl,⟨by decide,by decide⟩,_,_,rfl,rfl,(by show (0:Int) < 3; decide),s.2.b,_,rfl,rfl,_,rfl,_,_,_,rfl,rfl,rfl,by show 4<=1000; decide,rfl,by show 2<=1000; decide,?_,trivial,q s.1 ⟨s.2.t,s.2.l,s.2.b+z / 6 % 3,s.2.r⟩⟩
  exact mO s.1 ⟨s.2.t,s.2.l,s.2.b+z / 6 % 3,s.2.r⟩
 | false=>
 refine aY ⟨_,rfl,.inl ⟨_,_,rfl,rfl,_,rfl,?_⟩⟩
 generalize decide (z % 6=4)=d4
 show if d4=true then _ else _
 cases d4 with
 | true=>
  refine b7 ⟨1,rfl,_,rfl,_,_,rfl,rfl,⟨by decide,by decide⟩,_,_,rfl,rfl,⟨by decide,by decide,by decide⟩,_,_,rfl,rfl,(by show (0:Int) < 10 ^ (30:Int).toNat; decide),_,_,rfl,rfl,by show 4<=1000; decide,rfl,_,rfl,by show 2<=1000; decide,?_,trivial,q ⟨-1 - z / 6 % 10 ^ (30:Int).toNat,0,0,0⟩ s.2⟩
  exact mO ⟨-1 - z / 6 % 10 ^ (30:Int).toNat,0,0,0⟩ s.2
 | false=>
 exact aY ⟨_,rfl,_,rfl,_,rfl,s.1,s.2,rfl,by show 2<=1000; decide,mO _ _,trivial,q s.1 (bP s.1 s.2)⟩
def sN:c7:=fun xs Q=>∃ (sts:List (Bx × Bx)) (z:Int),xs = [.lst (aH sts),.int z]/\sts.length<=1000/\∀ sts':List (Bx × Bx),sts'.length<=2 * sts.length+1->Q (.lst (aH sts'))
def X7:aO:=(aG (iB 0 (aF nG (a6 (a5 0) aA)))
 (aG (bO (fJ (aW (fP (aF gW (a6 (a5 0) aA)) (qC (.int 0)))) (aW (fP (bR (a5 1) (qC (.int 7))) (qC (.int 0))))) (aG (bC 2 (bR (cW (a5 1) (qC (.int 7))) (qC (.int 8))))
  (bD (jB (a5 0) (eI (a6 (bL (a6 (bL (a6 (qC (.int 0)) (a6 (a5 2) (a6 (qC (.int 0)) (a6 (a5 2) aA))))) (a6 (bL (a6 (qC (.int 0)) (a6 (dJ (a5 2) (bR (cW (a5 1) (qC (.int 56))) (qC (.int 3)))) (a6 (qC (.int 0)) (a6 (dJ (a5 2) (bR (cW (a5 1) (qC (.int 56))) (qC (.int 3)))) aA))))) aA))) aA))))) bQ)
 (aG (bC 3 (bR (cW (a5 1) (qC (.int 7))) (aF gW (a6 (a5 0) aA))))
 (aG (bO (aW (fP (bR (a5 1) (qC (.int 7))) (qC (.int 1)))) (bD (jB (gG (a5 0) gE (gF (a5 3))) (gG (a5 0) (gF (dJ (a5 3) (qC (.int 1)))) gE))) bQ)
 (aG (bO (aW (fP (bR (a5 1) (qC (.int 7))) (qC (.int 2)))) (bD (jB (jB (gG (a5 0) gE (gF (a5 3))) (eI (a6 (aS (a5 0) (a5 3)) aA))) (gG (a5 0) (gF (a5 3)) gE))) bQ)
 (aG (bO (aW (fP (bR (a5 1) (qC (.int 7))) (qC (.int 3)))) (aG (wL 0 (a5 3) (fO (a5 3) (qC (.int 1))) (bL (a6 (aS (a5 0) (fO (a5 3) (qC (.int 1)))) (a6 (aS (a5 0) (a5 3)) aA))))
  (jO 0)) bQ)
 (bD (jB (jB (gG (a5 0) gE (gF (a5 3))) (eI (a6 (aF sM (a6 (aS (a5 0) (a5 3)) (a6 (cW (a5 1) (qC (.int 61))) aA))) aA))) (gG (a5 0) (gF (dJ (a5 3) (qC (.int 1)))) gE)))))))))
theorem x5 (sts:List (Bx × Bx)) (lo hi:Option Int):∃ ss:List (Bx × Bx),fN (aH sts) lo hi=aH ss/\ss.length<=sts.length:=by
 refine⟨(sts.drop (HT.aV (aH sts).length 0 lo)).take (HT.aV (aH sts).length (aH sts).length hi - HT.aV (aH sts).length 0 lo),?_,?_⟩
 ·unfold fN aH
  rw [List.map_take,List.map_drop]
 ·rw [bk1,bi9]
  omega
theorem k9 (a b:List (Bx × Bx)):aH a ++ aH b=aH (a ++ b):=by unfold aH; rw [aY9]
theorem X8 {sts:List (Bx × Bx)}{n:Int} (h1 : -(sts.length:Int)<=n) (h2:n < sts.length):∃ j s,fD (aH sts).length n=some j/\j < sts.length/\sts[j]? = some s/\L2.atI (aH sts) n=some (cN s):=by
 have sl:(aH sts).length=sts.length:=aW6 _
 obtain ⟨j,hj,hlt⟩:∃ j,fD (aH sts).length n=some j/\j < sts.length:=by
  unfold fD
  rw [sl]
  by_cases n0:0<=n
  ·exact⟨n.toNat,by rw [if_pos n0,if_pos h2],by omega⟩
  ·exact⟨(n+sts.length).toNat,by rw [if_neg n0,if_pos h1],by omega⟩
 obtain ⟨s,hs⟩:∃ s,sts[j]? = some s:=⟨_,aW0 hlt⟩
 refine⟨j,s,hj,hlt,hs,?_⟩
 unfold L2.atI
 rw [hj]
 show (aH sts)[j]? = _
 rw [aY1,hs]; rfl
theorem X9 (sts:List (Bx × Bx)) (j:Nat) (s:Bx × Bx):(aH sts).set j (cN s)=aH (sts.set j s):=by unfold aH; rw [List.map_set]
theorem aR6:dG X7 ["steps","cell","far","place"] sN:=by
 rintro xs Q ⟨sts,z,rfl,hl,q⟩
 have sl:(aH sts).length=sts.length:=aW6 _
 refine⟨_,rfl,_,_,rfl,rfl,dB _,rfl,dB _,?_⟩
 have put:∀ D:iX,D.rt=Q->(aG (bC 2 (bR (cW (a5 1) (qC (.int 7))) (qC (.int 8))))
  (bD (jB (a5 0) (eI (a6 (bL (a6 (bL (a6 (qC (.int 0)) (a6 (a5 2) (a6 (qC (.int 0)) (a6 (a5 2) aA))))) (a6 (bL (a6 (qC (.int 0)) (a6 (dJ (a5 2) (bR (cW (a5 1) (qC (.int 56))) (qC (.int 3)))) (a6 (qC (.int 0)) (a6 (dJ (a5 2) (bR (cW (a5 1) (qC (.int 56))) (qC (.int 3)))) aA))))) aA))) aA))))) D [some (.own (.lst (aH sts))),si z,none,none]:=by
  rintro D rfl
  refine⟨_,rfl,_,_,rfl,rfl,⟨by decide,by decide⟩,_,_,rfl,rfl,(by show (0:Int) < 8; decide),trivial,?_⟩
  refine⟨_,rfl,_,rfl,_,rfl,by show 4<=1000; decide,rfl,_,rfl,_,rfl,_,_,rfl,rfl,⟨by decide,by decide⟩,_,_,rfl,rfl,(by show (0:Int) < 3; decide),_,_,rfl,rfl,_,rfl,_,rfl,_,_,rfl,rfl,⟨by decide,by decide⟩,_,_,rfl,rfl,(by show (0:Int) < 3; decide),_,_,rfl,rfl,by show 4<=1000; decide,rfl,by show 2<=1000; decide,rfl,by show 1<=1000; decide,rfl,aH sts,_,rfl,rfl,dB _,rfl,by rw [sl]; show sts.length+1<=16000000; omega,trivial,?_⟩
  have:=q (sts ++ [(⟨0,z / 7 % 8,0,z / 7 % 8⟩,⟨0,z / 7 % 8+z / 56 % 3,0,z / 7 % 8+z / 56 % 3⟩)]) (by rw [aY4,bb9]; omega)
  rw [<- k9] at this
  exact this
 refine⟨_,rfl,_,_,rfl,rfl,.inl ⟨_,_,rfl,rfl,_,rfl,?_⟩⟩
 show if decide (((aH sts).length:Int)=0)=true then _ else _
 by_cases e0:((aH sts).length:Int)=0
 ·rw [aX3 e0]
  exact b7 (b7 (put _ rfl))
 rw [aW4 e0]
 refine aY ⟨_,rfl,_,_,rfl,rfl,(by show (0:Int) < 7; decide),.inl ⟨_,_,rfl,rfl,_,rfl,?_⟩⟩
 generalize decide (z % 7=0)=d0
 show if d0=true then _ else _
 cases d0 with
 | true=>exact b7 (put _ rfl)
 | false=>
 have pos:0 < (aH sts).length:=by omega
 refine aY ⟨_,rfl,_,_,rfl,rfl,⟨by decide,by decide⟩,_,rfl,_,_,rfl,rfl,_,_,rfl,rfl,by show (0:Int) < ((aH sts).length:Int); omega,trivial,?_⟩
 have p0:=bg2 (z / 7) (show ((aH sts).length:Int) ≠ 0 by omega)
 have p1:=be9 (z / 7) (show 0 < ((aH sts).length:Int) by omega)
 dsimp only
 generalize z / 7 % ((aH sts).length:Int)=p at p0 p1
 obtain ⟨j,s,hj,jl,hs,at1⟩:=X8 (sts:=sts) (n:=p) (by omega) (by omega)
 obtain ⟨c1,hc1,lc1⟩:=x5 sts none (some p)
 obtain ⟨c2,hc2,lc2⟩:=x5 sts (some (p+1)) none
 obtain ⟨c3,hc3,lc3⟩:=x5 sts (some p) none
 have fst:∀ t:Bx × Bx,flats [cN t]=true:=fun t=>by
  show (flat (cN t) && true)=true
  rw [l9]; rfl
 have cl:∀ c:List (Bx × Bx),(aH c).length=c.length:=fun c=>aW6 _
 refine⟨_,rfl,_,_,rfl,rfl,(by show (0:Int) < 7; decide),.inl ⟨_,_,rfl,rfl,_,rfl,?_⟩⟩
 generalize decide (z % 7=1)=d1
 show if d1=true then _ else _
 cases d1 with
 | true=>
  refine b7 ⟨_,rfl,_,rfl,p,rfl,aH sts,rfl,dB _,_,rfl,_,rfl,p,1,rfl,rfl,p+1,rfl,aH sts,rfl,dB _,aH c1,aH c2,by rw [hc1]; rfl,by rw [hc2]; rfl,dB _,dB _,by rw [cl,cl]; omega,trivial,?_⟩
  rw [k9]
  exact q _ (by rw [aY4]; omega)
 | false=>
 refine aY ⟨_,rfl,_,_,rfl,rfl,(by show (0:Int) < 7; decide),.inl ⟨_,_,rfl,rfl,_,rfl,?_⟩⟩
 generalize decide (z % 7=2)=d2
 show if d2=true then _ else _
 cases d2 with
 | true=>
  refine b7 ⟨_,rfl,_,rfl,p,rfl,aH sts,rfl,dB _,_,rfl,_,rfl,_,_,_,rfl,rfl,at1,by show 1<=1000; decide,fst s,aH c1,aH [s],by rw [hc1]; rfl,rfl,dB _,dB _,by rw [cl,cl]; show c1.length+1<=16000000; omega,_,rfl,_,rfl,p,rfl,aH sts,rfl,dB _,aH c1 ++ aH [s],aH c3,rfl,by rw [hc3]; rfl,by rw [k9]; exact dB _,dB _,by rw [aY4,cl,cl,cl]; show c1.length+1+c3.length<=16000000; omega,trivial,?_⟩
  rw [k9,k9]
  exact q _ (by rw [aY4,aY4]; show c1.length+1+c3.length<=_; omega)
 | false=>
 refine aY ⟨_,rfl,_,_,rfl,rfl,(by show (0:Int) < 7; decide),.inl ⟨_,_,rfl,rfl,_,rfl,?_⟩⟩
 generalize decide (z % 7=3)=d3
 show if d3=true then _ else _
 cases d3 with
 | true=>
  obtain ⟨j2,s2,hj2,jl2,hs2,at2⟩:=X8 (sts:=sts) (n:=p - 1) (by omega) (by omega)
  refine b7 ⟨_,rfl,_,rfl,p,1,rfl,rfl,_,_,_,rfl,rfl,at2,_,rfl,_,rfl,_,_,_,rfl,rfl,at1,by show 2<=1000; decide,?_,cN s2,cN s,aH sts,rfl,?_,rfl,_,rfl,p,j,rfl,hj,_,rfl,p,1,rfl,rfl,p - 1,j2,rfl,by rw [bb7]; exact hj2,?_⟩
  ·show (flat (cN s2) && (flat (cN s) && true))=true
   rw [l9,l9]; rfl
  ·show (flat (cN s2) && (flat (cN s) && true))=true
   rw [l9,l9]; rfl
  refine⟨_,rfl,trivial,?_⟩
  show Q (.lst (((aH sts).set j (cN s2)).set j2 (cN s)))
  rw [X9,X9]
  exact q _ (by rw [bb7,bb7]; omega)
 | false=>
 refine aY ⟨_,rfl,_,rfl,p,rfl,aH sts,rfl,dB _,_,rfl,_,rfl,_,_,_,rfl,rfl,at1,_,rfl,_,_,rfl,rfl,⟨by decide,by decide⟩,s,_,rfl,fun s'=>?_⟩
 refine⟨by show 1<=1000; decide,fst s',aH c1,aH [s'],by rw [hc1]; rfl,rfl,dB _,dB _,by rw [cl,cl]; show c1.length+1<=16000000; omega,_,rfl,_,rfl,p,1,rfl,rfl,p+1,rfl,aH sts,rfl,dB _,aH c1 ++ aH [s'],aH c2,rfl,by rw [hc2]; rfl,by rw [k9]; exact dB _,dB _,by rw [aY4,cl,cl,cl]; show c1.length+1+c2.length<=16000000; omega,trivial,?_⟩
 rw [k9,k9]
 exact q _ (by rw [aY4,aY4]; show c1.length+1+c2.length<=_; omega)
def x6:c7:=M4
def Y0:aO:=(aG (bC 9 (jB (aF nG (a6 (a5 3) aA)) (eI (a6 (bL (a6 (qC (.int 0)) (a6 (uI (qC (.int 1))) aA))) aA))))
 (aG (bO (aW (q2 (kZ true) (aS (aF mM (a6 (a5 1) (a6 (a5 2) (a6 (a5 9) (a6 (a5 4) aA))))) (qC (.int 0))) (qC (.str "set")))) (bD (qC (.bl false))) bQ)
 (aG (bC 10 (aS (eI (a6 (bL (a6 (qC (.int 0)) (a6 (a5 2) aA))) (a6 (bL (a6 (a5 1) (a6 (qC (.int 41)) aA))) (a6 (bL (a6 (qC (.int 41)) (a6 (qC (.int 0)) aA))) aA)))) (bR (cW (aF gK (a6 (a5 0) (a6 (qC (.int 1)) aA))) (qC (.int 4))) (qC (.int 3)))))
 (bD (q2 (kZ false) (aS (aF mM (a6 (aS (a5 10) (qC (.int 0))) (a6 (aS (a5 10) (qC (.int 1))) (a6 (a5 9) (a6 (a5 4) aA))))) (qC (.int 0))) (qC (.str "board")))))))
def Y1:aO:=(aG (bC 8 (aF sK (a6 (a5 3) (a6 (a5 4) aA))))
 (aG (bO (aW (q2 (pS 2 true) (a5 6) (a5 4))) (bD (qC (.bl false))) bQ)
 (aG (bO (fJ (kE (aW (C4 (a5 8) (qC .non))) (aW (q2 (kZ true) (aS (a5 7) (qC (.int 0))) (qC (.str "paper"))))) (kE (aW (uM (a5 8) (qC .non))) (aW (q2 (pS 2 true) (a5 7) (pJ (a6 (qC (.str "told")) (a6 (a5 8) aA))))))) (bD (qC (.bl false))) bQ)
 Y0)))
def Y2:aO:=(aG (dX (lP (bR (aF gK (a6 (a5 0) (a6 (qC (.int 1)) aA))) (qC (.int 4)))) (dI 5)
  (bC 4 (aF sN (a6 (a5 4) (a6 (aF gK (a6 (a5 0) (a6 (dJ (qC (.int 2)) (a5 5)) aA))) aA)))))
 (aG (bC 6 (aF nG (a6 (a5 4) aA)))
 (aG (bC 7 (aF mM (a6 (a5 1) (a6 (a5 2) (a6 (a5 3) (a6 (a5 6) aA))))))
 Y1)))
def Y3:aO:=(aG (bC 1 (dJ (qC (.int 1)) (bR (aF gK (a6 (a5 0) (a6 (qC (.int 0)) aA))) (qC (.int 9)))))
 (aG (bC 2 (dJ (qC (.int 1)) (bR (cW (aF gK (a6 (a5 0) (a6 (qC (.int 0)) aA))) (qC (.int 9))) (qC (.int 9)))))
 (aG (bC 3 (gG (aF rP (a6 (a5 0) (a6 (qC (.int 5)) (a6 (a5 1) (a6 (a5 2) aA))))) gE (gF (qC (.int 24)))))
 (aG (bC 4 (aF (sD fun _=>False) (a6 (a5 1) (a6 (a5 2) (a6 (a5 3) aA)))))
 Y2))))
def x8 (ls:List bF) (sts:List (Bx × Bx)):Prop:=cM (ls.map cX) sts=none ∨ ∃ T,cM (ls.map cX) sts=some T/\¬ dP T
def oF (ls:List bF) (sts:List (Bx × Bx)) (bs:List Bx):Prop:=∃ T,cM (ls.map cX) sts=some T/\dP T/\bs.Perm T/\bs.Pairwise (fun u v=>HT.aK v.k u.k=false)
theorem lA.of {ls:List bF}{sts:List (Bx × Bx)}{b:Prop}{g:List Bx->Prop} (h1:x8 ls sts->b) (h2:∀ bs,oF ls sts bs->g bs):lA ls sts b g:=
 ⟨fun w=>h1 (.inl w),fun T w=>⟨fun nf=>h1 (.inr ⟨T,w,nf⟩),fun far bs pb so=>h2 bs ⟨T,w,far,pb,so⟩⟩⟩
theorem Y4 {ls:List bF}{sts:List (Bx × Bx)}{bs:List Bx} (b:x8 ls sts) (g:oF ls sts bs):False:=by
 obtain ⟨T,w,far,_⟩:=g
 rcases b with b | ⟨T',w',nf⟩
 ·rw [w] at b; cases b
 ·rw [w] at w'; cases w'; exact nf far
theorem aR7 {ls:List bF}{sts:List (Bx × Bx)}{bs bs':List Bx} (g:oF ls sts bs) (g':oF ls sts bs'):bs=bs':=by
 obtain ⟨T,w,far,pb,so⟩:=g
 obtain ⟨T',w',far',pb',so'⟩:=g'
 rw [w] at w'
 cases w'
 have:=aF4 ((pb.trans pb'.symm).map Bx.k) (be3.mpr so) (be3.mpr so')
 exact (List.map_inj_right fun _ _ e=>Bx.k_inj e).mp this
section
variable {ns : List Int} {r c : Int} {ls : List bF} {sts : List (Bx × Bx)} {Q : PV → Prop}
theorem Y5 (ok:cF r c) (st:dN r c ls) (hl:ls.length<=24) (q:Q (.bl true)) (y5 y6 y7 y8:Option Slot) :
  Y0 { nx:=fun _=>Q .non,rt:=Q } [some (.sh true (.scr ns)),si r,si c,some (.sh true (.tup (aZ ls))),some (.sh true (.lst (aH sts))),y5,y6,y7,y8,none,none]:=by
 obtain ⟨r1,r2,c1,c2⟩:=id ok
 have no : ¬ dN r c (ls ++ [(0,-1)]):=fun z=>by
  have:=rM.mp (z.2 (0,-1) (by simp))
  dsimp only at this
  omega
 have le:(ls ++ [((0:Int),(-1:Int))]).length<=4096:=by rw [aY4,bb9]; omega
 refine⟨_,rfl,_,_,rfl,rfl,kR _,1,rfl,by show 2<=1000; decide,rfl,by show 1<=1000; decide,rfl,aZ ls,_,rfl,rfl,kR _,rfl,by rw [m9]; show ls.length+1<=16000000; omega,trivial,?_⟩
 have e:aZ ls ++ [PV.tup [.int 0,.int (-1)]]=aZ (ls ++ [(0,-1)]):=by rw [<- aP8]; rfl
 have e':(.lst (aZ ls ++ [PV.tup [.int 0,.int (-1)]]):PV) = .lst (aZ (ls ++ [(0,-1)])):=by rw [e]
 refine⟨_,rfl,_,rfl,_,rfl,_,rfl,r,c,_,ls ++ [(0,-1)],sts,rfl,.inr e',le,fun z=>absurd ok z,fun _ _=>⟨_,_,_,rfl,rfl,rfl,_,_,rfl,rfl,_,rfl,aY ?_⟩,fun _ z=>absurd z no⟩
 refine⟨_,rfl,by show 2<=1000; decide,rfl,_,rfl,by show 2<=1000; decide,rfl,by show 2<=1000; decide,rfl,by show 3<=1000; decide,rfl,_,rfl,_,ns,1,rfl,.inl rfl,by decide,_,_,rfl,rfl,⟨by decide,by decide⟩,_,_,rfl,rfl,(by show (0:Int) < 3; decide),?_⟩
 have j0:0<=ns.getD (1:Int).toNat 0 / 4 % 3:=bg2 _ (by decide)
 have j1:ns.getD (1:Int).toNat 0 / 4 % 3 < 3:=be9 _ (by decide)
 dsimp only
 have at3:∃ a b:Int,¬ cF a b/\L2.atI [PV.tup [.int 0,.int c],.tup [.int r,.int 41],.tup [.int 41,.int 0]] (ns.getD (1:Int).toNat 0 / 4 % 3)=some (.tup [.int a,.int b]):=by
  generalize ns.getD (1:Int).toNat 0 / 4 % 3=j at j0 j1
  rcases (show j=0 ∨ j=1 ∨ j=2 by omega) with rfl | rfl | rfl
  ·exact⟨0,c,by unfold cF; omega,rfl⟩
  ·exact⟨r,41,by unfold cF; omega,rfl⟩
  ·exact⟨41,0,by unfold cF; omega,rfl⟩
 obtain ⟨a,b,nb,hat⟩:=at3
 refine⟨_,_,_,rfl,rfl,hat,trivial,?_⟩
 exact⟨_,rfl,_,_,_,rfl,rfl,rfl,_,rfl,_,_,_,rfl,rfl,rfl,_,rfl,_,rfl,a,b,_,ls ++ [(0,-1)],sts,rfl,.inr e',le,fun _=>⟨_,_,_,rfl,rfl,rfl,_,_,rfl,rfl,trivial,q⟩,fun z=>absurd z nb,fun z=>absurd z nb⟩
theorem Y6 (bs:List Bx):cD 3 (.tup [.str "told",.lst (aU bs)]) (.tup [.str "told",.lst (aU bs)])=true/\bG 3 (.tup [.str "told",.lst (aU bs)]) (.tup [.str "told",.lst (aU bs)])=true:=by
 have o:cD 2 (.lst (aU bs)) (.lst (aU bs))=true:=O3 0 (bs.map Bx.k) (bs.map Bx.k)
 have e:bG 2 (.lst (aU bs)) (.lst (aU bs))=true:=(aF3 0 (bs.map Bx.k) (bs.map Bx.k)).trans (aX3 rfl)
 constructor
 ·show (cD 2 (.str "told") (.str "told") && (cD 2 (.lst (aU bs)) (.lst (aU bs)) && true))=true
  rw [o]; rfl
 ·show ((bG 2 (.str "told") (.str "told") && (bG 2 (.lst (aU bs)) (.lst (aU bs)) && true)) && true)=true
  rw [e]; decide
theorem Y7 (ok:cF r c) (st:dN r c ls) (hl:ls.length<=24) (q:Q (.bl true)) (y5:Option Slot) {f:PV} (hf:(x8 ls sts/\f = .tup [.str "paper",.non]) ∨ ∃ bs,oF ls sts bs/\f = .tup [.str "told",.lst (aU bs)]) :
  Y1 { nx:=fun _=>Q .non,rt:=Q } [some (.sh true (.scr ns)),si r,si c,some (.sh true (.tup (aZ ls))),some (.sh true (.lst (aH sts))),y5,some (.sh true (.lst (aH sts))),some (.sh true f),none,none,none]:=by
 refine⟨_,rfl,_,rfl,ls,sts,rfl,wJ st.1,by omega,lA.of (fun bad=>⟨trivial,?_⟩) fun bs gud=>⟨trivial,?_⟩⟩
 ·refine⟨_,rfl,_,rfl,.inr ⟨_,_,rfl,rfl⟩,(sJ sts).1,_,rfl,?_⟩
  show if (!bG 3 (.lst (aH sts)) (.lst (aH sts)))=true then _ else _
  rw [(sJ sts).2]
  refine aY ?_
  rcases hf with ⟨_,rfl⟩ | ⟨bs,g,_⟩
  ·exact⟨_,rfl,rfl,_,rfl,b7 ⟨_,rfl,_,_,_,rfl,rfl,rfl,_,_,rfl,rfl,_,rfl,aY ⟨_,rfl,rfl,_,rfl,aY (aY (Y5 ok st hl q _ _ _ _))⟩⟩⟩
  ·exact (Y4 bad g).elim
 ·refine⟨_,rfl,_,rfl,.inr ⟨_,_,rfl,rfl⟩,(sJ sts).1,_,rfl,?_⟩
  show if (!bG 3 (.lst (aH sts)) (.lst (aH sts)))=true then _ else _
  rw [(sJ sts).2]
  refine aY ?_
  rcases hf with ⟨bad,_⟩ | ⟨bs',g,rfl⟩
  ·exact (Y4 bad gud).elim
  ·obtain rfl:=aR7 gud g
   refine⟨_,rfl,rfl,_,rfl,aY (aY ⟨_,rfl,rfl,_,rfl,b7 ⟨_,rfl,_,rfl,by show 2<=1000; decide,?_,.inl ⟨_,_,rfl,rfl⟩,(Y6 bs).1,_,rfl,?_⟩⟩)⟩
   ·intro p hp
    simp only [aW3,aX2,aZ8] at hp
    rcases hp with rfl | rfl <;> trivial
   ·show if (!bG 3 (.tup [.str "told",.lst (aU bs)]) (.tup [.str "told",.lst (aU bs)]))=true then _ else _
    rw [(Y6 bs).2]
    exact aY (Y5 ok st hl q _ _ _ _)
theorem aR8 (hn:ns.length<=63) (ok:cF r c) (st:dN r c ls) (hl:ls.length<=24) (q:Q (.bl true)) (sl:sts.length<=24) :
  Y2 { nx:=fun _=>Q .non,rt:=Q } [some (.sh true (.scr ns)),si r,si c,some (.sh true (.tup (aZ ls))),some (.sh true (.lst (aH sts))),none,none,none,none,none,none]:=by
 refine⟨_,rfl,_,ns,1,rfl,.inl rfl,by decide,_,_,rfl,rfl,(by show (0:Int) < 4; decide),_,rfl,?_,?_,?_⟩
 ·have:=bg2 (ns.getD (1:Int).toNat 0) (show (4:Int) ≠ 0 by decide); omega
 ·have:=be9 (ns.getD (1:Int).toNat 0) (show (0:Int) < 4 by decide); omega
 have m0:=bg2 (ns.getD (1:Int).toNat 0) (show (4:Int) ≠ 0 by decide)
 have m1:=be9 (ns.getD (1:Int).toNat 0) (show (0:Int) < 4 by decide)
 generalize ns.getD (1:Int).toNat 0 % 4=m at m0 m1
 refine⟨fun i ρ=>∃ (sts:List (Bx × Bx)) (y5:Option Slot),ρ = [some (.sh true (.scr ns)),si r,si c,some (.sh true (.tup (aZ ls))),some (.sh true (.lst (aH sts))),y5,none,none,none,none,none]/\sts.length+1<=25 * 2 ^ i,⟨sts,none,rfl,by show sts.length+1<=25 * 1; omega⟩,?_,?_⟩
 ·rintro i v ρ hv ⟨sts,y5,rfl,b⟩
  obtain ⟨rfl,hi⟩:=qW hv
  have hi:i < 4:=by omega
  rw [show (0:Int)+(i:Int)=(i:Int) by omega]
  refine N3 ?_
  have b2:sts.length<=1000:=by
   have:(2:Nat) ^ i<=2 ^ 3:=Nat.pow_le_pow_right (by decide) (by omega)
   omega
  refine⟨_,rfl,_,rfl,_,rfl,_,_,rfl,rfl,_,ns,2+(i:Int),rfl,.inl rfl,by omega,sts,_,rfl,b2,fun sts' l'=>⟨trivial,sts',_,rfl,?_⟩⟩
  rw [Nat.pow_succ]
  omega
 ·rintro ρ ⟨sts,y5,rfl,b⟩
  refine⟨_,rfl,_,_,rfl,rfl,dB _,trivial,?_⟩
  refine⟨_,rfl,_,rfl,_,rfl,_,rfl,r,c,_,ls,sts,rfl,.inl rfl,by omega,fun z=>absurd ok z,fun _ z=>absurd st z,fun _ _=>lA.of (fun bad=>⟨trivial,?_⟩) fun bs gud=>⟨trivial,?_⟩⟩
  ·exact Y7 ok st hl q y5 (.inl ⟨bad,rfl⟩)
  ·exact Y7 ok st hl q y5 (.inr ⟨bs,gud,rfl⟩)
end
theorem aR9:dG Y3 ["script","rows","columns","seeds","steps","k","handed","found","due","odd","wrong"] x6:=by
 rintro xs Q ⟨ns,rfl,hn,q⟩
 refine⟨_,rfl,_,ns,0,rfl,.inl rfl,by decide,_,_,rfl,rfl,(by show (0:Int) < 9; decide),_,_,rfl,rfl,trivial,?_⟩
 refine⟨_,rfl,_,ns,0,rfl,.inl rfl,by decide,_,_,rfl,rfl,⟨by decide,by decide⟩,_,_,rfl,rfl,(by show (0:Int) < 9; decide),_,_,rfl,rfl,trivial,?_⟩
 dsimp only
 generalize ns.getD (0:Int).toNat 0=v
 have a0:=bg2 v (show (9:Int) ≠ 0 by decide)
 have a1:=be9 v (show (0:Int) < 9 by decide)
 have b0:=bg2 (v / 9) (show (9:Int) ≠ 0 by decide)
 have b1:=be9 (v / 9) (show (0:Int) < 9 by decide)
 have ok:cF (1+v % 9) (1+v / 9 % 9):=by unfold cF; omega
 generalize 1+v % 9=r at ok
 generalize 1+v / 9 % 9=c at ok
 refine⟨_,rfl,_,rfl,_,rfl,ns,5,r,c,rfl,hn,by decide,by decide,ok,fun ls0 st0 sl0=>⟨24,rfl,aZ ls0,rfl,kR _,trivial,?_⟩⟩
 have e:fN (aZ ls0) none (some 24)=aZ (ls0.take 24):=by rw [vQ (by decide),aQ0]; rfl
 have st:=st0.take 24
 have sl:(ls0.take 24).length<=24:=List.length_take_le ..
 dsimp only
 rw [e]
 generalize ls0.take 24=ls at st sl
 refine⟨_,rfl,_,rfl,_,rfl,r,c,_,ls,rfl,.inl rfl,by omega,(fun z=>z ok),(fun _ z=>z st),fun _ _ sts T hw far stl=>⟨trivial,?_⟩⟩
 exact aR8 hn ok st sl q (by omega)
end Core
namespace K_k64
open PySem PySem.W L2 PP Core
theorem _root_.L2.FnScope.au {N P:List Str}{s:Scope} (a:s.kind=.function:=by rfl) (b:s.isCoroutine=false:=by rfl) (c:s.isGenerator=false:=by rfl) (d:N.Nodup:=by decide +kernel) (e:N.take P.length=P:=by rfl) (f:∀ x∈P,s.names.lookup x=some .local∨s.names.lookup x=some .cell:=by decide +kernel) (g:∀ y∈s.names,y.2≠.free:=by decide +kernel):FnScope N P s:=⟨a,b,c,d,e,f,g⟩
def b9 (i:Nat):Stmt:=PySem.Challenge.pw_kindleweb_k64_growths_refused.main.body.getD i (.Pass ⟨0,0,0,0⟩)
structure FK (K:Frag) (n:Str) (i:Nat) (f:Addr) (d:FuncData):Prop where
 a:nsIn K mainGlobals n=some (some (.ref f))
 F:fE K n n (b9 i) f d
structure FM (K:Frag) (mg:Str->Option Value) (n:Str) (i:Nat) (f:Addr) (d:FuncData):Prop where
 F:fE K n n (b9 i) f d
 m:mg n=some (.ref f)
theorem FK.M {K:Frag}{mg:Str->Option Value}{n:Str}{i:Nat}{f:Addr}{d:FuncData}{h:Heap} (z:FK K n i f d) (X:K.In h) (G:h.Ns mainGlobals mg):FM K mg n i f d:=⟨z.F,mg_of X G z.a⟩
abbrev Hb (x:Str) (ps:List Str) (i:Nat):Prop:=∀ (kV doc pm:Value) (an:Option Addr) (cdv ct:Value) (us:List Value),us.length=ps.length->bindArgs (fnOf x x (iU (b9 i)) (dU (b9 i)) (b6 (b9 i)) .none kV doc pm an cdv ct) ⟨us,[]⟩=pure (ps.zip us)
theorem oG {A:Around}{k:Nat} (hr:bZ k A):A.units+3 < cLine:=by have:=hr.units; omega
section
variable {P : Program} {w : World} {K : Frag} {mg : Str → Option Value} {base : Heap} {f : Addr} {fd : FuncData} {k i : Nat} {x : Str} {ps N : List Str}
theorem Df.au {p:c7} (F:FM K mg x i f fd) (S:FnScope N ps (b6 (b9 i))) (body:∀ (cdv:Value) (A:Around) (outer:List Env) (s:Shared) (H:Hp) (E:XK),bZ k (A.deeper (PyProof.Rows.envOfC x (b6 (b9 i)) s.heap.objs.size f cdv))->∃ t,dY (cV eG P w K mg base N x (b6 (b9 i)) f cdv A outer s H E).nox (dU (b9 i)) t/\∀ xs Q,p xs Q->t { nx:=fun _=>Q .non,rt:=Q } (eW N xs)) (hb:Hb x ps i:=by intro _ _ _ _ _ _ us hl; first | (obtain ⟨_,rfl⟩:=w9 hl; rfl) | (obtain ⟨_,_,rfl⟩:=wA hl; rfl) | (obtain ⟨_,_,_,rfl⟩:=wB hl; rfl) | (obtain ⟨_,_,_,_,rfl⟩:=O1 hl; rfl) | (obtain ⟨_,_,_,_,_,rfl⟩:=us5 hl; rfl)) (len:∀ xs Q,p xs Q->xs.length=ps.length:=by intro xs Q h; repeat (first | (obtain ⟨rfl,_⟩:=h; rfl) | (obtain ⟨_,h⟩:=h))):Df P w K mg base (k+1) x ps p:=
 Df.of F.F F.m S hb len body
theorem cY.au {p:eL} (F:FM K mg x i f fd) (S:FnScope N ps (b6 (b9 i))) (t:(Str->Prop)->aO) (rd:∀ Ep xs Q,p Ep xs Q->t Ep { nx:=fun _=>Q .non,rt:=Q } (eW N xs)) (body:∀ (cdv:Value) (A:Around) (outer:List Env) (s:Shared) (H:Hp) (E:XK) (Ep:Str->Prop),bZ k (A.deeper (PyProof.Rows.envOfC x (b6 (b9 i)) s.heap.objs.size f cdv))->m8 (cV (dM P w) P w K mg base N x (b6 (b9 i)) f cdv A outer s H E) (EX K H Ep)->dY (cV (dM P w) P w K mg base N x (b6 (b9 i)) f cdv A outer s H E) (dU (b9 i)) (t Ep)) (hb:Hb x ps i:=by intro _ _ _ _ _ _ us hl; first | (obtain ⟨_,rfl⟩:=w9 hl; rfl) | (obtain ⟨_,_,rfl⟩:=wA hl; rfl) | (obtain ⟨_,_,_,rfl⟩:=wB hl; rfl) | (obtain ⟨_,_,_,_,rfl⟩:=O1 hl; rfl) | (obtain ⟨_,_,_,_,_,rfl⟩:=us5 hl; rfl)) (len:∀ Ep xs Q,p Ep xs Q->xs.length=ps.length:=by intro Ep xs Q h; repeat (first | (obtain ⟨rfl,_⟩:=h; rfl) | (obtain ⟨_,h⟩:=h))):cY P w K mg base (k+1) x ps p:=
 cY.of F.F F.m S hb t len rd body
end
section
variable {P : Program} {w : World} {K : Frag} {mg : Str → Option Value} {base : Heap} {f : Addr} {fd : FuncData}
theorem aS0:FnScope ["things"] ["things"] (b6 (b9 6)):=.au
theorem M3 (B:Bt mg) (F:FM K mg "rises" 6 f fd)  : Df P w K mg base 1 "rises" ["things"] rK:=
 Df.au F aS0 (fun cdv A outer s H E hr=>by
  have hu:=nA hr
  exact⟨(Q9),(aR (bI (E7 B rfl (a7 (M9 (N:=["ahead","behind"]) (fr:=[none,none]) (aI2 B (qv 0) (hJ (qv 0) (hG a9) gZ)) (fun _ _ _ _=>(aH8 hu (qv 0) (qv 1)))) aB)))),aI8⟩)
theorem Y8:FnScope ["hearths","inside","hearth"] ["hearths"] (b6 (b9 7)):=.au
theorem aS1 (B:Bt mg) (F:FM K mg "marked" 7 f fd)  : Df P w K mg base 1 "marked" ["hearths"] sA:=
 Df.au F Y8 (fun cdv A outer s H E hr=>by
  have nd:=Y8.nd
  have hu:=nA hr
  exact⟨(V6),(aJ (jX (i:=1) nd E4)
   (aJ (j7 2 nd (iG (qv 0))
    (aR (qD hu (i:=1) (qv 2) iD)))
   (aR (lW 1)))),aP0⟩)
theorem aS2:FnScope ["rows","columns"] ["rows","columns"] (b6 (b9 10)):=.au
theorem aS3 (B:Bt mg) (F:FM K mg "looked_through" 10 f fd) (x_BadBoard:Xc K mg base "BadBoard") {u_MOST_ROWS:Nat} (m_MOST_ROWS:mg "MOST_ROWS" = some (.int 40 u_MOST_ROWS)):cY P w K mg base 1 "looked_through" ["rows","columns"] rL:=
 cY.au F aS2 R0 aI9 (fun cdv A outer s H E Ep hr hX=>by
  exact (aR (c9 (gJ (iF (nK (nL B rfl (a7 (qv 0) (a7 (qv 1) aB))) a9) (jW (C8 (lX B rfl (a7 (qv 0) (a7 (qv 1) aB))) (N0 rfl m_MOST_ROWS))))) (aR (r6 hX x_BadBoard (a7 fQ aB))) cC)))
theorem aS4:FnScope ["rows","columns","cell"] ["rows","columns","cell"] (b6 (b9 11)):=.au
theorem aS5 (B:Bt mg) (F:FM K mg "is_cell" 11 f fd)  : Df P w K mg base 1 "is_cell" ["rows","columns","cell"] rN:=
 Df.au F aS4 (fun cdv A outer s H E hr=>by
  exact⟨(R3),(aR (bI (pZ (C7 (aT (qv 2) a9) a9) (pZ (uO (aT (qv 2) a9) (qv 0)) (pZ (C7 (aT (qv 2) a9) a9) (E2 (uO (aT (qv 2) a9) (qv 1)))))))),aJ0⟩)
theorem aS6:FnScope ["start","end","other_start","other_end"] ["start","end","other_start","other_end"] (b6 (b9 16)):=.au
theorem aS7 (B:Bt mg) (F:FM K mg "gap" 16 f fd)  : Df P w K mg base 1 "gap" ["start","end","other_start","other_end"] oC:=
 Df.au F aS6 (fun cdv A outer s H E hr=>by
  exact⟨(U4),(aR (bI (wP B rfl (a7 a9 (a7 (gI (qv 2) (qv 1)) (a7 (gI (qv 0) (qv 3)) aB)))))),aO2⟩)
theorem aS8:FnScope ["one","other"] ["one","other"] (b6 (b9 17)):=.au
theorem aS9 (B:Bt mg) (F:FM K mg "hull_of" 17 f fd)  : Df P w K mg base 1 "hull_of" ["one","other"] mJ:=
 Df.au F aS8 (fun cdv A outer s H E hr=>by
  exact⟨(U6),(aR (bI (cI (a7 (nL B rfl (a7 (aT (qv 0) a9) (a7 (aT (qv 1) a9) aB))) (a7 (nL B rfl (a7 (aT (qv 0) a9) (a7 (aT (qv 1) a9) aB))) (a7 (lX B rfl (a7 (aT (qv 0) a9) (a7 (aT (qv 1) a9) aB))) (a7 (lX B rfl (a7 (aT (qv 0) a9) (a7 (aT (qv 1) a9) aB))) aB))))))),U9⟩)
theorem aT0:FnScope ["cells"] ["cells"] (b6 (b9 18)):=.au
theorem aT1 (B:Bt mg) (F:FM K mg "cell_boxes" 18 f fd)  : Df P w K mg base 1 "cell_boxes" ["cells"] mK:=
 Df.au F aT0 (fun cdv A outer s H E hr=>by
  exact⟨(V0),(aR (bI (M9 (N:=["row","column"]) (fr:=[none,none]) (iG (qv 0)) (fun _ _ _ _=>(cI (a7 (qv 0) (a7 (qv 1) (a7 (qv 0) (a7 (qv 1) aB))))))))),aO4⟩)
theorem aT2:FnScope ["script","k"] ["script","k"] (b6 (b9 24)):=.au
theorem aT3 (B:Bt mg) (F:FM K mg "_law_cell" 24 f fd)  : Df P w K mg base 1 "_law_cell" ["script","k"] gK:=
 Df.au F aT2 (fun cdv A outer s H E hr=>by
  exact⟨(M0),(aJ (c9 (nK (qv 1) (jY B (a7 (qv 0) aB))) (aR (bI (aT (qv 0) (qv 1)))) cC)
   (aR (bI a9))),az7⟩)
theorem Y9:FnScope ["one","other","down"] ["one","other"] (b6 (b9 27)):=.au
theorem aT4 (B:Bt mg) (F:FM K mg "_law_near" 27 f fd)  : Df P w K mg base 1 "_law_near" ["one","other"] oD:=
 Df.au F Y9 (fun cdv A outer s H E hr=>by
  have nd:=Y9.nd
  exact⟨(W7),(aJ (bH (i:=2) nd (wP B rfl (a7 a9 (a7 (gI (aT (qv 0) a9) (aT (qv 1) a9)) (a7 (gI (aT (qv 1) a9) (aT (qv 0) a9)) aB)))))
   (aR (bI (uO (e8 (qv 2) (wP B rfl (a7 a9 (a7 (gI (aT (qv 0) a9) (aT (qv 1) a9)) (a7 (gI (aT (qv 1) a9) (aT (qv 0) a9)) aB))))) a9)))),aP6⟩)
theorem aT5:FnScope ["one","other"] ["one","other"] (b6 (b9 28)):=.au
theorem aT6 (B:Bt mg) (F:FM K mg "_law_hull" 28 f fd)  : Df P w K mg base 1 "_law_hull" ["one","other"] mL:=
 Df.au F aT5 (fun cdv A outer s H E hr=>by
  exact⟨(W8),(aR (bI (cI (a7 (nL B rfl (a7 (aT (qv 0) a9) (a7 (aT (qv 1) a9) aB))) (a7 (nL B rfl (a7 (aT (qv 0) a9) (a7 (aT (qv 1) a9) aB))) (a7 (lX B rfl (a7 (aT (qv 0) a9) (a7 (aT (qv 1) a9) aB))) (a7 (lX B rfl (a7 (aT (qv 0) a9) (a7 (aT (qv 1) a9) aB))) aB))))))),aQ1⟩)
theorem aT7:FnScope ["rows","columns","cells"] ["rows","columns","cells"] (b6 (b9 12)):=.au
theorem aT8 (B:Bt mg) (F:FM K mg "made_cells" 12 f fd) (d_looked_through:cY P w K mg base 1 "looked_through" ["rows","columns"] rL) (d_rises:Df P w K mg base 1 "rises" ["things"] rK) (d_is_cell:Df P w K mg base 1 "is_cell" ["rows","columns","cell"] rN) (x_BadSet:Xc K mg base "BadSet"):cY P w K mg base 2 "made_cells" ["rows","columns","cells"] mG:=
 cY.au F aT7 R4 aJ1 (fun cdv A outer s H E Ep hr hX=>by
  exact (aJ (au1 (vT hX d_looked_through hr (a7 (qv 0) (a7 (qv 1) aB))))
   (aJ (c9 (gJ (iF (kJ (jV (bS d_rises hr (a7 (qv 2) aB)))) (jW (kJ (jV (E7 B rfl (a7 (F2 (N:=["cell","rows","columns"]) (fr:=[none,some 0,some 1]) (iG (qv 2)) (fun _ _ _ _=>(bS d_is_cell hr (a7 (qv 1) (a7 (qv 2) (a7 (qv 0) aB)))))) aB))))))) (aR (r6 hX x_BadSet (a7 fQ aB))) cC)
   (aR (bI (uQ B (a7 (qv 2) aB)))))))
theorem Z0:FnScope ["one","other","between_rows","between_columns"] ["one","other"] (b6 (b9 15)):=.au
theorem aT9 (B:Bt mg) (F:FM K mg "near_boxes" 15 f fd) (d_gap:Df P w K mg base 1 "gap" ["start","end","other_start","other_end"] oC) {u_MOST_STEPS_APART:Nat} (m_MOST_STEPS_APART:mg "MOST_STEPS_APART" = some (.int 2 u_MOST_STEPS_APART)):Df P w K mg base 2 "near_boxes" ["one","other"] mI:=
 Df.au F Z0 (fun cdv A outer s H E hr=>by
  have nd:=Z0.nd
  exact⟨(U5),(aJ (bH (i:=2) nd (bS d_gap hr (a7 (aT (qv 0) a9) (a7 (aT (qv 0) a9) (a7 (aT (qv 1) a9) (a7 (aT (qv 1) a9) aB))))))
   (aJ (bH (i:=3) nd (bS d_gap hr (a7 (aT (qv 0) a9) (a7 (aT (qv 0) a9) (a7 (aT (qv 1) a9) (a7 (aT (qv 1) a9) aB))))))
   (aR (bI (au0 (e8 (qv 2) (qv 3)) (N0 rfl m_MOST_STEPS_APART)))))),aO3⟩)
theorem Z1:FnScope ["script","k","stir"] ["script","k"] (b6 (b9 25)):=.au
theorem aU0 (B:Bt mg) (F:FM K mg "_law_number" 25 f fd) (d__law_cell:Df P w K mg base 1 "_law_cell" ["script","k"] gK):Df P w K mg base 2 "_law_number" ["script","k"] rO:=
 Df.au F Z1 (fun cdv A outer s H E hr=>by
  have nd:=Z1.nd
  exact⟨(R9),(aJ (c9 (nK (qv 1) (jY B (a7 (qv 0) aB))) (aR (bI (aT (qv 0) (qv 1)))) cC)
   (aJ (bH (i:=2) nd (c8 (nJ (e8 (e8 (c8 (bS d__law_cell hr (a7 (qv 0) (a7 (c8 (qv 1) (lX B rfl (a7 a9 (a7 (jY B (a7 (qv 0) aB)) aB)))) aB))) a9) (nJ a9 (qv 1))) a9) a9) a9))
   (aR (bI (dS (c8 (nJ (qv 2) (qv 2)) a9) a9))))),aJ6⟩)
theorem Z2:FnScope ["seeds","steps","there","row","column","one","other","boxes","k"] ["seeds","steps"] (b6 (b9 29)):=.au
theorem aU1 (B:Bt mg) (F:FM K mg "_law_led" 29 f fd) (d__law_near:Df P w K mg base 1 "_law_near" ["one","other"] oD) (d__law_hull:Df P w K mg base 1 "_law_hull" ["one","other"] mL):Df P w K mg base 2 "_law_led" ["seeds","steps"] sK:=
 Df.au F Z2 (fun cdv A outer s H E hr=>by
  have nd:=Z2.nd
  have hu:=nA hr
  have hu3:=oG hr
  exact⟨(X3),(aJ (jX (i:=2) nd E4)
   (aJ (uU 3 4 nd (iG (qv 0))
    (aR (qD hu (i:=2) (cI (a7 (qv 3) (a7 (qv 4) (a7 (qv 3) (a7 (qv 4) aB))))) iD)))
   (aJ (uU 5 6 nd (iG (qv 1))
    (aJ (c9 (gJ (iF (pW hu (qv 5) (qv 2)) (iF (pW hu (qv 6) (qv 2)) (iF (kJ (aH5 hu3 (qv 5) (qv 6))) (jW (kJ (jV (bS d__law_near hr (a7 (qv 5) (a7 (qv 6) aB)))))))))) (aR (bI gH)) cC)
    (aJ (rA 2 hu (qv 5))
    (aJ (rA 2 hu (qv 6))
    (aR (qD hu (i:=2) (bS d__law_hull hr (a7 (qv 5) (a7 (qv 6) aB))) iD))))))
   (aJ (bH (i:=7) nd (aK7 B (a7 (az9 B rfl (a7 (qv 2) aB)) aB)))
   (aJ (j7 8 nd (qE rfl B.range (jY B (a7 (qv 7) aB)))
    (aR (j7 6 nd (iG (hJ (qv 7) gZ (hG (qv 8))))
     (aR (c9 (jV (bS d__law_near hr (a7 (aT (qv 7) (qv 8)) (a7 (qv 6) aB)))) (aR (bI gH)) cC)))))
   (aR (lW 7))))))),aR0⟩)
theorem Z3:FnScope ["step","cell","one","other","way"] ["step","cell"] (b6 (b9 30)):=.au
theorem aU2 (B:Bt mg) (F:FM K mg "_law_other_step" 30 f fd) (d__law_hull:Df P w K mg base 1 "_law_hull" ["one","other"] mL):Df P w K mg base 2 "_law_other_step" ["step","cell"] sM:=
 Df.au F Z3 (fun cdv A outer s H E hr=>by
  have nd:=Z3.nd
  exact⟨(X6),(aJ (aE1 2 3 nd (qv 0))
   (aJ (bH (i:=4) nd (c8 (qv 1) a9))
   (aJ (c9 (fR (qv 4) a9) (aR (bI (cI (a7 (qv 3) (a7 (qv 2) aB))))) cC)
   (aJ (c9 (fR (qv 4) a9) (aR (bI (cI (a7 (qv 2) (a7 (qv 2) aB))))) cC)
   (aJ (c9 (fR (qv 4) a9) (aR (bI (cI (a7 (aC9 (hJ (qv 2) gZ (hG a9)) (cI (a7 (e8 (aT (qv 2) a9) a9) aB))) (a7 (qv 3) aB))))) cC)
   (aJ (c9 (fR (qv 4) a9) (aR (bI (cI (a7 (qv 2) (a7 (cI (a7 (aT (qv 3) a9) (a7 (aT (qv 3) a9) (a7 (e8 (aT (qv 3) a9) (c8 (dS (qv 1) a9) a9)) (a7 (aT (qv 3) a9) aB))))) aB))))) cC)
   (aJ (c9 (fR (qv 4) a9) (aR (bI (cI (a7 (cI (a7 (gI (E8 a9) (c8 (dS (qv 1) a9) (at9 a9 a9))) (a7 a9 (a7 a9 (a7 a9 aB))))) (a7 (qv 3) aB))))) cC)
   (aR (bI (cI (a7 (qv 2) (a7 (bS d__law_hull hr (a7 (qv 2) (a7 (qv 3) aB))) aB)))))))))))),aR5⟩)
theorem Z4:FnScope ["boxes","box","other"] ["boxes","box"] (b6 (b9 20)):=.au
theorem aU3 (B:Bt mg) (F:FM K mg "first_near" 20 f fd) (d_near_boxes:Df P w K mg base 2 "near_boxes" ["one","other"] mI):Df P w K mg base 3 "first_near" ["boxes","box"] l8:=
 Df.au F Z4 (fun cdv A outer s H E hr=>by
  have nd:=Z4.nd
  exact⟨(V1),(aJ (j7 2 nd (iG (qv 0))
    (aR (c9 (jV (bS d_near_boxes hr (a7 (qv 2) (a7 (qv 1) aB)))) (aR (lW 2)) cC)))
   (aR (bI gH))),aO6⟩)
theorem aU4:FnScope ["there","step"] ["there","step"] (b6 (b9 22)):=.au
theorem aU5 (B:Bt mg) (F:FM K mg "may_be_done" 22 f fd) (d_near_boxes:Df P w K mg base 2 "near_boxes" ["one","other"] mI):Df P w K mg base 3 "may_be_done" ["there","step"] rZ:=
 Df.au F aU4 (fun cdv A outer s H E hr=>by
  have hu:=nA hr
  have hu3:=oG hr
  exact⟨(V5 K),(aJ (c9 (gJ (iF (kJ (jV (au7 B (qv 1)))) (jW (C9 (jY B (a7 (qv 1) aB)) a9)))) (aR (bI iD)) cC)
   (aJ (c9 (gJ (iF (pW hu (aT (qv 1) a9) (qv 0)) (jW (pW hu (aT (qv 1) a9) (qv 0))))) (aR (bI iD)) cC)
   (aR (bI (pZ (aH4 hu3 (aT (qv 1) a9) (aT (qv 1) a9)) (E2 (bS d_near_boxes hr (a7 (aT (qv 1) a9) (a7 (aT (qv 1) a9) aB))))))))),aO9 (aA5 K).tt⟩)
theorem Z5:FnScope ["script","at","rows","columns","cell","seeds","place","many","row","column","k"] ["script","at","rows","columns"] (b6 (b9 26)):=.au
theorem aU6 (B:Bt mg) (F:FM K mg "_law_seeds" 26 f fd) (d__law_cell:Df P w K mg base 1 "_law_cell" ["script","k"] gK) (d__law_number:Df P w K mg base 2 "_law_number" ["script","k"] rO):Df P w K mg base 3 "_law_seeds" ["script","at","rows","columns"] rP:=
 Df.au F Z5 (fun cdv A outer s H E hr=>by
  have nd:=Z5.nd
  have hu3:=oG hr
  exact⟨(S0),(aJ (bH (i:=4) nd (bS d__law_cell hr (a7 (qv 0) (a7 (qv 1) aB))))
   (aJ (c9 (gJ (pY (fR (c8 (qv 4) a9) a9) (pX (nK (nJ (qv 2) (qv 3)) a9)))) (aJ (jX (i:=5) nd (gX aB))
    (aJ (j7 6 nd (qE rfl B.range (nJ (qv 2) (qv 3)))
     (aJ (bH (i:=4) nd (dS (qv 4) a9))
     (aR (c9 (fR (c8 (qv 4) a9) a9) (aR (qB 5 (cI (a7 (dS (qv 6) (qv 3)) (a7 (c8 (qv 6) (qv 3)) aB))))) cC))))
    (aR (bI (uQ B (a7 (qv 5) aB)))))) cC)
   (aJ (bH (i:=7) nd (gI (jY B (a7 (qv 0) aB)) (qv 1)))
   (aJ (c9 (nK (qv 7) a9) (aR (bH (i:=7) nd a9)) cC)
   (aJ (jX (i:=5) nd (gX aB))
   (aJ (bH (i:=8) nd a9)
   (aJ (bH (i:=9) nd a9)
   (aJ (j7 10 nd (qE rfl B.range (qv 7))
    (aJ (bH (i:=4) nd (bS d__law_number hr (a7 (qv 0) (a7 (e8 (qv 1) (qv 10)) aB))))
    (aJ (c9 (fR (c8 (qv 4) a9) a9) (aJ (bH (i:=8) nd (c8 (dS (qv 4) a9) (qv 2)))
     (aR (bH (i:=9) nd (c8 (dS (qv 4) a9) (qv 3))))) (aJ (bH (i:=8) nd (c8 (gI (e8 (qv 8) (c8 (dS (qv 4) a9) a9)) a9) (qv 2)))
     (aR (bH (i:=9) nd (c8 (gI (e8 (qv 9) (c8 (dS (qv 4) a9) a9)) a9) (qv 3))))))
    (aR (c9 (gJ (pY (aH0 hu3 (cI (a7 (qv 8) (a7 (qv 9) aB))) (qv 5)) (pX (C8 (c8 (dS (qv 4) a9) a9) a9)))) (aR (qB 5 (cI (a7 (qv 8) (a7 (qv 9) aB))))) cC)))))
   (aR (bI (uQ B (a7 (aF2 B (a7 (qv 5) aB)) aB)))))))))))),aJ9⟩)
theorem Z6:FnScope ["steps","cell","far","place"] ["steps","cell"] (b6 (b9 31)):=.au
theorem aU7 (B:Bt mg) (F:FM K mg "_law_put_otherwise" 31 f fd) (d__law_other_step:Df P w K mg base 2 "_law_other_step" ["step","cell"] sM):Df P w K mg base 3 "_law_put_otherwise" ["steps","cell"] sN:=
 Df.au F Z6 (fun cdv A outer s H E hr=>by
  have nd:=Z6.nd
  exact⟨(X7),(aJ (jX (i:=0) nd (uR B (a7 (qv 0) aB)))
   (aJ (c9 (gJ (iF (fR (jY B (a7 (qv 0) aB)) a9) (jW (fR (c8 (qv 1) a9) a9)))) (aJ (bH (i:=2) nd (c8 (dS (qv 1) a9) a9))
    (aR (bI (kS (qv 0) (gX (a7 (cI (a7 (cI (a7 a9 (a7 (qv 2) (a7 a9 (a7 (qv 2) aB))))) (a7 (cI (a7 a9 (a7 (e8 (qv 2) (c8 (dS (qv 1) a9) a9)) (a7 a9 (a7 (e8 (qv 2) (c8 (dS (qv 1) a9) a9)) aB))))) aB))) aB)))))) cC)
   (aJ (bH (i:=3) nd (c8 (dS (qv 1) a9) (jY B (a7 (qv 0) aB))))
   (aJ (c9 (fR (c8 (qv 1) a9) a9) (aR (bI (kS (hJ (qv 0) gZ (hG (qv 3))) (hJ (qv 0) (hG (e8 (qv 3) a9)) gZ)))) cC)
   (aJ (c9 (fR (c8 (qv 1) a9) a9) (aR (bI (kS (kS (hJ (qv 0) gZ (hG (qv 3))) (gX (a7 (aT (qv 0) (qv 3)) aB))) (hJ (qv 0) (hG (qv 3)) gZ)))) cC)
   (aJ (c9 (fR (c8 (qv 1) a9) a9) (aJ (aJ5 0 (qv 3) (gI (qv 3) a9) (cI (a7 (aT (qv 0) (gI (qv 3) a9)) (a7 (aT (qv 0) (qv 3)) aB))))
    (aR (lW 0))) cC)
   (aR (bI (kS (kS (hJ (qv 0) gZ (hG (qv 3))) (gX (a7 (bS d__law_other_step hr (a7 (aT (qv 0) (qv 3)) (a7 (dS (qv 1) a9) aB))) aB))) (hJ (qv 0) (hG (e8 (qv 3) a9)) gZ)))))))))),aR6⟩)
theorem Z7:FnScope ["rows","columns","seeds","settled","steps","box","growing","close"] ["rows","columns","seeds"] (b6 (b9 19)):=.au
theorem aU8 (B:Bt mg) (F:FM K mg "growth" 19 f fd) (d_cell_boxes:Df P w K mg base 1 "cell_boxes" ["cells"] mK) (d_made_cells:cY P w K mg base 2 "made_cells" ["rows","columns","cells"] mG) (d_first_near:Df P w K mg base 3 "first_near" ["boxes","box"] l8) (d_hull_of:Df P w K mg base 1 "hull_of" ["one","other"] mJ):cY P w K mg base 4 "growth" ["rows","columns","seeds"] sD:=
 cY.au F Z7 W5 aP4 (fun cdv A outer s H E Ep hr hX=>by
  have nd:=Z7.nd
  have hu3:=oG hr
  exact (aJ (jX (i:=3) nd (gX aB))
   (aJ (jX (i:=4) nd (gX aB))
   (aJ (j7 5 (hp:=hX.own) nd (iG (bS d_cell_boxes hr (a7 (vT hX d_made_cells hr (a7 (qv 0) (a7 (qv 1) (a7 (qv 2) aB)))) aB)))
    (aJ (bH (i:=6) nd (qv 5))
    (aJ (bH (i:=7) nd (bS d_first_near hr (a7 (qv 3) (a7 (qv 6) aB))))
    (aJ (au2 hX.own (uP (qv 7) gH)
     (aJ (qB 4 (cI (a7 (aM1 B rfl hu3 (a7 (qv 6) (a7 (qv 7) aB))) (a7 (aM2 B rfl hu3 (a7 (qv 6) (a7 (qv 7) aB))) aB))))
     (aJ (bH (i:=6) nd (bS d_hull_of hr (a7 (qv 6) (a7 (qv 7) aB))))
     (aJ (aM7 3 hu3 (qv 7))
     (aR (bH (i:=7) nd (bS d_first_near hr (a7 (qv 3) (a7 (qv 6) aB)))))))))
    (aR (qB 3 (qv 6)))))))
   (aR (lW 4))))))
theorem Z8:FnScope ["rows","columns","seeds","steps","there","step","boxes","turn","box"] ["rows","columns","seeds","steps"] (b6 (b9 21)):=.au
theorem aU9 (B:Bt mg) (F:FM K mg "judged_growth" 21 f fd) (d_marked:Df P w K mg base 1 "marked" ["hearths"] sA) (d_cell_boxes:Df P w K mg base 1 "cell_boxes" ["cells"] mK) (d_made_cells:cY P w K mg base 2 "made_cells" ["rows","columns","cells"] mG) (d_may_be_done:Df P w K mg base 3 "may_be_done" ["there","step"] rZ) (d_hull_of:Df P w K mg base 1 "hull_of" ["one","other"] mJ) (d_first_near:Df P w K mg base 3 "first_near" ["boxes","box"] l8) (x_NoPaper:Xc K mg base "NoPaper"):cY P w K mg base 4 "judged_growth" ["rows","columns","seeds","steps"] sE:=
 cY.au F Z8 W6 aP5 (fun cdv A outer s H E Ep hr hX=>by
  have nd:=Z8.nd
  have hu:=nA hr
  exact (aJ (jX (i:=4) nd (bS d_marked hr (a7 (bS d_cell_boxes hr (a7 (vT hX d_made_cells hr (a7 (qv 0) (a7 (qv 1) (a7 (qv 2) aB)))) aB)) aB)))
   (aJ (j7 5 (hp:=hX.own) nd (iG (qv 3))
    (aJ (c9 (kJ (jV (bS d_may_be_done hr (a7 (qv 4) (a7 (qv 5) aB))))) (aR (r6 hX x_NoPaper (a7 fQ aB))) cC)
    (aJ (rA 4 hu (aT (qv 5) a9))
    (aJ (rA 4 hu (aT (qv 5) a9))
    (aR (qD hu (i:=4) (bS d_hull_of hr (a7 (aT (qv 5) a9) (a7 (aT (qv 5) a9) aB))) iD))))))
   (aJ (bH (i:=6) nd (aK5 B rfl (a7 (qv 4) aB)))
   (aJ (uU 7 8 (hp:=hX.own) nd (aC6 rfl B.enum (qv 6))
    (aR (c9 (uP (bS d_first_near hr (a7 (hJ (qv 6) gZ (hG (qv 7))) (a7 (qv 8) aB))) gH) (aR (r6 hX x_NoPaper (a7 fQ aB))) cC)))
   (aR (lW 6)))))))
theorem Z9:FnScope ["rows","columns","seeds","steps","caught","found","e","kinds"] ["rows","columns","seeds","steps"] (b6 (b9 32)):=.au
theorem aV0 (B:Bt mg) (F:FM K mg "_law_asked" 32 f fd) (d_judged_growth:cY P w K mg base 4 "judged_growth" ["rows","columns","seeds","steps"] sE) (cat_HearthError:vV K mg "HearthError") (is_BadSet:kW K mg "BadSet") (is_BadBoard:kW K mg "BadBoard") (is_NoPaper:kW K mg "NoPaper") (is_ValueError:vX K mg):Df P w K mg base 5 "_law_asked" ["rows","columns","seeds","steps"] mM:=
 Df.au F Z9 (fun cdv A outer s H E hr=>by
  have nd:=Z9.nd
  exact⟨(X4),(aJ (bH (i:=4) nd gH)
   (aJ (bH (i:=5) nd gH)
   (aJ (aE5 6 cat_HearthError nd (aQ7 5 d_judged_growth hr nd (fun _=>(a7 (qv 0) (a7 (qv 1) (a7 (qv 2) (a7 (qv 3) aB)))))) (fun _=>(aR (bH (i:=4) nd (qv 6)))))
   (aJ (c9 (E1 (qv 4) gH) (aR (bI (E3 (a7 fQ (a7 (qv 5) aB))))) cC)
   (aJ (bH (i:=7) nd (gX (a7 (vY B is_BadBoard (qv 4)) (a7 (vY B is_BadSet (qv 4)) (a7 (vY B is_NoPaper (qv 4)) aB)))))
   (aJ (c9 (gJ (iF (kJ (jV (aE8 B is_ValueError (qv 4)))) (jW (C9 (aD7 B rfl (a7 (F2 (N:=["one"]) (fr:=[none]) (iG (qv 7)) (fun _ _ _ _=>(aG7 B (a7 (qv 0) aB)))) aB)) a9)))) (aR (bI (cI (a7 fQ (a7 gH aB))))) cC)
   (aR (bI (cI (a7 (aT (gX (a7 fQ (a7 fQ (a7 fQ aB)))) (aI7 (qv 7) iD)) (a7 gH aB))))))))))),aR4⟩)
theorem aa0:FnScope ["script","rows","columns","seeds","steps","k","handed","found","due","odd","wrong"] ["script"] (b6 (b9 33)):=.au
theorem aV1 (B:Bt mg) (F:fE K "law" "law" (b9 33) f fd) (d__law_cell:Df P w K mg base 1 "_law_cell" ["script","k"] gK) (d__law_seeds:Df P w K mg base 3 "_law_seeds" ["script","at","rows","columns"] rP) (d_growth:cY P w K mg base 4 "growth" ["rows","columns","seeds"] sD) (d__law_put_otherwise:Df P w K mg base 3 "_law_put_otherwise" ["steps","cell"] sN) (d__law_asked:Df P w K mg base 5 "_law_asked" ["rows","columns","seeds","steps"] mM) (d__law_led:Df P w K mg base 2 "_law_led" ["seeds","steps"] sK):dC P w K mg base eG 6 f fd ["script"] (nH K x6):=
 aA6 F aa0 (fun xs Q h=>by unfold x6 at h; repeat (first | (obtain ⟨rfl,_⟩:=h; rfl) | (obtain ⟨_,h⟩:=h))) (fun cdv A outer s H E hr=>by
  have nd:=aa0.nd
  have hu3:=oG hr
  exact⟨(Y3),(aJ (bH (i:=1) nd (e8 a9 (c8 (bS d__law_cell hr (a7 (qv 0) (a7 a9 aB))) a9)))
   (aJ (bH (i:=2) nd (e8 a9 (c8 (dS (bS d__law_cell hr (a7 (qv 0) (a7 a9 aB))) a9) a9)))
   (aJ (bH (i:=3) nd (hJ (bS d__law_seeds hr (a7 (qv 0) (a7 a9 (a7 (qv 1) (a7 (qv 2) aB))))) gZ (hG a9)))
   (aJ (bH (i:=4) nd (aE2 d_growth hr (a7 (qv 1) (a7 (qv 2) (a7 (qv 3) aB)))))
   (aJ (j7 5 nd (qE rfl B.range (c8 (bS d__law_cell hr (a7 (qv 0) (a7 a9 aB))) a9))
    (aR (bH (i:=4) nd (bS d__law_put_otherwise hr (a7 (qv 4) (a7 (bS d__law_cell hr (a7 (qv 0) (a7 (e8 a9 (qv 5)) aB))) aB))))))
   (aJ (bH (i:=6) nd (uR B (a7 (qv 4) aB)))
   (aJ (bH (i:=7) nd (bS d__law_asked hr (a7 (qv 1) (a7 (qv 2) (a7 (qv 3) (a7 (qv 6) aB))))))
   (aJ (bH (i:=8) nd (bS d__law_led hr (a7 (qv 3) (a7 (qv 4) aB))))
   (aJ (c9 (F0 hu3 (qv 6) (qv 4)) (aR (bI iD)) cC)
   (aJ (c9 (gJ (iF (gJ (pY (E1 (qv 8) gH) (pX (Q0 (aT (qv 7) a9) fQ)))) (jW (gJ (pY (uP (qv 8) gH) (pX (F0 hu3 (qv 7) (E3 (a7 fQ (a7 (qv 8) aB)))))))))) (aR (bI iD)) cC)
   (aJ (bH (i:=9) nd (kS (uR B (a7 (qv 3) aB)) (gX (a7 (cI (a7 a9 (a7 (E8 a9) aB))) aB))))
   (aJ (c9 (Q0 (aT (bS d__law_asked hr (a7 (qv 1) (a7 (qv 2) (a7 (qv 9) (a7 (qv 4) aB))))) a9) fQ) (aR (bI iD)) cC)
   (aJ (bH (i:=10) nd (aT (gX (a7 (cI (a7 a9 (a7 (qv 2) aB))) (a7 (cI (a7 (qv 1) (a7 a9 aB))) (a7 (cI (a7 a9 (a7 a9 aB))) aB)))) (c8 (dS (bS d__law_cell hr (a7 (qv 0) (a7 a9 aB))) a9) a9)))
   (aR (bI (aH3 (aT (bS d__law_asked hr (a7 (aT (qv 10) a9) (a7 (aT (qv 10) a9) (a7 (qv 9) (a7 (qv 4) aB))))) a9) fQ)))))))))))))))),aR9⟩)
end
set_option autoImplicit true in
theorem aV2 {l:OpenLaw}{w:World}{K:Frag}{h:Heap}{mg:Str->Option Value} (X:K.In h) (G:h.Ns mainGlobals mg) (hfa:mg "law" = some (.ref fa))
  (h0:FK K "rises" 6 f0 d0)
  (h1:FK K "marked" 7 f1 d1)
  (h2:FK K "looked_through" 10 f2 d2)
  (h3:FK K "is_cell" 11 f3 d3)
  (h4:FK K "gap" 16 f4 d4)
  (h5:FK K "hull_of" 17 f5 d5)
  (h6:FK K "cell_boxes" 18 f6 d6)
  (h7:FK K "_law_cell" 24 f7 d7)
  (h8:FK K "_law_near" 27 f8 d8)
  (h9:FK K "_law_hull" 28 f9 d9)
  (h10:FK K "made_cells" 12 f10 d10)
  (h11:FK K "near_boxes" 15 f11 d11)
  (h12:FK K "_law_number" 25 f12 d12)
  (h13:FK K "_law_led" 29 f13 d13)
  (h14:FK K "_law_other_step" 30 f14 d14)
  (h15:FK K "first_near" 20 f15 d15)
  (h16:FK K "may_be_done" 22 f16 d16)
  (h17:FK K "_law_seeds" 26 f17 d17)
  (h18:FK K "_law_put_otherwise" 31 f18 d18)
  (h19:FK K "growth" 19 f19 d19)
  (h20:FK K "judged_growth" 21 f20 d20)
  (h21:FK K "_law_asked" 32 f21 d21)
  (a22:nsIn K mainGlobals "law" = some (some (.ref f22))) (l22:K.lookup f22=some ⟨oc22,od22,.func (fnOf "law" "law" (iU (b9 33)) (dU (b9 33)) (b6 (b9 33)) .none kV22 dc22 pm22 an22 cd22 ct22),sl22⟩) (c22:codeIn K cd22 "law" = true) (k22:keepIn K (.ref f22)=true)
  (z_len:nsIn K mainGlobals "len" = some none)
  (z_range:nsIn K mainGlobals "range" = some none)
  (z_tuple:nsIn K mainGlobals "tuple" = some none)
  (z_list:nsIn K mainGlobals "list" = some none)
  (z_sorted:nsIn K mainGlobals "sorted" = some none)
  (z_all:nsIn K mainGlobals "all" = some none)
  (z_any:nsIn K mainGlobals "any" = some none)
  (z_zip:nsIn K mainGlobals "zip" = some none)
  (z_min:nsIn K mainGlobals "min" = some none)
  (z_max:nsIn K mainGlobals "max" = some none)
  (z_sum:nsIn K mainGlobals "sum" = some none)
  (z_isinstance:nsIn K mainGlobals "isinstance" = some none)
  (z_int:nsIn K mainGlobals "int" = some none)
  (z_bool:nsIn K mainGlobals "bool" = some none)
  (z_enumerate:nsIn K mainGlobals "enumerate" = some none)
  {u_MOST_ROWS:Nat} (z_MOST_ROWSx:nsIn K mainGlobals "MOST_ROWS" = some (some (.int 40 u_MOST_ROWS)))
  {u_MOST_STEPS_APART:Nat} (z_MOST_STEPS_APARTx:nsIn K mainGlobals "MOST_STEPS_APART" = some (some (.int 2 u_MOST_STEPS_APART)))
  {C_HearthError C_BadSet C_BadBoard C_NoPaper:Addr}
  (aX_HE:nsIn K mainGlobals "HearthError" = some (some (.ref C_HearthError)))
  (aX_BS:nsIn K mainGlobals "BadSet" = some (some (.ref C_BadSet)))
  (aX_BB:nsIn K mainGlobals "BadBoard" = some (some (.ref C_BadBoard)))
  (aX_NP:nsIn K mainGlobals "NoPaper" = some (some (.ref C_NoPaper)))
  (zX_BW:nsIn K mainGlobals "BadWeb" = some none)
  (zX_BO:nsIn K mainGlobals "BadOrder" = some none)
  (zX_BP:nsIn K mainGlobals "BadPrices" = some none)
  (zX_BD:nsIn K mainGlobals "BadDeed" = some none)
  (zX_NW:nsIn K mainGlobals "NotWood" = some none)
  (zX_NS:nsIn K mainGlobals "NoSuch" = some none)
  (zX_TM:nsIn K mainGlobals "TooMany" = some none)
  (zX_NT:nsIn K mainGlobals "NoText" = some none)
  (zX_OR:nsIn K mainGlobals "OddRound" = some none)
  (y_fg:specialIn K (.builtin "object.__class__") "__get__" = some (some (.builtin "getset_descriptor.__get__")))
  (y_ft:takesIn K (.builtin "object.__class__")=some true)
  (z_VE:nsIn K mainGlobals "ValueError" = some none)
  (y1_HE:isClsIn K C_HearthError=true)
  (y2_HE:typeIn K (.ref C_HearthError)=some (.type "type"))
  (y3_HE:findIn K (.ref C_HearthError) "__getattribute__" = some (some (.builtin "BaseException.__getattribute__")))
  (y4_HE:findIn K (.ref C_HearthError) "__getattr__" = some none)
  (y5_HE:findIn K (.ref C_HearthError) "__class__" = some (some (.builtin "object.__class__")))
  (y6_HE:mroIn K C_HearthError (.type "object")=some true)
  (y7_HE:mroIn K C_HearthError (.type "BaseException")=some true)
  (y1_BS:isClsIn K C_BadSet=true)
  (y2_BS:typeIn K (.ref C_BadSet)=some (.type "type"))
  (y3_BS:findIn K (.ref C_BadSet) "__getattribute__" = some (some (.builtin "BaseException.__getattribute__")))
  (y4_BS:findIn K (.ref C_BadSet) "__getattr__" = some none)
  (y5_BS:findIn K (.ref C_BadSet) "__class__" = some (some (.builtin "object.__class__")))
  (y6_BS:mroIn K C_BadSet (.type "object")=some true)
  (y7_BS:mroIn K C_BadSet (.type "BaseException")=some true)
  (y1_BB:isClsIn K C_BadBoard=true)
  (y2_BB:typeIn K (.ref C_BadBoard)=some (.type "type"))
  (y3_BB:findIn K (.ref C_BadBoard) "__getattribute__" = some (some (.builtin "BaseException.__getattribute__")))
  (y4_BB:findIn K (.ref C_BadBoard) "__getattr__" = some none)
  (y5_BB:findIn K (.ref C_BadBoard) "__class__" = some (some (.builtin "object.__class__")))
  (y6_BB:mroIn K C_BadBoard (.type "object")=some true)
  (y7_BB:mroIn K C_BadBoard (.type "BaseException")=some true)
  (y1_NP:isClsIn K C_NoPaper=true)
  (y2_NP:typeIn K (.ref C_NoPaper)=some (.type "type"))
  (y3_NP:findIn K (.ref C_NoPaper) "__getattribute__" = some (some (.builtin "BaseException.__getattribute__")))
  (y4_NP:findIn K (.ref C_NoPaper) "__getattr__" = some none)
  (y5_NP:findIn K (.ref C_NoPaper) "__class__" = some (some (.builtin "object.__class__")))
  (y6_NP:mroIn K C_NoPaper (.type "object")=some true)
  (y7_NP:mroIn K C_NoPaper (.type "BaseException")=some true)
  (sB_HE:subIn K (.ref C_HearthError) (.type "BaseException")=some true)
  (s_BS_HE:subIn K (.ref C_BadSet) (.ref C_HearthError)=some true)
  (s_BB_HE:subIn K (.ref C_BadBoard) (.ref C_HearthError)=some true)
  (s_NP_HE:subIn K (.ref C_NoPaper) (.ref C_HearthError)=some true)
  (sN_BB:subIn K (.type "NoneType") (.ref C_BadBoard)=some false)
  (s_BS_BB:subIn K (.ref C_BadSet) (.ref C_BadBoard)=some false)
  (n_BS_BB:(C_BadSet == C_BadBoard)=false)
  (s_NP_BB:subIn K (.ref C_NoPaper) (.ref C_BadBoard)=some false)
  (n_NP_BB:(C_NoPaper == C_BadBoard)=false)
  (sN_BS:subIn K (.type "NoneType") (.ref C_BadSet)=some false)
  (s_BB_BS:subIn K (.ref C_BadBoard) (.ref C_BadSet)=some false)
  (n_BB_BS:(C_BadBoard == C_BadSet)=false)
  (s_NP_BS:subIn K (.ref C_NoPaper) (.ref C_BadSet)=some false)
  (n_NP_BS:(C_NoPaper == C_BadSet)=false)
  (sN_NP:subIn K (.type "NoneType") (.ref C_NoPaper)=some false)
  (s_BS_NP:subIn K (.ref C_BadSet) (.ref C_NoPaper)=some false)
  (n_BS_NP:(C_BadSet == C_NoPaper)=false)
  (s_BB_NP:subIn K (.ref C_BadBoard) (.ref C_NoPaper)=some false)
  (n_BB_NP:(C_BadBoard == C_NoPaper)=false)
  (sV_BS:subIn K (.ref C_BadSet) (.type "ValueError")=some true)
  (sV_BB:subIn K (.ref C_BadBoard) (.type "ValueError")=some true)
  (sV_NP:subIn K (.ref C_NoPaper) (.type "ValueError")=some true)
  (q_BB:excIn K C_BadBoard [.type "ValueError",.type "Exception",.type "BaseException",.type "object"] "ValueError.__new__" = true)
  (q_BS:excIn K C_BadSet [.type "ValueError",.type "Exception",.type "BaseException",.type "object"] "ValueError.__new__" = true)
  (q_NP:excIn K C_NoPaper [.type "ValueError",.type "Exception",.type "BaseException",.type "object"] "ValueError.__new__" = true)
  : ∃ fd:FuncData,(∀ (s:Shared) (v:Value),BindsTo s fd ⟨[v],[]⟩ [("script",v)])/\∀ base:Heap,K.In base->base.Ns mainGlobals mg->dC l.prog w K mg base eG 6 fa fd ["script"] (qY K):=by
 have e:=hfa.symm.trans (mg_of X G a22)
 cases e
 have F22:=al9 (st:=b9 33) l22 c22 k22
 have m22:=mg_of X G a22
 have B:Bt mg:=⟨mg_none_of X G z_len,mg_none_of X G z_range,mg_none_of X G z_tuple,mg_none_of X G z_list,mg_none_of X G z_sorted,mg_none_of X G z_all,mg_none_of X G z_any,mg_none_of X G z_zip,mg_none_of X G z_min,mg_none_of X G z_max,mg_none_of X G z_sum,mg_none_of X G z_isinstance,mg_none_of X G z_int,mg_none_of X G z_bool,mg_none_of X G z_enumerate⟩
 have m_MOST_ROWS:=mg_of X G z_MOST_ROWSx
 have m_MOST_STEPS_APART:=mg_of X G z_MOST_STEPS_APARTx
 refine⟨fnOf "law" "law" (iU (b9 33)) (dU (b9 33)) (b6 (b9 33)) .none kV22 dc22 pm22 an22 cd22 ct22,fun s v=>.of_eq rfl,fun base KB _=>?_⟩
 have XK_HearthError:k8 K C_HearthError:=⟨y1_HE,y2_HE,y3_HE,y4_HE,y5_HE,y_fg,y_ft,y6_HE,y7_HE⟩
 have XK_BadSet:k8 K C_BadSet:=⟨y1_BS,y2_BS,y3_BS,y4_BS,y5_BS,y_fg,y_ft,y6_BS,y7_BS⟩
 have XK_BadBoard:k8 K C_BadBoard:=⟨y1_BB,y2_BB,y3_BB,y4_BB,y5_BB,y_fg,y_ft,y6_BB,y7_BB⟩
 have XK_NoPaper:k8 K C_NoPaper:=⟨y1_NP,y2_NP,y3_NP,y4_NP,y5_NP,y_fg,y_ft,y6_NP,y7_NP⟩
 have cat_HearthError:vV K mg "HearthError":=⟨C_HearthError,mg_of X G aX_HE,⟨y1_HE,y2_HE,sB_HE⟩,fun n C h2 h1=>by
  obtain ⟨hm,hb⟩:=nY h2
  simp only [kT,aW3,aX2,aZ8] at hm
  rcases hm with rfl | rfl | rfl | rfl | rfl | rfl | rfl | rfl | rfl | rfl | rfl | rfl
  ·rw [zX_BW] at h1; cases h1
  ·rw [aX_BS] at h1; cases h1; exact s_BS_HE
  ·rw [zX_BO] at h1; cases h1
  ·rw [zX_BP] at h1; cases h1
  ·rw [aX_BB] at h1; cases h1; exact s_BB_HE
  ·rw [zX_BD] at h1; cases h1
  ·rw [zX_NW] at h1; cases h1
  ·rw [aX_NP] at h1; cases h1; exact s_NP_HE
  ·rw [zX_NS] at h1; cases h1
  ·rw [zX_TM] at h1; cases h1
  ·rw [zX_NT] at h1; cases h1
  ·rw [zX_OR] at h1; cases h1⟩
 have is_BadBoard:kW K mg "BadBoard":=⟨C_BadBoard,mg_of X G aX_BB,fun z=>(by cases z),(fun n C b h1 h2=>by
  obtain ⟨hm,hb⟩:=nY h2
  simp only [kT,aW3,aX2,aZ8] at hm
  rcases hm with rfl | rfl | rfl | rfl | rfl | rfl | rfl | rfl | rfl | rfl | rfl | rfl
  ·rw [zX_BW] at h1; cases h1
  ·rw [aX_BS] at h1; cases h1; rw [hb,show (("BadSet" : Str) == "BadBoard" || ("BadBoard" : Str) == "HearthError" || ("BadBoard" : Str) == "ValueError")=false by decide]; exact⟨XK_BadSet.exc,mD XK_BadBoard n_BS_BB s_BS_BB⟩
  ·rw [zX_BO] at h1; cases h1
  ·rw [zX_BP] at h1; cases h1
  ·rw [aX_BB] at h1; cases h1; rw [hb,show (("BadBoard" : Str) == "BadBoard" || ("BadBoard" : Str) == "HearthError" || ("BadBoard" : Str) == "ValueError")=true by decide]; exact⟨XK_BadBoard.exc,w4⟩
  ·rw [zX_BD] at h1; cases h1
  ·rw [zX_NW] at h1; cases h1
  ·rw [aX_NP] at h1; cases h1; rw [hb,show (("NoPaper" : Str) == "BadBoard" || ("BadBoard" : Str) == "HearthError" || ("BadBoard" : Str) == "ValueError")=false by decide]; exact⟨XK_NoPaper.exc,mD XK_BadBoard n_NP_BB s_NP_BB⟩
  ·rw [zX_NS] at h1; cases h1
  ·rw [zX_TM] at h1; cases h1
  ·rw [zX_NT] at h1; cases h1
  ·rw [zX_OR] at h1; cases h1),w6 XK_BadBoard sN_BB⟩
 have is_BadSet:kW K mg "BadSet":=⟨C_BadSet,mg_of X G aX_BS,fun z=>(by cases z),(fun n C b h1 h2=>by
  obtain ⟨hm,hb⟩:=nY h2
  simp only [kT,aW3,aX2,aZ8] at hm
  rcases hm with rfl | rfl | rfl | rfl | rfl | rfl | rfl | rfl | rfl | rfl | rfl | rfl
  ·rw [zX_BW] at h1; cases h1
  ·rw [aX_BS] at h1; cases h1; rw [hb,show (("BadSet" : Str) == "BadSet" || ("BadSet" : Str) == "HearthError" || ("BadSet" : Str) == "ValueError")=true by decide]; exact⟨XK_BadSet.exc,w4⟩
  ·rw [zX_BO] at h1; cases h1
  ·rw [zX_BP] at h1; cases h1
  ·rw [aX_BB] at h1; cases h1; rw [hb,show (("BadBoard" : Str) == "BadSet" || ("BadSet" : Str) == "HearthError" || ("BadSet" : Str) == "ValueError")=false by decide]; exact⟨XK_BadBoard.exc,mD XK_BadSet n_BB_BS s_BB_BS⟩
  ·rw [zX_BD] at h1; cases h1
  ·rw [zX_NW] at h1; cases h1
  ·rw [aX_NP] at h1; cases h1; rw [hb,show (("NoPaper" : Str) == "BadSet" || ("BadSet" : Str) == "HearthError" || ("BadSet" : Str) == "ValueError")=false by decide]; exact⟨XK_NoPaper.exc,mD XK_BadSet n_NP_BS s_NP_BS⟩
  ·rw [zX_NS] at h1; cases h1
  ·rw [zX_TM] at h1; cases h1
  ·rw [zX_NT] at h1; cases h1
  ·rw [zX_OR] at h1; cases h1),w6 XK_BadSet sN_BS⟩
 have is_NoPaper:kW K mg "NoPaper":=⟨C_NoPaper,mg_of X G aX_NP,fun z=>(by cases z),(fun n C b h1 h2=>by
  obtain ⟨hm,hb⟩:=nY h2
  simp only [kT,aW3,aX2,aZ8] at hm
  rcases hm with rfl | rfl | rfl | rfl | rfl | rfl | rfl | rfl | rfl | rfl | rfl | rfl
  ·rw [zX_BW] at h1; cases h1
  ·rw [aX_BS] at h1; cases h1; rw [hb,show (("BadSet" : Str) == "NoPaper" || ("NoPaper" : Str) == "HearthError" || ("NoPaper" : Str) == "ValueError")=false by decide]; exact⟨XK_BadSet.exc,mD XK_NoPaper n_BS_NP s_BS_NP⟩
  ·rw [zX_BO] at h1; cases h1
  ·rw [zX_BP] at h1; cases h1
  ·rw [aX_BB] at h1; cases h1; rw [hb,show (("BadBoard" : Str) == "NoPaper" || ("NoPaper" : Str) == "HearthError" || ("NoPaper" : Str) == "ValueError")=false by decide]; exact⟨XK_BadBoard.exc,mD XK_NoPaper n_BB_NP s_BB_NP⟩
  ·rw [zX_BD] at h1; cases h1
  ·rw [zX_NW] at h1; cases h1
  ·rw [aX_NP] at h1; cases h1; rw [hb,show (("NoPaper" : Str) == "NoPaper" || ("NoPaper" : Str) == "HearthError" || ("NoPaper" : Str) == "ValueError")=true by decide]; exact⟨XK_NoPaper.exc,w4⟩
  ·rw [zX_NS] at h1; cases h1
  ·rw [zX_TM] at h1; cases h1
  ·rw [zX_NT] at h1; cases h1
  ·rw [zX_OR] at h1; cases h1),w6 XK_NoPaper sN_NP⟩
 have is_ValueError:vX K mg:=⟨mg_none_of X G z_VE,fun z=>(by cases z),(fun n C b h1 h2=>by
  obtain ⟨hm,hb⟩:=nY h2
  simp only [kT,aW3,aX2,aZ8] at hm
  rcases hm with rfl | rfl | rfl | rfl | rfl | rfl | rfl | rfl | rfl | rfl | rfl | rfl
  ·rw [zX_BW] at h1; cases h1
  ·rw [aX_BS] at h1; cases h1; rw [hb,show (("BadSet" : Str) == "ValueError" || ("ValueError" : Str) == "HearthError" || ("ValueError" : Str) == "ValueError")=true by decide]; exact⟨XK_BadSet.exc,w5 sV_BS⟩
  ·rw [zX_BO] at h1; cases h1
  ·rw [zX_BP] at h1; cases h1
  ·rw [aX_BB] at h1; cases h1; rw [hb,show (("BadBoard" : Str) == "ValueError" || ("ValueError" : Str) == "HearthError" || ("ValueError" : Str) == "ValueError")=true by decide]; exact⟨XK_BadBoard.exc,w5 sV_BB⟩
  ·rw [zX_BD] at h1; cases h1
  ·rw [zX_NW] at h1; cases h1
  ·rw [aX_NP] at h1; cases h1; rw [hb,show (("NoPaper" : Str) == "ValueError" || ("ValueError" : Str) == "HearthError" || ("ValueError" : Str) == "ValueError")=true by decide]; exact⟨XK_NoPaper.exc,w5 sV_NP⟩
  ·rw [zX_NS] at h1; cases h1
  ·rw [zX_TM] at h1; cases h1
  ·rw [zX_NT] at h1; cases h1
  ·rw [zX_OR] at h1; cases h1),aE9⟩
 have x_BadBoard:Xc K mg base "BadBoard":=⟨C_BadBoard,_,_,_,_,vZ KB (mg_of X G aX_BB) q_BB,PySem.F.excBase_ValueError,aX_BB⟩
 have x_BadSet:Xc K mg base "BadSet":=⟨C_BadSet,_,_,_,_,vZ KB (mg_of X G aX_BS) q_BS,PySem.F.excBase_ValueError,aX_BS⟩
 have x_NoPaper:Xc K mg base "NoPaper":=⟨C_NoPaper,_,_,_,_,vZ KB (mg_of X G aX_NP) q_NP,PySem.F.excBase_ValueError,aX_NP⟩
 have D0:=M3 (P:=l.prog) (w:=w) (base:=base) B (h0.M X G)
 have D1:=aS1 (P:=l.prog) (w:=w) (base:=base) B (h1.M X G)
 have D2:=aS3 (P:=l.prog) (w:=w) (base:=base) B (h2.M X G)  x_BadBoard m_MOST_ROWS
 have D3:=aS5 (P:=l.prog) (w:=w) (base:=base) B (h3.M X G)
 have D4:=aS7 (P:=l.prog) (w:=w) (base:=base) B (h4.M X G)
 have D5:=aS9 (P:=l.prog) (w:=w) (base:=base) B (h5.M X G)
 have D6:=aT1 (P:=l.prog) (w:=w) (base:=base) B (h6.M X G)
 have D7:=aT3 (P:=l.prog) (w:=w) (base:=base) B (h7.M X G)
 have D8:=aT4 (P:=l.prog) (w:=w) (base:=base) B (h8.M X G)
 have D9:=aT6 (P:=l.prog) (w:=w) (base:=base) B (h9.M X G)
 have D10:=aT8 (P:=l.prog) (w:=w) (base:=base) B (h10.M X G) D2 D0 D3 x_BadSet
 have D11:=aT9 (P:=l.prog) (w:=w) (base:=base) B (h11.M X G) D4 m_MOST_STEPS_APART
 have D12:=aU0 (P:=l.prog) (w:=w) (base:=base) B (h12.M X G) D7
 have D13:=aU1 (P:=l.prog) (w:=w) (base:=base) B (h13.M X G) D8 D9
 have D14:=aU2 (P:=l.prog) (w:=w) (base:=base) B (h14.M X G) D9
 have D15:=aU3 (P:=l.prog) (w:=w) (base:=base) B (h15.M X G) D11
 have D16:=aU5 (P:=l.prog) (w:=w) (base:=base) B (h16.M X G) D11
 have D17:=aU6 (P:=l.prog) (w:=w) (base:=base) B (h17.M X G) D7 D12
 have D18:=aU7 (P:=l.prog) (w:=w) (base:=base) B (h18.M X G) D14
 have D19:=aU8 (P:=l.prog) (w:=w) (base:=base) B (h19.M X G) D6 D10 D15 D5
 have D20:=aU9 (P:=l.prog) (w:=w) (base:=base) B (h20.M X G) D1 D6 D10 D16 D5 D15 x_NoPaper
 have D21:=aV0 (P:=l.prog) (w:=w) (base:=base) B (h21.M X G) D20 cat_HearthError is_BadSet is_BadBoard is_NoPaper is_ValueError
 exact aA7 (aV1 B F22 D7 D17 D19 D18 D21 D13)
theorem aV3 {l:OpenLaw}{q:Program}{loose:List Str}{XP:(Str->Option Value)->Heap->Prop}{YP:World->Heap->Prop}{d:DefRec}{K:Params->Frag} (hn:l.most=some 63) (hdf:d.params.defaults = [])
  (hY:∀ (w:World) (h:Heap),YP w h->(K w.params).In h)
  (F:∀ (w:World) (mg:Str->Option Value) (fa:Addr) (h:Heap),(K w.params).In h->h.Ns mainGlobals mg->mg d.name=some (.ref fa)->
   ∃ fd:FuncData,(∀ (s:Shared) (u:Value),BindsTo s fd ⟨[u],[]⟩ [("script",u)])/\∀ base:Heap,(K w.params).In base->base.Ns mainGlobals mg->dC l.prog w (K w.params) mg base eG 6 fa fd ["script"] (qY (K w.params))) :
  WalkO q loose XP YP l.row.toRowW d [] (fun f vs=>PySem.call f vs):=
 L2.al7 (n:=63) (k:=6) (x:="script") (CX:=fun _=>eG) (sp:=fun w=>qY (K w.params)) hn (by decide) hdf ⟨rfl,by decide,by decide⟩ hY F (fun _ _ a ns hl hO hS=>⟨a,ns,rfl,aA8 hO hS,hl,fun _=>rfl⟩) fun _ _ _ _ _ z=>z
end K_k64
open PySem PySem.W PyProof.Rows
theorem PySem.W.Fast.te13052408679150730464 : True := trivial
theorem PySem.W.Fast.te16555476440528808052 : True := trivial
theorem PySem.W.Fast.te5369427470323729400 : True := trivial
set_option maxRecDepth 100000 in
set_option maxHeartbeats 0 in
theorem PySem.Challenge.cw_kindleweb_k64_growths_refused_holds : PySem.Challenge.rw_kindleweb_k64_growths_refused.Holds := by
 w_on; o_law; k_head; (case hw => w_witness2)
 k_fill
 refine K_k64.aV3 (l := PySem.Challenge.rw_kindleweb_k64_growths_refused) rfl rfl (fun w h Y => PySem.W.kIn_of Y) ?F
 case F =>
  intro w mg fa h KX G hmg
  refine' K_k64.aV2 KX G hmg ?h0 ?h1 ?h2 ?h3 ?h4 ?h5 ?h6 ?h7 ?h8 ?h9 ?h10 ?h11 ?h12 ?h13 ?h14 ?h15 ?h16 ?h17 ?h18 ?h19 ?h20 ?h21 ?a22 ?l22 ?c22 ?k22 ?z_len ?z_range ?z_tuple ?z_list ?z_sorted ?z_all ?z_any ?z_zip ?z_min ?z_max ?z_sum ?z_isinstance ?z_int ?z_bool ?z_enumerate ?z_MOST_ROWSx ?z_MOST_STEPS_APARTx ?aX_HE ?aX_BS ?aX_BB ?aX_NP ?zX_BW ?zX_BO ?zX_BP ?zX_BD ?zX_NW ?zX_NS ?zX_TM ?zX_NT ?zX_OR ?y_fg ?y_ft ?z_VE ?y1_HE ?y2_HE ?y3_HE ?y4_HE ?y5_HE ?y6_HE ?y7_HE ?y1_BS ?y2_BS ?y3_BS ?y4_BS ?y5_BS ?y6_BS ?y7_BS ?y1_BB ?y2_BB ?y3_BB ?y4_BB ?y5_BB ?y6_BB ?y7_BB ?y1_NP ?y2_NP ?y3_NP ?y4_NP ?y5_NP ?y6_NP ?y7_NP ?sB_HE ?s_BS_HE ?s_BB_HE ?s_NP_HE ?sN_BB ?s_BS_BB ?n_BS_BB ?s_NP_BB ?n_NP_BB ?sN_BS ?s_BB_BS ?n_BB_BS ?s_NP_BS ?n_NP_BS ?sN_NP ?s_BS_NP ?n_BS_NP ?s_BB_NP ?n_BB_NP ?sV_BS ?sV_BB ?sV_NP ?q_BB ?q_BS ?q_NP
  (case h0 | h1 | h2 | h3 | h4 | h5 | h6 | h7 | h8 | h9 | h10 | h11 | h12 | h13 | h14 | h15 | h16 | h17 | h18 | h19 | h20 | h21 => exact ⟨by k_is, ⟨⟨_, _, _, _, _, _, _, _, _, rfl, by k_is, by k_is⟩, by k_is⟩⟩)
  (case a22|l22|c22|k22|z_len|z_range|z_tuple|z_list|z_sorted|z_all|z_any|z_zip|z_min|z_max|z_sum|z_isinstance|z_int|z_bool|z_enumerate|z_MOST_ROWSx|z_MOST_STEPS_APARTx|aX_HE|aX_BS|aX_BB|aX_NP|zX_BW|zX_BO|zX_BP|zX_BD|zX_NW|zX_NS|zX_TM|zX_NT|zX_OR|y_fg|y_ft|z_VE|y1_HE|y2_HE|y3_HE|y4_HE|y5_HE|y6_HE|y7_HE|y1_BS|y2_BS|y3_BS|y4_BS|y5_BS|y6_BS|y7_BS|y1_BB|y2_BB|y3_BB|y4_BB|y5_BB|y6_BB|y7_BB|y1_NP|y2_NP|y3_NP|y4_NP|y5_NP|y6_NP|y7_NP|sB_HE|s_BS_HE|s_BB_HE|s_NP_HE|sN_BB|s_BS_BB => k_is)
  (case n_BS_BB => decide)
  (case s_NP_BB => k_is)
  (case n_NP_BB => decide)
  (case sN_BS|s_BB_BS => k_is)
  (case n_BB_BS => decide)
  (case s_NP_BS => k_is)
  (case n_NP_BS => decide)
  (case sN_NP|s_BS_NP => k_is)
  (case n_BS_NP => decide)
  (case s_BB_NP => k_is)
  (case n_BB_NP => decide)
  (case sV_BS|sV_BB|sV_NP => k_is)
  (case q_BB|q_BS|q_NP => k_exc)


