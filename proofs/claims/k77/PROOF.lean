import PyProof.Rows.All
import Wide.All
import OpenK.AllK
import Wide.FinOn
import Lean
import PyProof.EqAt
import PyProof.EqKinds
import PyProof.TupleCall
import PyProof.NeKinds
import PyProof.Draws
import PyProof.ZipIter
import PyProof.DictUpdate
import PyProof.AutoSeq1
import PyProof.ListRange
import PyProof.ListMulRoad
import PyProof.FactsAll.tuple_2
import PyProof.Rows.SortShell
import PyProof.EnumFor
import PyProof.EnumMake
import PyProof.EnumStmt
import PyProof.Rows.SortWalk
import KE.KDictList
import PyProof.SumAny
import PyProof.ConsumeWalk
import PyProof.WalksMore
import PyProof.Rows.TupAssign
import PyProof.ExcArgsOwn
import PySem.Challenge.RW_kindleweb_k77_whole_rounds_left
set_option Elab.async false
set_option linter.all false
set_option maxRecDepth 100000
set_option maxHeartbeats 4000000
section
open PySem PySem.Spec PyProof.Rows
def aX0:=@wpAny_bind
def aX2:=@Heap.get?_push_of_some
def aX3:=@decide_eq_false
def aX4:=@decide_eq_true
def aX5:=@List.getElem?_eq_getElem
def aX6:=@List.size_toArray
def aX7:=@Nat.le_refl
def aX8:=@wpAny_pure
def aX9:=@List.mem_cons
def aY0:=@List.length_map
def aY1:=@List.mem_cons_self
def aY2:=@List.mem_cons_of_mem
def aY3:=@List.mem_singleton
def aY4:=@wpS_bind
def aY5:=@List.getElem?_eq_some_iff
def aY6:=@Heap.lt_size
def aY7:=@Nat.lt_of_lt_of_le
def aY8:=@Heap.get?_push_size
def aY9:=@List.not_mem_nil
def aZ0:=@Bool.false_ne_true
def aZ1:=@List.getD_eq_getElem?_getD
def aZ2:=@wpS_pure
def aZ3:=@List.getElem?_map
def aZ5:=@List.append_assoc
def aZ6:=@Bool.false_eq_true
def aZ7:=@List.length_cons
def aZ8:=@Option.some.inj
def ba0:=@List.length_append
def ba1:=@decide_eq_true_eq
def ba2:=@Nat.ne_of_lt
def ba3:=@List.take_of_length_le
def ba4:=@List.mem_filter
def ba5:=@List.append_nil
def ba6:=@List.map_append
def ba8:=@List.pairwise_singleton
def bb0:=@List.mem_append_right
def bb1:=@Bool.and_eq_true
def bb2:=@List.take_append_drop
def bb3:=@List.getElem?_set_ne
def bb4:=@List.mem_of_getElem?
def bb5:=@Nat.le_trans
def bb6:=@List.mem_append
def bb7:=@Nat.lt_or_ge
def bb8:=@Array.length_toList
def bb9:=@List.mem_map
def bc1:=@List.pairwise_append
def bc2:=@or_false
def bc3:=@Array.getElem_mem
def bc4:=@List.take_length
def bc5:=@List.map_cons
def bc6:=@Nat.zero_le
def bc7:=@List.pairwise_iff_getElem
def bc9:=@PySem.mem_of_lookup
def bd1:=@List.length_take
def bd2:=@List.take_add_one
def bd3:=@of_decide_eq_true
def bd4:=@wpAny_field
def bd5:=@wpAny_callSpecial?_slot
def bd6:=@List.getElem?_cons_succ
def bd7:=@Nat.lt_irrefl
def bd8:=@List.getElem_of_mem
def be1:=@wpAny_call_entry
def be2:=@List.lookup_cons
def be3:=@if_false
def be4:=@wpAny_setField_rec
def be5:=@List.length_filter_le
def be6:=@Nat.ne_of_gt
def be7:=@Array.toList_append
def be8:=@Bool.eq_iff_iff
def be9:=@List.nodup_cons
def bf1:=@wpAny_newObj_type
def bf2:=@List.length_range
def bf3:=@Nat.le_of_lt
def bf4:=@wpS_forRange
def bf5:=@PySem.W.kia_one
def bf6:=@List.length_drop
def bf8:=@beq_self_eq_true
def bf9:=@List.replicate_succ
def bg0:=@wpAny_mono
def bg1:=@Array.getElem?_toList
def bg2:=@List.pairwise_map
def bg3:=@List.mem_append_left
def bg4:=@Heap.size_push
def bg6:=@List.length_set
def bg7:=@List.getElem?_set_self
def bg8:=@List.all_eq_true
def bh0:=@List.flatten_cons
def bh1:=@Bool.and_false
def bh2:=@List.find?_cons
def bh3:=@wpAny_pyIter_tuple
def bh4:=@List.zip_cons_cons
def bh6:=@List.getElem_mem
def bh7:=@decide_eq_false_iff_not
def bh8:=@PyProof.Rows.callWith_type1
def bh9:=@List.all_cons
def bi0:=@Bool.false_and
def bi2:=@List.nodup_append
def bi3:=@Heap.SameBut.update
def bi4:=@PyProof.Rows.slot_tuple_getitem
def bi5:=@List.getElem?_append_left
def bi6:=@List.perm_append_comm
def bi7:=@List.pairwise_cons
def bi8:=@Nat.le_add_right
def bi9:=@wpAny_holding
def bj2:=@List.mem_range
def bj3:=@Int.le_refl
def bj4:=@wpAny_truthy_bool
def bj5:=@Int.toNat_natCast
def bj6:=@List.filter_cons_of_neg
def bj9:=@wpAny_rule
def bk0:=@List.countP_eq_length_filter
def bk1:=@List.getElem?_range
def bk2:=@Nat.le_of_not_lt
def bk3:=@List.getElem?_append_right
def bk4:=@wpAny_seqItems
def bk5:=@Nat.eq_or_lt_of_le
def bk6:=@Int.emod_lt_of_pos
def bk7:=@List.length_replicate
def bk8:=@List.length_singleton
def bk9:=@wpAny_passesOwn
def bl0:=@Int.emod_nonneg
def bl3:=@wpS_mono
def bl4:=@List.mem_of_mem_take
def bl5:=@List.map_map
def bl6:=@True.intro
def bm1:=@List.drop_take
end
namespace L2
open PySem PySem.Spec PyProof.Rows
abbrev a9:=Sum Int Str
def l6:a9->Value->Bool
 | .inl k,v=>Value.isInt k v
 | .inr x,v=>Value.isStrOf x v
def aa0 (w:World):a9->Int
 | .inl k=>hashInt k
 | .inr x=>hashStr w x
theorem gQ:∀ {k:a9}{v:Value},l6 k v=true->(∃ i t,k=Sum.inl i/\v=Value.int i t) ∨ (∃ x t,k=Sum.inr x/\v=Value.str x t)
 | .inl i,v,h=>by
  obtain ⟨t,e⟩:=Value.isInt_shape (k:=i) (v:=v) h
  exact .inl ⟨i,t,rfl,e⟩
 | .inr x,v,h=>by
  obtain ⟨t,e⟩:=Value.isStrOf_shape (x:=x) (v:=v) h
  exact .inr ⟨x,t,rfl,e⟩
theorem aa1 (i:Int) (t:Tok):l6 (.inl i) (.int i t)=true:=by simp [l6,Value.isInt]
theorem aa2 (x:Str) (t:Tok):l6 (.inr x) (.str x t)=true:=by simp [l6,Value.isStrOf]
theorem aa3 (a b:Int):decide ((Sum.inl a:a9)=Sum.inl b)=(a == b):=by
 by_cases e:a=b
 ·subst e; simp
 ·have h : ¬ (Sum.inl a:a9)=Sum.inl b:=fun q=>e (Sum.inl.inj q)
  rw [aX3 h]
  exact (beq_eq_false_iff_ne.mpr e).symm
theorem aa4 (a b:Str):decide ((Sum.inr a:a9)=Sum.inr b)=decide (a=b):=by
 by_cases e:a=b
 ·subst e; simp
 ·have h : ¬ (Sum.inr a:a9)=Sum.inr b:=fun q=>e (Sum.inr.inj q)
  rw [aX3 h,aX3 e]
theorem aa5 (a:Int) (b:Str):decide ((Sum.inl a:a9)=Sum.inr b)=false:=aX3 (fun q=>nomatch q)
theorem aa6 (a:Str) (b:Int):decide ((Sum.inr a:a9)=Sum.inl b)=false:=aX3 (fun q=>nomatch q)
def dO (prog:Program) (w:World):PySem.KeyKind prog w a9 where
 is:=l6
 hash:=aa0 w
 inj:=fun v a b ha hb=>by
  rcases gQ ha with ⟨i,t,rfl,rfl⟩ | ⟨x,t,rfl,rfl⟩
  ·rcases gQ hb with ⟨j,u,rfl,e⟩ | ⟨y,u,rfl,e⟩
   ·injection e with e1 _; rw [e1]
   ·exact nomatch e
  ·rcases gQ hb with ⟨j,u,rfl,e⟩ | ⟨y,u,rfl,e⟩
   ·exact nomatch e
   ·injection e with e1 _; rw [e1]
 byValue:=fun k v h=>by
  rcases gQ h with ⟨i,t,rfl,rfl⟩ | ⟨x,t,rfl,rfl⟩ <;> rfl
 pyHash:=fun hv h=>by
  rcases gQ hv with ⟨i,t,rfl,rfl⟩ | ⟨x,t,rfl,rfl⟩
  ·exact wpAny_pyHash_int h
  ·exact wpAny_pyHash_str h
 eqBool:=fun hu hv h=>by
  rcases gQ hu with ⟨i,t,rfl,rfl⟩ | ⟨x,t,rfl,rfl⟩
  ·rcases gQ hv with ⟨j,u,rfl,rfl⟩ | ⟨y,u,rfl,rfl⟩
   ·rw [aa3] at h; exact wpAny_eqBool_int h
   ·rw [aa5] at h; exact SeqAt.EqAt.int_str i t y u _ _ _ _ h
  ·rcases gQ hv with ⟨j,u,rfl,rfl⟩ | ⟨y,u,rfl,rfl⟩
   ·rw [aa6] at h; exact SeqAt.EqAt.str_int x t j u _ _ _ _ h
   ·rw [aa4] at h; exact wpAny_eqBool_str h
 «strs»:=fun k x t v h=>by
  rcases gQ h with ⟨i,u,rfl,e⟩ | ⟨y,u,rfl,e⟩
  ·exact nomatch e
  ·injection e with e1 _
   subst e1
   cases v <;> rfl
theorem aa7 (prog:Program) (w:World) (i:Int) (t:Tok):(dO prog w).is (.inl i) (.int i t)=true:=aa1 i t
theorem aa8 (prog:Program) (w:World) (x:Str) (t:Tok):(dO prog w).is (.inr x) (.str x t)=true:=aa2 x t
inductive V where
 | non | bl (b:Bool) | int (i:Int) | str (x:Str) | byt (b:Array UInt8) | flt (b:UInt64) | ref (a:Addr) | ty (n:String)
 deriving DecidableEq
def aU:V->Value->Prop
 | .non,u=>u=Value.none
 | .bl b,u=>u=Value.bool b
 | .int i,u=>∃ t,u=Value.int i t
 | .str x,u=>∃ t,u=Value.str x t
 | .byt b,u=>∃ t,u=Value.bytes b t
 | .flt b,u=>∃ t,u=Value.float b t
 | .ref a,u=>u=Value.ref a
 | .ty n,u=>u=Value.type n
abbrev aI:List V->List Value->Prop:=Paired aU
theorem aI.length {xs:List V}{us:List Value} (r:aI xs us):xs.length=us.length:=Paired.length r
theorem aI.get:∀ {xs:List V}{us:List Value}{i:Nat}{x:V},aI xs us->xs[i]? = some x->∃ u,us[i]? = some u/\aU x u
 | _,_,_,_,.nil,e=>by simp at e
 | _,_,0,_,.cons r _,e=>by simp at e; subst e; exact⟨_,rfl,r⟩
 | _,_,i+1,x,.cons _ t,e=>by
  obtain ⟨u,h1,h2⟩:=aI.get (i:=i) (x:=x) t (by simpa using e)
  exact⟨u,by simpa using h1,h2⟩
theorem aI.append:∀ {xs ys:List V}{us ws:List Value},aI xs us->aI ys ws->aI (xs ++ ys) (us ++ ws)
 | _,_,_,_,.nil,s=>s
 | _,_,_,_,.cons r t,s=>.cons r (aI.append t s)
theorem aI.take:∀ {xs:List V}{us:List Value} (n:Nat),aI xs us->aI (xs.take n) (us.take n)
 | _,_,0,_=>.nil
 | _,_,_+1,.nil=>.nil
 | _,_,n+1,.cons r t=>.cons r (aI.take n t)
theorem aI.drop:∀ {xs:List V}{us:List Value} (n:Nat),aI xs us->aI (xs.drop n) (us.drop n)
 | _,_,0,r=>r
 | _,_,_+1,.nil=>.nil
 | _,_,n+1,.cons _ t=>aI.drop n t
def jW:Option V->Option Value->Prop
 | some v,some u=>aU v u
 | none,none=>True
 | _,_=>False
def KV {κ:Type}:List (κ × V)->List (κ × Value)->Prop:=Paired fun (p:κ × V) (q:κ × Value)=>p.1=q.1/\aU p.2 q.2
def kV:a9->V
 | .inl i=>.int i
 | .inr x=>.str x
inductive HO where
 | lst (xs:List V)
 | tup (xs:List V)
 | dK (kvs:List (a9 × V)) | dT (kvs:List (List a9 × V))
 | set (S:Int->Bool) (n:Nat)
 | ins (C dx:Addr) (fs:List (Str × V))
 | own (x:Addr)
 | xd (fs:List (Str × V))
 | met (f x:Addr)
 | rng (lo hi:Int)
 | frz (o:Obj) (u:HO)
 | tbl (ps:Array Value)
 | ext (φ:Heap->Prop)
abbrev Hp:=Addr->Option HO
def upd (H:Hp) (a:Addr) (o:HO):Hp:=fun b=>if b=a then some o else H b
theorem bK {H:Hp}{a:Addr}{o:HO}:upd H a o a=some o:=by unfold upd; rw [if_pos rfl]
theorem aV {H:Hp}{a b:Addr}{o:HO} (h:b ≠ a):upd H a o b=H b:=by unfold upd; rw [if_neg h]
theorem x8 {H:Hp}{a b:Addr}{o u:HO} (h:H a=some o) (h':H b=some u) (d:o ≠ u):a ≠ b:=by
 intro e; subst e; rw [h] at h'; exact d (aZ8 h')
theorem cG {H:Hp}{a b:Addr}{o:HO} (h:H a=some o) (h':H b=none):a ≠ b:=by
 intro e; subst e; rw [h] at h'; cases h'
def i9 (h:Heap) (a:Addr):Prop:=∀ o,h.get? a=some o->o.dict=none
theorem i9.new (h:Heap) (o:Obj) (d:o.dict=none) (s:o.isFreed=false:=by rfl):i9 (h.push o) h.objs.size:=fun u e=>by
 rw [aY8 h (o:=o) s] at e
 cases e; exact d
theorem i9.stay {h h':Heap}{a:Addr}{o:Obj} (n:i9 h a) (e:h.get? a=some o) (e':h'.get? a=some o):i9 h' a:=fun u hu=>by
 rw [e'] at hu; cases hu; exact n _ e
section
variable (P : Program) (w : World)
def bI (H:Hp) (h:Heap) (a:Addr):HO->Prop
 | .lst xs=>xs.length<=sizeLine/\∃ (its:List Value) (n:Nat),aI xs its/\h.get? a=some { cls:=.type "list",data:=.seq its.toArray n }
 | .tup xs=>xs.length<=sizeLine/\∃ its:List Value,aI xs its/\IsTup h a its.toArray/\i9 h a
 | .dK kvs=>kvs.length<=sizeLine/\(a == sysModules)=false/\∃ vs,KV kvs vs/\h.DictOf (dO P w) a vs
 | .dT kvs=>kvs.length<=sizeLine/\(a == sysModules)=false/\∃ xs:List (List a9 × Addr × Value),
   Paired (fun (p:List a9 × V) (q:List a9 × Addr × Value)=>p.1=q.1/\H q.2.1=some (.tup (p.1.map kV))/\aU p.2 q.2.2) kvs xs/\
   ∃ o es ep,h.get? a=some o/\o.ExactDict/\o.data = .dict es ep/\es.toList=xs.map (entryOfKey (tupleKind (dO P w)))/\(xs.map (·.1)).Nodup
 | .set S n=>h.SetOf (intKind P w) a S n
 | .ins C dx fs=>H dx=some (.own a)/\fs.length<=1000/\dx ≠ a/\h.get? a=some (PySem.W.instObj C dx)/\
   ∃ mA,h.Ns1 dx mA/\(∀ f,jW (fs.lookup f) (mA f))/\PySem.Within mA (fs.map (·.1))
 | .own _=>∃ o,h.get? a=some o
 | .xd fs=>∃ mA,h.Ns1 a mA/\∀ f,jW (fs.lookup f) (mA f)
 | .rng lo hi=>∃ t u v,h.get? a=some { cls:=.type "range",data:=.fields #[.int lo t,.int hi u,.int 1 v] }
 | .frz o u=>h.get? a=some o/\bI H h a u
 | .tbl ps=>h.get? a=some { cls:=.none,data:=.fields ps }
 | .met f x=>h.get? a=some (PySem.W.methodObj (.ref f) (.ref x))
 | .ext φ=>φ h/\(∃ o,h.get? a=some o)/\∀ h1 h2:Heap,φ h1->(∀ o,h1.get? a=some o->h2.get? a=some o)->φ h2
def bL (H:Hp) (h:Heap):Prop:=∀ a o,H a=some o->bI P w H h a o
end
section
variable {P : Program} {w : World} {H H' : Hp} {h h' : Heap} {a : Addr} {o : HO}
theorem bI.lt (x:bI P w H h a o):a < h.objs.size:=by
 cases o with
 | lst xs=>obtain ⟨_,_,_,_,e⟩:=x; exact aY6 e
 | tup xs=>obtain ⟨_,_,_,p,_⟩:=x; exact p.lt
 | dK kvs=>obtain ⟨_,_,_,_,o,_,_,e,_⟩:=x; exact aY6 e
 | dT kvs=>obtain ⟨_,_,_,_,o,_,_,e,_⟩:=x; exact aY6 e
 | set S n=>obtain ⟨o,_,_,_,e,_⟩:=x; exact aY6 e
 | ins C dx fs=>obtain ⟨_,_,_,e,_⟩:=x; exact aY6 e
 | own y=>obtain ⟨_,e⟩:=x; exact aY6 e
 | xd fs=>obtain ⟨_,⟨_,_,_,e,_⟩,_⟩:=x; exact aY6 e
 | rng lo hi=>obtain ⟨_,_,_,e⟩:=x; exact aY6 e
 | frz ob u=>obtain ⟨e,_⟩:=x; exact aY6 e
 | tbl ps=>exact aY6 (show h.get? a=some _ from x)
 | met f y=>exact aY6 (show h.get? a=some _ from x)
 | ext φ=>obtain ⟨_,⟨_,e⟩,_⟩:=x; exact aY6 e
theorem Paired.mapP {α β:Type}{F G:α->β->Prop}:∀ {l₁:List α}{l₂:List β},Paired F l₁ l₂->(∀ a b,F a b->G a b)->Paired G l₁ l₂
 | _,_,.nil,_=>.nil
 | _,_,.cons r t,f=>.cons (f _ _ r) (Paired.mapP t f)
theorem bI.stay (x:bI P w H h a o) (k:∀ b u,(b=a ∨ H b=some (.own a))->h.get? b=some u->h'.get? b=some u)
  (ho:∀ b,H b=some (.own a)->H' b=some (.own a)) (ht:∀ b xs,H b=some (.tup xs)->H' b=some (.tup xs)):bI P w H' h' a o:=by
 induction o with
 | lst xs=>obtain ⟨z,its,n,r,e⟩:=x; exact⟨z,its,n,r,k _ _ (.inl rfl) e⟩
 | tup xs=>obtain ⟨z,its,r,⟨ob,e,c⟩,nd⟩:=x; exact⟨z,its,r,⟨ob,k _ _ (.inl rfl) e,c⟩,nd.stay e (k _ _ (.inl rfl) e)⟩
 | dK kvs=>obtain ⟨z,y,vs,r,ob,es,ep,e,c⟩:=x; exact⟨z,y,vs,r,ob,es,ep,k _ _ (.inl rfl) e,c⟩
 | dT kvs=>
  obtain ⟨z,y,xs,r,ob,es,ep,e,c⟩:=x
  exact⟨z,y,xs,Paired.mapP r fun p q z=>⟨z.1,ht _ _ z.2.1,z.2.2⟩,ob,es,ep,k _ _ (.inl rfl) e,c⟩
 | set S n=>obtain ⟨ob,es,ep,t,e,c⟩:=x; exact⟨ob,es,ep,t,k _ _ (.inl rfl) e,c⟩
 | ins C dx fs=>
  obtain ⟨d,z,ne,e,mA,⟨od,es,ep,e2,c⟩,r⟩:=x
  exact⟨ho _ d,z,ne,k _ _ (.inl rfl) e,mA,⟨od,es,ep,k _ _ (.inr d) e2,c⟩,r⟩
 | own y=>obtain ⟨ob,e⟩:=x; exact⟨ob,k _ _ (.inl rfl) e⟩
 | xd fs=>obtain ⟨mA,⟨od,es,ep,e,c⟩,r⟩:=x; exact⟨mA,⟨od,es,ep,k _ _ (.inl rfl) e,c⟩,r⟩
 | rng lo hi=>obtain ⟨t,u,v,e⟩:=x; exact⟨t,u,v,k _ _ (.inl rfl) e⟩
 | frz ob u ih=>obtain ⟨e,q⟩:=x; exact⟨k _ _ (.inl rfl) e,ih q⟩
 | tbl ps=>
  have e:h.get? a=some { cls:=.none,data:=.fields ps }:=x
  show h'.get? a=some { cls:=.none,data:=.fields ps }
  exact k a _ (.inl rfl) e
 | met f y=>
  have e:h.get? a=some (PySem.W.methodObj (.ref f) (.ref y)):=x
  show h'.get? a=some (PySem.W.methodObj (.ref f) (.ref y))
  exact k a _ (.inl rfl) e
 | ext φ=>obtain ⟨p,⟨o,e⟩,st⟩:=x; exact⟨st _ _ p fun o q=>k _ _ (.inl rfl) q,⟨o,k _ _ (.inl rfl) e⟩,st⟩
theorem bL.lt (x:bL P w H h) (e:H a=some o):a < h.objs.size:=(x a o e).lt
theorem bL.fresh (x:bL P w H h) (e:h.objs.size<=a):H a=none:=by
 cases q:H a with
 | none=>rfl
 | some u=>exact absurd (aY7 (x.lt q) e) (bd7 _)
theorem bL.kept (x:bL P w H h) (k:∀ b u,h.get? b=some u->h'.get? b=some u):bL P w H h':=fun a o e=>
 (x a o e).stay (fun b u _ q=>k b u q) (fun _ q=>q) fun _ _ q=>q
theorem bL.laid (x:bL P w H h) (k:∀ b u,h.get? b=some u->h'.get? b=some u) (hp:h.objs.size<=a) (new:bI P w (upd H a o) h' a o):bL P w (upd H a o) h':=fun b u e=>by
 have hn:=x.fresh hp
 by_cases hb:b=a
 ·subst hb; rw [bK] at e; cases e; exact new
 ·rw [aV hb] at e
  exact (x b u e).stay (fun c v _ q=>k c v q) (fun c q=>by rw [aV (cG q hn)]; exact q) fun c xs q=>by rw [aV (cG q hn)]; exact q
end
def Rd (H:Hp) (a:Addr) (u:HO):Prop:=H a=some u ∨ ∃ o,H a=some (.frz o u)
theorem Rd.ok {P:Program}{w:World}{H:Hp}{h:Heap}{a:Addr}{u:HO} (r:Rd H a u) (x:bL P w H h):bI P w H h a u:=by
 rcases r with r | ⟨o,r⟩
 ·exact x a u r
 ·obtain ⟨_,q⟩:=x a _ r
  exact q
def mF:Option HO->Prop
 | some (.lst _)=>True
 | some (.dK _)=>True
 | some (.dT _)=>True
 | some (.set _ _)=>True
 | some (.ins _ _ _)=>True
 | some (.ext _)=>True
 | _=>False
section
variable {P : Program} {w : World} {H : Hp} {h h' : Heap} {x e : Addr} {o' : HO}
theorem bL.write (ok:bL P w H h) (mu:mF (H x)) (he:e=x ∨ H e=some (.own x)) (k:∀ b u,b ≠ e->h.get? b=some u->h'.get? b=some u) (heo:∃ u,h'.get? e=some u)
  (new:bI P w (upd H x o') h' x o'):bL P w (upd H x o') h':=fun b u q=>by
 have nown:∀ c y,H c=some (.own y)->c ≠ x:=fun c y r z=>by subst z; rw [r] at mu; exact mu
 have ntup:∀ c xs,H c=some (.tup xs)->c ≠ x:=fun c xs r z=>by subst z; rw [r] at mu; exact mu
 by_cases hb:b=x
 ·subst hb; rw [bK] at q; cases q; exact new
 ·rw [aV hb] at q
  by_cases hbe:b=e
  ·have q':H b=some (.own x):=by
    rcases he with z | z
    ·exact absurd (hbe.trans z) hb
    ·rw [hbe]; exact z
   rw [q] at q'; cases q'
   obtain ⟨v,hv⟩:=heo
   exact⟨v,by rw [hbe]; exact hv⟩
  ·refine (ok b u q).stay (fun c v hc r=>k c v ?_ r) (fun c r=>by rw [aV (nown c b r)]; exact r) fun c xs r=>by rw [aV (ntup c xs r)]; exact r
   rcases hc with rfl | hc
   ·exact hbe
   ·rintro rfl
    rcases he with z | z
    ·exact nown c b hc z
    ·rw [hc] at z; cases z; exact hb rfl
end
structure Un (fs ex:List Addr) (H H':Hp) (h h':Heap):Prop where
 keep:∀ b o,h.get? b=some o->H b=none->b ∉ fs->b ∉ ex->h'.get? b=some o
 slot:∀ b o,h.get? b=some o->H b=none->b ∈ fs->b ∉ ex->∃ sl,h'.get? b=some { o with slots:=sl }
 free:∀ b o,h.get? b=some o->H b=none->b ∉ ex->H' b=none
 there:∀ b o,h.get? b=some o->b ∉ ex->∃ o',h'.get? b=some o'
 tups:∀ b xs,H b=some (.tup xs)->H' b=some (.tup xs)
 frzs:∀ b o u,H b=some (.frz o u)->H' b=some (.frz o u)
 tbls:∀ b ps,H b=some (.tbl ps)->∃ more,H' b=some (.tbl (ps ++ more))
section
variable {fs fs' ex ex' : List Addr} {H H1 H2 : Hp} {h h1 h2 h' : Heap} {a x e : Addr} {o : HO}
theorem Un.any (u:Un fs ex H H1 h h1) {b:Addr}{ob:Obj} (q:h.get? b=some ob) (n:H b=none) (hx:b ∉ ex):∃ sl,h1.get? b=some { ob with slots:=sl }:=by
 by_cases hb:b ∈ fs
 ·exact u.slot b ob q n hb hx
 ·exact⟨ob.slots,u.keep b ob q n hb hx⟩
theorem Un.kept (k:∀ b u,h.get? b=some u->h'.get? b=some u):Un fs ex H H h h':=
 ⟨fun b ob q _ _ _=>k b ob q,fun b ob q _ _ _=>⟨ob.slots,k b ob q⟩,fun _ _ _ n _=>n,fun b ob q _=>⟨ob,k b ob q⟩,fun _ _ q=>q,fun _ _ _ q=>q,fun _ ps q=>⟨#[],by rw [q]; simp⟩⟩
theorem Un.refl:Un fs ex H H h h:=Un.kept fun _ _ q=>q
theorem Un.laid (k:∀ b u,h.get? b=some u->h'.get? b=some u) (hp:h.objs.size<=a) (hn:H a=none):Un fs ex H (upd H a o) h h' where
 keep:=fun b u q _ _ _=>k b u q
 slot:=fun b u q _ _ _=>⟨u.slots,k b u q⟩
 free:=fun b u q n _=>by rw [aV (ba2 (aY7 (aY6 q) hp))]; exact n
 there:=fun b u q _=>⟨u,k b u q⟩
 tups:=fun b xs q=>by rw [aV (cG q hn)]; exact q
 frzs:=fun b u xs q=>by rw [aV (cG q hn)]; exact q
 tbls:=fun b ps q=>⟨#[],by rw [aV (cG q hn),q]; simp⟩
theorem Un.write (mu:mF (H x)) (he:e=x ∨ H e=some (.own x)) (k:∀ b u,b ≠ e->h.get? b=some u->h'.get? b=some u) (heo:∃ u,h'.get? e=some u):Un fs ex H (upd H x o) h h':=by
 have hx:∀ b,H b=none->b ≠ x:=fun b n z=>by subst z; rw [n] at mu; exact mu
 have hb:∀ b,H b=none->b ≠ e:=fun b n z=>by
  subst z
  rcases he with r | r
  ·exact hx b n r
  ·rw [n] at r; cases r
 have hm:∀ b u,H b=some u->¬ mF (some u)->b ≠ x:=fun b u q nm z=>by subst z; rw [q] at mu; exact nm mu
 refine⟨fun b u q n _ _=>k b u (hb b n) q,fun b u q n _ _=>⟨u.slots,k b u (hb b n) q⟩,fun b u q n _=>by rw [aV (hx b n)]; exact n,fun b u q _=>?_,
  fun b xs q=>by rw [aV (hm b _ q fun z=>z)]; exact q,fun b u xs q=>by rw [aV (hm b _ q fun z=>z)]; exact q,fun b ps q=>⟨#[],by rw [aV (hm b _ q fun z=>z),q]; simp⟩⟩
 by_cases hbe:b=e
 ·subst hbe; exact heo
 ·exact⟨u,k b u hbe q⟩
end
def oE (h:Heap) (H:Hp):List Addr:=(List.range h.objs.size).filter fun a=>(H a).isSome
def iA (h:Heap) (H:Hp):Heap:=PySem.W.hideAll h (oE h H)
theorem aa9 (h:Heap) (H:Hp):(iA h H).objs.size=h.objs.size:=PySem.W.hideAll_size _ _
theorem ab0 {h:Heap}{H:Hp}{b:Addr}{o:Obj} (e:h.get? b=some o) (n:H b=none):(iA h H).get? b=some o:=
 PySem.W.hideAll_get _ e fun hm=>by
  have q:(H b).isSome=true:=(ba4.mp hm).2
  rw [n] at q; simp at q
theorem ab1 {h:Heap}{H:Hp}{b:Addr}{o:Obj} (e:(iA h H).get? b=some o):h.get? b=some o/\H b=none:=by
 have e':h.get? b=some o:=PySem.W.of_hideAll (oE h H) e
 refine⟨e',?_⟩
 cases q:H b with
 | none=>rfl
 | some x=>
  have hm:b ∈ oE h H:=ba4.mpr ⟨bj2.mpr (aY6 e'),by simp [q]⟩
  have z:(iA h H).get? b=none:=PySem.W.hideAll_none (oE h H) hm
  rw [z] at e; cases e
def ab2 (g h:Heap) (L:Addr):List (Addr × Obj):=(List.range h.objs.size).filterMap fun a=>if a=L ∨ (g.get? a).isSome=true then none else (h.get? a).map fun o=>(a,o)
def cN (g h:Heap) (L d:Addr):List (Addr × Obj):=(ab2 g h L).filter fun p=>decide (p.1 ≠ d)
structure Mod (K:PySem.W.Frag) (mg:Str->Option Value) (base:Heap):Prop where
 kin:K.In base
 glob:base.Ns mainGlobals mg
 blt:∃ mb,base.Ns builtinsNs mb/\∀ x:Str,x ≠ "__name__"->mb x=bootBuiltins x
 nolimit:base.NoLimit
structure Cx where
 prog:Program
 w:World
 K:PySem.W.Frag
 mg:Str->Option Value
 base:Heap
 A:Around
 N:List Str
 s₀:Shared
 H₀:Hp
 env:Env
 outer:List Env
 stack:List Env
 ex:List Addr
 fn:Str->Bool
 calm:Bool
 pn:List (Addr × Obj)
 xe:Value->Shared->Prop
def bU (l:List Env):List Addr:=l.filterMap (·.frame)
abbrev Cx.fs (X:Cx):List Addr:=bU X.outer
def gD (sc:Scope) (x:Str):Prop:=sc.names.lookup x=some .local ∨ sc.names.lookup x=some .cell ∨ sc.names.lookup x=some .free
def iB (sc:Scope) (x:Str):Prop:=sc.names.lookup x=some .local ∨ sc.names.lookup x=some .cell
def ab3 (env:Env) (h:Heap) (m:Str->Option Value) (x:Str) (u:Value):Prop:=
 (env.kindOf x=some .local/\m x=some u) ∨ ((env.kindOf x=some .cell ∨ env.kindOf x=some .free)/\∃ c,env.cells.lookup x=some c/\h.IsCell c (some u))
structure Cx.Ok (X:Cx):Prop where
 mod:Mod X.K X.mg X.base
 kind:X.env.scope.kind = .function
 glob:X.env.globals=mainGlobals
 blt:X.env.builtins=builtinsNs
 above:X.s₀.heap.objs.size<=X.env.locals
 inj:∀ x y c,X.env.cells.lookup x=some c->X.env.cells.lookup y=some c->x=y
 has:∀ x,(X.env.kindOf x=some .cell ∨ X.env.kindOf x=some .free)->∃ c,X.env.cells.lookup x=some c
 cab:∀ x c,X.fn x=true->X.env.cells.lookup x=some c->X.s₀.heap.objs.size<=c
 hd:X.calm=true->X.A.handled=none
 frames:X.A.frames=some X.stack
 stk:X.stack=X.outer ∨ (X.stack=X.env :: X.outer/\X.env.frame=some X.env.locals)
 exf:∀ b ∈ X.ex,b ≠ X.env.locals/\∀ x c,X.env.cells.lookup x=some c->c ≠ b
 bs:∀ b o,X.base.get? b=some o->X.s₀.heap.get? b=some o/\X.H₀ b=none
 bsz:X.base.objs.size<=X.s₀.heap.objs.size
 noex:∀ b o,X.base.get? b=some o->b ∉ X.ex
 exfs:∀ b ∈ X.ex,b ∉ X.fs
 funs:X.s₀.heap.FunFrames X.base X.outer
 frf:∀ b ∈ X.fs,X.H₀ b=none
structure a6 (X:Cx) (pins:List (Addr × Obj)) (σ:List (Option V)) (H:Hp) (s:Shared):Prop where
 ok:X.Ok
 os:s.os=X.s₀.os
 bare:AllBare s.gens
 base:Un X.fs X.ex X.H₀ H X.s₀.heap s.heap
 loc:∃ m,s.heap.Ns X.env.locals m/\∀ (i:Nat) (x:Str) (v:V),X.N[i]? = some x->σ[i]? = some (some v)->gD X.env.scope x->∃ u,aU v u/\ab3 X.env s.heap m x u
 cell:∀ x c,X.env.cells.lookup x=some c->∃ v,s.heap.IsCell c v
 free:H X.env.locals=none
 freeC:∀ x c,X.env.cells.lookup x=some c->H c=none
 pin:∀ p ∈ X.pn ++ pins,s.heap.get? p.1=some p.2/\H p.1=none/\p.1 ≠ X.env.locals/\p.1 ∉ X.fs/\∀ v,p.2.data ≠ .cell v
 hok:bL X.prog X.w H s.heap
 len:σ.length=X.N.length
section
variable {X : Cx} {pins : List (Addr × Obj)} {σ : List (Option V)} {H H' : Hp} {s : Shared} {h' : Heap}
theorem Cx.Ok.nofr (ok:X.Ok) {b:Addr}{o:Obj} (e:X.base.get? b=some o):b ∉ X.fs:=fun hb=>by
 have:=(ok.funs.mem hb).1
 rw [e] at this; cases this
theorem a6.bs (I:a6 X pins σ H s):∀ b o,X.base.get? b=some o->s.heap.get? b=some o/\H b=none:=fun b o e=>
 ⟨I.base.keep b o (I.ok.bs b o e).1 (I.ok.bs b o e).2 (I.ok.nofr e) (I.ok.noex b o e),I.base.free b o (I.ok.bs b o e).1 (I.ok.bs b o e).2 (I.ok.noex b o e)⟩
theorem a6.bk (I:a6 X pins σ H s):∀ b o,X.base.get? b=some o->s.heap.get? b=some o:=fun b o e=>(I.bs b o e).1
theorem a6.mod (I:a6 X pins σ H s):Mod X.K X.mg X.base:=I.ok.mod
theorem a6.kIn (I:a6 X pins σ H s):X.K.In s.heap:=I.ok.mod.kin.keeps I.bk
theorem a6.fr (I:a6 X pins σ H s):∃ m,Fr X.base X.env.locals s.heap m:=
 let ⟨m,hn,_⟩:=I.loc
 ⟨m,hn,I.bk,bb5 I.ok.bsz I.ok.above⟩
theorem a6.lt (I:a6 X pins σ H s):X.env.locals < s.heap.objs.size:=let ⟨_,hn,_⟩:=I.loc; hn.lt
theorem a6.sz (I:a6 X pins σ H s):X.s₀.heap.objs.size<=s.heap.objs.size:=bb5 I.ok.above (bf3 I.lt)
theorem a6.nofs (I:a6 X pins σ H s) {a:Addr} (h:s.heap.objs.size<=a):a ∉ X.fs:=fun hb=>by
 obtain ⟨_,o,ho,_⟩:=I.ok.funs.mem hb
 exact absurd (aY7 (aY6 ho) (bb5 I.sz h)) (bd7 _)
theorem a6.cne (I:a6 X pins σ H s):∀ x c,X.env.cells.lookup x=some c->c ≠ X.env.locals:=fun x c e z=>by
 obtain ⟨v,o,ho,hd⟩:=I.cell x c e
 obtain ⟨m,⟨o',es,ep,ho',hd',_⟩,_⟩:=I.loc
 rw [z,ho'] at ho; cases ho; rw [hd'] at hd; cases hd
theorem a6.funs (I:a6 X pins σ H s):s.heap.FunFrames X.base X.outer:=by
 have all:∀ (l:List Env),(∀ b ∈ bU l,b ∈ X.fs)->X.s₀.heap.FunFrames X.base l->s.heap.FunFrames X.base l:=by
  intro l
  induction l with
  | nil=>intro _ _; trivial
  | cons env r ih=>
   intro hs hl
   obtain ⟨hk,⟨L,o,hf,hn,ho,hd⟩,hr⟩:=hl
   have hL:L ∈ X.fs:=hs L (by unfold bU; rw [List.filterMap_cons,hf]; exact aY1)
   obtain ⟨sl,e⟩:=I.base.slot L o ho (I.ok.frf L hL) hL fun z=>I.ok.exfs L z hL
   exact⟨hk,⟨L,_,hf,hn,e,hd⟩,ih (fun b hb=>hs b (by unfold bU; rw [List.filterMap_cons,hf]; exact aY2 _ hb)) hr⟩
 exact all X.outer (fun _ hb=>hb) I.ok.funs
theorem a6.stack (I:a6 X pins σ H s):s.heap.FunFrames X.base X.stack:=by
 rcases I.ok.stk with e | ⟨e,hf⟩
 ·rw [e]; exact I.funs
 ·rw [e]
  obtain ⟨m,hn,_⟩:=I.loc
  refine .cons (by rw [I.ok.kind]; decide) hf hn ?_ I.funs
  exact Heap.get?_none_of_le (bb5 I.ok.bsz I.ok.above)
theorem a6.stkSub (I:a6 X pins σ H s):∀ b ∈ bU X.stack,b ∈ X.env.locals :: X.fs:=fun b hb=>by
 rcases I.ok.stk with e | ⟨e,hf⟩
 ·rw [e] at hb; exact aY2 _ hb
 ·rw [e] at hb
  unfold bU at hb
  rw [List.filterMap_cons,hf] at hb
  exact hb
theorem a6.stkFree (I:a6 X pins σ H s):∀ b ∈ bU X.stack,H b=none:=fun b hb=>by
 rcases aX9.mp (I.stkSub b hb) with e | hb
 ·rw [e]; exact I.free
 ·obtain ⟨_,o,ho,_⟩:=I.ok.funs.mem hb
  exact I.base.free b o ho (I.ok.frf b hb) fun z=>I.ok.exfs b z hb
theorem a6.step {g':Array GenState}{t':Nat}{d':Drawn}{ch:List Addr} (I:a6 X pins σ H s)
  (hch:∀ b ∈ ch,(b ∈ X.ex ∨ X.s₀.heap.objs.size<=b)/\b ≠ X.env.locals/\(∀ x c,X.env.cells.lookup x=some c->c ≠ b)/\∀ p ∈ X.pn ++ pins,p.1 ≠ b)
  (keep:∀ b o,b ≠ X.env.locals->b ∉ X.fs->b ∉ ch->s.heap.get? b=some o->H b=none->h'.get? b=some o)
  (slot:∀ b o,b ≠ X.env.locals->b ∈ X.fs->b ∉ ch->s.heap.get? b=some o->H b=none->∃ sl,h'.get? b=some { o with slots:=sl }) (free:∀ b o,b ∉ ch->s.heap.get? b=some o->H b=none->H' b=none)
  (there:∀ b o,b ∉ ch->s.heap.get? b=some o->∃ o',h'.get? b=some o')
  (tups:∀ b xs,H b=some (.tup xs)->H' b=some (.tup xs)) (frzs:∀ b o u,H b=some (.frz o u)->H' b=some (.frz o u)) (tbls:∀ b ps,H b=some (.tbl ps)->∃ more,H' b=some (.tbl (ps ++ more)))
  (ns:∀ m,s.heap.Ns X.env.locals m->h'.Ns X.env.locals m) (hok:bL X.prog X.w H' h') (hg:AllBare g') :
  a6 X pins σ H' { s with heap:=h',gens:=g',drawn:=d',toks:=t' }:=by
 have neL:∀ b o,X.s₀.heap.get? b=some o->b ≠ X.env.locals:=fun b o e=>ba2 (aY7 (aY6 e) I.ok.above)
 have neC:∀ b o,X.s₀.heap.get? b=some o->b ∉ X.ex->b ∉ ch:=fun b o e hx hb=>by
  rcases (hch b hb).1 with z | z
  ·exact hx z
  ·exact absurd (aY7 (aY6 e) z) (bd7 _)
 have cellK:∀ x c,X.env.cells.lookup x=some c->∀ v,s.heap.IsCell c v->h'.IsCell c v:=fun x c e v ⟨o,ho,hd⟩=>by
  have nch:c ∉ ch:=fun z=>(hch c z).2.2.1 x c e rfl
  by_cases hc:c ∈ X.fs
  ·obtain ⟨sl,q⟩:=slot c o (I.cne x c e) hc nch ho (I.freeC x c e)
   exact⟨_,q,hd⟩
  ·exact⟨o,keep c o (I.cne x c e) hc nch ho (I.freeC x c e),hd⟩
 refine⟨I.ok,I.os,hg,⟨fun b o e n hb hx=>?_,fun b o e n hb hx=>?_,fun b o e n hx=>?_,fun b o e hx=>?_,fun b xs e=>tups b xs (I.base.tups b xs e),fun b o xs e=>frzs b o xs (I.base.frzs b o xs e),fun b ps e=>?_⟩,?_,fun x c e=>?_,?_,fun x c e=>?_,fun p hp=>?_,hok,I.len⟩
 ·exact keep b o (neL b o e) hb (neC b o e hx) (I.base.keep b o e n hb hx) (I.base.free b o e n hx)
 ·obtain ⟨sl,e1⟩:=I.base.slot b o e n hb hx
  obtain ⟨sl',e2⟩:=slot b _ (neL b o e) hb (neC b o e hx) e1 (I.base.free b o e n hx)
  exact⟨sl',e2⟩
 ·obtain ⟨o',e1⟩:=I.base.there b o e hx
  exact free b o' (neC b o e hx) e1 (I.base.free b o e n hx)
 ·obtain ⟨o',e1⟩:=I.base.there b o e hx
  exact there b o' (neC b o e hx) e1
 ·obtain ⟨m1,e1⟩:=I.base.tbls b ps e
  obtain ⟨m2,e2⟩:=tbls b _ e1
  exact⟨m1 ++ m2,by rw [e2,Array.append_assoc]⟩
 ·obtain ⟨m,hn,hl⟩:=I.loc
  refine⟨m,ns m hn,fun i x v e1 e2 e3=>?_⟩
  obtain ⟨u,r,l⟩:=hl i x v e1 e2 e3
  refine⟨u,r,?_⟩
  rcases l with l | ⟨k,c,e,z⟩
  ·exact .inl l
  ·exact .inr ⟨k,c,e,cellK x c e _ z⟩
 ·obtain ⟨v,z⟩:=I.cell x c e
  exact⟨v,cellK x c e v z⟩
 ·obtain ⟨m,⟨o,_,_,ho,_⟩,_⟩:=I.loc
  exact free _ o (fun z=>(hch _ z).2.1 rfl) ho I.free
 ·obtain ⟨v,o,ho,hd⟩:=I.cell x c e
  exact free c o (fun z=>(hch c z).2.2.1 x c e rfl) ho (I.freeC x c e)
 ·obtain ⟨e,n,ne,nf,d⟩:=I.pin p hp
  have nch:p.1 ∉ ch:=fun z=>(hch p.1 z).2.2.2 p hp rfl
  exact⟨keep p.1 p.2 ne nf nch e n,free p.1 p.2 nch e n,ne,nf,d⟩
theorem a6.un {t':Nat} (I:a6 X pins σ H s) (u:Un X.fs [] H H' s.heap h') (hok:bL X.prog X.w H' h'):a6 X pins σ H' { s with heap:=h',toks:=t' }:=by
 obtain ⟨m,⟨o,es,ep,ho,r⟩,_⟩:=id I.loc
 obtain ⟨sl,hL⟩:=u.any ho I.free (by simp)
 exact I.step (g':=s.gens) (d':=s.drawn) (ch:=[]) (fun _ z=>nomatch z) (fun b o _ hb _ e n=>u.keep b o e n hb (by simp)) (fun b o _ hb _ e n=>u.slot b o e n hb (by simp)) (fun b o _ e n=>u.free b o e n (by simp)) (fun b o _ e=>u.there b o e (by simp)) u.tups u.frzs u.tbls (fun m' hm=>by
  obtain ⟨o',es',ep',ho',r'⟩:=hm
  rw [ho] at ho'; cases ho'
  exact⟨_,es',ep',hL,r'⟩) hok I.bare
theorem a6.call {g':Array GenState}{t':Nat}{d':Drawn}{ch:List Addr} (I:a6 X pins σ H s) (u:Un (bU X.stack) ch H H' s.heap h') (hok:bL X.prog X.w H' h') (hg:AllBare g')
  (hch:∀ b ∈ ch,(b ∈ X.ex ∨ X.s₀.heap.objs.size<=b)/\b ≠ X.env.locals/\(∀ x c,X.env.cells.lookup x=some c->c ≠ b)/\∀ p ∈ X.pn ++ pins,p.1 ≠ b) :
  a6 X pins σ H' { s with heap:=h',gens:=g',drawn:=d',toks:=t' }:=by
 obtain ⟨m,⟨o,es,ep,ho,r⟩,_⟩:=id I.loc
 obtain ⟨sl,hL⟩:=u.any ho I.free fun z=>(hch _ z).2.1 rfl
 exact I.step (ch:=ch) hch (fun b o hL hb hc e n=>u.keep b o e n (fun z=>(aX9.mp (I.stkSub b z)).elim hL hb) hc) (fun b o _ _ hc e n=>u.any e n hc) (fun b o hc e n=>u.free b o e n hc) (fun b o hc e=>u.there b o e hc) u.tups u.frzs u.tbls (fun m' hm=>by
  obtain ⟨o',es',ep',ho',r'⟩:=hm
  rw [ho] at ho'; cases ho'
  exact⟨_,es',ep',hL,r'⟩) hok hg
theorem a6.turned {t':Nat}{it:Addr} (I:a6 X pins σ H s) (k:∀ b o,b ≠ it->s.heap.get? b=some o->h'.get? b=some o) (hn:H it=none) (hL:it ≠ X.env.locals)
  (h1:it ∈ X.ex ∨ X.s₀.heap.objs.size<=it) (h2:∀ x c,X.env.cells.lookup x=some c->c ≠ it) (h3:∀ p ∈ X.pn ++ pins,p.1 ≠ it):a6 X pins σ H { s with heap:=h',toks:=t' }:=by
 have nit:∀ b u,H b=some u->b ≠ it:=fun b u e z=>by rw [z,hn] at e; cases e
 refine I.step (g':=s.gens) (d':=s.drawn) (ch:=[it]) (fun b hb=>?_) (fun b o _ _ hc e _=>k b o (fun z=>hc (by simp [z])) e) (fun b o _ _ hc e _=>⟨o.slots,k b o (fun z=>hc (by simp [z])) e⟩) (fun _ _ _ _ n=>n)
  (fun b o hc e=>⟨o,k b o (fun z=>hc (by simp [z])) e⟩) (fun _ _ e=>e) (fun _ _ _ e=>e) (fun b ps e=>⟨#[],by rw [e]; simp⟩) (fun m hm=>?_) (fun b u e=>?_) I.bare
 ·have e:b=it:=by simpa using hb
  subst e
  exact⟨h1,hL,h2,h3⟩
 ·obtain ⟨o,es,ep,ho,r⟩:=hm
  exact⟨o,es,ep,k _ o (Ne.symm hL) ho,r⟩
 ·refine (I.hok b u e).stay (fun c v hc q=>k c v ?_ q) (fun _ q=>q) fun _ _ q=>q
  rcases hc with z | z
  ·rw [z]; exact nit b u e
  ·exact nit c _ z
theorem a6.tok (I:a6 X pins σ H s) (t:Nat):a6 X pins σ H { s with toks:=t }:=I.un (h':=s.heap) (t':=t) Un.refl I.hok
theorem a6.kept {t':Nat} (I:a6 X pins σ H s) (k:∀ b u,s.heap.get? b=some u->h'.get? b=some u):a6 X pins σ H { s with heap:=h',toks:=t' }:=I.un (Un.kept k) (I.hok.kept k)
theorem a6.laid {a:Addr}{o:HO}{t':Nat} (I:a6 X pins σ H s) (k:∀ b u,s.heap.get? b=some u->h'.get? b=some u) (hp:s.heap.objs.size<=a) (new:bI X.prog X.w (upd H a o) h' a o) :
  a6 X pins σ (upd H a o) { s with heap:=h',toks:=t' }:=I.un (Un.laid k hp (I.hok.fresh hp)) (I.hok.laid k hp new)
theorem a6.write {x e:Addr}{o:HO}{t':Nat} (I:a6 X pins σ H s) (mu:mF (H x)) (he:e=x ∨ H e=some (.own x)) (k:∀ b u,b ≠ e->s.heap.get? b=some u->h'.get? b=some u) (heo:∃ u,h'.get? e=some u)
  (new:bI X.prog X.w (upd H x o) h' x o):a6 X pins σ (upd H x o) { s with heap:=h',toks:=t' }:=I.un (Un.write mu he k heo) (I.hok.write mu he k heo new)
theorem a6.weak {σ':List (Option V)} (I:a6 X pins σ H s) (hl:σ'.length=σ.length) (w:∀ (i:Nat) v,σ'[i]? = some (some v)->σ[i]? = some (some v)):a6 X pins σ' H s:=
 ⟨I.ok,I.os,I.bare,I.base,let ⟨m,hn,hl'⟩:=I.loc; ⟨m,hn,fun i x v e1 e2 e3=>hl' i x v e1 (w i v e2) e3⟩,I.cell,I.free,I.freeC,I.pin,I.hok,hl.trans I.len⟩
theorem a6.pins_of {pins':List (Addr × Obj)} (I:a6 X pins σ H s) (h:∀ p ∈ pins',s.heap.get? p.1=some p.2/\H p.1=none/\p.1 ≠ X.env.locals/\p.1 ∉ X.fs/\∀ v,p.2.data ≠ .cell v):a6 X pins' σ H s:=
 ⟨I.ok,I.os,I.bare,I.base,I.loc,I.cell,I.free,I.freeC,fun p hp=>(bb6.mp hp).elim (fun z=>I.pin p (bg3 _ z)) (h p),I.hok,I.len⟩
theorem x9 {N:List Str} (hN:N.Nodup) {i j:Nat}{x:Str} (a:N[i]? = some x) (b:N[j]? = some x):i=j:=by
 obtain ⟨h1,e1⟩:=aY5.mp a
 obtain ⟨h2,e2⟩:=aY5.mp b
 exact (List.getElem_inj hN).mp (e1.trans e2.symm)
theorem rY {M:Model}{A:Around}{E:Value->Shared->Prop}{i:Nat}{x:Str}{v:V}{u:Value}{Q:Unit->Shared->Prop} (I:a6 X pins σ H s) (hN:X.N.Nodup) (hi:X.N[i]? = some x) (hx:iB X.env.scope x) (r:aU v u)
  (h:∀ s',a6 X pins (σ.set i (some v)) H s'->(∃ a,Heap.SameBut a s.heap s'.heap/\(a=X.env.locals ∨ X.env.cells.lookup x=some a))->Q () s') (hf:X.fn x=true ∨ X.env.scope.names.lookup x=some .local:=by first | exact .inl rfl | exact .inr rfl | assumption):wpAny M A (storeName X.env x u) Q E s:=by
 obtain ⟨m,hn,hl⟩:=id I.loc
 have hcls:(X.env.scope.kind == .class || (X.env.scope.kind == .module && X.env.locals != X.env.globals))=false:=by rw [I.ok.kind]; rfl
 have hiσ:i < σ.length:=by rw [I.len]; exact (aY5.mp hi).1
 have cne:=I.cne
 have tracked:∀ {a:Addr}{h':Heap},(∃ o,s.heap.get? a=some o/\H a=none)->Heap.SameBut a s.heap h'->bL X.prog X.w H h':=fun {a h'} ha hs b ob e=>by
  obtain ⟨_,_,hfree⟩:=ha
  refine (I.hok b ob e).stay (fun c w' hc q=>(hs.2 c ?_).trans q) (fun _ q=>q) fun _ _ q=>q
  rintro rfl
  rcases hc with rfl | hc
  ·rw [hfree] at e; cases e
  ·rw [hfree] at hc; cases hc
 rcases hx with hk | hk
 ·refine wpAny_storeName_local hk hn (fun h' hn' hs=>?_) hcls
  obtain ⟨oL,_,_,hoL,_⟩:=id hn
  refine h _ ⟨I.ok,I.os,I.bare,⟨fun b o e n hb hx=>?_,fun b o e n hb hx=>?_,I.base.free,fun b o e hx=>?_,I.base.tups,I.base.frzs,I.base.tbls⟩,⟨_,hn',fun j y v' e1 e2 e3=>?_⟩,fun y c e=>?_,I.free,I.freeC,fun p hp=>?_,tracked ⟨oL,hoL,I.free⟩ hs,by simpa using I.len⟩ ⟨_,hs,.inl rfl⟩
  ·exact (hs.2 b (ba2 (aY7 (aY6 e) I.ok.above))).trans (I.base.keep b o e n hb hx)
  ·obtain ⟨sl,e1⟩:=I.base.slot b o e n hb hx
   exact⟨sl,(hs.2 b (ba2 (aY7 (aY6 e) I.ok.above))).trans e1⟩
  ·obtain ⟨o',e1⟩:=I.base.there b o e hx
   exact⟨o',(hs.2 b (ba2 (aY7 (aY6 e) I.ok.above))).trans e1⟩
  ·by_cases hj:j=i
   ·subst hj
    rw [hi] at e1; cases e1
    rw [bg7 hiσ] at e2
    cases e2
    exact⟨u,r,.inl ⟨hk,by simp⟩⟩
   ·rw [bb3 (Ne.symm hj)] at e2
    obtain ⟨u',r',q⟩:=hl j y v' e1 e2 e3
    refine⟨u',r',?_⟩
    rcases q with ⟨k,e⟩ | ⟨k,c,e,z⟩
    ·refine .inl ⟨k,?_⟩
     have:y ≠ x:=fun e=>hj (x9 hN e1 (e ▸ hi))
     simp [this,e]
    ·exact .inr ⟨k,c,e,z.sameBut hs (cne y c e)⟩
  ·obtain ⟨w',z⟩:=I.cell y c e
   exact⟨w',z.sameBut hs (cne y c e)⟩
  ·obtain ⟨e,n,ne,nf,d⟩:=I.pin p hp
   exact⟨(hs.2 p.1 ne).trans e,n,ne,nf,d⟩
 ·have hfn:X.fn x=true:=by
   rcases hf with z | z
   ·exact z
   ·rw [z] at hk; cases hk
  obtain ⟨c,hc⟩:=I.ok.has x (.inl hk)
  obtain ⟨w',z⟩:=I.cell x c hc
  refine wpAny_storeName_cell I.ok.kind hk hc z (fun h' hc' hs=>?_)
  obtain ⟨oc,hoc,hocd⟩:=id z
  refine h { s with heap:=h' } ⟨I.ok,I.os,I.bare,⟨fun b o e n hb hx=>?_,fun b o e n hb hx=>?_,I.base.free,fun b o e hx=>?_,I.base.tups,I.base.frzs,I.base.tbls⟩,⟨m,hn.sameBut hs (Ne.symm (cne x c hc)),fun j y v' e1 e2 e3=>?_⟩,fun y c' e=>?_,I.free,I.freeC,fun p hp=>?_,tracked ⟨oc,hoc,I.freeC x c hc⟩ hs,by simpa using I.len⟩ ⟨c,hs,.inr hc⟩
  ·exact (hs.2 b (ba2 (aY7 (aY6 e) (I.ok.cab x c hfn hc)))).trans (I.base.keep b o e n hb hx)
  ·obtain ⟨sl,e1⟩:=I.base.slot b o e n hb hx
   exact⟨sl,(hs.2 b (ba2 (aY7 (aY6 e) (I.ok.cab x c hfn hc)))).trans e1⟩
  ·obtain ⟨o',e1⟩:=I.base.there b o e hx
   exact⟨o',(hs.2 b (ba2 (aY7 (aY6 e) (I.ok.cab x c hfn hc)))).trans e1⟩
  ·by_cases hj:j=i
   ·subst hj
    rw [hi] at e1; cases e1
    rw [bg7 hiσ] at e2
    cases e2
    exact⟨u,r,.inr ⟨.inl hk,c,hc,hc'⟩⟩
   ·rw [bb3 (Ne.symm hj)] at e2
    obtain ⟨u',r',q⟩:=hl j y v' e1 e2 e3
    refine⟨u',r',?_⟩
    rcases q with q | ⟨k,c',e,z'⟩
    ·exact .inl q
    ·refine .inr ⟨k,c',e,z'.sameBut hs ?_⟩
     rintro rfl
     exact hj (x9 hN e1 (I.ok.inj _ _ _ e hc ▸ hi))
  ·by_cases hcc:c'=c
   ·subst hcc; exact⟨_,hc'⟩
   ·obtain ⟨w2,z2⟩:=I.cell y c' e
    exact⟨w2,z2.sameBut hs hcc⟩
  ·obtain ⟨e,n,ne,nf,d⟩:=I.pin p hp
   refine⟨(hs.2 p.1 ?_).trans e,n,ne,nf,d⟩
   intro q
   rw [q,hoc] at e
   have q':oc=p.2:=aZ8 e
   exact d w' (by rw [<- q']; exact hocd)
theorem xA {M:Model}{A:Around}{E:Value->Shared->Prop}{i:Nat}{x:Str}{v:V}{u:Value}{Q:Unit->Shared->Prop} (I:a6 X pins σ H s) (hN:X.N.Nodup) (hi:X.N[i]? = some x) (hx:iB X.env.scope x) (r:aU v u)
  (h:∀ s',a6 X pins (σ.set i (some v)) H s'->Q () s') (hf:X.fn x=true ∨ X.env.scope.names.lookup x=some .local:=by first | exact .inl rfl | exact .inr rfl | assumption):wpAny M A (storeName X.env x u) Q E s:=
 rY I hN hi hx r (fun s' I' _=>h s' I') hf
theorem a6.call' {s':Shared}{ch:List Addr} (I:a6 X pins σ H s) (ho:s'.os=s.os) (u:Un (bU X.stack) ch H H' s.heap s'.heap) (hok:bL X.prog X.w H' s'.heap) (hg:AllBare s'.gens)
  (hch:∀ b ∈ ch,(b ∈ X.ex ∨ X.s₀.heap.objs.size<=b)/\b ≠ X.env.locals/\(∀ x c,X.env.cells.lookup x=some c->c ≠ b)/\∀ p ∈ X.pn ++ pins,p.1 ≠ b):a6 X pins σ H' s':=by
 obtain ⟨h',g',d',t',o'⟩:=s'
 have e:o'=s.os:=ho
 subst e
 exact I.call (g':=g') (t':=t') (d':=d') u hok hg hch
end
abbrev XK:=Value->Option Addr->Hp->Prop
abbrev St:=List (Option V)
abbrev VK:=V->Hp->Prop
abbrev TE:=St->Hp->VK->Prop
abbrev TT:=St->Hp->(Bool->Hp->Prop)->Prop
abbrev TA:=St->Hp->(List V->Hp->Prop)->Prop
structure cE where
 nx:St->Hp->Prop
 rt:VK
 bk:St->Hp->Prop:=fun _ _=>False
 ct:St->Hp->Prop:=fun _ _=>False
abbrev TS:=cE->St->Hp->Prop
def EP (X:Cx) (pins:List (Addr × Obj)) (σ:St) (Q:VK) (u:Value) (s':Shared):Prop:=∃ v H',a6 X pins σ H' s'/\aU v u/\Q v H'
def TP (X:Cx) (pins:List (Addr × Obj)) (σ:St) (Q:Bool->Hp->Prop) (b:Bool) (s':Shared):Prop:=∃ H',a6 X pins σ H' s'/\Q b H'
def AP (X:Cx) (pins:List (Addr × Obj)) (σ:St) (Q:List V->Hp->Prop) (us:List Value) (s':Shared):Prop:=∃ vs H',a6 X pins σ H' s'/\aI vs us/\Q vs H'
def SP (X:Cx) (pins:List (Addr × Obj)) (D:cE) (f:Flow) (s':Shared):Prop:=
 match f with
 | .next=>∃ σ' H',a6 X pins σ' H' s'/\D.nx σ' H'
 | .brk=>∃ σ' H',a6 X pins σ' H' s'/\D.bk σ' H'
 | .cont=>∃ σ' H',a6 X pins σ' H' s'/\D.ct σ' H'
 | .ret u=>∃ v σ' H',a6 X pins σ' H' s'/\aU v u/\D.rt v H'
def PE (X:Cx) (e:Expr) (t:TE):Prop:=
 ∀ (pins:List (Addr × Obj)) (s:Shared) (σ:St) (H:Hp) (Q:VK),a6 X pins σ H s->t σ H Q->wpAny (model X.prog X.w) X.A (eval e X.env) (EP X pins σ Q) X.xe s
def PT (X:Cx) (e:Expr) (t:TT):Prop:=
 ∀ (pins:List (Addr × Obj)) (s:Shared) (σ:St) (H:Hp) (Q:Bool->Hp->Prop),a6 X pins σ H s->t σ H Q->wpAny (model X.prog X.w) X.A (isTrue e X.env (eval e X.env)) (TP X pins σ Q) X.xe s
def PW (X:Cx) (e:Expr) (t:TT):Prop:=
 ∀ (whole:Sem Value) (pins:List (Addr × Obj)) (s:Shared) (σ:St) (H:Hp) (Q:Bool->Hp->Prop),a6 X pins σ H s->t σ H Q->wpAny (model X.prog X.w) X.A (isTrue e X.env whole) (TP X pins σ Q) X.xe s
theorem PW.pt {X:Cx}{e:Expr}{t:TT} (h:PW X e t):PT X e t:=h _
def PA (X:Cx) (es:List Expr) (t:TA):Prop:=
 ∀ (pos:Pos) (pins:List (Addr × Obj)) (s:Shared) (σ:St) (H:Hp) (Q:List V->Hp->Prop),a6 X pins σ H s->t σ H Q->wpAny (model X.prog X.w) X.A (spliced (backTo pos (starEach es X.env))) (AP X pins σ Q) X.xe s
def PS (X:Cx) (st:Stmt) (t:TS):Prop:=
 ∀ (pins:List (Addr × Obj)) (s:Shared) (σ:St) (H:Hp) (D:cE),a6 X pins σ H s->t D σ H->wpAny (model X.prog X.w) X.A (exec st X.env) (SP X pins D) X.xe s
def dH (X:Cx) (st:List Stmt) (t:TS):Prop:=
 ∀ (pins:List (Addr × Obj)) (s:Shared) (σ:St) (H:Hp) (D:cE),a6 X pins σ H s->t D σ H->wpAny (model X.prog X.w) X.A (execs st X.env) (SP X pins D) X.xe s
theorem aP {α:Type}{t:Sem α}{Q Q':α->Shared->Prop}{M:Model}{A:Around}{E:Value->Shared->Prop}{s:Shared} (h:wpAny M A t Q E s) (hQ:∀ a s,Q a s->Q' a s):wpAny M A t Q' E s:=bg0 h hQ fun _ _ x=>x
section
variable {X : Cx}
theorem bin {a b:Expr}{ta tb:TE} (ha:PE X a ta) (hb:PE X b tb) {pins:List (Addr × Obj)}{s:Shared}{σ:St}{H:Hp}{R:V->V->Hp->Prop} (I:a6 X pins σ H s) (h:ta σ H fun x H1=>tb σ H1 fun y H2=>R x y H2)
  {α:Type}{Q:α->Shared->Prop}{f:Value->Value->Sem α}
  (hf:∀ v u s2 x y H2,a6 X pins σ H2 s2->aU x v->aU y u->R x y H2->wpAny (model X.prog X.w) X.A (f v u) Q X.xe s2) :
  wpAny (model X.prog X.w) X.A (eval a X.env) (fun v s₁=>wpAny (model X.prog X.w) X.A (eval b X.env) (fun u s₂=>wpAny (model X.prog X.w) X.A (f v u) Q X.xe s₂) X.xe s₁) X.xe s:=by
 refine aP (ha pins s σ H _ I h) fun v s1 ⟨x,H1,I1,r1,q1⟩=>?_
 refine aP (hb pins s1 σ H1 _ I1 q1) fun u s2 ⟨y,H2,I2,r2,q2⟩=>?_
 exact hf v u s2 x y H2 I2 r1 r2 q2
def iC (i:Nat):TE:=fun σ H Q=>∃ v,σ[i]? = some (some v)/\Q v H
def tC (v:V):TE:=fun _ H Q=>Q v H
theorem j5 {i:Nat}{x:Str}{pos:Pos} (hN:X.N[i]? = some x) (hv:gD X.env.scope x) (hd:(x == ("__debug__" : Str))=false:=by decide) (hcd:(x == ("__classdict__" : Str))=false:=by decide):PE X (.Name x pos) (iC i):=by
 intro pins s σ H Q I h
 obtain ⟨v,e,h⟩:=h
 obtain ⟨m,hn,hl⟩:=I.loc
 obtain ⟨u,r,l⟩:=hl i x v hN e hv
 have fin:EP X pins σ Q u s:=⟨v,H,I,r,h⟩
 rcases l with ⟨hk,hm⟩ | ⟨hk,c,hc,hcell⟩
 ·exact wpAny_Name (wpAny_loadName_local I.ok.kind hk hn hm fin) hd
 ·rcases hk with hk | hk
  ·exact wpAny_Name (wpAny_loadName_cell I.ok.kind hk hc hcell fin) hd
  ·exact wpAny_Name (wpAny_loadName_free I.ok.kind hk hc hcell fin hcd) hd
theorem rZ {i j pos}:PE X (.Constant (.int i) j pos) (tC (.int i)):=fun _ _ _ H _ I h=>wpAny_Constant_int ⟨.int i,H,I.tok _,⟨_,rfl⟩,h⟩
theorem ab4 {b j pos}:PE X (.Constant (.bool b) j pos) (tC (.bl b)):=fun _ _ _ H _ I h=>Constant_bool ⟨.bl b,H,I,rfl,h⟩
theorem ab5 {j pos}:PE X (.Constant .none j pos) (tC .non):=fun _ _ _ H _ I h=>Constant_none ⟨.non,H,I,rfl,h⟩
theorem ab6 {x j pos}:PE X (.Constant (.str x) j pos) (tC (.str x)):=fun _ _ _ H _ I h=>Calls.Constant_str ⟨.str x,H,I.tok _,⟨_,rfl⟩,h⟩
def Gl (X:Cx) (x:Str):Prop:=X.env.kindOf x=some .globalImplicit
theorem sA {E:Value->Shared->Prop}{pins:List (Addr × Obj)}{s:Shared}{σ:St}{H:Hp}{x:Str}{u:Value}{pos:Pos}{Q:Value->Shared->Prop} (I:a6 X pins σ H s) (hg:Gl X x) (hm:X.mg x=some u) (h:Q u s)
  (hd:(x == ("__debug__" : Str))=false:=by decide):wpAny (model X.prog X.w) X.A (eval (.Name x pos) X.env) Q E s:=
 Calls.Name_function_global I.ok.kind hg (Calls.loadGlobal_global (by rw [I.ok.glob]; exact I.mod.glob.keeps I.bk) hm h) hd
theorem jX {E:Value->Shared->Prop}{pins:List (Addr × Obj)}{s:Shared}{σ:St}{H:Hp}{x:Str}{u:Value}{pos:Pos}{Q:Value->Shared->Prop} (I:a6 X pins σ H s) (hg:Gl X x) (hm:X.mg x=none) (hv:bootBuiltins x=some u) (h:Q u s)
  (hn:x ≠ "__name__":=by decide) (hd:(x == ("__debug__" : Str))=false:=by decide):wpAny (model X.prog X.w) X.A (eval (.Name x pos) X.env) Q E s:=by
 obtain ⟨mb,h1,h2⟩:=I.mod.blt
 exact Calls.Name_function_global I.ok.kind hg (Calls.loadGlobal_builtin (by rw [I.ok.glob]; exact I.mod.glob.keeps I.bk) hm (by rw [I.ok.blt]; exact h1.keeps I.bk) ((h2 x hn).trans hv) h) hd
theorem ab7 {x:Str}{v:V}{u:Value}{pos:Pos} (hg:Gl X x) (hm:X.mg x=some u) (r:aU v u) (hd:(x == ("__debug__" : Str))=false:=by decide):PE X (.Name x pos) (tC v):=
 fun _ _ _ H _ I h=>sA I hg hm ⟨v,H,I,r,h⟩ hd
theorem ab8 {x:Str}{v:V}{u:Value}{pos:Pos} (hg:Gl X x) (hm:X.mg x=none) (hv:bootBuiltins x=some u) (r:aU v u) (hn:x ≠ "__name__":=by decide) (hd:(x == ("__debug__" : Str))=false:=by decide):PE X (.Name x pos) (tC v):=
 fun _ _ _ H _ I h=>jX I hg hm hv ⟨v,H,I,r,h⟩ hn hd
variable {a b : Expr} {ta tb : TE} {pos : Pos}
def PC (X:Cx) (op:CmpOp) (a b:Expr) (t:TE):Prop:=
 ∀ (pins:List (Addr × Obj)) (s:Shared) (σ:St) (H:Hp) (Q:VK),a6 X pins σ H s->t σ H Q->
  wpAny (model X.prog X.w) X.A (eval a X.env) (fun v s₁=>wpAny (model X.prog X.w) X.A (eval b X.env) (fun u s₂=>wpAny (model X.prog X.w) X.A (compareOp op v u) (EP X pins σ Q) X.xe s₂) X.xe s₁) X.xe s
def tB (t:TE):TT:=fun σ H Q=>t σ H fun x H1=>∃ c,x = .bl c/\Q c H1
theorem ab9 {op:CmpOp}{t:TE} (h:PC X op a b t) (h1:behindInMarks op b=false:=by first | exact nobehind _ (by decide) (by decide) | rfl):PE X (.Compare a [op] [b] pos) t:=fun pins s σ H Q I hw=>wpAny_Compare1 (h pins s σ H Q I hw) h1
theorem xB {op:CmpOp}{t:TE} (h:PC X op a b t) (h1:behindInMarks op b=false:=by first | exact nobehind _ (by decide) (by decide) | rfl):PT X (.Compare a [op] [b] pos) (tB t):=by
 intro pins s σ H Q I hw
 refine wpAny_isTrue_Compare1 (aP (h pins s σ H _ I hw) fun v s1 h1=>aP h1 fun u s2 h2=>aP h2 fun c s3 ⟨x,H1,I1,r1,q1⟩=>?_) h1
 obtain ⟨d,rfl,q⟩:=q1
 cases r1
 exact bj4 ⟨H1,I1,q⟩
theorem ac0 {e:Expr}{t:TE} (h:PE X e t) (he:∀ whole,isTrue e X.env whole=(do let v <- whole; standAt e.pos; holding [v] (truthy v)):=by intro _; rfl):PT X e (tB t):=by
 intro pins s σ H Q I hw
 refine isTrue_plain (aP (h pins s σ H _ I hw) fun v s1 ⟨x,H1,I1,r1,q1⟩=>?_) (he _)
 obtain ⟨d,rfl,q⟩:=q1
 cases r1
 exact bj4 ⟨H1,I1,q⟩
variable {tA tB' : TT} {cN : List Expr}
def xC (t u:TT):TT:=fun σ H Q=>t σ H fun c H1=>if c=true then u σ H1 Q else Q false H1
def xD (t u:TT):TT:=fun σ H Q=>t σ H fun c H1=>if c=true then Q true H1 else u σ H1 Q
def xE (t:TT):TT:=fun σ H Q=>t σ H fun c H1=>Q (!c) H1
theorem ac1 (ha:PT X a tA):PW X (.BoolOp .And [a] pos) tA:=by
 intro wh pins s σ H Q I h
 refine isTrue_and (aP (ha pins s σ H Q I h) fun c s1 e=>?_)
 cases c with
 | true=>exact isTrue_and_nil e
 | false=>exact e
theorem ac2 (ha:PT X a tA):PW X (.BoolOp .Or [a] pos) tA:=by
 intro wh pins s σ H Q I h
 refine isTrue_or (aP (ha pins s σ H Q I h) fun c s1 e=>?_)
 cases c with
 | false=>exact isTrue_or_nil e
 | true=>exact e
theorem ac3 (ha:PT X a tA) (hb:PW X (.BoolOp .And (b :: cN) pos) tB'):PW X (.BoolOp .And (a :: b :: cN) pos) (xC tA tB'):=by
 intro wh pins s σ H Q I h
 refine isTrue_and (aP (ha pins s σ H _ I h) fun c s1 ⟨H1,I1,q1⟩=>?_)
 cases c with
 | true=>exact hb wh pins s1 σ H1 Q I1 q1
 | false=>exact⟨H1,I1,q1⟩
theorem ac4 (ha:PT X a tA) (hb:PW X (.BoolOp .Or (b :: cN) pos) tB'):PW X (.BoolOp .Or (a :: b :: cN) pos) (xD tA tB'):=by
 intro wh pins s σ H Q I h
 refine isTrue_or (aP (ha pins s σ H _ I h) fun c s1 ⟨H1,I1,q1⟩=>?_)
 cases c with
 | true=>exact⟨H1,I1,q1⟩
 | false=>exact hb wh pins s1 σ H1 Q I1 q1
theorem ac5 (ha:PT X a tA):PT X (.UnaryOp .Not a pos) (xE tA):=by
 intro pins s σ H Q I h
 exact isTrue_not (ha pins s σ H (fun c H1=>Q (!c) H1) I h)
def xF (ta tb:TE):TE:=fun σ H Q=>ta σ H fun x H1=>∃ c,x = .bl c/\if c=true then tb σ H1 Q else Q (.bl false) H1
def xG (ta:TE):TE:=fun σ H Q=>ta σ H fun x H1=>∃ c,x = .bl c/\Q (.bl (!c)) H1
theorem ac6 {op}{t:TE} (h:PE X a t):PE X (.BoolOp op [a] pos) t:=fun pins s σ H Q I hw=>BoolOp_one (h pins s σ H Q I hw)
theorem ac7 (ha:PE X a ta) (hb:PE X (.BoolOp .And (b :: cN) pos) tb):PE X (.BoolOp .And (a :: b :: cN) pos) (xF ta tb):=by
 intro pins s σ H Q I h
 refine BoolOp_and (aP (ha pins s σ H _ I h) fun v s1 ⟨x,H1,I1,r1,q1⟩=>?_)
 obtain ⟨c,rfl,q1⟩:=q1
 cases r1
 refine bj4 ?_
 cases c with
 | true=>exact hb pins s1 σ H1 Q I1 q1
 | false=>exact⟨.bl false,H1,I1,rfl,q1⟩
theorem ac8 (ha:PE X a ta):PE X (.UnaryOp .Not a pos) (xG ta):=by
 intro pins s σ H Q I h
 refine UnaryOp_ (aP (ha pins s σ H _ I h) fun v s1 ⟨x,H1,I1,r1,q1⟩=>?_)
 obtain ⟨c,rfl,q1⟩:=q1
 cases r1
 exact not_of (bj4 ⟨.bl (!c),H1,I1,rfl,q1⟩)
end
def aJ (K:PySem.W.Frag) (H:Hp) (a:Addr) (xs:List V):Prop:=
 Rd H a (.lst xs) ∨
  ∃ (o:Obj) (its:Array Value) (n:Nat),K.lookup a=some o/\o.cls = .type "list"/\o.dict=none/\o.data = .seq its n/\its.size<=sizeLine/\aI xs its.toList
def aG (K:PySem.W.Frag) (H:Hp) (a:Addr) (xs:List V):Prop:=
 Rd H a (.tup xs) ∨
  ∃ (o:Obj) (its:Array Value) (n:Nat),K.lookup a=some o/\o.cls = .type "tuple"/\o.data = .seq its n/\its.size<=sizeLine/\aI xs its.toList
def ac9:Value->Option V
 | .none=>some .non
 | .bool b=>some (.bl b)
 | .int i _=>some (.int i)
 | .str x _=>some (.str x)
 | .bytes b _=>some (.byt b)
 | .float b _=>some (.flt b)
 | .ref a=>some (.ref a)
 | .type n=>some (.ty n)
 | _=>none
theorem aU.abs {x:V}{u:Value} (r:aU x u):ac9 u=some x:=by
 cases x with
 | non=>cases r; rfl
 | bl _=>cases r; rfl
 | int _=>obtain ⟨t,rfl⟩:=r; rfl
 | str _=>obtain ⟨t,rfl⟩:=r; rfl
 | byt _=>obtain ⟨t,rfl⟩:=r; rfl
 | flt _=>obtain ⟨t,rfl⟩:=r; rfl
 | ref _=>cases r; rfl
 | ty _=>cases r; rfl
theorem aU.inj {x y:V}{u:Value} (r:aU x u) (q:aU y u):x=y:=aZ8 (r.abs.symm.trans q.abs)
theorem aI.inj:∀ {xs ys:List V}{us:List Value},aI xs us->aI ys us->xs=ys
 | _,_,_,.nil,.nil=>rfl
 | _,_,_,.cons r t,.cons r' t'=>by rw [r.inj r',aI.inj t t']
section
variable {X : Cx} {pins : List (Addr × Obj)} {σ : St} {H : Hp} {s : Shared} {a : Addr} {xs ys : List V}
theorem aJ.of {K:PySem.W.Frag} (h:H a=some (.lst xs)):aJ K H a xs:=.inl (.inl h)
theorem aG.of {K:PySem.W.Frag} (h:H a=some (.tup xs)):aG K H a xs:=.inl (.inl h)
theorem a6.list (I:a6 X pins σ H s) (h:aJ X.K H a xs):∃ its:List Value,aI xs its/\PlainL s.heap a its.toArray/\xs.length<=sizeLine:=by
 rcases h with h | ⟨o,its,n,hk,hc,hd,hs,hz,r⟩
 ·obtain ⟨z,its,n,r,e⟩:=h.ok I.hok
  exact⟨its,r,⟨_,n,e,rfl,rfl,rfl⟩,z⟩
 ·refine⟨its.toList,r,⟨o,n,I.kIn a o hk,hc,hd,by simpa using hs⟩,?_⟩
  have e:=r.length
  simp only [bb8] at e
  omega
theorem a6.tuple (I:a6 X pins σ H s) (h:aG X.K H a xs):∃ its:List Value,aI xs its/\IsTup s.heap a its.toArray/\xs.length<=sizeLine:=by
 rcases h with h | ⟨o,its,n,hk,hc,hs,hz,r⟩
 ·obtain ⟨z,its,r,p,_⟩:=h.ok I.hok
  exact⟨its,r,p,z⟩
 ·refine⟨its.toList,r,⟨o,I.kIn a o hk,hc,n,by simpa using hs⟩,?_⟩
  have e:=r.length
  simp only [bb8] at e
  omega
theorem a6.list_inj (I:a6 X pins σ H s) (h:aJ X.K H a xs) (h':aJ X.K H a ys):xs=ys:=by
 obtain ⟨its,r,⟨o,n,e,_,_,d⟩,_⟩:=I.list h
 obtain ⟨its',r',⟨o',n',e',_,_,d'⟩,_⟩:=I.list h'
 rw [e] at e'; cases e'
 rw [d] at d'
 injection d' with d1 _
 have:its=its':=by simpa using congrArg Array.toList d1
 subst this
 exact r.inj r'
theorem a6.tuple_inj (I:a6 X pins σ H s) (h:aG X.K H a xs) (h':aG X.K H a ys):xs=ys:=by
 obtain ⟨its,r,⟨o,e,_,n,d⟩,_⟩:=I.tuple h
 obtain ⟨its',r',⟨o',e',_,n',d'⟩,_⟩:=I.tuple h'
 rw [e] at e'; cases e'
 rw [d] at d'
 injection d' with d1 _
 have:its=its':=by simpa using congrArg Array.toList d1
 subst this
 exact r.inj r'
end
abbrev Cx.wish (X:Cx) (E:Value->Shared->Prop):Cx:={ X with xe:=E }
abbrev Cx.nox (X:Cx):Cx:=X.wish fun _ _=>False
theorem Cx.Ok.wish {X:Cx} (ok:X.Ok) (E:Value->Shared->Prop):(X.wish E).Ok:=
 ⟨ok.mod,ok.kind,ok.glob,ok.blt,ok.above,ok.inj,ok.has,ok.cab,ok.hd,ok.frames,ok.stk,ok.exf,ok.bs,ok.bsz,ok.noex,ok.exfs,ok.funs,ok.frf⟩
theorem Cx.Ok.unwish {X:Cx}{E:Value->Shared->Prop} (ok:(X.wish E).Ok):X.Ok:=
 ⟨ok.mod,ok.kind,ok.glob,ok.blt,ok.above,ok.inj,ok.has,ok.cab,ok.hd,ok.frames,ok.stk,ok.exf,ok.bs,ok.bsz,ok.noex,ok.exfs,ok.funs,ok.frf⟩
section
variable {X : Cx} {pins : List (Addr × Obj)} {σ : St} {H : Hp} {s : Shared} {E : Value → Shared → Prop}
theorem a6.wish (I:a6 X pins σ H s) (E:Value->Shared->Prop):a6 (X.wish E) pins σ H s:=⟨I.ok.wish E,I.os,I.bare,I.base,I.loc,I.cell,I.free,I.freeC,I.pin,I.hok,I.len⟩
theorem a6.unwish (I:a6 (X.wish E) pins σ H s):a6 X pins σ H s:=⟨I.ok.unwish,I.os,I.bare,I.base,I.loc,I.cell,I.free,I.freeC,I.pin,I.hok,I.len⟩
theorem SP.unwish {D:cE}{f:Flow}{s':Shared} (h:SP (X.wish E) pins D f s'):SP X pins D f s':=by
 cases f with
 | next=>obtain ⟨σ',H',I,q⟩:=h; exact⟨σ',H',I.unwish,q⟩
 | brk=>obtain ⟨σ',H',I,q⟩:=h; exact⟨σ',H',I.unwish,q⟩
 | cont=>obtain ⟨σ',H',I,q⟩:=h; exact⟨σ',H',I.unwish,q⟩
 | ret u=>obtain ⟨v,σ',H',I,r,q⟩:=h; exact⟨v,σ',H',I.unwish,r,q⟩
theorem dH.nox {st:List Stmt}{t:TS} (h:dH X.nox st t):dH X st t:=fun pins s σ H D I hw=>
 bg0 (h pins s σ H D (I.wish _) hw) (fun _ _ q=>q.unwish) fun _ _ z=>False.elim z
end
section
variable {X : Cx} {st : Stmt} {cN : List Stmt} {t u : TS} {e : Expr} {te : TE} {pos : Pos}
def xH:TS:=fun D σ H=>D.nx σ H
def xI (t u:TS):TS:=fun D σ H=>t { D with nx:=u D } σ H
theorem ad0:dH X [] xH:=fun _ _ σ H _ I h=>wpAny_execs_nil ⟨σ,H,I,h⟩
theorem oF (h1:PS X st t) (h2:dH X cN u):dH X (st :: cN) (xI t u):=by
 intro pins s σ H D I h
 refine wpAny_execs_cons (aP (h1 pins s σ H { D with nx:=u D } I h) fun f s1 q=>?_)
 cases f with
 | next=>
  obtain ⟨σ',H',I',q⟩:=q
  exact h2 pins s1 σ' H' D I' q
 | ret v=>exact q
 | brk=>exact q
 | cont=>exact q
theorem sB (h1:PS X st t):dH X [st] t:=by
 intro pins s σ H D I h
 refine wpAny_execs_cons (aP (h1 pins s σ H D I h) fun f s1 q=>?_)
 cases f with
 | next=>exact wpAny_execs_nil q
 | ret v=>exact q
 | brk=>exact q
 | cont=>exact q
theorem a6.quiet {pins:List (Addr × Obj)}{σ:St}{H:Hp}{s:Shared} (I:a6 X pins σ H s):interactive X.env=false:=by simp [interactive,I.ok.kind]
def oG (te:TE):TS:=fun D σ H=>te σ H fun _ H1=>D.nx σ H1
theorem mG (he:PE X e te) (hs:swapsWith e none pos.line X.env=pure false:=by rfl):PS X (.Expr e pos) (oG te):=by
 intro pins s σ H D I h
 exact wpAny_Expr_any (aP (he pins s σ H _ I h) fun v s1 ⟨x,H1,I1,r1,q1⟩=>⟨σ,H1,I1,q1⟩) I.quiet hs
def sC (te:TE):TS:=fun D σ H=>te σ H D.rt
theorem sD (he:PE X e te):PS X (.Return (some e) pos) (sC te):=by
 intro pins s σ H D I h
 exact wpAny_Return_some (aP (he pins s σ H _ I h) fun v s1 ⟨x,H1,I1,r1,q1⟩=>⟨x,σ,H1,I1,r1,q1⟩)
def xJ (c:TT) (t u:TS):TS:=fun D σ H=>c σ H fun b H1=>if b=true then t D σ H1 else u D σ H1
theorem ad1 {c:Expr}{a b:List Stmt}{tc:TT} (hc:PT X c tc) (ha:dH X a t) (hb:dH X b u):PS X (.If c a b pos) (xJ tc t u):=by
 intro pins s σ H D I h
 refine wpAny_If (aP (hc pins s σ H _ I h) fun d s1 ⟨H1,I1,q1⟩=>?_)
 cases d with
 | true=>exact ha pins s1 σ H1 D I1 q1
 | false=>exact hb pins s1 σ H1 D I1 q1
def ad2:TS:=fun _ _ _=>False
theorem ad3:PS X st ad2:=fun _ _ _ _ _ _ h=>h.elim
end
abbrev TG:=V->St->Hp->(St->Hp->Prop)->Prop
abbrev jY:=List V->St->Hp->(St->Hp->Prop)->Prop
def PG (X:Cx) (target:Expr) (t:TG):Prop:=
 ∀ (pins:List (Addr × Obj)) (s:Shared) (σ:St) (H:Hp) (v:V) (u:Value) (Q:St->Hp->Prop),a6 X pins σ H s->aU v u->t v σ H Q->
  wpAny (model X.prog X.w) X.A (assign target X.env u) (fun _ s'=>∃ σ' H',a6 X pins σ' H' s'/\Q σ' H') X.xe s
def oH (X:Cx) (ts:List Expr) (t:jY):Prop:=
 ∀ (pins:List (Addr × Obj)) (s:Shared) (σ:St) (H:Hp) (vs:List V) (us:List Value) (Q:St->Hp->Prop),a6 X pins σ H s->aI vs us->t vs σ H Q->
  wpAny (model X.prog X.w) X.A (assignInOrder ((assignEach ts X.env).map (·.2)) us) (fun _ s'=>∃ σ' H',a6 X pins σ' H' s'/\Q σ' H') X.xe s
section
variable {X : Cx} {pos : Pos}
def dI (i:Nat):TG:=fun v σ H Q=>Q (σ.set i (some v)) H
theorem iD {i:Nat}{x:Str} (hN:X.N.Nodup) (hi:X.N[i]? = some x) (hx:iB X.env.scope x) (hf:X.fn x=true ∨ X.env.scope.names.lookup x=some .local:=by first | exact .inl rfl | exact .inr rfl | assumption):PG X (.Name x pos) (dI i):=by
 intro pins s σ H v u Q I r h
 exact wpAny_assign_Name (xA I hN hi hx r (fun s' I'=>⟨_,H,I',h⟩) hf)
def oI:jY:=fun vs σ H Q=>vs = []/\Q σ H
def jZ (t:TG) (u:jY):jY:=fun vs σ H Q=>∃ v r,vs=v :: r/\t v σ H fun σ' H'=>u r σ' H' Q
theorem sE:oH X [] oI:=by
 intro pins s σ H vs us Q I r h
 obtain ⟨e,h⟩:=h
 subst e
 cases r
 exact assignInOrder_nil ⟨σ,H,I,h⟩
theorem l7 {e:Expr}{es:List Expr}{t:TG}{u:jY} (h1:PG X e t) (h2:oH X es u)
  (hs:(assignEach (e :: es) X.env).map (·.2)=assign e X.env :: (assignEach es X.env).map (·.2):=by rfl):oH X (e :: es) (jZ t u):=by
 intro pins s σ H vs us Q I r h
 obtain ⟨v,vr,e1,h⟩:=h
 subst e1
 cases r with
 | cons r rr=>
  rw [hs]
  refine assignInOrder_cons (aP (h1 pins s σ H _ _ _ I r h) fun _ s1 ⟨σ1,H1,I1,q1⟩=>?_)
  exact h2 pins s1 σ1 H1 _ _ Q I1 rr q1
def oJ (K:PySem.W.Frag) (n:Nat) (t:jY):TG:=fun v σ H Q=>∃ a xs,v = .ref a/\aG K H a xs/\xs.length=n/\t xs σ H Q
theorem sF {es:List Expr}{k:Nat}{t:jY}{n:Nat} (hc:X.calm=true) (h:oH X es t)
  (hn:(assignEach es X.env).length=n:=by rfl) (hst:(assignEach es X.env).findIdx? (·.1)=none:=by rfl):PG X (.Tuple es k pos) (oJ X.K n t):=by
 intro pins s σ H v u Q I r hw
 obtain ⟨a,xs,e1,hq,hl,hw⟩:=hw
 subst e1
 cases r
 obtain ⟨its,rv,ht,hz⟩:=I.tuple hq
 refine assign_Tuple_tuple (I.ok.hd hc) ht (by simp [hn,<- hl,rv.length]) hst fun h' hx=>?_
 have I1:a6 X pins σ H { s with heap:=h' }:=I.kept (t':=s.toks) fun b o e=>hx b o (ba2 (aY6 e)) e
 exact h pins _ σ H xs _ Q I1 (by simpa using rv) hw
def mH (te:TE) (g:TG):TS:=fun D σ H=>te σ H fun x H1=>g x σ H1 D.nx
theorem xK {i:Nat}{x:Str}{e:Expr}{te:TE}{pos':Pos} (hN:X.N.Nodup) (hi:X.N[i]? = some x) (hx:iB X.env.scope x) (he:PE X e te) (hs:swapsWith e (some (.Name x pos')) pos.line X.env=pure false:=by rfl) (hf:X.fn x=true ∨ X.env.scope.names.lookup x=some .local:=by first | exact .inl rfl | exact .inr rfl | assumption) :
  PS X (.Assign [.Name x pos'] e pos) (mH te (dI i)):=by
 intro pins s σ H D I h
 refine wpAny_Assign_Name (aP (he pins s σ H _ I h) fun v s1 ⟨y,H1,I1,r1,q1⟩=>?_) hs
 exact xA I1 hN hi hx r1 (fun s2 I2=>⟨_,H1,I2,q1⟩) hf
end
section
variable {X : Cx} {pos : Pos}
def xL (c:TT) (tb:TS):TS:=fun D σ H=>∃ W:Nat->St->Hp->Prop,(∃ m,W m σ H)/\∀ m σ H,W m σ H->
 c σ H fun b H1=>if b=true then ∃ N:St->Hp->Prop,(∀ σ' H',N σ' H'->∃ m',m' < m/\W m' σ' H')/\tb { D with nx:=N,ct:=N,bk:=D.nx } σ H1 else D.nx σ H1
theorem ad4 {c:Expr}{body:List Stmt}{tc:TT}{tb:TS} (hp:PassesOwn (model X.prog X.w) X.A X.env X.xe) (hc:PT X c tc) (hb:dH X body tb):PS X (.While c body [] pos) (xL tc tb):=by
 intro pins s σ H D I h
 obtain ⟨W,⟨m0,w0⟩,turn⟩:=h
 refine wpAny_While (codeAny_whileLoop (fun n s'=>∃ σ' H',a6 X pins σ' H' s'/\W n σ' H') ?_ m0 ⟨σ,H,I,w0⟩)
 rintro n s1 ⟨σ1,H1,I1,w1⟩
 refine bk9 hp (aP (hc pins s1 σ1 H1 _ I1 (turn n σ1 H1 w1)) fun b s2 ⟨H2,I2,q2⟩=>?_)
 cases b with
 | true=>
  obtain ⟨N,hN,q2⟩:=q2
  rw [if_pos rfl]
  refine bk9 hp (aP (hb pins s2 σ1 H2 _ I2 q2) fun f s3 q3=>?_)
  cases f with
  | next=>
   obtain ⟨σ3,H3,I3,n3⟩:=q3
   obtain ⟨m',hm,w3⟩:=hN σ3 H3 n3
   exact⟨m',hm,σ3,H3,I3,w3⟩
  | cont=>
   obtain ⟨σ3,H3,I3,n3⟩:=q3
   obtain ⟨m',hm,w3⟩:=hN σ3 H3 n3
   exact⟨m',hm,σ3,H3,I3,w3⟩
  | brk=>exact q3
  | ret v=>exact q3
 | false=>
  rw [if_neg aZ0]
  exact wpAny_execs_nil ⟨σ1,H2,I2,q2⟩
end
structure It where
 go:Nat->Hp->Prop
 yld:Nat->Hp->V->Hp->Prop
 stop:Nat->Hp->Prop
def fD (X:Cx) (pins:List (Addr × Obj)) (H:Hp) (b:Addr):Prop:=
 H b=none/\b ≠ X.env.locals/\b ∉ X.fs/\(b ∈ X.ex ∨ X.s₀.heap.objs.size<=b)/\(∀ x c,X.env.cells.lookup x=some c->c ≠ b)/\∀ p ∈ X.pn ++ pins,p.1 ≠ b
theorem a6.fpOk {X:Cx}{pins:List (Addr × Obj)}{σ:St}{H H':Hp}{s:Shared}{b:Addr} (I:a6 X pins σ H s) (hb:s.heap.objs.size<=b) (hn:H' b=none):fD X pins H' b:=by
 refine⟨hn,be6 (aY7 I.lt hb),I.nofs hb,.inr (bb5 I.sz hb),fun x c e z=>?_,fun p hp z=>?_⟩
 ·obtain ⟨v,q⟩:=I.cell x c e
  exact absurd (aY7 q.lt (by rw [z]; exact hb)) (bd7 _)
 ·exact absurd (aY7 (aY6 (I.pin p hp).1) (by rw [z]; exact hb)) (bd7 _)
structure gR (P:Program) (w:World) (K:PySem.W.Frag) (tg:Expr) (J:It) (fp:List Addr) (it:Addr) (tn:Nat->Heap->Prop):Prop where
 mem:it ∈ fp
 obj:∀ i h,tn i h->∀ b ∈ fp,∃ o,h.get? b=some o/\∀ v,o.data ≠ .cell v
 keep:∀ i h h',tn i h->(∀ b ∈ fp,∀ o,h.get? b=some o->h'.get? b=some o)->tn i h'
 item:∀ (X:Cx),X.prog=P->X.w=w->X.K=K->X.calm=true->∀ (i:Nat) (pins:List (Addr × Obj)) (s:Shared) (σ:St) (H:Hp) (E:Value->Shared->Prop),a6 X pins σ H s->(∀ b ∈ fp,fD X pins H b)->tn i s.heap->J.go i H->
  wpAny (model P w) X.A (pyNext (.ref it)) (fun r s1=>∃ u,r=some u/\
   wpAny (model P w) X.A (letOwnedTupleGo tg (.ref it) u) (fun _ s2=>∃ x H',a6 X pins σ H' s2/\aU x u/\J.yld i H x H'/\tn (i+1) s2.heap/\∀ b ∈ fp,H' b=none) E s1) E s
 done:∀ (X:Cx),X.prog=P->X.w=w->X.K=K->X.calm=true->∀ (i:Nat) (pins:List (Addr × Obj)) (s:Shared) (σ:St) (H:Hp) (E:Value->Shared->Prop),a6 X pins σ H s->(∀ b ∈ fp,fD X pins H b)->tn i s.heap->J.stop i H->
  wpAny (model P w) X.A (pyNext (.ref it)) (fun r s1=>r=none/\a6 X pins σ H s1) E s
 self:∀ (A:Around) (i:Nat) (s:Shared) (Q:Value->Shared->Prop) (E:Value->Shared->Prop),tn i s.heap->Q (.ref it) s->wpAny (model P w) A (pyIter (.ref it)) Q E s
abbrev TI:=St->Hp->(It->Hp->Prop)->Prop
def xM (X:Cx) (pins:List (Addr × Obj)) (σ:St) (tg:Expr) (R:It->Hp->Prop) (itv:Value) (s2:Shared):Prop:=
 ∃ (it:Addr) (fp:List Addr) (tn:Nat->Heap->Prop) (J:It) (H':Hp),itv = .ref it/\a6 X pins σ H' s2/\gR X.prog X.w X.K tg J fp it tn/\tn 0 s2.heap/\(∀ b ∈ fp,fD X pins H' b)/\R J H'
def PI (X:Cx) (tg iter:Expr) (wi:TI):Prop:=
 ∀ (pins:List (Addr × Obj)) (s:Shared) (σ:St) (H:Hp) (R:It->Hp->Prop),a6 X pins σ H s->wi σ H R->
  wpAny (model X.prog X.w) X.A (eval iter X.env) (fun v s1=>wpAny (model X.prog X.w) X.A (pyIter v) (xM X pins σ tg R) X.xe s1) X.xe s
theorem sG {M:Model}{A:Around}{E:Value->Shared->Prop}{s:Shared}{tg:Expr}{it:Addr}{u:Value}{o:Obj}{n:String}{vs:Array Value}{Q:Unit->Shared->Prop} (ho:s.heap.get? it=some o) (hc:o.cls = .type n) (hd:o.data = .fields vs)
    (hn : ["enumerate","zip","dict_itemiterator","dict_reverseitemiterator","odict_iterator","itertools.zip_longest","itertools.pairwise"].contains n=false) (hQ:Q () s):wpAny M A (letOwnedTupleGo tg (.ref it) u) Q E s:=by
  unfold letOwnedTupleGo
  cases tg <;> first
    | exact aX8 hQ
    | (cases u <;> first
        | exact aX8 hQ
        | (refine aX0 (wpAny_load ho ?_)
           rw [hc,hd]
           show wpAny M A (if (["enumerate","zip","dict_itemiterator","dict_reverseitemiterator","odict_iterator","itertools.zip_longest","itertools.pairwise"].contains n && vs[0]? == some (rawInt _))=true then _ else _) Q E s
           rw [if_neg (by intro h; rw [hn,bi0] at h; cases h)]
           exact aX8 hQ))
def l8 (K:PySem.W.Frag) (a:Addr):It:=
 ⟨fun i H=>∃ xs x,aJ K H a xs/\xs[i]? = some x,fun i H x H'=>H'=H/\∀ xs,aJ K H a xs->xs[i]? = some x,fun i H=>∃ xs,aJ K H a xs/\xs.length<=i⟩
def j6 (K:PySem.W.Frag) (a:Addr):It:=
 ⟨fun i H=>∃ xs x,aG K H a xs/\xs[i]? = some x,fun i H x H'=>H'=H/\∀ xs,aG K H a xs->xs[i]? = some x,fun i H=>∃ xs,aG K H a xs/\xs.length<=i⟩
def mI (lo:Int) (n:Nat):It:=⟨fun i _=>i < n,fun i H x H'=>H'=H/\x = .int (lo+i),fun i _=>n<=i⟩
theorem ad5 {P:Program}{w:World}{K:PySem.W.Frag}{tg:Expr} (a it:Addr):gR P w K tg (l8 K a) [it] it (fun i h=>h.IsListIter it a i) where
 mem:=by simp
 obj:=fun i h st b hb=>by
  have e:b=it:=by simpa using hb
  subst e
  obtain ⟨o,e,c,d⟩:=st
  exact⟨o,e,fun v z=>by rw [d] at z; cases z⟩
 keep:=fun i h h' st k=>st.at fun o e=>k it (by simp) o e
 item:=by
  intro X hP hw hK hc i pins s σ H E I hf st hg
  subst hP hw hK
  obtain ⟨xs,x,hq,hx⟩:=hg
  obtain ⟨its,rv,p,hz⟩:=I.list hq
  obtain ⟨u,hu,ru⟩:=rv.get hx
  obtain ⟨f0,f1,f2,f3,f4,f5⟩:=hf it (by simp)
  refine wpAny_pyNext_list_item st p.isList (x:=u) (by simpa using hu) fun h' st' sb=>?_
  have I1:a6 X pins σ H { s with heap:=h' }:=I.turned (t':=s.toks) (fun b o hb e=>(sb.2 b hb).trans e) f0 f1 f3 f4 f5
  obtain ⟨o,e,c,d⟩:=id st'
  exact⟨u,rfl,sG (s:={ s with heap:=h' }) e c d (by decide) ⟨x,H,I1,ru,⟨rfl,fun ys hy=>by rw [I.list_inj hy hq]; exact hx⟩,st',fun b hb=>(hf b hb).1⟩⟩
 done:=by
  intro X hP hw hK hc i pins s σ H E I hf st hg
  subst hP hw hK
  obtain ⟨xs,hq,hx⟩:=hg
  obtain ⟨its,rv,p,hz⟩:=I.list hq
  obtain ⟨f0,f1,f2,f3,f4,f5⟩:=hf it (by simp)
  have hl:=rv.length
  exact wpAny_pyNext_list_end (I.ok.hd hc) st p.isList (by simp; omega) fun h' eb=>⟨rfl,I.turned (t':=s.toks) (fun b o hb e=>eb b o hb e) f0 f1 f3 f4 f5⟩
 self:=fun _ _ _ _ _ st h=>wpAny_pyIter_listiter st h
theorem xN {P:Program}{w:World}{K:PySem.W.Frag}{tg:Expr} (a it:Addr):gR P w K tg (j6 K a) [it] it (fun i h=>h.IsTupleIter it a i) where
 mem:=by simp
 obj:=fun i h st b hb=>by
  have e:b=it:=by simpa using hb
  subst e
  obtain ⟨o,e,c,d⟩:=st
  exact⟨o,e,fun v z=>by rw [d] at z; cases z⟩
 keep:=fun i h h' st k=>st.at fun o e=>k it (by simp) o e
 item:=by
  intro X hP hw hK hc i pins s σ H E I hf st hg
  subst hP hw hK
  obtain ⟨xs,x,hq,hx⟩:=hg
  obtain ⟨its,rv,p,hz⟩:=I.tuple hq
  obtain ⟨u,hu,ru⟩:=rv.get hx
  obtain ⟨f0,f1,f2,f3,f4,f5⟩:=hf it (by simp)
  refine wpAny_pyNext_tuple_item st (show s.heap.IsTuple a its.toArray from p) (x:=u) (by simpa using hu) fun h' st' sb=>?_
  have I1:a6 X pins σ H { s with heap:=h' }:=I.turned (t':=s.toks) (fun b o hb e=>(sb.2 b hb).trans e) f0 f1 f3 f4 f5
  obtain ⟨o,e,c,d⟩:=id st'
  exact⟨u,rfl,sG (s:={ s with heap:=h' }) e c d (by decide) ⟨x,H,I1,ru,⟨rfl,fun ys hy=>by rw [I.tuple_inj hy hq]; exact hx⟩,st',fun b hb=>(hf b hb).1⟩⟩
 done:=by
  intro X hP hw hK hc i pins s σ H E I hf st hg
  subst hP hw hK
  obtain ⟨xs,hq,hx⟩:=hg
  obtain ⟨its,rv,p,hz⟩:=I.tuple hq
  obtain ⟨f0,f1,f2,f3,f4,f5⟩:=hf it (by simp)
  have hl:=rv.length
  exact wpAny_pyNext_tuple_end (I.ok.hd hc) st (show s.heap.IsTuple a its.toArray from p) (by simp; omega) fun h' eb=>⟨rfl,I.turned (t':=s.toks) (fun b o hb e=>eb b o hb e) f0 f1 f3 f4 f5⟩
 self:=fun _ _ _ _ _ st h=>wpAny_pyIter_tupleiter st h
theorem ad6 {P:Program}{w:World}{K:PySem.W.Frag}{tg:Expr} (it:Addr) (lo:Int) (n:Nat):gR P w K tg (mI lo n) [it] it (fun i h=>IsRangeIter h it (lo+(i:Nat) * 1) ((n:Int) - (i:Nat)) 1) where
 mem:=by simp
 obj:=fun i h st b hb=>by
  have e:b=it:=by simpa using hb
  subst e
  exact⟨_,st,fun v z=>by
   have z':Data.fields _=Data.cell v:=z
   cases z'⟩
 keep:=fun i h h' st k=>k it (by simp) _ st
 item:=by
  intro X hP hw hK hc i pins s σ H E I hf st hg
  subst hP hw hK
  obtain ⟨f0,f1,f2,f3,f4,f5⟩:=hf it (by simp)
  have W:=Walks.range (prog:=X.prog) (w:=X.w) (I.ok.hd hc) it lo 1 n
  refine W.item i s _ _ hg st fun v h' tk hv st' kk=>?_
  obtain ⟨t,rfl⟩:=hv
  have I1:a6 X pins σ H { s with heap:=h',toks:=tk }:=I.turned (fun b o hb e=>kk b o (by simpa using hb) e) f0 f1 f3 f4 f5
  refine⟨_,rfl,sG (s:={ s with heap:=h',toks:=tk }) (n:="range_iterator") st' rfl rfl (by decide) ⟨.int (lo+i),H,I1,⟨t,?_⟩,⟨rfl,rfl⟩,st',fun b hb=>(hf b hb).1⟩⟩
  rw [Int.mul_one]
 done:=by
  intro X hP hw hK hc i pins s σ H E I hf st hg
  subst hP hw hK
  obtain ⟨f0,f1,f2,f3,f4,f5⟩:=hf it (by simp)
  exact wpAny_pyNext_range_end (I.ok.hd hc) st (by have:n<=i:=hg; omega) fun h' eb=>⟨rfl,I.turned (t':=s.toks) (fun b o hb e=>eb b o hb e) f0 f1 f3 f4 f5⟩
 self:=fun _ _ _ _ _ st h=>wpAny_pyIter_rangeiter st h
section
variable {X : Cx} {tg : Expr}
def ad7 (K:PySem.W.Frag) (tl:TE):TI:=fun σ H R=>tl σ H fun x H1=>∃ a,x = .ref a/\(∃ xs,aG K H1 a xs)/\R (j6 K a) H1
theorem xO {l:Expr}{tl:TE} (hl:PE X l tl):PI X tg l (ad7 X.K tl):=by
 intro pins s σ H R I h
 refine aP (hl pins s σ H _ I h) fun v s1 ⟨x,H1,I1,r1,q1⟩=>?_
 obtain ⟨a,e,⟨xs,hq⟩,q⟩:=q1
 subst e
 cases r1
 obtain ⟨its,rv,p,hz⟩:=I1.tuple hq
 refine bh3 (show s1.heap.IsTuple a its.toArray from p) ?_
 refine⟨s1.heap.objs.size,[s1.heap.objs.size],_,_,H1,rfl,I1.kept (t':=s1.toks) fun b o e=>aX2 _ e,xN a _,⟨_,aY8 _ rfl,rfl,rfl⟩,fun b hb=>?_,q⟩
 have e:b=s1.heap.objs.size:=by simpa using hb
 subst e
 exact I1.fpOk (aX7 _) (I1.hok.fresh (aX7 _))
theorem xP {pins:List (Addr × Obj)}{σ:St}{H:Hp}{s:Shared}{R:It->Hp->Prop}{E:Value->Shared->Prop}{lo hi:Int}{t u v:Tok}{tk:Nat} (I:a6 X pins σ H s) (h1 : -(2 ^ 62)<=lo) (h2:lo < 2 ^ 62) (h3 : -(2 ^ 62)<=hi) (h4:hi < 2 ^ 62)
  (q:R (mI lo (hi - lo).toNat) H):wpAny (model X.prog X.w) X.A (pyIter (.ref s.heap.objs.size)) (xM X pins σ tg R) E { s with heap:=s.heap.push { cls:=.type "range",data:=.fields #[.int lo t,.int hi u,.int 1 v] },toks:=tk }:=by
 refine wpAny_pyIter_range (IsRange.new ..) (small_one h1 h2 h3 h4) ?_
 have I1:a6 X pins σ H { s with heap:=s.heap.push { cls:=.type "range",data:=.fields #[.int lo t,.int hi u,.int 1 v] },toks:=tk }:=I.kept fun b o e=>aX2 _ e
 refine⟨(s.heap.push { cls:=.type "range",data:=.fields #[.int lo t,.int hi u,.int 1 v] }).objs.size,[(s.heap.push { cls:=.type "range",data:=.fields #[.int lo t,.int hi u,.int 1 v] }).objs.size],_,_,H,rfl,
  I1.kept (t':=tk) fun b o e=>aX2 _ e,ad6 _ lo (hi - lo).toNat,?_,fun b hb=>?_,q⟩
 ·have e1:lo+((0:Nat):Int) * 1=lo:=by simp
  have e2:(((hi - lo).toNat:Nat):Int) - ((0:Nat):Int)=Builtin.Range.rangeSize lo hi 1:=by rw [rangeSize_one]; split <;> omega
  show IsRangeIter _ _ (lo+((0:Nat):Int) * 1) ((((hi - lo).toNat:Nat):Int) - ((0:Nat):Int)) 1
  rw [e1,e2]
  exact aY8 _ rfl
 ·have e:b=(s.heap.push { cls:=.type "range",data:=.fields #[.int lo t,.int hi u,.int 1 v] }).objs.size:=by simpa using hb
  subst e
  exact I1.fpOk (aX7 _) (I1.hok.fresh (aX7 _))
def xQ (ta:TA):TI:=fun σ H R=>ta σ H fun vs H1=>∃ j:Int,vs = [.int j]/\-(2 ^ 62)<=j/\j < 2 ^ 62/\R (mI 0 j.toNat) H1
def xR (ta:TA):TI:=fun σ H R=>ta σ H fun vs H1=>∃ i j:Int,vs = [.int i,.int j]/\(-(2 ^ 62)<=i/\i < 2 ^ 62/\-(2 ^ 62)<=j/\j < 2 ^ 62)/\R (mI i (j - i).toNat) H1
theorem ad8 {a:Expr}{ta:TA}{p pos:Pos} (hg:Gl X "range") (hm:X.mg "range" = none) (ha:PA X [a] ta) (hs:starEach [a] X.env = [(false,eval a X.env)]:=by rfl):PI X tg (.Call (.Name "range" p) [a] [] pos) (xQ ta):=by
 intro pins s σ H R I h
 refine Call_ (jX I hg hm boot_range (bh8 (aP (ha pos pins s σ H _ I h) fun us s1 ⟨vs,H1,I1,r1,q1⟩=>?_) hs rfl))
 obtain ⟨j,e,q1,q2,q⟩:=q1
 subst e
 cases r1 with
 | cons r rr=>
  cases rr
  obtain ⟨t,rfl⟩:=r
  exact call_range_1 (xP I1 (by omega) (by omega) q1 q2 (by simpa using q))
theorem ad9 {a b:Expr}{ta:TA}{p pos:Pos} (hg:Gl X "range") (hm:X.mg "range" = none) (ha:PA X [a,b] ta) (hs:starEach [a,b] X.env = [(false,eval a X.env),(false,eval b X.env)]:=by rfl) (hs2:starEach [b] X.env = [(false,eval b X.env)]:=by rfl) :
  PI X tg (.Call (.Name "range" p) [a,b] [] pos) (xR ta):=by
 intro pins s σ H R I h
 refine Call_ (jX I hg hm boot_range (bh8 (aP (ha pos pins s σ H _ I h) fun us s1 ⟨vs,H1,I1,r1,q1⟩=>?_) (by rw [hs,hs2]) (by rw [hs2]; rfl)))
 obtain ⟨i,j,e,⟨q1,q2,q3,q4⟩,q⟩:=q1
 subst e
 cases r1 with
 | cons r rr=>
  cases rr with
  | cons r' rr=>
   cases rr
   obtain ⟨t,rfl⟩:=r
   obtain ⟨t',rfl⟩:=r'
   exact call_range_2 (xP I1 q1 q2 q3 q4 q)
def xS (wi:TI) (g:TG) (tb:TS):TS:=fun D σ H=>wi σ H fun J H1=>∃ W:Nat->Nat->St->Hp->Prop,(∃ m,W 0 m σ H1)/\∀ i m σ H,W i m σ H->
 (J.stop i H/\D.nx σ H) ∨ (J.go i H/\∃ N:St->Hp->Prop,(∀ σ' H',N σ' H'->∃ m',m' < m/\W (i+1) m' σ' H')/\∀ x H',J.yld i H x H'->g x σ H' fun σ2 H2=>tb { D with nx:=N,ct:=N,bk:=D.nx } σ2 H2)
def mJ (fp:List Addr) (h:Heap):List (Addr × Obj):=fp.filterMap fun b=>(h.get? b).map fun o=>(b,o)
theorem oK {fp:List Addr}{h:Heap}{b:Addr}{o:Obj} (hb:b ∈ fp) (e:h.get? b=some o):(b,o) ∈ mJ fp h:=List.mem_filterMap.mpr ⟨b,hb,by rw [e]; rfl⟩
theorem ae0 {fp:List Addr}{h:Heap}{p:Addr × Obj} (hp:p ∈ mJ fp h):p.1 ∈ fp/\h.get? p.1=some p.2:=by
 obtain ⟨b,hb,e⟩:=List.mem_filterMap.mp hp
 cases q:h.get? b with
 | none=>rw [q] at e; cases e
 | some o=>
  rw [q] at e
  have e':(b,o)=p:=aZ8 e
  subst e'
  exact⟨hb,q⟩
theorem a6.pinned {pins:List (Addr × Obj)}{σ:St}{H:Hp}{s:Shared}{fp:List Addr} (I:a6 X pins σ H s) (hf:∀ b ∈ fp,fD X pins H b) (ho:∀ b ∈ fp,∃ o,s.heap.get? b=some o/\∀ v,o.data ≠ .cell v):a6 X (pins ++ mJ fp s.heap) σ H s:=
 I.pins_of fun p hp=>(bb6.mp hp).elim (fun z=>I.pin p (bb0 _ z)) fun z=>by
  obtain ⟨hb,e⟩:=ae0 z
  obtain ⟨f0,f1,f2,_⟩:=hf p.1 hb
  obtain ⟨o,e',d⟩:=ho p.1 hb
  rw [e] at e'; cases e'
  exact⟨e,f0,f1,f2,d⟩
theorem a6.unpinned {pins pl:List (Addr × Obj)}{σ:St}{H:Hp}{s:Shared} (I:a6 X (pins ++ pl) σ H s):a6 X pins σ H s:=I.pins_of fun p hp=>I.pin p (bb0 _ (bg3 _ hp))
theorem xT {iter:Expr}{body:List Stmt}{wi:TI}{g:TG}{tb:TS}{pos:Pos} (hp:PassesOwn (model X.prog X.w) X.A X.env X.xe) (hc:X.calm=true) (hi:PI X tg iter wi) (hg:PG X tg g) (hb:dH X body tb)
  (hs:∀ x,foldedSetIterable iter X.env x=pure x:=by intro _; rfl):PS X (.For tg iter body [] pos) (xS wi g tb):=by
 intro pins s σ H D I h
 refine wpAny_For (aP (hi pins s σ H _ I h) fun v s1 h1=>aP h1 fun itv s2 h2=>?_) hs
 obtain ⟨it,fp,tn,J,H2,e,I2,T,st2,f2,W,⟨m0,w0⟩,turn⟩:=h2
 subst e
 have stat:∀ {H':Hp},(∀ b ∈ fp,H' b=none)->∀ b ∈ fp,fD X pins H' b:=fun hn b hb=>⟨hn b hb,(f2 b hb).2⟩
 refine codeAny_forLoop_any (fun n s'=>∃ i σ' H',a6 X pins σ' H' s'/\tn i s'.heap/\(∀ b ∈ fp,H' b=none)/\W i n σ' H') ?_ m0 ⟨0,σ,H2,I2,st2,fun b hb=>(f2 b hb).1,w0⟩
 rintro n s3 ⟨i,σ3,H3,I3,st3,fr3,w3⟩
 rcases turn i n σ3 H3 w3 with ⟨stop,qn⟩ | ⟨go,N,hN,step⟩
 ·refine bk9 hp (aP (T.done X rfl rfl rfl hc i pins s3 σ3 H3 X.xe I3 (stat fr3) st3 stop) fun r s4 ⟨hr,I4⟩=>?_)
  subst hr
  exact wpAny_execs_nil ⟨σ3,H3,I4,qn⟩
 ·refine bk9 hp (aP (T.item X rfl rfl rfl hc i pins s3 σ3 H3 X.xe I3 (stat fr3) st3 go) fun r s4 ⟨u,hr,h4⟩=>?_)
  subst hr
  refine bk9 hp (aP h4 fun _ s5 ⟨x,H5,I5,r5,y5,st5,fr5⟩=>?_)
  have I5':=I5.pinned (stat fr5) (T.obj _ _ st5)
  refine bk9 hp (aP (hg _ s5 σ3 H5 x u _ I5' r5 (step x H5 y5)) fun _ s6 ⟨σ6,H6,I6,q6⟩=>?_)
  refine bk9 hp (aP (hb _ s6 σ6 H6 _ I6 q6) fun f s7 q7=>?_)
  have again:∀ {σ7:St}{H7:Hp},a6 X (pins ++ mJ fp s5.heap) σ7 H7 s7->N σ7 H7->∃ m,m < n/\∃ i σ' H',a6 X pins σ' H' s7/\tn i s7.heap/\(∀ b ∈ fp,H' b=none)/\W i m σ' H':=fun {σ7 H7} I7 n7=>by
   obtain ⟨m',hm,w7⟩:=hN σ7 H7 n7
   refine⟨m',hm,i+1,σ7,H7,I7.unpinned,T.keep _ _ _ st5 fun b hb o e=>(I7.pin (b,o) (bb0 _ (bb0 _ (oK hb e)))).1,fun b hb=>?_,w7⟩
   obtain ⟨o,e,d⟩:=T.obj _ _ st5 b hb
   exact (I7.pin (b,o) (bb0 _ (bb0 _ (oK hb e)))).2.1
  cases f with
  | next=>obtain ⟨σ7,H7,I7,n7⟩:=q7; exact again I7 n7
  | cont=>obtain ⟨σ7,H7,I7,n7⟩:=q7; exact again I7 n7
  | brk=>obtain ⟨σ7,H7,I7,q7⟩:=q7; exact⟨σ7,H7,I7.unpinned,q7⟩
  | ret v=>obtain ⟨x7,σ7,H7,I7,r7,q7⟩:=q7; exact⟨x7,σ7,H7,I7.unpinned,r7,q7⟩
end
theorem aW8 {K:PySem.W.Frag}{a:Addr}{xs:List V}{g:TG}{tb:TS}{D:cE}{σ:St}{H:Hp} (Pv:Nat->St->Hp->Prop) (h0:Pv 0 σ H) (hl:∀ i σ H,i<=xs.length->Pv i σ H->aJ K H a xs)
  (hs:∀ i x σ H,xs[i]? = some x->Pv i σ H->g x σ H fun σ2 H2=>tb { D with nx:=Pv (i+1),ct:=Pv (i+1),bk:=D.nx } σ2 H2) (hd:∀ σ H,Pv xs.length σ H->D.nx σ H) :
  ∃ W:Nat->Nat->St->Hp->Prop,(∃ m,W 0 m σ H)/\∀ i m σ H,W i m σ H->
   ((l8 K a).stop i H/\D.nx σ H) ∨ ((l8 K a).go i H/\∃ N:St->Hp->Prop,(∀ σ' H',N σ' H'->∃ m',m' < m/\W (i+1) m' σ' H')/\∀ x H',(l8 K a).yld i H x H'->g x σ H' fun σ2 H2=>tb { D with nx:=N,ct:=N,bk:=D.nx } σ2 H2):=by
 refine⟨fun i m σ H=>m=xs.length - i/\i<=xs.length/\Pv i σ H,⟨xs.length,by simp,bc6 _,h0⟩,?_⟩
 rintro i m σ H ⟨rfl,hi,p⟩
 have q:=hl i σ H hi p
 by_cases hlt:i < xs.length
 ·refine .inr ⟨⟨xs,xs[i],q,by simp [hlt]⟩,Pv (i+1),fun σ' H' p'=>⟨xs.length - (i+1),by omega,rfl,hlt,p'⟩,fun x H' y=>?_⟩
  obtain ⟨e,y⟩:=y
  subst e
  exact hs i x σ _ (y xs q) p
 ·have e:i=xs.length:=by omega
  subst e
  exact .inl ⟨⟨xs,q,aX7 _⟩,hd σ H p⟩
theorem ae1 {K:PySem.W.Frag}{a:Addr}{xs:List V}{g:TG}{tb:TS}{D:cE}{σ:St}{H:Hp} (Pv:Nat->St->Hp->Prop) (h0:Pv 0 σ H) (hl:∀ i σ H,i<=xs.length->Pv i σ H->aG K H a xs)
  (hs:∀ i x σ H,xs[i]? = some x->Pv i σ H->g x σ H fun σ2 H2=>tb { D with nx:=Pv (i+1),ct:=Pv (i+1),bk:=D.nx } σ2 H2) (hd:∀ σ H,Pv xs.length σ H->D.nx σ H) :
  ∃ W:Nat->Nat->St->Hp->Prop,(∃ m,W 0 m σ H)/\∀ i m σ H,W i m σ H->
   ((j6 K a).stop i H/\D.nx σ H) ∨ ((j6 K a).go i H/\∃ N:St->Hp->Prop,(∀ σ' H',N σ' H'->∃ m',m' < m/\W (i+1) m' σ' H')/\∀ x H',(j6 K a).yld i H x H'->g x σ H' fun σ2 H2=>tb { D with nx:=N,ct:=N,bk:=D.nx } σ2 H2):=by
 refine⟨fun i m σ H=>m=xs.length - i/\i<=xs.length/\Pv i σ H,⟨xs.length,by simp,bc6 _,h0⟩,?_⟩
 rintro i m σ H ⟨rfl,hi,p⟩
 have q:=hl i σ H hi p
 by_cases hlt:i < xs.length
 ·refine .inr ⟨⟨xs,xs[i],q,by simp [hlt]⟩,Pv (i+1),fun σ' H' p'=>⟨xs.length - (i+1),by omega,rfl,hlt,p'⟩,fun x H' y=>?_⟩
  obtain ⟨e,y⟩:=y
  subst e
  exact hs i x σ _ (y xs q) p
 ·have e:i=xs.length:=by omega
  subst e
  exact .inl ⟨⟨xs,q,aX7 _⟩,hd σ H p⟩
abbrev R2:=V->V->Hp->VK->Prop
def bY (X:Cx) (f:Value->Value->Sem Value) (r:R2):Prop:=
 ∀ (pins:List (Addr × Obj)) (s:Shared) (σ:St) (H:Hp) (x y:V) (v u:Value) (Q:VK),a6 X pins σ H s->aU x v->aU y u->r x y H Q->
  wpAny (model X.prog X.w) X.A (f v u) (EP X pins σ Q) X.xe s
def sH (X:Cx) (f:Value->Sem Value) (r:V->Hp->VK->Prop):Prop:=
 ∀ (pins:List (Addr × Obj)) (s:Shared) (σ:St) (H:Hp) (x:V) (v:Value) (Q:VK),a6 X pins σ H s->aU x v->r x H Q->
  wpAny (model X.prog X.w) X.A (f v) (EP X pins σ Q) X.xe s
def cH (X:Cx) (f:Value) (r:List V->Hp->VK->Prop):Prop:=
 ∀ (pins:List (Addr × Obj)) (s:Shared) (σ:St) (H:Hp) (xs:List V) (us:List Value) (Q:VK),a6 X pins σ H s->aI xs us->r xs H Q->
  wpAny (model X.prog X.w) X.A (call f us) (EP X pins σ Q) X.xe s
def ae2 (X:Cx) (r:V->Hp->(Bool->Hp->Prop)->Prop):Prop:=
 ∀ (pins:List (Addr × Obj)) (s:Shared) (σ:St) (H:Hp) (x:V) (v:Value) (Q:Bool->Hp->Prop),a6 X pins σ H s->aU x v->r x H Q->
  wpAny (model X.prog X.w) X.A (truthy v) (TP X pins σ Q) X.xe s
def mK (r:R2) (ta tb:TE):TE:=fun σ H Q=>ta σ H fun x H1=>tb σ H1 fun y H2=>r x y H2 Q
def tUn (r:V->Hp->VK->Prop) (ta:TE):TE:=fun σ H Q=>ta σ H fun x H1=>r x H1 Q
def rI (C:Int->Int->Prop) (g:Int->Int->V):R2:=fun x y H Q=>∃ i j,x = .int i/\y = .int j/\C i j/\Q (g i j) H
def gS (g:Int->Int->V):R2:=fun x y H Q=>∃ i j,x = .int i/\y = .int j/\Q (g i j) H
def rU (g:Int->V):V->Hp->VK->Prop:=fun x H Q=>∃ i,x = .int i/\Q (g i) H
section
variable {X : Cx} {a b c : Expr} {ta tb tc : TE} {pos : Pos}
theorem sI (ha:PE X a ta) (hb:PE X b tb) {pins:List (Addr × Obj)}{s:Shared}{σ:St}{H:Hp}{R:V->V->Hp->Prop} (I:a6 X pins σ H s)
  (h:ta σ H fun x H1=>tb σ H1 fun y H2=>R x y H2) {Q:Value->Shared->Prop}{f:Value->Value->Sem Value}
  (hf:∀ v u s2 x y H2,a6 X pins σ H2 s2->aU x v->aU y u->R x y H2->wpAny (model X.prog X.w) X.A (f v u) Q X.xe s2) :
  wpAny (model X.prog X.w) X.A (eval a X.env) (fun v s₁=>wpAny (model X.prog X.w) X.A (eval b X.env) (fun u s₂=>wpAny (model X.prog X.w) X.A (f v u) Q X.xe s₂) X.xe s₁) X.xe s:=by
 refine aP (ha pins s σ H _ I h) fun v s1 ⟨x,H1,I1,r1,q1⟩=>?_
 refine aP (hb pins s1 σ H1 _ I1 q1) fun u s2 ⟨y,H2,I2,r2,q2⟩=>?_
 exact hf v u s2 x y H2 I2 r1 r2 q2
theorem ae3 {op:Operator}{r:R2} (ho:bY X (binaryOp op) r) (ha:PE X a ta) (hb:PE X b tb):PE X (.BinOp a op b pos) (mK r ta tb):=by
 intro pins s σ H Q I h
 exact wpAny_BinOp (sI ha hb I h fun v u s2 x y H2 I2 rx ry q=>ho pins s2 σ H2 x y v u Q I2 rx ry q)
theorem ae4 {op:UnaryOp}{r:V->Hp->VK->Prop} (ho:sH X (unaryOp op) r) (ha:PE X a ta):PE X (.UnaryOp op a pos) (tUn r ta):=by
 intro pins s σ H Q I h
 exact UnaryOp_ (aP (ha pins s σ H _ I h) fun v s1 ⟨x,H1,I1,r1,q1⟩=>ho pins s1 σ H1 x v Q I1 r1 q1)
theorem oM {f:Value->Value->Sem Value}{C:Int->Int->Prop}{g:Int->Int->Int}
  (rule:∀ (i j:Int) (t u:Tok) (s:Shared) (Q:Value->Shared->Prop) (E:Value->Shared->Prop),C i j->Q (.int (g i j) s.toks) { s with toks:=s.toks+1 }->wpAny (model X.prog X.w) X.A (f (.int i t) (.int j u)) Q E s) :
  bY X f (rI C fun i j=>.int (g i j)):=by
 intro pins s σ H x y v u Q I rx ry h
 obtain ⟨i,j,rfl,rfl,hc,q⟩:=h
 obtain ⟨t,rfl⟩:=rx
 obtain ⟨t',rfl⟩:=ry
 exact rule i j t t' s _ _ hc ⟨.int (g i j),H,I.tok _,⟨_,rfl⟩,q⟩
theorem xU {f:Value->Value->Sem Value}{g:Int->Int->Int}
  (rule:∀ (i j:Int) (t u:Tok) (s:Shared) (Q:Value->Shared->Prop) (E:Value->Shared->Prop),Q (.int (g i j) s.toks) { s with toks:=s.toks+1 }->wpAny (model X.prog X.w) X.A (f (.int i t) (.int j u)) Q E s) :
  bY X f (gS fun i j=>.int (g i j)):=by
 intro pins s σ H x y v u Q I rx ry h
 obtain ⟨i,j,rfl,rfl,q⟩:=h
 obtain ⟨t,rfl⟩:=rx
 obtain ⟨t',rfl⟩:=ry
 exact rule i j t t' s _ _ ⟨.int (g i j),H,I.tok _,⟨_,rfl⟩,q⟩
theorem sJ {f:Value->Value->Sem Value}{g:Int->Int->Bool}
  (rule:∀ (i j:Int) (t u:Tok) (s:Shared) (Q:Value->Shared->Prop) (E:Value->Shared->Prop),Q (.bool (g i j)) s->wpAny (model X.prog X.w) X.A (f (.int i t) (.int j u)) Q E s) :
  bY X f (gS fun i j=>.bl (g i j)):=by
 intro pins s σ H x y v u Q I rx ry h
 obtain ⟨i,j,rfl,rfl,q⟩:=h
 obtain ⟨t,rfl⟩:=rx
 obtain ⟨t',rfl⟩:=ry
 exact rule i j t t' s _ _ ⟨.bl (g i j),H,I,rfl,q⟩
def sK (i j:Int):Prop:=0 < j/\j < 1073741824
def mL (i j:Int):Prop:=(-(2 ^ 64) < i/\i < 2 ^ 64) ∨ (-(2 ^ 64) < j/\j < 2 ^ 64)
theorem mL.ok {i j:Int} (h:mL i j):IntMulOk i j:=by
 rcases h with ⟨h1,h2⟩ | ⟨h1,h2⟩
 ·exact .of_left (intBits_le_64 h1 h2)
 ·exact .of_right (intBits_le_64 h1 h2)
theorem ae5 (k:Nat):(0:Int)<=2 ^ k:=by
 rw [two_pow_cast]
 exact Int.natCast_nonneg _
theorem ae6:bY X (binaryOp .Add) (gS fun i j=>.int (i+j)):=xU fun _ _ _ _ _ _ _ q=>add_int q
theorem ae7:bY X (binaryOp .Sub) (gS fun i j=>.int (i - j)):=xU fun _ _ _ _ _ _ _ q=>sub_int q
theorem ae8:bY X (binaryOp .Mult) (rI mL fun i j=>.int (i * j)):=oM fun _ _ _ _ _ _ _ hc q=>mul_int q hc.ok
theorem ae9:bY X (binaryOp .FloorDiv) (rI sK fun i j=>.int (i / j)):=oM fun i j _ _ _ _ _ hc q=>by
 have h1:(0:Int) < j:=hc.1
 have h2:j < 1073741824:=hc.2
 exact floordiv_int (by omega) (by rw [Int.fdiv_eq_ediv_of_nonneg i (by omega)]; exact q) (.inl (PyProof.noPylong_small (by omega)))
theorem af0:bY X (binaryOp .Mod) (rI (fun _ j=>0 < j) fun i j=>.int (i % j)):=oM fun i j _ _ _ _ _ hc q=>by
 have h1:(0:Int) < j:=hc
 exact mod_int' (by omega) (by rw [Int.fmod_eq_emod_of_nonneg i (by omega)]; exact q)
theorem af1:bY X (binaryOp .RShift) (rI (fun _ j=>0<=j) fun i j=>.int (i / 2 ^ j.toNat)):=oM fun i j _ _ _ _ _ hc q=>
 rshift_int hc (by rw [Int.fdiv_eq_ediv_of_nonneg i (ae5 _)]; exact q)
theorem unI {f:Value->Sem Value}{g:Int->Int}
  (rule:∀ (i:Int) (t:Tok) (s:Shared) (Q:Value->Shared->Prop) (E:Value->Shared->Prop),Q (.int (g i) s.toks) { s with toks:=s.toks+1 }->wpAny (model X.prog X.w) X.A (f (.int i t)) Q E s) :
  sH X f (rU fun i=>.int (g i)):=by
 intro pins s σ H x v Q I rx h
 obtain ⟨i,rfl,q⟩:=h
 obtain ⟨t,rfl⟩:=rx
 exact rule i t s _ _ ⟨.int (g i),H,I.tok _,⟨_,rfl⟩,q⟩
theorem af2:sH X (unaryOp .USub) (rU fun i=>.int (-i)):=unI fun _ _ _ _ _ q=>neg_int q
end
def xV:V->V->Bool
 | .non,.non=>true | .non,.int _=>true | .int _,.non=>true | .non,.bl _=>true | .bl _,.non=>true | .non,.str _=>true | .str _,.non=>true
 | .int _,.int _=>true | .bl _,.bl _=>true | .str _,.str _=>true | .byt _,.byt _=>true
 | .int _,.str _=>true | .str _,.int _=>true | .bl _,.str _=>true | .str _,.bl _=>true
 | _,_=>false
def xW:R2:=fun x y H Q=>xV x y=true/\Q (.bl (decide (x=y))) H
def xX:R2:=fun x y H Q=>xV x y=true/\Q (.bl (!decide (x=y))) H
theorem xY {i j:Int}:decide (V.int i=V.int j)=(i == j):=by
 rw [be8]
 simp
theorem xZ {i j:Bool}:decide (V.bl i=V.bl j)=(i == j):=by
 rw [be8]
 simp
theorem y7 {i j:Str}:decide (V.str i=V.str j)=(i == j):=by
 rw [be8]
 simp
theorem y8 {i j:Array UInt8}:decide (V.byt i=V.byt j)=(i.toList == j.toList):=by
 rw [be8]
 cases i
 cases j
 simp
section
variable {X : Cx} {a b c : Expr} {ta tb tc : TE} {pos : Pos}
theorem bP {pins:List (Addr × Obj)}{σ:St}{H:Hp}{s:Shared}{Q:VK}{k k':Bool} (I:a6 X pins σ H s) (q:Q (.bl k) H) (e:k=k'):EP X pins σ Q (.bool k') s:=by
 subst e
 exact⟨.bl k,H,I,rfl,q⟩
theorem y9:bY X (compareOp .Eq) xW:=by
 intro pins s σ H x y v u Q I rx ry h
 obtain ⟨hs,q⟩:=h
 cases x with
 | non=>
  cases rx
  cases y with
  | non=>cases ry; exact PySem.EqNone.eq_none_none (bP I q (by simp))
  | bl j=>cases ry; exact PySem.EqNone.eq_none_bool (bP I q (by simp))
  | int j=>obtain ⟨t',rfl⟩:=ry; exact PySem.EqNone.eq_none_int (bP I q (by simp))
  | str j=>obtain ⟨t',rfl⟩:=ry; exact PySem.EqNone.eq_none_str (bP I q (by simp))
  | _=>exact absurd (show false=true from hs) aZ0
 | bl i=>
  cases rx
  cases y with
  | non=>cases ry; exact PySem.EqNone.eq_bool_none (bP I q (by simp))
  | bl j=>cases ry; exact eq_bool (bP I q xZ)
  | str j=>obtain ⟨t',rfl⟩:=ry; exact PySem.EqMixed.eq_bool_str (bP I q (by simp))
  | _=>exact absurd (show false=true from hs) aZ0
 | int i=>
  obtain ⟨t,rfl⟩:=rx
  cases y with
  | non=>cases ry; exact PySem.EqNone.eq_int_none (bP I q (by simp))
  | int j=>obtain ⟨t',rfl⟩:=ry; exact eq_int (bP I q xY)
  | str j=>obtain ⟨t',rfl⟩:=ry; exact PySem.EqMixed.eq_int_str (bP I q (by simp))
  | _=>exact absurd (show false=true from hs) aZ0
 | str i=>
  obtain ⟨t,rfl⟩:=rx
  cases y with
  | non=>cases ry; exact PySem.EqNone.eq_str_none (bP I q (by simp))
  | bl j=>cases ry; exact PySem.EqMixed.eq_str_bool (bP I q (by simp))
  | int j=>obtain ⟨t',rfl⟩:=ry; exact PySem.EqMixed.eq_str_int (bP I q (by simp))
  | str j=>obtain ⟨t',rfl⟩:=ry; exact eq_str (bP I q y7)
  | _=>exact absurd (show false=true from hs) aZ0
 | byt i=>
  obtain ⟨t,rfl⟩:=rx
  cases y with
  | byt j=>obtain ⟨t',rfl⟩:=ry; exact PySem.W.eq_bytes (bP I q y8)
  | _=>exact absurd (show false=true from hs) aZ0
 | _=>cases y <;> exact absurd (show false=true from hs) aZ0
theorem af3:bY X (compareOp .NotEq) xX:=by
 intro pins s σ H x y v u Q I rx ry h
 obtain ⟨hs,q⟩:=h
 cases x with
 | non=>
  cases rx
  cases y with
  | non=>cases ry; exact PySem.EqNone.ne_none_none (bP I q (by simp))
  | bl j=>cases ry; exact PySem.EqNone.ne_none_bool (bP I q (by simp))
  | int j=>obtain ⟨t',rfl⟩:=ry; exact PySem.EqNone.ne_none_int (bP I q (by simp))
  | str j=>obtain ⟨t',rfl⟩:=ry; exact PySem.EqNone.ne_none_str (bP I q (by simp))
  | _=>exact absurd (show false=true from hs) aZ0
 | bl i=>
  cases rx
  cases y with
  | non=>cases ry; exact PySem.EqNone.ne_bool_none (bP I q (by simp))
  | bl j=>cases ry; exact ne_bool (bP I q (congrArg not xZ))
  | str j=>obtain ⟨t',rfl⟩:=ry; exact PySem.EqMixed.ne_bool_str (bP I q (by simp))
  | _=>exact absurd (show false=true from hs) aZ0
 | int i=>
  obtain ⟨t,rfl⟩:=rx
  cases y with
  | non=>cases ry; exact PySem.EqNone.ne_int_none (bP I q (by simp))
  | int j=>obtain ⟨t',rfl⟩:=ry; exact ne_int (bP I q (congrArg not xY))
  | str j=>obtain ⟨t',rfl⟩:=ry; exact PySem.EqMixed.ne_int_str (bP I q (by simp))
  | _=>exact absurd (show false=true from hs) aZ0
 | str i=>
  obtain ⟨t,rfl⟩:=rx
  cases y with
  | non=>cases ry; exact PySem.EqNone.ne_str_none (bP I q (by simp))
  | bl j=>cases ry; exact PySem.EqMixed.ne_str_bool (bP I q (by simp))
  | int j=>obtain ⟨t',rfl⟩:=ry; exact PySem.EqMixed.ne_str_int (bP I q (by simp))
  | str j=>obtain ⟨t',rfl⟩:=ry; exact ne_str (bP I q (congrArg not y7))
  | _=>exact absurd (show false=true from hs) aZ0
 | byt i=>
  obtain ⟨t,rfl⟩:=rx
  cases y with
  | byt j=>obtain ⟨t',rfl⟩:=ry; exact PySem.W.ne_bytes (bP I q (congrArg not y8))
  | _=>exact absurd (show false=true from hs) aZ0
 | _=>cases y <;> exact absurd (show false=true from hs) aZ0
theorem sL:bY X (compareOp .Lt) (gS fun i j=>.bl (decide (i < j))):=sJ fun _ _ _ _ _ _ _ q=>lt_int q
theorem af4:bY X (compareOp .Gt) (gS fun i j=>.bl (decide (j < i))):=sJ fun _ _ _ _ _ _ _ q=>gt_int q
theorem yA:bY X (compareOp .GtE) (gS fun i j=>.bl (decide (j<=i))):=sJ fun _ _ _ _ _ _ _ q=>ge_int q
theorem af5:bY X (compareOp .Is) (fun x y H Q=>y = .non/\Q (.bl (decide (x = .non))) H):=by
 intro pins s σ H x y v u Q I rx ry h
 obtain ⟨rfl,q⟩:=h
 cases ry
 refine is_none_gen (bP I q ?_)
 cases x <;> first
  | (cases rx; rfl)
  | (obtain ⟨t,rfl⟩:=rx; rfl)
theorem fE (b:Expr) {op:CmpOp} (h:op ≠ .In:=by decide) (h2:op ≠ .NotIn:=by decide):behindInMarks op b=false:=by
 have e1:(op == CmpOp.In)=false:=by cases op <;> first | rfl | exact absurd rfl h
 have e2:(op == CmpOp.NotIn)=false:=by cases op <;> first | rfl | exact absurd rfl h2
 cases b <;> simp [behindInMarks,e1,e2]
theorem af6 {op:CmpOp}{r:R2} (ho:bY X (compareOp op) r) (ha:PE X a ta) (hb:PE X b tb) (hm:behindInMarks op b=false):PE X (.Compare a [op] [b] pos) (mK r ta tb):=by
 intro pins s σ H Q I h
 exact wpAny_Compare1 (sI ha hb I h fun v u s2 x y H2 I2 rx ry q=>ho pins s2 σ H2 x y v u Q I2 rx ry q) hm
def af7 (t:TE):TT:=fun σ H Q=>t σ H fun x H'=>∃ k,x = .bl k/\Q k H'
theorem af8 {op:CmpOp}{r:R2} (ho:bY X (compareOp op) r) (ha:PE X a ta) (hb:PE X b tb) (hm:behindInMarks op b=false):PT X (.Compare a [op] [b] pos) (af7 (mK r ta tb)):=by
 intro pins s σ H Q I h
 refine wpAny_isTrue_Compare1 (aP (ha pins s σ H _ I h) fun v s1 ⟨x,H1,I1,r1,q1⟩=>aP (hb pins s1 σ H1 _ I1 q1) fun u s2 ⟨y,H2,I2,r2,q2⟩=>
  aP (ho pins s2 σ H2 x y v u _ I2 r1 r2 q2) fun c s3 ⟨z,H3,I3,r3,k,e,q3⟩=>?_) hm
 subst e
 cases r3
 exact bj4 ⟨H3,I3,q3⟩
def sM (K:PySem.W.Frag) (x:V) (H:Hp) (k:Bool):Prop:=
 match x with
 | .non=>k=false
 | .bl b=>k=b
 | .int i=>k=(i != 0)
 | .str y=>y.length<=sizeLine/\k=((y.length:Int) != 0)
 | .byt y=>y.size<=sizeLine/\k=((y.size:Int) != 0)
 | .ref p=>(∃ xs,aJ K H p xs/\k = !xs.isEmpty) ∨ (∃ xs,aG K H p xs/\k = !xs.isEmpty) ∨ ∃ kvs,H p=some (.dK kvs)/\k = !kvs.isEmpty
 | _=>False
theorem af9 {κ:Type}{kvs:List (κ × V)}{vs:List (κ × Value)} (r:KV kvs vs):(!vs.isEmpty) = !kvs.isEmpty:=by
 cases r <;> rfl
theorem yC {xs:List V}{its:List Value} (r:aI xs its):(!its.toArray.isEmpty) = !xs.isEmpty:=by
 cases r <;> simp
theorem mM:(sizeLine:Nat) < 2 ^ 63:=by rw [sizeLine_eq]; decide
theorem ag0:ae2 X (fun x H Q=>∃ k,sM X.K x H k/\Q k H):=by
 intro pins s σ H x v Q I rx h
 obtain ⟨k,e,q⟩:=h
 have hl:=mM
 have hs:sizeLine=16777216:=sizeLine_eq
 cases x with
 | non=>
  cases rx
  have e':k=false:=e
  subst e'
  exact truthy_none ⟨H,I,q⟩
 | bl b=>
  cases rx
  have e':k=b:=e
  subst e'
  exact bj4 ⟨H,I,q⟩
 | int i=>
  obtain ⟨t,rfl⟩:=rx
  have e':k=(i != 0):=e
  subst e'
  exact PySem.P.truthy_int ⟨H,I,q⟩
 | str y=>
  obtain ⟨t,rfl⟩:=rx
  obtain ⟨hy,e'⟩:y.length<=sizeLine/\k=((y.length:Int) != 0):=e
  subst e'
  exact PySem.P.truthy_str (by omega) ⟨H,I.tok _,q⟩
 | byt y=>
  obtain ⟨t,rfl⟩:=rx
  obtain ⟨hy,e'⟩:y.size<=sizeLine/\k=((y.size:Int) != 0):=e
  subst e'
  exact PySem.W.truthy_bytes (by omega) ⟨H,I.tok _,q⟩
 | ref p=>
  cases rx
  have e':(∃ xs,aJ X.K H p xs/\k = !xs.isEmpty) ∨ (∃ xs,aG X.K H p xs/\k = !xs.isEmpty) ∨ ∃ kvs,H p=some (.dK kvs)/\k = !kvs.isEmpty:=e
  rcases e' with ⟨xs,hx,e'⟩ | ⟨xs,hx,e'⟩ | ⟨kvs,hx,e'⟩
  ·subst e'
   obtain ⟨its,r,pl,hz⟩:=I.list hx
   have hlen:=r.length
   exact wpAny_truthy_list pl.isList (by simp only [aX6]; omega) ⟨H,I.tok _,by rw [yC r]; exact q⟩
  ·subst e'
   obtain ⟨its,r,pl,hz⟩:=I.tuple hx
   have hlen:=r.length
   exact truthy_tuple pl (by simp only [aX6]; omega) ⟨H,I.tok _,by rw [yC r]; exact q⟩
  ·subst e'
   obtain ⟨hz,hS,vs,r,m⟩:kvs.length<=sizeLine/\(p == sysModules)=false/\∃ vs,KV kvs vs/\s.heap.DictOf (dO X.prog X.w) p vs:=I.hok p _ hx
   have hlen:kvs.length=vs.length:=Paired.length r
   exact wpAny_truthy_dict hS m (by omega) ⟨H,I.tok _,by rw [af9 r]; exact q⟩
 | _=>exact (show False from e).elim
theorem ag1 (ha:PE X a ta) (he:∀ whole,isTrue a X.env whole=(do let v <- whole; standAt a.pos; holding [v] (truthy v))) :
  PT X a (fun σ H Q=>ta σ H fun x H'=>∃ k,sM X.K x H' k/\Q k H'):=by
 intro pins s σ H Q I h
 exact isTrue_plain (aP (ha pins s σ H _ I h) fun v s1 ⟨x,H1,I1,r1,q1⟩=>ag0 pins s1 σ H1 x v Q I1 r1 q1) (he _)
theorem fS {x:V}{us:List Value} (r:aI [x] us):∃ u,us = [u]/\aU x u:=by
 cases r with
 | cons r1 r2=>cases r2; exact⟨_,rfl,r1⟩
theorem oN {x y:V}{us:List Value} (r:aI [x,y] us):∃ u w',us = [u,w']/\aU x u/\aU y w':=by
 cases r with
 | cons r1 r2=>
  cases r2 with
  | cons r3 r4=>cases r4; exact⟨_,_,rfl,r1,r3⟩
theorem ag2 (hc:X.calm=true):cH X (.builtin "max") (fun xs H Q=>∃ i j,xs = [.int i,.int j]/\Q (.int (if j > i then j else i)) H):=by
 intro pins s σ H xs us Q I r h
 obtain ⟨i,j,rfl,q⟩:=h
 obtain ⟨u,w',rfl,⟨t,rfl⟩,⟨t',rfl⟩⟩:=oN r
 refine max_two_ints (I.ok.hd hc) fun h' tk k=>⟨_,H,I.kept k,?_,q⟩
 by_cases hj:j > i
 ·rw [if_pos hj,if_pos hj]; exact⟨_,rfl⟩
 ·rw [if_neg hj,if_neg hj]; exact⟨_,rfl⟩
theorem ag3 (hc:X.calm=true):cH X (.builtin "min") (fun xs H Q=>∃ i j,xs = [.int i,.int j]/\Q (.int (if j < i then j else i)) H):=by
 intro pins s σ H xs us Q I r h
 obtain ⟨i,j,rfl,q⟩:=h
 obtain ⟨u,w',rfl,⟨t,rfl⟩,⟨t',rfl⟩⟩:=oN r
 refine min_two_ints (I.ok.hd hc) fun h' tk k=>⟨_,H,I.kept k,?_,q⟩
 by_cases hj:j < i
 ·rw [if_pos hj,if_pos hj]; exact⟨_,rfl⟩
 ·rw [if_neg hj,if_neg hj]; exact⟨_,rfl⟩
end
structure sN (h:Heap) (x dx C:Addr) (mA:Str->Option Value):Prop where
 obj:h.get? x=some (PySem.W.instObj C dx)
 ns:h.Ns1 dx mA
 ne:dx ≠ x
theorem ag4 {h:Heap}{dx:Addr}{mA:Str->Option Value} (n:h.Ns1 dx mA):∃ od,h.get? dx=some od/\∀ name,PySem.W.lookIn name od=some (mA name):=by
 obtain ⟨o,es,ep,ho,hd,hk,_,hm⟩:=n
 refine⟨o,ho,fun name=>?_⟩
 have e:=hm name
 unfold nsFind findBy at e
 rw [<- Array.find?_toList] at e
 unfold PySem.W.lookIn
 rw [hd]
 dsimp only
 split
 ·rename_i y q
  rw [q] at e
  exact congrArg some e
 ·rename_i q
  rw [q] at e
  have a:es.toList.any (·.refKey)=false:=by
   rw [List.any_eq_false]
   intro y hy
   obtain ⟨z,t,hkey⟩:=hk y (Array.mem_toList_iff.mp hy)
   simp [DictEntry.refKey,hkey]
  have a' : ¬ es.toList.any (·.refKey)=true:=by rw [a]; exact aZ0
  rw [if_neg a']
  exact congrArg some e
theorem sN.look {h:Heap}{x dx C:Addr}{mA:Str->Option Value} (I:sN h x dx C mA):∃ od,PySem.W.InstAt h x (PySem.W.instObj C dx) C (some od)/\∀ name,PySem.W.lookIn name od=some (mA name):=
 let ⟨od,ho,hl⟩:=ag4 I.ns
 ⟨od,⟨I.obj,rfl,rfl,ho⟩,hl⟩
section
variable {P : Program} {w : World} {H H' : Hp} {h h' : Heap} {a C dx : Addr} {fs fs' : List (Str × V)}
theorem ag5 (hok:bL P w H h) (e:H a=some (.ins C dx fs)):∃ mA,sN h a dx C mA/\(∀ f,jW (fs.lookup f) (mA f))/\PySem.Within mA (fs.map (·.1))/\fs.length<=1000/\H dx=some (.own a):=by
 obtain ⟨d,z,ne,ob,mA,n,r,q⟩:=(show bI P w H h a (.ins C dx fs) from hok a _ e)
 exact⟨mA,⟨ob,n,ne⟩,r,q,z,d⟩
end
structure sO (K:PySem.W.Frag) (C:Addr):Prop where
 pg:PySem.W.plainGet K C Str.empty=true
 hd:PySem.W.hasDictIn K C=true
 po:PySem.W.plainOver K C=true
 sa:PySem.W.findIn K (.ref C) "__setattr__" = some (some (.builtin "object.__setattr__"))
theorem sO.get {K:PySem.W.Frag}{C:Addr} (c:sO K C) (f:Str):PySem.W.plainGet K C f=true:=c.pg
section
variable {X : Cx} {pins : List (Addr × Obj)} {σ : St} {H : Hp} {s : Shared} {A : Around} {E : Value → Shared → Prop} {Q : Value → Shared → Prop} {c : Value} {b : Bool}
inductive eQ (K:PySem.W.Frag) (H:Hp):V->Value->Prop where
 | non:eQ K H .non (.type "NoneType")
 | bl (x:Bool):eQ K H (.bl x) (.type "bool")
 | int (i:Int):eQ K H (.int i) (.type "int")
 | str (x:Str):eQ K H (.str x) (.type "str")
 | flt (x:UInt64):eQ K H (.flt x) (.type "float")
 | lst {a:Addr}{xs:List V} (e:H a=some (.lst xs)):eQ K H (.ref a) (.type "list")
 | frz {a:Addr}{o:Obj}{xs:List V} (e:H a=some (.frz o (.lst xs))):eQ K H (.ref a) (.type "list")
 | tup {a:Addr}{xs:List V} (e:H a=some (.tup xs)):eQ K H (.ref a) (.type "tuple")
 | dK {a:Addr}{kvs:List (a9 × V)} (e:H a=some (.dK kvs)):eQ K H (.ref a) (.type "dict")
 | dT {a:Addr}{kvs:List (List a9 × V)} (e:H a=some (.dT kvs)):eQ K H (.ref a) (.type "dict")
 | ins {a C dx:Addr}{fs:List (Str × V)} (e:H a=some (.ins C dx fs)) (cl:sO K C) (ha:PySem.W.findIn K (.ref C) "__class__" = some (some (.builtin "object.__class__")))
   (hn:PySem.W.specialIn K (.builtin "object.__class__") "__get__" = some (some (.builtin "getset_descriptor.__get__"))) (htk:PySem.W.takesIn K (.builtin "object.__class__")=some true)
   (hm:PySem.W.mroIn K C (.type "object")=some true):eQ K H (.ref a) (.ref C)
theorem ag6 {x:V}{u t:Value} (I:a6 X pins σ H s) (rx:aU x u) (ty:eQ X.K H x t) (e:PySem.W.kitOne X.K t c=some b) (h:∀ tk,Q (.bool b) { s with toks:=tk }) :
  wpAny (model X.prog X.w) A (call (.builtin "isinstance") [u,c]) Q E s:=by
 cases ty with
 | non=>cases (show u=Value.none from rx); exact bf5 PySem.W.kitx_none I.kIn bl6 e (fun z=>nomatch z) h
 | bl y=>cases (show u=Value.bool y from rx); exact bf5 PySem.W.kitx_bool I.kIn bl6 e (fun z=>nomatch z) h
 | int i=>obtain ⟨t,q⟩:=(show ∃ t,u=Value.int i t from rx); cases q; exact bf5 PySem.W.kitx_int I.kIn bl6 e (fun z=>nomatch z) h
 | str y=>obtain ⟨t,q⟩:=(show ∃ t,u=Value.str y t from rx); cases q; exact bf5 PySem.W.kitx_str I.kIn bl6 e (fun z=>nomatch z) h
 | flt y=>obtain ⟨t,q⟩:=(show ∃ t,u=Value.float y t from rx); cases q; exact bf5 PySem.W.kitx_float I.kIn bl6 e (fun z=>nomatch z) h
 | @lst a xs ea=>
  cases (show u=Value.ref a from rx)
  obtain ⟨_,_,n,_,h1⟩:=(show bI X.prog X.w H s.heap a (.lst xs) from I.hok a _ ea)
  exact bf5 PySem.W.kitx_list I.kIn ⟨_,h1,rfl⟩ e (fun z=>nomatch z) h
 | @frz a ob xs ea=>
  cases (show u=Value.ref a from rx)
  obtain ⟨_,_,_,n,_,h1⟩:=(show bI X.prog X.w H s.heap a (.frz ob (.lst xs)) from I.hok a _ ea)
  exact bf5 PySem.W.kitx_list I.kIn ⟨_,h1,rfl⟩ e (fun z=>nomatch z) h
 | @tup a xs ea=>
  cases (show u=Value.ref a from rx)
  obtain ⟨_,_,_,p,_⟩:=(show bI X.prog X.w H s.heap a (.tup xs) from I.hok a _ ea)
  obtain ⟨o,h1,h2,_⟩:=p
  exact bf5 PySem.W.kitx_tuple I.kIn ⟨o,h1,h2⟩ e (fun z=>nomatch z) h
 | @dK a kvs ea=>
  cases (show u=Value.ref a from rx)
  obtain ⟨_,_,vs,_,p⟩:=(show bI X.prog X.w H s.heap a (.dK kvs) from I.hok a _ ea)
  obtain ⟨o,es,ep,h1,h2,_⟩:=p
  exact bf5 PySem.W.kitx_dict I.kIn ⟨o,h1,h2.1⟩ e (fun z=>nomatch z) h
 | @dT a kvs ea=>
  cases (show u=Value.ref a from rx)
  obtain ⟨_,_,xs,_,o,es,ep,h1,h2,_⟩:=(show bI X.prog X.w H s.heap a (.dT kvs) from I.hok a _ ea)
  exact bf5 PySem.W.kitx_dict I.kIn ⟨o,h1,h2.1⟩ e (fun z=>nomatch z) h
 | @ins a C dx fs ea cl ha hn htk hm=>
  cases (show u=Value.ref a from rx)
  obtain ⟨mA,O,_⟩:=ag5 I.hok ea
  obtain ⟨od,J,_⟩:=O.look
  exact bf5 (PySem.W.kitx_own (cl.get _) cl.hd ha hn htk hm) I.kIn J e (fun z=>nomatch z) h
end
structure bZ (k:Nat) (A:Around):Prop where
 hd:A.handled=none
 dp:A.depth+3 * k+5 < recursionLimit
 un:A.units+16 * k+200 < cLine
theorem bZ.mono {j k:Nat}{A:Around} (r:bZ k A) (h:j<=k):bZ j A:=⟨r.hd,by have:=r.dp; omega,by have:=r.un; omega⟩
theorem bZ.deeper {k:Nat}{A:Around} (r:bZ (k+1) A) (env:Env):bZ k (A.deeper env):=
 ⟨r.hd,by have:=r.dp; show A.depth+1+3 * k+5 < _; omega,by have:=r.un; show A.units+3+16 * k+200 < _; omega⟩
theorem bZ.depth {k:Nat}{A:Around} (r:bZ k A):A.depth < recursionLimit:=by have:=r.dp; omega
theorem bZ.units {k:Nat}{A:Around} (r:bZ k A):A.units+64 < cLine:=by have:=r.un; omega
def k4:TA:=fun _ H Q=>Q [] H
def iE (ta:TE) (tr:TA):TA:=fun σ H Q=>ta σ H fun x H1=>tr σ H1 fun xs H2=>Q (x :: xs) H2
section
variable {X : Cx} {e : Expr} {es : List Expr} {te : TE} {t : TA} {pos : Pos}
theorem gE:PA X [] k4:=fun _ _ _ _ H Q I h=>Calls.spliced_nil ⟨[],H,I,.nil,h⟩
theorem fF (ha:PE X e te) (hr:PA X es t) (hs:starEach (e :: es) X.env=(false,eval e X.env) :: starEach es X.env:=by rfl):PA X (e :: es) (iE te t):=by
 intro pos pins s σ H Q I h
 rw [hs]
 show wpAny _ _ (spliced ((false,eval e X.env) :: backTo pos (starEach es X.env))) _ _ s
 refine Calls.spliced_cons (aP (ha pins s σ H _ I h) fun u s1 ⟨x,H1,I1,r1,q1⟩=>?_)
 exact aP (hr pos pins s1 σ H1 _ I1 q1) fun us s2 ⟨xs,H2,I2,r2,q2⟩=>⟨x :: xs,H2,I2,.cons r1 r2,q2⟩
def yD (t:TA):TE:=fun σ H Q=>t σ H fun xs H1=>xs.length<=sizeLine/\∀ p,H1 p=none->Q (.ref p) (upd H1 p (.tup xs))
def yE (t:TA):TE:=fun σ H Q=>t σ H fun xs H1=>xs.length<=sizeLine/\∀ p,H1 p=none->Q (.ref p) (upd H1 p (.lst xs))
theorem ag7 {x1} (h:PA X es t):PE X (.Tuple es x1 pos) (yD t):=by
 intro pins s σ H Q I hq
 refine wpAny_Tuple_spliced (aP (h pos pins s σ H _ I hq) fun us s1 ⟨xs,H1,I1,r,z,q⟩=>⟨by rw [<- r.length]; exact z,?_⟩)
 have hf:H1 s1.heap.objs.size=none:=I1.hok.fresh (aX7 _)
 refine⟨.ref s1.heap.objs.size,upd H1 s1.heap.objs.size (.tup xs),I1.laid (t':=s1.toks) (fun b u e=>aX2 _ e) (aX7 _) ?_,rfl,q _ hf⟩
 exact⟨z,us,r,⟨_,aY8 _ rfl,rfl,_,rfl⟩,i9.new _ _ rfl⟩
theorem yF (h:PA X es t):PE X (.List es pos) (yE t):=by
 intro pins s σ H Q I hq
 refine wpAny_List_spliced (aP (h pos pins s σ H _ I hq) fun us s1 ⟨xs,H1,I1,r,z,q⟩=>⟨by rw [<- r.length]; exact z,?_⟩)
 have hf:H1 s1.heap.objs.size=none:=I1.hok.fresh (aX7 _)
 refine⟨.ref s1.heap.objs.size,upd H1 s1.heap.objs.size (.lst xs),I1.laid (t':=s1.toks) (fun b u e=>aX2 _ e) (aX7 _) ?_,rfl,q _ hf⟩
 exact⟨z,us,0,r,aY8 _ rfl⟩
end
abbrev Sp:=List V->Hp->VK->XK->Prop
abbrev fU:=List Env->Hp->Shared->XK->Value->Shared->Prop
structure oO (P:Program) (w:World) (K:PySem.W.Frag) (mg:Str->Option Value) (base:Heap) (A:Around) (outer:List Env) (s:Shared) (H:Hp):Prop where
 frames:A.frames=some outer
 mod:Mod K mg base
 bs:∀ b o,base.get? b=some o->s.heap.get? b=some o/\H b=none
 bsz:base.objs.size<=s.heap.objs.size
 funs:s.heap.FunFrames base outer
 frf:∀ b ∈ bU outer,H b=none
 hok:bL P w H s.heap
 bare:AllBare s.gens
def CE (outer:List Env) (P:Program) (w:World) (H:Hp) (s:Shared) (Q:VK) (u:Value) (s':Shared):Prop:=
 ∃ v H',s'.os=s.os/\AllBare s'.gens/\Un (bU outer) [] H H' s.heap s'.heap/\bL P w H' s'.heap/\aU v u/\Q v H'
def CR (CX:fU) (outer:List Env) (P:Program) (w:World) (H:Hp) (s:Shared) (Q:VK) (E:XK) (r:Result) (s':Shared):Prop:=
 match r with
 | .ok (.ret u)=>CE outer P w H s Q u s'
 | .ok _=>False
 | .error e=>CX outer H s E e s'
structure cT (P:Program) (w:World) (K:PySem.W.Frag) (mg:Str->Option Value) (base:Heap) (CX:fU) (k:Nat) (f:Addr) (fd:FuncData) (ps:List Str) (sp:Sp):Prop where
 len:∀ vs H Q E,sp vs H Q E->vs.length=ps.length
 run:∀ (A:Around) (outer:List Env) (s:Shared) (H:Hp) (args:Args) (us:List Value) (vs:List V) (Q:VK) (E:XK),bZ k A->oO P w K mg base A outer s H->BindsTo s fd args (ps.zip us)->aI vs us->sp vs H Q E->
  codeAny (model P w) A (.call (.ref f) args) (CR CX outer P w H s Q E) s
theorem cT.imp {P:Program}{w:World}{K:PySem.W.Frag}{mg:Str->Option Value}{base:Heap}{CX:fU}{k:Nat}{f:Addr}{fd:FuncData}{ps:List Str}{sp sp':Sp} (F:cT P w K mg base CX k f fd ps sp)
  (h:∀ vs H Q E,sp' vs H Q E->sp vs H Q E):cT P w K mg base CX k f fd ps sp':=
 ⟨fun vs H Q E q=>F.len vs H Q E (h _ _ _ _ q),fun A outer s H args us vs Q E hr he hb hv hs=>F.run A outer s H args us vs Q E hr he hb hv (h _ _ _ _ hs)⟩
section
variable {X : Cx} {pins : List (Addr × Obj)} {σ : St} {H : Hp} {s s' : Shared}
theorem a6.env0 (I:a6 X pins σ H s):oO X.prog X.w X.K X.mg X.base X.A X.stack s H:=
 ⟨I.ok.frames,I.ok.mod,I.bs,bb5 I.ok.bsz I.sz,I.stack,I.stkFree,I.hok,I.bare⟩
theorem a6.after {Q:VK}{u:Value} (I:a6 X pins σ H s) (h:CE X.stack X.prog X.w H s Q u s'):EP X pins σ Q u s':=by
 obtain ⟨v,H',os,bare,un,hok,r,q⟩:=h
 obtain ⟨hh,g,d,t,os'⟩:=s'
 obtain rfl:os'=s.os:=os
 exact⟨v,H',I.call (h':=hh) (g':=g) (d':=d) (t':=t) (ch:=[]) un hok bare (fun b z=>absurd z (by simp)),r,q⟩
end
def sP (sp:Sp) (dvs:List V) (E:XK) (t:TA):TE:=fun σ H Q=>t σ H fun vs H1=>sp (vs ++ dvs) H1 Q E
def iF (K:PySem.W.Frag) (fd:FuncData) (ps:List Str) (ds:List Value):Prop:=
 ∀ (s:Shared) (us:List Value),K.In s.heap->(us ++ ds).length=ps.length->BindsTo s fd ⟨us,[]⟩ (ps.zip (us ++ ds))
theorem iF.all {K:PySem.W.Frag}{fd:FuncData}{ps:List Str} (h:∀ us:List Value,us.length=ps.length->bindArgs fd ⟨us,[]⟩=pure (ps.zip us)):iF K fd ps []:=fun s us _ hl=>by
 rw [ba5] at hl ⊢
 exact .of_eq (h us hl)
def mO (CX:fU) (X:Cx) (E:XK):Prop:=∀ (pins:List (Addr × Obj)) (σ:St) (H:Hp) (s:Shared) (e:Value) (s':Shared),a6 X pins σ H s->CX X.stack H s E e s'->X.xe e s'
section
variable {X : Cx} {CX : fU} {k : Nat} {f C : Addr} {fd : FuncData} {ps : List Str} {sp : Sp} {dvs : List V} {ds : List Value} {E : XK} {x m : Str} {p pos apos : Pos} {e o : Expr} {es : List Expr} {ta : TE} {t : TA}
theorem ag8 {pins:List (Addr × Obj)}{σ:St}{H:Hp}{s:Shared}{Q:VK}{us:List Value}{vs:List V} (F:cT X.prog X.w X.K X.mg X.base CX k f fd ps sp) (hr:bZ k X.A) (hb:iF X.K fd ps ds) (hd:aI dvs ds) (hx:mO CX X E)
  (I:a6 X pins σ H s) (r:aI vs us) (h:sp (vs ++ dvs) H Q E):wpAny (model X.prog X.w) X.A (call (.ref f) us) (EP X pins σ Q) X.xe s:=by
 have r2:aI (vs ++ dvs) (us ++ ds):=r.append hd
 have hl:(us ++ ds).length=ps.length:=by rw [<- r2.length]; exact F.len _ _ _ _ h
 refine wpAny_call (codeAny_mono (F.run X.A X.stack s H ⟨us,[]⟩ (us ++ ds) (vs ++ dvs) Q E hr I.env0 (hb s us I.kIn hl) r2 h) fun r s' hq=>?_)
 cases r with
 | error e=>exact hx pins σ H s e s' I hq
 | ok fl=>
  cases fl with
  | ret u=>exact I.after hq
  | next=>exact False.elim hq
  | brk=>exact False.elim hq
  | cont=>exact False.elim hq
theorem sQ (F:cT X.prog X.w X.K X.mg X.base CX k f fd ps sp) (hr:bZ k X.A) (hg:Gl X x) (hm:X.mg x=some (.ref f)) (hk:PySem.W.keepIn X.K (.ref f)=true) (hb:iF X.K fd ps ds) (hd:aI dvs ds) (hx:mO CX X E)
  (ha:PA X (e :: es) t) (hdb:(x == ("__debug__" : Str))=false:=by decide) (he:starEach (e :: es) X.env=(false,eval e X.env) :: starEach es X.env:=by rfl) (hpl:(backTo pos (starEach es X.env)).any (·.1)=false:=by rfl) :
  PE X (.Call (.Name x p) (e :: es) [] pos) (sP sp dvs E t):=by
 intro pins s σ H Q I h
 refine wpAny_Call_Name_kw (sA I hg hm ?_ hdb)
 refine PySem.W.callWith_K (h₀:=X.base) I.ok.mod.kin hk (aP (ha pos pins s σ H _ I h) fun us s1 ⟨vs,H1,I1,r,q⟩=>⟨I1.kIn,?_⟩) he hpl
 exact ag8 F hr hb hd hx I1 r q
end
def PK (X:Cx) (kws:List Keyword) (t:TA):Prop:=
 ∀ (pos:Pos) (pins:List (Addr × Obj)) (s:Shared) (σ:St) (H:Hp) (Q:List V->Hp->Prop),a6 X pins σ H s->t σ H Q->wpAny (model X.prog X.w) X.A (evalAll ((backToKw pos (keywordEach kws X.env)).map (·.2))) (AP X pins σ Q) X.xe s
structure FnScope (N P:List Str) (sc:Scope):Prop where
 kind:sc.kind = .function
 co:sc.isCoroutine=false
 gen:sc.isGenerator=false
 nd:N.Nodup
 pre:N.take P.length=P
 par:∀ x ∈ P,sc.names.lookup x=some .local ∨ sc.names.lookup x=some .cell
 nofree:∀ y ∈ sc.names,y.2 ≠ .free
theorem yG {kindOf:Str->Option NameKind}{x:Str}:∀ {binds:List (Str × Value)}{m:Str->Option Value},(∀ v,(x,v) ∉ binds)->bindL kindOf binds m x=m x
 | [],_,_=>rfl
 | (n,v) :: r,m,h=>by
  unfold bindL
  rw [yG fun w hw=>h w (aY2 _ hw)]
  split
  ·have:x ≠ n:=by rintro rfl; exact h v aY1
   simp [this]
  ·rfl
theorem yH {kindOf:Str->Option NameKind}{x:Str}:∀ {binds:List (Str × Value)}{m:Str->Option Value},(∀ v,(x,v) ∉ binds)->bindC kindOf binds m x=m x
 | [],_,_=>rfl
 | (n,v) :: r,m,h=>by
  unfold bindC
  rw [yH fun w hw=>h w (aY2 _ hw)]
  split
  ·rfl
  ·have:x ≠ n:=by rintro rfl; exact h v aY1
   simp [this]
theorem yI {kindOf:Str->Option NameKind}{x:Str}{v:Value}:∀ {P:List Str}{vs:List Value}{i:Nat}{m:Str->Option Value},P.Nodup->P[i]? = some x->vs[i]? = some v->kindOf x=some .local->
  bindL kindOf (P.zip vs) m x=some v
 | [],_,_,_,_,h,_,_=>by simp at h
 | _ :: _,[],_,_,_,_,h,_=>by simp at h
 | p :: P,w :: vs,0,m,nd,h1,h2,hk=>by
  simp at h1 h2; subst h1; subst h2
  show bindL kindOf ((p,w) :: P.zip vs) m p=_
  unfold bindL
  rw [yG fun v hv=>(be9.mp nd).1 (List.of_mem_zip hv).1,if_pos hk]
  simp
 | p :: P,w :: vs,i+1,m,nd,h1,h2,hk=>by
  show bindL kindOf ((p,w) :: P.zip vs) m x=_
  unfold bindL
  exact yI (i:=i) (be9.mp nd).2 (by simpa using h1) (by simpa using h2) hk
theorem yJ {kindOf:Str->Option NameKind}{x:Str}{v:Value}:∀ {P:List Str}{vs:List Value}{i:Nat}{m:Str->Option Value},P.Nodup->P[i]? = some x->vs[i]? = some v->kindOf x ≠ some .local->
  bindC kindOf (P.zip vs) m x=some v
 | [],_,_,_,_,h,_,_=>by simp at h
 | _ :: _,[],_,_,_,_,h,_=>by simp at h
 | p :: P,w :: vs,0,m,nd,h1,h2,hk=>by
  simp at h1 h2; subst h1; subst h2
  show bindC kindOf ((p,w) :: P.zip vs) m p=_
  unfold bindC
  rw [yH fun v hv=>(be9.mp nd).1 (List.of_mem_zip hv).1,if_neg hk]
  simp
 | p :: P,w :: vs,i+1,m,nd,h1,h2,hk=>by
  show bindC kindOf ((p,w) :: P.zip vs) m x=_
  unfold bindC
  exact yJ (i:=i) (be9.mp nd).2 (by simpa using h1) (by simpa using h2) hk
def fV (N:List Str) (vs:List V):St:=vs.map some ++ List.replicate (N.length - vs.length) none
def cU (CX:fU) (P:Program) (w:World) (K:PySem.W.Frag) (mg:Str->Option Value) (base:Heap) (N:List Str) (qual:Str) (scope:Scope) (f:Addr) (cd:Value) (A:Around) (outer:List Env) (s:Shared) (H:Hp) (E:XK):Cx where
 prog:=P
 w:=w
 K:=K
 mg:=mg
 base:=base
 A:=A.deeper (envOfC qual scope s.heap.objs.size f cd)
 N:=N
 s₀:=s
 H₀:=H
 env:=envOfC qual scope s.heap.objs.size f cd
 outer:=outer
 stack:=envOfC qual scope s.heap.objs.size f cd :: outer
 ex:=[]
 calm:=true
 fn:=fun _=>true
 pn:=[]
 xe:=fun e s'=>wpAny (model P w) (A.deeper (envOfC qual scope s.heap.objs.size f cd)) (leaving (envOfC qual scope s.heap.objs.size f cd) e) (fun _ s''=>CX outer H s E e s'') (fun e' s''=>CX outer H s E e' s'') s'
theorem yK {sc:Scope}{n:Nat}{x:Str} (h:sc.names.lookup x=some .cell):∃ c,(cellsFrom n sc.names []).lookup x=some c:=by
 have q:=PySem.W.cellsFrom_some sc.names n [] (.inl h)
 exact Option.isSome_iff_exists.mp q
theorem ag9 {CX:fU}{P:Program}{w:World}{K:PySem.W.Frag}{mg:Str->Option Value}{base:Heap}{N ps:List Str}{qual:Str}{scope:Scope}{f:Addr}{cd:Value}{A:Around}{outer:List Env}{s s1:Shared}{H:Hp}{E:XK}{us:List Value}{vs:List V}
  (S:FnScope N ps scope) (hd:A.handled=none) (e0:oO P w K mg base A outer s H) (hl:vs.length=ps.length) (r:aI vs us)
  (x:InCallC s s.heap.objs.size (bindL (envOfC qual scope s.heap.objs.size f cd).kindOf (ps.zip us) fun _=>none) (cellsFrom (s.heap.objs.size+1) scope.names []) (bindC (envOfC qual scope s.heap.objs.size f cd).kindOf (ps.zip us) fun _=>none) s1) :
  a6 (cU CX P w K mg base N qual scope f cd A outer s H E) [] (fV N vs) H s1:=by
 have hpl:ps.length<=N.length:=by have:=congrArg List.length S.pre; rw [bd1] at this; omega
 obtain ⟨h1,tk,rfl,hk⟩:=x.done
 have noA:∀ b:Addr,b ∉ (cU CX P w K mg base N qual scope f cd A outer s H E).ex:=fun b z=>absurd (show b ∈ ([]:List Addr) from z) (by simp)
 refine⟨⟨e0.mod,S.kind,rfl,rfl,aX7 _,fun y z c h1 h2=>?_,fun y hy=>?_,fun y c _ h=>?_,fun _=>hd,Around.frames_deeper e0.frames,.inr ⟨rfl,rfl⟩,fun b z=>absurd z (noA b),e0.bs,e0.bsz,fun b _ _=>noA b,fun b z=>absurd z (noA b),e0.funs,e0.frf⟩,
  rfl,e0.bare,Un.kept hk,⟨_,x.toInCall.ns,fun i y v h1 h2 h3=>?_⟩,fun y c h=>⟨_,x.cell y c h⟩,e0.hok.fresh (aX7 _),fun y c h=>?_,fun p hp=>absurd (show p ∈ ([]:List (Addr × Obj)) from hp) (by simp),e0.hok.kept hk,?_⟩
 ·exact name_of_addr x.apart (bc9 h1) (bc9 h2)
 ·have hy:scope.names.lookup y=some .cell ∨ scope.names.lookup y=some .free:=hy
  rcases hy with hy | hy
  ·exact yK hy
  ·exact absurd rfl (S.nofree _ (bc9 hy))
 ·exact bf3 (x.above y c (bc9 h))
 ·have hi:i < vs.length:=by
   unfold fV at h2
   by_cases hi:i < vs.length
   ·exact hi
   ·rw [bk3 (by simpa using hi)] at h2
    rw [List.getElem?_replicate] at h2
    split at h2 <;> cases h2
  have ha:vs[i]? = some v:=by
   unfold fV at h2
   rw [bi5 (by simpa using hi),aZ3] at h2
   cases e:vs[i]? with
   | none=>rw [e] at h2; cases h2
   | some a=>rw [e] at h2; cases h2; rfl
  obtain ⟨u,hu,rv⟩:=r.get ha
  have hp:ps[i]? = some y:=by
   rw [<- S.pre,List.getElem?_take_of_lt (by omega)]; exact h1
  have ndP:ps.Nodup:=by rw [<- S.pre]; exact S.nd.sublist (List.take_sublist _ _)
  refine⟨u,rv,?_⟩
  rcases S.par y (bb4 hp) with k | k
  ·exact .inl ⟨k,yI ndP hp hu k⟩
  ·obtain ⟨c,e⟩:=yK (n:=s.heap.objs.size+1) k
   refine .inr ⟨.inl k,c,e,?_⟩
   have q:=x.cell y c e
   rw [yJ ndP hp hu (by show scope.names.lookup y ≠ _; rw [k]; decide)] at q
   exact q
 ·exact e0.hok.fresh (bf3 (x.above y c (bc9 h)))
 ·unfold fV
  show _=N.length
  rw [ba0,aY0,bk7]
  omega
theorem yL {CX:fU}{P:Program}{w:World}{K:PySem.W.Frag}{mg:Str->Option Value}{base:Heap}{k:Nat}{f:Addr}{name qual:Str}{params:Arguments}{body:List Stmt}{scope:Scope}{dV kV doc pm cdv ct oc:Value}{an od:Option Addr}
  {osl:Array (Option Value)}{N ps:List Str}{sp:Sp} (lk:K.lookup f=some ⟨oc,od,.func (PySem.W.fnOf name qual params body scope dV kV doc pm an cdv ct),osl⟩) (hcd:PySem.W.codeIn K cdv qual=true) (S:FnScope N ps scope)
  (len:∀ vs H Q E,sp vs H Q E->vs.length=ps.length)
  (hbody:∀ (A:Around) (outer:List Env) (s:Shared) (H:Hp) (vs:List V) (Q:VK) (E:XK),bZ k (A.deeper (envOfC qual scope s.heap.objs.size f cdv))->sp vs H Q E->
   ∃ t,dH (cU CX P w K mg base N qual scope f cdv A outer s H E) body t/\t { nx:=fun _ H'=>Q .non H',rt:=Q } (fV N vs) H) :
  cT P w K mg base CX (k+1) f (PySem.W.fnOf name qual params body scope dV kV doc pm an cdv ct) ps sp:=by
 refine⟨len,fun A outer s H args us vs Q E hr e0 hb r hsp=>?_⟩
 have hl:=len _ _ _ _ hsp
 have KX:K.In s.heap:=e0.mod.kin.keeps fun b o e=>(e0.bs b o e).1
 have lim:s.heap.NoLimit:=e0.mod.nolimit.keeps fun b o e=>(e0.bs b o e).1
 have hkind:∀ y ∈ ps.zip us,scope.names.lookup y.1=some .local ∨ (scope.names.lookup y.1=some .cell/\((cellsFrom (s.heap.objs.size+1) scope.names []).lookup y.1).isSome=true):=fun ⟨n,v⟩ hy=>by
  rcases S.par n (List.of_mem_zip hy).1 with q | q
  ·exact .inl q
  ·exact .inr ⟨q,PySem.W.cellsFrom_some _ _ _ (.inl q)⟩
 refine codeAny_call_function hr.depth (KX _ _ lk) rfl S.co S.gen rfl (PySem.W.codeRec_of KX hcd) (hb _ _ _ _ ?_)
 refine wpAny_newFunctionEnv_cells S.kind hkind fun env he s1 x=>?_
 subst he
 refine⟨lim.keeps x.toInCall.keep,codeAny_func ?_⟩
 obtain ⟨t,ht,hq⟩:=hbody A outer s H vs Q E (hr.deeper _) hsp
 have I:a6 (cU CX P w K mg base N qual scope f cdv A outer s H E) [] (fV N vs) H s1:=ag9 S hr.hd e0 hl r x
 refine bg0 (ht [] s1 (fV N vs) H _ I hq) (fun fl s' hs=>?_) fun e s' hs=>hs
 have fin:∀ {σ':St}{H':Hp}{v:V}{u:Value},a6 (cU CX P w K mg base N qual scope f cdv A outer s H E) [] σ' H' s'->aU v u->Q v H'->CE outer P w H s Q u s':=
  fun {σ' H' v u} J rv q=>⟨v,H',J.os,J.bare,J.base,J.hok,rv,q⟩
 cases fl with
 | ret u=>
  obtain ⟨v,σ',H',J,rv,q⟩:=hs
  exact fin J rv q
 | next=>
  obtain ⟨σ',H',J,q⟩:=hs
  exact fin (v:=V.non) (u:=Value.none) J rfl q
 | brk=>
  obtain ⟨_,_,_,q⟩:=hs
  exact False.elim q
 | cont=>
  obtain ⟨_,_,_,q⟩:=hs
  exact False.elim q
section
variable {X : Cx} {x : Str} {p pos : Pos} {e : Expr} {es : List Expr} {t : TA} {id T : String} {r : List V → Hp → VK → Prop}
def sR (r:List V->Hp->VK->Prop) (t:TA):TE:=fun σ H Q=>t σ H fun vs H1=>r vs H1 Q
theorem sS (hc:cH X (.builtin id) r) (hg:Gl X x) (hm:X.mg x=none) (hv:bootBuiltins x=some (.builtin id)) (ha:PA X (e :: es) t) (hn:x ≠ "__name__":=by decide) (hdb:(x == ("__debug__" : Str))=false:=by decide)
  (he:starEach (e :: es) X.env=(false,eval e X.env) :: starEach es X.env:=by rfl) (hpl:(backTo pos (starEach es X.env)).any (·.1)=false:=by rfl):PE X (.Call (.Name x p) (e :: es) [] pos) (sR r t):=by
 intro pins s σ H Q I h
 refine wpAny_Call_Name_kw (jX I hg hm hv ?_ hn hdb)
 exact PyProof.Rows.callWith_builtin1 (aP (ha pos pins s σ H _ I h) fun us s1 ⟨vs,H1,I1,r1,q1⟩=>hc pins s1 σ H1 vs us Q I1 r1 q1) he hpl
theorem yM (hc:cH X (.type T) r) (hg:Gl X x) (hm:X.mg x=none) (hv:bootBuiltins x=some (.type T)) (ha:PA X (e :: es) t) (hn:x ≠ "__name__":=by decide) (hdb:(x == ("__debug__" : Str))=false:=by decide)
  (he:starEach (e :: es) X.env=(false,eval e X.env) :: starEach es X.env:=by rfl) (hpl:(backTo pos (starEach es X.env)).any (·.1)=false:=by rfl):PE X (.Call (.Name x p) (e :: es) [] pos) (sR r t):=by
 intro pins s σ H Q I h
 refine wpAny_Call_Name_kw (jX I hg hm hv ?_ hn hdb)
 exact bh8 (aP (ha pos pins s σ H _ I h) fun us s1 ⟨vs,H1,I1,r1,q1⟩=>hc pins s1 σ H1 vs us Q I1 r1 q1) he hpl
end
end L2
namespace HT
open PySem PyProof.Rows
def c9:List Int->List Int->Bool
 | [],[]=>false
 | [],_ :: _=>true
 | _ :: _,[]=>false
 | x :: xs,y :: ys=>if x=y then c9 xs ys else decide (x < y)
theorem j7 (x y:Int) (xs ys:List Int):c9 (x :: xs) (y :: ys)=if x=y then c9 xs ys else decide (x < y):=rfl
theorem sT:c9 [] []=false:=rfl
theorem ah0 (y:Int) (ys:List Int):c9 [] (y :: ys)=true:=rfl
theorem ah1 (x:Int) (xs:List Int):c9 (x :: xs) []=false:=rfl
theorem ah2 (A:Around) (s:Shared) (a:Int) (t:Tok) (c:Int) (u:Tok):∃ e,SeqAt.EqAt A s (.int a t) (.int c u) e/\(e=true ↔ a=c):=
 ⟨(a == c),SeqAt.EqAt.int_int a t c u,by simp⟩
theorem ah3 (A:Around) (s:Shared) (a:Int) (t:Tok) (c:Int) (u:Tok) (prog:Program) (w:World) (E:Value->Shared->Prop) (Q:Value->Shared->Prop) (h:Q (.bool (decide (a < c))) s) :
  wpAny (model prog w) A (richCompare .Lt (.int a t) (.int c u)) Q E s:=
 (PyProof.Rows.lt_int h:wpAny (model prog w) A (compareOp .Lt (.int a t) (.int c u)) Q E s)
section
open PySem.SeqAt
open PySem.AutoSeq1 (wpAny_loadPart')
open PySem.MeetsSeq PySem.MeetsSeq2 PySem.MeetsSeq3
theorem ah4 (l b:Addr) (items items2:Array Value) (n n2:Nat) (dd dd2:Option Addr) (sl sl2:Array (Option Value)) (ns ms:List Int) (hi:IntsAre items.toList ns) (hj:IntsAre items2.toList ms) :
  Meets (Builtin.«tuple.__lt__» ⟨[.ref l,.ref b],[]⟩)
   (fun _ R s=>s.heap.get? l=some { cls:=.type "tuple",dict:=dd,data:=.seq items n,slots:=sl }/\s.heap.get? b=some { cls:=.type "tuple",dict:=dd2,data:=.seq items2 n2,slots:=sl2 }/\
    R (.ok (.ret (.bool (c9 ns ms)))) s):=
 .of_wp fun prog w A R s h=>by
  obtain ⟨hp,g,d,tk,os⟩:=s; obtain ⟨hl,hb,h⟩:=h
  have f2:=AutoSeq1.sub_tuple_tuple
  have z1:items.size=ns.length:=by rw [<- hi.length]; simp
  have z2:items2.size=ms.length:=by rw [<- hj.length]; simp
  wp_walk using wpAny_loadPart' hl,wpAny_loadPart' hb,wpAny_forIn_list _ (fun cN b s'=>b.1=none/\s'=⟨hp,g,d,tk,os⟩/\∃ (vs ws:List Value) (ns' ms':List Int),cN=vs.zip ws/\
   IntsAre vs ns'/\IntsAre ws ms'/\ns'.length+items2.size=ms'.length+items.size/\R (.ok (.ret (.bool (c9 ns' ms')))) ⟨hp,g,d,tk,os⟩) _
  case turn=>
   rintro ⟨y,x⟩ cN b s' ⟨hb',rfl,vs,ws,ns',ms',hz,hvi,hwi,hlen,hR⟩
   cases hvi with
   | nil=>rw [List.zip_nil_left] at hz; cases hz
   | cons a t hvi'=>
    cases hwi with
    | nil=>rw [List.zip_nil_right] at hz; cases hz
    | cons c u hwi'=>
     rw [bh4] at hz
     injection hz with hyx hrest
     injection hyx with hy hx
     subst hy hx
     rw [j7] at hR
     simp only [aZ7] at hlen
     obtain ⟨e,he,hiff⟩:=ah2 A.in1 ⟨hp,g,d,tk,os⟩ a t c u
     refine aX0 (he prog w _ _ ?_)
     cases e with
     | true=>
      rw [if_pos (hiff.mp rfl)] at hR
      wp_walk
      exact⟨rfl,rfl,_,_,_,_,hrest,hvi',hwi',by omega,hR⟩
     | false=>
      rw [if_neg (fun q=>absurd (hiff.mpr q) aZ0)] at hR
      have hri:=ah3 A.in1 ⟨hp,g,d,tk,os⟩ a t c u prog w
      wp_walk using hri
      exact⟨_,rfl,by simpa using hR⟩
  case fin=>
   rintro ⟨b1,b2⟩ s' ⟨hb',rfl,vs,ws,ns',ms',hz,hvi,hwi,hlen,hR⟩
   simp only at hb'
   subst hb'
   have hv:c9 ns' ms'=decide (items.size < items2.size):=by
    cases hvi with
    | nil=>
     cases hwi with
     | nil=>
      simp only [List.length_nil] at hlen
      rw [sT]
      exact (aX3 (by omega)).symm
     | cons c u hw=>
      simp only [List.length_nil,aZ7] at hlen
      rw [ah0]
      exact (aX4 (by omega)).symm
    | cons a t hv=>
     cases hwi with
     | nil=>
      simp only [List.length_nil,aZ7] at hlen
      rw [ah1]
      exact (aX3 (by omega)).symm
     | cons c u hw=>
      rw [bh4] at hz
      cases hz
   rw [hv] at hR
   wp_walk
   exact⟨_,rfl,by simpa [Builtin.Tuple.tupleCompareSizes] using hR⟩
  case h=>
   exact⟨rfl,rfl,items.toList,items2.toList,ns,ms,rfl,hi,hj,by omega,h⟩
end
section
variable {prog : Program} {w : World} {A : Around} {E : Value → Shared → Prop} {s : Shared}
theorem ah5 {l b:Addr}{items items2:Array Value}{ns ms:List Int}{Q:Value->Shared->Prop} (hl:IsTup s.heap l items) (hb:IsTup s.heap b items2) (hi:IntsAre items.toList ns) (hj:IntsAre items2.toList ms)
  (hu:A.units < cLine) (h:Q (.bool (c9 ns ms)) s):wpAny (model prog w) A (compareOp .Lt (.ref l) (.ref b)) Q E s:=by
 obtain ⟨⟨cls,dd,data,sl⟩,ho,hc,n,hd⟩:=id hl
 obtain ⟨⟨cls2,dd2,data2,sl2⟩,ho2,hc2,n2,hd2⟩:=id hb
 simp only at hc hd hc2 hd2
 subst hc hd hc2 hd2
 exact richCompare_meets_room (op:=.Lt) ⟨_,ho,rfl⟩ ⟨_,ho2,rfl⟩ PySem.F.slot_tuple_lt PySem.F.entry_tuple_lt (PySem.F.args_tuple_lt_2 _ _) (ah4 l b items items2 n n2 dd dd2 sl sl2 ns ms hi hj)
  ⟨ho,ho2,show Value.bool (c9 ns ms) ≠ Value.notImplemented/\Q (.bool (c9 ns ms)) s from ⟨(fun x=>nomatch x),h⟩⟩ hu
def aT (n d:Nat):Option Int->Nat
 | none=>d
 | some v=>if v < 0 then (v+(n:Int)).toNat else min v.toNat n
theorem ah6 (n d k:Nat):aT n d (some (k:Int))=min k n:=by
 show (if (k:Int) < 0 then ((k:Int)+(n:Int)).toNat else min (k:Int).toNat n)=min k n
 rw [if_neg (by omega),bj5]
theorem ah7 (n d:Nat) (hd:d<=n) (o:Option Int):aT n d o<=n:=by
 cases o with
 | none=>exact hd
 | some v=>
  show (if v < 0 then (v+(n:Int)).toNat else min v.toNat n)<=n
  by_cases hv:v < 0
  ·rw [if_pos hv]; omega
  ·rw [if_neg hv]; exact Nat.min_le_right _ _
theorem yN (v:Int) (n d:Nat):(if v < 0 then max (v+(n:Int)) 0 else min v (n:Int))=((aT n d (some v):Nat):Int):=by
 show (if v < 0 then max (v+(n:Int)) 0 else min v (n:Int))=(((if v < 0 then (v+(n:Int)).toNat else min v.toNat n):Nat):Int)
 by_cases hv:v < 0
 ·simp only [if_pos hv]; omega
 ·simp only [if_neg hv]; omega
theorem ah8 (lo hi:Option Int) (n:Nat):Builtin.Slice.sliceAdjust lo hi 1 (n:Int)=(((aT n 0 lo:Nat):Int),((aT n n hi:Nat):Int)):=by
 have h1 : ¬ ((1:Int) < 0):=by omega
 unfold Builtin.Slice.sliceAdjust
 simp only [h1,be3]
 refine Prod.ext ?_ ?_
 ·cases lo with
  | none=>rfl
  | some v=>exact yN v n 0
 ·cases hi with
  | none=>rfl
  | some v=>exact yN v n n
theorem ah9 (i j:Nat):Builtin.Slice.slicePlaces (i:Int) (j:Int) 1=j - i:=by
 unfold Builtin.Slice.slicePlaces
 have h1:(1:Int) > 0:=by omega
 simp only [h1,if_true,Int.ediv_one]
 split <;> omega
theorem yO {v:Value}{o:Option Int}{Q:Option Int->Shared->Prop} (p:IsPart v o) (h:Q o s):wpAny (model prog w) A (Builtin.Slice.slicePartIndex v) Q E s:=by
 cases p with
 | none=>exact slicePart_none h
 | int i t=>exact slicePart_int h
theorem yP {sl:Addr}{vl vu:Value}{lo hi:Option Int}{n:Nat}{Q:Int × Int × Nat->Shared->Prop} (hs:s.heap.IsSliceOf sl vl vu .none) (pl:IsPart vl lo) (pu:IsPart vu hi)
  (h:Q (((aT n 0 lo:Nat):Int),1,aT n n hi - aT n 0 lo) s):wpAny (model prog w) A (Builtin.Slice.sliceApplied (.ref sl) (pure (n:Int))) Q E s:=by
 obtain ⟨os,hos,hcs,hds⟩:=id hs
 unfold Builtin.Slice.sliceApplied Builtin.Slice.sliceFields
 refine aX0 (aX0 (bd4 hos hds (x:=vl) rfl (aX0 (bd4 hos hds (x:=vu) rfl (aX0 (bd4 hos hds (x:=.none) rfl (aX8 ?_)))))))
 refine aX0 (slicePart_none ?_)
 show wpAny _ _ (if ((1:Int) == 0)=true then _ else _) _ _ s
 rw [if_neg (by decide)]
 refine aX0 (yO pl (aX0 (yO pu (aX0 (aX8 ?_)))))
 show wpAny _ _ (match Builtin.Slice.sliceAdjust lo hi 1 (n:Int) with | (lo,hi)=>pure (lo,(1:Int),Builtin.Slice.slicePlaces lo hi 1)) _ _ s
 rw [ah8 lo hi n]
 show wpAny _ _ (pure (((aT n 0 lo:Nat):Int),(1:Int),Builtin.Slice.slicePlaces ((aT n 0 lo:Nat):Int) ((aT n n hi:Nat):Int) 1)) _ _ s
 rw [ah9]
 exact aX8 h
theorem ai0 (xs:Array Value) (i k:Nat):((List.range k).filterMap fun (m:Nat)=>xs[((i:Int)+(m:Int) * 1).toNat]?).toArray=((xs.toList.drop i).take k).toArray:=by
 have e:(fun (m:Nat)=>xs[((i:Int)+(m:Int) * 1).toNat]?)=fun m=>xs[i+m]?:=by
  funext m
  have:((i:Int)+(m:Int) * 1).toNat=i+m:=by omega
  rw [this]
 rw [e]
 have:=pick_run xs i k
 rw [List.filterMap_map] at this
 have e2:((fun x=>xs[x]?) ∘ fun x=>i+x)=fun m=>xs[i+m]?:=rfl
 rw [e2] at this
 rw [this]
theorem ai1 {t sl:Addr}{items:Array Value}{vl vu:Value}{lo hi:Option Int}{Q:Value->Shared->Prop} (ht:IsTup s.heap t items) (hs:s.heap.IsSliceOf sl vl vu .none) (pl:IsPart vl lo) (pu:IsPart vu hi)
  (hw : ¬ (aT items.size 0 lo=0/\aT items.size items.size hi=items.size))
  (h:Q (.ref s.heap.objs.size) { s with heap:=s.heap.push { cls:=.type "tuple",data:=.seq ((items.toList.drop (aT items.size 0 lo)).take (aT items.size items.size hi - aT items.size 0 lo)).toArray } })
  (hsz:items.size<=sizeLine):wpAny (model prog w) A (getItem (.ref t) (.ref sl)) Q E s:=by
 have htake:sizeOk (.seq ((items.toList.drop (aT items.size 0 lo)).take (aT items.size items.size hi - aT items.size 0 lo)).toArray):=by
  show ((items.toList.drop (aT items.size 0 lo)).take (aT items.size items.size hi - aT items.size 0 lo)).toArray.size<=sizeLine
  rw [aX6,bd1,bf6,bb8]
  omega
 have hj:aT items.size items.size hi<=items.size:=ah7 _ _ (aX7 _) hi
 obtain ⟨os,hos,hcs,hds⟩:=id hs
 have hTs:s.TypeIs (.ref sl) "slice":=⟨os,hos,hcs⟩
 unfold getItem
 try with_reducible refine bi9 ?_
 first | refine aX0 (aX8 ?_) | skip
 refine aX0 (wpAny_sequenceKey ht.typeIs (by decide) ?_)
 refine aX0 (bd5 (name:=Str.ofString "__getitem__") ht.typeIs bi4
  (be1 bi4 ht.typeIs entry_tuple_getitem ?_ (args_tuple_getitem _ _)))
 show wpAny _ _ (Builtin.Tuple.tupleItemsOf (.ref t) >>= _) _ _ s
 refine aX0 (tupleItemsOf_ ht ?_)
 refine aX0 (wpAny_typeOf hTs ?_)
 rw [if_pos (by decide)]
 refine aX0 (yP hs pl pu ?_)
 have hno : ¬ ((((aT items.size 0 lo:Nat):Int) == 0 && (1:Int) == 1 && (aT items.size items.size hi - aT items.size 0 lo) == items.size)=true):=by
  intro q
  rw [bb1,bb1] at q
  have q1:((aT items.size 0 lo:Nat):Int)=0:=eq_of_beq q.1.1
  have q2:aT items.size items.size hi - aT items.size 0 lo=items.size:=eq_of_beq q.2
  exact hw ⟨by omega,by omega⟩
 show wpAny _ _ (if (((aT items.size 0 lo:Nat):Int) == 0 && (1:Int) == 1 && (aT items.size items.size hi - aT items.size 0 lo) == items.size)=true then _ else _) _ _ s
 rw [if_neg hno,ai0]
 first
  | exact aX0 (m:=Builtin.Tuple.tupleExact _) (bf1 (aX8 ⟨_,rfl,aX8 h⟩) htake)
  | exact aX0 (m:=Builtin.Tuple.tupleExact _) (bf1 (aX0 (aX8 (aX8 ⟨_,rfl,aX8 h⟩))) htake)
  | exact aX0 (aX0 (m:=Builtin.Tuple.tupleExact _) (bf1 (aX8 (aX8 ⟨_,rfl,aX8 h⟩)) htake))
  | exact aX0 (aX0 (m:=Builtin.Tuple.tupleExact _) (bf1 (aX8 ⟨_,rfl,aX8 h⟩) htake))
end
end HT
namespace L2
open PySem PySem.Spec PyProof.Rows
abbrev TO:=St->Hp->(Option Int->Hp->Prop)->Prop
def PO (X:Cx) (e:Option Expr) (t:TO):Prop:=
 ∀ (pins:List (Addr × Obj)) (s:Shared) (σ:St) (H:Hp) (Q:Option Int->Hp->Prop),a6 X pins σ H s->t σ H Q->
  wpAny (model X.prog X.w) X.A (evalPart e X.env) (fun u s'=>∃ o H',a6 X pins σ H' s'/\IsPart u o/\Q o H') X.xe s
def ai2:TO:=fun _ H Q=>Q none H
def ai3 (t:TE):TO:=fun σ H Q=>t σ H fun x H1=>∃ i,x = .int i/\Q (some i) H1
theorem k6 {ns:List Int}:∀ {us:List Value},aI (ns.map V.int) us->IntsAre us ns:=by
 induction ns with
 | nil=>intro us r; rw [List.map_nil] at r; cases r; exact .nil
 | cons n ns ih=>
  intro us r
  rw [bc5] at r
  cases r with
  | cons r1 r2=>
   obtain ⟨t,e⟩:=r1
   subst e
   exact .cons n t (ih r2)
section
variable {X : Cx} {e : Expr} {te : TE} {lo hi : Option Expr} {tl th : TO} {pos p2 : Pos}
theorem ai4:PO X none ai2:=by
 intro pins s σ H Q I h
 rw [evalPart_none]
 exact aX8 ⟨none,H,I,.none,h⟩
theorem ai5 (h:PE X e te):PO X (some e) (ai3 te):=by
 intro pins s σ H Q I hw
 rw [evalPart_some]
 refine aP (h pins s σ H _ I hw) fun u s1 ⟨x,H1,I1,r1,q1⟩=>?_
 obtain ⟨i,rfl,q⟩:=q1
 obtain ⟨t,rfl⟩:=r1
 exact⟨some i,H1,I1,.int i t,q⟩
def j8 (X:Cx) (r:V->Option Int->Option Int->Hp->VK->Prop):Prop:=
 ∀ (pins:List (Addr × Obj)) (s:Shared) (σ:St) (H:Hp) (x:V) (v vl vu:Value) (lo hi:Option Int) (sl:Addr) (Q:VK),a6 X pins σ H s->aU x v->s.heap.IsSliceOf sl vl vu .none->IsPart vl lo->IsPart vu hi->r x lo hi H Q->
  ∃ T id,typeLookup (.type T) "__getitem__" = pure (some (.builtin id))/\s.TypeIs v T/\wpAny (model X.prog X.w) X.A (getItem v (.ref sl)) (EP X pins σ Q) X.xe s
theorem j8.or {r r':V->Option Int->Option Int->Hp->VK->Prop} (h:j8 X r) (h':j8 X r'):j8 X (fun x lo hi H Q=>r x lo hi H Q ∨ r' x lo hi H Q):=by
 intro pins s σ H x v vl vu lo hi sl Q I rx hs pl pu q
 rcases q with q | q
 ·exact h pins s σ H x v vl vu lo hi sl Q I rx hs pl pu q
 ·exact h' pins s σ H x v vl vu lo hi sl Q I rx hs pl pu q
def tSl (r:V->Option Int->Option Int->Hp->VK->Prop) (te:TE) (tl th:TO):TE:=fun σ H Q=>te σ H fun x H1=>tl σ H1 fun l H2=>th σ H2 fun u H3=>r x l u H3 Q
theorem ai6 {r:V->Option Int->Option Int->Hp->VK->Prop} (hr:j8 X r) (he:PE X e te) (hl:PO X lo tl) (hu:PO X hi th):PE X (.Subscript e (.Slice lo hi none p2) pos) (tSl r te tl th):=by
 intro pins s σ H Q I h
 refine Subscript_ (aP (he pins s σ H _ I h) fun v s1 ⟨x,H1,I1,r1,q1⟩=>?_)
 refine wpAny_Slice (aP (hl pins s1 σ H1 _ I1 q1) fun vl s2 ⟨l,H2,I2,pl,q2⟩=>aP (hu pins s2 σ H2 _ I2 q2) fun vu s3 ⟨u,H3,I3,pu,q3⟩=>?_)
 rw [evalPart_none]
 refine aX8 ?_
 have I4:a6 X pins σ H3 { s3 with heap:=s3.heap.push { cls:=.type "slice",data:=.fields #[vl,vu,.none] } }:=I3.kept (t':=s3.toks) fun b ob q=>aX2 _ q
 obtain ⟨T,id,hT,ht,hg⟩:=hr pins { s3 with heap:=s3.heap.push { cls:=.type "slice",data:=.fields #[vl,vu,.none] } } σ H3 x v vl vu l u s3.heap.objs.size Q I4 r1 (Heap.IsSliceOf.new ..) pl pu q3
 show wpAny (model X.prog X.w) X.A (subscriptTail e (.Slice lo hi none p2) v (.ref s3.heap.objs.size)) (EP X pins σ Q) X.xe { s3 with heap:=s3.heap.push { cls:=.type "slice",data:=.fields #[vl,vu,.none] } }
 exact tail_any (ops:=[.ref s3.heap.objs.size,v]) ht hT hg (by with_unfolding_all rfl)
def gF (xs:List V) (lo hi:Option Int):List V:=(xs.drop (HT.aT xs.length 0 lo)).take (HT.aT xs.length xs.length hi - HT.aT xs.length 0 lo)
theorem yQ (xs:List V) (lo hi:Option Int):(gF xs lo hi).length<=xs.length:=by
 unfold gF
 rw [bd1,bf6]
 omega
def ai7 (K:PySem.W.Frag):V->Option Int->Option Int->Hp->VK->Prop:=fun x lo hi H Q=>∃ a xs,x = .ref a/\aG K H a xs/\
 ¬ (HT.aT xs.length 0 lo=0/\HT.aT xs.length xs.length hi=xs.length)/\∀ p,H p=none->Q (.ref p) (upd H p (.tup (gF xs lo hi)))
theorem ai8:j8 X (ai7 X.K):=by
 intro pins s σ H x v vl vu lo hi sl Q I rx hs pl pu h
 obtain ⟨a,xs,rfl,hx,hw,q⟩:=h
 cases rx
 obtain ⟨its,r,ht,hz⟩:=I.tuple hx
 have hlen:its.toArray.size=xs.length:=by rw [aX6]; exact r.length.symm
 refine⟨"tuple",_,PyProof.Rows.slot_tuple_getitem.lookup,ht.typeIs,?_⟩
 refine HT.ai1 ht hs pl pu (by rw [hlen]; exact hw) ?_ (by rw [hlen]; exact hz)
 rw [hlen]
 refine⟨.ref s.heap.objs.size,_,I.laid (t':=s.toks) (o:=.tup (gF xs lo hi)) (fun b ob q=>aX2 _ q) (aX7 _) ?_,rfl,q _ (I.hok.fresh (aX7 _))⟩
 exact⟨bb5 (yQ xs lo hi) hz,_,(r.drop (HT.aT xs.length 0 lo)).take (HT.aT xs.length xs.length hi - HT.aT xs.length 0 lo),IsTup.new _ _,i9.new _ _ rfl⟩
def sU (K:PySem.W.Frag):R2:=fun x y H Q=>∃ a b ns ms,x = .ref a/\y = .ref b/\aG K H a (ns.map V.int)/\aG K H b (ms.map V.int)/\Q (.bl (HT.c9 ns ms)) H
theorem ai9 (hu:X.A.units < cLine):bY X (compareOp .Lt) (sU X.K):=by
 intro pins s σ H x y v u Q I rx ry h
 obtain ⟨a,b,ns,ms,rfl,rfl,ha,hb,q⟩:=h
 cases rx
 cases ry
 obtain ⟨its,r1,p1,_⟩:=I.tuple ha
 obtain ⟨its2,r2,p2,_⟩:=I.tuple hb
 have i1:IntsAre its.toArray.toList ns:=k6 r1
 have i2:IntsAre its2.toArray.toList ms:=k6 r2
 exact HT.ah5 p1 p2 i1 i2 hu ⟨.bl (HT.c9 ns ms),H,I,rfl,q⟩
end
def gT (n:Nat) (i:Int):Option Nat:=if 0<=i then (if i < n then some i.toNat else none) else if -(n:Int)<=i then some (i+n).toNat else none
def atI {α:Type} (xs:List α) (i:Int):Option α:=(gT xs.length i).bind fun j=>xs[j]?
theorem aj0 {n:Nat}{i:Int}{j:Nat} (h:gT n i=some j):seqIndex? i n=some j/\j < n/\-(n:Int)<=i/\i < n:=by
 unfold gT at h
 by_cases h0:0<=i
 ·rw [if_pos h0] at h
  by_cases h1:i < n
  ·rw [if_pos h1] at h
   have e:i.toNat=j:=aZ8 h
   exact⟨by rw [seqIndex_of h0 h1,e],by omega,by omega,h1⟩
  ·rw [if_neg h1] at h; cases h
 ·rw [if_neg h0] at h
  by_cases h1 : -(n:Int)<=i
  ·rw [if_pos h1] at h
   have e:(i+n).toNat=j:=aZ8 h
   exact⟨by rw [seqIndex_neg (by omega) h1,e],by omega,h1,by omega⟩
  ·rw [if_neg h1] at h; cases h
theorem sV {α:Type}{xs:List α}{i:Int}{v:α} (h:atI xs i=some v):∃ j,seqIndex? i xs.length=some j/\xs[j]? = some v/\j < xs.length/\-(xs.length:Int)<=i/\i < xs.length:=by
 unfold atI at h
 cases e:gT xs.length i with
 | none=>rw [e] at h; cases h
 | some j=>
  rw [e] at h
  obtain ⟨h1,h2,h3,h4⟩:=aj0 e
  exact⟨j,h1,h,h2,h3,h4⟩
theorem mP {α:Type}{xs:List α}{j:Nat}{v:α} (h:xs[j]? = some v):atI xs (j:Int)=some v:=by
 have hj:j < xs.length:=(aY5.mp h).1
 have e:gT xs.length (j:Int)=some j:=by
  unfold gT
  rw [if_pos (by omega),if_pos (by omega)]; simp
 unfold atI; rw [e]; exact h
theorem yR {α:Type} (xs:List α) (v:α):atI (xs ++ [v]) (-1)=some v:=by
 have hl:(xs ++ [v]).length=xs.length+1:=by simp
 have e:gT (xs ++ [v]).length (-1)=some xs.length:=by
  unfold gT
  rw [hl,if_neg (by decide),if_pos (by omega)]
  congr 1
  omega
 unfold atI
 rw [e]
 show (xs ++ [v])[xs.length]? = some v
 simp
def yS (b:Expr):Prop:=∀ o i,subscripted b false o i=operate [o,i] (getItem o i)
def iG (X:Cx) (r:R2):Prop:=
 ∀ (value slice:Expr) (pins:List (Addr × Obj)) (s:Shared) (σ:St) (H:Hp) (x y:V) (v u:Value) (Q:VK),a6 X pins σ H s->aU x v->aU y u->r x y H Q->
  subscripted slice false v u=operate [v,u] (getItem v u)->wpAny (model X.prog X.w) X.A (subscriptTail value slice v u) (EP X pins σ Q) X.xe s
def MtR (X:Cx) (id:String) (r:V->List V->Hp->VK->Prop):Prop:=
 ∀ (pins:List (Addr × Obj)) (s:Shared) (σ:St) (H:Hp) (x:V) (xs:List V) (v:Value) (us:List Value) (Q:VK),a6 X pins σ H s->aU x v->aI xs us->r x xs H Q->
  wpAny (model X.prog X.w) X.A (call (.builtin id) (v :: us)) (EP X pins σ Q) X.xe s
section
variable {X : Cx} {a b : Expr} {ta tb : TE} {pos : Pos}
theorem iG.or {r r':R2} (h:iG X r) (h':iG X r'):iG X (fun x y H Q=>r x y H Q ∨ r' x y H Q):=by
 intro value slice pins s σ H x y v u Q I rx ry q hs
 rcases q with q | q
 ·exact h value slice pins s σ H x y v u Q I rx ry q hs
 ·exact h' value slice pins s σ H x y v u Q I rx ry q hs
theorem mQ {r:R2} (hr:iG X r) (ha:PE X a ta) (hb:PE X b tb) (hs:yS b):PE X (.Subscript a b pos) (mK r ta tb):=by
 intro pins s σ H Q I h
 exact Subscript_ (sI ha hb I h fun v u s2 x y H2 I2 rx ry q=>hr a b pins s2 σ H2 x y v u Q I2 rx ry q (hs _ _))
def yT (K:PySem.W.Frag):R2:=fun x y H Q=>∃ p xs i v,x = .ref p/\y = .int i/\aJ K H p xs/\atI xs i=some v/\Q v H
def yU (K:PySem.W.Frag):R2:=fun x y H Q=>∃ p xs i v,x = .ref p/\y = .int i/\aG K H p xs/\atI xs i=some v/\Q v H
def yV:R2:=fun x y H Q=>∃ z i c,x = .str z/\y = .int i/\z.length<=sizeLine/\atI z.cps.toList i=some c/\Q (.str ⟨#[c]⟩) H
theorem sW:iG X (yT X.K):=by
 intro value slice pins s σ H x y v u Q I rx ry h hs
 obtain ⟨p,xs,i,z,rfl,rfl,hq,he,q⟩:=h
 cases rx
 obtain ⟨t,rfl⟩:=ry
 obtain ⟨its,r,pl,hz⟩:=I.list hq
 obtain ⟨j,h1,h2,h3,h4,h5⟩:=sV he
 obtain ⟨w,ew,rw'⟩:=r.get h2
 have hl:=r.length
 have hn:=mM
 have fin:EP X pins σ Q w s:=⟨z,H,I,rw',q⟩
 by_cases h0:0<=i
 ·have hj:i.toNat=j:=by
   rw [seqIndex_of h0 h5] at h1
   exact aZ8 h1
  exact item_listR pl.isList h0 (by omega) (by rw [hj]; simpa using ew) fin hs
 ·have hj:(i+(its.toArray.size:Int)).toNat=j:=by
   rw [seqIndex_neg (by omega) h4] at h1
   rw [aX6,<- hl]
   exact aZ8 h1
  exact subscriptTail_builtinR (x:=w) pl.isList.typeIs slot_list_getitem.lookup
   (wpAny_getItem_list_neg (Q:=fun r s'=>r=w/\EP X pins σ Q r s') pl.isList (by omega) (by rw [aX6] <;> omega) (by omega) (by rw [hj]; simpa using ew) ⟨rfl,fin⟩) hs
theorem sX:iG X (yU X.K):=by
 intro value slice pins s σ H x y v u Q I rx ry h hs
 obtain ⟨p,xs,i,z,rfl,rfl,hq,he,q⟩:=h
 cases rx
 obtain ⟨t,rfl⟩:=ry
 obtain ⟨its,r,pl,hz⟩:=I.tuple hq
 obtain ⟨j,h1,h2,h3,h4,h5⟩:=sV he
 obtain ⟨w,ew,rw'⟩:=r.get h2
 have hl:=r.length
 have hn:=mM
 have fin:EP X pins σ Q w s:=⟨z,H,I,rw',q⟩
 exact subscriptTail_builtinR (x:=w) pl.typeIs slot_tuple_getitem.lookup
  (getItem_tuple (j:=j) (Q:=fun r s'=>r=w/\EP X pins σ Q r s') pl (by omega) (by omega) (by rw [aX6,<- hl]; exact h1) (by simpa using ew) ⟨rfl,fin⟩) hs
theorem aj1:iG X yV:=by
 intro value slice pins s σ H x y v u Q I rx ry h hs
 obtain ⟨z,i,c,rfl,rfl,hz,he,q⟩:=h
 obtain ⟨t,rfl⟩:=rx
 obtain ⟨t',rfl⟩:=ry
 obtain ⟨j,h1,h2,h3,h4,h5⟩:=sV he
 have hl:z.cps.toList.length=z.length:=by simp [Str.length]
 rw [hl] at h1 h4 h5
 have hn:=mM
 exact tail_any (typeIs_str s z t) slot_str_getitem.lookup (getItem_str (c:=c) (by
  have e1:decide (i < -(2 ^ 63:Int))=false:=aX3 (by omega)
  have e2:decide (i >= 2 ^ 63)=false:=aX3 (by omega)
  rw [e1,e2,Bool.or_false]) (by rw [h1]; simpa using h2) ⟨.str ⟨#[c]⟩,H,I.tok _,⟨_,rfl⟩,q⟩) hs
def yW (K:PySem.W.Frag):R2:=fun x y H Q=>yT K x y H Q ∨ yU K x y H Q ∨ yV x y H Q
theorem aj2:iG X (yW X.K):=sW.or (sX.or aj1)
theorem aj3 (lo hi:Option Int) (n:Nat):(sliceBounds lo hi none n).1=((HT.aT n 0 lo:Nat):Int)/\(sliceBounds lo hi none n).2.1=((HT.aT n n hi:Nat):Int)/\(sliceBounds lo hi none n).2.2=1:=by
 refine⟨?_,?_,rfl⟩
 ·cases lo with
  | none=>simp [sliceBounds,HT.aT]
  | some i=>
   simp only [sliceBounds,HT.aT,Option.getD_none,show (1:Int) > 0 by decide,if_true]
   by_cases h:i < 0
   ·simp only [h,if_true] <;> omega
   ·simp only [h,be3] <;> omega
 ·cases hi with
  | none=>simp [sliceBounds,HT.aT]
  | some i=>
   simp only [sliceBounds,HT.aT,Option.getD_none,show (1:Int) > 0 by decide,if_true]
   by_cases h:i < 0
   ·simp only [h,if_true] <;> omega
   ·simp only [h,be3] <;> omega
theorem aj4 (its:List Value) (lo hi:Option Int):slicePick its.toArray lo hi none=((its.drop (HT.aT its.length 0 lo)).take (HT.aT its.length its.length hi - HT.aT its.length 0 lo)).toArray:=by
 obtain ⟨h1,h2,h3⟩:=aj3 lo hi its.toArray.size
 unfold slicePick
 rw [h1,h2,h3]
 simp only [sliceRange_one,pick_run,aX6] <;> rfl
def aj5 (K:PySem.W.Frag):V->Option Int->Option Int->Hp->VK->Prop:=fun x lo hi H Q=>∃ a xs,x = .ref a/\aJ K H a xs/\∀ p,H p=none->Q (.ref p) (upd H p (.lst (gF xs lo hi)))
theorem aj6:j8 X (aj5 X.K):=by
 intro pins s σ H x v vl vu lo hi sl Q I rx hs pl pu h
 obtain ⟨a,xs,rfl,hx,q⟩:=h
 cases rx
 obtain ⟨its,r,ht,hz⟩:=I.list hx
 have hlen:=r.length
 refine⟨"list",_,slot_list_getitem.lookup,ht.isList.typeIs,?_⟩
 refine wpAny_getItem_list_slice ht.isList hs pl pu .none (by simp) ?_ (by rw [aX6] <;> omega)
 rw [aj4,<- hlen]
 refine⟨.ref s.heap.objs.size,_,I.laid (t':=s.toks) (o:=.lst (gF xs lo hi)) (fun b ob q=>aX2 _ q) (aX7 _) ?_,rfl,q _ (I.hok.fresh (aX7 _))⟩
 exact⟨bb5 (yQ xs lo hi) hz,_,0,(r.drop (HT.aT xs.length 0 lo)).take (HT.aT xs.length xs.length hi - HT.aT xs.length 0 lo),aY8 _ rfl⟩
def iH:V->Bool
 | .non=>true
 | .bl _=>true
 | .int _=>true
 | .str _=>true
 | _=>false
def gG:V->V->Bool
 | .non,.non=>true
 | .bl a,.bl b=>a == b
 | .bl a,.int b=>(if a then 1 else 0) == b
 | .int a,.bl b=>a == (if b then 1 else 0)
 | .int a,.int b=>a == b
 | .str a,.str b=>a == b
 | _,_=>false
theorem aj7 {A:Around}{s:Shared}{y x:V}{u v:Value} (ry:aU y u) (rx:aU x v) (fy:iH y=true) (fx:iH x=true):SeqAt.EqAt A s u v (gG y x):=by
 cases y with
 | non=>
  cases ry
  cases x with
  | non=>cases rx; exact SeqAt.EqAt.same _
  | bl b=>cases rx; exact SeqAt.EqAt.none_bool b
  | int b=>obtain ⟨t,rfl⟩:=rx; exact SeqAt.EqAt.none_int b t
  | str b=>obtain ⟨t,rfl⟩:=rx; exact SeqAt.EqAt.none_str b t
  | _=>exact absurd (show false=true from fx) aZ0
 | bl a=>
  cases ry
  cases x with
  | non=>cases rx; exact SeqAt.EqAt.bool_none a
  | bl b=>cases rx; exact SeqAt.EqAt.bool_bool a b
  | int b=>obtain ⟨t,rfl⟩:=rx; exact SeqAt.EqAt.bool_int a b t
  | str b=>obtain ⟨t,rfl⟩:=rx; exact SeqAt.EqAt.bool_str a b t
  | _=>exact absurd (show false=true from fx) aZ0
 | int a=>
  obtain ⟨t',rfl⟩:=ry
  cases x with
  | non=>cases rx; exact SeqAt.EqAt.int_none a t'
  | bl b=>cases rx; exact SeqAt.EqAt.int_bool a t' b
  | int b=>obtain ⟨t,rfl⟩:=rx; exact SeqAt.EqAt.int_int a t' b t
  | str b=>obtain ⟨t,rfl⟩:=rx; exact SeqAt.EqAt.int_str a t' b t
  | _=>exact absurd (show false=true from fx) aZ0
 | str a=>
  obtain ⟨t',rfl⟩:=ry
  cases x with
  | non=>cases rx; exact SeqAt.EqAt.str_none a t'
  | bl b=>cases rx; exact SeqAt.EqAt.str_bool a t' b
  | int b=>obtain ⟨t,rfl⟩:=rx; exact SeqAt.EqAt.str_int a t' b t
  | str b=>obtain ⟨t,rfl⟩:=rx; exact SeqAt.EqAt.str_str a t' b t
  | _=>exact absurd (show false=true from fx) aZ0
 | _=>exact absurd (show false=true from fy) aZ0
def e8 (x:V) (u:Value):Bool:=match u with
 | .none=>gG .non x
 | .bool b=>gG (.bl b) x
 | .int i _=>gG (.int i) x
 | .str z _=>gG (.str z) x
 | _=>false
theorem yX {x y:V}{u:Value} (r:aU y u) (f:iH y=true):e8 x u=gG y x:=by
 cases y with
 | non=>cases r; rfl
 | bl b=>cases r; rfl
 | int i=>obtain ⟨t,rfl⟩:=r; rfl
 | str z=>obtain ⟨t,rfl⟩:=r; rfl
 | _=>exact absurd (show false=true from f) aZ0
theorem mR {x:V}:∀ {xs:List V}{us:List Value},aI xs us->xs.all iH=true->us.any (e8 x)=xs.any fun y=>gG y x
 | _,_,.nil,_=>rfl
 | y :: xs,u :: us,.cons r t,f=>by
  rw [bh9,bb1] at f
  rw [List.any_cons,List.any_cons,yX r f.1,mR t f.2]
theorem mS {A:Around}{s:Shared}{x:V}{v:Value} (rx:aU x v) (fx:iH x=true):∀ {xs:List V}{us:List Value},aI xs us->xs.all iH=true->∀ u ∈ us,SeqAt.EqAt A s u v (e8 x u)
 | _,_,.nil,_=>fun u hu=>by cases hu
 | y :: xs,u :: us,.cons r t,f=>fun u' hu=>by
  rw [bh9,bb1] at f
  rcases aX9.mp hu with rfl | hu
  ·rw [yX r f.1]; exact aj7 r rx f.1 fx
  ·exact mS rx fx t f.2 u' hu
def mT (x:V) (xs:List V):Bool:=xs.any fun y=>gG y x
def sY (K:PySem.W.Frag) (neg:Bool):R2:=fun x y H Q=>∃ p xs,y = .ref p/\(aJ K H p xs ∨ aG K H p xs)/\iH x=true/\xs.all iH=true/\Q (.bl (if neg then !mT x xs else mT x xs)) H
theorem aj8:bY X (compareOp .In) (sY X.K false):=by
 intro pins s σ H x y v u Q I rx ry h
 obtain ⟨p,xs,rfl,hq,fx,fs,q⟩:=h
 cases ry
 rcases hq with hq | hq
 ·obtain ⟨its,r,pl,hz⟩:=I.list hq
  refine SeqAt.in_listAt (e8 x) pl.isList (fun w hw=>mS rx fx r fs w (by simpa using hw)) ⟨.bl _,H,I,rfl,?_⟩
  rw [show its.toArray.any (e8 x)=its.any (e8 x) by simp,mR r fs]
  exact q
 ·obtain ⟨its,r,pl,hz⟩:=I.tuple hq
  refine SeqAt.in_tupleAt (e8 x) pl (fun w hw=>mS rx fx r fs w (by simpa using hw)) ⟨.bl _,H,I,rfl,?_⟩
  rw [show its.toArray.any (e8 x)=its.any (e8 x) by simp,mR r fs]
  exact q
theorem aj9:bY X (compareOp .NotIn) (sY X.K true):=by
 intro pins s σ H x y v u Q I rx ry h
 obtain ⟨p,xs,rfl,hq,fx,fs,q⟩:=h
 cases ry
 rcases hq with hq | hq
 ·obtain ⟨its,r,pl,hz⟩:=I.list hq
  refine SeqAt.notIn_listAt (e8 x) pl.isList (fun w hw=>mS rx fx r fs w (by simpa using hw)) ⟨.bl _,H,I,rfl,?_⟩
  rw [show its.toArray.any (e8 x)=its.any (e8 x) by simp,mR r fs]
  exact q
 ·obtain ⟨its,r,pl,hz⟩:=I.tuple hq
  refine SeqAt.notIn_tupleAt (e8 x) pl (fun w hw=>mS rx fx r fs w (by simpa using hw)) ⟨.bl _,H,I,rfl,?_⟩
  rw [show its.toArray.any (e8 x)=its.any (e8 x) by simp,mR r fs]
  exact q
theorem ak0:cH X (.builtin "len") (fun xs H Q=>∃ p ys,xs = [.ref p]/\(aJ X.K H p ys ∨ aG X.K H p ys)/\Q (.int ys.length) H):=by
 intro pins s σ H xs us Q I r h
 obtain ⟨p,ys,rfl,hq,q⟩:=h
 obtain ⟨u,rfl,rx⟩:=fS r
 cases rx
 have hn:=mM
 rcases hq with hq | hq
 ·obtain ⟨its,r',pl,hz⟩:=I.list hq
  have hlen:=r'.length
  exact Calls.call_len_list pl.isList (by simp only [aX6] <;> omega) ⟨.int ys.length,H,I.tok _,⟨s.toks+1,by rw [aX6,hlen]⟩,q⟩
 ·obtain ⟨its,r',pl,hz⟩:=I.tuple hq
  have hlen:=r'.length
  exact len_tuple pl (by simp only [aX6] <;> omega) ⟨.int ys.length,H,I.tok _,⟨s.toks+1,by rw [aX6,hlen]⟩,q⟩
theorem cH.or {f:Value}{r r':List V->Hp->VK->Prop} (h:cH X f r) (h':cH X f r'):cH X f (fun xs H Q=>r xs H Q ∨ r' xs H Q):=by
 intro pins s σ H xs us Q I rs q
 rcases q with q | q
 ·exact h pins s σ H xs us Q I rs q
 ·exact h' pins s σ H xs us Q I rs q
theorem ak1:cH X (.type "list") (fun xs H Q=>∃ p ys,xs = [.ref p]/\(aJ X.K H p ys ∨ aG X.K H p ys)/\∀ l,H l=none->Q (.ref l) (upd H l (.lst ys))):=by
 intro pins s σ H xs us Q I r h
 obtain ⟨p,ys,rfl,hq,q⟩:=h
 obtain ⟨u,rfl,rx⟩:=fS r
 cases rx
 have fin:∀ (its:List Value),aI ys its->ys.length<=sizeLine->∀ (h':Heap) (c':Nat),(∀ b o',s.heap.get? b=some o'->h'.get? b=some o')->
   h'.get? s.heap.objs.size=some { cls:=.type "list",dict:=none,data:=.seq its.toArray c',slots:=#[] }->EP X pins σ Q (.ref s.heap.objs.size) { s with heap:=h' }:=fun its r' hz h' c' kp e=>
  ⟨.ref s.heap.objs.size,_,I.laid (t':=s.toks) kp (aX7 _) (show bI X.prog X.w _ h' _ (.lst ys) from ⟨hz,its,c',r',e⟩),rfl,q _ (I.hok.fresh (aX7 _))⟩
 rcases hq with hq | hq
 ·obtain ⟨its,r',pl,hz⟩:=I.list hq
  have hlen:=r'.length
  obtain ⟨o,ho,hc,n,hd⟩:=pl.isList
  exact call_list_seq p (.inl rfl) ho hc hd (fun h' c' kp e=>fin its r' hz h' c' kp e) (by simp only [aX6] <;> omega)
 ·obtain ⟨its,r',pl,hz⟩:=I.tuple hq
  have hlen:=r'.length
  obtain ⟨o,ho,hc,n,hd⟩:=pl
  exact call_list_seq p (.inr rfl) ho hc hd (fun h' c' kp e=>fin its r' hz h' c' kp e) (by simp only [aX6] <;> omega)
theorem ak2:cH X (.type "tuple") (fun xs H Q=>∃ p ys,xs = [.ref p]/\((aJ X.K H p ys/\∀ l,H l=none->Q (.ref l) (upd H l (.tup ys))) ∨ (aG X.K H p ys/\Q (.ref p) H))):=by
 intro pins s σ H xs us Q I r h
 obtain ⟨p,ys,rfl,h⟩:=h
 obtain ⟨u,rfl,rx⟩:=fS r
 cases rx
 rcases h with ⟨hq,q⟩ | ⟨hq,q⟩
 ·obtain ⟨its,r',pl,hz⟩:=I.list hq
  have hlen:=r'.length
  refine call_tuple_list pl.isList (fun h' kp=>?_) (by simp only [aX6] <;> omega)
  have I1:a6 X pins σ H { s with heap:=h' }:=I.kept (t':=s.toks) kp
  have I2:a6 X pins σ (upd H h'.objs.size (.tup ys)) { s with heap:=h'.push { cls:=.type "tuple",data:=.seq its.toArray } }:=
   I1.laid (t':=s.toks) (fun b o e=>aX2 _ e) (aX7 _) (show bI X.prog X.w _ _ _ (.tup ys) from ⟨hz,its,r',IsTup.new _ _,i9.new _ _ rfl⟩)
  exact⟨.ref h'.objs.size,_,I2,rfl,q _ (I1.hok.fresh (aX7 _))⟩
 ·obtain ⟨its,r',pl,hz⟩:=I.tuple hq
  exact call_tuple_same pl ⟨.ref p,H,I,rfl,q⟩
def oP (K:PySem.W.Frag) (T:String) (x:V) (H:Hp):Prop:=match x with
 | .str _=>T="str"
 | .int _=>T="int"
 | .ref p=>(T="list"/\∃ xs,aJ K H p xs) ∨ (T="tuple"/\∃ o,K.lookup p=some o/\o.cls = .type "tuple"/\o.dict=none) ∨
   (T="dict"/\((∃ kvs,H p=some (.dK kvs)) ∨ ∃ kvs,H p=some (.dT kvs))) ∨ (T="set"/\∃ S n,H p=some (.set S n))
 | _=>False
theorem ak3 {pins:List (Addr × Obj)}{σ:St}{H:Hp}{s:Shared}{T:String}{x:V}{v:Value} (I:a6 X pins σ H s) (r:aU x v) (ty:oP X.K T x H) :
  s.TypeIs v T/\∀ a,v = .ref a->∃ ob,s.heap.get? a=some ob/\ob.dict=none:=by
 cases x with
 | str z=>
  obtain ⟨t,rfl⟩:=r
  cases (show T="str" from ty)
  exact⟨typeIs_str s z t,fun _ e=>nomatch e⟩
 | int i=>
  obtain ⟨t,rfl⟩:=r
  cases (show T="int" from ty)
  exact⟨typeIs_int s i t,fun _ e=>nomatch e⟩
 | ref p=>
  cases r
  rcases ty with ⟨rfl,xs,hq⟩ | ⟨rfl,o,hk,hc,hd⟩ | ⟨rfl,hk⟩ | ⟨rfl,S,n,hk⟩
  ·obtain ⟨its,_,pl,_⟩:=I.list hq
   refine⟨pl.isList.typeIs,fun a e=>?_⟩
   cases e
   obtain ⟨o,n,e,c,hd,_⟩:=pl
   exact⟨o,e,hd⟩
  ·refine⟨⟨o,I.kIn p o hk,hc⟩,fun a e=>?_⟩
   cases e
   exact⟨o,I.kIn _ o hk,hd⟩
  ·have z:∃ o,s.heap.get? p=some o/\o.ExactDict:=by
    rcases hk with ⟨kvs,hk⟩ | ⟨kvs,hk⟩
    ·obtain ⟨_,_,_,_,o,_,_,e,ex,_⟩:=I.hok p _ hk
     exact⟨o,e,ex⟩
    ·obtain ⟨_,_,_,_,o,_,_,e,ex,_⟩:=I.hok p _ hk
     exact⟨o,e,ex⟩
   obtain ⟨o,e,ex⟩:=z
   refine⟨⟨o,e,ex.1⟩,fun a e2=>?_⟩
   cases e2
   exact⟨o,e,ex.2.1⟩
  ·obtain ⟨o,_,_,_,e,ex,_⟩:=I.hok p _ hk
   refine⟨⟨o,e,ex.1⟩,fun a e2=>?_⟩
   cases e2
   exact⟨o,e,ex.2.1⟩
 | _=>exact False.elim ty
def yY (K:PySem.W.Frag) (T:String) (r:V->List V->Hp->VK->Prop) (to:TE) (t:TA):TE:=fun σ H Q=>to σ H fun x H1=>oP K T x H1/\t σ H1 fun xs H2=>r x xs H2 Q
variable {o e : Expr} {es : List Expr} {to : TE} {t : TA} {name : Str} {apos cpos : Pos} {T id : String} {r : V → List V → Hp → VK → Prop}
theorem sZ (pa:PlainAttrs T) (slot:Slot T name id) (hty:typeOf (.builtin id)=pure (.type "method_descriptor")) (hm:MtR X id r) (ho:PE X o to) (ha:PA X (e :: es) t)
  (hbase:attributeBase o name X.env (eval o X.env)=eval o X.env:=by rfl)
  (hfew:((backTo cpos (starEach (e :: es) X.env)).all (fun x=>!x.1) && (backToKw cpos (keywordEach [] X.env)).all (fun x=>x.1.isSome)
   && decide ((e :: es).length+([]:List Keyword).length+(if ([]:List Keyword).isEmpty then 0 else 1) < 30))=true:=by rfl)
  (hline:(apos.endLine == cpos.line)=true:=by rfl) (hs:starEach (e :: es) X.env=(false,eval e X.env) :: starEach es X.env:=by rfl) (hplain:(backTo cpos (starEach es X.env)).any (·.1)=false:=by rfl) :
  PE X (.Call (.Attribute o name apos) (e :: es) [] cpos) (yY X.K T r to t):=by
 intro pins s σ H Q I h
 refine wpAny_Call_method_late hbase hfew hline rfl (aP (ho pins s σ H _ I h) fun v s1 ⟨x,H1,I1,r1,ty,q1⟩=>?_)
 obtain ⟨h1,h2⟩:=ak3 I1 r1 ty
 refine⟨T,id,pa,slot,hty,h1,h2,?_⟩
 have hA:=ha cpos pins s1 σ H1 _ I1 q1
 rw [hs] at hA ⊢
 refine Calls.callWith_builtin (by show (false || (backTo cpos (starEach es X.env)).any (·.1))=false; rw [hplain] <;> rfl) (Calls.evalArgs_plain ?_)
 exact aP hA fun us s2 ⟨vs,H2,I2,r2,q2⟩=>hm pins s2 σ H2 x vs v us Q I2 r1 r2 q2
end
def MtM (X:Cx) (id:String) (r:V->List V->Hp->VK->Prop):Prop:=
 ∀ (pins:List (Addr × Obj)) (s:Shared) (σ:St) (H:Hp) (x:V) (xs:List V) (v:Value) (us:List Value) (Q:VK),a6 X pins σ H s->aU x v->aI xs us->r x xs H Q->
  wpAny (model X.prog X.w) X.A (call (.builtin id) (v :: us)) (EP X pins σ Q) X.xe s
theorem aI.one {x:V}{us:List Value} (h:aI [x] us):∃ u,us = [u]/\aU x u:=by
 cases h with
 | cons r t=>
  cases t
  exact⟨_,rfl,r⟩
theorem aI.two {x y:V}{us:List Value} (h:aI [x,y] us):∃ u v,us = [u,v]/\aU x u/\aU y v:=by
 cases h with
 | cons r t=>
  cases t with
  | cons q t=>
   cases t
   exact⟨_,_,rfl,r,q⟩
theorem aI.eraseIdx:∀ {xs:List V}{us:List Value} (i:Nat),aI xs us->aI (xs.eraseIdx i) (us.eraseIdx i)
 | _,_,_,.nil=>.nil
 | _,_,0,.cons _ t=>t
 | _,_,i+1,.cons r t=>.cons r (aI.eraseIdx i t)
theorem aI.rep {xs:List V}{us:List Value} (h:aI xs us):∀ k:Nat,aI (List.replicate k xs).flatten (List.replicate k us).flatten
 | 0=>.nil
 | k+1=>by
  rw [bf9,bf9,bh0,bh0]
  exact aI.append h (aI.rep h k)
theorem yZ (its:List Value):∀ (k:Nat) (acc:List Value),
  List.foldl (fun x1 x2=>x1 ++ x2) acc.toArray (List.replicate k its.toArray)=(acc ++ (List.replicate k its).flatten).toArray
 | 0,acc=>by simp
 | k+1,acc=>by
  have e:acc.toArray ++ its.toArray=(acc ++ its).toArray:=by simp
  have e2:(acc ++ its) ++ (List.replicate k its).flatten=acc ++ (List.replicate (k+1) its).flatten:=by
   rw [bf9,bh0,aZ5]
  rw [<- e2,<- yZ its k (acc ++ its),<- e,bf9,List.foldl_cons]
section
variable {X : Cx} {pins : List (Addr × Obj)} {σ : St} {H : Hp} {s : Shared} {l b : Addr} {xs ys zs : List V}
theorem a6.lset {its its':List Value}{n:Nat}{f:Array Value->Array Value}{t':Nat} (I:a6 X pins σ H s) (hH:H l=some (.lst xs))
  (e:s.heap.get? l=some { cls:=.type "list",data:=.seq its.toArray n }) (hf:f its.toArray=its'.toArray) (hv:aI ys its') (hz:ys.length<=sizeLine) :
  a6 X pins σ (upd H l (.lst ys)) { s with heap:=s.heap.update l (Obj.mapSeq f),toks:=t' }:=by
 have q:=PySem.IsL.update e f
 rw [hf] at q
 refine I.write (x:=l) (e:=l) (by rw [hH]; exact trivial) (.inl rfl) (fun b' u hb hu=>(Heap.get?_update_other s.heap (Obj.mapSeq f) (Ne.symm hb)).trans hu) ⟨_,q⟩ ?_
 exact⟨hz,its',_,hv,q⟩
theorem a6.lnew {its:List Value}{t':Nat} (I:a6 X pins σ H s) (hv:aI ys its) (hz:ys.length<=sizeLine) :
  a6 X pins σ (upd H s.heap.objs.size (.lst ys)) { s with heap:=s.heap.push { cls:=.type "list",data:=.seq its.toArray },toks:=t' }:=
 I.laid (fun _ _ q=>aX2 _ q) (aX7 _) ⟨hz,its,0,hv,aY8 _ rfl⟩
theorem a6.fresh (I:a6 X pins σ H s):H s.heap.objs.size=none:=I.hok.fresh (aX7 _)
theorem a6.lstM (I:a6 X pins σ H s) (hH:H l=some (.lst xs)):xs.length<=sizeLine/\∃ (its:List Value) (n:Nat),aI xs its/\xs.length=its.length/\s.heap.get? l=some { cls:=.type "list",data:=.seq its.toArray n }:=by
 obtain ⟨z,its,n,r,e⟩:=I.hok l _ hH
 exact⟨z,its,n,r,r.length,e⟩
theorem ak4 {n:Nat} (h:n<=sizeLine):Builtin.List.listTooLong n=false:=by
 unfold Builtin.List.listTooLong
 exact aX3 (by omega)
end
section
variable {X : Cx}
def z9:V->List V->Hp->VK->Prop:=fun x vs H Q=>∃ l xs y,x = .ref l/\vs = [y]/\H l=some (.lst xs)/\xs.length < sizeLine/\Q .non (upd H l (.lst (xs ++ [y])))
theorem oQ:MtM X "list.append" z9:=by
 intro pins s σ H x vs v us Q I rx rv h
 obtain ⟨l,xs,y,rfl,rfl,hH,hz,q⟩:=h
 cases rx
 obtain ⟨u,rfl,ru⟩:=rv.one
 obtain ⟨z,its,n,r,hl,e⟩:=I.lstM hH
 refine call_meets F.slot_list_append ⟨_,e,rfl⟩ F.entry_list_append (F.args_list_append_2 _ _) (PySem.list_append l its.toArray n u (by rw [aX6]; omega)) ⟨e,?_⟩
 refine⟨.non,_,I.lset (its':=its ++ [u]) hH e (by simp) (r.append (.cons ru .nil)) ?_,rfl,q⟩
 rw [ba0,bk8]
 omega
def zA:R2:=fun x y H Q=>∃ l k xs,x = .ref l/\y = .int k/\H l=some (.lst xs)/\-(2 ^ 63)<=k/\k < 2 ^ 63/\xs.length * k.toNat<=sizeLine/\
 ∀ p,H p=none->Q (.ref p) (upd H p (.lst (List.replicate k.toNat xs).flatten))
theorem ak5 {α:Type} (xs:List α) (k:Nat):(List.replicate k xs).flatten.length=k * xs.length:=by
 induction k with
 | zero=>simp
 | succ k ih=>rw [bf9,bh0,ba0,ih,Nat.succ_mul,Nat.add_comm]
theorem ak6:bY X (binaryOp .Mult) zA:=by
 intro pins s σ H x y v u Q I rx ry h
 obtain ⟨l,k,xs,rfl,rfl,hH,h1,h2,hz,q⟩:=h
 cases rx
 obtain ⟨t,rfl⟩:=ry
 obtain ⟨z,its,n,r,hl,e⟩:=I.lstM hH
 have hlen:its.toArray.size * k.toNat<=sizeLine:=by rw [aX6,<- hl]; exact hz
 have hcap : ¬ its.toArray.size * k.toNat > (2 ^ 63 - 1) / 8:=by
  have:(sizeLine:Nat)<=(2 ^ 63 - 1) / 8:=by decide
  omega
 have hfit : ¬ (!Builtin.List.listFitsIndex k)=true:=by
  rw [fitsIndex_both h1 h2]
  exact aZ0
 have hlong : ¬ Builtin.List.listTooLong (its.toArray.size * k.toNat)=true:=by
  rw [ak4 hlen]
  exact aZ0
 have hnew:List.foldl (fun x1 x2=>x1 ++ x2) #[] (List.replicate (if its.toArray.isEmpty=true then 0 else k.toNat) its.toArray)=(List.replicate k.toNat its).flatten.toArray:=by
  have f0:∀ m:Nat,List.foldl (fun x1 x2=>x1 ++ x2) #[] (List.replicate m its.toArray)=(List.replicate m its).flatten.toArray:=fun m=>by
   have:=yZ its m []
   rw [List.nil_append] at this
   exact this
  rw [f0]
  cases its with
  | nil=>simp
  | cons a r'=>rw [if_neg (by simp)]
 refine wpAny_binaryOp_repeat_ref (T:="list") (U:="int") (by decide) ⟨_,e,rfl⟩ (fun s'=>typeIs_int s' k t) noFill_list_mul F.fills_int_mul F.slot_int_rmul repeat_list F.slot_int_index.lookup
  (call_meets F.slot_int_rmul (typeIs_int s k t) F.entry_int_rmul (F.args_int_rmul_2 _ _) (int___rmul___int_list k t l its.toArray n)
   ⟨e,rfl,⟨_,e,rfl⟩,call_meets F.slot_list_mul ⟨_,e,rfl⟩ F.entry_list_mul (F.args_list_mul_2 _ _) (AutoListH.list___mul___list_int_3 l its.toArray n k t hfit hcap hlong) ⟨e,?_⟩⟩)
 rw [hnew]
 exact⟨.ref _,_,I.lnew (t':=s.toks) (r.rep k.toNat) (by rw [ak5,Nat.mul_comm]; exact hz),rfl,q _ I.fresh⟩
end
section
variable {κ : Type} [DecidableEq κ]
def e9 (kvs:List (κ × V)) (k:κ):Option V:=(kvs.find? fun kv=>decide (kv.1=k)).map (·.2)
def dA (kvs:List (κ × V)) (k:κ) (v:V):List (κ × V):=
 if (kvs.any fun kv=>decide (kv.1=k))=true then kvs.map (fun kv=>if kv.1=k then (kv.1,v) else kv) else kvs ++ [(k,v)]
theorem t5 {p:κ × V}{r:List (κ × V)}{k:κ} (e:p.1=k):e9 (p :: r) k=some p.2:=by simp [e9,bh2,e]
theorem t6 {p:κ × V}{r:List (κ × V)}{k:κ} (e : ¬ p.1=k):e9 (p :: r) k=e9 r k:=by simp [e9,bh2,e]
theorem zB (k:κ):∀ kvs:List (κ × V),(kvs.any fun kv=>decide (kv.1=k))=(e9 kvs k).isSome
 | []=>rfl
 | p :: r=>by
  rw [List.any_cons]
  by_cases e:p.1=k
  ·simp only [t5 e,aX4 e,Bool.true_or,Option.isSome_some]
  ·rw [t6 e,aX3 e,Bool.false_or]; exact zB k r
theorem t7 (kvs:List (κ × V)) (k:κ) (v:V):(dA kvs k v).length<=kvs.length+1:=by
 unfold dA
 split
 ·rw [aY0]; omega
 ·rw [ba0,aZ7,List.length_nil]; omega
theorem jW.isSome_eq {o:Option V}{u:Option Value} (r:jW o u):o.isSome=u.isSome:=by
 cases o with
 | none=>cases u with
  | none=>rfl
  | some _=>exact (show False from r).elim
 | some _=>cases u with
  | none=>exact (show False from r).elim
  | some _=>rfl
theorem KV.val {kvs:List (κ × V)}{vs:List (κ × Value)} (r:KV kvs vs) (k:κ):jW (e9 kvs k) (valueAt vs k):=by
 unfold KV at r
 induction r with
 | nil=>exact bl6
 | @cons p q ps qs h t ih=>
  obtain ⟨h1,h2⟩:=h
  by_cases e:p.1=k
  ·have e':q.1=k:=h1.symm.trans e
   have b:valueAt (q :: qs) k=some q.2:=by simp [valueAt,bh2,e']
   rw [t5 e,b]; exact h2
  ·have e' : ¬ q.1=k:=fun z=>e (h1.trans z)
   have b:valueAt (q :: qs) k=valueAt qs k:=by simp [valueAt,bh2,e']
   rw [t6 e,b]; exact ih
theorem KV.any {kvs:List (κ × V)}{vs:List (κ × Value)} (r:KV kvs vs) (k:κ):(kvs.any fun kv=>decide (kv.1=k))=vs.any fun kv=>decide (kv.1=k):=by
 unfold KV at r
 induction r with
 | nil=>rfl
 | cons h t ih=>rw [List.any_cons,List.any_cons,ih,h.1]
theorem KV.repl {kvs:List (κ × V)}{vs:List (κ × Value)} (r:KV kvs vs) (k:κ) {y:V}{u:Value} (ry:aU y u) :
  KV (kvs.map fun kv=>if kv.1=k then (kv.1,y) else kv) (vs.map fun kv=>if kv.1=k then (kv.1,u) else kv):=by
 unfold KV at r ⊢
 induction r with
 | nil=>exact .nil
 | @cons p q ps qs h t ih=>
  rw [bc5,bc5]
  refine .cons ?_ ih
  obtain ⟨h1,h2⟩:=h
  by_cases e:p.1=k
  ·rw [if_pos e,if_pos (h1.symm.trans e)]; exact⟨h1,ry⟩
  ·rw [if_neg e,if_neg (fun z=>e (h1.trans z))]; exact⟨h1,h2⟩
theorem KV.put {kvs:List (κ × V)}{vs:List (κ × Value)} (r:KV kvs vs) (k:κ) {y:V}{u:Value} (ry:aU y u):KV (dA kvs k y) (stored vs k u):=by
 unfold dA stored
 rw [r.any k]
 by_cases e:(vs.any fun kv=>decide (kv.1=k))=true
 ·rw [if_pos e,if_pos e]; exact r.repl k ry
 ·rw [if_neg e,if_neg e]; exact Paired.snoc r ⟨rfl,ry⟩
theorem KV.length {kvs:List (κ × V)}{vs:List (κ × Value)} (r:KV kvs vs):kvs.length=vs.length:=Paired.length r
end
theorem oR {P:Program}{w:World}{k:a9}{u:Value} (r:aU (kV k) u):(dO P w).is k u=true:=by
 cases k with
 | inl i=>obtain ⟨t,e⟩:=(show ∃ t,u=Value.int i t from r); subst e; exact aa7 P w i t
 | inr x=>obtain ⟨t,e⟩:=(show ∃ t,u=Value.str x t from r); subst e; exact aa8 P w x t
theorem zC {P:Program}{w:World}:∀ {ks:List a9}{us:List Value},aI (ks.map kV) us->ItemsAre (dO P w) ks us
 | [],_,r=>by rw [List.map_nil] at r; cases r; exact .nil
 | k :: ks,_,r=>by
  rw [bc5] at r
  cases r with
  | cons h t=>exact .cons (oR h) (zC t)
abbrev KT (H:Hp):List (List a9 × V)->List (List a9 × Addr × Value)->Prop:=Paired fun p q=>p.1=q.1/\H q.2.1=some (.tup (p.1.map kV))/\aU p.2 q.2.2
theorem KT.val {H:Hp}{kvs:List (List a9 × V)}{xs:List (List a9 × Addr × Value)} (r:KT H kvs xs) (k:List a9):jW (e9 kvs k) ((atKey xs k).map (·.2)):=by
 induction r with
 | nil=>exact bl6
 | @cons p q ps qs h t ih=>
  obtain ⟨h1,_,h2⟩:=h
  by_cases e:p.1=k
  ·have e':q.1=k:=h1.symm.trans e
   have b:atKey (q :: qs) k=some q.2:=by simp [atKey,bh2,e']
   rw [t5 e,b]; exact h2
  ·have e' : ¬ q.1=k:=fun z=>e (h1.trans z)
   have b:atKey (q :: qs) k=atKey qs k:=by simp [atKey,bh2,e']
   rw [t6 e,b]; exact ih
theorem KT.repl {H:Hp}{kvs:List (List a9 × V)}{xs:List (List a9 × Addr × Value)} (r:KT H kvs xs) (k:List a9) {y:V}{u:Value} (ry:aU y u) :
  KT H (kvs.map fun kv=>if kv.1=k then (kv.1,y) else kv) (xs.map (putAt k u)):=by
 induction r with
 | nil=>exact .nil
 | @cons p q ps qs h t ih=>
  rw [bc5,bc5]
  refine .cons ?_ ih
  obtain ⟨h1,h2,h3⟩:=h
  unfold putAt
  by_cases e:p.1=k
  ·rw [if_pos e,if_pos (h1.symm.trans e)]; exact⟨h1,h2,ry⟩
  ·rw [if_neg e,if_neg (fun z=>e (h1.trans z))]; exact⟨h1,h2,h3⟩
theorem KT.put {H:Hp}{kvs:List (List a9 × V)}{xs:List (List a9 × Addr × Value)} (r:KT H kvs xs) (k:List a9) {b:Addr}{y:V}{u:Value} (hb:H b=some (.tup (k.map kV))) (ry:aU y u) :
  KT H (dA kvs k y) (storedH xs k b u):=by
 have e:(kvs.any fun kv=>decide (kv.1=k))=(atKey xs k).isSome:=by
  rw [zB,(r.val k).isSome_eq,Option.isSome_map]
 unfold dA storedH
 rw [e]
 by_cases q:(atKey xs k).isSome=true
 ·rw [if_pos q,if_pos q]; exact r.repl k ry
 ·rw [if_neg q,if_neg q]; exact Paired.snoc r ⟨rfl,hb,ry⟩
theorem KT.keeps {H H':Hp}{kvs:List (List a9 × V)}{xs:List (List a9 × Addr × Value)} (r:KT H kvs xs) (ht:∀ b ys,H b=some (.tup ys)->H' b=some (.tup ys)):KT H' kvs xs:=
 Paired.mapP r fun _ _ z=>⟨z.1,ht _ _ z.2.1,z.2.2⟩
section
variable {P : Program} {w : World} {H : Hp} {h : Heap} {a : Addr}
theorem zD {u:HO} (ok:bL P w H h) (e:Rd H a u):bI P w H h a u:=e.ok ok
theorem mU {kvs:List (a9 × V)} (ok:bL P w H h) (e:Rd H a (.dK kvs)):kvs.length<=sizeLine/\(a == sysModules)=false/\∃ vs,KV kvs vs/\h.DictOf (dO P w) a vs:=
 show bI P w H h a (.dK kvs) from zD ok e
theorem t8 {kvs:List (a9 × V)} (ok:bL P w H h) (e:H a=some (.dK kvs)):kvs.length<=sizeLine/\(a == sysModules)=false/\∃ vs,KV kvs vs/\h.DictOf (dO P w) a vs:=mU ok (.inl e)
theorem mV {ks:List a9} (ok:bL P w H h) (e:H a=some (.tup (ks.map kV))):(tupleKind (dO P w)).is h ks a:=by
 obtain ⟨_,its,r,⟨o,h1,h2,n,h3⟩,_⟩:=(show bI P w H h a (.tup (ks.map kV)) from ok a _ e)
 exact⟨o,its.toArray,n,h1,h2,h3,by simpa using zC r⟩
theorem oS {kvs:List (List a9 × V)} (ok:bL P w H h) (e:Rd H a (.dT kvs)):kvs.length<=sizeLine/\(a == sysModules)=false/\
  ∃ xs,KT H kvs xs/\h.DictOfH (tupleKind (dO P w)) a xs:=by
 obtain ⟨z,y,xs,r,o,es,ep,h1,h2,h3,h4,h5⟩:=(show bI P w H h a (.dT kvs) from zD ok e)
 refine⟨z,y,xs,r,o,es,ep,h1,h2,h3,h4,fun x hx=>?_,h5⟩
 have all:∀ {l:List (List a9 × V)}{m:List (List a9 × Addr × Value)},KT H l m->∀ x ∈ m,(tupleKind (dO P w)).is h x.1 x.2.1:=by
  intro l m q
  induction q with
  | nil=>intro x hx; exact nomatch hx
  | @cons p q ps qs hq t ih=>
   intro x hx
   rcases aX9.mp hx with e | hx
   ·subst e
    exact mV ok (by rw [<- hq.1]; exact hq.2.1)
   ·exact ih x hx
 exact all r x hx
theorem zE {kvs:List (List a9 × V)} (ok:bL P w H h) (e:H a=some (.dT kvs)):kvs.length<=sizeLine/\(a == sysModules)=false/\
  ∃ xs,KT H kvs xs/\h.DictOfH (tupleKind (dO P w)) a xs:=oS ok (.inl e)
end
def gH (H:Hp) (a:Addr) (y:V) (r:Option V):Prop:=
 (∃ kvs k,Rd H a (.dK kvs)/\y=kV k/\r=e9 kvs k) ∨ ∃ kvs k b,Rd H a (.dT kvs)/\y = .ref b/\H b=some (.tup (k.map kV))/\r=e9 kvs k
def j9 (H:Hp) (a:Addr) (y v:V) (H':Hp):Prop:=
 (∃ kvs k,H a=some (.dK kvs)/\y=kV k/\kvs.length < sizeLine/\H'=upd H a (.dK (dA kvs k v))) ∨
 ∃ kvs k b,H a=some (.dT kvs)/\y = .ref b/\H b=some (.tup (k.map kV))/\kvs.length < sizeLine/\H'=upd H a (.dT (dA kvs k v))
theorem gH.k {H:Hp}{a:Addr}{kvs:List (a9 × V)}{k:a9} (e:H a=some (.dK kvs)):gH H a (kV k) (e9 kvs k):=.inl ⟨kvs,k,.inl e,rfl,rfl⟩
theorem gH.t {H:Hp}{a b:Addr}{kvs:List (List a9 × V)}{k:List a9} (e:H a=some (.dT kvs)) (eb:H b=some (.tup (k.map kV))):gH H a (.ref b) (e9 kvs k):=.inr ⟨kvs,k,b,.inl e,rfl,eb,rfl⟩
theorem j9.k {H:Hp}{a:Addr}{kvs:List (a9 × V)}{k:a9}{v:V} (e:H a=some (.dK kvs)) (hl:kvs.length < sizeLine):j9 H a (kV k) v (upd H a (.dK (dA kvs k v))):=.inl ⟨kvs,k,e,rfl,hl,rfl⟩
theorem j9.t {H:Hp}{a b:Addr}{kvs:List (List a9 × V)}{k:List a9}{v:V} (e:H a=some (.dT kvs)) (eb:H b=some (.tup (k.map kV))) (hl:kvs.length < sizeLine) :
  j9 H a (.ref b) v (upd H a (.dT (dA kvs k v))):=.inr ⟨kvs,k,b,e,rfl,eb,hl,rfl⟩
section
variable {X : Cx} {pins : List (Addr × Obj)} {σ : St} {H : Hp} {s : Shared} {a : Addr} {y v : V} {u r : Value} {o : Option V} {A : Around} {E : Value → Shared → Prop}
theorem a6.big (I:a6 X pins σ H s):sysModules < s.heap.objs.size:=by
 have h:mainGlobals < s.heap.objs.size:=(I.mod.glob.keeps I.bk).lt
 exact Nat.lt_trans (by decide) h
theorem ak7 {Q:Value->Shared->Prop} (hu:A.units+1 < cLine) (I:a6 X pins σ H s) (g:gH H a y o) (ry:aU y u) (h:∀ s',a6 X pins σ H s'->Q (.bool o.isSome) s') :
  wpAny (model X.prog X.w) A (compareOp .In u (.ref a)) Q E s:=by
 rcases g with ⟨kvs,k,e,ey,l⟩ | ⟨kvs,k,b,e,ey,eb,l⟩
 ·subst ey
  obtain ⟨z,hd,vs,rel,dd⟩:=mU I.hok e
  refine wpAny_in_of (oR ry) hd dd.mapOf ?_
  rw [<- (rel.val k).isSome_eq,<- l]
  exact h _ (I.tok _)
 ·subst ey
  cases (show u=Value.ref b from ry)
  obtain ⟨z,hd,xs,rel,dd⟩:=oS I.hok e
  refine wpAny_in_heap (tupleKind_room_in1 hu) (mV I.hok eb) hd dd ?_
  have q:=(rel.val k).isSome_eq
  rw [Option.isSome_map] at q
  rw [<- q,<- l]
  exact h _ (I.tok _)
theorem ak8 {Q:Value->Shared->Prop} (hu:A.units+1 < cLine) (I:a6 X pins σ H s) (g:gH H a y o) (ry:aU y u) (h:∀ s',a6 X pins σ H s'->Q (.bool (!o.isSome)) s') :
  wpAny (model X.prog X.w) A (compareOp .NotIn u (.ref a)) Q E s:=by
 rcases g with ⟨kvs,k,e,ey,l⟩ | ⟨kvs,k,b,e,ey,eb,l⟩
 ·subst ey
  obtain ⟨z,hd,vs,rel,dd⟩:=mU I.hok e
  refine wpAny_notIn_of (oR ry) hd dd.mapOf ?_
  rw [<- (rel.val k).isSome_eq,<- l]
  exact h _ (I.tok _)
 ·subst ey
  cases (show u=Value.ref b from ry)
  obtain ⟨z,hd,xs,rel,dd⟩:=oS I.hok e
  refine wpAny_notIn_heap (tupleKind_room_in1 hu) (mV I.hok eb) hd dd ?_
  have q:=(rel.val k).isSome_eq
  rw [Option.isSome_map] at q
  rw [<- q,<- l]
  exact h _ (I.tok _)
theorem oT {h':Heap}{t':Nat}{ob:HO} (I:a6 X pins σ H s) (mu:mF (H a)) (hs:Heap.SameBut a s.heap h') (he:∃ q,h'.get? a=some q) (new:bI X.prog X.w (upd H a ob) h' a ob) :
  a6 X pins σ (upd H a ob) { s with heap:=h',toks:=t' }:=
 I.write (x:=a) (e:=a) mu (.inl rfl) (fun b q hb z=>(hs.2 b hb).trans z) he new
theorem zF {P:Program}{w:World}{H':Hp}{h':Heap}{kvs:List (a9 × V)}{vs:List (a9 × Value)} (z:kvs.length<=sizeLine) (hd:(a == sysModules)=false) (rel:KV kvs vs) (dd:h'.DictOf (dO P w) a vs) :
  bI P w H' h' a (.dK kvs):=⟨z,hd,vs,rel,dd⟩
theorem ak9 {H':Hp}{Q:Unit->Shared->Prop} (hu:A.units+1 < cLine) (I:a6 X pins σ H s) (g:j9 H a y v H') (ry:aU y u) (rv:aU v r) (h:∀ s',a6 X pins σ H' s'->Q () s') :
  wpAny (model X.prog X.w) A (setItem (.ref a) u r) Q E s:=by
 rcases g with ⟨kvs,k,e,ey,l,eH⟩ | ⟨kvs,k,b,e,ey,eb,l,eH⟩
 ·subst ey eH
  obtain ⟨z,hd,vs,rel,dd⟩:=t8 I.hok e
  have hz:vs.length<=sizeLine:=by rw [<- rel.length]; exact z
  have hl:(dA kvs k v).length<=sizeLine:=by have:=t7 kvs k v; omega
  refine wpAny_setItem_pairs (hsz:=hz) (oR ry) dd fun h' dd' hs=>h _ ?_
  have he:∃ q,h'.get? a=some q:=let ⟨q,_,_,hq,_⟩:=dd'; ⟨q,hq⟩
  exact oT I (by rw [e]; exact bl6) hs he (zF hl hd (rel.put k rv) dd')
 ·subst ey eH
  cases (show u=Value.ref b from ry)
  obtain ⟨z,hd,xs,rel,dd⟩:=zE I.hok e
  have hz:xs.length<=sizeLine:=by rw [<- Paired.length rel]; exact z
  have hl:(dA kvs k v).length<=sizeLine:=by have:=t7 kvs k v; omega
  refine wpAny_setItem_heap (hsz:=hz) (tupleKind_room_in1 hu) (mV I.hok eb) dd fun h' dd' hs=>h _ ?_
  obtain ⟨q,es,ep,hq,h2,h3,h4,_,h5⟩:=dd'
  refine oT I (by rw [e]; exact bl6) hs ⟨q,hq⟩ ⟨hl,hd,_,(rel.put k eb rv).keeps fun c ys ec=>?_,q,es,ep,hq,h2,h3,h4,h5⟩
  rw [aV (x8 ec e (fun z=>nomatch z))]
  exact ec
end
section
variable {X : Cx} {pins : List (Addr × Obj)} {σ : St} {H : Hp} {s : Shared} {a : Addr} {kvs : List (a9 × V)} {k : a9} {u : Value} {A : Around} {E : Value → Shared → Prop}
theorem al0 {Q:Value->Shared->Prop} (I:a6 X pins σ H s) (e:Rd H a (.dK kvs)) (h:∀ t s',a6 X pins σ H s'->Q (.int kvs.length t) s'):wpAny (model X.prog X.w) A (call (.builtin "len") [.ref a]) Q E s:=by
 obtain ⟨z,hd,vs,rel,dd⟩:=mU I.hok e
 refine call_len_dict hd dd (by rw [<- rel.length]; rw [sizeLine_eq] at z; omega) ?_
 rw [<- rel.length]
 exact h _ _ (I.tok _)
end
def zG (ty td:TE):TE:=fun σ H Q=>ty σ H fun y H1=>td σ H1 fun x H2=>∃ a o,x = .ref a/\gH H2 a y o/\Q (.bl o.isSome) H2
def zH (ty td:TE):TE:=fun σ H Q=>ty σ H fun y H1=>td σ H1 fun x H2=>∃ a o,x = .ref a/\gH H2 a y o/\Q (.bl (!o.isSome)) H2
def t9 (td ty tv:TE):TS:=fun D σ H=>tv σ H fun v H1=>td σ H1 fun x H2=>ty σ H2 fun y H3=>∃ a H4,x = .ref a/\j9 H3 a y v H4/\D.nx σ H4
section
variable {X : Cx} {o i e value : Expr} {pos pos' tpos : Pos} {td ty tv : TE}
theorem al1 (hu:X.A.units+1 < cLine) (hi:PE X i ty) (ho:PE X o td):PC X .In i o (zG ty td):=by
 intro pins s σ H Q I h
 refine aP (hi pins s σ H _ I h) fun iv s1 ⟨y,H1,I1,ry,q1⟩=>aP (ho pins s1 σ H1 _ I1 q1) fun u s2 ⟨x,H2,I2,rx,a,ov,ex,g,q2⟩=>?_
 subst ex
 obtain rfl:u=Value.ref a:=rx
 exact ak7 hu I2 g ry fun s3 I3=>⟨.bl ov.isSome,H2,I3,rfl,q2⟩
theorem zI (hu:X.A.units+1 < cLine) (hi:PE X i ty) (ho:PE X o td):PC X .NotIn i o (zH ty td):=by
 intro pins s σ H Q I h
 refine aP (hi pins s σ H _ I h) fun iv s1 ⟨y,H1,I1,ry,q1⟩=>aP (ho pins s1 σ H1 _ I1 q1) fun u s2 ⟨x,H2,I2,rx,a,ov,ex,g,q2⟩=>?_
 subst ex
 obtain rfl:u=Value.ref a:=rx
 exact ak8 hu I2 g ry fun s3 I3=>⟨.bl (!ov.isSome),H2,I3,rfl,q2⟩
theorem zJ (hu:X.A.units+1 < cLine) (ho:PE X o td) (hi:PE X i ty) (hv:PE X value tv) (hs:swapsWith value (some (.Subscript o i pos')) pos.line X.env=pure false) :
  PS X (.Assign [.Subscript o i pos'] value pos) (t9 td ty tv):=by
 intro pins s σ H D I h
 refine wpAny_Assign_Subscript (aP (hv pins s σ H _ I h) fun r s1 ⟨v,H1,I1,rv,q1⟩=>aP (ho pins s1 σ H1 _ I1 q1) fun u s2 ⟨x,H2,I2,rx,q2⟩=>aP (hi pins s2 σ H2 _ I2 q2) fun iv s3 ⟨y,H3,I3,ry,a,H4,ex,g,q3⟩=>?_) hs
 subst ex
 obtain rfl:u=Value.ref a:=rx
 exact ak9 hu I3 g ry rv fun s4 I4=>⟨σ,H4,I4,q3⟩
end
theorem al2 {P:Program}{w:World}{H:Hp} (h:Heap) (hb:sysModules < h.objs.size):bI P w H (h.push { cls:=.type "dict",data:=.dict #[] }) h.objs.size (.dK []):=
 ⟨bc6 _,beq_eq_false_iff_ne.mpr (Ne.symm (ba2 hb)),[],.nil,Heap.DictOf.new h⟩
theorem al3 {P:Program}{w:World}{H:Hp} (h:Heap) (hb:sysModules < h.objs.size):bI P w H (h.push { cls:=.type "dict",data:=.dict #[] }) h.objs.size (.dT []):=
 ⟨bc6 _,beq_eq_false_iff_ne.mpr (Ne.symm (ba2 hb)),[],.nil,_,#[],0,aY8 _ rfl,⟨rfl,rfl,rfl⟩,rfl,rfl,List.nodup_nil⟩
def zK:TE:=fun _ H Q=>∀ p,H p=none->Q (.ref p) (upd H p (.dK []))
def zL:TE:=fun _ H Q=>∀ p,H p=none->Q (.ref p) (upd H p (.dT []))
section
variable {X : Cx} {pos : Pos}
theorem al4:PE X (.Dict [] [] pos) zK:=fun pins s σ H Q I h=>
 wpAny_Dict_empty ⟨.ref s.heap.objs.size,_,I.laid (a:=s.heap.objs.size) (o:=.dK []) (t':=s.toks) (fun _ _ q=>aX2 _ q) (aX7 _) (al2 s.heap I.big),rfl,h _ (I.hok.fresh (aX7 _))⟩
theorem al5:PE X (.Dict [] [] pos) zL:=fun pins s σ H Q I h=>
 wpAny_Dict_empty ⟨.ref s.heap.objs.size,_,I.laid (a:=s.heap.objs.size) (o:=.dT []) (t':=s.toks) (fun _ _ q=>aX2 _ q) (aX7 _) (al3 s.heap I.big),rfl,h _ (I.hok.fresh (aX7 _))⟩
end
def k7 (kvs more:List (a9 × V)):List (a9 × V):=more.foldl (fun acc kv=>dA acc kv.1 kv.2) kvs
theorem KV.merge:∀ {more:List (a9 × V)}{rs:List (a9 × Value)}{kvs:List (a9 × V)}{vs:List (a9 × Value)},KV more rs->KV kvs vs->KV (k7 kvs more) (merged vs rs):=by
 intro more rs kvs vs r
 unfold KV at r
 induction r generalizing kvs vs with
 | nil=>intro q; exact q
 | @cons p q ps qs h t ih=>
  intro r0
  have e:KV (dA kvs p.1 p.2) (stored vs q.1 q.2):=by
   have:=r0.put p.1 h.2
   rw [<- h.1]; exact this
  exact ih e
theorem zM:∀ (more kvs:List (a9 × V)),(k7 kvs more).length<=kvs.length+more.length
 | [],kvs=>by show kvs.length<=kvs.length+0; omega
 | p :: r,kvs=>by
  have h1:=zM r (dA kvs p.1 p.2)
  have h2:=t7 kvs p.1 p.2
  show (k7 (dA kvs p.1 p.2) r).length<=_
  rw [aZ7]; omega
structure M1 (X:Cx) (o:Expr) (m:Str) (apos:Pos) (e:Expr) (cpos:Pos):Prop where
 base:attributeBase o m X.env (eval o X.env)=eval o X.env
 few:((backTo cpos (starEach [e] X.env)).all (fun x=>!x.1) && (backToKw cpos (keywordEach [] X.env)).all (fun x=>x.1.isSome)
  && decide (([e]:List Expr).length+([]:List Keyword).length+(if ([]:List Keyword).isEmpty then 0 else 1) < 30))=true
 line:(apos.endLine == cpos.line)=true
 trees:backTo cpos (starEach [e] X.env) = [(false,eval e X.env)]
structure M2 (X:Cx) (o:Expr) (m:Str) (apos:Pos) (e f:Expr) (cpos:Pos):Prop where
 base:attributeBase o m X.env (eval o X.env)=eval o X.env
 few:((backTo cpos (starEach [e,f] X.env)).all (fun x=>!x.1) && (backToKw cpos (keywordEach [] X.env)).all (fun x=>x.1.isSome)
  && decide (([e,f]:List Expr).length+([]:List Keyword).length+(if ([]:List Keyword).isEmpty then 0 else 1) < 30))=true
 line:(apos.endLine == cpos.line)=true
 trees:backTo cpos (starEach [e,f] X.env) = [(false,eval e X.env),(false,eval f X.env)]
def tD (H:Hp) (a:Addr):Prop:=(∃ kvs,Rd H a (.dK kvs)) ∨ ∃ kvs,Rd H a (.dT kvs)
theorem zN {X:Cx}{pins:List (Addr × Obj)}{σ:St}{H:Hp}{s:Shared}{a:Addr} (I:a6 X pins σ H s) (d:tD H a) :
  s.TypeIs (.ref a) "dict"/\(∀ b,Value.ref a = .ref b->∃ ob,s.heap.get? b=some ob/\ob.dict=none)/\(a == sysModules)=false:=by
 rcases d with ⟨kvs,e⟩ | ⟨kvs,e⟩
 ·obtain ⟨_,hd,vs,_,dd⟩:=mU I.hok e
  refine⟨dd.typeIs,fun b q=>?_,hd⟩
  cases q
  obtain ⟨ob,_,_,h1,h2,_⟩:=dd
  exact⟨ob,h1,h2.2.1⟩
 ·obtain ⟨_,hd,xs,_,dd⟩:=oS I.hok e
  refine⟨dd.typeIs,fun b q=>?_,hd⟩
  cases q
  obtain ⟨ob,_,_,h1,h2,_⟩:=dd
  exact⟨ob,h1,h2.2.1⟩
end L2
namespace Att
open PySem PySem.W PySem.Calls PyProof.Rows
theorem al6 {P:Params}{h:Heap}:∀ (ns:List Int) (vs:List Value),WellAll P h vs (ns.map WData.int)->IntsAre vs ns:=by
 intro ns
 induction ns with
 | nil=>
  intro vs w
  rw [List.map_nil] at w
  cases w
  exact .nil
 | cons n ns ih=>
  intro vs w
  rw [bc5] at w
  cases w with
  | cons a b=>
   cases a
   exact .cons _ _ (ih _ b)
theorem zO {l:OpenLaw}{n:Nat} (hn:l.most=some n) {P:Params}{h:Heap}{args:List WData}{vals:List Value}
  (hpre:l.row.toRowW.claim.pre args=true) (hwl:WellAll P h vals args) :
  ∃ a vs ns,vals = [Value.ref a]/\args = [WData.list (ns.map WData.int)]/\h.get? a=some { cls:=.type "list",data:=.seq vs.toArray }/\IntsAre vs ns/\ns.length<=n:=by
 have hsh:WShape.hasAll [] args [.list .int]=true:=(pre_splitW hpre).1
 have hc:l.pre.holds [] { args:=args }=true:=(pre_splitW hpre).2
 obtain ⟨d,r,rfl,h1,h2⟩:=hasAllW_cons hsh
 obtain rfl:=hasAllW_nil h2
 obtain ⟨xs,rfl,h3⟩:=hasW_list h1
 obtain ⟨ns,rfl⟩:=items_int h3
 have hlen:ns.length<=n:=by
  unfold OpenLaw.pre at hc
  have h4:(WTm.not (.lt (.lit (.int (n:Int))) (.len (.arg 0)))).holds [] { args:=[.list (ns.map .int)] }=true:=by
   have h4:=(holds_andW hc).1
   rw [hn] at h4
   exact h4
  have h5:=condW_of h4 (w_not (w_lt w_lit (w_len_list (w_arg rfl))))
  rw [aY0] at h5
  refine bk2 fun q=>?_
  have q':(n:Int) < ((ns.length:Nat):Int):=by omega
  first
   | (rw [aX4 q'] at h5; exact absurd h5 (by decide))
   | (simp at h5; omega)
 cases hwl with
 | cons w1 w2=>
  cases w2
  cases w1 with
  | list ho hall=>exact⟨_,_,ns,rfl,rfl,ho,al6 ns _ hall,hlen⟩
theorem zP (l:OpenLaw) (args:List WData):l.row.toRowW.claim.post args (.bool true) args=true:=
 postW_of (r:=l.row.toRowW) (X:=(true == true))
  (show WShape.has [] (.bool true) .bool=true by first | rfl | decide | simp [WShape.has,WShape.arms,WShape.armsAll])
  (show (WTm.eq .res (.lit (.bool true))).value [] { args:=args,res:=some (.bool true),after:=args }=some (.bool (true == true)) from w_eq_bool (w_res rfl) w_lit) rfl
theorem aW9 {l:OpenLaw}{n:Nat}{q:Program}{loose:List Str}{XP:(Str->Option Value)->Heap->Prop}{YP:World->Heap->Prop}{d:DefRec}{x:Str}
  (hn:l.most=some n) (hdf:d.params.defaults = [])
  (hbind:∀ pm cd doc v:Value,bindArgs (docDef d.name d.params d.body d.scope pm cd doc) ⟨[v],[]⟩=pure [(x,v)])
  (hx:d.scope.names.lookup x=some .local ∨ d.scope.names.lookup x=some .cell)
  (hk:d.scope.kind = .function) (hco:d.scope.isCoroutine=false) (hgen:d.scope.isGenerator=false)
  (body:∀ (w:World) (s₀ s₁ s:Shared) (mg mb:Str->Option Value) (fa:Addr) (o:Obj) (pm cd doc:Value) (a:Addr) (vs:List Value) (ns:List Int),
   Ground q loose [] XP w s₀ mg mb s₁.heap->YP w s₁.heap->
   s₁.heap.get? fa=some o->o.data = .func (docDef d.name d.params d.body d.scope pm cd doc)->s₁.heap.CodeRec cd d.name->mg d.name=some (.ref fa)->
   s₁.heap.get? a=some { cls:=.type "list",data:=.seq vs.toArray }->IntsAre vs ns->ns.length<=n->
   s.gens = #[]->s.os=s₁.os->
   Fr s₁.heap s₁.heap.objs.size s.heap (bindL (envOfC d.name d.scope s₁.heap.objs.size fa cd).kindOf [(x,.ref a)] fun _=>none)->
   Cl s₁.heap.objs.size (cellsFrom (s₁.heap.objs.size+1) d.scope.names []) s.heap (bindC (envOfC d.name d.scope s₁.heap.objs.size fa cd).kindOf [(x,.ref a)] fun _=>none)->
   wpAny (model l.prog w) (callerA.deeper (envOfC d.name d.scope s₁.heap.objs.size fa cd)) (execs d.body (envOfC d.name d.scope s₁.heap.objs.size fa cd))
    (fun f s'=>f = .ret (.bool true)/\OldK s₁.heap s'.heap/\s'.os=s₁.os/\AllBare s'.gens) (fun _ _=>False) s) :
  WalkO q loose XP YP l.row.toRowW d [] (fun f vs=>PySem.call f vs):=by
 intro w s₀ s₁ mg mb G Y fa o pm cd doc dV kV ho hd hcd hD hmg hg args vals as hpre hlay hrd hwl hlo
 obtain rfl:dV = .none:=Dflts.none hD hdf
 obtain rfl:kV = .none:=Dflts.noKw hD
 obtain ⟨a,vs,ns,rfl,rfl,hobj,hints,hlen⟩:=zO hn hpre hwl
 refine enter_call ?_
 refine call_cells_ret (o:=o) (by rw [depth_caller]; decide) ho (fd_plain hd) G.T.nolimit hcd (hbind pm cd doc (.ref a)) (fun y hy=>?_) (fun h₁ tk F X=>?_) hco hgen hk
 ·obtain rfl:y=(x,Value.ref a):=aY3.mp hy
  rcases hx with e | e
  ·exact .inl e
  ·exact .inr ⟨e,cellsFrom_some _ _ _ (.inl e)⟩
 ·refine bg0 (body w s₀ s₁ { s₁ with heap:=h₁,toks:=tk } mg mb fa o pm cd doc a vs ns G Y ho (fd_plain hd) hcd hmg hobj hints hlen hg rfl F X) (fun f s' hq=>?_) (fun _ _ hq=>hq)
  obtain ⟨rfl,h2,h3,h4⟩:=hq
  exact⟨.inl ⟨.bool true,.bool true,[],rfl,fun _=>rfl,.bool true,zP l _,fun _=>⟨List.Pairwise.nil,fun _ hm=>(nomatch hm)⟩⟩,h2,h3,h4⟩
theorem al7 {l:OpenLaw}{n:Nat}{q:Program}{loose:List Str}{XP:(Str->Option Value)->Heap->Prop}{YP:World->Heap->Prop}{d:DefRec}
  (hn:l.most=some n) (hdf:d.params.defaults = [])
  (call:∀ (w:World) (s₀ s₁:Shared) (mg mb:Str->Option Value) (fa:Addr) (o:Obj) (pm cd doc:Value) (a:Addr) (vs:List Value) (ns:List Int),
   Ground q loose [] XP w s₀ mg mb s₁.heap->YP w s₁.heap->
   s₁.heap.get? fa=some o->o.data = .func (docDef d.name d.params d.body d.scope pm cd doc)->s₁.heap.CodeRec cd d.name->mg d.name=some (.ref fa)->
   s₁.heap.get? a=some { cls:=.type "list",data:=.seq vs.toArray }->IntsAre vs ns->ns.length<=n->s₁.gens = #[]->
   codeAny (model l.prog w) callerA (.call (.ref fa) ⟨[.ref a],[]⟩) (fun r s'=>r = .ok (.ret (.bool true))/\OldK s₁.heap s'.heap/\s'.os=s₁.os/\AllBare s'.gens) s₁) :
  WalkO q loose XP YP l.row.toRowW d [] (fun f vs=>PySem.call f vs):=by
 intro w s₀ s₁ mg mb G Y fa o pm cd doc dV kV ho hd hcd hD hmg hg args vals as hpre hlay hrd hwl hlo
 obtain rfl:dV = .none:=Dflts.none hD hdf
 obtain rfl:kV = .none:=Dflts.noKw hD
 obtain ⟨a,vs,ns,rfl,rfl,hobj,hints,hlen⟩:=zO hn hpre hwl
 refine enter_call (codeAny_mono (call w s₀ s₁ mg mb fa o pm cd doc a vs ns G Y ho (fd_plain hd) hcd hmg hobj hints hlen hg) fun r s' hq=>?_)
 obtain ⟨rfl,h2,h3,h4⟩:=hq
 exact⟨.inl ⟨.bool true,.bool true,[],rfl,fun _=>rfl,.bool true,zP l _,fun _=>⟨List.Pairwise.nil,fun _ hm=>(nomatch hm)⟩⟩,h2,h3,h4⟩
end Att
namespace L2
open PySem PySem.Spec PyProof.Rows
theorem tE:∀ {vs:List Value}{ns:List Int},IntsAre vs ns->aI (ns.map V.int) vs
 | _,_,.nil=>.nil
 | _,_,.cons n t h=>.cons ⟨t,rfl⟩ (tE h)
def oU (H:Hp):Prop:=∀ b,H b=none ∨ ∃ o xs,H b=some (.frz o (.lst xs))
theorem al8 {P:Program}{w:World}{K:PySem.W.Frag}{mg mb:Str->Option Value}{CX:fU}{k:Nat}{fa a:Addr}{fd:FuncData}{x:Str}{sp:Sp}{s₁:Shared}{vs:List Value}{ns:List Int}
  (KX:K.In s₁.heap) (hns:s₁.heap.Ns mainGlobals mg) (hb:s₁.heap.Ns builtinsNs mb) (hbb:∀ x:Str,x ≠ "__name__"->mb x=bootBuiltins x) (hlim:s₁.heap.NoLimit) (hg:s₁.gens = #[])
  (ha:s₁.heap.get? a=some { cls:=.type "list",data:=.seq vs.toArray }) (hi:IntsAre vs ns) (hl:ns.length<=sizeLine) (hr:bZ k callerA)
  (F:∀ base:Heap,K.In base->base.Ns mainGlobals mg->cT P w K mg base CX k fa fd [x] sp) (hbind:∀ (s:Shared) (u:Value),BindsTo s fd ⟨[u],[]⟩ [(x,u)])
  (hsp:∀ H:Hp,oU H->aJ K H a (ns.map V.int)->sp [.ref a] H (fun v _=>v = .bl true) fun _ _ _=>False)
  (hCX:∀ H e s',CX [] H s₁ (fun _ _ _=>False) e s'->False) :
  codeAny (model P w) callerA (.call (.ref fa) ⟨[.ref a],[]⟩) (fun r s'=>r = .ok (.ret (.bool true))/\OldK s₁.heap s'.heap/\s'.os=s₁.os/\AllBare s'.gens) s₁:=by
 have rv:=tE hi
 have lenV:=hi.length
 have core:∀ H:Hp,oU H->aJ K H a (ns.map V.int)->bL P w H s₁.heap->(∀ b,H b ≠ none->b=a)->(H a ≠ none->K.lookup a=none)->
   codeAny (model P w) callerA (.call (.ref fa) ⟨[.ref a],[]⟩) (fun r s'=>r = .ok (.ret (.bool true))/\OldK s₁.heap s'.heap/\s'.os=s₁.os/\AllBare s'.gens) s₁:=by
  intro H hO hS hok hA hK
  have base_of:∀ {b:Addr}{o:Obj},s₁.heap.get? b=some o->H b=none->(iA s₁.heap H).get? b=some o:=fun e n=>ab0 e n
  have noA:∀ {b:Addr}{o:Obj}{es:Array DictEntry}{ep:Nat},s₁.heap.get? b=some o->o.data = .dict es ep->H b=none:=fun {b o es ep} e d=>by
   cases q:H b with
   | none=>rfl
   | some u=>
    have e':b=a:=hA b (by rw [q]; simp)
    subst e'
    rw [ha] at e; cases e
    have d':Data.seq vs.toArray _=Data.dict es ep:=d
    cases d'
  have nsK:∀ {b:Addr}{m:Str->Option Value},s₁.heap.Ns b m->(iA s₁.heap H).Ns b m:=fun {b m} ⟨o,es,ep,e,d,r⟩=>⟨o,es,ep,base_of e (noA e d),d,r⟩
  have hKb:K.In (iA s₁.heap H):=fun b o e=>base_of (KX b o e) (by
   cases q:H b with
   | none=>rfl
   | some u=>
    have e':b=a:=hA b (by rw [q]; simp)
    subst e'
    rw [hK (by rw [q]; simp)] at e; cases e)
  have hM:Mod K mg (iA s₁.heap H):=⟨hKb,nsK hns,⟨mb,nsK hb,hbb⟩,let ⟨mc,h1,h2⟩:=hlim; ⟨mc,nsK h1,h2⟩⟩
  have e0:oO P w K mg (iA s₁.heap H) callerA [] s₁ H:=⟨rfl,hM,fun b o e=>ab1 e,Nat.le_of_eq (aa9 _ _),trivial,fun b hb=>absurd (show b ∈ ([]:List Addr) from hb) (by simp),hok,.of_eq hg⟩
  refine codeAny_mono ((F _ hKb (nsK hns)).run callerA [] s₁ H ⟨[.ref a],[]⟩ [.ref a] [.ref a] _ _ hr e0 (hbind s₁ (.ref a)) (.cons rfl .nil) (hsp H hO hS)) fun r s' h=>?_
  cases r with
  | error e=>exact (hCX H e s' h).elim
  | ok fl=>
   cases fl with
   | next=>exact False.elim h
   | brk=>exact False.elim h
   | cont=>exact False.elim h
   | ret u=>
    obtain ⟨v,H',os,bare,un,hok',r',q⟩:=h
    have q':v = .bl true:=q
    subst q'
    obtain rfl:u=Value.bool true:=r'
    refine⟨rfl,OldK.of_keep fun b o e=>?_,os,bare⟩
    cases q:H b with
    | none=>exact un.keep b o e q (by intro z; exact absurd (show b ∈ ([]:List Addr) from z) (by simp)) (by simp)
    | some u=>
     rcases hO b with z | ⟨ob,xs,z⟩
     ·rw [q] at z; cases z
     ·have z2:=un.frzs b ob _ z
      obtain ⟨e1,_⟩:=hok b _ z
      obtain ⟨e2,_⟩:=hok' b _ z2
      rw [e] at e1; cases e1
      exact e2
 cases hk:K.lookup a with
 | some o=>
  have e:=KX a o hk
  rw [ha] at e
  cases e
  refine core (fun _=>none) (fun _=>.inl rfl) (.inr ⟨_,vs.toArray,_,hk,rfl,rfl,rfl,by rw [aX6,lenV]; exact hl,by simpa using rv⟩) (fun b u z=>by have z':(none:Option HO)=some u:=z; cases z') (fun b z=>absurd rfl z) fun z=>absurd rfl z
 | none=>
  refine core (fun b=>if b=a then some (.frz { cls:=.type "list",data:=.seq vs.toArray } (.lst (ns.map V.int))) else none) (fun b=>?_) (.inl (.inr ⟨{ cls:=.type "list",data:=.seq vs.toArray },if_pos rfl⟩)) (fun b u z=>?_) (fun b z=>?_) fun _=>hk
  ·by_cases hb:b=a
   ·exact .inr ⟨_,_,if_pos hb⟩
   ·exact .inl (if_neg hb)
  ·by_cases hb:b=a
   ·have z':=(if_pos hb).symm.trans z
    cases z'
    subst hb
    exact⟨ha,by rw [aY0]; exact hl,vs,_,rv,ha⟩
   ·have z':=(if_neg hb).symm.trans z
    cases z'
  ·by_cases hb:b=a
   ·exact hb
   ·exact absurd (if_neg hb) z
theorem al9 {l:PySem.W.OpenLaw}{n k:Nat}{q:Program}{loose:List Str}{XP:(Str->Option Value)->Heap->Prop}{YP:World->Heap->Prop}{d:DefRec}{K:Params->PySem.W.Frag}{CX:World->fU}{sp:World->Sp}{x:Str}
  (hn:l.most=some n) (hn2:n<=sizeLine) (hdf:d.params.defaults = []) (hr:bZ k callerA)
  (hY:∀ (w:World) (h:Heap),YP w h->(K w.params).In h)
  (F:∀ (w:World) (mg:Str->Option Value) (fa:Addr) (h:Heap),(K w.params).In h->h.Ns mainGlobals mg->mg d.name=some (.ref fa)->
   ∃ fd:FuncData,(∀ (s:Shared) (u:Value),BindsTo s fd ⟨[u],[]⟩ [(x,u)])/\
    ∀ base:Heap,(K w.params).In base->base.Ns mainGlobals mg->cT l.prog w (K w.params) mg base (CX w) k fa fd [x] (sp w))
  (hsp:∀ (w:World) (H:Hp) (a:Addr) (ns:List Int),ns.length<=n->oU H->aJ (K w.params) H a (ns.map V.int)->sp w [.ref a] H (fun v _=>v = .bl true) fun _ _ _=>False)
  (hCX:∀ (w:World) (H:Hp) (s:Shared) (e:Value) (s':Shared),CX w [] H s (fun _ _ _=>False) e s'->False) :
  PySem.W.WalkO q loose XP YP l.row.toRowW d [] (fun f vs=>PySem.call f vs):=by
 refine Att.al7 hn hdf fun w s₀ s₁ mg mb fa o pm cd doc a vs ns G Y ho hd hcd hmg hobj hints hlen hg=>?_
 have KX:=hY w _ Y
 obtain ⟨fd,hb,hF⟩:=F w mg fa _ KX G.T.g hmg
 exact al8 KX G.T.g G.T.b G.T.builtins G.T.nolimit hg hobj hints (bb5 hlen hn2) hr hF hb (fun H hO hS=>hsp w H a ns hlen hO hS) fun H e s'=>hCX w H s₁ e s'
def iI (s:Stmt):Arguments:=match s with
 | .FunctionDef _ a _ _ _ _ _ _ _ _=>a
 | _=>{ posonlyargs:=[],args:=[],vararg:=none,kwonlyargs:=[],kw_defaults:=[],kwarg:=none,defaults:=[] }
def dP (s:Stmt):List Stmt:=match s with
 | .FunctionDef _ _ b _ _ _ _ _ _ _=>b
 | _=>[]
def aR (s:Stmt):Scope:=match s with
 | .FunctionDef _ _ _ _ _ _ sc _ _ _=>sc
 | _=>{ kind:=.function,names:=[],isGenerator:=false,isCoroutine:=false }
abbrev dJ:fU:=fun _ _ _ _ _ _=>False
abbrev E0:XK:=fun _ _ _=>False
theorem am0 {X:Cx}:mO dJ X E0:=fun _ _ _ _ _ _ _ h=>h.elim
structure eR (K:PySem.W.Frag) (x qual:Str) (st:Stmt) (f:Addr) (fd:FuncData):Prop where
 ex:∃ (oc:Value) (od:Option Addr) (kV doc pm:Value) (an:Option Addr) (cdv ct:Value) (osl:Array (Option Value)),
  fd=PySem.W.fnOf x qual (iI st) (dP st) (aR st) .none kV doc pm an cdv ct/\K.lookup f=some ⟨oc,od,.func fd,osl⟩/\PySem.W.codeIn K cdv qual=true
 kp:PySem.W.keepIn K (.ref f)=true
section
variable {P : Program} {w : World} {K : PySem.W.Frag} {mg : Str → Option Value} {base : Heap}
theorem eR.ok {x qual:Str}{st:Stmt}{f:Addr}{fd:FuncData}{N ps:List Str}{k:Nat}{sp:Sp} (F:eR K x qual st f fd) (S:FnScope N ps (aR st)) (len:∀ vs H Q E,sp vs H Q E->vs.length=ps.length)
  (hbody:∀ (cdv:Value) (A:Around) (outer:List Env) (s:Shared) (H:Hp) (vs:List V) (Q:VK) (E:XK),bZ k (A.deeper (envOfC qual (aR st) s.heap.objs.size f cdv))->sp vs H Q E->
   ∃ t,dH (cU dJ P w K mg base N qual (aR st) f cdv A outer s H E).nox (dP st) t/\t { nx:=fun _ H'=>Q .non H',rt:=Q } (fV N vs) H):cT P w K mg base dJ (k+1) f fd ps sp:=by
 obtain ⟨oc,od,kV,doc,pm,an,cdv,ct,osl,rfl,lk,hcd⟩:=F.ex
 refine yL lk hcd S len fun A outer s H vs Q E hr hsp=>?_
 obtain ⟨t,h,q⟩:=hbody cdv A outer s H vs Q E hr hsp
 exact⟨t,h.nox,q⟩
theorem eR.binds {x qual:Str}{st:Stmt}{f:Addr}{fd:FuncData}{ps:List Str} (F:eR K x qual st f fd)
  (h:∀ (kV doc pm:Value) (an:Option Addr) (cdv ct:Value) (us:List Value),us.length=ps.length->bindArgs (PySem.W.fnOf x qual (iI st) (dP st) (aR st) .none kV doc pm an cdv ct) ⟨us,[]⟩=pure (ps.zip us)):iF K fd ps []:=by
 obtain ⟨oc,od,kV,doc,pm,an,cdv,ct,osl,rfl,lk,hcd⟩:=F.ex
 exact .all (h kV doc pm an cdv ct)
theorem am1 {x qual:Str}{st:Stmt}{f:Addr}{oc:Value}{od an:Option Addr}{osl:Array (Option Value)}{kV doc pm cdv ct:Value} (l:K.lookup f=some ⟨oc,od,.func (PySem.W.fnOf x qual (iI st) (dP st) (aR st) .none kV doc pm an cdv ct),osl⟩)
  (c:PySem.W.codeIn K cdv qual=true) (k:PySem.W.keepIn K (.ref f)=true):eR K x qual st f (PySem.W.fnOf x qual (iI st) (dP st) (aR st) .none kV doc pm an cdv ct):=⟨⟨oc,od,kV,doc,pm,an,cdv,ct,osl,rfl,l,c⟩,k⟩
end
theorem jA {A:Around}{k:Nat} (hr:bZ k A):A.units+1 < cLine:=Nat.lt_of_le_of_lt (Nat.add_le_add_left (by decide:1<=64) _) hr.units
theorem tF {n:Nat} (h:n<=1000):n < sizeLine:=Nat.lt_of_le_of_lt h (by decide)
section
variable {X : Cx}
theorem pv (i:Nat) {x:Str}{pos:Pos} (hN:X.N[i]? = some x:=by rfl) (hv:gD X.env.scope x:=by first | exact Or.inl rfl | exact Or.inr (Or.inl rfl) | exact Or.inr (Or.inr rfl)) (hd:(x == ("__debug__" : Str))=false:=by decide)
  (hcd:(x == ("__classdict__" : Str))=false:=by decide):PE X (.Name x pos) (iC i):=j5 hN hv hd hcd
theorem am2:cH X (.builtin "len") (fun xs H Q=>∃ a kvs,xs = [V.ref a]/\H a=some (.dK kvs)/\Q (.int kvs.length) H):=by
 intro pins s σ H xs us Q I r h
 obtain ⟨a,kvs,rfl,ha,q⟩:=h
 obtain ⟨u,rfl,ru⟩:=fS r
 cases ru
 exact al0 I (.inl ha) fun t s' I'=>⟨.int kvs.length,H,I',⟨t,rfl⟩,q⟩
end
theorem aS {A B:Prop} (h:B):if false=true then A else B:=by
 rw [if_neg aZ0]
 exact h
theorem b6 {A B:Prop} (h:A):if true=true then A else B:=by
 rw [if_pos rfl]
 exact h
def aD (H H':Hp):Prop:=∀ b o,H b=some o->H' b=some o
theorem aD.refl (H:Hp):aD H H:=fun _ _ h=>h
theorem aD.trans {H H1 H2:Hp} (a:aD H H1) (b:aD H1 H2):aD H H2:=fun c o h=>b c o (a c o h)
theorem aD.free {H H':Hp} (e:aD H H') {l:Addr} (h:H' l=Option.none):H l=Option.none:=by
 cases q:H l with
 | none=>rfl
 | some o=>
  rw [e l o q] at h
  cases h
def dL (cells:List (Str × Addr)):List (Str × NameKind)->List (Str × Addr)->List (Str × Addr)
 | [],cs=>cs
 | (n,k) :: r,cs=>dL cells r (if k == .free then (n,(cells.lookup n).getD 0) :: cs else cs)
theorem tG {env:Env}:∀ (ns:List (Str × NameKind)) (cs:List (Str × Addr)),(∀ x ∈ ns,x.2 = .free->∃ c,env.cells.lookup x.1=some c)->
  (forIn ns cs (fun (x:Str × NameKind) r=>(match x with
   | (name,kind)=>if (kind == .free)=true then (do let y <- cellOf env name; pure (ForInStep.yield ((name,y) :: r))) else pure (ForInStep.yield r)):_->_->Sem _))=(pure (dL env.cells ns cs):Sem (List (Str × Addr)))
 | [],cs,_=>by rw [List.forIn_nil]; rfl
 | (n,k) :: r,cs,h=>by
  rw [List.forIn_cons]
  have hr:∀ x ∈ r,x.2 = .free->∃ c,env.cells.lookup x.1=some c:=fun x hx=>h x (aY2 _ hx)
  cases hk:(k == NameKind.free) with
  | true=>
   have e:k = .free:=by simpa using hk
   obtain ⟨c,hc⟩:=h (n,k) aY1 e
   simp only [hk,if_true]
   have e1:cellOf env n=pure c:=by unfold cellOf; rw [hc]
   rw [e1]
   show ((pure c >>= fun y=>pure (ForInStep.yield ((n,y) :: cs))) >>= _:Sem _)=_
   rw [pure_bind,pure_bind]
   have:=tG (env:=env) r ((n,c) :: cs) hr
   refine this.trans ?_
   unfold dL
   simp only [hk,if_true,hc,Option.getD_some]
   cases r <;> rfl
  | false=>
   simp only [hk,aZ6,be3]
   rw [pure_bind]
   have:=tG (env:=env) r cs hr
   refine this.trans ?_
   conv=>rhs; unfold dL
   simp only [hk,aZ6,be3]
theorem tH {scope:Scope}{env:Env} (h:∀ x ∈ scope.names,x.2 = .free->∃ c,env.cells.lookup x.1=some c):closureFor scope env=pure (dL env.cells scope.names []):=by
 have e:=tG (env:=env) scope.names [] h
 unfold closureFor
 rw [show (pure (dL env.cells scope.names []):Sem (List (Str × Addr)))=(pure (dL env.cells scope.names []) >>= pure) by rw [pure_bind]]
 rw [<- e]
theorem oV {cells:List (Str × Addr)}:∀ (ns:List (Str × NameKind)) (cs:List (Str × Addr)) {x:Str}{c:Addr},(∀ y ∈ ns,y.2 = .free->∃ c,cells.lookup y.1=some c)->
  (∀ x c,cs.lookup x=some c->cells.lookup x=some c)->(dL cells ns cs).lookup x=some c->cells.lookup x=some c
 | [],cs,x,c,_,hc,h=>hc x c h
 | (n,k) :: r,cs,x,c,hn,hc,h=>by
  unfold dL at h
  have hr:∀ y ∈ r,y.2 = .free->∃ c,cells.lookup y.1=some c:=fun y hy=>hn y (aY2 _ hy)
  cases hk:(k == NameKind.free) with
  | false=>
   simp only [hk,aZ6,be3] at h
   exact oV r cs hr hc h
  | true=>
   simp only [hk,if_true] at h
   refine oV r _ hr (fun y d e=>?_) h
   obtain ⟨c0,h0⟩:=hn (n,k) aY1 (by simpa using hk)
   have h0:cells.lookup n=some c0:=h0
   rw [h0] at e
   rw [be2] at e
   by_cases hyn:y=n
   ·subst hyn
    simp only [bf8,Option.getD_some] at e
    rw [h0]; exact e
   ·have:(y == n)=false:=beq_eq_false_iff_ne.mpr hyn
    simp only [this] at e
    exact hc y d e
theorem tI {cells:List (Str × Addr)}:∀ (ns:List (Str × NameKind)) (cs:List (Str × Addr)) {x:Str},((x,NameKind.free) ∈ ns ∨ ∃ c,cs.lookup x=some c)->∃ c,(dL cells ns cs).lookup x=some c
 | [],cs,x,h=>by
  rcases h with h | h
  ·simp at h
  ·exact h
 | (n,k) :: r,cs,x,h=>by
  unfold dL
  refine tI r _ ?_
  rcases h with h | ⟨c,h⟩
  ·rcases aX9.mp h with e | e
   ·cases e
    exact .inr ⟨_,by simp [be2]; rfl⟩
   ·exact .inl e
  ·right
   cases hk:(k == NameKind.free) with
   | false=>exact⟨c,by simpa [hk] using h⟩
   | true=>
    simp only [if_true]
    rw [be2]
    by_cases hxn:(x == n)=true
    ·simp only [hxn]; exact⟨_,rfl⟩
    ·simp only [Bool.eq_false_iff.mpr hxn]; exact⟨c,h⟩
theorem oW {env:Env}:∀ {names:List (Str × NameKind)}{x:Str}{k:NameKind},(names.map fun (n,k)=>if (k == NameKind.free && env.scope.kind == .function && env.kindOf n == some .cell) then (n,NameKind.cell) else (n,k)).lookup x=some k->
  names.lookup x=some k ∨ (names.lookup x=some .free/\k = .cell)
 | [],_,_,h=>by simp at h
 | (n,q) :: r,x,k,h=>by
  have ih:=@oW env r x k
  rw [bc5] at h
  by_cases hx:(x == n)=true
  ·have e:x=n:=by simpa using hx
   subst e
   by_cases hc:(q == NameKind.free && env.scope.kind == .function && env.kindOf x == some .cell)=true
   ·simp only [hc,if_true,be2,bf8] at h
    have hq:q = .free:=by simp at hc; exact hc.1.1
    exact .inr ⟨by simp [be2,hq],(aZ8 h).symm⟩
   ·simp only [hc,aZ6,be3,be2,bf8] at h
    exact .inl (by simp [be2]; exact aZ8 h)
  ·have hx':(x == n)=false:=Bool.eq_false_iff.mpr hx
   have h':(r.map fun (n,k)=>if (k == NameKind.free && env.scope.kind == .function && env.kindOf n == some .cell) then (n,NameKind.cell) else (n,k)).lookup x=some k:=by
    by_cases hc:(q == NameKind.free && env.scope.kind == .function && env.kindOf n == some .cell)=true
    ·simp only [hc,if_true,be2,hx'] at h; exact h
    ·simp only [hc,aZ6,be3,be2,hx'] at h; exact h
   simp only [be2,hx']
   exact ih h'
def eS (fr:List (Option Nat)) (σ:St):St:=fr.map fun o=>o.bind fun j=>(σ[j]?).join
def Wk (σ₁ σ₂:St):Prop:=σ₁.length=σ₂.length/\∀ (i:Nat) v,σ₁[i]? = some (some v)->σ₂[i]? = some (some v)
theorem Wk.refl (σ:St):Wk σ σ:=⟨rfl,fun _ _ h=>h⟩
theorem Wk.set {σ τ:St}{i:Nat}{v:V} (h:Wk σ τ) (hi:σ[i]? = some none):Wk σ (τ.set i (some v)):=by
 refine⟨by rw [bg6]; exact h.1,fun j w e=>?_⟩
 by_cases hj:j=i
 ·subst hj; rw [hi] at e; cases e
 ·rw [bb3 (Ne.symm hj)]; exact h.2 j w e
theorem iJ:∀ (ns:List (Str × NameKind)) (n:Nat) (cs:List (Str × Addr)),cellsFrom n ns cs=cellsFrom n ns [] ++ cs
 | [],_,_=>rfl
 | (x,k) :: r,n,cs=>by
  unfold cellsFrom
  split
  ·rw [iJ r (n+1) ((x,n) :: cs),iJ r (n+1) [(x,n)]]; simp
  ·exact iJ r n cs
theorem tJ:∀ (ns:List (Str × NameKind)) (n:Nat) {x:Str}{c:Addr},(x,c) ∈ cellsFrom n ns []->(x,NameKind.cell) ∈ ns
 | [],_,_,_,h=>by simp [cellsFrom] at h
 | (y,k) :: r,n,x,c,h=>by
  unfold cellsFrom at h
  split at h
  ·rename_i hk
   rw [iJ] at h
   rcases bb6.mp h with z | z
   ·exact aY2 _ (tJ r _ z)
   ·rw [aY3] at z
    cases z
    have:k = .cell:=by simpa using hk
    rw [this]; exact aY1
  ·exact aY2 _ (tJ r _ h)
theorem oX:∀ (ns:List (Str × NameKind)) (n:Nat) {x:Str},(x,NameKind.cell) ∈ ns->∃ c,(x,c) ∈ cellsFrom n ns []
 | (y,k) :: r,n,x,h=>by
  unfold cellsFrom
  rcases aX9.mp h with z | z
  ·cases z
   rw [if_pos (by rfl),iJ]
   exact⟨n,bb0 _ (by simp)⟩
  ·split
   ·obtain ⟨c,hc⟩:=oX r (n+1) z
    rw [iJ]
    exact⟨c,bg3 _ hc⟩
   ·exact oX r n z
theorem tK {α:Type}:∀ {l:List (Str × α)}{x:Str}{c:α},(x,c) ∈ l->∃ d,l.lookup x=some d
 | (y,v) :: r,x,c,h=>by
  rw [be2]
  cases hb:x == y with
  | true=>exact⟨v,rfl⟩
  | false=>
   rcases aX9.mp h with z | z
   ·cases z; simp at hb
   ·exact tK z
theorem oY {α:Type}{x:Str}:∀ (l r:List (Str × α)),(l ++ r).lookup x=(match l.lookup x with | some v=>some v | none=>r.lookup x)
 | [],_=>rfl
 | (y,v) :: l,r=>by
  rw [List.cons_append,be2,be2]
  cases hb:x == y with
  | true=>rfl
  | false=>exact oY l r
def fW (X:Cx) (scope:Scope) (C:Addr):List (Str × Addr):=cellsFrom (C+1) scope.names (dL X.env.cells scope.names [])
theorem k8 {X:Cx}{scope:Scope}{C:Addr}{x:Str}{c:Addr} (h:(fW X scope C).lookup x=some c) :
  (x,c) ∈ cellsFrom (C+1) scope.names [] ∨ ((∀ d,(x,d) ∉ cellsFrom (C+1) scope.names [])/\(dL X.env.cells scope.names []).lookup x=some c):=by
 unfold fW at h
 rw [iJ,oY] at h
 cases e:(cellsFrom (C+1) scope.names []).lookup x with
 | some v=>rw [e] at h; cases h; exact .inl (bc9 e)
 | none=>
  rw [e] at h
  refine .inr ⟨fun d hd=>?_,h⟩
  obtain ⟨d',z⟩:=tK hd
  rw [e] at z; cases z
theorem am3 {X:Cx}{scope:Scope}{C:Addr}{x:Str}{c:Addr} (hn:(x,NameKind.cell) ∉ scope.names) (h:(dL X.env.cells scope.names []).lookup x=some c):(fW X scope C).lookup x=some c:=by
 unfold fW
 rw [iJ,oY]
 cases e:(cellsFrom (C+1) scope.names []).lookup x with
 | some v=>exact absurd (tJ _ _ (bc9 e)) hn
 | none=>exact h
theorem zQ {X:Cx}{scope:Scope}{C:Addr}{x:Str} (h:(x,NameKind.cell) ∈ scope.names ∨ ∃ c,(dL X.env.cells scope.names []).lookup x=some c):∃ c,(fW X scope C).lookup x=some c:=by
 unfold fW
 rw [iJ,oY]
 cases e:(cellsFrom (C+1) scope.names []).lookup x with
 | some v=>exact⟨v,rfl⟩
 | none=>
  rcases h with h | h
  ·obtain ⟨c,hc⟩:=oX scope.names (C+1) h
   obtain ⟨d,hd⟩:=tK hc
   rw [e] at hd; cases hd
  ·exact h
def bM (X:Cx) (scope:Scope) (N:List Str) (s:Shared) (H:Hp) (C:Addr) (fp:List Addr) (E:Value->Shared->Prop):Cx:=
 { X with N:=N,s₀:=s,H₀:=H,env:=compEnvC scope (fW X scope C) C X.env,outer:=X.stack,ex:=fp,fn:=fun x=>scope.names.lookup x == some .cell,pn:=[],xe:=E }
structure dD (X:Cx) (scope:Scope) (N:List Str) (fr:List (Option Nat)):Prop where
 kind:scope.kind = .function
 own:∀ y ∈ scope.names,y.2 = .cell->scope.names.lookup y.1=some .cell
 names:∀ y ∈ scope.names,y.2 = .local->scope.names.lookup y.1=some .local
 free:∀ y ∈ scope.names,y.2 = .free->X.env.scope.names.lookup y.1=some .cell ∨ X.env.scope.names.lookup y.1=some .free
 len:fr.length=N.length
 from_:∀ (i j:Nat),fr[i]? = some (some j)->∃ x,N[i]? = some x/\X.N[j]? = some x/\scope.names.lookup x=some .free
section
variable {X : Cx} {pins : List (Addr × Obj)} {σ : St} {H : Hp} {s : Shared} {scope : Scope} {N : List Str} {fr : List (Option Nat)}
theorem dD.cells (S:dD X scope N fr) (I:a6 X pins σ H s):∀ y ∈ scope.names,y.2 = .free->∃ c,X.env.cells.lookup y.1=some c:=fun y hy hk=>I.ok.has y.1 (S.free y hy hk)
theorem am4 {C D:Addr}{fp:List Addr}{E:Value->Shared->Prop}{h1:Heap}{tk:Nat}{m:Str->Option Value} (S:dD X scope N fr) (I:a6 X pins σ H s)
  (hf:∀ b ∈ fp,fD X pins H b) (hfl:∀ b ∈ fp,b < s.heap.objs.size) (hD:s.heap.objs.size<=D) (hC:s.heap.objs.size<=C) (hDC:D < C)
  (old:∀ b o,s.heap.get? b=some o->h1.get? b=some o) (hns:h1.Ns C m) (hacc:h1.get? D=some { cls:=.type "list",data:=.seq #[] 0 }) (hco:CellsOk h1 (C+1) (cellsFrom (C+1) scope.names [])) :
  a6 (bM X scope N s H C fp E) [] (eS fr σ) (upd H D (.lst [])) { s with heap:=h1,toks:=tk }:=by
 have hHD:H D=none:=I.hok.fresh hD
 have cl:=S.cells I
 have cs:∀ {x:Str}{c:Addr},(dL X.env.cells scope.names []).lookup x=some c->X.env.cells.lookup x=some c:=fun {x c} h=>oV scope.names [] cl (fun _ _ z=>by simp at z) h
 have clt:∀ {x:Str}{c:Addr},X.env.cells.lookup x=some c->c < s.heap.objs.size:=fun {x c} h=>by obtain ⟨v,z⟩:=I.cell x c h; exact z.lt
 have nge:∀ {x:Str}{c:Addr},(x,c) ∈ cellsFrom (C+1) scope.names []->C < c:=fun {x c} h=>(hco.empty x c h).2
 refine⟨⟨I.ok.mod,?_,I.ok.glob,I.ok.blt,hC,?_,?_,?_,I.ok.hd,I.ok.frames,.inl rfl,?_,I.bs,bb5 I.ok.bsz I.sz,?_,?_,I.stack,I.stkFree⟩,rfl,I.bare,Un.laid old hD hHD,⟨m,hns,?_⟩,?_,?_,?_,fun p hp=>absurd (show p ∈ ([]:List (Addr × Obj)) from hp) (by simp),?_,?_⟩
 ·exact S.kind
 ·intro x y c h1 h2
  rcases k8 h1 with a | ⟨_,a⟩ <;> rcases k8 h2 with b | ⟨_,b⟩
  ·exact name_of_addr hco.apart a b
  ·exact absurd (aY7 (Nat.lt_trans (nge a) (clt (cs b))) hC) (bd7 _)
  ·exact absurd (aY7 (Nat.lt_trans (nge b) (clt (cs a))) hC) (bd7 _)
  ·exact I.ok.inj x y c (cs a) (cs b)
 ·intro x hx
  have hx:(relabel scope X.env).names.lookup x=some .cell ∨ (relabel scope X.env).names.lookup x=some .free:=hx
  have fin:(x,NameKind.free) ∈ scope.names->∃ c,(fW X scope C).lookup x=some c:=fun z=>zQ (.inr (tI scope.names [] (.inl z)))
  rcases hx with hx | hx
  ·rcases oW hx with z | z
   ·exact zQ (.inl (bc9 z))
   ·exact fin (bc9 z.1)
  ·rcases oW hx with z | z
   ·exact fin (bc9 z)
   ·exact absurd z.2 (by decide)
 ·intro x c hx h
  have hx:(scope.names.lookup x == some NameKind.cell)=true:=hx
  have hx:scope.names.lookup x=some .cell:=by simpa using hx
  rcases k8 h with a | ⟨a,_⟩
  ·exact bb5 hC (bf3 (nge a))
  ·obtain ⟨d,hd⟩:=oX scope.names (C+1) (bc9 hx)
   exact absurd hd (a d)
 ·intro b hb
  refine⟨ba2 (aY7 (hfl b hb) hC),fun x c e=>?_⟩
  rcases k8 e with a | ⟨_,a⟩
  ·exact be6 (Nat.lt_trans (aY7 (hfl b hb) hC) (nge a))
  ·exact (hf b hb).2.2.2.2.1 x c (cs a)
 ·intro b o e hb
  rcases (hf b hb).2.2.2.1 with z | z
  ·exact I.ok.noex b o e z
  ·exact absurd (aY7 (aY6 e) (bb5 I.ok.bsz z)) (bd7 _)
 ·intro b hb z
  rcases aX9.mp (I.stkSub b z) with e | e
  ·exact (hf b hb).2.1 e
  ·exact (hf b hb).2.2.1 e
 ·intro i x v e1 e2 e3
  have e2:(fr.map fun o=>o.bind fun j=>(σ[j]?).join)[i]? = some (some v):=e2
  rw [aZ3] at e2
  cases ef:fr[i]? with
  | none=>rw [ef] at e2; cases e2
  | some o=>
   rw [ef] at e2
   cases o with
   | none=>cases e2
   | some j=>
    have e2:some ((σ[j]?).join)=some (some v):=e2
    have ej:σ[j]? = some (some v):=by
     cases q:σ[j]? with
     | none=>rw [q] at e2; cases e2
     | some w=>rw [q] at e2; cases w with
      | none=>cases e2
      | some w=>cases e2; rfl
    obtain ⟨y,a1,a2,a4⟩:=S.from_ i j ef
    have e1:N[i]? = some x:=e1
    rw [e1] at a1
    cases a1
    have a3:(x,NameKind.free) ∈ scope.names:=bc9 a4
    have vis:gD X.env.scope x:=(S.free _ a3 rfl).elim (fun z=>.inr (.inl z)) fun z=>.inr (.inr z)
    obtain ⟨m0,hn0,hl0⟩:=I.loc
    obtain ⟨u,r,l⟩:=hl0 j x v a2 ej vis
    refine⟨u,r,.inr ⟨?_,?_⟩⟩
    ·have e3:(relabel scope X.env).names.lookup x=some .local ∨ (relabel scope X.env).names.lookup x=some .cell ∨ (relabel scope X.env).names.lookup x=some .free:=e3
     rcases e3 with z | z | z
     ·rcases oW z with y | y
      ·rw [a4] at y; cases y
      ·exact absurd y.2 (by decide)
     ·exact .inl z
     ·exact .inr z
    ·obtain ⟨c,hc⟩:=tI (cells:=X.env.cells) scope.names [] (x:=x) (.inl a3)
     refine⟨c,am3 (fun z=>by have:=S.own _ z rfl; rw [a4] at this; cases this) hc,?_⟩
     have hc':=cs hc
     have S1:=S.free (x,.free) a3 rfl
     rcases l with ⟨k,_⟩ | ⟨_,c2,hc2,z⟩
     ·have k:X.env.scope.names.lookup x=some .local:=k
      rcases S1 with q | q <;> (have q:X.env.scope.names.lookup x=_:=q; rw [k] at q; cases q)
     ·rw [hc'] at hc2; cases hc2
      obtain ⟨oc,ho,hd⟩:=z
      exact⟨oc,old c oc ho,hd⟩
 ·intro x c e
  rcases k8 e with a | ⟨_,a⟩
  ·exact⟨_,(hco.empty x c a).1⟩
  ·obtain ⟨v,oc,ho,hd⟩:=I.cell x c (cs a)
   exact⟨v,oc,old c oc ho,hd⟩
 ·show upd H D (.lst []) C=none
  rw [aV (be6 hDC)]; exact I.hok.fresh hC
 ·intro x c e
  show upd H D (.lst []) c=none
  rcases k8 e with a | ⟨_,a⟩
  ·rw [aV (be6 (Nat.lt_trans hDC (nge a)))]; exact I.hok.fresh (bb5 hC (bf3 (nge a)))
  ·have q:=cs a
   rw [aV (ba2 (aY7 (clt q) hD))]
   exact I.freeC x c q
 ·exact I.hok.laid old hD ⟨bc6 _,[],0,.nil,hacc⟩
 ·show (eS fr σ).length=N.length
  unfold eS; rw [aY0]; exact S.len
end
def jB (X:Cx) (ifs:List Expr) (t:TT):Prop:=
 ∀ (pins:List (Addr × Obj)) (s:Shared) (σ:St) (H:Hp) (Q:Bool->Hp->Prop),a6 X pins σ H s->t σ H Q->
  wpAny (model X.prog X.w) X.A (forIn ifs true fun c r=>if r=true then do let ok <- isTrue c X.env (eval c X.env); pure (ForInStep.yield ok) else pure (ForInStep.yield r)) (TP X pins σ Q) X.xe s
def tL:TT:=fun _ H Q=>Q true H
theorem zR {X:Cx}:jB X [] tL:=fun _ _ _ H _ I h=>wpAny_tests_nil ⟨H,I,h⟩
theorem zS {X:Cx}{c:Expr}{t:TT} (h:PT X c t):jB X [c] t:=fun pins s σ H Q I hq=>wpAny_tests_one (h pins s σ H Q I hq)
section
variable {prog : Program} {w : World} {A : Around}
def tM (prog:Program) (w:World) (A:Around) (elt tg:Expr) (ifs:List Expr) (it acc:Value) (env:Env) (lost:Value->Shared->Prop) (stop next:Shared->Prop) (s:Shared):Prop:=
 let M:=model prog w
 let tests:Sem Bool:=forIn ifs true fun c r=>if r=true then do let ok <- isTrue c env (eval c env); pure (ForInStep.yield ok) else pure (ForInStep.yield r)
 let put:Shared->Prop:=wpAny M A (eval elt env) (fun x=>wpAny M A (call (.builtin "list.append") [acc,x]) (fun _=>next) lost) lost
 let taken:Value->Shared->Prop:=fun v=>wpAny M A (letOwnedTupleGo tg it v) (fun _=>wpAny M A (assign tg env v) (fun _=>wpAny M A tests (fun ok s'=>if ok=true then put s' else next s') lost) lost) lost
 wpAny M A (pyNext it) (fun r s'=>match r with
  | none=>stop s'
  | some v=>taken v s') lost s
theorem am5 {R:Result->Shared->Prop}{s:Shared}{elt tg iter:Expr}{ifs:List Expr}{scope:Scope}{pos:Pos}{it acc:Value}{env:Env} (I:Nat->Shared->Prop)
  (turn:∀ n s,I n s->tM prog w A elt tg ifs it acc env (notedBy (model prog w) A env fun e=>R (.error e)) (R (.ok .next)) (fun s'=>∃ m,m < n/\I m s') s) (n:Nat) (h:I n s) :
  codeAny (model prog w) A (.compLoop (.ListComp elt [⟨tg,iter,ifs,0⟩] scope pos) 0 it acc env) R s:=by
 apply codeAny_loop rfl I _ n h
 intro k s1 h1
 change wpAny _ A ((compTurn _ 0 it acc env).onRaise (fun x=>do noteFrame x env; theTreesLotGoes x)) _ _ s1
 apply wpAny_noted
 rw [compTurn_list]
 have t:=turn k s1 h1
 unfold tM at t
 apply aX0
 apply wpAny_standAt
 apply aX0
 refine bg0 t (fun r s2 h2=>?_) fun _ _ z=>z
 cases r with
 | none=>exact aX8 h2
 | some v=>
  apply aX0
  refine bg0 h2 (fun _ s3 h3=>?_) fun _ _ z=>z
  apply aX0
  refine bg0 h3 (fun _ s4 h4=>?_) fun _ _ z=>z
  apply aX0
  refine bg0 h4 (fun ok s5 h5=>?_) fun _ _ z=>z
  cases ok with
  | false=>exact aX8 ⟨rfl,h5⟩
  | true=>
   apply aX0
   apply aX0
   refine bg0 h5 (fun x s6 h6=>?_) fun _ _ z=>z
   apply aX0
   exact bg0 h6 (fun _ s7 h7=>aX8 (aX8 ⟨rfl,h7⟩)) fun _ _ z=>z
end
def oZ (g:TG) (tc:TT) (te:TE) (σ0:St) (J:It) (D:Addr) (Q:VK) (W:Nat->Nat->List V->Hp->Prop):Prop:=
 ∀ i m acc H',W i m acc H'->H' D=some (.lst acc)/\((J.stop i H'/\Q (.ref D) H') ∨ (J.go i H'/\∀ x H2,J.yld i H' x H2->g x σ0 H2 fun σ2 H3=>Wk σ0 σ2/\tc σ2 H3 fun b H4=>
  if b=true then te σ2 H4 fun v H5=>H5 D=some (.lst acc)/\acc.length < sizeLine/\∃ m',m' < m/\W (i+1) m' (acc ++ [v]) (upd H5 D (.lst (acc ++ [v]))) else ∃ m',m' < m/\W (i+1) m' acc H4))
def am6 (wi:TI) (fr:List (Option Nat)) (g:TG) (tc:TT) (te:TE):TE:=fun σ H Q=>wi σ H fun J H1=>∀ D,H1 D=none->
 ∃ W:Nat->Nat->List V->Hp->Prop,(∃ m,W 0 m [] (upd H1 D (.lst [])))/\oZ g tc te (eS fr σ) J D Q W
section
variable {M : Model} {A : Around} {E : Value → Shared → Prop} {s : Shared}
theorem am7 {scope:Scope}{globals:Addr}{cl:List (Str × Addr)}{qual:Str}{func:Option Addr}{code:Value}{builtins:Addr}{outer:Env}{Q:Env->Shared->Prop}
  (hQ:∀ h',h'.Ns s.heap.objs.size (fun _=>none)->(∀ b o,s.heap.get? b=some o->h'.get? b=some o)->CellsOk h' (s.heap.objs.size+1) (cellsFrom (s.heap.objs.size+1) scope.names [])->
   Q (newEnv scope s.heap.objs.size globals (cellsFrom (s.heap.objs.size+1) scope.names cl) qual func code (some outer) builtins) { s with heap:=h' }) :
  wpAny M A (newFunctionEnv scope globals cl [] qual func code (some outer) builtins) Q E s:=by
 simp only [newFunctionEnv,Option.isSome_some,if_true]
 refine aX0 (wpAny_alloc ?_)
 refine aX0 (wpAny_layCells _ (fun name kind cells=>by cases hkc:kind == NameKind.cell <;> simp [hkc]) _ _ _ _ ?_)
 have ok:=cellsFrom_ok scope.names (s.heap.push { cls:=.type "dict",data:=.dict #[] }) (s.heap.objs.size+1) [] ⟨fun _ _ hm=>(nomatch hm),List.Pairwise.nil⟩ (by rw [bg4]; exact aX7 _)
 rw [bg4] at ok
 rw [show ({ s with heap:=s.heap.push { cls:=.type "dict",data:=.dict #[] } }:Shared).heap.objs.size=s.heap.objs.size+1 from bg4 ..]
 rw [List.forIn_nil]
 refine aX0 (aX8 (aX8 (hQ _ ((Heap.Ns.new s.heap (.type "dict")).keeps (pushCells_keeps _ _)) (fun b o e=>pushCells_keeps _ _ b o (aX2 _ e)) ok)))
end
section
variable {X : Cx} {pins : List (Addr × Obj)} {σ : St} {H : Hp} {s : Shared} {scope : Scope} {N : List Str} {fr : List (Option Nat)} {tg iter elt : Expr} {ifs : List Expr} {pos : Pos} {wi : TI} {g : TG} {tc : TT} {te : TE}
structure l9 (X:Cx) (scope:Scope) (N:List Str) (tg:Expr) (ifs:List Expr) (elt:Expr) (s:Shared) (H:Hp) (g:TG) (tc:TT) (te:TE):Prop where
 tg:∀ (C:Addr) (fp:List Addr),PG (bM X scope N s H C fp fun _ _=>False) tg g
 ifs:∀ (C:Addr) (fp:List Addr),jB (bM X scope N s H C fp fun _ _=>False) ifs tc
 elt:∀ (C:Addr) (fp:List Addr),PE (bM X scope N s H C fp fun _ _=>False) elt te
structure tN (X:Cx) (scope:Scope) (N:List Str) (tg:Expr) (ifs:List Expr) (elt:Expr) (g:TG) (tc:TT) (te:TE):Prop where
 tg:∀ (s:Shared) (H:Hp) (C:Addr) (fp:List Addr),PG (bM X scope N s H C fp fun _ _=>False) tg g
 ifs:∀ (s:Shared) (H:Hp) (C:Addr) (fp:List Addr),jB (bM X scope N s H C fp fun _ _=>False) ifs tc
 elt:∀ (s:Shared) (H:Hp) (C:Addr) (fp:List Addr),PE (bM X scope N s H C fp fun _ _=>False) elt te
theorem tN.at (B:tN X scope N tg ifs elt g tc te) (s:Shared) (H:Hp):l9 X scope N tg ifs elt s H g tc te:=⟨B.tg s H,B.ifs s H,B.elt s H⟩
theorem am8 {C:Addr}{fp:List Addr}{E:Value->Shared->Prop}{pins':List (Addr × Obj)}{σ':St}{H':Hp}{s':Shared} (I:a6 X pins σ H s) (hf:∀ b ∈ fp,fD X pins H b) (I':a6 (bM X scope N s H C fp E) pins' σ' H' s'):a6 X pins σ H' s':=
 I.call' (ch:=fp) I'.os I'.base I'.hok I'.bare fun b hb=>⟨(hf b hb).2.2.2.1,(hf b hb).2.1,(hf b hb).2.2.2.2.1,(hf b hb).2.2.2.2.2⟩
theorem tO {Rr:Value->Addr->Result->Shared->Prop}{J:It}{fp:List Addr}{it:Addr}{tn:Nat->Heap->Prop}{Q:VK}
  (hc:X.calm=true) (S:dD X scope N fr) (B:l9 X scope N tg ifs elt s H g tc te) (I:a6 X pins σ H s) (T:gR X.prog X.w X.K tg J fp it tn) (hst:tn 0 s.heap) (hf:∀ b ∈ fp,fD X pins H b)
  (h:∀ D,H D=none->∃ W:Nat->Nat->List V->Hp->Prop,(∃ m,W 0 m [] (upd H D (.lst [])))/\oZ g tc te (eS fr σ) J D Q W)
  (hend:∀ (D C:Addr) (s':Shared) (H':Hp) (m:Str->Option Value),s.heap.objs.size<=C->s.heap.objs.size<=D->a6 X pins σ H' s'->s'.heap.Ns C m->H' C=none->Q (.ref D) H'->Rr (.ref D) C (.ok .next) s') :
  wpAny (model X.prog X.w) X.A (newList []) (fun acc s₃=>wpAny (model X.prog X.w) X.A (newFunctionEnv scope X.env.globals (dL X.env.cells scope.names []) [] X.env.qual none .none (some X.env)) (fun cenv s₄=>
   codeAny (model X.prog X.w) X.A (.compStart (.ListComp elt [⟨tg,iter,ifs,0⟩] scope pos) 0 (.ref it) acc { cenv with scope:=relabel scope X.env }) (Rr acc cenv.locals) s₄) X.xe s₃) X.xe s:=by
 refine bf1 (am7 (fun h₁ hns₁ keep₁ hco₁=>?_))
 dsimp only at hns₁ keep₁ hco₁ ⊢
 generalize hH2:s.heap.push { cls:=.type "list",dict:=none,data:=.seq ([]:List Value).toArray }=H2 at hns₁ keep₁ hco₁ ⊢
 have hC:H2.objs.size=s.heap.objs.size+1:=by rw [<- hH2,bg4]
 have hDC:s.heap.objs.size < H2.objs.size:=by rw [hC]; exact Nat.lt_succ_self _
 have hCle:s.heap.objs.size<=H2.objs.size:=by rw [hC]; exact Nat.le_succ _
 have old:∀ b o,s.heap.get? b=some o->h₁.get? b=some o:=fun b o e=>keep₁ b o (hH2 ▸ aX2 _ e)
 have hacc:h₁.get? s.heap.objs.size=some { cls:=.type "list",data:=.seq #[] 0 }:=keep₁ _ _ (hH2 ▸ aY8 _ rfl)
 have hfl:∀ b ∈ fp,b < s.heap.objs.size:=fun b hb=>by obtain ⟨o,e,_⟩:=T.obj _ _ hst b hb; exact aY6 e
 obtain ⟨W,⟨m0,w0⟩,turn⟩:=h s.heap.objs.size (I.hok.fresh (aX7 _))
 have st1:tn 0 h₁:=T.keep _ _ _ hst fun b _ o e=>old b o e
 have fr0:∀ b ∈ fp,upd H s.heap.objs.size (.lst []) b=none:=fun b hb=>by rw [aV (ba2 (hfl b hb))]; exact (hf b hb).1
 have stat:∀ {H':Hp},(∀ b ∈ fp,H' b=none)->∀ b ∈ fp,fD (bM X scope N s H H2.objs.size fp fun _ _=>False) [] H' b:=fun {H'} hn b hb=>by
  have f:=hf b hb
  refine⟨hn b hb,ba2 (aY7 (hfl b hb) hCle),fun z=>?_,.inl hb,fun x c e=>(k8 e).elim (fun z=>be6 (Nat.lt_trans (aY7 (hfl b hb) hCle) (hco₁.empty x c z).2)) fun z=>f.2.2.2.2.1 x c (oV scope.names [] (S.cells I) (fun _ _ z=>by simp at z) z.2),fun p hp=>absurd (show p ∈ ([]:List (Addr × Obj)) from hp) (by simp)⟩
  rcases aX9.mp (I.stkSub b z) with e | e
  ·exact f.2.1 e
  ·exact f.2.2.1 e
 generalize hX:bM X scope N s H H2.objs.size fp (fun _ _=>False)=Y at stat
 have I0:a6 Y [] (eS fr σ) (upd H s.heap.objs.size (.lst [])) { s with heap:=h₁ }:=hX ▸ am4 S I hf hfl (aX7 _) hCle hDC old hns₁ hacc hco₁
 have bt:PG Y tg g:=hX ▸ B.tg H2.objs.size fp
 have bi:jB Y ifs tc:=hX ▸ B.ifs H2.objs.size fp
 have be:PE Y elt te:=hX ▸ B.elt H2.objs.size fp
 have eP:Y.prog=X.prog:=by rw [<- hX]; rfl
 have ew:Y.w=X.w:=by rw [<- hX]; rfl
 have eK:Y.K=X.K:=by rw [<- hX]; rfl
 have eA:Y.A=X.A:=by rw [<- hX]; rfl
 have eE:Y.env=compEnvC scope (fW X scope H2.objs.size) H2.objs.size X.env:=by rw [<- hX]; rfl
 have eX:Y.xe=fun _ _=>False:=by rw [<- hX]; rfl
 have ec:Y.calm=true:=by rw [<- hX]; exact hc
 have never:∀ {E:Value->Shared->Prop} (e:Value) (s':Shared),Y.xe e s'->E e s':=fun {E} e s' z=>by rw [eX] at z; exact z.elim
 have out:∀ {pins' σ' H' s'},a6 Y pins' σ' H' s'->a6 X pins σ H' s':=fun {_ _ _ _} I'=>am8 (C:=H2.objs.size) (E:=fun _ _=>False) (scope:=scope) (N:=N) I hf (hX ▸ I')
 have loop:codeAny (model X.prog X.w) X.A (.compLoop (.ListComp elt [⟨tg,iter,ifs,0⟩] scope pos) 0 (.ref it) (.ref s.heap.objs.size) (compEnvC scope (fW X scope H2.objs.size) H2.objs.size X.env))
   (Rr (.ref s.heap.objs.size) H2.objs.size) { s with heap:=h₁ }:=by
  refine am5 (fun n s'=>∃ i acc H',a6 Y [] (eS fr σ) H' s'/\tn i s'.heap/\(∀ b ∈ fp,H' b=none)/\W i n acc H') ?_ m0 ⟨0,[],_,I0,st1,fr0,w0⟩
  rintro n s3 ⟨i,acc,H3,I3,st3,fr3,w3⟩
  unfold tM
  dsimp only
  obtain ⟨hD3,step⟩:=turn i n acc H3 w3
  rcases step with ⟨stop,qn⟩ | ⟨go,step⟩
  ·have z:=T.done Y eP ew eK ec i [] s3 _ H3 (notedBy (model X.prog X.w) X.A (compEnvC scope (fW X scope H2.objs.size) H2.objs.size X.env) fun e s'=>Rr (.ref s.heap.objs.size) H2.objs.size (.error e) s') I3 (stat fr3) st3 stop
   rw [eA] at z
   refine aP z fun r s4 ⟨hr,I4⟩=>?_
   subst hr
   obtain ⟨m4,hn4,_⟩:=I4.loc
   rw [eE] at hn4
   have f4:=I4.free
   rw [eE] at f4
   exact hend _ _ s4 H3 m4 hCle (aX7 _) (out I4) hn4 f4 qn
  ·have z:=T.item Y eP ew eK ec i [] s3 _ H3 (notedBy (model X.prog X.w) X.A (compEnvC scope (fW X scope H2.objs.size) H2.objs.size X.env) fun e s'=>Rr (.ref s.heap.objs.size) H2.objs.size (.error e) s') I3 (stat fr3) st3 go
   rw [eA] at z
   refine aP z fun r s4 ⟨u,hr,h4⟩=>?_
   subst hr
   refine aP h4 fun _ s5 ⟨x,H5,I5,r5,y5,st5,fr5⟩=>?_
   have I5':=I5.pinned (stat fr5) (T.obj _ _ st5)
   have q1:=bt _ s5 _ H5 x u _ I5' r5 (step x H5 y5)
   rw [eP,ew,eA,eE] at q1
   refine bg0 q1 (fun _ s6 ⟨σ6,H6,I6,wk,q6⟩=>?_) never
   have q2:=bi _ s6 σ6 H6 _ I6 q6
   rw [eP,ew,eA,eE] at q2
   refine bg0 q2 (fun b s7 ⟨H7,I7,q7⟩=>?_) never
   have again:∀ {H8:Hp}{s8:Shared}{acc':List V},a6 Y ([] ++ mJ fp s5.heap) σ6 H8 s8->(∃ m',m' < n/\W (i+1) m' acc' H8)->∃ m,m < n/\∃ i acc H',a6 Y [] (eS fr σ) H' s8/\tn i s8.heap/\(∀ b ∈ fp,H' b=none)/\W i m acc H':=fun {H8 s8 acc'} I8 n8=>by
    obtain ⟨m',hm,w8⟩:=n8
    refine⟨m',hm,i+1,acc',H8,(I8.unpinned).weak wk.1 wk.2,T.keep _ _ _ st5 fun b hb o e=>(I8.pin (b,o) (bb0 _ (bb0 _ (oK hb e)))).1,fun b hb=>?_,w8⟩
    obtain ⟨o,e,d⟩:=T.obj _ _ st5 b hb
    exact (I8.pin (b,o) (bb0 _ (bb0 _ (oK hb e)))).2.1
   cases b with
   | false=>
    rw [if_neg aZ0] at q7 ⊢
    exact again I7 q7
   | true=>
    rw [if_pos rfl] at q7 ⊢
    have q3:=be _ s7 σ6 H7 _ I7 q7
    rw [eP,ew,eA,eE] at q3
    refine bg0 q3 (fun v s8 ⟨y,H8,I8,r8,hD8,hz8,q8⟩=>?_) never
    have q4:=oQ _ s8 σ6 H8 (.ref s.heap.objs.size) [y] (.ref s.heap.objs.size) [v] (fun _ H9=>∃ m',m' < n/\W (i+1) m' (acc ++ [y]) H9) I8 rfl (.cons r8 .nil) ⟨_,_,_,rfl,rfl,hD8,hz8,q8⟩
    rw [eP,ew,eA] at q4
    exact bg0 q4 (fun _ s9 ⟨_,H9,I9,_,q9⟩=>again I9 q9) never
 exact codeAny_compStart_list loop (T.self _ 0 _ _ _ st1 loop)
end
section
variable {X : Cx} {scope : Scope} {N : List Str} {fr : List (Option Nat)} {tg iter elt : Expr} {ifs : List Expr} {pos : Pos} {wi : TI} {g : TG} {tc : TT} {te : TE}
theorem a6.drop {pins:List (Addr × Obj)}{σ:St}{H H':Hp}{s s':Shared}{C:Addr}{h':Heap} (I0:a6 X pins σ H s) (hC:s.heap.objs.size<=C) {σ':St} (I:a6 X pins σ' H' s') (hn:H' C=none) (sb:Heap.SameBut C s'.heap h'):a6 X pins σ' H' { s' with heap:=h' }:=by
 refine I.turned (t':=s'.toks) (it:=C) (fun b o hb e=>(sb.2 b hb).trans e) hn (be6 (aY7 I0.lt hC)) (.inr (bb5 I0.sz hC)) (fun x c e z=>?_) fun p hp z=>?_
 ·obtain ⟨v,q⟩:=I0.cell x c e
  exact absurd (aY7 q.lt (by rw [z]; exact hC)) (bd7 _)
 ·exact absurd (aY7 (aY6 (I0.pin p hp).1) (by rw [z]; exact hC)) (bd7 _)
theorem am9 {i:Nat}{x:Str}{px spos:Pos} (hc:X.calm=true) (S:dD X scope N fr) (hi:PI X tg iter wi) (B:tN X scope N tg ifs elt g tc te) (hN:X.N.Nodup) (hix:X.N[i]? = some x) (hx:X.env.scope.names.lookup x=some .local)
  (hsw:swapsWith (.ListComp elt [⟨tg,iter,ifs,0⟩] scope pos) (some (.Name x px)) spos.line X.env=pure true) (hs:∀ x,foldedSetIterable iter X.env x=pure x:=by intro _; rfl) :
  PS X (.Assign [.Name x px] (.ListComp elt [⟨tg,iter,ifs,0⟩] scope pos) spos) (mH (am6 wi fr g tc te) (dI i)):=by
 intro pins s σ H D I h
 rw [exec_Assign_Name_used _ _ _ _ hsw]
 refine aX0 (wpAny_standAt (aX0 ?_))
 show wpAny _ _ (do let _ <- comprehension (.ListComp elt [⟨tg,iter,ifs,0⟩] scope pos) scope X.env _ (newList []) false (eval iter X.env) (some (assign (.Name x px) X.env))) _ _ s
 refine aX0 (bg0 (wpAny_comprehension_free (Q:=fun _ s'=>SP X pins D .next s') (use:=some (assign (.Name x px) X.env)) rfl hs (tH (S.cells I)) S.kind S.names (aP (hi pins s σ H _ I h) fun v s1 h1=>aP h1 fun itv s2 h2=>?_))
  (fun _ s' hq=>aX8 (aX8 hq)) fun _ _ e=>e)
 obtain ⟨it,fp,tn,J,H2,e,I2,T,st2,f2,hW⟩:=h2
 subst e
 refine tO (Rr:=fun acc C=>compPost (model X.prog X.w) X.A X.xe (some (assign (.Name x px) X.env)) (fun _ s'=>SP X pins D .next s') acc C) hc S (B.at _ _) I2 T st2 f2 hW ?_
 intro D' C s' H' m hC hD I' hns hHC q
 refine wpAny_assign_Name (rY I' hN hix (.inl hx) (v:=.ref D') rfl (fun s'' I'' sb=>?_) (.inr hx))
 obtain ⟨a,sb,ha⟩:=sb
 have hCa:C ≠ a:=by
  rcases ha with z | z
  ·rw [z]; exact be6 (aY7 I2.lt hC)
  ·intro e; subst e
   obtain ⟨v,q⟩:=I2.cell x _ z
   exact absurd (aY7 q.lt hC) (bd7 _)
 exact⟨m,hns.sameBut sb hCa,fun h' sb'=>⟨_,H',I2.drop hC I'' hHC sb',q⟩⟩
variable {gh : Hp → TG} {tch : Hp → TT} {teh : Hp → TE}
def tP (wi:TI) (fr:List (Option Nat)) (gh:Hp->TG) (tch:Hp->TT) (teh:Hp->TE):TE:=fun σ H Q=>wi σ H fun J H1=>∀ D,H1 D=none->
 ∃ W:Nat->Nat->List V->Hp->Prop,(∃ m,W 0 m [] (upd H1 D (.lst [])))/\oZ (gh H1) (tch H1) (teh H1) (eS fr σ) J D Q W
theorem tQ (hc:X.calm=true) (S:dD X scope N fr) (hi:PI X tg iter wi) (B:∀ (s:Shared) (H:Hp),l9 X scope N tg ifs elt s H (gh H) (tch H) (teh H))
  (hs:∀ x,foldedSetIterable iter X.env x=pure x:=by intro _; rfl):PE X (.ListComp elt [⟨tg,iter,ifs,0⟩] scope pos) (tP wi fr gh tch teh):=by
 intro pins s σ H Q I h
 rw [eval_ListComp]
 refine wpAny_comprehension_free (use:=none) rfl hs (tH (S.cells I)) S.kind S.names (aP (hi pins s σ H _ I h) fun v s1 h1=>aP h1 fun itv s2 h2=>?_)
 obtain ⟨it,fp,tn,J,H2,e,I2,T,st2,f2,hW⟩:=h2
 subst e
 refine tO (Rr:=fun acc C=>compPost (model X.prog X.w) X.A X.xe none (EP X pins σ Q) acc C) hc S (B _ _) I2 T st2 f2 hW ?_
 intro D C s' H' m hC hD I' hns hHC q
 exact⟨m,hns,fun h' sb=>⟨.ref D,H',I2.drop hC I' hHC sb,rfl,q⟩⟩
theorem an0 {i:Nat}{x:Str}{px spos:Pos} (hc:X.calm=true) (S:dD X scope N fr) (hi:PI X tg iter wi) (B:∀ (s:Shared) (H:Hp),l9 X scope N tg ifs elt s H (gh H) (tch H) (teh H)) (hN:X.N.Nodup) (hix:X.N[i]? = some x) (hx:X.env.scope.names.lookup x=some .local)
  (hsw:swapsWith (.ListComp elt [⟨tg,iter,ifs,0⟩] scope pos) (some (.Name x px)) spos.line X.env=pure true) (hs:∀ x,foldedSetIterable iter X.env x=pure x:=by intro _; rfl) :
  PS X (.Assign [.Name x px] (.ListComp elt [⟨tg,iter,ifs,0⟩] scope pos) spos) (mH (tP wi fr gh tch teh) (dI i)):=by
 intro pins s σ H D I h
 rw [exec_Assign_Name_used _ _ _ _ hsw]
 refine aX0 (wpAny_standAt (aX0 ?_))
 show wpAny _ _ (do let _ <- comprehension (.ListComp elt [⟨tg,iter,ifs,0⟩] scope pos) scope X.env _ (newList []) false (eval iter X.env) (some (assign (.Name x px) X.env))) _ _ s
 refine aX0 (bg0 (wpAny_comprehension_free (Q:=fun _ s'=>SP X pins D .next s') (use:=some (assign (.Name x px) X.env)) rfl hs (tH (S.cells I)) S.kind S.names (aP (hi pins s σ H _ I h) fun v s1 h1=>aP h1 fun itv s2 h2=>?_))
  (fun _ s' hq=>aX8 (aX8 hq)) fun _ _ e=>e)
 obtain ⟨it,fp,tn,J,H2,e,I2,T,st2,f2,hW⟩:=h2
 subst e
 refine tO (Rr:=fun acc C=>compPost (model X.prog X.w) X.A X.xe (some (assign (.Name x px) X.env)) (fun _ s'=>SP X pins D .next s') acc C) hc S (B _ _) I2 T st2 f2 hW ?_
 intro D' C s' H' m hC hD I' hns hHC q
 refine wpAny_assign_Name (rY I' hN hix (.inl hx) (v:=.ref D') rfl (fun s'' I'' sb=>?_) (.inr hx))
 obtain ⟨a,sb,ha⟩:=sb
 have hCa:C ≠ a:=by
  rcases ha with z | z
  ·rw [z]; exact be6 (aY7 I2.lt hC)
  ·intro e; subst e
   obtain ⟨v,q⟩:=I2.cell x _ z
   exact absurd (aY7 q.lt hC) (bd7 _)
 exact⟨m,hns.sameBut sb hCa,fun h' sb'=>⟨_,H',I2.drop hC I'' hHC sb',q⟩⟩
end
theorem bQ {H:Hp}{p:Addr} (h:H p=none) (o:HO):aD H (upd H p o):=fun b u q=>by rw [aV (cG q h)]; exact q
theorem aD.tup {K:PySem.W.Frag}{H H':Hp}{a:Addr}{xs:List V} (e:aD H H') (h:aG K H a xs):aG K H' a xs:=by
 rcases h with (h | ⟨o,h⟩) | h
 ·exact .inl (.inl (e _ _ h))
 ·exact .inl (.inr ⟨o,e _ _ h⟩)
 ·exact .inr h
structure zT (H:Hp) (J:It) (xs:List V):Prop where
 go:∀ i H',aD H H'->i < xs.length->J.go i H'
 yld:∀ i H' x H2,aD H H'->J.yld i H' x H2->i < xs.length->xs[i]? = some x/\H2=H'
 stop:∀ H',aD H H'->J.stop xs.length H'
theorem an1 {K:PySem.W.Frag}{H:Hp}{a:Addr}{xs:List V} (h:aG K H a xs):zT H (j6 K a) xs:=
 ⟨fun i H' e hi=>⟨xs,xs[i],e.tup h,by simp [hi]⟩,fun i H' x H2 e y hi=>⟨y.2 xs (e.tup h),y.1⟩,fun H' e=>⟨xs,e.tup h,aX7 _⟩⟩
def CW (H1:Hp) (D:Addr) (n:Nat) (Pv:Nat->List V->Hp->Prop):Nat->Nat->List V->Hp->Prop:=fun i m acc H'=>m=n - i/\i<=n/\acc.length<=i/\aD H1 H'/\H' D=some (.lst acc)/\Pv i acc H'
def zU (H1:Hp) (D:Addr) (n:Nat) (Pv:Nat->List V->Hp->Prop) (i:Nat) (acc:List V) (v:V) (H5:Hp):Prop:=H5 D=some (.lst acc)/\acc.length < sizeLine/\∃ m',m' < n - i/\CW H1 D n Pv (i+1) m' (acc ++ [v]) (upd H5 D (.lst (acc ++ [v])))
def CNo (H1:Hp) (D:Addr) (n:Nat) (Pv:Nat->List V->Hp->Prop) (i:Nat) (acc:List V) (H4:Hp):Prop:=∃ m',m' < n - i/\CW H1 D n Pv (i+1) m' acc H4
structure tR (H1:Hp) (D:Addr) (n i:Nat) (acc:List V) (H':Hp):Prop where
 lt:i < n
 few:acc.length<=i
 sz:n<=sizeLine
 same:aD H1 H'
 new:H1 D=none
 acc:H' D=some (.lst acc)
theorem tR.yes {H1:Hp}{D:Addr}{n i:Nat}{acc:List V}{H' H5:Hp}{Pv:Nat->List V->Hp->Prop}{v:V} (c:tR H1 D n i acc H') (s:aD H' H5) (p:Pv (i+1) (acc ++ [v]) (upd H5 D (.lst (acc ++ [v])))):zU H1 D n Pv i acc v H5:=by
 refine⟨s _ _ c.acc,Nat.lt_of_le_of_lt c.few (aY7 c.lt c.sz),_,?_,rfl,c.lt,?_,fun b o e=>?_,bK,p⟩
 ·have:=c.lt; omega
 ·rw [ba0,bk8]; exact Nat.succ_le_succ c.few
 ·rw [aV (cG e c.new)]; exact s _ _ (c.same _ _ e)
theorem an2 {H1:Hp}{J:It}{xs:List V}{g:TG}{tc:TT}{te:TE}{σ0:St}{Q:VK} (O:zT H1 J xs) (Pv:Nat->List V->Hp->Prop) (hn:xs.length<=sizeLine)
  (h0:∀ D,H1 D=none->Pv 0 [] (upd H1 D (.lst [])))
  (hs:∀ i x acc D H',xs[i]? = some x->tR H1 D xs.length i acc H'->Pv i acc H'->g x σ0 H' fun σ2 H3=>Wk σ0 σ2/\tc σ2 H3 fun b H4=>
   if b=true then te σ2 H4 fun v H5=>zU H1 D xs.length Pv i acc v H5 else CNo H1 D xs.length Pv i acc H4)
  (hd:∀ D acc H',H1 D=none->aD H1 H'->H' D=some (.lst acc)->acc.length<=xs.length->Pv xs.length acc H'->Q (.ref D) H') :
  ∀ D,H1 D=none->∃ W:Nat->Nat->List V->Hp->Prop,(∃ m,W 0 m [] (upd H1 D (.lst [])))/\oZ g tc te σ0 J D Q W:=by
 intro D hD
 refine⟨CW H1 D xs.length Pv,⟨xs.length,rfl,bc6 _,aX7 _,bQ hD _,bK,h0 D hD⟩,?_⟩
 rintro i m acc H' ⟨rfl,hi,ha,sm,hDa,p⟩
 refine⟨hDa,?_⟩
 by_cases hlt:i < xs.length
 ·refine .inr ⟨O.go i H' sm hlt,fun x H2 y=>?_⟩
  obtain ⟨hx,e⟩:=O.yld i H' x H2 sm y hlt
  subst e
  exact hs i x acc D H2 hx ⟨hlt,ha,hn,sm,hD,hDa⟩ p
 ·have e:i=xs.length:=by omega
  subst e
  exact .inl ⟨O.stop H' sm,hd D acc H' hD sm hDa ha p⟩
end L2
namespace Srt
open PySem PySem.W PyProof.Rows
abbrev G (p:Array Nat) (i:Nat):Nat:=p.getD i 0
def PP (n:Nat) (p:Array Nat):Prop:=p.toList.Perm (List.range n)
structure zV (c:Nat->Nat->Bool):Prop where
 asym:∀ {i j},c i j=true->c j i=false
 ntr:∀ {i j k},c i j=false->c j k=false->c i k=false
section
variable {c : Nat → Nat → Bool} (O : zV c)
def Le (c:Nat->Nat->Bool) (i j:Nat):Prop:=c j i=false
include O
theorem le_refl (i:Nat):Le c i i:=by
 unfold Le
 cases h:c i i with
 | false=>rfl
 | true=>have:=O.asym h; rw [h] at this; exact this
theorem le_trans {i j k:Nat} (h1:Le c i j) (h2:Le c j k):Le c i k:=O.ntr h2 h1
end
end Srt
namespace L2
open PySem PySem.Spec PyProof.Rows
theorem tS:∀ {xs:List V}{us:List Value} (i:Nat),i < xs.length->aI xs us->aU (xs.getD i .non) (us.getD i Value.none)
 | _,_,_,h,.nil=>by simp at h
 | _,_,0,_,.cons r _=>by simpa using r
 | _,_,i+1,h,.cons _ t=>by
  have:=tS i (by simpa using h) t
  simpa using this
theorem p5 {α:Type}:∀ l:List α,(l.zip l).map (·.2)=l
 | []=>rfl
 | a :: l=>by
  show a :: ((l.zip l).map (·.2))=a :: l
  rw [p5 l]
theorem an3 {prog:Program}{w:World}{A:Around}{E:Value->Shared->Prop}{s:Shared}{a:Addr}{vs:List Value}{n:Nat}{P:PySem.Fin->Shared->Prop} (e:s.heap.get? a=some (seqObj "list" vs.toArray n)) (few:vs.length < 2)
  (q:P (.done (.ret .none)) { s with heap:=sortedHeap s.heap a vs vs.toArray }):wpAny (model prog w) A (Builtin.«list.sort» ⟨[.ref a],[]⟩) P E s:=by
 have big:vs.length<=sizeLine:=bb5 (bf3 few) (by decide)
 have la:=aY6 e
 have c:vs.toArray.size < 2:=by simpa using few
 have same:(arrOf (SortSt.mk' general' (vs.toArray.zip vs.toArray) #[] 7 none)).map (·.2)=vs.toArray:=by
  change (vs.toArray.zip vs.toArray).map (·.2)=vs.toArray
  apply Array.ext'
  simpa using p5 vs
 obtain ⟨k,ek⟩:∃ k,(s.heap.update a (Obj.mapSeq fun _=>#[])).get? a=some (seqObj "list" #[] k):=⟨_,get?_update_seq e fun _=>#[]⟩
 have there:(((s.heap.update a (Obj.mapSeq fun _=>#[])).push (seqObj "tuple" vs.toArray 0)).push (seqObj "list" #[] 0)).get? a=some (seqObj "list" #[] k):=
  aX2 _ (aX2 _ ek)
 rw [list_sort_plain]
 apply aX0
 apply listItems_at e rfl
 apply aX0
 refine listUpdate_at e rfl ?_ (by simpa using big) (bc6 _)
 apply aX0
 apply seqEpoch_at ek rfl
 apply aX0
 refine wpAny_newTuple ?_ big
 apply aX0
 refine wpAny_newList ?_ (bc6 _)
 apply bi9
 simp only [c,if_true,StateT.run_pure]
 apply aX0
 apply aX8
 apply aX0
 apply aX8
 apply aX0
 apply seqEpoch_at there rfl
 apply aX0
 refine listUpdate_at there rfl ?_ (bc6 _) (by rw [same,aX6]; exact Nat.le_succ_of_le big)
 rw [same]
 simp only [bne_self_eq_false,aZ6,be3]
 exact aX8 q
theorem an4 {prog:Program}{w:World}{A:Around}{E:Value->Shared->Prop}{s:Shared}{l:Addr}{vs:List Value}{Q:Value->Shared->Prop} (hl:s.heap.IsList l vs.toArray) (few:vs.length < 2)
  (q:Q (.ref (s.heap.objs.size+1)) { s with heap:=sortedAll s.heap vs vs.toArray }):wpAny (model prog w) A (call (.builtin "sorted") [.ref l]) Q E s:=by
 have big:vs.length<=sizeLine:=bb5 (bf3 few) (by decide)
 apply Calls.call_function_entry kind_sorted plain_sorted entry_sorted (args_sorted1 _)
 simp only [Builtin.«sorted»]
 apply aX0 (m:=checkCount "sorted" 1 1 _)
 apply aX8
 apply aX0
 refine collect_list hl ?_ big
 apply aX0
 refine wpAny_newList ?_ big
 have one:((s.heap.push (seqObj "list" #[] 0)).update s.heap.objs.size (Obj.mapSeq (· ++ vs.toArray))).objs.size=s.heap.objs.size+1:=(Heap.size_update _ _ _).trans (size_push' _ _)
 have at1:(((s.heap.push (seqObj "list" #[] 0)).update s.heap.objs.size (Obj.mapSeq (· ++ vs.toArray))).push (seqObj "list" vs.toArray 0)).get? (s.heap.objs.size+1)=some (seqObj "list" vs.toArray 0):=one ▸ aY8 _ rfl
 change wpAny _ _ _ _ _ { s with heap:=((s.heap.push (seqObj "list" #[] 0)).update s.heap.objs.size (Obj.mapSeq (· ++ vs.toArray))).push (seqObj "list" vs.toArray 0) }
 rw [one]
 apply aX0
 apply bi9
 refine be1 slot_list_sort ⟨_,at1,rfl⟩ entry_list_sort ?_ (args_list_sort _)
 refine an3 at1 few ⟨_,rfl,?_⟩
 exact aX8 ⟨_,rfl,q⟩
def zW (H:Hp):V->List Int
 | .ref b=>match H b with
  | some (.tup xs)=>xs.map fun x=>match x with
   | .int i=>i
   | _=>0
  | _=>[]
 | _=>[]
section
variable {prog : Program} {w : World} {A : Around} {s : Shared} {Q : Bool → Shared → Prop}
theorem zX:∀ {us ws:List Value}{xs ys:List Int} (i:Nat),IntsAre us xs->IntsAre ws ys->Q (HT.c9 xs ys) s->PySem.W.KatLex prog w A true (decide (us.length < ws.length)) Q (us.zip ws) i s
 | _,_,_,_,_,.nil,.nil,h=>h
 | _,_,_,_,_,.nil,.cons _ _ _,h=>h
 | _,_,_,_,_,.cons _ _ _,.nil,h=>h
 | _,_,_,_,i,.cons (vs:=us) x t hx,.cons (vs:=ws) y u hy,h=>by
  refine PySem.W.kat_cons (wpAny_eqBool_int ?_)
  rw [HT.j7] at h
  by_cases e:x=y
  ·rw [if_pos e] at h
   have eb:(x == y)=true:=by simpa using e
   rw [eb]
   refine PySem.W.kat_yes ?_
   have e2:decide ((Value.int x t :: us).length < (Value.int y u :: ws).length)=decide (us.length < ws.length):=by simp
   rw [e2]
   exact zX (i+1) hx hy h
  ·rw [if_neg e] at h
   have eb:(x == y)=false:=by simpa using e
   rw [eb]
   refine PySem.W.kat_no ?_
   cases hi:(true && i == 0) with
   | true=>exact PySem.W.kat_lt_int h
   | false=>exact PySem.W.kat_one _ _ (lt_int h)
end
end L2
namespace Raw
open PySem PySem.W PySem.Calls PyProof.Rows
def fG (h:Heap) (d:Addr) (es:Array DictEntry) (ep:Nat):Prop:=∃ o,h.get? d=some o/\o.ExactDict/\o.data = .dict es ep
theorem fG.ty {s:Shared}{d:Addr}{es:Array DictEntry}{ep:Nat} (x:fG s.heap d es ep):s.TypeIs (.ref d) "dict":=x.elim fun o y=>⟨o,y.1,y.2.1.1⟩
theorem fG.lt {h:Heap}{d:Addr}{es:Array DictEntry}{ep:Nat} (x:fG h d es ep):d < h.objs.size:=x.elim fun _ y=>aY6 y.1
theorem fG.keep {h h':Heap}{d:Addr}{es:Array DictEntry}{ep:Nat} (x:fG h d es ep) (k:∀ o,h.get? d=some o->h'.get? d=some o):fG h' d es ep:=x.elim fun o y=>⟨o,k o y.1,y.2⟩
section
variable {prog : Program} {w : World} {A : Around} {E : Value → Shared → Prop} {s : Shared} {d it : Addr} {es : Array DictEntry} {ep i : Nat}
theorem made (far:(d == sysModules)=false) (x:fG s.heap d es ep) {Q:Value->Shared->Prop}
  (q:Q (.ref s.heap.objs.size) { s with heap:=s.heap.push { cls:=.type "dict_keyiterator",data:=.fields #[.ref d,.int 0 0,.int es.size 0,.int ep 0] } }):wpAny (model prog w) A (pyIter (.ref d)) Q E s:=by
 have T:=x.ty
 obtain ⟨o,e1,e2,e3⟩:=x
 apply wpAny_pyIter_slot T PySem.F.slot_dict_iter
 apply be1 PySem.F.slot_dict_iter T PySem.F.entry_dict_iter _ (PySem.F.args_dict_iter_1 _)
 simp only [Builtin.«dict.__iter__»,Builtin.Dict.dictSlotNone]
 apply aX0
 apply aX0
 apply wpAny_notOrdered_dict T
 apply aX8
 change wpAny _ _ (Builtin.Dict.showsAll d >>= _) _ _ s
 have far':Builtin.Dict.showsAll d=pure ():=by
  unfold Builtin.Dict.showsAll
  simp only [far,aZ6,be3]
 rw [far',pure_bind]
 apply aX0
 apply wpAny_dictEntries e1 e3
 apply aX0
 apply wpAny_dictEpoch e1 e3
 apply aX0
 refine bf1 (aX8 ?_)
 refine⟨.ref s.heap.objs.size,rfl,"dict_keyiterator",_,⟨_,aY8 _ rfl,rfl⟩,PySem.F.slot_dict_keyiterator_next.lookup,?_⟩
 simpa only [rawInt] using q
theorem turn (hh:A.handled=none) (hi:s.heap.IsKeyIter it d i es.size ep) (x:fG s.heap d es ep) {Q:Option Value->Shared->Prop}
  (yes:∀ (lt:i < es.size) h',h'.IsKeyIter it d (i+1) es.size ep->Heap.SameBut it s.heap h'->Q (some es[i].key) { s with heap:=h' })
  (no:es.size<=i->∀ h',Heap.ExtBut it s.heap h'->Q none { s with heap:=h' }):wpAny (model prog w) A (pyNext (.ref it)) Q E s:=by
 have T:=hi.typeIs
 obtain ⟨oi,f1,f2,f3⟩:=hi
 obtain ⟨o,e1,e2,e3⟩:=x
 have slot:=PySem.F.slot_dict_keyiterator_next
 have plain:Builtin.Dict_items.ownsTuple "dict_keyiterator" = false:=by decide
 have isref:(Value.ref d == Value.none)=false:=rfl
 have nn : ¬ (i:Int) < 0:=by omega
 unfold pyNext
 apply aX0
 apply wpAny_attempt
 apply bd5 (name:=Str.ofString "__next__") T slot
 apply be1 slot T PySem.F.entry_dict_keyiterator_next _ (PySem.F.args_dict_keyiterator_next_1 _)
 apply aX0
 apply aX8
 apply aX0
 apply aX0
 apply aX0
 first
  | apply wpAny_typeNameOfWhole_keyiter T
  | apply wpAny_typeNameOf_keyiter T
 apply aX8
 apply aX0
 apply wpAny_fieldsOf f1 f3
 simp only [plain,aZ6,be3]
 change wpAny _ _ (if (Value.ref d == Value.none)=true then _ else _) _ _ s
 have adr:Builtin.Dict_items.addrOf (Value.ref d)=pure d:=rfl
 simp only [isref,aZ6,be3,adr,pure_bind]
 apply aX0
 apply wpAny_dictEntries e1 e3
 simp only [bne_self_eq_false,aZ6,be3]
 apply aX0
 apply wpAny_dictEpoch e1 e3
 simp only [bne_self_eq_false,aZ6,be3]
 apply aX8
 simp only [nn,be3,bj5]
 by_cases lt:i < es.size
 ·simp only [Array.getElem?_eq_getElem lt]
  apply aX0
  apply aX0
  first
   | apply wpAny_typeNameOfWhole_keyiter T
   | apply wpAny_typeNameOf_keyiter T
  apply aX8
  apply aX0
  apply wpAny_isOneOf_keyiter T
  change wpAny _ _ (setField (.ref it) 1 (rawInt ((i:Int)+1)) >>= _) _ _ s
  apply aX0
  refine wpAny_setField f1 f3 (by simp) ?_
  have again:(s.heap.update it (Obj.mapFields (·.setIfInBounds 1 (rawInt ((i:Int)+1))))).IsKeyIter it d (i+1) es.size ep:=by
   refine⟨_,Heap.get?_update_self _ f1 (Obj.isFreed_of_fields (Obj.data_mapFields f3 _)),?_,?_⟩
   ·rw [Obj.cls_mapFields]; exact f2
   ·rw [Obj.data_mapFields f3]; simp [rawInt]
  apply aX0
  apply bi9
  apply aX0
  refine wpAny_isOneOf_keyiter (s:={ s with heap:=s.heap.update it (Obj.mapFields (·.setIfInBounds 1 (rawInt ((i:Int)+1)))) }) again.typeIs ?_
  change wpAny _ _ (pure es[i].key) _ _ _
  apply aX8
  apply aX8
  exact⟨es[i].key,rfl,aX8 (yes lt _ again (bi3 ..))⟩
 ·have ge:es.size<=i:=bk2 lt
  simp only [Array.getElem?_eq_none ge]
  apply aX0
  apply aX0
  first
   | apply wpAny_typeNameOfWhole_keyiter T
   | apply wpAny_typeNameOf_keyiter T
  apply aX8
  change wpAny _ _ (setField (.ref it) 0 .none >>= _) _ _ s
  apply aX0
  refine wpAny_setField f1 f3 (by simp) ?_
  apply aX0
  simp only [newExc,newTuple]
  apply aX0
  refine bf1 ?_ (by size_fits)
  apply aX0
  refine wpAny_of_eq (a:=Value.none) (by first | rfl | (simp only [firstArgMember]; rfl)) ?_
  refine bf1 ?_ (by size_fits)
  unfold raiseNew
  apply aX0
  apply wpAny_handled
  have quiet:A.in1.handled=none:=hh
  rw [quiet]
  refine wpAny_throw ?_
  apply aX0
  refine wpAny_isInstance (T:="StopIteration") (b:=true) ⟨_,aY8 _ rfl,rfl⟩ isSubtype_stop ?_
  exact aX8 (no ge _ (((bi3 ..).extBut.push _).push _))
theorem an5 (hh:A.handled=none) (ne:d ≠ it):Walks prog w A it [it,d] [it] es.size (fun i v=>∃ lt:i < es.size,es[i].key=v) (fun i h=>h.IsKeyIter it d i es.size ep/\fG h d es ep) where
 sub:=by intro b hb; rw [aY3.mp hb]; exact aY1
 frame:=by
  intro i h h' st hk
  exact⟨st.1.at (hk it aY1),st.2.keep (hk d (aY2 _ aY1))⟩
 item:=by
  intro i s Q E lt st hQ
  refine turn hh st.1 st.2 (fun lt' h' again sb=>?_) fun ge=>absurd lt (Nat.not_lt.mpr ge)
  exact hQ _ h' s.toks ⟨lt',rfl⟩ ⟨again,st.2.keep fun o e=>sb.extBut d o ne e⟩ fun b o hb e=>sb.extBut b o (fun z=>hb (aY3.mpr z)) e
 done:=by
  intro s Q E st hQ
  refine turn hh st.1 st.2 (fun lt=>absurd lt (bd7 _)) fun _ h' eb=>?_
  exact hQ h' s.toks fun b o hb e=>eb b o (fun z=>hb (aY3.mpr z)) e
 self:=by intro i s Q E st hQ; exact wpAny_pyIter_keyiter st.1 hQ
theorem zY (far:(d == sysModules)=false):KdlSrc prog w "dict" d d es.size (fun i v=>∃ lt:i < es.size,es[i].key=v) (fun h=>fG h d es ep) where
 type:=fun _ x=>x.ty
 there:=fun _ x=>⟨x.lt,x.lt⟩
 keep:=fun _ _ x k=>x.keep (k d (.inl rfl))
 notList:=by decide
 notTuple:=by decide
 hint:=fun _ _ _ _ x q=>kdl_hint_dict x.ty q
 iter:=fun _ _ hh x=>⟨_,_,fun _ _ q=>made far x q,an5 hh (ba2 x.lt),⟨_,aY8 _ rfl,rfl,rfl⟩,x.keep fun o e=>aX2 _ e⟩
end
end Raw
namespace L2
open PySem PySem.Spec PyProof.Rows
section
variable {X : Cx} {pins : List (Addr × Obj)} {σ : St} {H : Hp} {s : Shared} {a : Addr}
def p6 (H:Hp) (y:V) (k:List a9):Prop:=∃ q,y = .ref q/\H q=some (.tup (k.map kV))
theorem an6 {kvs:List (a9 × V)} (I:a6 X pins σ H s) (h:H a=some (.dK kvs)):∃ es ep,Raw.fG s.heap a es ep/\(a == sysModules)=false/\aI (kvs.map fun p=>kV p.1) (es.toList.map (·.key))/\kvs.length<=sizeLine:=by
 obtain ⟨z,far,vs,rel,o,es,ep,e1,e2,e3,kk,pr,nd⟩:=(show bI X.prog X.w H s.heap a (.dK kvs) from I.hok a _ h)
 refine⟨es,ep,⟨o,e1,e2,e3⟩,far,?_,z⟩
 clear z far e1 e2 e3 kk nd h
 generalize es.toList=l at pr
 induction pr generalizing kvs with
 | nil=>cases rel; exact .nil
 | @cons e k es' kvs' h1 h2 _ ih=>
  cases rel with
  | @cons p q ps qs r rs=>
   refine .cons ?_ (ih rs)
   obtain ⟨r1,_⟩:=r
   show aU (kV p.1) e.key
   rw [r1]
   rcases gQ h1 with ⟨n,t,e4,e5⟩ | ⟨x,t,e4,e5⟩
   ·rw [e4,e5]; exact⟨t,rfl⟩
   ·rw [e4,e5]; exact⟨t,rfl⟩
theorem an7 {kvs:List (List a9 × V)} (I:a6 X pins σ H s) (h:H a=some (.dT kvs)):∃ es ep ys,Raw.fG s.heap a es ep/\(a == sysModules)=false/\Paired (p6 H) ys (kvs.map (·.1))/\aI ys (es.toList.map (·.key))/\kvs.length<=sizeLine:=by
 obtain ⟨z,far,xs,rel,o,es,ep,e1,e2,e3,e4,nd⟩:=(show bI X.prog X.w H s.heap a (.dT kvs) from I.hok a _ h)
 refine⟨es,ep,xs.map fun q=>V.ref q.2.1,⟨o,e1,e2,e3⟩,far,?_,?_,z⟩
 ·clear e4 nd h z
  induction rel with
  | nil=>exact .nil
  | cons r rs ih=>exact .cons ⟨_,rfl,r.2.1⟩ ih
 ·rw [e4]
  clear rel e4 nd
  induction xs with
  | nil=>exact .nil
  | cons q qs ih=>exact .cons rfl ih
theorem zZ {es:Array DictEntry}{acc:Array Value} (h:ItemsOf (fun i v=>∃ lt:i < es.size,es[i].key=v) acc es.size):acc.toList=es.toList.map (·.key):=by
 apply List.ext_getElem?
 intro j
 have h1:=h.1
 by_cases hj:j < es.size
 ·have hj':j < acc.size:=by rw [h1]; exact hj
  obtain ⟨_,e⟩:=h.2 j acc[j] (by simp [hj'])
  rw [aZ3]
  simp [hj,hj',e]
 ·have hj' : ¬ j < acc.size:=by rw [h1]; exact hj
  rw [aZ3]
  simp [bk2 hj,bk2 hj']
theorem an8 (hc:X.calm=true):cH X (.type "list") (fun xs H Q=>∃ a kvs,xs = [.ref a]/\H a=some (.dT kvs)/\∀ l ys,H l=none->Paired (p6 H) ys (kvs.map (·.1))->Q (.ref l) (upd H l (.lst ys))):=by
 intro pins s σ H xs us Q I r h
 obtain ⟨a,kvs,rfl,ha,q⟩:=h
 obtain ⟨u,rfl,ru⟩:=fS r
 cases ru
 obtain ⟨es,ep,ys,rd,far,pk,vk,z⟩:=an7 I ha
 have hl:=vk.length
 have hl2:=pk.length
 rw [aY0] at hl hl2
 have hsz:es.toList.length=es.size:=bb8
 refine PySem.W.kdl_call (Raw.zY far) (I.ok.hd hc) rd (by omega) fun h' tk acc c kp e it=>?_
 refine⟨.ref s.heap.objs.size,_,I.laid (t':=tk) kp (aX7 _) (show bI X.prog X.w _ h' _ (.lst ys) from ⟨by omega,acc.toList,c,by rw [zZ it]; exact vk,by simpa using e⟩),rfl,q _ ys (I.hok.fresh (aX7 _)) pk⟩
end
section
variable {X : Cx}
theorem an9:cH X (.builtin "isinstance") (fun xs H Q=>∃ x t n b,xs = [x,.ty n]/\eQ X.K H x t/\PySem.W.kitOne X.K t (.type n)=some b/\Q (.bl b) H):=by
 intro pins s σ H xs us Q I r h
 obtain ⟨x,t,n,b,rfl,ty,e,q⟩:=h
 obtain ⟨u,u',rfl,ru,ru'⟩:=oN r
 cases ru'
 exact ag6 I ru ty e fun tk=>⟨.bl b,H,I.tok tk,rfl,q⟩
end
def A0 (outer:List (Str × NameKind)) (XN:List Str) (names:List (Str × NameKind)) (N:List Str) (fr:List (Option Nat)):Bool:=
 names.all (fun y=>!(y.2 == .cell) || names.lookup y.1 == some .cell) && names.all (fun y=>!(y.2 == .local) || names.lookup y.1 == some .local) &&
 names.all (fun y=>!(y.2 == .free) || (outer.lookup y.1 == some .cell || outer.lookup y.1 == some .free)) && fr.length == N.length &&
 (fr.zip N).all (fun p=>match p.1 with
  | none=>true
  | some j=>XN[j]? == some p.2 && names.lookup p.2 == some .free)
theorem dD.of {X:Cx}{scope:Scope}{N:List Str}{fr:List (Option Nat)} (hk:scope.kind = .function) (h:A0 X.env.scope.names X.N scope.names N fr=true):dD X scope N fr:=by
 unfold A0 at h
 simp only [bb1] at h
 obtain ⟨⟨⟨⟨h1,h2⟩,h3⟩,h4⟩,h5⟩:=h
 refine⟨hk,fun y hy e=>?_,fun y hy e=>?_,fun y hy e=>?_,by simpa using h4,fun i j e=>?_⟩
 ·have:=bg8.mp h1 y hy
  rw [e] at this; simpa using this
 ·have:=bg8.mp h2 y hy
  rw [e] at this; simpa using this
 ·have:=bg8.mp h3 y hy
  rw [e] at this; simpa using this
 ·have hl:fr.length=N.length:=by simpa using h4
  have hi:i < fr.length:=(aY5.mp e).1
  have m:(some j,N[i]'(by omega)) ∈ fr.zip N:=by
   have:(fr.zip N)[i]? = some (some j,N[i]'(by omega)):=by
    rw [List.getElem?_zip_eq_some]
    exact⟨e,by simp⟩
   exact bb4 this
  have:=bg8.mp h5 _ m
  simp only [bb1,beq_iff_eq] at this
  exact⟨N[i]'(by omega),by simp,this.1,this.2⟩
theorem wk0 {n:Option V}{r:St}{v:V}:Wk (none :: r) (some v :: r):=(Wk.refl (none :: r)).set (i:=0) rfl
def lA (H:Hp) (ys:List V) (ls:List (Int × Int)):Prop:=Paired (fun y l=>∃ b,y = .ref b/\H b=some (.tup [.int l.1,.int l.2])) ys ls
structure A1 (H:Hp) (v:V) (ws:List Int) (ls:List (Int × Int)):Prop where
 at_:∃ a p q ys,v = .ref a/\H a=some (.tup [.ref p,.ref q])/\H p=some (.tup (ws.map V.int))/\H q=some (.tup ys)/\lA H ys ls
theorem lA.get {H:Hp}:∀ {ys:List V}{ls:List (Int × Int)}{i:Nat}{y:V},lA H ys ls->ys[i]? = some y->∃ l b,ls[i]? = some l/\y = .ref b/\H b=some (.tup [.int l.1,.int l.2])
 | _,_,_,_,.nil,e=>by simp at e
 | _,_,0,_,.cons (b:=l) ⟨b,h1,h2⟩ _,e=>by simp at e; subst e; exact⟨l,b,rfl,h1,h2⟩
 | _,_,i+1,_,.cons _ t,e=>by
  obtain ⟨l,b,h1,h2⟩:=lA.get (i:=i) t (by simpa using e)
  exact⟨l,b,by simpa using h1,h2⟩
def aH (ls:List (Int × Int)) (k:Int):List Int:=ls.flatMap fun l=>(if l.1=k then [l.2] else []) ++ (if l.2=k then [l.1] else [])
theorem ao0 (ls:List (Int × Int)) (l:Int × Int) (k:Int):aH (ls ++ [l]) k=aH ls k ++ ((if l.1=k then [l.2] else []) ++ (if l.2=k then [l.1] else [])):=by
 unfold aH; rw [List.flatMap_append]; simp
theorem ao1 {ls:List (Int × Int)}{i:Nat}{l:Int × Int} (h:ls[i]? = some l) (k:Int):aH (ls.take (i+1)) k=aH (ls.take i) k ++ ((if l.1=k then [l.2] else []) ++ (if l.2=k then [l.1] else [])):=by
 rw [bd2,h]; exact ao0 _ _ _
structure iK (H H':Hp) (r:Addr) (bs:List Addr) (f:Nat->List Int):Prop where
 new:H r=none
 news:∀ b ∈ bs,H b=none/\b ≠ r
 nd:bs.Nodup
 row:H' r=some (.lst (bs.map V.ref))
 rows:∀ (k:Nat) (b:Addr),bs[k]? = some b->H' b=some (.lst ((f k).map V.int))
 same:aD H H'
theorem iK.congr {H H':Hp}{r:Addr}{bs:List Addr}{f g:Nat->List Int} (h:iK H H' r bs f) (e:∀ k,k < bs.length->f k=g k):iK H H' r bs g:=
 ⟨h.new,h.news,h.nd,h.row,fun k b hb=>by rw [<- e k (aY5.mp hb).1]; exact h.rows k b hb,h.same⟩
theorem iK.app {H H':Hp}{r:Addr}{bs:List Addr}{f:Nat->List Int} (h:iK H H' r bs f) {k:Nat}{b:Addr} (hb:bs[k]? = some b) (x:Int) :
  iK H (upd H' b (.lst ((f k).map V.int ++ [V.int x]))) r bs (fun j=>if j=k then f j ++ [x] else f j):=by
 have hm:b ∈ bs:=bb4 hb
 refine⟨h.new,h.news,h.nd,by rw [aV (Ne.symm (h.news b hm).2)]; exact h.row,fun j c hc=>?_,fun c o e=>by rw [aV (cG e (h.news b hm).1)]; exact h.same c o e⟩
 by_cases hj:j=k
 ·subst hj
  rw [hb] at hc; cases hc
  rw [bK,if_pos rfl]; simp
 ·rw [if_neg hj]
  have ne:c ≠ b:=fun z=>by
   subst z
   obtain ⟨i1,e1⟩:=aY5.mp hb
   obtain ⟨i2,e2⟩:=aY5.mp hc
   refine hj (Nat.le_antisymm (bk2 fun z=>?_) (bk2 fun z=>?_))
   ·exact bc7.mp h.nd _ _ i1 i2 z (e1.trans e2.symm)
   ·exact bc7.mp h.nd _ _ i2 i1 z (e2.trans e1.symm)
  rw [aV ne]; exact h.rows j c hc
theorem mW (ls:List (Int × Int)) (k:Int):(aH ls k).length<=2 * ls.length:=by
 induction ls with
 | nil=>exact aX7 _
 | cons l r ih=>
  have e:aH (l :: r) k=((if l.1=k then [l.2] else []) ++ (if l.2=k then [l.1] else [])) ++ aH r k:=rfl
  rw [e,ba0,ba0,aZ7]
  have h1:(if l.1=k then [l.2] else []).length<=1:=by split <;> simp
  have h2:(if l.2=k then [l.1] else []).length<=1:=by split <;> simp
  omega
theorem p9 {α:Type}{xs:List α}{i:Int}{v:α} (h0:0<=i) (h:xs[i.toNat]? = some v):atI xs i=some v:=by
 have:=mP h
 rwa [show ((i.toNat:Nat):Int)=i by omega] at this
theorem jC {n:Nat} (h:n<=16000000):n < sizeLine:=by rw [sizeLine_eq]; omega
theorem ao2 {σ:St}{H:Hp}{A B:Hp->Prop} (h:A H):tL σ H fun b H4=>if b=true then A H4 else B H4:=by
 show if true=true then A H else B H
 rw [if_pos rfl]; exact h
theorem tT {K:PySem.W.Frag}{H:Hp}{p:Addr}{xs:List V} (h:aJ K H p xs):oP K "list" (.ref p) H:=.inl ⟨rfl,xs,h⟩
def mX (H:Hp) (y:V):Int × Int:=match zW H y with
 | [a,b]=>(a,b)
 | _=>(0,0)
theorem pA {H:Hp}:∀ {zs:List V},(∀ y ∈ zs,∃ b,y = .ref b/\H b=some (.tup [.int (mX H y).1,.int (mX H y).2])/\zW H y = [(mX H y).1,(mX H y).2])->lA H zs (zs.map (mX H))
 | [],_=>.nil
 | y :: zs,h=>by
  obtain ⟨b,e,hb,_⟩:=h y aY1
  exact .cons ⟨b,e,hb⟩ (pA fun z hz=>h z (aY2 _ hz))
theorem mY {l:Int × Int}{k x:Int}:x ∈ (if l.1=k then [l.2] else []) ++ (if l.2=k then [l.1] else []) ↔ (l.1=k/\x=l.2) ∨ (l.2=k/\x=l.1):=by
 rw [bb6]
 by_cases h1:l.1=k <;> by_cases h2:l.2=k <;> simp [h1,h2]
theorem k9 {ls:List (Int × Int)}{k x:Int}:x ∈ aH ls k ↔ (k,x) ∈ ls ∨ (x,k) ∈ ls:=by
 unfold aH
 rw [List.mem_flatMap]
 constructor
 ·rintro ⟨l,hl,hx⟩
  rcases mY.mp hx with ⟨h1,h2⟩ | ⟨h1,h2⟩
  ·left; rw [<- h1,h2]; exact hl
  ·right; rw [<- h1,h2]; exact hl
 ·rintro (h | h)
  ·exact⟨_,h,mY.mpr (.inl ⟨rfl,rfl⟩)⟩
  ·exact⟨_,h,mY.mpr (.inr ⟨rfl,rfl⟩)⟩
theorem jD {ls:List (Int × Int)}{k x:Int} (h:x ∈ aH ls k):k ∈ aH ls x:=k9.mpr (k9.mp h).symm
end L2
namespace Zp
open PySem PyProof.Rows
section
variable {prog : Program} {w : World} {A : Around} {E : Value → Shared → Prop} {s : Shared}
theorem A2 {it t:Addr}{i:Nat}{items:Array Value}{x:Value}{Q:Value->Shared->Prop} (hi:s.heap.IsTupleIter it t i) (ht:s.heap.IsTuple t items) (hx:items[i]? = some x)
  (q:∀ h',h'.IsTupleIter it t (i+1)->Heap.SameBut it s.heap h'->Q x { s with heap:=h' }):wpAny (model prog w) A (Builtin.SmallTypes.nextOf (.ref it)) Q E s:=by
 have T:=hi.typeIs
 obtain ⟨o,e1,e2,e3⟩:=hi
 obtain ⟨u,f1,_,k,f3⟩:=ht
 have slot:=PySem.F.slot_tuple_iterator_next
 have isref:(Value.ref t == Value.none)=false:=rfl
 unfold Builtin.SmallTypes.nextOf
 apply aX0
 apply bd5 (name:=Str.ofString "__next__") T slot
 apply be1 slot T PySem.F.entry_tuple_iterator_next _ (PySem.F.args_tuple_iterator_next_1 _)
 change wpAny _ _ (field (.ref it) 0 >>= _) _ _ s
 apply aX0
 refine bd4 e1 e3 (x:=.ref t) rfl ?_
 change wpAny _ _ (if (Value.ref t == Value.none)=true then _ else _) _ _ s
 simp only [isref,aZ6,be3]
 change wpAny _ _ (field (.ref it) 1 >>= _) _ _ s
 apply aX0
 refine bd4 e1 e3 (x:=.int i 0) rfl ?_
 change wpAny _ _ (seqItems? (.ref t) >>= _) _ _ s
 apply aX0
 apply bk4 f1 f3
 simp only [bj5,hx]
 apply aX0
 refine wpAny_setField e1 e3 (by simp) ?_
 apply aX8
 refine⟨x,rfl,aX8 (q _ ⟨_,Heap.get?_update_self _ e1 (Obj.isFreed_of_fields (Obj.data_mapFields e3 _)),?_,?_⟩ (bi3 ..))⟩
 ·rw [Obj.cls_mapFields]; exact e2
 ·rw [Obj.data_mapFields e3]; simp [rawInt]
theorem A3 {it t:Addr}{i:Nat}{items:Array Value}{Q:Value->Shared->Prop} (hh:A.handled=none) (hi:s.heap.IsTupleIter it t i) (ht:s.heap.IsTuple t items) (hx:items[i]? = none)
  (q:∀ h' e,Heap.ExtBut it s.heap h'->(∃ o,h'.get? e=some o/\o.cls = .type "StopIteration")->E (.ref e) { s with heap:=h' }):wpAny (model prog w) A (Builtin.SmallTypes.nextOf (.ref it)) Q E s:=by
 have T:=hi.typeIs
 obtain ⟨o,e1,e2,e3⟩:=hi
 obtain ⟨u,f1,_,k,f3⟩:=ht
 have slot:=PySem.F.slot_tuple_iterator_next
 have isref:(Value.ref t == Value.none)=false:=rfl
 unfold Builtin.SmallTypes.nextOf
 apply aX0
 apply bd5 (name:=Str.ofString "__next__") T slot
 apply be1 slot T PySem.F.entry_tuple_iterator_next _ (PySem.F.args_tuple_iterator_next_1 _)
 change wpAny _ _ (field (.ref it) 0 >>= _) _ _ s
 apply aX0
 refine bd4 e1 e3 (x:=.ref t) rfl ?_
 change wpAny _ _ (if (Value.ref t == Value.none)=true then _ else _) _ _ s
 simp only [isref,aZ6,be3]
 change wpAny _ _ (field (.ref it) 1 >>= _) _ _ s
 apply aX0
 refine bd4 e1 e3 (x:=.int i 0) rfl ?_
 change wpAny _ _ (seqItems? (.ref t) >>= _) _ _ s
 apply aX0
 apply bk4 f1 f3
 simp only [bj5,hx]
 apply aX0
 apply bj9
 apply aX0
 refine wpAny_setField e1 e3 (by simp) ?_
 apply aX0
 simp only [newExc,newTuple]
 apply aX0
 refine bf1 ?_ (by size_fits)
 apply aX0
 refine wpAny_of_eq (a:=Value.none) (by first | rfl | (simp only [firstArgMember]; rfl)) ?_
 refine bf1 ?_ (by size_fits)
 unfold raiseNew
 apply aX0
 apply wpAny_handled
 have quiet:A.in1.handled=none:=hh
 rw [quiet]
 refine wpAny_throw ?_
 exact q _ _ (((bi3 ..).extBut.push _).push _) ⟨_,aY8 _ rfl,rfl⟩
theorem ao3 (hh:A.handled=none) (it t:Addr) (ne:t ≠ it) (items:Array Value):Draws prog w A it [it,t] items.size (fun i v=>items[i]? = some v) (fun i h=>h.IsTupleIter it t i/\h.IsTuple t items) where
 live:=fun _ _ st=>st.1.elim fun o y=>⟨o,y.1⟩
 frame:=fun _ _ _ st k=>⟨st.1.at fun o e=>k it aY1 o e,st.2.elim fun o y=>⟨o,k t (aY2 _ aY1) o y.1,y.2⟩⟩
 item:=fun i s Q E lt st q=>A2 st.1 st.2 (Array.getElem?_eq_getElem lt) fun h' again sb=>q _ h' s.toks (Array.getElem?_eq_getElem lt) ⟨again,st.2.elim fun o y=>⟨o,sb.extBut t o ne y.1,y.2⟩⟩ sb
 done:=fun s Q E st q=>A3 hh st.1 st.2 (Array.getElem?_eq_none (aX7 _)) q
end
structure Ap (z TI TO i1 i2:Addr) (fp1 fp2:List Addr):Prop where
 TIz:TI ≠ z
 TOz:TO ≠ z
 TITO:TI ≠ TO
 z1:z ∉ fp1
 z2:z ∉ fp2
 o1:TO ∉ fp1
 o2:TO ∉ fp2
 t1:TI ∉ fp1
 t2:TI ∉ fp2
 m1:i1 ∈ fp1
 m2:i2 ∈ fp2
 n1:i1 ∉ fp2
 n2:i2 ∉ fp1
structure tV (z TI TO i1 i2:Addr) (St1 St2:Nat->Heap->Prop) (f0:Value) (i j:Nat) (h:Heap):Prop where
 zz:IsZip h z TI TO f0
 ti:IsPair h TI (.ref i1) (.ref i2)
 to_:∃ a b,IsPair h TO a b
 s1:St1 i h
 s2:St2 j h
section
variable {prog : Program} {w : World} {A : Around} {E : Value → Shared → Prop} {s : Shared} {z TI TO i1 i2 : Addr} {fp1 fp2 : List Addr} {n1 n2 : Nat} {P1 P2 : Nat → Value → Prop} {St1 St2 : Nat → Heap → Prop}
theorem lB (ap:Ap z TI TO i1 i2 fp1 fp2) {b:Addr} (h:b ∉ fp1):b ≠ i1:=fun e=>h (e ▸ ap.m1)
theorem pB (ap:Ap z TI TO i1 i2 fp1 fp2) {b:Addr} (h:b ∉ fp2):b ≠ i2:=fun e=>h (e ▸ ap.m2)
theorem item (D1:Draws prog w A.in1 i1 fp1 n1 P1 St1) (D2:Draws prog w A.in1 i2 fp2 n2 P2 St2) (ap:Ap z TI TO i1 i2 fp1 fp2) {i:Nat} (l1:i < n1) (l2:i < n2) (st:tV z TI TO i1 i2 St1 St2 .none i i s.heap) {Q:Option Value->Shared->Prop}
  (q:∀ x y h' tk,P1 i x->P2 i y->tV z TI TO i1 i2 St1 St2 (rawInt s.heap.objs.size) (i+1) (i+1) h'->IsPair h' s.heap.objs.size x y->(∀ c o,c ≠ z->c ≠ TO->c ≠ i1->c ≠ i2->s.heap.get? c=some o->h'.get? c=some o)->
   h'.objs.size=s.heap.objs.size+1->Q (some (.ref s.heap.objs.size)) { s with heap:=h',toks:=tk }):wpAny (model prog w) A (pyNext (.ref z)) Q E s:=by
 obtain ⟨hz,hti,⟨a,b,hto⟩,h1,h2⟩:=st
 have T:s.TypeIs (.ref z) "zip":=⟨_,hz,rfl⟩
 have slot:=PySem.F.slot_zip_next
 unfold pyNext
 apply aX0
 apply wpAny_attempt
 apply bd5 (name:=Str.ofString "__next__") T slot
 apply be1 slot T PySem.F.entry_zip_next _ (PySem.F.args_zip_next_1 _)
 change wpAny _ _ (field (.ref z) 2 >>= _) _ _ _
 apply aX0
 refine bd4 hz rfl (x:=.bool false) rfl ?_
 change wpAny _ _ (field (.ref z) 3 >>= _) _ _ _
 apply aX0
 refine bd4 hz rfl (x:=.ref TI) rfl ?_
 apply aX0
 apply bk4 hti rfl
 change wpAny _ _ (Builtin.SmallTypes.ownedTupleIsFree (.ref z) >>= _) _ _ _
 apply aX0
 unfold Builtin.SmallTypes.ownedTupleIsFree
 apply aX0
 refine bd4 hz rfl (x:=.none) rfl (aX8 ?_)
 simp only [if_true]
 apply aX0
 apply bj9
 apply aX0
 refine bd4 hz rfl (x:=.ref TO) rfl ?_
 apply aX0
 refine be4 hz (by simp) fun g1 hz1 sb1=>?_
 have k1:∀ c o,c ≠ z->s.heap.get? c=some o->g1.get? c=some o:=fun c o c1 e=>sb1.extBut c o c1 e
 apply aX0
 simp only [List.zipIdx_cons,List.zipIdx_nil,List.forIn_cons,List.forIn_nil]
 apply aX0
 apply aX0
 apply wpAny_onRaise
 change wpAny _ _ (Builtin.SmallTypes.nextOf (.ref i1) >>= _) _ _ _
 apply aX0
 refine D1.item i { s with heap:=g1 } _ _ l1 (D1.frame _ _ _ h1 fun c hc o e=>k1 c o (fun y=>ap.z1 (y ▸ hc)) e) fun x g2 tk2 px st1 sb2=>aX8 ?_
 have k2:∀ c o,c ≠ z->c ≠ i1->s.heap.get? c=some o->g2.get? c=some o:=fun c o c1 c2 e=>sb2.extBut c o c2 (k1 c o c1 e)
 have to2:IsPair g2 TO a b:=k2 _ _ ap.TOz (lB ap ap.o1) hto
 apply aX0
 apply bk4 to2 rfl
 apply aX0
 refine wpAny_updateSeq_pair to2 fun g3 to3 sb3=>?_
 have to3:IsPair g3 TO x b:=to3
 apply aX0
 apply wpAny_letGo
 apply aX8
 apply aX0
 apply aX0
 apply wpAny_onRaise
 change wpAny _ _ (Builtin.SmallTypes.nextOf (.ref i2) >>= _) _ _ _
 apply aX0
 have k3:∀ c o,c ≠ z->c ≠ i1->c ≠ TO->s.heap.get? c=some o->g3.get? c=some o:=fun c o c1 c2 c3 e=>sb3.extBut c o c3 (k2 c o c1 c2 e)
 refine D2.item i { s with heap:=g3,toks:=tk2 } _ _ l2 (D2.frame _ _ _ h2 fun c hc o e=>k3 c o (fun y=>ap.z2 (y ▸ hc)) (fun y=>ap.n1 (y ▸ hc)) (fun y=>ap.o2 (y ▸ hc)) e) fun y g4 tk4 py st2 sb4=>aX8 ?_
 have to4:IsPair g4 TO x b:=sb4.extBut _ _ (pB ap ap.o2) to3
 apply aX0
 apply bk4 to4 rfl
 apply aX0
 refine wpAny_updateSeq_pair to4 fun g5 to5 sb5=>?_
 have to5:IsPair g5 TO x y:=to5
 apply aX0
 apply wpAny_letGo
 apply aX8
 apply aX8
 apply aX0
 apply bk4 to5 rfl
 apply aX0
 refine wpAny_newTuple ?_ (by show 2<=sizeLine; decide)
 have size:g5.objs.size=s.heap.objs.size:=by rw [sb5.1,sb4.1,sb3.1,sb2.1,sb1.1]
 have k5:∀ c o,c ≠ z->c ≠ TO->c ≠ i1->c ≠ i2->s.heap.get? c=some o->g5.get? c=some o:=fun c o c1 c2 c3 c4 e=>sb5.extBut c o c2 (sb4.extBut c o c4 (k3 c o c1 c3 c2 e))
 have z5:IsZip g5 z TI TO .ellipsis:=sb5.extBut _ _ (Ne.symm ap.TOz) (sb4.extBut _ _ (pB ap ap.z2) (sb3.extBut _ _ (Ne.symm ap.TOz) (sb2.extBut _ _ (lB ap ap.z1) hz1)))
 change wpAny _ _ (Builtin.SmallTypes.ownedTupleHandOut (.ref z) (.ref g5.objs.size) >>= _) _ _ _
 apply aX0
 unfold Builtin.SmallTypes.ownedTupleHandOut
 apply aX0
 have z6:IsZip (g5.push { cls:=.type "tuple",data:=.seq #[x,y] }) z TI TO .ellipsis:=aX2 _ z5
 refine be4 z6 (by simp) fun g7 z7 sb7=>?_
 have z7:IsZip g7 z TI TO (rawInt g5.objs.size):=z7
 refine be4 z7 (by simp) fun g8 z8 sb8=>?_
 have z8:IsZip g8 z TI TO (rawInt g5.objs.size):=z8
 have zlt:z < g5.objs.size:=aY6 z5
 have up:∀ c o,c ≠ z->g5.get? c=some o->g8.get? c=some o:=fun c o c1 e=>sb8.extBut c o c1 (sb7.extBut c o c1 (aX2 _ e))
 have p8:IsPair g8 g5.objs.size x y:=sb8.extBut _ _ (be6 zlt) (sb7.extBut _ _ (be6 zlt) (aY8 _ rfl))
 have s8:g8.objs.size=g5.objs.size+1:=by rw [sb8.1,sb7.1,bg4]
 have f1:St1 (i+1) g8:=D1.frame _ _ _ st1 fun c hc o e=>up c o (fun y=>ap.z1 (y ▸ hc)) (sb5.extBut c o (fun y=>ap.o1 (y ▸ hc)) (sb4.extBut c o (fun y=>ap.n2 (y ▸ hc)) (sb3.extBut c o (fun y=>ap.o1 (y ▸ hc)) e)))
 have f2:St2 (i+1) g8:=D2.frame _ _ _ st2 fun c hc o e=>up c o (fun y=>ap.z2 (y ▸ hc)) (sb5.extBut c o (fun y=>ap.o2 (y ▸ hc)) e)
 have ti8:IsPair g8 TI (.ref i1) (.ref i2):=up _ _ ap.TIz (k5 _ _ ap.TIz ap.TITO (lB ap ap.t1) (pB ap ap.t2) hti)
 rw [size] at z8 p8 s8
 apply aX8
 refine⟨_,rfl,aX8 ?_⟩
 change Q (some (.ref g5.objs.size)) _
 rw [size]
 exact q x y g8 tk4 px py ⟨z8,ti8,⟨x,y,up _ _ ap.TOz to5⟩,f1,f2⟩ p8 (fun c o c1 c2 c3 c4 e=>up c o c1 (k5 c o c1 c2 c3 c4 e)) s8
theorem fin (D1:Draws prog w A.in1 i1 fp1 n1 P1 St1) (D2:Draws prog w A.in1 i2 fp2 n2 P2 St2) (ap:Ap z TI TO i1 i2 fp1 fp2) {i:Nat} (le:i=n1 ∨ (i < n1/\i=n2)) (st:tV z TI TO i1 i2 St1 St2 .none i i s.heap) {Q:Option Value->Shared->Prop}
  (q:∀ h' tk,(∀ c o,c ≠ z->c ≠ TO->c ≠ i1->c ≠ i2->s.heap.get? c=some o->h'.get? c=some o)->Q none { s with heap:=h',toks:=tk }):wpAny (model prog w) A (pyNext (.ref z)) Q E s:=by
 obtain ⟨hz,hti,⟨a,b,hto⟩,h1,h2⟩:=st
 have T:s.TypeIs (.ref z) "zip":=⟨_,hz,rfl⟩
 have slot:=PySem.F.slot_zip_next
 unfold pyNext
 apply aX0
 apply wpAny_attempt
 apply bd5 (name:=Str.ofString "__next__") T slot
 apply be1 slot T PySem.F.entry_zip_next _ (PySem.F.args_zip_next_1 _)
 change wpAny _ _ (field (.ref z) 2 >>= _) _ _ _
 apply aX0
 refine bd4 hz rfl (x:=.bool false) rfl ?_
 change wpAny _ _ (field (.ref z) 3 >>= _) _ _ _
 apply aX0
 refine bd4 hz rfl (x:=.ref TI) rfl ?_
 apply aX0
 apply bk4 hti rfl
 change wpAny _ _ (Builtin.SmallTypes.ownedTupleIsFree (.ref z) >>= _) _ _ _
 apply aX0
 unfold Builtin.SmallTypes.ownedTupleIsFree
 apply aX0
 refine bd4 hz rfl (x:=.none) rfl (aX8 ?_)
 simp only [if_true]
 apply aX0
 apply bj9
 apply aX0
 refine bd4 hz rfl (x:=.ref TO) rfl ?_
 apply aX0
 refine be4 hz (by simp) fun g1 hz1 sb1=>?_
 have k1:∀ c o,c ≠ z->s.heap.get? c=some o->g1.get? c=some o:=fun c o c1 e=>sb1.extBut c o c1 e
 apply aX0
 simp only [List.zipIdx_cons,List.zipIdx_nil,List.forIn_cons,List.forIn_nil]
 apply aX0
 apply aX0
 apply wpAny_onRaise
 change wpAny _ _ (Builtin.SmallTypes.nextOf (.ref i1) >>= _) _ _ _
 apply aX0
 have z1:IsZip g1 z TI TO .ellipsis:=hz1
 rcases le with rfl | ⟨lt,rfl⟩
 ·refine D1.done { s with heap:=g1 } _ _ (D1.frame _ _ _ h1 fun c hc o e=>k1 c o (fun y=>ap.z1 (y ▸ hc)) e) fun g2 e eb ex=>?_
  have z2:IsZip g2 z TI TO .ellipsis:=eb _ _ (lB ap ap.z1) z1
  refine be4 z2 (by simp) fun g3 z3 sb3=>?_
  obtain ⟨oe,eo,co⟩:=ex
  have ne:e ≠ z:=fun y=>by
   rw [y,z2] at eo
   have:=aZ8 eo
   rw [<- this] at co; exact absurd (show Value.type "zip" = Value.type "StopIteration" from co) (by decide)
  apply aX0
  refine wpAny_isInstance (T:="StopIteration") (b:=true) ⟨oe,sb3.extBut _ _ ne eo,co⟩ isSubtype_stop ?_
  exact aX8 (q g3 s.toks fun c o c1 _ c3 _ e=>sb3.extBut c o c1 (eb c o c3 (k1 c o c1 e)))
 ·refine D1.item i { s with heap:=g1 } _ _ lt (D1.frame _ _ _ h1 fun c hc o e=>k1 c o (fun y=>ap.z1 (y ▸ hc)) e) fun x g2 tk2 px st1 sb2=>aX8 ?_
  have k2:∀ c o,c ≠ z->c ≠ i1->s.heap.get? c=some o->g2.get? c=some o:=fun c o c1 c2 e=>sb2.extBut c o c2 (k1 c o c1 e)
  have to2:IsPair g2 TO a b:=k2 _ _ ap.TOz (lB ap ap.o1) hto
  apply aX0
  apply bk4 to2 rfl
  apply aX0
  refine wpAny_updateSeq_pair to2 fun g3 to3 sb3=>?_
  apply aX0
  apply wpAny_letGo
  apply aX8
  apply aX0
  apply aX0
  apply wpAny_onRaise
  change wpAny _ _ (Builtin.SmallTypes.nextOf (.ref i2) >>= _) _ _ _
  apply aX0
  have k3:∀ c o,c ≠ z->c ≠ i1->c ≠ TO->s.heap.get? c=some o->g3.get? c=some o:=fun c o c1 c2 c3 e=>sb3.extBut c o c3 (k2 c o c1 c2 e)
  refine D2.done { s with heap:=g3,toks:=tk2 } _ _ (D2.frame _ _ _ h2 fun c hc o e=>k3 c o (fun y=>ap.z2 (y ▸ hc)) (fun y=>ap.n1 (y ▸ hc)) (fun y=>ap.o2 (y ▸ hc)) e) fun g4 e eb ex=>?_
  have z4:IsZip g4 z TI TO .ellipsis:=eb _ _ (pB ap ap.z2) (sb3.extBut _ _ (Ne.symm ap.TOz) (sb2.extBut _ _ (lB ap ap.z1) z1))
  refine be4 z4 (by simp) fun g5 z5 sb5=>?_
  obtain ⟨oe,eo,co⟩:=ex
  have ne:e ≠ z:=fun y=>by
   rw [y,z4] at eo
   have:=aZ8 eo
   rw [<- this] at co; exact absurd (show Value.type "zip" = Value.type "StopIteration" from co) (by decide)
  apply aX0
  refine wpAny_isInstance (T:="StopIteration") (b:=true) ⟨oe,sb5.extBut _ _ ne eo,co⟩ isSubtype_stop ?_
  exact aX8 (q g5 tk2 fun c o c1 c2 c3 c4 e=>sb5.extBut c o c1 (eb c o c4 (k3 c o c1 c3 c2 e)))
end
def fH (h:Heap) (t u:Addr):Heap:=
 ((((h.push { cls:=.type "tuple_iterator",data:=.fields #[.ref t,.int 0 0] }).push { cls:=.type "tuple_iterator",data:=.fields #[.ref u,.int 0 0] }).push { cls:=.type "tuple",data:=.seq #[.ref h.objs.size,.ref (h.objs.size+1)] }).push
  { cls:=.type "tuple",data:=.seq #[.none,.none] }).push { cls:=.type "zip",data:=.fields #[.none,.bool false,.bool false,.ref (h.objs.size+2),.ref (h.objs.size+3)] }
theorem ao4 (t u:Addr) (xs ys:Array Value):Meets (Builtin.«zip.__new__» ⟨[.type "zip",.ref t,.ref u],[]⟩) (fun _ R s=>s.heap.IsTuple t xs/\s.heap.IsTuple u ys/\R (.ok (.ret (.ref (s.heap.objs.size+4)))) { s with heap:=fH s.heap t u }):=
 .of_wp fun prog w A R s h=>by
  obtain ⟨hp,g,d,tk,os⟩:=s
  obtain ⟨ht,hu,h⟩:=h
  have sub:=sub_zip
  have a1:Heap.IsTuple (Shared.heap ⟨hp,g,d,tk,os⟩) t xs:=ht
  have a2:Heap.IsTuple (Shared.heap ⟨hp.push { cls:=.type "tuple_iterator",data:=.fields #[.ref t,.int 0 0] },g,d,tk,os⟩) u ys:=hu.elim fun o y=>⟨o,aX2 _ y.1,y.2⟩
  wp_walk using bh3 a1,bh3 a2
  have e:∀ (o:Obj) (k:Heap),(k.push o).objs.size=k.objs.size+1:=fun o k=>bg4 ..
  refine⟨_,rfl,?_⟩
  simp only [fH,e] at h ⊢
  exact h
section
variable {prog : Program} {w : World} {A : Around} {E : Value → Shared → Prop} {s : Shared}
theorem ao5 {t u:Addr}{xs ys:Array Value}{Q:Value->Shared->Prop} (ht:s.heap.IsTuple t xs) (hu:s.heap.IsTuple u ys)
  (q:∀ h',IsZip h' (s.heap.objs.size+4) (s.heap.objs.size+2) (s.heap.objs.size+3) .none->IsPair h' (s.heap.objs.size+2) (.ref s.heap.objs.size) (.ref (s.heap.objs.size+1))->
   IsPair h' (s.heap.objs.size+3) .none .none->h'.IsTupleIter s.heap.objs.size t 0->h'.IsTupleIter (s.heap.objs.size+1) u 0->(∀ c o,s.heap.get? c=some o->h'.get? c=some o)->Q (.ref (s.heap.objs.size+4)) { s with heap:=h' }) :
  wpAny (model prog w) A (call (.type "zip") [.ref t,.ref u]) Q E s:=by
 refine callType_new PySem.F.called_zip (by decide) (PySem.F.typeCall_zip_2 _ _) (PySem.F.newCall_zip_2 _ _) (fun obj=>PySem.F.args_object_init_3 obj _ _) PySem.F.entry_zip_new (ao4 t u xs ys) ⟨ht,hu,?_⟩
 have e:∀ (o:Obj) (k:Heap),(k.push o).objs.size=k.objs.size+1:=fun o k=>bg4 ..
 have p0:∀ (k:Heap) (o:Obj) (m:Nat),o.isFreed=false->m=k.objs.size->(k.push o).get? m=some o:=fun k o m f z=>by rw [z]; exact aY8 _ f
 have g0:(fH s.heap t u).get? s.heap.objs.size=some { cls:=.type "tuple_iterator",data:=.fields #[.ref t,.int 0 0] }:=by
  unfold fH
  exact aX2 _ (aX2 _ (aX2 _ (aX2 _ (p0 _ _ _ rfl rfl))))
 have g1:(fH s.heap t u).get? (s.heap.objs.size+1)=some { cls:=.type "tuple_iterator",data:=.fields #[.ref u,.int 0 0] }:=by
  unfold fH
  exact aX2 _ (aX2 _ (aX2 _ (p0 _ _ _ rfl (by simp only [e]))))
 have g2:(fH s.heap t u).get? (s.heap.objs.size+2)=some { cls:=.type "tuple",data:=.seq #[.ref s.heap.objs.size,.ref (s.heap.objs.size+1)] }:=by
  unfold fH
  exact aX2 _ (aX2 _ (p0 _ _ _ rfl (by simp only [e])))
 have g3:(fH s.heap t u).get? (s.heap.objs.size+3)=some { cls:=.type "tuple",data:=.seq #[.none,.none] }:=by
  unfold fH
  exact aX2 _ (p0 _ _ _ rfl (by simp only [e]))
 have g4:(fH s.heap t u).get? (s.heap.objs.size+4)=some { cls:=.type "zip",data:=.fields #[.none,.bool false,.bool false,.ref (s.heap.objs.size+2),.ref (s.heap.objs.size+3)] }:=by
  unfold fH
  exact p0 _ _ _ rfl (by simp only [e])
 refine⟨⟨_,g4,rfl⟩,q _ g4 g2 g3 ⟨_,g0,rfl,rfl⟩ ⟨_,g1,rfl,rfl⟩ fun c o z=>?_⟩
 unfold fH
 exact aX2 _ (aX2 _ (aX2 _ (aX2 _ (aX2 _ z))))
end
end Zp
namespace L2
open PySem PySem.Spec PyProof.Rows
def tW (K:PySem.W.Frag) (a b:Addr):It:=
  ⟨fun i H=>∃ xs ys x y,aG K H a xs/\aG K H b ys/\xs[i]? = some x/\ys[i]? = some y,
   fun i H v H'=>∃ T x y,H T=none/\v = .ref T/\H'=upd H T (.tup [x,y])/\∀ xs ys,aG K H a xs->aG K H b ys->xs[i]? = some x/\ys[i]? = some y,
   fun i H=>∃ xs ys,aG K H a xs/\aG K H b ys/\(i=xs.length ∨ (i < xs.length/\i=ys.length))⟩
def Sq (t:Bool) (K:PySem.W.Frag) (H:Hp) (a:Addr) (xs:List V):Prop:=match t with
 | true=>aG K H a xs
 | false=>aJ K H a xs
def fI (t:Bool) (h:Heap) (i a:Addr) (n:Nat):Prop:=match t with
 | true=>h.IsTupleIter i a n
 | false=>h.IsListIter i a n
def A4 (t:Bool) (h:Heap) (a:Addr) (xs:Array Value):Prop:=match t with
 | true=>h.IsTuple a xs
 | false=>h.IsList a xs
theorem fI.at {h h':Heap}{i a:Addr}{n:Nat}:∀ {t:Bool},fI t h i a n->(∀ o,h.get? i=some o->h'.get? i=some o)->fI t h' i a n
 | true,x,k=>Heap.IsTupleIter.at x k
 | false,x,k=>Heap.IsListIter.at x k
theorem fI.ob {h:Heap}{i a:Addr}{n:Nat}:∀ {t:Bool},fI t h i a n->∃ o,h.get? i=some o/\∀ v,o.data ≠ .cell v
 | true,⟨o,f,_,d⟩=>⟨o,f,fun v q=>by rw [d] at q; cases q⟩
 | false,⟨o,f,_,d⟩=>⟨o,f,fun v q=>by rw [d] at q; cases q⟩
theorem fI.draws {prog:Program}{w:World}{A:Around}:∀ (t:Bool) (hh:A.handled=none) (it a:Addr) (ne:a ≠ it) (items:Array Value),Draws prog w A it [it,a] items.size (fun i v=>items[i]? = some v) (fun i h=>fI t h it a i/\A4 t h a items)
 | true,hh,it,a,ne,items=>Zp.ao3 hh it a ne items
 | false,hh,it,a,ne,items=>Draws.list hh it a ne items
section
variable {X : Cx} {pins : List (Addr × Obj)} {σ : St} {H : Hp} {s : Shared} {a : Addr} {xs ys : List V}
theorem Sq.get (I:a6 X pins σ H s):∀ {t:Bool},Sq t X.K H a xs->∃ us,aI xs us/\A4 t s.heap a us.toArray
 | true,h=>by obtain ⟨us,r,p,_⟩:=I.tuple h; exact⟨us,r,p⟩
 | false,h=>by obtain ⟨us,r,p,_⟩:=I.list h; exact⟨us,r,p.isList⟩
theorem Sq.inj (I:a6 X pins σ H s):∀ {t:Bool},Sq t X.K H a xs->Sq t X.K H a ys->xs=ys
 | true,h,g=>I.tuple_inj h g
 | false,h,g=>I.list_inj h g
theorem Sq.off (I:a6 X pins σ H s) (he:H a=none) (hb:X.base.get? a=none):∀ {t:Bool},Sq t X.K H a xs->False
 | true,h=>by
  rcases h with (h | ⟨_,h⟩) | ⟨o,_,_,h,_⟩
  ·rw [he] at h; cases h
  ·rw [he] at h; cases h
  ·have:=I.ok.mod.kin a o h
   rw [hb] at this; cases this
 | false,h=>by
  rcases h with (h | ⟨_,h⟩) | ⟨o,_,_,h,_⟩
  ·rw [he] at h; cases h
  ·rw [he] at h; cases h
  ·have:=I.ok.mod.kin a o h
   rw [hb] at this; cases this
end
def ao6 (t1 t2:Bool) (K:PySem.W.Frag) (a b:Addr):It:=
  ⟨fun i H=>∃ xs ys x y,Sq t1 K H a xs/\Sq t2 K H b ys/\xs[i]? = some x/\ys[i]? = some y,
   fun i H v H'=>∃ T x y,H T=none/\v = .ref T/\H'=upd H T (.tup [x,y])/\∀ xs ys,Sq t1 K H a xs->Sq t2 K H b ys->xs[i]? = some x/\ys[i]? = some y,
   fun i H=>∃ xs ys,Sq t1 K H a xs/\Sq t2 K H b ys/\(i=xs.length ∨ (i < xs.length/\i=ys.length))⟩
structure tX (t1 t2:Bool) (z TI TO i1 i2 a b:Addr) (i:Nat) (h:Heap):Prop where
 zz:IsZip h z TI TO .none
 ti:IsPair h TI (.ref i1) (.ref i2)
 to_:∃ x y,IsPair h TO x y
 s1:fI t1 h i1 a i
 s2:fI t2 h i2 b i
theorem A5 (t1 t2:Bool) {P:Program}{w:World}{K:PySem.W.Frag}{elts:List Expr}{k:Nat}{pos:Pos} (a b z TI TO i1 i2:Addr) (d : [z,TI,TO,i1,i2].Nodup) :
  gR P w K (.Tuple elts k pos) (ao6 t1 t2 K a b) [z,TI,TO,i1,i2] z (tX t1 t2 z TI TO i1 i2 a b):=by
 have nd:z ≠ TI/\z ≠ TO/\z ≠ i1/\z ≠ i2/\TI ≠ TO/\TI ≠ i1/\TI ≠ i2/\TO ≠ i1/\TO ≠ i2/\i1 ≠ i2:=by
  simp only [be9,aX9,aY9,bc2,not_or] at d
  obtain ⟨⟨a1,a2,a3,a4⟩,⟨b1,b2,b3⟩,⟨c1,c2⟩,e1,_⟩:=d
  exact⟨a1,a2,a3,a4,b1,b2,b3,c1,c2,e1⟩
 obtain ⟨n1,n2,n3,n4,n5,n6,n7,n8,n9,n10⟩:=nd
 have offBase:∀ {X:Cx}{pins:List (Addr × Obj)}{σ:St}{H:Hp}{s:Shared},a6 X pins σ H s->(∀ c ∈ [z,TI,TO,i1,i2],fD X pins H c)->∀ c ∈ [z,TI,TO,i1,i2],X.base.get? c=none:=by
  intro X pins σ H s I hf c hc
  cases q:X.base.get? c with
  | none=>rfl
  | some o=>
   rcases (hf c hc).2.2.2.1 with h | h
   ·exact absurd h (I.ok.noex c o q)
   ·exact absurd (aY7 (aY6 q) (bb5 I.ok.bsz h)) (bd7 _)
 have off:∀ {t:Bool}{X:Cx}{pins:List (Addr × Obj)}{σ:St}{H:Hp}{s:Shared}{c:Addr}{zs:List V},a6 X pins σ H s->(∀ c ∈ [z,TI,TO,i1,i2],fD X pins H c)->Sq t X.K H c zs->c ∉ [z,TI,TO,i1,i2]:=by
  intro t X pins σ H s c zs I hf hc hm
  exact Sq.off I (hf c hm).1 (offBase I hf c hm) hc
 have ap:∀ {c e:Addr},c ∉ [z,TI,TO,i1,i2]->e ∉ [z,TI,TO,i1,i2]->Zp.Ap z TI TO i1 i2 [i1,c] [i2,e]:=fun {c e} hc he=>by
  simp only [aX9,aY9,bc2,not_or] at hc he
  obtain ⟨c1,c2,c3,c4,c5⟩:=hc
  obtain ⟨e1,e2,e3,e4,e5⟩:=he
  have two:∀ {q u v:Addr},q ≠ u->q ≠ v->q ∉ [u,v]:=fun {q u v} h1 h2 hm=>by
   simp only [aX9,aY9,bc2] at hm
   exact hm.elim h1 h2
  exact⟨n1.symm,n2.symm,n5,two n3 (Ne.symm c1),two n4 (Ne.symm e1),two n8 (Ne.symm c3),two n9 (Ne.symm e3),two n6 (Ne.symm c2),two n7 (Ne.symm e2),aY1,aY1,two n10 (Ne.symm e4),two n10.symm (Ne.symm c5)⟩
 refine⟨by simp,fun i h st c hc=>?_,fun i h h' st kp=>?_,?_,?_,fun A i s Q E st q=>wpAny_pyIter_zip st.zz q⟩
 ·simp only [aX9,aY9,bc2] at hc
  obtain ⟨x,y,to⟩:=st.to_
  rcases hc with rfl | rfl | rfl | rfl | rfl
  ·exact⟨_,st.zz,fun v q=>by cases q⟩
  ·exact⟨_,st.ti,fun v q=>by cases q⟩
  ·exact⟨_,to,fun v q=>by cases q⟩
  ·exact st.s1.ob
  ·exact st.s2.ob
 ·obtain ⟨x,y,to⟩:=st.to_
  exact⟨kp z (by simp) _ st.zz,kp TI (by simp) _ st.ti,⟨x,y,kp TO (by simp) _ to⟩,st.s1.at fun o e=>kp i1 (by simp) o e,st.s2.at fun o e=>kp i2 (by simp) o e⟩
 ·
  intro X hP hw hK hc i pins s σ H E I hf st hg
  subst hP hw hK
  obtain ⟨xs,ys,x,y,ha,hb,hx,hy⟩:=hg
  obtain ⟨us,ru,pu⟩:=Sq.get I ha
  obtain ⟨vs,rv,pv'⟩:=Sq.get I hb
  obtain ⟨ux,eux,rux⟩:=ru.get hx
  obtain ⟨vy,evy,rvy⟩:=rv.get hy
  have fa:=off I hf ha
  have fb:=off I hf hb
  have hh:X.A.in1.handled=none:=I.ok.hd hc
  have l1:i < us.toArray.size:=by simpa using (aY5.mp eux).1
  have l2:i < vs.toArray.size:=by simpa using (aY5.mp evy).1
  have fa':a ≠ i1:=fun q=>fa (by rw [q]; simp)
  have fb':b ≠ i2:=fun q=>fb (by rw [q]; simp)
  have D1:=fI.draws t1 (prog:=X.prog) (w:=X.w) hh i1 a fa' us.toArray
  have D2:=fI.draws t2 (prog:=X.prog) (w:=X.w) hh i2 b fb' vs.toArray
  refine Zp.item D1 D2 (ap fa fb) l1 l2 ⟨st.zz,st.ti,st.to_,⟨st.s1,pu⟩,⟨st.s2,pv'⟩⟩ fun p q h' tk hp hq st' pr kp sz=>⟨_,rfl,?_⟩
  obtain rfl:p=ux:=by
   have:us.toArray[i]? = some ux:=by simpa using eux
   rw [this] at hp; exact (aZ8 hp).symm
  obtain rfl:q=vy:=by
   have:vs.toArray[i]? = some vy:=by simpa using evy
   rw [this] at hq; exact (aZ8 hq).symm
  refine wpAny_letOwnedTupleGo_zip (s:={ s with heap:=h',toks:=tk }) st'.zz fun g zz sb=>?_
  have hzl:z < s.heap.objs.size:=aY6 st.zz
  have up:∀ c o,c ≠ z->c ≠ TO->c ≠ i1->c ≠ i2->s.heap.get? c=some o->g.get? c=some o:=fun c o c1 c2 c3 c4 e=>sb.extBut c o c1 (kp c o c1 c2 c3 c4 e)
  have hT:H s.heap.objs.size=none:=I.hok.fresh (aX7 _)
  have prG:IsPair g s.heap.objs.size p q:=sb.extBut _ _ (be6 hzl) pr
  have fpn:∀ c u,H c=some u->c ∉ [z,TI,TO,i1,i2]:=fun c u e hm=>by rw [(hf c hm).1] at e; cases e
  have upH:∀ c o u,H c=some u->s.heap.get? c=some o->g.get? c=some o:=fun c o u e z=>by
   have:=fpn c u e
   simp only [aX9,aY9,bc2,not_or] at this
   exact up c o this.1 this.2.2.1 this.2.2.2.1 this.2.2.2.2 z
  have ns:∀ m,s.heap.Ns X.env.locals m->g.Ns X.env.locals m:=fun m hm=>by
   obtain ⟨o,es,ep,e1,e2⟩:=hm
   exact⟨o,es,ep,up _ o (Ne.symm (hf z (by simp)).2.1) (Ne.symm (hf TO (by simp)).2.1) (Ne.symm (hf i1 (by simp)).2.1) (Ne.symm (hf i2 (by simp)).2.1) e1,e2⟩
  have I2:a6 X pins σ (upd H s.heap.objs.size (.tup [x,y])) { s with heap:=g,toks:=tk }:=by
   refine I.step (g':=s.gens) (d':=s.drawn) (ch:=[z,TO,i1,i2]) (fun c hc'=>?_) (fun c o _ _ hc' e _=>?_) (fun c o _ _ hc' e _=>⟨o.slots,?_⟩) (fun c o _ e n=>?_) (fun c o hc' e=>⟨o,?_⟩)
    (fun c zs e=>by rw [aV (cG e hT)]; exact e) (fun c u zs e=>by rw [aV (cG e hT)]; exact e) (fun c ps e=>⟨#[],by rw [aV (cG e hT),e]; simp⟩) ns (fun c u e=>?_) I.bare
   ·have hm:c ∈ [z,TI,TO,i1,i2]:=by
     simp only [aX9,aY9,bc2] at hc' ⊢
     rcases hc' with h | h | h | h <;> simp [h]
    exact⟨(hf c hm).2.2.2.1,(hf c hm).2.1,(hf c hm).2.2.2.2.1,(hf c hm).2.2.2.2.2⟩
   ·simp only [aX9,aY9,bc2,not_or] at hc'
    exact up c o hc'.1 hc'.2.1 hc'.2.2.1 hc'.2.2.2 e
   ·simp only [aX9,aY9,bc2,not_or] at hc'
    exact up c o hc'.1 hc'.2.1 hc'.2.2.1 hc'.2.2.2 e
   ·rw [aV (ba2 (aY6 e))]; exact n
   ·simp only [aX9,aY9,bc2,not_or] at hc'
    exact up c o hc'.1 hc'.2.1 hc'.2.2.1 hc'.2.2.2 e
   ·by_cases hcT:c=s.heap.objs.size
    ·subst hcT
     rw [bK] at e; cases e
     exact⟨by show 2<=sizeLine; decide,[p,q],.cons rux (.cons rvy .nil),⟨_,prG,rfl,_,rfl⟩,fun u e=>by rw [prG] at e; cases e; rfl⟩
    ·rw [aV hcT] at e
     refine (I.hok c u e).stay (fun c' o' hc2 q'=>?_) (fun c' q'=>by rw [aV (cG q' hT)]; exact q') fun c' zs q'=>by rw [aV (cG q' hT)]; exact q'
     rcases hc2 with rfl | hc2
     ·exact upH _ _ _ e q'
     ·exact upH _ _ _ hc2 q'
  obtain ⟨x',y',to'⟩:=st'.to_
  refine⟨.ref s.heap.objs.size,_,I2,rfl,⟨_,x,y,hT,rfl,rfl,fun xs' ys' ha' hb'=>?_⟩,⟨zz,sb.extBut _ _ n1.symm st'.ti,⟨x',y',sb.extBut _ _ n2.symm to'⟩,st'.s1.1.at fun o e=>sb.extBut _ o n3.symm e,st'.s2.1.at fun o e=>sb.extBut _ o n4.symm e⟩,fun c hc'=>?_⟩
  ·rw [Sq.inj I ha' ha,Sq.inj I hb' hb]; exact⟨hx,hy⟩
  ·obtain ⟨o,e,_⟩:∃ o,s.heap.get? c=some o/\True:=by
    simp only [aX9,aY9,bc2] at hc'
    obtain ⟨x2,y2,to2⟩:=st.to_
    obtain ⟨o1,f1,_⟩:=st.s1.ob
    obtain ⟨o2,f2,_⟩:=st.s2.ob
    rcases hc' with rfl | rfl | rfl | rfl | rfl
    ·exact⟨_,st.zz,trivial⟩
    ·exact⟨_,st.ti,trivial⟩
    ·exact⟨_,to2,trivial⟩
    ·exact⟨_,f1,trivial⟩
    ·exact⟨_,f2,trivial⟩
   rw [aV (ba2 (aY6 e))]; exact (hf c hc').1
 ·
  intro X hP hw hK hc i pins s σ H E I hf st hg
  subst hP hw hK
  obtain ⟨xs,ys,ha,hb,hi⟩:=hg
  obtain ⟨us,ru,pu⟩:=Sq.get I ha
  obtain ⟨vs,rv,pv'⟩:=Sq.get I hb
  have fa:=off I hf ha
  have fb:=off I hf hb
  have hh:X.A.in1.handled=none:=I.ok.hd hc
  have fa':a ≠ i1:=fun q=>fa (by rw [q]; simp)
  have fb':b ≠ i2:=fun q=>fb (by rw [q]; simp)
  have D1:=fI.draws t1 (prog:=X.prog) (w:=X.w) hh i1 a fa' us.toArray
  have D2:=fI.draws t2 (prog:=X.prog) (w:=X.w) hh i2 b fb' vs.toArray
  have e1:=ru.length
  have e2:=rv.length
  refine Zp.fin D1 D2 (ap fa fb) (by simp only [aX6]; omega) ⟨st.zz,st.ti,st.to_,⟨st.s1,pu⟩,⟨st.s2,pv'⟩⟩ fun g tk kp=>⟨rfl,?_⟩
  have fpn:∀ c u,H c=some u->c ∉ [z,TI,TO,i1,i2]:=fun c u e hm=>by rw [(hf c hm).1] at e; cases e
  have upH:∀ c o u,H c=some u->s.heap.get? c=some o->g.get? c=some o:=fun c o u e z=>by
   have:=fpn c u e
   simp only [aX9,aY9,bc2,not_or] at this
   exact kp c o this.1 this.2.2.1 this.2.2.2.1 this.2.2.2.2 z
  have ns:∀ m,s.heap.Ns X.env.locals m->g.Ns X.env.locals m:=fun m hm=>by
   obtain ⟨o,es,ep,e1,e2⟩:=hm
   exact⟨o,es,ep,kp _ o (Ne.symm (hf z (by simp)).2.1) (Ne.symm (hf TO (by simp)).2.1) (Ne.symm (hf i1 (by simp)).2.1) (Ne.symm (hf i2 (by simp)).2.1) e1,e2⟩
  refine I.step (g':=s.gens) (d':=s.drawn) (ch:=[z,TO,i1,i2]) (fun c hc'=>?_) (fun c o _ _ hc' e _=>?_) (fun c o _ _ hc' e _=>⟨o.slots,?_⟩) (fun c o _ e n=>n) (fun c o hc' e=>⟨o,?_⟩)
   (fun c zs e=>e) (fun c u zs e=>e) (fun c ps e=>⟨#[],by rw [e]; simp⟩) ns (fun c u e=>?_) I.bare
  ·have hm:c ∈ [z,TI,TO,i1,i2]:=by
    simp only [aX9,aY9,bc2] at hc' ⊢
    rcases hc' with h | h | h | h <;> simp [h]
   exact⟨(hf c hm).2.2.2.1,(hf c hm).2.1,(hf c hm).2.2.2.2.1,(hf c hm).2.2.2.2.2⟩
  ·simp only [aX9,aY9,bc2,not_or] at hc'
   exact kp c o hc'.1 hc'.2.1 hc'.2.2.1 hc'.2.2.2 e
  ·simp only [aX9,aY9,bc2,not_or] at hc'
   exact kp c o hc'.1 hc'.2.1 hc'.2.2.1 hc'.2.2.2 e
  ·simp only [aX9,aY9,bc2,not_or] at hc'
   exact kp c o hc'.1 hc'.2.1 hc'.2.2.1 hc'.2.2.2 e
  ·refine (I.hok c u e).stay (fun c' o' hc2 q'=>?_) (fun _ q'=>q') fun _ _ q'=>q'
   rcases hc2 with rfl | hc2
   ·exact upH _ _ _ e q'
   ·exact upH _ _ _ hc2 q'
abbrev ao7:=tX true true
theorem ao8 {P:Program}{w:World}{K:PySem.W.Frag}{elts:List Expr}{k:Nat}{pos:Pos} (a b z TI TO i1 i2:Addr) (d : [z,TI,TO,i1,i2].Nodup) :
  gR P w K (.Tuple elts k pos) (tW K a b) [z,TI,TO,i1,i2] z (ao7 z TI TO i1 i2 a b):=A5 true true a b z TI TO i1 i2 d
section
variable {X : Cx}
theorem ao9 (hc:X.calm=true):cH X (.builtin "all") (fun xs H Q=>∃ (a:Addr) (bs:List Bool),xs = [.ref a]/\aJ X.K H a (bs.map V.bl)/\Q (.bl (bs.all id)) H):=by
 intro pins s σ H xs us Q I r h
 obtain ⟨a,bs,rfl,hq,q⟩:=h
 obtain ⟨u,rfl,ru⟩:=fS r
 cases ru
 obtain ⟨its,rv,p,hz⟩:=I.list hq
 have hl:=rv.length
 rw [aY0] at hl
 have hlt:a < s.heap.objs.size:=by obtain ⟨o,e,_⟩:=p.isList; exact aY6 e
 refine call_all_walk (wpAny_pyIter_list p.isList ?_)
 have hh:X.A.in1.handled=none:=I.ok.hd hc
 refine⟨s.heap.objs.size,_,_,_,_,_,fun i=>bs.getD i false,rfl,Walks.list hh s.heap.objs.size a (ba2 hlt) its.toArray,⟨⟨_,aY8 _ rfl,rfl,rfl⟩,p.isList.push _⟩,?_,fun h' tk kp=>?_⟩
 ·intro i v s' Q' E' hP hQ'
  have hi:its[i]? = some v:=by simpa using hP
  have hil:i < bs.length:=by rw [hl]; exact (aY5.mp hi).1
  obtain ⟨u,e1,e2⟩:=rv.get (i:=i) (x:=.bl bs[i]) (by simp [hil])
  rw [hi] at e1; cases e1
  cases e2
  have:bs.getD i false=bs[i]:=by rw [aZ1,aX5 hil]; rfl
  have hQ2:Q' (bs.getD i false) s':=hQ'
  rw [this] at hQ2
  exact bj4 hQ2
 ·have all_eq:(List.range its.toArray.size).all (fun i=>bs.getD i false)=bs.all id:=by
   rw [aX6,<- hl]
   clear q rv hz hl hq hlt p hh kp
   induction bs with
   | nil=>rfl
   | cons b r ih=>
    rw [aZ7,List.range_succ_eq_map,bh9,List.all_map,bh9,<- ih]
    rfl
  rw [all_eq]
  refine⟨.bl (bs.all id),H,I.kept (t':=tk) (h':=h') fun b o e=>kp b o (fun z=>?_) (aX2 _ e),rfl,q⟩
  rw [aY3.mp z] at e
  exact absurd (aY6 e) (bd7 _)
end
end L2
namespace HT
open PySem PyProof.Rows
section
variable {prog : Program} {w : World} {A : Around} {E : Value → Shared → Prop} {s : Shared}
theorem ap0 {t sl:Addr}{items:Array Value}{vl vu:Value}{lo hi:Option Int}{Q:Value->Shared->Prop} (ht:IsTup s.heap t items) (hs:s.heap.IsSliceOf sl vl vu .none) (pl:IsPart vl lo) (pu:IsPart vu hi)
  (h1:aT items.size 0 lo=0) (h2:aT items.size items.size hi=items.size) (h:Q (.ref t) s):wpAny (model prog w) A (getItem (.ref t) (.ref sl)) Q E s:=by
 obtain ⟨o,e1,e2,e3⟩:=id hs
 have T:s.TypeIs (.ref sl) "slice":=⟨o,e1,e2⟩
 unfold getItem
 try with_reducible refine bi9 ?_
 first | refine aX0 (aX8 ?_) | skip
 apply aX0
 apply wpAny_sequenceKey ht.typeIs (by decide)
 apply aX0
 apply bd5 (name:=Str.ofString "__getitem__") ht.typeIs bi4
 apply be1 bi4 ht.typeIs entry_tuple_getitem _ (args_tuple_getitem _ _)
 change wpAny _ _ (Builtin.Tuple.tupleItemsOf (.ref t) >>= _) _ _ s
 apply aX0
 apply tupleItemsOf_ ht
 apply aX0
 apply wpAny_typeOf T
 rw [if_pos (by decide)]
 apply aX0
 apply yP hs pl pu
 rw [h1,h2]
 have yes:((((0:Nat):Int) == 0 && (1:Int) == 1 && (items.size - 0) == items.size)=true):=by simp
 change wpAny _ _ (if ((((0:Nat):Int) == 0 && (1:Int) == 1 && (items.size - 0) == items.size)=true) then _ else _) _ _ s
 rw [if_pos yes]
 apply aX0
 unfold Builtin.Tuple.tupleIsExact
 apply aX0
 apply wpAny_typeOf ht.typeIs
 apply aX8
 change wpAny _ _ (rule "tuple.getitem.whole" >>= fun _=>ret (Value.ref t)) _ _ s
 apply aX0
 apply bj9
 exact aX8 ⟨_,rfl,aX8 h⟩
end
end HT
namespace L2
open PySem PySem.Spec PyProof.Rows
section
variable {X : Cx}
def ap1 (K:PySem.W.Frag):V->Option Int->Option Int->Hp->VK->Prop:=fun x lo hi H Q=>∃ a xs,x = .ref a/\aG K H a xs/\(∀ p,H p=none->Q (.ref p) (upd H p (.tup (gF xs lo hi))))/\(gF xs lo hi=xs->Q (.ref a) H)
theorem ap2:j8 X (ap1 X.K):=by
 intro pins s σ H x v vl vu lo hi sl Q I rx hs pl pu h
 obtain ⟨a,xs,ex,hx,q1,q2⟩:=h
 by_cases hw:HT.aT xs.length 0 lo=0/\HT.aT xs.length xs.length hi=xs.length
 ·subst ex
  cases rx
  obtain ⟨its,r,ht,hz⟩:=I.tuple hx
  have hlen:its.toArray.size=xs.length:=by rw [aX6]; exact r.length.symm
  refine⟨"tuple",_,PyProof.Rows.slot_tuple_getitem.lookup,ht.typeIs,?_⟩
  refine HT.ap0 ht hs pl pu (by rw [hlen]; exact hw.1) (by rw [hlen]; exact hw.2) ⟨.ref a,H,I,rfl,q2 ?_⟩
  unfold gF
  rw [hw.1,hw.2]
  simp
 ·exact ai8 pins s σ H x v vl vu lo hi sl Q I rx hs pl pu ⟨a,xs,ex,hx,hw,q1⟩
end
def tY (K:PySem.W.Frag) (a b:Addr):It:=
  ⟨fun i H=>∃ xs ys x y,aJ K H a xs/\aJ K H b ys/\xs[i]? = some x/\ys[i]? = some y,
   fun i H v H'=>∃ T x y,H T=none/\v = .ref T/\H'=upd H T (.tup [x,y])/\∀ xs ys,aJ K H a xs->aJ K H b ys->xs[i]? = some x/\ys[i]? = some y,
   fun i H=>∃ xs ys,aJ K H a xs/\aJ K H b ys/\(i=xs.length ∨ (i < xs.length/\i=ys.length))⟩
abbrev ap3:=tX false false
theorem ap4 {P:Program}{w:World}{K:PySem.W.Frag}{elts:List Expr}{k:Nat}{pos:Pos} (a b z TI TO i1 i2:Addr) (d : [z,TI,TO,i1,i2].Nodup) :
  gR P w K (.Tuple elts k pos) (tY K a b) [z,TI,TO,i1,i2] z (ap3 z TI TO i1 i2 a b):=A5 false false a b z TI TO i1 i2 d
section
variable {X : Cx} {pins : List (Addr × Obj)} {σ : St} {H : Hp} {s : Shared} {a b : Addr} {A : Around} {E : Value → Shared → Prop}
theorem ap5 {kvs more:List (a9 × V)}{Q:Value->Shared->Prop} (I:a6 X pins σ H s) (ea:H a=some (.dK kvs)) (eb:H b=some (.dK more)) (hne:a ≠ b) (hl:kvs.length+more.length<=sizeLine)
  (h:∀ s',a6 X pins σ (upd H a (.dK (k7 kvs more))) s'->Q .none s'):wpAny (model X.prog X.w) A (call (.builtin "dict.update") [.ref a,.ref b]) Q E s:=by
 obtain ⟨z,hd,vs,rel,dd⟩:=t8 I.hok ea
 obtain ⟨z2,hd2,rs,rel2,dd2⟩:=t8 I.hok eb
 have l1:=rel.length
 have l2:=rel2.length
 refine call_meetsIn PySem.F.slot_dict_update dd.typeIs PySem.F.entry_dict_update (PySem.F.args_dict_update_2 _ _) (meets_dict_update (dO X.prog X.w) a b hne hd2) ⟨vs,rs,dd,dd2,by omega,fun h' dd' _ hs=>h _ ?_⟩
 have he:∃ q,h'.get? a=some q:=let ⟨q,_,_,hq,_⟩:=dd'; ⟨q,hq⟩
 refine oT I (by rw [ea]; exact bl6) hs he (zF ?_ hd (rel2.merge rel) dd')
 have:=zM more kvs
 omega
end
def A6 (td ty:TE):TE:=fun σ H Q=>td σ H fun x H1=>∃ a,x = .ref a/\tD H1 a/\ty σ H1 fun y H2=>∃ (b:Addr) (kvs more:List (a9 × V)),y = .ref b/\a ≠ b/\H2 a=some (.dK kvs)/\H2 b=some (.dK more)/\kvs.length+more.length<=sizeLine/\Q .non (upd H2 a (.dK (k7 kvs more)))
section
variable {X : Cx} {o e : Expr} {apos cpos : Pos} {td ty : TE}
theorem ap6 (ho:PE X o td) (he:PE X e ty) (m:M1 X o "update" apos e cpos):PE X (.Call (.Attribute o "update" apos) [e] [] cpos) (A6 td ty):=by
 intro pins s σ H Q I h
 refine wpAny_Call_method m.base m.few m.line PySem.F.plainAttrs_dict PySem.F.slot_dict_update PySem.F.type_dict_update (aP (ho pins s σ H _ I h) fun u s1 ⟨x,H1,I1,rx,a,ex,d,q1⟩=>?_)
 subst ex
 obtain rfl:u=Value.ref a:=rx
 obtain ⟨t1,t2,_⟩:=zN I1 d
 refine⟨t1,t2,?_⟩
 rw [m.trees]
 refine Calls.callWith_builtin rfl (Calls.evalArgs_plain (Calls.spliced_cons (aP (he pins s1 σ H1 _ I1 q1) fun iv s2 ⟨y,H2,I2,ry,b,kvs,more,ey,ne,ea,eb,l,q2⟩=>Calls.spliced_nil ?_)))
 subst ey
 obtain rfl:iv=Value.ref b:=ry
 exact ap5 I2 ea eb ne l fun s3 I3=>⟨.non,_,I3,rfl,q2⟩
end
end L2
namespace PP
open PySem L2
inductive PV where
 | non | bl (b:Bool) | int (i:Int) | str (x:Str) | tup (xs:List PV) | lst (xs:List PV)
 | dK (kvs:List (a9 × PV)) | dT (kvs:List (List a9 × PV)) | scr (ns:List Int) | kt (xs:List PV) | exc (c:Str) | fK (kvs:List (a9 × PV)) | fT (kvs:List (List a9 × PV))
mutual
def flat:PV->Bool
 | .tup xs=>flats xs
 | .lst _=>false
 | .dK _=>false
 | .dT _=>false
 | .non=>true
 | .bl _=>true
 | .int _=>true
 | .str _=>true
 | .scr _=>true
 | .kt xs=>flats xs
 | .exc _=>true
 | .fK _=>false
 | .fT _=>false
def flats:List PV->Bool
 | []=>true
 | x :: r=>flat x && flats r
end
def iL (K:PySem.W.Frag) (H:Hp) (a:Addr) (ns:List Int):Prop:=(∃ o,H a=some (.frz o (.lst (ns.map V.int)))) ∨
  ∃ (o:Obj) (its:Array Value) (n:Nat),K.lookup a=some o/\o.cls = .type "list"/\o.dict=none/\o.data = .seq its n/\its.size<=sizeLine/\aI (ns.map V.int) its.toList
def lC (K:PySem.W.Frag) (a:Addr) (us:List V):Prop:=∃ (o:Obj) (its:Array Value) (n:Nat),K.lookup a=some o/\o.cls = .type "tuple"/\o.data = .seq its n/\its.size<=sizeLine/\aI us its.toList
mutual
inductive aE (K:PySem.W.Frag) (M:Addr->Prop) (H:Hp):V->PV->Prop
 | non:aE K M H .non .non
 | bl (b:Bool):aE K M H (.bl b) (.bl b)
 | int (i:Int):aE K M H (.int i) (.int i)
 | str (x:Str):aE K M H (.str x) (.str x)
 | tup {a:Addr}{us:List V}{xs:List PV}:H a=some (.tup us)->Reps K M H us xs->aE K M H (.ref a) (.tup xs)
 | lst {a:Addr}{us:List V}{xs:List PV}:M a->H a=some (.lst us)->Reps K M H us xs->aE K M H (.ref a) (.lst xs)
 | dK {a:Addr}{kvs:List (a9 × V)}{ps:List (a9 × PV)}:M a->H a=some (.dK kvs)->kvs.map (·.1)=ps.map (·.1)->Reps K M H (kvs.map (·.2)) (ps.map (·.2))->aE K M H (.ref a) (.dK ps)
 | dT {a:Addr}{kvs:List (List a9 × V)}{ps:List (List a9 × PV)}:M a->H a=some (.dT kvs)->kvs.map (·.1)=ps.map (·.1)->Reps K M H (kvs.map (·.2)) (ps.map (·.2))->aE K M H (.ref a) (.dT ps)
 | scr {a:Addr}{ns:List Int}:iL K H a ns->aE K M H (.ref a) (.scr ns)
 | kt {a:Addr}{us:List V}{xs:List PV}:lC K a us->Reps K M H us xs->aE K M H (.ref a) (.kt xs)
 | exc {a C:Addr}{o:Obj}{c:Str}:H a=some (.frz o (.own a))->PySem.W.nsIn K mainGlobals c=some (some (.ref C))->o.cls = .ref C->aE K M H (.ref a) (.exc c)
 | fK {a:Addr}{o:Obj}{kvs:List (a9 × V)}{ps:List (a9 × PV)}:H a=some (.frz o (.dK kvs))->kvs.map (·.1)=ps.map (·.1)->Reps K M H (kvs.map (·.2)) (ps.map (·.2))->aE K M H (.ref a) (.fK ps)
 | fT {a:Addr}{o:Obj}{kvs:List (List a9 × V)}{ps:List (List a9 × PV)}:H a=some (.frz o (.dT kvs))->kvs.map (·.1)=ps.map (·.1)->Reps K M H (kvs.map (·.2)) (ps.map (·.2))->aE K M H (.ref a) (.fT ps)
inductive Reps (K:PySem.W.Frag) (M:Addr->Prop) (H:Hp):List V->List PV->Prop
 | nil:Reps K M H [] []
 | cons {v:V}{x:PV}{vs:List V}{xs:List PV}:aE K M H v x->Reps K M H vs xs->Reps K M H (v :: vs) (x :: xs)
end
structure gU (M M':Addr->Prop) (H H':Hp):Prop where
 lst:∀ a us,M a->H a=some (.lst us)->M' a/\H' a=some (.lst us)
 dK:∀ a kvs,M a->H a=some (.dK kvs)->M' a/\H' a=some (.dK kvs)
 dT:∀ a kvs,M a->H a=some (.dT kvs)->M' a/\H' a=some (.dT kvs)
 tup:∀ a us,H a=some (.tup us)->H' a=some (.tup us)
 frz:∀ a o u,H a=some (.frz o u)->H' a=some (.frz o u)
theorem iL.keep {K:PySem.W.Frag}{H H':Hp}{a:Addr}{ns:List Int} (k:∀ a o u,H a=some (.frz o u)->H' a=some (.frz o u)) (h:iL K H a ns):iL K H' a ns:=
 h.elim (fun ⟨o,e⟩=>.inl ⟨o,k _ _ _ e⟩) .inr
mutual
theorem aE.keep {K:PySem.W.Frag}{M M':Addr->Prop}{H H':Hp} (k:gU M M' H H'):∀ {v:V}{x:PV},aE K M H v x->aE K M' H' v x
 | _,_,.non=>.non
 | _,_,.bl b=>.bl b
 | _,_,.int i=>.int i
 | _,_,.str x=>.str x
 | _,_,.tup h r=>.tup (k.tup _ _ h) (Reps.keep k r)
 | _,_,.lst m h r=>.lst (k.lst _ _ m h).1 (k.lst _ _ m h).2 (Reps.keep k r)
 | _,_,.dK m h e r=>.dK (k.dK _ _ m h).1 (k.dK _ _ m h).2 e (Reps.keep k r)
 | _,_,.dT m h e r=>.dT (k.dT _ _ m h).1 (k.dT _ _ m h).2 e (Reps.keep k r)
 | _,_,.scr h=>.scr (h.keep k.frz)
 | _,_,.kt h r=>.kt h (Reps.keep k r)
 | _,_,.exc h e c=>.exc (k.frz _ _ _ h) e c
 | _,_,.fK h e r=>.fK (k.frz _ _ _ h) e (Reps.keep k r)
 | _,_,.fT h e r=>.fT (k.frz _ _ _ h) e (Reps.keep k r)
theorem Reps.keep {K:PySem.W.Frag}{M M':Addr->Prop}{H H':Hp} (k:gU M M' H H'):∀ {vs:List V}{xs:List PV},Reps K M H vs xs->Reps K M' H' vs xs
 | _,_,.nil=>.nil
 | _,_,.cons r t=>.cons (aE.keep k r) (Reps.keep k t)
end
mutual
theorem aE.flat {K:PySem.W.Frag}{M M':Addr->Prop}{H:Hp}{v:V}{x:PV} (f:flat x=true) (r:aE K M H v x):aE K M' H v x:=by
 cases r with
 | non=>exact .non
 | bl b=>exact .bl b
 | int i=>exact .int i
 | str x=>exact .str x
 | tup h r=>exact .tup h (Reps.flat (by unfold PP.flat at f; exact f) r)
 | lst m h r=>unfold PP.flat at f; cases f
 | dK m h e r=>unfold PP.flat at f; cases f
 | dT m h e r=>unfold PP.flat at f; cases f
 | scr h=>exact .scr h
 | kt h r=>exact .kt h (Reps.flat (by unfold PP.flat at f; exact f) r)
 | exc h e c=>exact .exc h e c
 | fK h e r=>unfold PP.flat at f; cases f
 | fT h e r=>unfold PP.flat at f; cases f
theorem Reps.flat {K:PySem.W.Frag}{M M':Addr->Prop}{H:Hp}{vs:List V}{xs:List PV} (f:flats xs=true) (r:Reps K M H vs xs):Reps K M' H vs xs:=by
 cases r with
 | nil=>exact .nil
 | cons r t=>
  unfold PP.flats at f
  rw [bb1] at f
  exact .cons (aE.flat f.1 r) (Reps.flat f.2 t)
end
theorem gU.same {M M':Addr->Prop}{H H':Hp} (s:aD H H') (m:∀ a,M a->M' a):gU M M' H H':=
 ⟨fun a _ h e=>⟨m a h,s _ _ e⟩,fun a _ h e=>⟨m a h,s _ _ e⟩,fun a _ h e=>⟨m a h,s _ _ e⟩,fun _ _ e=>s _ _ e,fun _ _ _ e=>s _ _ e⟩
theorem aE.same {K:PySem.W.Frag}{M M':Addr->Prop}{H H':Hp}{v:V}{x:PV} (r:aE K M H v x) (s:aD H H') (m:∀ a,M a->M' a):aE K M' H' v x:=r.keep (.same s m)
theorem Reps.same {K:PySem.W.Frag}{M M':Addr->Prop}{H H':Hp}{v:List V}{x:List PV} (r:Reps K M H v x) (s:aD H H') (m:∀ a,M a->M' a):Reps K M' H' v x:=r.keep (.same s m)
def eU:HO->Bool
 | .lst _=>true
 | .dK _=>true
 | .dT _=>true
 | _=>false
theorem gU.upd {M M':Addr->Prop}{H:Hp}{a:Addr}{o o':HO} (h:H a=some o') (mu:eU o'=true) (m:∀ b,M b->b ≠ a/\M' b):gU M M' H (upd H a o):=
 ⟨fun b _ hb e=>⟨(m b hb).2,by rw [aV (m b hb).1]; exact e⟩,fun b _ hb e=>⟨(m b hb).2,by rw [aV (m b hb).1]; exact e⟩,fun b _ hb e=>⟨(m b hb).2,by rw [aV (m b hb).1]; exact e⟩,
  fun b _ e=>by rw [aV (fun z=>by rw [z,h] at e; cases e; cases mu)]; exact e,
  fun b _ _ e=>by rw [aV (fun z=>by rw [z,h] at e; cases e; cases mu)]; exact e⟩
theorem Reps.length {K:PySem.W.Frag}{M:Addr->Prop}{H:Hp}:∀ {vs:List V}{xs:List PV},Reps K M H vs xs->vs.length=xs.length
 | _,_,.nil=>rfl
 | _,_,.cons _ t=>congrArg (· + 1) t.length
theorem Reps.get {K:PySem.W.Frag}{M:Addr->Prop}{H:Hp}:∀ {vs:List V}{xs:List PV}{i:Nat}{v:V},Reps K M H vs xs->vs[i]? = some v->∃ x,xs[i]? = some x/\aE K M H v x
 | _,_,_,_,.nil,e=>by simp at e
 | _,_,0,_,.cons r _,e=>by simp at e; subst e; exact⟨_,rfl,r⟩
 | _,_,i+1,v,.cons _ t,e=>by
  rw [bd6] at e
  obtain ⟨x,h1,h2⟩:=t.get e
  exact⟨x,by rw [bd6]; exact h1,h2⟩
theorem Reps.at {K:PySem.W.Frag}{M:Addr->Prop}{H:Hp}:∀ {vs:List V}{xs:List PV}{i:Nat}{x:PV},Reps K M H vs xs->xs[i]? = some x->∃ v,vs[i]? = some v/\aE K M H v x
 | _,_,_,_,.nil,e=>by simp at e
 | _,_,0,_,.cons r _,e=>by simp at e; subst e; exact⟨_,rfl,r⟩
 | _,_,i+1,v,.cons _ t,e=>by
  rw [bd6] at e
  obtain ⟨x,h1,h2⟩:=t.at e
  exact⟨x,by rw [bd6]; exact h1,h2⟩
theorem Reps.append {K:PySem.W.Frag}{M:Addr->Prop}{H:Hp}:∀ {vs:List V}{xs:List PV}{us:List V}{ys:List PV},Reps K M H vs xs->Reps K M H us ys->Reps K M H (vs ++ us) (xs ++ ys)
 | _,_,_,_,.nil,s=>s
 | _,_,_,_,.cons r t,s=>.cons r (t.append s)
theorem Reps.set {K:PySem.W.Frag}{M:Addr->Prop}{H:Hp}{v:V}{x:PV} (q:aE K M H v x):∀ (i:Nat) {vs:List V}{xs:List PV},Reps K M H vs xs->Reps K M H (vs.set i v) (xs.set i x)
 | _,_,_,.nil=>.nil
 | 0,_,_,.cons r t=>.cons q t
 | i+1,_,_,.cons r t=>.cons r (Reps.set q i t)
theorem Reps.take {K:PySem.W.Frag}{M:Addr->Prop}{H:Hp}:∀ (n:Nat) {vs:List V}{xs:List PV},Reps K M H vs xs->Reps K M H (vs.take n) (xs.take n)
 | 0,_,_,_=>by simp; exact .nil
 | _+1,_,_,.nil=>.nil
 | n+1,_,_,.cons r t=>.cons r (Reps.take n t)
theorem Reps.drop {K:PySem.W.Frag}{M:Addr->Prop}{H:Hp}:∀ (n:Nat) {vs:List V}{xs:List PV},Reps K M H vs xs->Reps K M H (vs.drop n) (xs.drop n)
 | 0,_,_,r=>r
 | _+1,_,_,.nil=>.nil
 | n+1,_,_,.cons _ t=>Reps.drop n t
theorem Reps.eraseIdx {K:PySem.W.Frag}{M:Addr->Prop}{H:Hp}:∀ (n:Nat) {vs:List V}{xs:List PV},Reps K M H vs xs->Reps K M H (vs.eraseIdx n) (xs.eraseIdx n)
 | _,_,_,.nil=>.nil
 | 0,_,_,.cons _ t=>t
 | n+1,_,_,.cons r t=>.cons r (Reps.eraseIdx n t)
abbrev intz (ns:List Int):List PV:=ns.map PV.int
theorem Reps.intz {K:PySem.W.Frag}{M:Addr->Prop}{H:Hp}:∀ (ns:List Int),Reps K M H (ns.map V.int) (intz ns)
 | []=>.nil
 | n :: r=>.cons (.int n) (Reps.intz r)
theorem Reps.ofInts {K:PySem.W.Frag}{M:Addr->Prop}{H:Hp}:∀ {ns:List Int}{us:List V},Reps K M H us (PP.intz ns)->us=ns.map V.int
 | [],_,.nil=>rfl
 | n :: r,_,.cons q t=>by
  cases q
  rw [Reps.ofInts t]; rfl
theorem cY:∀ (ns:List Int),flats (intz ns)=true
 | []=>rfl
 | n :: r=>by show (flat (.int n) && flats (intz r))=true; rw [cY r]; rfl
inductive Tg | rd | sh | nw | fr
inductive Slot | sh (g:Bool) (x:PV) | own (x:PV)
def Slot.val:Slot->PV
 | .sh _ x=>x
 | .own x=>x
def Slot.tag:Slot->Tg
 | .sh true _=>.nw
 | .sh false _=>.sh
 | .own _=>.rd
abbrev bE:=List (Option Slot)
def Ms (H0:Hp) (W:Addr->Prop):Bool->Addr->Prop
 | false,a=>¬ W a
 | true,a=>¬ W a/\H0 a=none
def Mg (H0:Hp) (W:Addr->Prop) (Hs:Hp):Tg->Addr->Prop
 | .rd,_=>True
 | .sh,a=>¬ W a
 | .nw,a=>¬ W a/\H0 a=none
 | .fr,a=>Hs a=none
def gI (K:PySem.W.Frag) (M:Addr->Prop) (H:Hp) (a:Addr):PV->Prop
 | .lst xs=>∃ us,H a=some (.lst us)/\Reps K M H us xs
 | .dK ps=>∃ kvs,H a=some (.dK kvs)/\kvs.map (·.1)=ps.map (·.1)/\Reps K M H (kvs.map (·.2)) (ps.map (·.2))
 | .dT ps=>∃ kvs,H a=some (.dT kvs)/\kvs.map (·.1)=ps.map (·.1)/\Reps K M H (kvs.map (·.2)) (ps.map (·.2))
 | _=>False
def A7 (K:PySem.W.Frag) (H0:Hp) (W:Addr->Prop) (H:Hp) (v:V):Slot->Prop
 | .sh g x=>aE K (Ms H0 W g) H v x
 | .own x=>∃ a,v = .ref a/\W a/\gI K (Ms H0 W true) H a x
structure PX (K:PySem.W.Frag) (H0:Hp) (W:Addr->Prop) (σ:St) (ρ:bE) (H:Hp):Prop where
 len:ρ.length=σ.length
 same:aD H0 H
 wm:∀ a,W a->H0 a=none/\∃ o,H a=some o/\eU o=true
 sl:∀ (i:Nat) (m:Slot),ρ[i]? = some (some m)->∃ v,σ[i]? = some (some v)/\A7 K H0 W H v m
 dis:∀ (i j:Nat) (x y:PV) (a:Addr),ρ[i]? = some (some (.own x))->ρ[j]? = some (some (.own y))->σ[i]? = some (some (.ref a))->σ[j]? = some (some (.ref a))->i=j
theorem gI.keep {K:PySem.W.Frag}{M M':Addr->Prop}{H H':Hp}{a:Addr} (k:gU M M' H H') (ha:∀ o,H a=some o->H' a=some o):∀ {x:PV},gI K M H a x->gI K M' H' a x
 | .lst _,⟨us,e,r⟩=>⟨us,ha _ e,r.keep k⟩
 | .dK _,⟨us,e,q,r⟩=>⟨us,ha _ e,q,r.keep k⟩
 | .dT _,⟨us,e,q,r⟩=>⟨us,ha _ e,q,r.keep k⟩
theorem gI.at {K:PySem.W.Frag}{M:Addr->Prop}{H:Hp}{a:Addr}:∀ {x:PV},gI K M H a x->∃ o,H a=some o/\eU o=true
 | .lst _,⟨us,e,r⟩=>⟨_,e,rfl⟩
 | .dK _,⟨us,e,q,r⟩=>⟨_,e,rfl⟩
 | .dT _,⟨us,e,q,r⟩=>⟨_,e,rfl⟩
theorem gI.rep {K:PySem.W.Frag}{M M':Addr->Prop}{H:Hp}{a:Addr} (m:∀ b,M b->M' b) (ha:M' a):∀ {x:PV},gI K M H a x->aE K M' H (.ref a) x
 | .lst _,⟨us,e,r⟩=>.lst ha e (r.same (aD.refl _) m)
 | .dK _,⟨us,e,q,r⟩=>.dK ha e q (r.same (aD.refl _) m)
 | .dT _,⟨us,e,q,r⟩=>.dT ha e q (r.same (aD.refl _) m)
section
variable {K : PySem.W.Frag} {H0 : Hp} {W W' : Addr → Prop} {σ : St} {ρ : bE} {H H' : Hp}
theorem PX.mono (p:PX K H0 W σ ρ H) (s:aD H H'):PX K H0 W σ ρ H':=by
 refine⟨p.len,p.same.trans s,fun a h=>⟨(p.wm a h).1,let ⟨o,e,m⟩:=(p.wm a h).2; ⟨o,s _ _ e,m⟩⟩,fun i m h=>?_,p.dis⟩
 obtain ⟨v,e,r⟩:=p.sl i m h
 refine⟨v,e,?_⟩
 cases m with
 | sh g x=>exact aE.same r s fun _ z=>z
 | own x=>
  obtain ⟨a,e1,e2,r⟩:=r
  exact⟨a,e1,e2,r.keep (.same s fun _ z=>z) fun _ z=>s _ _ z⟩
theorem PX.new (p:PX K H0 W σ ρ H) {a:Addr} (h:H a=none) : ¬ W a/\H0 a=none:=
 ⟨fun z=>(by obtain ⟨_,o,e,_⟩:=p.wm a z; rw [h] at e; cases e),p.same.free h⟩
theorem Mg.back {g:Tg}{H1:Hp} (s:aD H H1) {a:Addr} (h:Mg H0 W H1 g a):Mg H0 W H g a:=by
 cases g with
 | fr=>exact s.free h
 | rd=>exact h
 | sh=>exact h
 | nw=>exact h
end
abbrev PK:=PV->Tg->Prop
abbrev aF:=bE->PK->Prop
abbrev cA:=bE->(Bool->Prop)->Prop
abbrev cO:=bE->(List (PV × Tg)->Prop)->Prop
inductive gJ (K:PySem.W.Frag) (H0:Hp) (W:Addr->Prop) (Hs H:Hp):List V->List (PV × Tg)->Prop
 | nil:gJ K H0 W Hs H [] []
 | cons {v:V}{x:PV}{g:Tg}{vs:List V}{xs:List (PV × Tg)}:aE K (Mg H0 W Hs g) H v x->gJ K H0 W Hs H vs xs->gJ K H0 W Hs H (v :: vs) ((x,g) :: xs)
def pC (K:PySem.W.Frag) (H0:Hp) (W:Addr->Prop) (H:Hp) (Q:PK) (Q':VK):Prop:=∀ v H' x g,aD H H'->aE K (Mg H0 W H g) H' v x->Q x g->Q' v H'
def LE (X:Cx) (t:aF):TE:=fun σ H Q'=>∃ (W:Addr->Prop) (ρ:bE) (Q:PK),PX X.K X.H₀ W σ ρ H/\t ρ Q/\pC X.K X.H₀ W H Q Q'
def LT (X:Cx) (t:cA):TT:=fun σ H Q'=>∃ (W:Addr->Prop) (ρ:bE) (Q:Bool->Prop),PX X.K X.H₀ W σ ρ H/\t ρ Q/\∀ b H',aD H H'->Q b->Q' b H'
def LA (X:Cx) (t:cO):TA:=fun σ H Q'=>∃ (W:Addr->Prop) (ρ:bE) (Q:List (PV × Tg)->Prop),PX X.K X.H₀ W σ ρ H/\t ρ Q/\∀ vs H' xs,aD H H'->gJ X.K X.H₀ W H H' vs xs->Q xs->Q' vs H'
theorem gJ.same {K:PySem.W.Frag}{H0:Hp}{W:Addr->Prop}{Hs Hs' H H':Hp} (s:aD H H') (b:aD Hs' Hs):∀ {vs:List V}{xs:List (PV × Tg)},gJ K H0 W Hs H vs xs->gJ K H0 W Hs' H' vs xs
 | _,_,.nil=>.nil
 | _,_,.cons r t=>.cons (r.same s fun _ z=>Mg.back b z) (t.same s b)
theorem gJ.any {K:PySem.W.Frag}{H0:Hp}{W:Addr->Prop}{Hs H:Hp}:∀ {vs:List V}{xs:List (PV × Tg)},gJ K H0 W Hs H vs xs->Reps K (fun _=>True) H vs (xs.map (·.1))
 | _,_,.nil=>.nil
 | _,_,.cons r t=>.cons (r.same (aD.refl _) fun _ _=>trivial) t.any
def Nw:Tg->PV->Prop
 | .fr,_=>True
 | .nw,_=>True
 | _,x=>flat x=true
section
variable {K : PySem.W.Frag} {H0 Hs H : Hp} {W : Addr → Prop} {σ : St} {ρ : bE}
theorem Nw.rep {g:Tg}{x:PV}{v:V} (px:PX K H0 W σ ρ Hs) (n:Nw g x) (r:aE K (Mg H0 W Hs g) H v x):aE K (Ms H0 W true) H v x:=by
 cases g with
 | fr=>exact r.same (aD.refl _) fun a z=>px.new z
 | nw=>exact r.same (aD.refl _) fun a z=>z
 | sh=>exact r.flat n
 | rd=>exact r.flat n
theorem A8 {v:V}{m:Slot} (r:A7 K H0 W H v m):aE K (Mg H0 W Hs m.tag) H v m.val:=by
 cases m with
 | sh g x=>
  cases g with
  | true=>exact aE.same r (aD.refl _) fun _ z=>z
  | false=>exact aE.same r (aD.refl _) fun _ z=>z
 | own x=>
  obtain ⟨a,rfl,_,r⟩:=r
  exact r.rep (fun _ _=>trivial) trivial
end
section
variable {X : Cx} {σ : St} {H : Hp} {Q' : VK} {ta tb : aF}
def a5 (i:Nat):aF:=fun ρ Q=>∃ m,ρ[i]? = some (some m)/\Q m.val m.tag
def qC (x:PV):aF:=fun _ Q=>Q x .fr
theorem ap7 {i:Nat} (h:LE X (a5 i) σ H Q'):iC i σ H Q':=by
 obtain ⟨W,ρ,Q,px,⟨m,e,q⟩,k⟩:=h
 obtain ⟨v,ev,r⟩:=px.sl i m e
 exact⟨v,ev,k v H _ _ (aD.refl _) (A8 r) q⟩
theorem mZ {x:PV}{v:V} (hr:∀ M,aE X.K M H v x) (h:LE X (qC x) σ H Q'):tC v σ H Q':=by
 obtain ⟨W,ρ,Q,px,q,k⟩:=h
 exact k v H _ _ (aD.refl _) (hr _) q
def dQ (X:Cx) (R:PV->Tg->PV->Tg->PK->Prop) (r:R2):Prop:=∀ (W:Addr->Prop) (Hs H:Hp) (u v:V) (x y:PV) (g g':Tg) (Q:PK) (Q':VK),aD Hs H->
 (∀ a,Hs a=none->¬ W a/\X.H₀ a=none)->aE X.K (Mg X.H₀ W Hs g) H u x->aE X.K (Mg X.H₀ W Hs g') H v y->R x g y g' Q->(∀ w H' z gz,aD H H'->aE X.K (Mg X.H₀ W Hs gz) H' w z->Q z gz->Q' w H')->r u v H Q'
def q2 (R:PV->Tg->PV->Tg->PK->Prop) (ta tb:aF):aF:=fun ρ Q=>ta ρ fun x g=>tb ρ fun y g'=>R x g y g' Q
theorem pD {R:PV->Tg->PV->Tg->PK->Prop}{r:R2} (c:dQ X R r) (h:LE X (q2 R ta tb) σ H Q'):mK r (LE X ta) (LE X tb) σ H Q':=by
 obtain ⟨W,ρ,Q,px,q,k⟩:=h
 refine⟨W,ρ,_,px,q,fun u H1 x g s1 r1 q1=>⟨W,ρ,_,px.mono s1,q1,fun v H2 y g' s2 r2 q2=>?_⟩⟩
 exact c W H H2 u v x y g g' Q Q' (s1.trans s2) (fun a z=>px.new z) (r1.same s2 fun _ z=>z) (r2.same (aD.refl _) fun _ z=>Mg.back s1 z) q2 fun w H' z gz s3 r3 q3=>k w H' z gz ((s1.trans s2).trans s3) r3 q3
def RI (C:Int->Int->Prop) (f:Int->Int->PV):PV->Tg->PV->Tg->PK->Prop:=fun x _ y _ Q=>∃ i j,x = .int i/\y = .int j/\C i j/\Q (f i j) .fr
def eB (f:Int->Int->PV):PV->Tg->PV->Tg->PK->Prop:=fun x _ y _ Q=>∃ i j,x = .int i/\y = .int j/\Q (f i j) .fr
theorem pE {C:Int->Int->Prop}{f:Int->Int->Int}:dQ X (RI C fun i j=>.int (f i j)) (rI C fun i j=>.int (f i j)):=by
 rintro W Hs H u v x y g g' Q Q' s n r1 r2 ⟨i,j,rfl,rfl,c,q⟩ k
 cases r1; cases r2
 exact⟨i,j,rfl,rfl,c,k _ _ _ _ (aD.refl _) (.int _) q⟩
theorem A9 {f:Int->Int->Int}:dQ X (eB fun i j=>.int (f i j)) (gS fun i j=>.int (f i j)):=by
 rintro W Hs H u v x y g g' Q Q' s n r1 r2 ⟨i,j,rfl,rfl,q⟩ k
 cases r1; cases r2
 exact⟨i,j,rfl,rfl,k _ _ _ _ (aD.refl _) (.int _) q⟩
theorem lD {f:Int->Int->Bool}:dQ X (eB fun i j=>.bl (f i j)) (gS fun i j=>.bl (f i j)):=by
 rintro W Hs H u v x y g g' Q Q' s n r1 r2 ⟨i,j,rfl,rfl,q⟩ k
 cases r1; cases r2
 exact⟨i,j,rfl,rfl,k _ _ _ _ (aD.refl _) (.bl _) q⟩
def kA (neg:Bool):PV->Tg->PV->Tg->PK->Prop:=fun x _ y _ Q=>(∃ i j,x = .int i/\y = .int j/\Q (.bl (if neg=true then !decide (i=j) else decide (i=j))) .fr) ∨ (∃ i j,x = .bl i/\y = .bl j/\Q (.bl (if neg=true then !decide (i=j) else decide (i=j))) .fr)
theorem B0 (i j:Int):decide (V.int i=V.int j)=decide (i=j):=by
 rw [be8,ba1,ba1]; exact⟨fun z=>V.int.inj z,fun z=>congrArg V.int z⟩
theorem B2 (i j:Bool):decide (V.bl i=V.bl j)=decide (i=j):=by
 rw [be8,ba1,ba1]; exact⟨fun z=>V.bl.inj z,fun z=>congrArg V.bl z⟩
theorem B3:dQ X (kA false) xW:=by
 rintro W Hs H u v x y g g' Q Q' s n r1 r2 (⟨i,j,rfl,rfl,q⟩ | ⟨i,j,rfl,rfl,q⟩) k
 ·cases r1; cases r2
  exact⟨rfl,by rw [B0]; exact k _ _ _ _ (aD.refl _) (.bl _) q⟩
 ·cases r1; cases r2
  exact⟨rfl,by rw [B2]; exact k _ _ _ _ (aD.refl _) (.bl _) q⟩
theorem ap8:dQ X (kA true) xX:=by
 rintro W Hs H u v x y g g' Q Q' s n r1 r2 (⟨i,j,rfl,rfl,q⟩ | ⟨i,j,rfl,rfl,q⟩) k
 ·cases r1; cases r2
  exact⟨rfl,by rw [B0]; exact k _ _ _ _ (aD.refl _) (.bl _) q⟩
 ·cases r1; cases r2
  exact⟨rfl,by rw [B2]; exact k _ _ _ _ (aD.refl _) (.bl _) q⟩
def aW (t:aF):cA:=fun ρ Q=>t ρ fun x _=>∃ b,x = .bl b/\Q b
theorem pF {t:aF}{Q':Bool->Hp->Prop} (h:LT X (aW t) σ H Q'):LE X t σ H fun x H'=>∃ k,x = .bl k/\Q' k H':=by
 obtain ⟨W,ρ,Q,px,q,k⟩:=h
 refine⟨W,ρ,_,px,q,?_⟩
 rintro v H1 x g s r ⟨b,rfl,q⟩
 cases r
 exact⟨b,rfl,k _ _ s q⟩
def jE (t u:cA):cA:=fun ρ Q=>t ρ fun c=>if c=true then u ρ Q else Q false
def iM (t u:cA):cA:=fun ρ Q=>t ρ fun c=>if c=true then Q true else u ρ Q
def kB (t:cA):cA:=fun ρ Q=>t ρ fun c=>Q (!c)
variable {t u : cA} {Qb : Bool → Hp → Prop}
theorem ap9 (h:LT X (jE t u) σ H Qb):xC (LT X t) (LT X u) σ H Qb:=by
 obtain ⟨W,ρ,Q,px,q,k⟩:=h
 refine⟨W,ρ,_,px,q,fun b H1 s1 q1=>?_⟩
 cases b with
 | true=>exact b6 ⟨W,ρ,Q,px.mono s1,by simpa using q1,fun b H2 s2 q2=>k _ _ (s1.trans s2) q2⟩
 | false=>exact aS (k _ _ s1 (by simpa using q1))
theorem aq0 (h:LT X (iM t u) σ H Qb):xD (LT X t) (LT X u) σ H Qb:=by
 obtain ⟨W,ρ,Q,px,q,k⟩:=h
 refine⟨W,ρ,_,px,q,fun b H1 s1 q1=>?_⟩
 cases b with
 | false=>exact aS ⟨W,ρ,Q,px.mono s1,by simpa using q1,fun b H2 s2 q2=>k _ _ (s1.trans s2) q2⟩
 | true=>exact b6 (k _ _ s1 (by simpa using q1))
theorem aq1 (h:LT X (kB t) σ H Qb):xE (LT X t) σ H Qb:=by
 obtain ⟨W,ρ,Q,px,q,k⟩:=h
 exact⟨W,ρ,_,px,q,fun b H1 s1 q1=>k _ _ s1 q1⟩
def gV (ta tb:aF):aF:=fun ρ Q=>ta ρ fun x _=>∃ c,x = .bl c/\if c=true then tb ρ Q else Q (.bl false) .fr
def tZ (ta:aF):aF:=fun ρ Q=>ta ρ fun x _=>∃ c,x = .bl c/\Q (.bl (!c)) .fr
theorem pC.back {K:PySem.W.Frag}{H0:Hp}{W:Addr->Prop}{H H1:Hp}{Q:PK} (k:pC K H0 W H Q Q') (s:aD H H1):pC K H0 W H1 Q Q':=fun v H' x g s' r q=>k v H' x g (s.trans s') (r.same (aD.refl _) fun _ z=>Mg.back s z) q
theorem aq2 (h:LE X (gV ta tb) σ H Q'):xF (LE X ta) (LE X tb) σ H Q':=by
 obtain ⟨W,ρ,Q,px,q,k⟩:=h
 refine⟨W,ρ,_,px,q,?_⟩
 rintro v H1 x g s1 r ⟨c,rfl,q⟩
 cases r
 refine⟨c,rfl,?_⟩
 cases c with
 | true=>exact b6 ⟨W,ρ,Q,px.mono s1,by simpa using q,k.back s1⟩
 | false=>exact aS (k _ _ _ _ s1 (.bl _) (by simpa using q))
theorem aq3 (h:LE X (tZ ta) σ H Q'):xG (LE X ta) σ H Q':=by
 obtain ⟨W,ρ,Q,px,q,k⟩:=h
 refine⟨W,ρ,_,px,q,?_⟩
 rintro v H1 x g s1 r ⟨c,rfl,q⟩
 cases r
 exact⟨c,rfl,k _ _ _ _ s1 (.bl _) q⟩
def aA:cO:=fun _ Q=>Q []
def a7 (te:aF) (tr:cO):cO:=fun ρ Q=>te ρ fun x g=>tr ρ fun xs=>Q ((x,g) :: xs)
variable {Qa : List V → Hp → Prop} {tr : cO}
theorem aq4 (h:LA X aA σ H Qa):k4 σ H Qa:=by
 obtain ⟨W,ρ,Q,px,q,k⟩:=h
 exact k _ _ _ (aD.refl _) .nil q
theorem aq5 (h:LA X (a7 ta tr) σ H Qa):iE (LE X ta) (LA X tr) σ H Qa:=by
 obtain ⟨W,ρ,Q,px,q,k⟩:=h
 refine⟨W,ρ,_,px,q,fun v H1 x g s1 r1 q1=>⟨W,ρ,_,px.mono s1,q1,fun vs H2 xs s2 r2 q2=>?_⟩⟩
 exact k _ _ _ (s1.trans s2) (.cons (r1.same s2 fun _ z=>z) (r2.same (aD.refl _) s1)) q2
def iN (t:cO):aF:=fun ρ Q=>t ρ fun xs=>xs.length<=1000/\flats (xs.map (·.1))=true/\Q (.tup (xs.map (·.1))) .fr
def iO (t:cO):aF:=fun ρ Q=>t ρ fun xs=>xs.length<=1000/\flats (xs.map (·.1))=true/\Q (.lst (xs.map (·.1))) .fr
theorem gJ.length {K:PySem.W.Frag}{H0:Hp}{W:Addr->Prop}{Hs H:Hp}:∀ {vs:List V}{xs:List (PV × Tg)},gJ K H0 W Hs H vs xs->vs.length=xs.length
 | _,_,.nil=>rfl
 | _,_,.cons _ t=>congrArg (· + 1) t.length
theorem u5 {n:Nat} (h:n<=1000):n<=sizeLine:=bf3 (tF h)
theorem aq6 (h:LE X (iN tr) σ H Q'):yD (LA X tr) σ H Q':=by
 obtain ⟨W,ρ,Q,px,q,k⟩:=h
 refine⟨W,ρ,_,px,q,?_⟩
 rintro vs H1 xs s1 r ⟨hl,n,q⟩
 refine⟨by rw [r.length]; exact u5 hl,fun p hp=>k _ _ _ .fr (s1.trans (bQ hp _)) (.tup bK ?_) q⟩
 exact (r.any.flat n).same (bQ hp _) fun _ z=>z
theorem aq7 (h:LE X (iO tr) σ H Q'):yE (LA X tr) σ H Q':=by
 obtain ⟨W,ρ,Q,px,q,k⟩:=h
 refine⟨W,ρ,_,px,q,?_⟩
 rintro vs H1 xs s1 r ⟨hl,n,q⟩
 refine⟨by rw [r.length]; exact u5 hl,fun p hp=>k _ _ _ .fr (s1.trans (bQ hp _)) (.lst (s1.free hp) bK ?_) q⟩
 exact (r.any.flat n).same (bQ hp _) fun _ z=>z
def eV (X:Cx) (R:List PV->(PV->Prop)->Prop) (r:List V->Hp->VK->Prop):Prop:=∀ (H:Hp) (vs:List V) (xs:List PV) (Q:PV->Prop) (Q':VK),Reps X.K (fun _=>True) H vs xs->R xs Q->
 (∀ w H' z,aD H H'->aE X.K (fun a=>H a=none) H' w z->Q z->Q' w H')->r vs H Q'
def aC (R:List PV->(PV->Prop)->Prop) (t:cO):aF:=fun ρ Q=>t ρ fun xs=>R (xs.map (·.1)) fun z=>Q z .fr
theorem B4 {R:List PV->(PV->Prop)->Prop}{r:List V->Hp->VK->Prop} (c:eV X R r) (h:LE X (aC R tr) σ H Q'):sR r (LA X tr) σ H Q':=by
 obtain ⟨W,ρ,Q,px,q,k⟩:=h
 refine⟨W,ρ,_,px,q,fun vs H1 xs s1 r1 q1=>c H1 vs _ _ Q' r1.any q1 fun w H' z s2 r2 q2=>k w H' z .fr (s1.trans s2) (r2.same (aD.refl _) fun _ z=>s1.free z) q2⟩
end
structure nA where
 nx:bE->Prop
 rt:PV->Prop
 bk:bE->Prop:=fun _=>False
 ct:bE->Prop:=fun _=>False
abbrev aK:=nA->bE->Prop
def Ev (W:Addr->Prop) (H:Hp) (W':Addr->Prop) (H':Hp):Prop:=∀ b o,H b=some o->¬ W b->H' b=some o/\¬ W' b
theorem Ev.trans {W W1 W2:Addr->Prop}{H H1 H2:Hp} (a:Ev W H W1 H1) (b:Ev W1 H1 W2 H2):Ev W H W2 H2:=fun c o h n=>let ⟨h1,n1⟩:=a c o h n; b c o h1 n1
theorem Ev.same {W:Addr->Prop}{H H':Hp} (s:aD H H'):Ev W H W H':=fun c o h n=>⟨s _ _ h,n⟩
theorem Ev.refl (W:Addr->Prop) (H:Hp):Ev W H W H:=Ev.same (aD.refl _)
structure pG (X:Cx) (W:Addr->Prop) (H:Hp) (D':nA) (D:cE):Prop where
 nx:∀ W' σ' H' ρ',Ev W H W' H'->PX X.K X.H₀ W' σ' ρ' H'->D'.nx ρ'->D.nx σ' H'
 rt:∀ v H' x,aD X.H₀ H'->aE X.K (fun a=>X.H₀ a=none) H' v x->D'.rt x->D.rt v H'
 bk:∀ W' σ' H' ρ',Ev W H W' H'->PX X.K X.H₀ W' σ' ρ' H'->D'.bk ρ'->D.bk σ' H'
 ct:∀ W' σ' H' ρ',Ev W H W' H'->PX X.K X.H₀ W' σ' ρ' H'->D'.ct ρ'->D.ct σ' H'
theorem pG.step {X:Cx}{W W1:Addr->Prop}{H H1:Hp}{D':nA}{D:cE} (k:pG X W H D' D) (e:Ev W H W1 H1):pG X W1 H1 D' D:=
 ⟨fun W' σ' H' ρ' e'=>k.nx W' σ' H' ρ' (e.trans e'),k.rt,fun W' σ' H' ρ' e'=>k.bk W' σ' H' ρ' (e.trans e'),fun W' σ' H' ρ' e'=>k.ct W' σ' H' ρ' (e.trans e')⟩
def LS (X:Cx) (t:aK):TS:=fun D σ H=>∃ (W:Addr->Prop) (ρ:bE) (D':nA),PX X.K X.H₀ W σ ρ H/\t D' ρ/\pG X W H D' D
theorem fJ {α:Type}{l:List α}{i j:Nat}{a b:α} (h:(l.set i a)[j]? = some b):(j=i/\i < l.length/\b=a) ∨ (j ≠ i/\l[j]? = some b):=by
 by_cases e:j=i
 ·subst e
  have hl:j < (l.set j a).length:=(aY5.mp h).1
  rw [bg6] at hl
  rw [bg7 hl] at h
  exact .inl ⟨rfl,hl,(aZ8 h).symm⟩
 ·rw [bb3 (Ne.symm e)] at h
  exact .inr ⟨e,h⟩
section
variable {K : PySem.W.Frag} {H0 : Hp} {W W' : Addr → Prop} {σ : St} {ρ : bE} {H H' Hs : Hp}
theorem PX.setSh {i:Nat}{v:V}{g:Bool}{x:PV} (p:PX K H0 W σ ρ H) (r:aE K (Ms H0 W g) H v x):PX K H0 W (σ.set i (some v)) (ρ.set i (some (.sh g x))) H:=by
 refine⟨by rw [bg6,bg6]; exact p.len,p.same,p.wm,fun j m h=>?_,fun j k y z a h1 h2 h3 h4=>?_⟩
 ·rcases fJ h with ⟨rfl,hl,e⟩ | ⟨hne,h⟩
  ·cases e
   rw [p.len] at hl
   exact⟨v,bg7 hl,r⟩
  ·obtain ⟨u,e,q⟩:=p.sl j m h
   exact⟨u,by rw [bb3 (Ne.symm hne)]; exact e,q⟩
 ·rcases fJ h1 with ⟨_,_,e⟩ | ⟨n1,h1⟩
  ·cases e
  ·rcases fJ h2 with ⟨_,_,e⟩ | ⟨n2,h2⟩
   ·cases e
   ·rw [bb3 (Ne.symm n1)] at h3
    rw [bb3 (Ne.symm n2)] at h4
    exact p.dis j k y z a h1 h2 h3 h4
def lE (W:Addr->Prop) (a:Addr):Addr->Prop:=fun b=>W b ∨ b=a
theorem u6 {g:Bool}{a b:Addr} (n:b ≠ a) (h:Ms H0 W g b):Ms H0 (lE W a) g b:=by
 cases g with
 | true=>exact⟨fun z=>z.elim h.1 n,h.2⟩
 | false=>exact fun z=>z.elim h n
theorem PX.setOwn {i:Nat}{a:Addr}{x:PV} (p:PX K H0 W σ ρ Hs) (s:aD Hs H) (ha:Hs a=none) (r:gI K (Ms H0 (lE W a) true) H a x):PX K H0 (lE W a) (σ.set i (some (.ref a))) (ρ.set i (some (.own x))) H:=by
 have old:∀ b o,Hs b=some o->b ≠ a:=fun b o e z=>by rw [z,ha] at e; cases e
 have kp:∀ g,gU (Ms H0 W g) (Ms H0 (lE W a) g) Hs H:=fun g=>⟨fun b _ m e=>⟨u6 (old _ _ e) m,s _ _ e⟩,fun b _ m e=>⟨u6 (old _ _ e) m,s _ _ e⟩,fun b _ m e=>⟨u6 (old _ _ e) m,s _ _ e⟩,fun _ _ e=>s _ _ e,fun _ _ _ e=>s _ _ e⟩
 have wa : ¬ W a:=(p.new ha).1
 refine⟨by rw [bg6,bg6]; exact p.len,p.same.trans s,fun b z=>?_,fun j m h=>?_,fun j k y z b h1 h2 h3 h4=>?_⟩
 ·rcases z with z | rfl
  ·obtain ⟨h1,o,h2,h3⟩:=p.wm b z
   exact⟨h1,o,s _ _ h2,h3⟩
  ·exact⟨(p.new ha).2,r.at⟩
 ·rcases fJ h with ⟨rfl,hl,e⟩ | ⟨hne,h⟩
  ·cases e
   rw [p.len] at hl
   exact⟨_,bg7 hl,a,rfl,.inr rfl,r⟩
  ·obtain ⟨u,e,q⟩:=p.sl j m h
   refine⟨u,by rw [bb3 (Ne.symm hne)]; exact e,?_⟩
   cases m with
   | sh g y=>exact aE.keep (kp g) q
   | own y=>
    obtain ⟨b,e1,e2,q⟩:=q
    exact⟨b,e1,.inl e2,q.keep (kp true) fun o z=>s _ _ z⟩
 ·have ne:∀ {j:Nat}{y:PV},ρ[j]? = some (some (.own y))->σ[j]? ≠ some (some (.ref a)):=fun {j y} h1 h2=>by
   obtain ⟨u,e,c,e1,e2,_⟩:=p.sl j _ h1
   rw [h2] at e
   cases e
   cases e1
   exact wa e2
  rcases fJ h1 with ⟨e1,l1,_⟩ | ⟨n1,h1⟩
  ·rcases fJ h2 with ⟨e2,_,_⟩ | ⟨n2,h2⟩
   ·rw [e1,e2]
   ·rw [e1,bg7 (by rw [<- p.len]; exact l1)] at h3
    rw [bb3 (Ne.symm n2)] at h4
    cases h3
    exact absurd h4 (ne h2)
  ·rw [bb3 (Ne.symm n1)] at h3
   rcases fJ h2 with ⟨e2,l2,_⟩ | ⟨n2,h2⟩
   ·rw [e2,bg7 (by rw [<- p.len]; exact l2)] at h4
    cases h4
    exact absurd h3 (ne h1)
   ·rw [bb3 (Ne.symm n2)] at h4
    exact p.dis j k y z b h1 h2 h3 h4
theorem Ev.own {a:Addr} (s:aD Hs H) (ha:Hs a=none):Ev W Hs (lE W a) H:=fun b o e n=>⟨s _ _ e,fun z=>z.elim n fun z=>by rw [z,ha] at e; cases e⟩
theorem lF {g:Bool}{a b:Addr} (wa:W a) (h:Ms H0 W g b):b ≠ a:=by
 cases g with
 | true=>exact fun z=>h.1 (by rw [z]; exact wa)
 | false=>exact fun z=>h (by rw [z]; exact wa)
theorem PX.updOwn {i:Nat}{a:Addr}{x y:PV}{o:HO} (p:PX K H0 W σ ρ H) (hi:ρ[i]? = some (some (.own x))) (ha:σ[i]? = some (some (.ref a))) (wa:W a) (mu:eU o=true) (r:gI K (Ms H0 W true) (upd H a o) a y) :
  PX K H0 W σ (ρ.set i (some (.own y))) (upd H a o):=by
 obtain ⟨w0,o',e',mu'⟩:=p.wm a wa
 have kp:∀ g,gU (Ms H0 W g) (Ms H0 W g) H (upd H a o):=fun g=>.upd e' mu' fun b m=>⟨lF wa m,m⟩
 refine⟨by rw [bg6]; exact p.len,fun b u e=>by rw [aV (fun z=>by rw [z,w0] at e; cases e)]; exact p.same _ _ e,fun b z=>?_,fun j m h=>?_,fun j k y' z b h1 h2 h3 h4=>?_⟩
 ·by_cases e:b=a
  ·subst e; exact⟨w0,o,bK,mu⟩
  ·obtain ⟨h1,o2,h2,h3⟩:=p.wm b z
   exact⟨h1,o2,by rw [aV e]; exact h2,h3⟩
 ·rcases fJ h with ⟨rfl,hl,e⟩ | ⟨hne,h⟩
  ·cases e
   exact⟨_,ha,a,rfl,wa,r⟩
  ·obtain ⟨u,e,q⟩:=p.sl j m h
   refine⟨u,e,?_⟩
   cases m with
   | sh g y=>exact aE.keep (kp g) q
   | own y=>
    obtain ⟨b,e1,e2,q⟩:=q
    have hb:b ≠ a:=fun z=>by
     subst e1
     rw [z] at e
     exact hne (p.dis j i _ _ a h hi e ha)
    exact⟨b,e1,e2,q.keep (kp true) fun o z=>by rw [aV hb]; exact z⟩
 ·have g1:∃ y,ρ[j]? = some (some (.own y)):=by
   rcases fJ h1 with ⟨e,_,_⟩ | ⟨_,h⟩
   ·exact⟨x,by rw [e]; exact hi⟩
   ·exact⟨_,h⟩
  have g2:∃ y,ρ[k]? = some (some (.own y)):=by
   rcases fJ h2 with ⟨e,_,_⟩ | ⟨_,h⟩
   ·exact⟨x,by rw [e]; exact hi⟩
   ·exact⟨_,h⟩
  obtain ⟨y1,g1⟩:=g1
  obtain ⟨y2,g2⟩:=g2
  exact p.dis j k y1 y2 b g1 g2 h3 h4
theorem Ev.upd {a:Addr}{o:HO} (wa:W a):Ev W H W (upd H a o):=fun b u e n=>⟨by rw [aV (fun z=>n (by rw [z]; exact wa))]; exact e,n⟩
def nB (W:Addr->Prop) (a:Addr):Addr->Prop:=fun b=>W b/\b ≠ a
theorem u7 {g:Bool}{a b:Addr} (h:Ms H0 W g b):Ms H0 (nB W a) g b:=by
 cases g with
 | true=>exact⟨fun z=>h.1 z.1,h.2⟩
 | false=>exact fun z=>h z.1
theorem PX.freeze {i:Nat}{a:Addr}{x:PV} (p:PX K H0 W σ ρ H) (hi:ρ[i]? = some (some (.own x))) (ha:σ[i]? = some (some (.ref a))):PX K H0 (nB W a) σ (ρ.set i (some (.sh true x))) H:=by
 obtain ⟨v,ev,a',e1,wa,r⟩:=p.sl i _ hi
 rw [ha] at ev
 cases ev
 cases e1
 refine⟨by rw [bg6]; exact p.len,p.same,fun b z=>p.wm b z.1,fun j m h=>?_,fun j k y' z b h1 h2 h3 h4=>?_⟩
 ·rcases fJ h with ⟨rfl,hl,e⟩ | ⟨hne,h⟩
  ·cases e
   exact⟨_,ha,r.rep (M':=Ms H0 (nB W a) true) (fun b m=>u7 (g:=true) m) (show Ms H0 (nB W a) true a from ⟨fun z=>z.2 rfl,(p.wm a wa).1⟩)⟩
  ·obtain ⟨u,e,q⟩:=p.sl j m h
   refine⟨u,e,?_⟩
   cases m with
   | sh g y=>exact aE.same q (aD.refl _) fun _ m=>u7 m
   | own y=>
    obtain ⟨b,e1,e2,q⟩:=q
    have hb:b ≠ a:=fun z=>by
     subst e1
     rw [z] at e
     exact hne (p.dis j i _ _ a h hi e ha)
    exact⟨b,e1,⟨e2,hb⟩,q.keep (.same (aD.refl _) fun _ m=>u7 m) fun _ z=>z⟩
 ·rcases fJ h1 with ⟨_,_,e⟩ | ⟨_,h1⟩
  ·cases e
  ·rcases fJ h2 with ⟨_,_,e⟩ | ⟨_,h2⟩
   ·cases e
   ·exact p.dis j k _ _ b h1 h2 h3 h4
theorem Ev.off {a:Addr}:Ev W H (nB W a) H:=fun b u e n=>⟨e,fun z=>n z.1⟩
end
section
variable {X : Cx} {σ : St} {H : Hp} {D : cE} {te : aF} {t u : aK}
def cL:aK:=fun D ρ=>D.nx ρ
def aM (t u:aK):aK:=fun D ρ=>t { D with nx:=u D } ρ
theorem aq8 (h:LS X cL D σ H):xH D σ H:=by
 obtain ⟨W,ρ,D',px,q,k⟩:=h
 exact k.nx W σ H ρ (Ev.refl _ _) px q
theorem aq9 (h:LS X (aM t u) D σ H):xI (LS X t) (LS X u) D σ H:=by
 obtain ⟨W,ρ,D',px,q,k⟩:=h
 exact⟨W,ρ,_,px,q,fun W' σ' H' ρ' e px' q'=>⟨W',ρ',D',px',q',k.step e⟩,k.rt,k.bk,k.ct⟩
def B5:Tg->PV->Bool
 | .fr,_=>true
 | .nw,_=>true
 | _,x=>flat x
def B6:Tg->PV->Prop
 | .rd,x=>flat x=true
 | _,_=>True
theorem ar0 {K:PySem.W.Frag}{H0 Hs H:Hp}{W:Addr->Prop}{σ:St}{ρ:bE}{g:Tg}{x:PV}{v:V} (px:PX K H0 W σ ρ Hs) (n:B6 g x) (r:aE K (Mg H0 W Hs g) H v x):aE K (Ms H0 W (B5 g x)) H v x:=by
 cases g with
 | fr=>exact Nw.rep (g:=.fr) px trivial r
 | nw=>exact Nw.rep (g:=.nw) px trivial r
 | sh=>
  show aE K (Ms H0 W (flat x)) H v x
  cases e:flat x with
  | true=>exact r.flat e
  | false=>exact r.same (aD.refl _) fun _ z=>z
 | rd=>exact r.flat n
def b7 (i:Nat) (te:aF):aK:=fun D ρ=>te ρ fun x g=>B6 g x/\D.nx (ρ.set i (some (.sh (B5 g x) x)))
theorem B7 {i:Nat} (h:LS X (b7 i te) D σ H):mH (LE X te) (dI i) D σ H:=by
 obtain ⟨W,ρ,D',px,q,k⟩:=h
 refine⟨W,ρ,_,px,q,?_⟩
 rintro v H1 x g s r ⟨n,q⟩
 exact k.nx W _ H1 _ (Ev.same s) ((px.mono s).setSh (ar0 px n r)) q
def B8:PV->Bool
 | .lst xs=>flats xs
 | .dK ps=>flats (ps.map (·.2))
 | .dT ps=>flats (ps.map (·.2))
 | _=>false
theorem ar1 {K:PySem.W.Frag}{M:Addr->Prop}{H:Hp}{v:V}{x:PV} (r:aE K M H v x) (o:B8 x=true):∃ a,v = .ref a/\M a/\∀ M',gI K M' H a x:=by
 cases r with
 | lst m e r=>exact⟨_,rfl,m,fun _=>⟨_,e,r.flat o⟩⟩
 | dK m e q r=>exact⟨_,rfl,m,fun _=>⟨_,e,q,r.flat o⟩⟩
 | dT m e q r=>exact⟨_,rfl,m,fun _=>⟨_,e,q,r.flat o⟩⟩
 | _=>cases o
def gW (i:Nat) (te:aF):aK:=fun D ρ=>te ρ fun x g=>g = .fr/\B8 x=true/\D.nx (ρ.set i (some (.own x)))
theorem ar2 {i:Nat} (h:LS X (gW i te) D σ H):mH (LE X te) (dI i) D σ H:=by
 obtain ⟨W,ρ,D',px,q,k⟩:=h
 refine⟨W,ρ,_,px,q,?_⟩
 rintro v H1 x g s r ⟨rfl,o,q⟩
 obtain ⟨a,rfl,m,w⟩:=ar1 r o
 exact k.nx _ _ H1 _ (Ev.own s m) (px.setOwn s m (w _)) q
def u8 (i:Nat) (t:aK):aK:=fun D ρ=>∃ x,ρ[i]? = some (some (.own x))/\t D (ρ.set i (some (.sh true x)))
theorem ar3 {i:Nat} (h:LS X (u8 i t) D σ H):LS X t D σ H:=by
 obtain ⟨W,ρ,D',px,⟨x,hi,q⟩,k⟩:=h
 obtain ⟨v,ev,a,rfl,wa,r⟩:=px.sl i _ hi
 exact⟨_,_,D',px.freeze hi ev,q,k.step Ev.off⟩
def bB (te:aF):aK:=fun D ρ=>te ρ fun x g=>Nw g x/\D.rt x
theorem ar4 (h:LS X (bB te) D σ H):sC (LE X te) D σ H:=by
 obtain ⟨W,ρ,D',px,q,k⟩:=h
 refine⟨W,ρ,_,px,q,?_⟩
 rintro v H1 x g s r ⟨n,q⟩
 exact k.rt v H1 x (px.same.trans s) ((Nw.rep px n r).same (aD.refl _) fun _ z=>z.2) q
def Slot.nw:Slot->Prop
 | .own _=>True
 | .sh true _=>True
 | .sh false x=>flat x=true
def jF (i:Nat):aK:=fun D ρ=>∃ m,ρ[i]? = some (some m)/\m.nw/\D.rt m.val
theorem ar5 {i:Nat} (h:LS X (jF i) D σ H):sC (iC i) D σ H:=by
 obtain ⟨W,ρ,D',px,⟨m,hi,n,q⟩,k⟩:=h
 obtain ⟨v,ev,r⟩:=px.sl i _ hi
 refine⟨v,ev,k.rt v H _ px.same ?_ q⟩
 cases m with
 | own x=>
  obtain ⟨a,rfl,wa,r⟩:=r
  exact r.rep (fun _ z=>z.2) (px.wm a wa).1
 | sh g x=>
  cases g with
  | true=>exact aE.same r (aD.refl _) fun _ z=>z.2
  | false=>exact aE.flat n r
def cI (c:cA) (t u:aK):aK:=fun D ρ=>c ρ fun b=>if b=true then t D ρ else u D ρ
theorem ar6 {c:cA} (h:LS X (cI c t u) D σ H):xJ (LT X c) (LS X t) (LS X u) D σ H:=by
 obtain ⟨W,ρ,D',px,q,k⟩:=h
 refine⟨W,ρ,_,px,q,fun b H1 s q1=>?_⟩
 cases b with
 | true=>exact b6 ⟨W,ρ,D',px.mono s,by simpa using q1,k.step (Ev.same s)⟩
 | false=>exact aS ⟨W,ρ,D',px.mono s,by simpa using q1,k.step (Ev.same s)⟩
def lG (c:cA) (tb:aK):aK:=fun D ρ=>∃ I:Nat->bE->Prop,(∃ m,I m ρ)/\∀ m ρ',I m ρ'->c ρ' fun b=>if b=true then tb { D with nx:=fun ρ2=>∃ m',m' < m/\I m' ρ2,ct:=fun ρ2=>∃ m',m' < m/\I m' ρ2,bk:=D.nx } ρ' else D.nx ρ'
theorem ar7 {c:cA}{tb:aK} (h:LS X (lG c tb) D σ H):xL (LT X c) (LS X tb) D σ H:=by
 obtain ⟨W,ρ,D',px,⟨I,⟨m0,i0⟩,turn⟩,k⟩:=h
 refine⟨fun m σ2 H2=>∃ W2 ρ2,PX X.K X.H₀ W2 σ2 ρ2 H2/\Ev W H W2 H2/\I m ρ2,⟨m0,W,ρ,px,Ev.refl _ _,i0⟩,?_⟩
 rintro m σ2 H2 ⟨W2,ρ2,px2,e2,i2⟩
 refine⟨W2,ρ2,_,px2,turn m ρ2 i2,fun b H3 s3 q3=>?_⟩
 cases b with
 | true=>
  refine b6 ⟨fun σ4 H4=>∃ W4 ρ4,PX X.K X.H₀ W4 σ4 ρ4 H4/\Ev W H W4 H4/\∃ m',m' < m/\I m' ρ4,fun σ4 H4 ⟨W4,ρ4,a,b,m',c,d⟩=>⟨m',c,W4,ρ4,a,b,d⟩,W2,ρ2,_,px2.mono s3,by simpa using q3,?_⟩
  have e3:Ev W H W2 H3:=e2.trans (Ev.same s3)
  exact⟨fun W' σ' H' ρ' e p q=>⟨W',ρ',p,e3.trans e,q⟩,k.rt,fun W' σ' H' ρ' e p q=>k.nx W' σ' H' ρ' (e3.trans e) p q,fun W' σ' H' ρ' e p q=>⟨W',ρ',p,e3.trans e,q⟩⟩
 | false=>exact aS (k.nx W2 σ2 H3 ρ2 (e2.trans (Ev.same s3)) (px2.mono s3) (by simpa using q3))
end
theorem lim {n:Nat} (h:n<=16000000):n<=sizeLine:=bf3 (jC h)
theorem aE.sqT {K:PySem.W.Frag}{M:Addr->Prop}{H:Hp}{v:V}{xs:List PV} (r:aE K M H v (.tup xs)):∃ a us,v = .ref a/\H a=some (.tup us)/\Reps K M H us xs:=by
 cases r with
 | tup e r=>exact⟨_,_,rfl,e,r⟩
theorem aE.sqL {K:PySem.W.Frag}{M:Addr->Prop}{H:Hp}{v:V}{xs:List PV} (r:aE K M H v (.lst xs)):∃ a us,v = .ref a/\M a/\H a=some (.lst us)/\Reps K M H us xs:=by
 cases r with
 | lst m e r=>exact⟨_,_,rfl,m,e,r⟩
theorem iL.sqL {K:PySem.W.Frag}{H:Hp}{a:Addr}{ns:List Int} (h:iL K H a ns):aJ K H a (ns.map V.int):=h.elim (fun z=>.inl (.inr z)) .inr
def gX:PV->Option (List PV)
 | .tup xs=>some xs
 | .lst xs=>some xs
 | .scr ns=>some (intz ns)
 | .kt xs=>some xs
 | _=>none
theorem aE.seq {K:PySem.W.Frag}{M:Addr->Prop}{H:Hp}{v:V}{x:PV}{xs:List PV} (r:aE K M H v x) (e:gX x=some xs):∃ a us,v = .ref a/\(aJ K H a us ∨ aG K H a us)/\Reps K M H us xs:=by
 cases r with
 | tup h r=>cases e; exact⟨_,_,rfl,.inr (aG.of h),r⟩
 | lst m h r=>cases e; exact⟨_,_,rfl,.inl (aJ.of h),r⟩
 | scr h=>cases e; exact⟨_,_,rfl,.inl h.sqL,Reps.intz _⟩
 | kt h r=>cases e; exact⟨_,_,rfl,.inr (.inr h),r⟩
 | _=>cases e
section
variable {X : Cx} {σ : St} {H : Hp} {D : cE} {te ti to : aF} {t u : aK} {Q' : VK}
theorem _root_.PP.PX.updL {K:PySem.W.Frag}{H0:Hp}{W:Addr->Prop}{σ:St}{ρ:bE}{H:Hp}{i:Nat}{a:Addr}{x:PV}{us:List V}{ys:List PV} (p:PX K H0 W σ ρ H) (hi:ρ[i]? = some (some (.own x))) (ha:σ[i]? = some (some (.ref a))) (wa:W a) (r:Reps K (Ms H0 W true) (upd H a (.lst us)) us ys) :
  PX K H0 W σ (ρ.set i (some (.own (.lst ys)))) (upd H a (.lst us)):=p.updOwn hi ha wa rfl (y:=.lst ys) ⟨us,bK,r⟩
def lH (i:Nat) (te:aF):aK:=fun D ρ=>∃ xs,ρ[i]? = some (some (.own (.lst xs)))/\te ρ fun x g=>Nw g x/\xs.length < 16000000/\D.nx (ρ.set i (some (.own (.lst (xs ++ [x])))))
theorem ar8 {i:Nat} (h:LS X (lH i te) D σ H):oG (yY X.K "list" z9 (iC i) (iE (LE X te) k4)) D σ H:=by
 obtain ⟨W,ρ,D',px,⟨xs,hi,q⟩,k⟩:=h
 obtain ⟨v,ev,a,rfl,wa,us,ea,r⟩:=px.sl i _ hi
 refine⟨_,ev,tT (aJ.of ea),W,ρ,_,px,q,?_⟩
 rintro w H1 x g s rx ⟨n,hl,q⟩
 have ea1:=s _ _ ea
 refine⟨a,us,w,rfl,rfl,ea1,jC (by rw [r.length]; omega),?_⟩
 refine k.nx W σ _ _ ((Ev.same s).trans (Ev.upd wa)) ((px.mono s).updL hi ev wa ?_) q
 exact ((r.same s fun _ z=>z).append (.cons (Nw.rep px n rx) .nil)).keep (.upd ea1 rfl fun b m=>⟨lF wa m,m⟩)
end
theorem Reps.atI {K:PySem.W.Frag}{M:Addr->Prop}{H:Hp}{us:List V}{xs:List PV}{i:Int}{z:PV} (r:Reps K M H us xs) (h:L2.atI xs i=some z):∃ v,L2.atI us i=some v/\aE K M H v z:=by
 unfold L2.atI at h ⊢
 rw [r.length]
 cases e:gT xs.length i with
 | none=>rw [e] at h; cases h
 | some j=>rw [e] at h; exact r.at h
section
variable {X : Cx} {σ : St} {H : Hp} {Q' : VK} {ta tb te : aF} {tr : cO}
def u9:PV->Tg->PV->Tg->PK->Prop:=fun x g y _ Q=>∃ xs i z,gX x=some xs/\y = .int i/\L2.atI xs i=some z/\Q z g
theorem ar9:dQ X u9 (yW X.K):=by
 rintro W Hs H u v x y g g' Q Q' s n r1 r2 ⟨xs,i,z,e,rfl,hz,q⟩ k
 cases r2
 obtain ⟨a,us,rfl,hs,r⟩:=r1.seq e
 obtain ⟨v,hv,rv⟩:=r.atI hz
 rcases hs with hs | hs
 ·exact .inl ⟨a,us,i,v,rfl,rfl,hs,hv,k v H z g (aD.refl _) rv q⟩
 ·exact .inr (.inl ⟨a,us,i,v,rfl,rfl,hs,hv,k v H z g (aD.refl _) rv q⟩)
def uA:PV->Option Nat
 | .tup xs=>some xs.length
 | .lst xs=>some xs.length
 | .scr ns=>some ns.length
 | .dK ps=>some ps.length
 | .kt xs=>some xs.length
 | _=>none
def dE:List PV->(PV->Prop)->Prop:=fun xs Q=>∃ x n,xs = [x]/\uA x=some n/\Q (.int n)
theorem Reps.one {K:PySem.W.Frag}{M:Addr->Prop}{H:Hp}{vs:List V}{x:PV} (r:Reps K M H vs [x]):∃ v,vs = [v]/\aE K M H v x:=by
 cases r with
 | cons r t=>cases t; exact⟨_,rfl,r⟩
theorem Reps.two {K:PySem.W.Frag}{M:Addr->Prop}{H:Hp}{vs:List V}{x y:PV} (r:Reps K M H vs [x,y]):∃ v w,vs = [v,w]/\aE K M H v x/\aE K M H w y:=by
 cases r with
 | cons r t=>
  obtain ⟨w,rfl,q⟩:=t.one
  exact⟨_,_,rfl,r,q⟩
theorem as0:eV X dE (fun xs H Q=>(∃ p ys,xs = [.ref p]/\(aJ X.K H p ys ∨ aG X.K H p ys)/\Q (.int ys.length) H) ∨ ∃ a kvs,xs = [V.ref a]/\H a=some (.dK kvs)/\Q (.int kvs.length) H):=by
 rintro H vs xs Q Q' r ⟨x,n,rfl,e,q⟩ k
 obtain ⟨v,rfl,r1⟩:=r.one
 have fin:∀ {m:Nat},m=n->Q' (.int m) H:=fun {m} z=>by rw [z]; exact k _ _ _ (aD.refl _) (.int _) q
 cases r1 with
 | tup h r2=>cases e; exact .inl ⟨_,_,rfl,.inr (aG.of h),fin r2.length⟩
 | lst m h r2=>cases e; exact .inl ⟨_,_,rfl,.inl (aJ.of h),fin r2.length⟩
 | scr h=>cases e; exact .inl ⟨_,_,rfl,.inl h.sqL,fin (by rw [aY0])⟩
 | kt h r2=>cases e; exact .inl ⟨_,_,rfl,.inr (.inr h),fin r2.length⟩
 | dK m h e' r=>
  cases e
  refine .inr ⟨_,_,rfl,h,fin ?_⟩
  have:=congrArg List.length e'
  rw [aY0,aY0] at this
  exact this
 | _=>cases e
def seqT:PV->Option (List PV)
 | .kt _=>none
 | x=>gX x
def B9:List PV->(PV->Prop)->Prop:=fun xs Q=>∃ x ys,xs = [x]/\seqT x=some ys/\flats ys=true/\Q (.tup ys)
def pH:List PV->(PV->Prop)->Prop:=fun xs Q=>∃ x ys,xs = [x]/\gX x=some ys/\flats ys=true/\Q (.lst ys)
theorem as1:eV X (fun xs Q=>B9 xs Q/\∀ ns,xs ≠ [.scr ns]) (fun xs H Q=>∃ p ys,xs = [.ref p]/\((aJ X.K H p ys/\∀ l,H l=none->Q (.ref l) (upd H l (.tup ys))) ∨ (aG X.K H p ys/\Q (.ref p) H))):=by
 rintro H vs xs Q Q' r ⟨⟨x,ys,rfl,e,f,q⟩,nsc⟩ k
 obtain ⟨v,rfl,r1⟩:=r.one
 cases r1 with
 | tup h r2=>cases e; exact⟨_,_,rfl,.inr ⟨aG.of h,k _ _ _ (aD.refl _) (.tup h (r2.flat f)) q⟩⟩
 | lst m h r2=>cases e; exact⟨_,_,rfl,.inl ⟨aJ.of h,fun l hl=>k _ _ _ (bQ hl _) (.tup bK ((r2.flat f).same (bQ hl _) fun _ z=>z)) q⟩⟩
 | scr h=>exact absurd rfl (nsc _)
 | _=>cases e
theorem as2:eV X pH (fun xs H Q=>∃ p ys,xs = [.ref p]/\(aJ X.K H p ys ∨ aG X.K H p ys)/\∀ l,H l=none->Q (.ref l) (upd H l (.lst ys))):=by
 rintro H vs xs Q Q' r ⟨x,ys,rfl,e,f,q⟩ k
 obtain ⟨v,rfl,r1⟩:=r.one
 obtain ⟨a,us,rfl,hs,r2⟩:=r1.seq e
 exact⟨_,_,rfl,hs,fun l hl=>k _ _ _ (bQ hl _) (.lst hl bK ((r2.flat f).same (bQ hl _) fun _ z=>z)) q⟩
def nC:List PV->(PV->Prop)->Prop:=fun xs Q=>∃ bs:List Bool,xs = [.lst (bs.map PV.bl)]/\Q (.bl (bs.all id))
theorem Reps.ofBls {K:PySem.W.Frag}{M:Addr->Prop}{H:Hp}:∀ {ns:List Bool}{us:List V},Reps K M H us (ns.map PV.bl)->us=ns.map V.bl
 | [],_,.nil=>rfl
 | n :: r,_,.cons q t=>by
  cases q
  rw [Reps.ofBls t]; rfl
theorem as3:eV X nC (fun xs H Q=>∃ (a:Addr) (bs:List Bool),xs = [.ref a]/\aJ X.K H a (bs.map V.bl)/\Q (.bl (bs.all id)) H):=by
 rintro H vs xs Q Q' r ⟨bs,rfl,q⟩ k
 obtain ⟨v,rfl,r1⟩:=r.one
 obtain ⟨a,us,rfl,_,h,r2⟩:=r1.sqL
 obtain rfl:=r2.ofBls
 exact⟨a,bs,rfl,aJ.of h,k _ _ _ (aD.refl _) (.bl _) q⟩
def pI:List PV->(PV->Prop)->Prop:=fun xs Q=>∃ i j,xs = [.int i,.int j]/\Q (.int (if j < i then j else i))
def nD:List PV->(PV->Prop)->Prop:=fun xs Q=>∃ i j,xs = [.int i,.int j]/\Q (.int (if j > i then j else i))
theorem as4:eV X pI (fun xs H Q=>∃ i j,xs = [.int i,.int j]/\Q (.int (if j < i then j else i)) H):=by
 rintro H vs xs Q Q' r ⟨i,j,rfl,q⟩ k
 obtain ⟨v,w,rfl,r1,r2⟩:=r.two
 cases r1; cases r2
 exact⟨i,j,rfl,k _ _ _ (aD.refl _) (.int _) q⟩
theorem as5:eV X nD (fun xs H Q=>∃ i j,xs = [.int i,.int j]/\Q (.int (if j > i then j else i)) H):=by
 rintro H vs xs Q Q' r ⟨i,j,rfl,q⟩ k
 obtain ⟨v,w,rfl,r1,r2⟩:=r.two
 cases r1; cases r2
 exact⟨i,j,rfl,k _ _ _ (aD.refl _) (.int _) q⟩
abbrev bC:=List PV->(PV->Prop)->Prop
def nE (K:PySem.W.Frag) (p:bC):Sp:=fun vs H Q _=>∃ xs Qp,Reps K (fun _=>True) H vs xs/\p xs Qp/\∀ v H' x,aD H H'->aE K (fun a=>H a=none) H' v x->Qp x->Q v H'
theorem as6 {p:bC}{E:XK} (h:LE X (aC p tr) σ H Q'):sP (nE X.K p) [] E (LA X tr) σ H Q':=by
 obtain ⟨W,ρ,Q,px,q,k⟩:=h
 refine⟨W,ρ,_,px,q,fun vs H1 xs s1 r1 q1=>⟨_,_,by rw [ba5]; exact r1.any,q1,fun v H' x s2 r2 q2=>k v H' x .fr (s1.trans s2) (r2.same (aD.refl _) fun _ z=>s1.free z) q2⟩⟩
def as7:PV->Option Bool
 | .non=>some false
 | .bl b=>some b
 | .int i=>some (i != 0)
 | .tup xs=>some (!xs.isEmpty)
 | .lst xs=>some (!xs.isEmpty)
 | .dK ps=>some (!ps.isEmpty)
 | _=>none
def nF (t:aF):cA:=fun ρ Q=>t ρ fun x _=>∃ b,as7 x=some b/\Q b
theorem uB {α β:Type}:∀ {l:List α}{m:List β},l.length=m.length->l.isEmpty=m.isEmpty
 | [],[],_=>rfl
 | _ :: _,_ :: _,_=>rfl
theorem as8 {t:aF}{Qb:Bool->Hp->Prop} (h:LT X (nF t) σ H Qb):LE X t σ H fun x H'=>∃ k,sM X.K x H' k/\Qb k H':=by
 obtain ⟨W,ρ,Q,px,q,k⟩:=h
 refine⟨W,ρ,_,px,q,?_⟩
 rintro v H1 x g s r ⟨b,e,q⟩
 refine⟨b,?_,k _ _ s q⟩
 cases r with
 | non=>cases e; rfl
 | bl b=>cases e; rfl
 | int i=>cases e; rfl
 | str x=>cases e
 | tup h r=>cases e; exact .inr (.inl ⟨_,aG.of h,by rw [uB r.length]⟩)
 | lst m h r=>cases e; exact .inl ⟨_,aJ.of h,by rw [uB r.length]⟩
 | dK m h e' r=>
  cases e
  refine .inr (.inr ⟨_,h,?_⟩)
  have:=congrArg List.length e'
  rw [aY0,aY0] at this
  rw [uB this]
 | dT m h e' r=>cases e
 | scr h=>cases e
 | kt h r=>cases e
 | exc h e' c=>cases e
 | fK h e' r=>cases e
 | fT h e' r=>cases e
def nG:PV->Bool
 | .non=>true
 | _=>false
def uC (neg:Bool):PV->Tg->PV->Tg->PK->Prop:=fun x _ y _ Q=>y = .non/\Q (.bl (if neg=true then !nG x else nG x)) .fr
theorem as9 {K:PySem.W.Frag}{M:Addr->Prop}{H:Hp}{v:V}{x:PV} (r:aE K M H v x):decide (v = .non)=nG x:=by
 cases r <;> rfl
theorem at2:dQ X (uC false) (fun x y H Q=>y = .non/\Q (.bl (decide (x = .non))) H):=by
 rintro W Hs H u v x y g g' Q Q' s n r1 r2 ⟨rfl,q⟩ k
 cases r2
 exact⟨rfl,by rw [as9 r1]; exact k _ _ _ _ (aD.refl _) (.bl _) q⟩
end
structure jG (K:PySem.W.Frag) (H0:Hp) (W:Addr->Prop) (g:Bool) (H1:Hp) (J:It) (xs:List PV):Prop where
 go:∀ W' H' i,Ev W H1 W' H'->i < xs.length->J.go i H'
 yld:∀ W' H' i v H2,Ev W H1 W' H'->J.yld i H' v H2->i < xs.length->aD H' H2/\∃ x,xs[i]? = some x/\aE K (Ms H0 W' g) H2 v x
 stop:∀ W' H',Ev W H1 W' H'->J.stop xs.length H'
abbrev dR:=bE->(List PV->Bool->Prop)->Prop
def LI (X:Cx) (t:dR):TI:=fun σ H R=>∃ (W:Addr->Prop) (ρ:bE) (Q:List PV->Bool->Prop),PX X.K X.H₀ W σ ρ H/\t ρ Q/\∀ J H1 xs g,aD H H1->jG X.K X.H₀ W g H1 J xs->Q xs g->R J H1
theorem Ev.keep {H0:Hp}{W W':Addr->Prop}{H H':Hp}{g:Bool} (e:Ev W H W' H') (tw:∀ a,W a->∃ o,H a=some o/\eU o=true):gU (Ms H0 W g) (Ms H0 W' g) H H':=by
 have m:∀ {a:Addr}{o:HO},Ms H0 W g a->H a=some o->Ms H0 W' g a/\H' a=some o:=fun {a o} z h=>by
  cases g with
  | true=>
   obtain ⟨h1,h2⟩:=e a _ h z.1
   exact⟨⟨h2,z.2⟩,h1⟩
  | false=>
   obtain ⟨h1,h2⟩:=e a _ h z
   exact⟨h2,h1⟩
 refine⟨fun a _ z h=>m z h,fun a _ z h=>m z h,fun a _ z h=>m z h,fun a _ h=>(e a _ h fun z=>?_).1,fun a _ _ h=>(e a _ h fun z=>?_).1⟩
 ·obtain ⟨o,h',mu⟩:=tw a z; rw [h] at h'; cases h'; cases mu
 ·obtain ⟨o,h',mu⟩:=tw a z; rw [h] at h'; cases h'; cases mu
section
variable {X : Cx} {σ : St} {H : Hp} {te : aF} {tr : cO} {R : It → Hp → Prop}
def C0 (K:PySem.W.Frag) (tl:TE):TI:=fun σ H R=>tl σ H fun x H1=>∃ a,x = .ref a/\((∃ xs,aJ K H1 a xs/\R (l8 K a) H1) ∨ (∃ xs,aG K H1 a xs/\R (j6 K a) H1))
def uD:Tg->List PV->Bool
 | .fr,_=>true
 | .nw,_=>true
 | _,xs=>flats xs
def dB (te:aF):dR:=fun ρ Q=>te ρ fun x g=>∃ xs,gX x=some xs/\(g = .rd->flat x=true)/\Q xs (uD g xs)
theorem C1 {K:PySem.W.Frag}{H0:Hp}{W:Addr->Prop}{g:Bool}{H1:Hp}{a:Addr}{us:List V}{xs:List PV} (tw:∀ a,W a->∃ o,H1 a=some o/\eU o=true) (ha:∀ W' H',Ev W H1 W' H'->aJ K H' a us) (r:Reps K (Ms H0 W g) H1 us xs):jG K H0 W g H1 (l8 K a) xs:=by
 have lr:=r.length
 refine⟨fun W' H' i e hi=>⟨us,us[i]'(by omega),ha W' H' e,by simp⟩,fun W' H' i v H2 e y hi=>?_,fun W' H' e=>⟨us,ha W' H' e,by omega⟩⟩
 obtain ⟨rfl,y⟩:=y
 obtain ⟨x,hx,rx⟩:=r.get (y us (ha W' _ e))
 exact⟨aD.refl _,x,hx,rx.keep (e.keep tw)⟩
theorem C2 {K:PySem.W.Frag}{H0:Hp}{W:Addr->Prop}{g:Bool}{H1:Hp}{a:Addr}{us:List V}{xs:List PV} (tw:∀ a,W a->∃ o,H1 a=some o/\eU o=true) (ha:∀ W' H',Ev W H1 W' H'->aG K H' a us) (r:Reps K (Ms H0 W g) H1 us xs):jG K H0 W g H1 (j6 K a) xs:=by
 have lr:=r.length
 refine⟨fun W' H' i e hi=>⟨us,us[i]'(by omega),ha W' H' e,by simp⟩,fun W' H' i v H2 e y hi=>?_,fun W' H' e=>⟨us,ha W' H' e,by omega⟩⟩
 obtain ⟨rfl,y⟩:=y
 obtain ⟨x,hx,rx⟩:=r.get (y us (ha W' _ e))
 exact⟨aD.refl _,x,hx,rx.keep (e.keep tw)⟩
theorem lI {K:PySem.W.Frag}{H0 Hs H:Hp}{W:Addr->Prop}{σ:St}{ρ:bE}{g:Tg}{us:List V}{xs:List PV} (px:PX K H0 W σ ρ Hs) (hg:g = .rd->flats xs=true) (r:Reps K (Mg H0 W Hs g) H us xs):Reps K (Ms H0 W (uD g xs)) H us xs:=by
 cases g with
 | fr=>exact r.same (aD.refl _) fun _ z=>px.new z
 | nw=>exact r.same (aD.refl _) fun _ z=>z
 | sh=>
  show Reps K (Ms H0 W (flats xs)) H us xs
  cases e:flats xs with
  | true=>exact r.flat e
  | false=>exact r.same (aD.refl _) fun _ z=>z
 | rd=>exact r.flat (hg rfl)
theorem at3 (h:LI X (dB te) σ H R):C0 X.K (LE X te) σ H R:=by
 obtain ⟨W,ρ,Q,px,q,k⟩:=h
 refine⟨W,ρ,_,px,q,?_⟩
 rintro v H1 x g s r ⟨xs,e,hg,q⟩
 have px1:=px.mono s
 have tw:∀ a,W a->∃ o,H1 a=some o/\eU o=true:=fun a z=>(px1.wm a z).2
 cases r with
 | tup h r=>
  cases e
  refine⟨_,rfl,.inr ⟨_,aG.of h,k _ _ _ _ s (C2 tw (fun W' H' e=>aG.of (e _ _ h fun z=>?_).1) (lI px (fun z=>by have:=hg z; unfold flat at this; exact this) r)) q⟩⟩
  obtain ⟨o,h',mu⟩:=tw _ z; rw [h] at h'; cases h'; cases mu
 | @lst a us xs' m h r=>
  cases e
  have wa : ¬ W a:=by
   cases g with
   | fr=>exact (px.new m).1
   | nw=>exact m.1
   | sh=>exact m
   | rd=>have:=hg rfl; unfold flat at this; cases this
  exact⟨_,rfl,.inl ⟨_,aJ.of h,k _ _ _ _ s (C1 tw (fun W' H' e=>aJ.of (e _ _ h wa).1) (lI px (fun z=>by have:=hg z; unfold flat at this; cases this) r)) q⟩⟩
 | scr h=>
  cases e
  refine⟨_,rfl,.inl ⟨_,h.sqL,k _ _ _ _ s (C1 tw (fun W' H' e=>(iL.keep (fun a o u hz=>(e _ _ hz fun z=>?_).1) h).sqL) (lI (g:=g) px (fun z=>cY _) (Reps.intz _))) q⟩⟩
  obtain ⟨o,h',mu⟩:=tw _ z; rw [hz] at h'; cases h'; cases mu
 | kt h r=>
  cases e
  exact⟨_,rfl,.inr ⟨_,.inr h,k _ _ _ _ s (C2 tw (fun W' H' e=>.inr h) (lI px (fun z=>by have:=hg z; unfold flat at this; exact this) r)) q⟩⟩
 | _=>cases e
def iP (lo:Int) (n:Nat):List PV:=(List.range n).map fun (i:Nat)=>PV.int (lo+(i:Int))
theorem eC (lo:Int) (n:Nat):(iP lo n).length=n:=by unfold iP; rw [aY0,bf2]
theorem C3 {lo:Int}{n i:Nat} (h:i < n):(iP lo n)[i]? = some (.int (lo+i)):=by unfold iP; rw [aZ3,bk1 h]; rfl
def iQ (te:aF):dR:=fun ρ Q=>te ρ fun x _=>∃ j:Int,x = .int j/\-1000000<=j/\j<=1000000/\Q (iP 0 j.toNat) true
def uE (ta tb:aF):dR:=fun ρ Q=>ta ρ fun x _=>tb ρ fun y _=>∃ i j:Int,x = .int i/\y = .int j/\(-1000000<=i/\i<=1000000/\-1000000<=j/\j<=1000000)/\Q (iP i (j - i).toNat) true
theorem C4 {K:PySem.W.Frag}{H0:Hp}{W:Addr->Prop}{H1:Hp} (lo:Int) (n:Nat):jG K H0 W true H1 (mI lo n) (iP lo n):=by
 refine⟨fun W' H' i e hi=>by rw [eC] at hi; exact hi,fun W' H' i v H2 e y hi=>?_,fun W' H' e=>by show n<=(iP lo n).length; rw [eC]; exact aX7 _⟩
 rw [eC] at hi
 obtain ⟨rfl,rfl⟩:=y
 exact⟨aD.refl _,_,C3 hi,.int _⟩
theorem at4 (h:LI X (iQ te) σ H R):xQ (iE (LE X te) k4) σ H R:=by
 obtain ⟨W,ρ,Q,px,q,k⟩:=h
 refine⟨W,ρ,_,px,q,?_⟩
 rintro v H1 x g s r ⟨j,rfl,h1,h2,q⟩
 cases r
 exact⟨j,rfl,by omega,by omega,k _ _ _ _ s (C4 0 j.toNat) q⟩
theorem at5 {ta tb:aF} (h:LI X (uE ta tb) σ H R):xR (iE (LE X ta) (iE (LE X tb) k4)) σ H R:=by
 obtain ⟨W,ρ,Q,px,q,k⟩:=h
 refine⟨W,ρ,_,px,q,fun v H1 x g s r q=>⟨W,ρ,_,px.mono s,q,?_⟩⟩
 rintro w H2 y g' s2 r2 ⟨i,j,rfl,rfl,h,q⟩
 cases r; cases r2
 exact⟨i,j,rfl,by omega,k _ _ _ _ (s.trans s2) (C4 i (j - i).toNat) q⟩
end
abbrev jH:=PV->Bool->bE->(bE->Prop)->Prop
def nH (K:PySem.W.Frag) (own:Nat->Prop) (p:jH) (t:TG):Prop:=∀ (H0:Hp) (W:Addr->Prop) (σ:St) (ρ:bE) (H:Hp) (v:V) (x:PV) (g:Bool) (Q:bE->Prop) (Q':St->Hp->Prop),
 PX K H0 W σ ρ H->aE K (Ms H0 W g) H v x->p x g ρ Q->(∀ σ' ρ',PX K H0 W σ' ρ' H->(∀ i,¬ own i->σ'[i]? = σ[i]?)->σ'.length=σ.length->Q ρ'->Q' σ' H)->t v σ H Q'
def bR (i:Nat):jH:=fun x g ρ Q=>Q (ρ.set i (some (.sh (g || flat x) x)))
theorem pJ {K:PySem.W.Frag}{H0 H:Hp}{W:Addr->Prop}{v:V}{x:PV}{g:Bool} (r:aE K (Ms H0 W g) H v x):aE K (Ms H0 W (g || flat x)) H v x:=by
 cases g with
 | true=>exact r
 | false=>
  show aE K (Ms H0 W (flat x)) H v x
  cases e:flat x with
  | true=>exact r.flat e
  | false=>exact r
theorem pK (K:PySem.W.Frag) (i:Nat):nH K (· = i) (bR i) (dI i):=by
 intro H0 W σ ρ H v x g Q Q' px r q k
 exact k _ _ (px.setSh (pJ r)) (fun j hj=>by rw [bb3 (Ne.symm hj)]) (bg6 ..) q
def nI (i j:Nat):jH:=fun x g ρ Q=>∃ y z,x = .tup [y,z]/\Q ((ρ.set i (some (.sh (g || flat y) y))).set j (some (.sh (g || flat z) z)))
theorem C5 (K:PySem.W.Frag) (i j:Nat):nH K (fun k=>k=i ∨ k=j) (nI i j) (oJ K 2 (jZ (dI i) (jZ (dI j) oI))):=by
 intro H0 W σ ρ H v x g Q Q' px r q k
 obtain ⟨y,z,rfl,q⟩:=q
 obtain ⟨a,us,rfl,h,r⟩:=r.sqT
 obtain ⟨u1,u2,rfl,r1,r2⟩:=r.two
 refine⟨a,_,rfl,aG.of h,rfl,u1,_,rfl,u2,_,rfl,rfl,k _ _ ((px.setSh (pJ r1)).setSh (pJ r2)) (fun k hk=>?_) (by rw [bg6,bg6]) q⟩
 rw [bb3 (fun e=>hk (.inr e.symm)),bb3 (fun e=>hk (.inl e.symm))]
section
variable {X : Cx} {σ : St} {H : Hp} {D : cE}
def eD (ti:dR) (p:jH) (tb:aK):aK:=fun D ρ=>ti ρ fun xs g=>∃ I:Nat->bE->Prop,I 0 ρ/\(∀ i x ρ',xs[i]? = some x->I i ρ'->p x g ρ' fun ρ2=>tb { D with nx:=I (i+1),ct:=I (i+1),bk:=D.nx } ρ2)/\∀ ρ',I xs.length ρ'->D.nx ρ'
theorem at6 {ti:dR}{p:jH}{g:TG}{tb:aK}{own:Nat->Prop} (hg:nH X.K own p g) (h:LS X (eD ti p tb) D σ H):xS (LI X ti) g (LS X tb) D σ H:=by
 obtain ⟨W,ρ,D',px,q,k⟩:=h
 refine⟨W,ρ,_,px,q,?_⟩
 rintro J H1 xs gb s it ⟨I,i0,turn,fin⟩
 refine⟨fun i m σ2 H2=>m=xs.length - i/\i<=xs.length/\∃ W2 ρ2,PX X.K X.H₀ W2 σ2 ρ2 H2/\Ev W H1 W2 H2/\I i ρ2,⟨xs.length,by omega,bc6 _,W,ρ,px.mono s,Ev.refl _ _,i0⟩,?_⟩
 rintro i m σ2 H2 ⟨rfl,hi,W2,ρ2,px2,e2,i2⟩
 have e0:Ev W H W2 H2:=(Ev.same s).trans e2
 by_cases hlt:i < xs.length
 ·refine .inr ⟨it.go W2 H2 i e2 hlt,fun σ3 H3=>∃ W3 ρ3,PX X.K X.H₀ W3 σ3 ρ3 H3/\Ev W H1 W3 H3/\I (i+1) ρ3,fun σ3 H3 ⟨W3,ρ3,a,b,c⟩=>⟨xs.length - (i+1),by omega,rfl,hlt,W3,ρ3,a,b,c⟩,fun v H3 y=>?_⟩
  obtain ⟨s3,x,hx,rx⟩:=it.yld W2 H2 i v H3 e2 y hlt
  refine hg X.H₀ W2 σ2 ρ2 H3 v x gb _ _ (px2.mono s3) rx (turn i x ρ2 hx i2) fun σ4 ρ4 px4 _ _ q4=>?_
  have e3:Ev W H1 W2 H3:=e2.trans (Ev.same s3)
  have e3':Ev W H W2 H3:=e0.trans (Ev.same s3)
  exact⟨W2,ρ4,_,px4,q4,fun W' σ' H' ρ' e p q=>⟨W',ρ',p,e3.trans e,q⟩,k.rt,fun W' σ' H' ρ' e p q=>k.nx W' σ' H' ρ' (e3'.trans e) p q,fun W' σ' H' ρ' e p q=>⟨W',ρ',p,e3.trans e,q⟩⟩
 ·have e:i=xs.length:=by omega
  subst e
  exact .inl ⟨it.stop W2 H2 e2,k.nx W2 σ2 H2 ρ2 e0 px2 (fin ρ2 i2)⟩
end
def lJ (fr:List (Option Nat)) (ρ:bE):bE:=fr.map fun o=>o.bind fun j=>(ρ[j]?).join.map fun m=>Slot.sh false m.val
def kC (D:Addr):Addr->Prop:=fun a=>a=D
theorem at7 {K:PySem.W.Frag}{H0:Hp}{W:Addr->Prop}{σ:St}{ρ:bE}{H1 H':Hp}{D:Addr}{acc:List V}{fr:List (Option Nat)} (px:PX K H0 W σ ρ H1) (hD:H1 D=none) (s:aD H1 H') (ha:H' D=some (.lst acc)) :
  PX K H1 (kC D) (eS fr σ) (lJ fr ρ) H':=by
 have old:∀ {a:Addr}{o:HO},H1 a=some o->a ≠ D:=fun {a o} e z=>by rw [z,hD] at e; cases e
 refine⟨by unfold eS lJ; rw [aY0,aY0],s,fun a z=>by cases z; exact⟨hD,_,ha,rfl⟩,fun i m h=>?_,fun i j x y a h1=>?_⟩
 ·unfold lJ at h
  rw [aZ3] at h
  cases ef:fr[i]? with
  | none=>rw [ef] at h; cases h
  | some o=>
   rw [ef] at h
   cases o with
   | none=>cases h
   | some j=>
    have h:some ((ρ[j]?).join.map fun m=>Slot.sh false m.val)=some (some m):=h
    cases er:ρ[j]? with
    | none=>rw [er] at h; cases h
    | some o=>
     rw [er] at h
     cases o with
     | none=>cases h
     | some m0=>
      cases h
      obtain ⟨v,ev,r⟩:=px.sl j m0 er
      refine⟨v,?_,?_⟩
      ·unfold eS
       rw [aZ3,ef]
       show some ((σ[j]?).join)=_
       rw [ev]; rfl
      ·have r':aE K (fun _=>True) H1 v m0.val:=(A8 (Hs:=H1) r).same (aD.refl _) fun _ _=>trivial
       exact r'.keep ⟨fun a _ _ e=>⟨old e,s _ _ e⟩,fun a _ _ e=>⟨old e,s _ _ e⟩,fun a _ _ e=>⟨old e,s _ _ e⟩,fun _ _ e=>s _ _ e,fun _ _ _ e=>s _ _ e⟩
 ·unfold lJ at h1
  rw [aZ3] at h1
  cases ef:fr[i]? with
  | none=>rw [ef] at h1; cases h1
  | some o=>
   rw [ef] at h1
   cases o with
   | none=>cases h1
   | some j=>
    have h1:some ((ρ[j]?).join.map fun m=>Slot.sh false m.val)=some (some (Slot.own x)):=h1
    cases er:ρ[j]? with
    | none=>rw [er] at h1; cases h1
    | some o=>
     rw [er] at h1
     cases o with
     | none=>cases h1
     | some m0=>cases h1
section
variable {X : Cx} {σ : St} {H : Hp} {Q' : VK}
abbrev _root_.L2.Cx.frm (X:Cx) (H1:Hp):Cx:={ X with H₀:=H1 }
def cV (ti:dR) (fr:List (Option Nat)) (p:jH) (tc:cA) (te:aF):aF:=fun ρ Q=>ti ρ fun xs g=>xs.length<=16000000/\∃ I:Nat->List PV->Prop,I 0 []/\
 (∀ i x acc,xs[i]? = some x->I i acc->p x false (lJ fr ρ) fun ρ2=>tc ρ2 fun b=>if b=true then te ρ2 fun y gy=>Nw gy y/\I (i+1) (acc ++ [y]) else I (i+1) acc)/\∀ acc,I xs.length acc->Q (.lst acc) .fr
theorem pL {ti:dR}{fr:List (Option Nat)}{p:jH}{g:TG}{tc:cA}{te:aF}{own:Nat->Prop} (hg:nH X.K own p g) (ho:∀ i,own i->fr[i]? = some none) (h:LE X (cV ti fr p tc te) σ H Q') :
  tP (LI X ti) fr (fun _=>g) (fun H1=>LT (X.frm H1) tc) (fun H1=>LE (X.frm H1) te) σ H Q':=by
 obtain ⟨W,ρ,Q,px,q,k⟩:=h
 refine⟨W,ρ,_,px,q,?_⟩
 rintro J H1 xs gb s it ⟨hl,I,i0,turn,fin⟩ D hD
 have px1:=px.mono s
 refine⟨fun i m acc H'=>m=xs.length - i/\i<=xs.length/\aD H1 H'/\H' D=some (.lst acc)/\∃ ys,Reps X.K (Ms H1 (kC D) true) H' acc ys/\ys.length<=i/\I i ys,⟨xs.length,by omega,bc6 _,bQ hD _,bK,[],.nil,aX7 _,i0⟩,?_⟩
 rintro i m acc H' ⟨rfl,hi,sm,ha,ys,ry,hy,iy⟩
 refine⟨ha,?_⟩
 have ev:Ev W H1 (lE W D) H':=Ev.own sm hD
 by_cases hlt:i < xs.length
 ·refine .inr ⟨it.go _ H' i ev hlt,fun v H2 y=>?_⟩
  obtain ⟨s2,x,hx,rx⟩:=it.yld _ H' i v H2 ev y hlt
  have ha2:=s2 _ _ ha
  have pxb:PX X.K H1 (kC D) (eS fr σ) (lJ fr ρ) H2:=at7 px1 hD (sm.trans s2) ha2
  have rx':aE X.K (Ms H1 (kC D) false) H2 v x:=rx.same (aD.refl _) fun a z=>by
   cases gb with
   | true=>exact fun e=>z.1 (.inr e)
   | false=>exact fun e=>z (.inr e)
  refine hg H1 (kC D) _ _ H2 v x false _ _ pxb rx' (turn i x ys hx iy) fun σ2 ρ2 px2 hown hlen q2=>⟨⟨hlen.symm,fun j w e=>?_⟩,?_⟩
  ·by_cases oj:own j
   ·have:=ho j oj
    unfold eS at e
    rw [aZ3,this] at e
    cases e
   ·rw [hown j oj]; exact e
  ·refine⟨kC D,ρ2,_,px2,q2,fun b H4 s4 q4=>?_⟩
   have ha4:=s4 _ _ ha2
   have sm4:=(sm.trans s2).trans s4
   cases b with
   | false=>
    refine aS ⟨xs.length - (i+1),by omega,rfl,hlt,sm4,ha4,ys,ry.same (s2.trans s4) fun _ z=>z,by omega,by simpa using q4⟩
   | true=>
    refine b6 ⟨kC D,ρ2,_,px2.mono s4,by simpa using q4,?_⟩
    rintro w H5 y gy s5 ryy ⟨nw,q5⟩
    have ha5:=s5 _ _ ha4
    have lr:=ry.length
    refine⟨ha5,jC (by omega),xs.length - (i+1),by omega,rfl,hlt,fun b o e=>?_,bK,ys ++ [y],?_,by rw [ba0,bk8]; omega,q5⟩
    ·rw [aV (fun z=>by rw [z,hD] at e; cases e)]
     exact s5 _ _ (sm4 _ _ e)
    ·exact ((ry.same ((s2.trans s4).trans s5) fun _ z=>z).append (.cons (Nw.rep (px2.mono s4) nw ryy) .nil)).keep (.upd ha5 rfl fun b m=>⟨m.1,m⟩)
 ·have e:i=xs.length:=by omega
  subst e
  refine .inl ⟨it.stop _ H' ev,k _ H' _ .fr (s.trans sm) (.lst (s.free hD) ha (ry.same (aD.refl _) fun _ z=>s.free z.2)) (fin ys iy)⟩
def fX:cA:=fun _ Q=>Q true
theorem at8 {Qb:Bool->Hp->Prop} (h:LT X fX σ H Qb):tL σ H Qb:=by
 obtain ⟨W,ρ,Q,px,q,k⟩:=h
 exact k _ _ (aD.refl _) q
end
section
variable {κ : Type} [DecidableEq κ]
def bN (ps:List (κ × PV)) (k:κ):Option PV:=(ps.find? fun p=>decide (p.1=k)).map (·.2)
def cD (ps:List (κ × PV)) (k:κ) (x:PV):List (κ × PV):=if (ps.any fun p=>decide (p.1=k))=true then ps.map (fun p=>if p.1=k then (p.1,x) else p) else ps ++ [(k,x)]
variable {K : PySem.W.Frag} {M : Addr → Prop} {H : Hp}
theorem iR (k:κ):∀ {kvs:List (κ × V)}{ps:List (κ × PV)},kvs.map (·.1)=ps.map (·.1)->Reps K M H (kvs.map (·.2)) (ps.map (·.2))->(bN ps k=none->e9 kvs k=none)/\∀ x,bN ps k=some x->∃ v,e9 kvs k=some v/\aE K M H v x
 | [],[],_,_=>⟨fun _=>rfl,fun x h=>by cases h⟩
 | [],_ :: _,e,_=>by cases e
 | _ :: _,[],e,_=>by cases e
 | (k1,v) :: kvs,(k2,x) :: ps,e,r=>by
  injection e with e1 e2
  have e1:k1=k2:=e1
  subst e1
  cases r with
  | cons r t=>
   obtain ⟨h1,h2⟩:=iR k e2 t
   unfold bN e9 at h1 h2 ⊢
   by_cases e:k1=k
   ·simp only [bh2,e,decide_true,Option.map_some]
    exact⟨fun z=>(by cases z),fun y z=>(by cases z; exact⟨v,rfl,r⟩)⟩
   ·simp only [bh2,e,decide_false]
    exact⟨h1,h2⟩
theorem at9 (k:κ) {kvs:List (κ × V)}{ps:List (κ × PV)} (e:kvs.map (·.1)=ps.map (·.1)):(kvs.any fun p=>decide (p.1=k))=ps.any fun p=>decide (p.1=k):=by
 have h1:(kvs.any fun p=>decide (p.1=k))=(kvs.map (·.1)).any fun z=>decide (z=k):=by rw [List.any_map]; rfl
 have h2:(ps.any fun p=>decide (p.1=k))=(ps.map (·.1)).any fun z=>decide (z=k):=by rw [List.any_map]; rfl
 rw [h1,h2,e]
theorem C6 (k:κ) {w:V}{y:PV} (q:aE K M H w y):∀ {kvs:List (κ × V)}{ps:List (κ × PV)},kvs.map (·.1)=ps.map (·.1)->Reps K M H (kvs.map (·.2)) (ps.map (·.2))->
  (kvs.map fun kv=>if kv.1=k then (kv.1,w) else kv).map (·.1)=(ps.map fun kv=>if kv.1=k then (kv.1,y) else kv).map (·.1)/\Reps K M H ((kvs.map fun kv=>if kv.1=k then (kv.1,w) else kv).map (·.2)) ((ps.map fun kv=>if kv.1=k then (kv.1,y) else kv).map (·.2))
 | [],[],_,_=>⟨rfl,.nil⟩
 | [],_ :: _,e,_=>by cases e
 | _ :: _,[],e,_=>by cases e
 | (k1,v) :: kvs,(k2,x) :: ps,e,r=>by
  injection e with e1 e2
  have e1:k1=k2:=e1
  subst e1
  cases r with
  | cons r t=>
   obtain ⟨h1,h2⟩:=C6 k q e2 t
   by_cases e:k1=k
   ·simp only [bc5,e,if_true]
    exact⟨by rw [h1],.cons q h2⟩
   ·simp only [bc5,e,be3]
    exact⟨by rw [h1],.cons r h2⟩
theorem uF (k:κ) {w:V}{y:PV} (q:aE K M H w y) {kvs:List (κ × V)}{ps:List (κ × PV)} (e:kvs.map (·.1)=ps.map (·.1)) (r:Reps K M H (kvs.map (·.2)) (ps.map (·.2))) :
  (dA kvs k w).map (·.1)=(cD ps k y).map (·.1)/\Reps K M H ((dA kvs k w).map (·.2)) ((cD ps k y).map (·.2)):=by
 unfold dA cD
 rw [at9 k e]
 split
 ·exact C6 k q e r
 ·rw [ba6,ba6,ba6,ba6,e]
  exact⟨rfl,r.append (.cons q .nil)⟩
end
def kP:a9->PV
 | .inl i=>.int i
 | .inr x=>.str x
theorem uG {K:PySem.W.Frag}{M:Addr->Prop}{H:Hp}{v:V}{k:a9} (r:aE K M H v (kP k)):v=kV k:=by
 cases k with
 | inl i=>cases r; rfl
 | inr x=>cases r; rfl
theorem pM {K:PySem.W.Frag}{M:Addr->Prop}{H:Hp}:∀ {ks:List a9}{us:List V},Reps K M H us (ks.map kP)->us=ks.map kV
 | [],_,.nil=>rfl
 | k :: r,_,.cons q t=>by rw [uG q,pM t]; rfl
def C7:PV->PV
 | .fK ps=>.dK ps
 | .fT ps=>.dT ps
 | x=>x
def C8 (x y:PV) (o:Option PV):Prop:=(∃ ps k,C7 x = .dK ps/\y=kP k/\o=bN ps k) ∨ (∃ ps k,C7 x = .dT ps/\y = .tup (k.map kP)/\o=bN ps k)
theorem C9 {K:PySem.W.Frag}{M M2:Addr->Prop}{H:Hp}{v w:V}{x y:PV}{o:Option PV} (h:C8 x y o) (rx:aE K M H v x) (ry:aE K M2 H w y):∃ a o',v = .ref a/\gH H a w o'/\(o=none->o'=none)/\∀ z,o=some z->∃ u,o'=some u/\aE K M H u z:=by
 rcases h with ⟨ps,k,ex,rfl,rfl⟩ | ⟨ps,k,ex,rfl,rfl⟩
 ·obtain rfl:=uG ry
  cases rx with
  | dK m h e r=>cases ex; exact⟨_,_,rfl,gH.k h,(iR k e r).1,(iR k e r).2⟩
  | fK h e r=>cases ex; exact⟨_,_,rfl,.inl ⟨_,k,.inr ⟨_,h⟩,rfl,rfl⟩,(iR k e r).1,(iR k e r).2⟩
  | _=>cases ex
 ·obtain ⟨b,us,rfl,hb,rb⟩:=ry.sqT
  obtain rfl:=pM rb
  cases rx with
  | dT m h e r=>cases ex; exact⟨_,_,rfl,gH.t h hb,(iR k e r).1,(iR k e r).2⟩
  | fT h e r=>cases ex; exact⟨_,_,rfl,.inr ⟨_,k,b,.inr ⟨_,h⟩,rfl,hb,rfl⟩,(iR k e r).1,(iR k e r).2⟩
  | _=>cases ex
section
variable {X : Cx} {σ : St} {H : Hp} {D : cE} {tk td te : aF} {Q' : VK}
def gY (neg:Bool) (tk td:aF):aF:=fun ρ Q=>tk ρ fun y _=>td ρ fun x _=>∃ o,C8 x y o/\Q (.bl (if neg=true then !o.isSome else o.isSome)) .fr
theorem E1 {α β:Type}{o:Option α}{o':Option β}{P:β->α->Prop} (h1:o=none->o'=none) (h2:∀ z,o=some z->∃ u,o'=some u/\P u z):o'.isSome=o.isSome:=by
 cases o with
 | none=>rw [h1 rfl]; rfl
 | some z=>obtain ⟨u,e,_⟩:=h2 z rfl; rw [e]; rfl
theorem au0 (h:LE X (gY false tk td) σ H Q'):zG (LE X tk) (LE X td) σ H Q':=by
 obtain ⟨W,ρ,Q,px,q,k⟩:=h
 refine⟨W,ρ,_,px,q,fun w H1 y g s r q=>⟨W,ρ,_,px.mono s,q,?_⟩⟩
 rintro v H2 x g' s2 r2 ⟨o,ak,q⟩
 obtain ⟨a,o',rfl,dg,h1,h2⟩:=C9 ak r2 (r.same s2 fun _ z=>z)
 refine⟨a,o',rfl,dg,?_⟩
 rw [E1 h1 h2]
 exact k _ _ _ .fr (s.trans s2) (.bl _) q
theorem E2 (h:LE X (gY true tk td) σ H Q'):zH (LE X tk) (LE X td) σ H Q':=by
 obtain ⟨W,ρ,Q,px,q,k⟩:=h
 refine⟨W,ρ,_,px,q,fun w H1 y g s r q=>⟨W,ρ,_,px.mono s,q,?_⟩⟩
 rintro v H2 x g' s2 r2 ⟨o,ak,q⟩
 obtain ⟨a,o',rfl,dg,h1,h2⟩:=C9 ak r2 (r.same s2 fun _ z=>z)
 refine⟨a,o',rfl,dg,?_⟩
 rw [E1 h1 h2]
 exact k _ _ _ .fr (s.trans s2) (.bl _) q
theorem PX.updD {K:PySem.W.Frag}{H0:Hp}{W:Addr->Prop}{σ:St}{ρ:bE}{H:Hp}{i:Nat}{a:Addr}{x:PV}{kvs:List (a9 × V)}{ps:List (a9 × PV)} (p:PX K H0 W σ ρ H) (hi:ρ[i]? = some (some (.own x))) (ha:σ[i]? = some (some (.ref a))) (wa:W a)
  (r:kvs.map (·.1)=ps.map (·.1)/\Reps K (Ms H0 W true) (upd H a (.dK kvs)) (kvs.map (·.2)) (ps.map (·.2))):PX K H0 W σ (ρ.set i (some (.own (.dK ps)))) (upd H a (.dK kvs)):=p.updOwn hi ha wa rfl (y:=.dK ps) ⟨kvs,bK,r⟩
theorem PX.updT {K:PySem.W.Frag}{H0:Hp}{W:Addr->Prop}{σ:St}{ρ:bE}{H:Hp}{i:Nat}{a:Addr}{x:PV}{kvs:List (List a9 × V)}{ps:List (List a9 × PV)} (p:PX K H0 W σ ρ H) (hi:ρ[i]? = some (some (.own x))) (ha:σ[i]? = some (some (.ref a))) (wa:W a)
  (r:kvs.map (·.1)=ps.map (·.1)/\Reps K (Ms H0 W true) (upd H a (.dT kvs)) (kvs.map (·.2)) (ps.map (·.2))):PX K H0 W σ (ρ.set i (some (.own (.dT ps)))) (upd H a (.dT kvs)):=p.updOwn hi ha wa rfl (y:=.dT ps) ⟨kvs,bK,r⟩
theorem pN {κ α β:Type}{l:List (κ × α)}{m:List (κ × β)} (e:l.map (·.1)=m.map (·.1)):l.length=m.length:=by
 have:=congrArg List.length e
 rw [aY0,aY0] at this
 exact this
def pO (i:Nat) (tk te:aF):aK:=fun D ρ=>te ρ fun z g=>∃ ps,ρ[i]? = some (some (.own (.dK ps)))/\tk ρ fun y _=>∃ k,y=kP k/\Nw g z/\ps.length < 16000000/\D.nx (ρ.set i (some (.own (.dK (cD ps k z)))))
def nJ (i:Nat) (tk te:aF):aK:=fun D ρ=>te ρ fun z g=>∃ ps,ρ[i]? = some (some (.own (.dT ps)))/\tk ρ fun y _=>∃ k,y = .tup (k.map kP)/\Nw g z/\ps.length < 16000000/\D.nx (ρ.set i (some (.own (.dT (cD ps k z)))))
theorem au1 {i:Nat} (h:LS X (pO i tk te) D σ H):t9 (iC i) (LE X tk) (LE X te) D σ H:=by
 obtain ⟨W,ρ,D',px,q,k⟩:=h
 refine⟨W,ρ,_,px,q,?_⟩
 rintro w H1 z g s rz ⟨ps,hi,q⟩
 obtain ⟨v,ev,a,rfl,wa,kvs,ea,e1,r⟩:=(px.mono s).sl i _ hi
 refine⟨_,ev,W,ρ,_,px.mono s,q,?_⟩
 rintro kv H2 y g' s2 ry ⟨kk,rfl,nw,hl,q⟩
 obtain rfl:=uG ry
 have ea2:=s2 _ _ ea
 refine⟨a,_,rfl,j9.k ea2 (jC (by rw [pN e1]; omega)),?_⟩
 refine k.nx W σ _ _ ((Ev.same (s.trans s2)).trans (Ev.upd wa)) ((px.mono (s.trans s2)).updD hi ev wa ?_) q
 obtain ⟨h1,h2⟩:=uF kk ((Nw.rep px nw rz).same s2 fun _ z=>z) e1 (r.same s2 fun _ z=>z)
 exact⟨h1,h2.keep (.upd ea2 rfl fun b m=>⟨lF wa m,m⟩)⟩
theorem au2 {i:Nat} (h:LS X (nJ i tk te) D σ H):t9 (iC i) (LE X tk) (LE X te) D σ H:=by
 obtain ⟨W,ρ,D',px,q,k⟩:=h
 refine⟨W,ρ,_,px,q,?_⟩
 rintro w H1 z g s rz ⟨ps,hi,q⟩
 obtain ⟨v,ev,a,rfl,wa,kvs,ea,e1,r⟩:=(px.mono s).sl i _ hi
 refine⟨_,ev,W,ρ,_,px.mono s,q,?_⟩
 rintro kv H2 y g' s2 ry ⟨kk,rfl,nw,hl,q⟩
 obtain ⟨b,us,rfl,hb,rb⟩:=ry.sqT
 obtain rfl:=pM rb
 have ea2:=s2 _ _ ea
 refine⟨a,_,rfl,j9.t ea2 hb (jC (by rw [pN e1]; omega)),?_⟩
 refine k.nx W σ _ _ ((Ev.same (s.trans s2)).trans (Ev.upd wa)) ((px.mono (s.trans s2)).updT hi ev wa ?_) q
 obtain ⟨h1,h2⟩:=uF kk ((Nw.rep px nw rz).same s2 fun _ z=>z) e1 (r.same s2 fun _ z=>z)
 exact⟨h1,h2.keep (.upd ea2 rfl fun b m=>⟨lF wa m,m⟩)⟩
theorem au3 (h:LE X (qC (.dK [])) σ H Q'):zK σ H Q':=by
 obtain ⟨W,ρ,Q,px,q,k⟩:=h
 exact fun p hp=>k _ _ _ .fr (bQ hp _) (.dK hp bK rfl .nil) q
theorem au4 (h:LE X (qC (.dT [])) σ H Q'):zL σ H Q':=by
 obtain ⟨W,ρ,Q,px,q,k⟩:=h
 exact fun p hp=>k _ _ _ .fr (bQ hp _) (.dT hp bK rfl .nil) q
def gK (ps more:List (a9 × PV)):List (a9 × PV):=more.foldl (fun acc kv=>cD acc kv.1 kv.2) ps
theorem E3 {K:PySem.W.Frag}{M:Addr->Prop}{H:Hp}:∀ {more:List (a9 × V)}{mp:List (a9 × PV)}{kvs:List (a9 × V)}{ps:List (a9 × PV)},more.map (·.1)=mp.map (·.1)->Reps K M H (more.map (·.2)) (mp.map (·.2))->kvs.map (·.1)=ps.map (·.1)->Reps K M H (kvs.map (·.2)) (ps.map (·.2))->
  (k7 kvs more).map (·.1)=(gK ps mp).map (·.1)/\Reps K M H ((k7 kvs more).map (·.2)) ((gK ps mp).map (·.2))
 | [],[],_,_,_,_,e,r=>⟨e,r⟩
 | [],_ :: _,_,_,e,_,_,_=>by cases e
 | _ :: _,[],_,_,e,_,_,_=>by cases e
 | (k1,v) :: more,(k2,x) :: mp,kvs,ps,e,r,e',r'=>by
  injection e with e1 e2
  have e1:k1=k2:=e1
  subst e1
  cases r with
  | cons q t=>
   obtain ⟨h1,h2⟩:=uF k1 q e' r'
   exact E3 (more:=more) (mp:=mp) e2 t h1 h2
def uH (i:Nat) (te:aF):aK:=fun D ρ=>∃ ps,ρ[i]? = some (some (.own (.dK ps)))/\te ρ fun y g=>∃ mp,y = .dK mp/\(g = .fr ∨ (g = .nw/\False))/\ps.length+mp.length<=16000000/\D.nx (ρ.set i (some (.own (.dK (gK ps mp)))))
theorem au5 {i:Nat} (h:LS X (uH i te) D σ H):oG (A6 (iC i) (LE X te)) D σ H:=by
 obtain ⟨W,ρ,D',px,⟨ps,hi,q⟩,k⟩:=h
 obtain ⟨v,ev,a,rfl,wa,kvs,ea,e1,r⟩:=px.sl i _ hi
 refine⟨_,ev,a,rfl,.inl ⟨kvs,.inl ea⟩,W,ρ,_,px,q,?_⟩
 rintro w H1 y g s ry ⟨mp,rfl,hg,hl,q⟩
 rcases hg with rfl | ⟨_,z⟩
 ·cases ry with
  | @dK b more _ m hb e2 rb=>
   have hab:a ≠ b:=fun z=>by subst z; rw [show H a=none from m] at ea; cases ea
   have ea1:=s _ _ ea
   refine⟨b,kvs,more,rfl,hab,ea1,hb,lim (by rw [pN e1,pN e2]; exact hl),?_⟩
   refine k.nx W σ _ _ ((Ev.same s).trans (Ev.upd wa)) ((px.mono s).updD hi ev wa ?_) q
   obtain ⟨h1,h2⟩:=E3 e2 (rb.same (M':=Ms X.H₀ W true) (aD.refl _) fun _ z=>px.new z) e1 (r.same s fun _ z=>z)
   exact⟨h1,h2.keep (.upd ea1 rfl fun b m=>⟨lF wa m,m⟩)⟩
 ·exact z.elim
end
def bF:Nat->PV->PV->Bool
 | _,.non,.non=>true
 | _,.bl a,.bl b=>a == b
 | _,.int a,.int b=>a == b
 | _,.str a,.str b=>a == b
 | n+1,.tup xs,.tup ys=>(xs.zip ys).all (fun p=>bF n p.1 p.2) && xs.length == ys.length
 | n+1,.lst xs,.lst ys=>(xs.zip ys).all (fun p=>bF n p.1 p.2) && xs.length == ys.length
 | n+1,.kt xs,.kt ys=>(xs.zip ys).all (fun p=>bF n p.1 p.2) && xs.length == ys.length
 | _,_,_=>false
def cW:Nat->PV->PV->Bool
 | _,.non,.non=>true
 | _,.bl _,.bl _=>true
 | _,.int _,.int _=>true
 | _,.str _,.str _=>true
 | _,.non,.int _=>true
 | _,.int _,.non=>true
 | n+1,.tup xs,.tup ys=>(xs.zip ys).all (fun p=>cW n p.1 p.2)
 | n+1,.lst xs,.lst ys=>(xs.zip ys).all (fun p=>cW n p.1 p.2)
 | n+1,.kt xs,.kt ys=>(xs.zip ys).all (fun p=>cW n p.1 p.2)
 | _+1,.non,.tup _=>true
 | _+1,.tup _,.non=>true
 | _,_,_=>false
theorem au6 (n:Nat) (a b:Int):bF n (.int a) (.int b)=(a == b):=by cases n <;> rfl
theorem uI (n:Nat):∀ (a b:List Int),((((intz a).zip (intz b)).all fun p=>bF n p.1 p.2) && (intz a).length == (intz b).length)=decide (a=b)
 | [],[]=>rfl
 | [],_ :: _=>by simp
 | _ :: _,[]=>by simp
 | x :: a,y :: b=>by
  have ih:=uI n a b
  simp only [bc5,bh4,bh9,aZ7,au6] at ih ⊢
  by_cases e:x=y
  ·subst e
   have:((intz a).length+1 == (intz b).length+1)=((intz a).length == (intz b).length):=by simp
   rw [this,bf8,Bool.true_and,ih]
   simp
  ·have:(x == y)=false:=beq_eq_false_iff_ne.mpr e
   rw [this,bi0,bi0]
   simp [e]
theorem E4 (n:Nat) (a b:List Int):bF (n+1) (.tup (intz a)) (.tup (intz b))=decide (a=b):=uI n a b
theorem E5 (n:Nat) (a b:List Int):bF (n+1) (.lst (intz a)) (.lst (intz b))=decide (a=b):=uI n a b
theorem uJ (n:Nat):∀ (a b:List Int),(((intz a).zip (intz b)).all fun p=>cW n p.1 p.2)=true
 | [],_=>by simp
 | _ :: _,[]=>by simp
 | x :: a,y :: b=>by
  simp only [bc5,bh4,bh9,uJ n a b,Bool.and_true]
  cases n <;> rfl
theorem E6 (n:Nat) (a b:List Int):cW (n+1) (.tup (intz a)) (.tup (intz b))=true:=uJ n a b
theorem E7 (n:Nat) (a b:List Int):cW (n+1) (.lst (intz a)) (.lst (intz b))=true:=uJ n a b
def uK (ta:aF):aF:=fun ρ Q=>ta ρ fun x _=>∃ i,x = .int i/\Q (.int (-i)) .fr
def fY (neg:Bool):PV->Tg->PV->Tg->PK->Prop:=fun x _ y _ Q=>∃ i ns,x = .int i/\gX y=some (intz ns)/\Q (.bl (if neg=true then !decide (i ∈ ns) else decide (i ∈ ns))) .fr
def E8:PV->Option String
 | .non=>some "NoneType"
 | .bl _=>some "bool"
 | .int _=>some "int"
 | .str _=>some "str"
 | .tup _=>some "tuple"
 | .kt _=>some "tuple"
 | .lst _=>some "list"
 | _=>none
def kD (K:PySem.W.Frag) (n:String) (te:aF):aF:=fun ρ Q=>te ρ fun x _=>∃ T b,E8 x=some T/\PySem.W.kitOne K (.type T) (.type n)=some b/\Q (.bl b) .fr
def jI (n:Nat) (neg:Bool):PV->Tg->PV->Tg->PK->Prop:=fun x _ y _ Q=>((∃ xs ys,x = .tup xs/\y = .tup ys) ∨ (∃ xs ys,x = .lst xs/\y = .lst ys))/\cW (n+1) x y=true/\Q (.bl (if neg=true then !bF (n+1) x y else bF (n+1) x y)) .fr
abbrev lK:=bE->(Option Int->Prop)->Prop
def eF (xs:List PV) (lo hi:Option Int):List PV:=(xs.drop (HT.aT xs.length 0 lo)).take (HT.aT xs.length xs.length hi - HT.aT xs.length 0 lo)
def uL:PV->List PV->PV
 | .tup _,ys=>.tup ys
 | .kt _,ys=>.tup ys
 | _,ys=>.lst ys
def pP:lK:=fun _ Q=>Q none
def pQ (te:aF):lK:=fun ρ Q=>te ρ fun x _=>∃ i,x = .int i/\Q (some i)
def pR (te:aF) (tl th:lK):aF:=fun ρ Q=>te ρ fun x _=>tl ρ fun lo=>th ρ fun hi=>∃ xs,seqT x=some xs/\flats xs=true/\Q (uL x (eF xs lo hi)) .fr
def dS (N:List Str) (xs:List PV):bE:=xs.map (fun x=>some (.sh (flat x) x)) ++ List.replicate (N.length - xs.length) none
abbrev kE (ta tb:aF):aF:=q2 (eB fun i j=>.int (i+j)) ta tb
abbrev nK (ta tb:aF):aF:=q2 (eB fun i j=>.int (i - j)) ta tb
abbrev uM (ta tb:aF):aF:=q2 (RI mL fun i j=>.int (i * j)) ta tb
abbrev jJ (ta tb:aF):aF:=q2 (RI sK fun i j=>.int (i / j)) ta tb
abbrev dM (ta tb:aF):aF:=q2 (RI (fun _ j=>0 < j) fun i j=>.int (i % j)) ta tb
abbrev au7 (ta tb:aF):aF:=q2 (RI (fun _ j=>0<=j) fun i j=>.int (i / 2 ^ j.toNat)) ta tb
abbrev gZ (ta tb:aF):aF:=q2 (eB fun i j=>.bl (decide (i < j))) ta tb
abbrev lM (ta tb:aF):aF:=q2 (eB fun i j=>.bl (decide (j < i))) ta tb
abbrev uN (ta tb:aF):aF:=q2 (eB fun i j=>.bl (decide (j<=i))) ta tb
abbrev iS (ta tb:aF):aF:=q2 (kA false) ta tb
abbrev uO (ta tb:aF):aF:=q2 (kA true) ta tb
abbrev E9 (ta tb:aF):aF:=q2 (uC false) ta tb
abbrev bW (ta tb:aF):aF:=q2 u9 ta tb
def eW:List PV->(PV->Prop)->Prop:=fun xs Q=>B9 xs Q/\∀ ns,xs ≠ [.scr ns]
def kF:aK:=fun _ _=>False
def QE (X:Cx) (e:Expr) (t:aF):Prop:=PE X e (LE X t)
def QT (X:Cx) (e:Expr) (t:cA):Prop:=PT X e (LT X t)
def QW (X:Cx) (e:Expr) (t:cA):Prop:=PW X e (LT X t)
def QA (X:Cx) (es:List Expr) (t:cO):Prop:=PA X es (LA X t)
def QS (X:Cx) (st:Stmt) (t:aK):Prop:=PS X st (LS X t)
def eG (X:Cx) (st:List Stmt) (t:aK):Prop:=dH X st (LS X t)
def QI (X:Cx) (tg iter:Expr) (t:dR):Prop:=PI X tg iter (LI X t)
section
variable {X : Cx}
theorem c8 {e:Expr}{t t':TE} (h:PE X e t) (m:∀ σ H Q,t' σ H Q->t σ H Q):PE X e t':=fun pins s σ H Q I q=>h pins s σ H Q I (m σ H Q q)
theorem lN {e:Expr}{t t':TT} (h:PT X e t) (m:∀ σ H Q,t' σ H Q->t σ H Q):PT X e t':=fun pins s σ H Q I q=>h pins s σ H Q I (m σ H Q q)
theorem F0 {e:Expr}{t t':TT} (h:PW X e t) (m:∀ σ H Q,t' σ H Q->t σ H Q):PW X e t':=fun wh pins s σ H Q I q=>h wh pins s σ H Q I (m σ H Q q)
theorem F1 {e:List Expr}{t t':TA} (h:PA X e t) (m:∀ σ H Q,t' σ H Q->t σ H Q):PA X e t':=fun pos pins s σ H Q I q=>h pos pins s σ H Q I (m σ H Q q)
theorem dU {e:Stmt}{t t':TS} (h:PS X e t) (m:∀ D σ H,t' D σ H->t D σ H):PS X e t':=fun pins s σ H D I q=>h pins s σ H D I (m D σ H q)
theorem F2 {e:List Stmt}{t t':TS} (h:dH X e t) (m:∀ D σ H,t' D σ H->t D σ H):dH X e t':=fun pins s σ H D I q=>h pins s σ H D I (m D σ H q)
theorem nL {tg e:Expr}{t t':TI} (h:PI X tg e t) (m:∀ σ H R,t' σ H R->t σ H R):PI X tg e t':=fun pins s σ H R I q=>h pins s σ H R I (m σ H R q)
variable {a b c e o : Expr} {es cN : List Expr} {ta tb te to tk : aF} {tr : cO} {tA tB' tc : cA} {pos p2 px : Pos} {st : Stmt} {sts : List Stmt} {t u : aK}
theorem qv (i:Nat) {x:Str}{pos:Pos} (hN:X.N[i]? = some x:=by rfl) (hv:gD X.env.scope x:=by first | exact Or.inl rfl | exact Or.inr (Or.inl rfl) | exact Or.inr (Or.inr rfl)) (hd:(x == ("__debug__" : Str))=false:=by decide)
  (hcd:(x == ("__classdict__" : Str))=false:=by decide):QE X (.Name x pos) (a5 i):=c8 (j5 hN hv hd hcd) fun _ _ _=>ap7
theorem aN {i j}:QE X (.Constant (.int i) j pos) (qC (.int i)):=c8 rZ fun _ _ _=>mZ fun _=>.int i
theorem kG {i j}:QE X (.Constant (.bool i) j pos) (qC (.bl i)):=c8 ab4 fun _ _ _=>mZ fun _=>.bl i
theorem uP {j}:QE X (.Constant .none j pos) (qC .non):=c8 ab5 fun _ _ _=>mZ fun _=>.non
theorem au8 {i j}:QE X (.Constant (.str i) j pos) (qC (.str i)):=c8 ab6 fun _ _ _=>mZ fun _=>.str i
theorem kH {op:Operator}{R:PV->Tg->PV->Tg->PK->Prop}{r:R2} (ho:bY X (binaryOp op) r) (cv:dQ X R r) (ha:QE X a ta) (hb:QE X b tb):QE X (.BinOp a op b pos) (q2 R ta tb):=c8 (ae3 ho ha hb) fun _ _ _=>pD cv
theorem kI (ha:QE X a ta) (hb:QE X b tb):QE X (.BinOp a .Add b pos) (q2 (eB fun i j=>.int (i+j)) ta tb):=kH ae6 A9 ha hb
theorem nM (ha:QE X a ta) (hb:QE X b tb):QE X (.BinOp a .Sub b pos) (q2 (eB fun i j=>.int (i - j)) ta tb):=kH ae7 A9 ha hb
theorem uQ (ha:QE X a ta) (hb:QE X b tb):QE X (.BinOp a .Mult b pos) (q2 (RI mL fun i j=>.int (i * j)) ta tb):=kH ae8 pE ha hb
theorem jK (ha:QE X a ta) (hb:QE X b tb):QE X (.BinOp a .FloorDiv b pos) (q2 (RI sK fun i j=>.int (i / j)) ta tb):=kH ae9 pE ha hb
theorem dN (ha:QE X a ta) (hb:QE X b tb):QE X (.BinOp a .Mod b pos) (q2 (RI (fun _ j=>0 < j) fun i j=>.int (i % j)) ta tb):=kH af0 pE ha hb
theorem au9 (ha:QE X a ta) (hb:QE X b tb):QE X (.BinOp a .RShift b pos) (q2 (RI (fun _ j=>0<=j) fun i j=>.int (i / 2 ^ j.toNat)) ta tb):=kH af1 pE ha hb
theorem kJ {op:CmpOp}{R:PV->Tg->PV->Tg->PK->Prop}{r:R2} (ho:bY X (compareOp op) r) (cv:dQ X R r) (ha:QE X a ta) (hb:QE X b tb) (hm:behindInMarks op b=false):QE X (.Compare a [op] [b] pos) (q2 R ta tb):=c8 (af6 ho ha hb hm) fun _ _ _=>pD cv
theorem jL {op:CmpOp}{R:PV->Tg->PV->Tg->PK->Prop}{r:R2} (ho:bY X (compareOp op) r) (cv:dQ X R r) (ha:QE X a ta) (hb:QE X b tb) (hm:behindInMarks op b=false):QT X (.Compare a [op] [b] pos) (aW (q2 R ta tb)):=lN (af8 ho ha hb hm) fun _ _ _ h=>pD cv (pF h)
theorem F3 (ha:QE X a ta) (hb:QE X b tb):QE X (.Compare a [.Lt] [b] pos) (q2 (eB fun i j=>.bl (decide (i < j))) ta tb):=kJ sL lD ha hb (fE _)
theorem F4 (ha:QE X a ta) (hb:QE X b tb):QE X (.Compare a [.GtE] [b] pos) (q2 (eB fun i j=>.bl (decide (j<=i))) ta tb):=kJ yA lD ha hb (fE _)
theorem F5 (ha:QE X a ta) (hb:QE X b tb):QE X (.Compare a [.Eq] [b] pos) (q2 (kA false) ta tb):=kJ y9 B3 ha hb (fE _)
theorem F6 (ha:QE X a ta) (hb:QE X b tb):QE X (.Compare a [.Is] [b] pos) (q2 (uC false) ta tb):=kJ af5 at2 ha hb (fE _)
theorem jM (ha:QE X a ta) (hb:QE X b tb):QT X (.Compare a [.Lt] [b] pos) (aW (q2 (eB fun i j=>.bl (decide (i < j))) ta tb)):=jL sL lD ha hb (fE _)
theorem lO (ha:QE X a ta) (hb:QE X b tb):QT X (.Compare a [.Gt] [b] pos) (aW (q2 (eB fun i j=>.bl (decide (j < i))) ta tb)):=jL af4 lD ha hb (fE _)
theorem av0 (ha:QE X a ta) (hb:QE X b tb):QT X (.Compare a [.GtE] [b] pos) (aW (q2 (eB fun i j=>.bl (decide (j<=i))) ta tb)):=jL yA lD ha hb (fE _)
theorem kK (ha:QE X a ta) (hb:QE X b tb):QT X (.Compare a [.Eq] [b] pos) (aW (q2 (kA false) ta tb)):=jL y9 B3 ha hb (fE _)
theorem uR (ha:QE X a ta) (hb:QE X b tb):QT X (.Compare a [.NotEq] [b] pos) (aW (q2 (kA true) ta tb)):=jL af3 ap8 ha hb (fE _)
theorem uS (hu:X.A.units+1 < cLine) (hk:QE X a tk) (hd:QE X b te) (hm:behindInMarks .In b=false:=by rfl):QT X (.Compare a [.In] [b] pos) (aW (gY false tk te)):=lN (xB (al1 hu hk hd) hm) fun _ _ _ h=>au0 (pF h)
theorem av1 (hu:X.A.units+1 < cLine) (hk:QE X a tk) (hd:QE X b te) (hm:behindInMarks .NotIn b=false:=by rfl):QT X (.Compare a [.NotIn] [b] pos) (aW (gY true tk te)):=lN (xB (zI hu hk hd) hm) fun _ _ _ h=>E2 (pF h)
theorem av2 (hu:X.A.units+1 < cLine) (hk:QE X a tk) (hd:QE X b te) (hm:behindInMarks .NotIn b=false:=by rfl):QE X (.Compare a [.NotIn] [b] pos) (gY true tk te):=c8 (ab9 (zI hu hk hd) hm) fun _ _ _ h=>E2 h
theorem kL (h:QE X e te) (he:∀ whole,isTrue e X.env whole=(do let v <- whole; standAt e.pos; holding [v] (truthy v)):=by intro _; rfl):QT X e (aW te):=lN (ac0 h he) fun _ _ _ h=>pF h
theorem uT (h:QE X e te) (he:∀ whole,isTrue e X.env whole=(do let v <- whole; standAt e.pos; holding [v] (truthy v)):=by intro _; rfl):QT X e (nF te):=lN (ag1 h he) fun _ _ _ h=>as8 h
theorem nN (ha:QT X a tA):QW X (.BoolOp .And [a] pos) tA:=ac1 ha
theorem lP (ha:QT X a tA):QW X (.BoolOp .Or [a] pos) tA:=ac2 ha
theorem lQ (ha:QT X a tA) (hb:QW X (.BoolOp .And (b :: cN) pos) tB'):QW X (.BoolOp .And (a :: b :: cN) pos) (jE tA tB'):=F0 (ac3 ha hb) fun _ _ _=>ap9
theorem kM (ha:QT X a tA) (hb:QW X (.BoolOp .Or (b :: cN) pos) tB'):QW X (.BoolOp .Or (a :: b :: cN) pos) (iM tA tB'):=F0 (ac4 ha hb) fun _ _ _=>aq0
theorem gL (h:QW X e tA):QT X e tA:=PW.pt h
theorem nO (ha:QT X a tA):QT X (.UnaryOp .Not a pos) (kB tA):=lN (ac5 ha) fun _ _ _=>aq1
theorem lR {op} (h:QE X a ta):QE X (.BoolOp op [a] pos) ta:=ac6 h
theorem kN (ha:QE X a ta) (hb:QE X (.BoolOp .And (b :: cN) pos) tb):QE X (.BoolOp .And (a :: b :: cN) pos) (gV ta tb):=c8 (ac7 ha hb) fun _ _ _=>aq2
theorem av3 (ha:QE X a ta):QE X (.UnaryOp .Not a pos) (tZ ta):=c8 (ac8 ha) fun _ _ _=>aq3
theorem aB:QA X [] aA:=F1 gE fun _ _ _=>aq4
theorem a8 (ha:QE X e te) (hr:QA X es tr) (hs:starEach (e :: es) X.env=(false,eval e X.env) :: starEach es X.env:=by rfl):QA X (e :: es) (a7 te tr):=F1 (fF ha hr hs) fun _ _ _=>aq5
theorem kO {x1} (h:QA X es tr):QE X (.Tuple es x1 pos) (iN tr):=c8 (ag7 h) fun _ _ _=>aq6
theorem kQ (h:QA X es tr):QE X (.List es pos) (iO tr):=c8 (yF h) fun _ _ _=>aq7
theorem bX (ha:QE X a ta) (hb:QE X b tb) (hs:yS b:=by exact fun _ _=>rfl):QE X (.Subscript a b pos) (q2 u9 ta tb):=c8 (mQ aj2 ha hb hs) fun _ _ _=>pD ar9
theorem F7:QE X (.Dict [] [] pos) (qC (.dK [])):=c8 al4 fun _ _ _=>au3
theorem av4:QE X (.Dict [] [] pos) (qC (.dT [])):=c8 al5 fun _ _ _=>au4
theorem jN {x:Str}{id:String}{R:List PV->(PV->Prop)->Prop}{r:List V->Hp->VK->Prop} (hc:cH X (.builtin id) r) (cv:eV X R r) (hg:Gl X x) (hm:X.mg x=none) (hv:bootBuiltins x=some (.builtin id)) (ha:QA X (e :: es) tr) (hn:x ≠ "__name__":=by decide) (hdb:(x == ("__debug__" : Str))=false:=by decide)
  (he:starEach (e :: es) X.env=(false,eval e X.env) :: starEach es X.env:=by rfl) (hpl:(backTo pos (starEach es X.env)).any (·.1)=false:=by rfl):QE X (.Call (.Name x p2) (e :: es) [] pos) (aC R tr):=c8 (sS hc hg hm hv ha hn hdb he hpl) fun _ _ _=>B4 cv
theorem uU {x:Str}{T:String}{R:List PV->(PV->Prop)->Prop}{r:List V->Hp->VK->Prop} (hc:cH X (.type T) r) (cv:eV X R r) (hg:Gl X x) (hm:X.mg x=none) (hv:bootBuiltins x=some (.type T)) (ha:QA X (e :: es) tr) (hn:x ≠ "__name__":=by decide) (hdb:(x == ("__debug__" : Str))=false:=by decide)
  (he:starEach (e :: es) X.env=(false,eval e X.env) :: starEach es X.env:=by rfl) (hpl:(backTo pos (starEach es X.env)).any (·.1)=false:=by rfl):QE X (.Call (.Name x p2) (e :: es) [] pos) (aC R tr):=c8 (yM hc hg hm hv ha hn hdb he hpl) fun _ _ _=>B4 cv
theorem cX:eG X [] cL:=F2 ad0 fun _ _ _=>aq8
theorem aO (h1:QS X st t) (h2:eG X sts u):eG X (st :: sts) (aM t u):=F2 (oF h1 h2) fun _ _ _=>aq9
theorem aQ (h1:QS X st t):eG X [st] t:=sB h1
theorem lS:QS X st kF:=dU ad3 fun _ _ _ ⟨_,_,_,_,h,_⟩=>h
theorem bA {i:Nat}{x:Str} (hN:X.N.Nodup) (he:QE X e te) (hi:X.N[i]? = some x:=by rfl) (hx:iB X.env.scope x:=by first | exact Or.inl rfl | exact Or.inr rfl) (hs:swapsWith e (some (.Name x p2)) pos.line X.env=pure false:=by rfl) (hf:X.fn x=true ∨ X.env.scope.names.lookup x=some .local:=by first | exact .inl rfl | exact .inr rfl) :
  QS X (.Assign [.Name x p2] e pos) (b7 i te):=dU (xK hN hi hx he hs hf) fun _ _ _=>B7
theorem jO {i:Nat}{x:Str} (hN:X.N.Nodup) (he:QE X e te) (hi:X.N[i]? = some x:=by rfl) (hx:iB X.env.scope x:=by first | exact Or.inl rfl | exact Or.inr rfl) (hs:swapsWith e (some (.Name x p2)) pos.line X.env=pure false:=by rfl) (hf:X.fn x=true ∨ X.env.scope.names.lookup x=some .local:=by first | exact .inl rfl | exact .inr rfl) :
  QS X (.Assign [.Name x p2] e pos) (gW i te):=dU (xK hN hi hx he hs hf) fun _ _ _=>ar2
theorem av5 (i:Nat) (h:QS X st t):QS X st (u8 i t):=dU h fun _ _ _=>ar3
theorem bG (he:QE X e te):QS X (.Return (some e) pos) (bB te):=dU (sD he) fun _ _ _=>ar4
theorem lT (i:Nat) {x:Str} (hN:X.N[i]? = some x:=by rfl) (hv:gD X.env.scope x:=by first | exact Or.inl rfl | exact Or.inr (Or.inl rfl) | exact Or.inr (Or.inr rfl)) (hd:(x == ("__debug__" : Str))=false:=by decide) (hcd:(x == ("__classdict__" : Str))=false:=by decide) :
  QS X (.Return (some (.Name x p2)) pos) (jF i):=dU (sD (j5 hN hv hd hcd)) fun _ _ _=>ar5
theorem cP {sa sb:List Stmt} (hc:QT X c tc) (ha:eG X sa t) (hb:eG X sb u):QS X (.If c sa sb pos) (cI tc t u):=dU (ad1 hc ha hb) fun _ _ _=>ar6
theorem pS {body:List Stmt} (hp:PassesOwn (model X.prog X.w) X.A X.env X.xe) (hc:QT X c tc) (hb:eG X body t):QS X (.While c body [] pos) (lG tc t):=dU (ad4 hp hc hb) fun _ _ _=>ar7
theorem pT (i:Nat) {x:Str}{apos cpos xpos:Pos} (he:QE X e te) (hN:X.N[i]? = some x:=by rfl) (hv:gD X.env.scope x:=by first | exact Or.inl rfl | exact Or.inr (Or.inl rfl) | exact Or.inr (Or.inr rfl)) (hd:(x == ("__debug__" : Str))=false:=by decide) (hcd:(x == ("__classdict__" : Str))=false:=by decide)
  (hbase:attributeBase (.Name x xpos) "append" X.env (eval (.Name x xpos) X.env)=eval (.Name x xpos) X.env:=by rfl)
  (hfew:((backTo cpos (starEach [e] X.env)).all (fun x=>!x.1) && (backToKw cpos (keywordEach [] X.env)).all (fun x=>x.1.isSome) && decide (([e]:List Expr).length+([]:List Keyword).length+(if ([]:List Keyword).isEmpty then 0 else 1) < 30))=true:=by rfl)
  (hline:(apos.endLine == cpos.line)=true:=by rfl) (hs:starEach [e] X.env=(false,eval e X.env) :: starEach [] X.env:=by rfl) (hplain:(backTo cpos (starEach [] X.env)).any (·.1)=false:=by rfl)
  (hsw:swapsWith (.Call (.Attribute (.Name x xpos) "append" apos) [e] [] cpos) none pos.line X.env=pure false:=by rfl) :
  QS X (.Expr (.Call (.Attribute (.Name x xpos) "append" apos) [e] [] cpos) pos) (lH i te):=
 dU (mG (sZ PySem.F.plainAttrs_list PySem.F.slot_list_append PySem.F.type_list_append oQ (j5 hN hv hd hcd) (fF he gE hs) hbase hfew hline hs hplain) hsw) fun _ _ _=>ar8
theorem F8 {i:Nat}{x:Str}{xpos tpos:Pos} (hu:X.A.units+1 < cLine) (hk:QE X a tk) (he:QE X e te) (hN:X.N[i]? = some x:=by rfl) (hv:gD X.env.scope x:=by first | exact Or.inl rfl | exact Or.inr (Or.inl rfl) | exact Or.inr (Or.inr rfl)) (hd:(x == ("__debug__" : Str))=false:=by decide) (hcd:(x == ("__classdict__" : Str))=false:=by decide)
  (hs:swapsWith e (some (.Subscript (.Name x xpos) a tpos)) pos.line X.env=pure false:=by rfl):QS X (.Assign [.Subscript (.Name x xpos) a tpos] e pos) (pO i tk te):=dU (zJ hu (j5 hN hv hd hcd) hk he hs) fun _ _ _=>au1
theorem F9 {i:Nat}{x:Str}{xpos tpos:Pos} (hu:X.A.units+1 < cLine) (hk:QE X a tk) (he:QE X e te) (hN:X.N[i]? = some x:=by rfl) (hv:gD X.env.scope x:=by first | exact Or.inl rfl | exact Or.inr (Or.inl rfl) | exact Or.inr (Or.inr rfl)) (hd:(x == ("__debug__" : Str))=false:=by decide) (hcd:(x == ("__classdict__" : Str))=false:=by decide)
  (hs:swapsWith e (some (.Subscript (.Name x xpos) a tpos)) pos.line X.env=pure false:=by rfl):QS X (.Assign [.Subscript (.Name x xpos) a tpos] e pos) (nJ i tk te):=dU (zJ hu (j5 hN hv hd hcd) hk he hs) fun _ _ _=>au2
theorem av6 {tg l:Expr}{tl:TE} (hl:PE X l tl):PI X tg l (C0 X.K tl):=by
 intro pins s σ H R I h
 refine aP (hl pins s σ H _ I h) fun v s1 ⟨x,H1,I1,r1,q1⟩=>?_
 obtain ⟨a,e,q⟩:=q1
 subst e
 cases r1
 rcases q with ⟨xs,hq,q⟩ | ⟨xs,hq,q⟩
 ·obtain ⟨its,rv,p,hz⟩:=I1.list hq
  refine wpAny_pyIter_list p.isList ?_
  refine⟨s1.heap.objs.size,[s1.heap.objs.size],_,_,H1,rfl,I1.kept (t':=s1.toks) fun b o e=>aX2 _ e,ad5 a _,⟨_,aY8 _ rfl,rfl,rfl⟩,fun b hb=>?_,q⟩
  have e:b=s1.heap.objs.size:=by simpa using hb
  subst e
  exact I1.fpOk (aX7 _) (I1.hok.fresh (aX7 _))
 ·obtain ⟨its,rv,p,hz⟩:=I1.tuple hq
  refine bh3 (show s1.heap.IsTuple a its.toArray from p) ?_
  refine⟨s1.heap.objs.size,[s1.heap.objs.size],_,_,H1,rfl,I1.kept (t':=s1.toks) fun b o e=>aX2 _ e,xN a _,⟨_,aY8 _ rfl,rfl,rfl⟩,fun b hb=>?_,q⟩
  have e:b=s1.heap.objs.size:=by simpa using hb
  subst e
  exact I1.fpOk (aX7 _) (I1.hok.fresh (aX7 _))
theorem dW {tg l:Expr} (hl:QE X l te):QI X tg l (dB te):=nL (av6 hl) fun _ _ _=>at3
theorem kR {tg:Expr} (hg:Gl X "range") (hm:X.mg "range" = none) (ha:QE X a ta) (hs:starEach [a] X.env = [(false,eval a X.env)]:=by rfl):QI X tg (.Call (.Name "range" p2) [a] [] pos) (iQ ta):=nL (ad8 hg hm (fF ha gE hs) hs) fun _ _ _=>at4
theorem av7 {tg:Expr} (hg:Gl X "range") (hm:X.mg "range" = none) (ha:QE X a ta) (hb:QE X b tb) (hs:starEach [a,b] X.env = [(false,eval a X.env),(false,eval b X.env)]:=by rfl) (hs2:starEach [b] X.env = [(false,eval b X.env)]:=by rfl) :
  QI X tg (.Call (.Name "range" p2) [a,b] [] pos) (uE ta tb):=nL (ad9 hg hm (fF ha (fF hb gE hs2) (by rw [hs,hs2])) hs hs2) fun _ _ _=>at5
theorem G0 {tg:Expr}{body:List Stmt}{ti:dR}{p:jH}{g:TG}{own:Nat->Prop} (hp:PassesOwn (model X.prog X.w) X.A X.env X.xe) (hc:X.calm=true) (hi:QI X tg e ti) (hg:PG X tg g) (ht:nH X.K own p g) (hb:eG X body t)
  (hs:∀ x,foldedSetIterable e X.env x=pure x:=by intro _; rfl):QS X (.For tg e body [] pos) (eD ti p t):=dU (xT hp hc hi hg hb hs) fun _ _ _=>at6 ht
end
section
variable {X : Cx} {pins : List (Addr × Obj)} {σ : St} {H : Hp} {s : Shared} {K : PySem.W.Frag} {M M' : Addr → Prop}
theorem lC.inj {a:Addr}{us ws:List V} (h:lC K a us) (h':lC K a ws):us=ws:=by
 obtain ⟨o,its,n,e1,_,e2,_,v⟩:=h
 obtain ⟨o',its',n',e1',_,e2',_,v'⟩:=h'
 rw [e1] at e1'; cases e1'
 rw [e2] at e2'; cases e2'
 exact v.inj v'
theorem Reps.self_of {n:Nat} (ih:∀ {v:V}{x y:PV},aE K M H v x->aE K M' H v y->cW n x y=true->bF n x y=true):∀ {vs:List V}{xs ys:List PV},Reps K M H vs xs->Reps K M' H vs ys->((xs.zip ys).all fun p=>cW n p.1 p.2)=true->(((xs.zip ys).all fun p=>bF n p.1 p.2) && xs.length == ys.length)=true
 | _,_,_,.nil,.nil,_=>rfl
 | _,_,_,.cons r t,.cons r' t',o=>by
  simp only [bh4,bh9,bb1] at o
  have h1:=ih r r' o.1
  have h2:=Reps.self_of ih t t' o.2
  simp only [bh4,bh9,h1,Bool.true_and,aZ7] at h2 ⊢
  rw [<- h2]
  congr 1
  simp
theorem aE.self:∀ (n:Nat) {v:V}{x y:PV},aE K M H v x->aE K M' H v y->cW n x y=true->bF n x y=true:=by
 intro n
 induction n with
 | zero=>
  intro v x y r r' o
  cases r with
  | non=>cases r'; rfl
  | bl b=>cases r'; exact bf8 b
  | int i=>cases r'; exact bf8 i
  | str z=>cases r'; exact bf8 z
  | _=>cases o
 | succ n ih=>
  intro v x y r r' o
  cases r with
  | non=>cases r'; rfl
  | bl b=>cases r'; exact bf8 b
  | int i=>cases r'; exact bf8 i
  | str z=>cases r'; exact bf8 z
  | tup h rr=>
   cases r' with
   | tup h' rr'=>rw [h] at h'; cases h'; exact Reps.self_of ih rr rr' o
   | _=>cases o
  | lst _ h rr=>
   cases r' with
   | lst _ h' rr'=>rw [h] at h'; cases h'; exact Reps.self_of ih rr rr' o
   | _=>cases o
  | kt h rr=>
   cases r' with
   | kt h' rr'=>cases lC.inj h h'; exact Reps.self_of ih rr rr' o
   | _=>cases o
  | _=>cases o
theorem Reps.self (n:Nat) {vs:List V}{xs ys:List PV} (r:Reps K M H vs xs) (r':Reps K M' H vs ys) (o:((xs.zip ys).all fun p=>cW n p.1 p.2)=true):(((xs.zip ys).all fun p=>bF n p.1 p.2) && xs.length == ys.length)=true:=Reps.self_of (aE.self n) r r' o
theorem iT (n:Nat) (xs ys:List PV):(List.range (min xs.length ys.length)).all (fun j=>bF n (xs.getD j .non) (ys.getD j .non))=(xs.zip ys).all fun p=>bF n p.1 p.2:=by
 rw [be8]
 simp only [bg8,bj2]
 constructor
 ·intro h p hp
  obtain ⟨j,hj,e⟩:=bd8 hp
  have hj':j < min xs.length ys.length:=by simpa using hj
  have:=h j hj'
  rw [List.getElem_zip] at e
  subst e
  have h1:j < xs.length:=by omega
  have h2:j < ys.length:=by omega
  simpa [aZ1,h1,h2] using this
 ·intro h j hj
  have h1:j < xs.length:=by omega
  have h2:j < ys.length:=by omega
  have hz:j < (xs.zip ys).length:=by simp; omega
  have:=h _ (bh6 hz)
  rw [List.getElem_zip] at this
  simpa [aZ1,h1,h2] using this
theorem av8 (I:a6 X pins σ H s):∀ (n:Nat) {A:Around}{v w:V}{x y:PV}{a b:Value},A.units+n < cLine->aE X.K M H v x->aE X.K M' H w y->aU v a->aU w b->cW n x y=true->SeqAt.EqAt A s a b (bF n x y):=by
 intro n
 induction n with
 | zero=>
  intro A v w x y a b hu rx ry ra rb o
  cases rx with
  | non=>
   cases ra
   cases ry with
   | non=>cases rb; exact SeqAt.EqAt.same _
   | int i=>obtain ⟨t',rfl⟩:=rb; exact SeqAt.EqAt.none_int _ _
   | _=>cases o
  | bl i=>
   cases ra
   cases ry with
   | bl j=>cases rb; exact SeqAt.EqAt.bool_bool _ _
   | _=>cases o
  | int i=>
   obtain ⟨t,rfl⟩:=ra
   cases ry with
   | int j=>obtain ⟨t',rfl⟩:=rb; exact SeqAt.EqAt.int_int _ _ _ _
   | non=>cases rb; exact SeqAt.EqAt.int_none _ _
   | _=>cases o
  | str i=>
   obtain ⟨t,rfl⟩:=ra
   cases ry with
   | str j=>obtain ⟨t',rfl⟩:=rb; exact SeqAt.EqAt.str_str _ _ _ _
   | _=>cases o
  | _=>cases o
 | succ n ih=>
  intro A v w x y a b hu rx ry ra rb o
  have items:∀ {us ws:List V}{xs ys:List PV}{its its2:List Value},Reps X.K M H us xs->Reps X.K M' H ws ys->aI us its->aI ws its2->((xs.zip ys).all fun p=>cW n p.1 p.2)=true->
    ∀ j (h1:j < its.toArray.size) (h2:j < its2.toArray.size),SeqAt.EqAt A.in1 s its.toArray[j] its2.toArray[j] (bF n (xs.getD j .non) (ys.getD j .non)):=fun {us ws xs ys its its2} r1 r2 v1 v2 ok j h1 h2=>by
   have l1:=v1.length
   have l2:=v2.length
   have m1:=r1.length
   have m2:=r2.length
   have k1:j < its.length:=by simpa using h1
   have k2:j < its2.length:=by simpa using h2
   have j1:j < us.length:=by omega
   have j2:j < ws.length:=by omega
   have i1:j < xs.length:=by omega
   have i2:j < ys.length:=by omega
   obtain ⟨u,hu',ru⟩:=v1.get (aX5 j1)
   obtain ⟨u2,hu2',ru2⟩:=v2.get (aX5 j2)
   obtain ⟨x,hx,rx⟩:=r1.get (aX5 j1)
   obtain ⟨y,hy,ry⟩:=r2.get (aX5 j2)
   have e1:its.toArray[j]=u:=by
    rw [aX5 k1] at hu'
    simpa using hu'
   have e2:its2.toArray[j]=u2:=by
    rw [aX5 k2] at hu2'
    simpa using hu2'
   have ok':cW n x y=true:=by
    rw [bg8] at ok
    have hz:j < (xs.zip ys).length:=by simp; omega
    have:=ok _ (bh6 hz)
    rw [List.getElem_zip] at this
    rw [aX5 i1] at hx
    rw [aX5 i2] at hy
    cases hx; cases hy
    exact this
   rw [e1,e2]
   have g1:xs.getD j .non=x:=by rw [aZ1,hx]; rfl
   have g2:ys.getD j .non=y:=by rw [aZ1,hy]; rfl
   rw [g1,g2]
   exact ih (by show A.units+1+n < cLine; omega) rx ry ru ru2 ok'
  have huA:A.units < cLine:=by omega
  cases rx with
  | @kt p us xs h1 r1=>
   obtain ⟨its,v1,p1,_⟩:=I.tuple (.inr h1)
   cases (show a=Value.ref p from ra)
   cases ry with
   | @kt p2 ws ys h2 r2=>
    obtain ⟨its2,v2,p2',_⟩:=I.tuple (.inr h2)
    cases (show b=Value.ref p2 from rb)
    by_cases e:p=p2
    ·subst e
     have:=aE.self (K:=X.K) (M:=M) (M':=M') (n+1) (.kt h1 r1) (.kt h2 r2) o
     rw [this]
     exact SeqAt.EqAt.same _
    ·have:=SeqAt.RcAt.tuples p1 p2' huA (items r1 r2 v1 v2 o)
     refine .of_refs e ?_
     have l1:=v1.length
     have l2:=v2.length
     have m1:=r1.length
     have m2:=r2.length
     rw [aX6,aX6,<- l1,<- l2,m1,m2,iT] at this
     exact this
   | _=>cases o
  | @tup p us xs h1 r1=>
   obtain ⟨its,v1,p1,_⟩:=I.tuple (aG.of (K:=X.K) h1)
   cases (show a=Value.ref p from ra)
   cases ry with
   | @tup p2 ws ys h2 r2=>
    obtain ⟨its2,v2,p2',_⟩:=I.tuple (aG.of (K:=X.K) h2)
    cases (show b=Value.ref p2 from rb)
    by_cases e:p=p2
    ·subst e
     have:=aE.self (K:=X.K) (M:=M) (M':=M') (n+1) (.tup h1 r1) (.tup h2 r2) o
     rw [this]
     exact SeqAt.EqAt.same _
    ·have:=SeqAt.RcAt.tuples p1 p2' huA (items r1 r2 v1 v2 o)
     refine .of_refs e ?_
     have l1:=v1.length
     have l2:=v2.length
     have m1:=r1.length
     have m2:=r2.length
     rw [aX6,aX6,<- l1,<- l2,m1,m2,iT] at this
     exact this
   | non=>cases rb; exact SeqAt.EqAt.tuple_none p1 huA
   | _=>cases o
  | @lst p us xs _ h1 r1=>
   obtain ⟨its,v1,p1,_⟩:=I.list (aJ.of (K:=X.K) h1)
   cases (show a=Value.ref p from ra)
   cases ry with
   | @lst p2 ws ys _ h2 r2=>
    obtain ⟨its2,v2,p2',_⟩:=I.list (aJ.of (K:=X.K) h2)
    cases (show b=Value.ref p2 from rb)
    have l1:=v1.length
    have l2:=v2.length
    have m1:=r1.length
    have m2:=r2.length
    by_cases e:p=p2
    ·subst e
     rw [h1] at h2; cases h2
     have:=Reps.self n r1 r2 o
     show SeqAt.EqAt A s _ _ ((xs.zip ys).all (fun p=>bF n p.1 p.2) && xs.length == ys.length)
     rw [this]
     exact SeqAt.EqAt.same _
    ·refine .of_refs e ?_
     by_cases hl:xs.length=ys.length
     ·have:=SeqAt.RcAt.lists p1.isList p2'.isList (by rw [aX6,aX6]; omega) huA (items r1 r2 v1 v2 o)
      have hm:min xs.length ys.length=its.length:=by omega
      rw [aX6,<- hm,iT] at this
      show SeqAt.RcAt A s _ _ ((xs.zip ys).all (fun p=>bF n p.1 p.2) && xs.length == ys.length)
      rw [show (xs.length == ys.length)=true by simpa using hl,Bool.and_true]
      exact this
     ·have:=SeqAt.RcAt.lists_lengths (A:=A) p1.isList p2'.isList (by rw [aX6,aX6]; simp; omega) huA
      show SeqAt.RcAt A s _ _ ((xs.zip ys).all (fun p=>bF n p.1 p.2) && xs.length == ys.length)
      rw [show (xs.length == ys.length)=false by simpa using hl,bh1]
      exact this
   | _=>cases o
  | non=>
   cases ra
   cases ry with
   | non=>cases rb; exact SeqAt.EqAt.same _
   | int i=>obtain ⟨t',rfl⟩:=rb; exact SeqAt.EqAt.none_int _ _
   | @tup p2 ws ys h2 r2=>
    obtain ⟨its2,v2,p2',_⟩:=I.tuple (aG.of (K:=X.K) h2)
    cases (show b=Value.ref p2 from rb)
    exact SeqAt.EqAt.none_tuple p2' huA
   | _=>cases o
  | bl i=>
   cases ra
   cases ry with
   | bl j=>cases rb; exact SeqAt.EqAt.bool_bool _ _
   | _=>cases o
  | int i=>
   obtain ⟨t,rfl⟩:=ra
   cases ry with
   | int j=>obtain ⟨t',rfl⟩:=rb; exact SeqAt.EqAt.int_int _ _ _ _
   | non=>cases rb; exact SeqAt.EqAt.int_none _ _
   | _=>cases o
  | str i=>
   obtain ⟨t,rfl⟩:=ra
   cases ry with
   | str j=>obtain ⟨t',rfl⟩:=rb; exact SeqAt.EqAt.str_str _ _ _ _
   | _=>cases o
  | _=>cases o
end
structure Bt (mg:Str->Option Value):Prop where
 len:mg "len" = none
 range:mg "range" = none
 tuple:mg "tuple" = none
 list:mg "list" = none
 sorted:mg "sorted" = none
 all:mg "all" = none
 any:mg "any" = none
 zip:mg "zip" = none
 min:mg "min" = none
 max:mg "max" = none
 sum:mg "sum" = none
 isinst:mg "isinstance" = none
 int:mg "int" = none
 bool:mg "bool" = none
 enum:mg "enumerate" = none
section
variable {X : Cx} {a b c e o : Expr} {es cN : List Expr} {ta tb te to tk : aF} {tr : cO} {tA tB' tc : cA} {pos p2 px : Pos} {st : Stmt} {sts : List Stmt} {t u : aK}
theorem dX (B:Bt X.mg) (ha:QA X [e] tr) (hg:Gl X "len":=by rfl) (he:starEach [e] X.env=(false,eval e X.env) :: starEach [] X.env:=by rfl) (hpl:(backTo pos (starEach [] X.env)).any (·.1)=false:=by rfl):QE X (.Call (.Name "len" p2) [e] [] pos) (aC dE tr):=
 jN (ak0.or am2) as0 hg B.len PySem.boot_len ha (he:=he) (hpl:=hpl)
theorem fL (B:Bt X.mg) (ha:QA X [e] tr) (hg:Gl X "tuple":=by rfl) (he:starEach [e] X.env=(false,eval e X.env) :: starEach [] X.env:=by rfl) (hpl:(backTo pos (starEach [] X.env)).any (·.1)=false:=by rfl):QE X (.Call (.Name "tuple" p2) [e] [] pos) (aC eW tr):=
 uU ak2 as1 hg B.tuple PyProof.Rows.boot_tuple ha (he:=he) (hpl:=hpl)
theorem G1 (B:Bt X.mg) (ha:QA X [e] tr) (hg:Gl X "list":=by rfl) (he:starEach [e] X.env=(false,eval e X.env) :: starEach [] X.env:=by rfl) (hpl:(backTo pos (starEach [] X.env)).any (·.1)=false:=by rfl):QE X (.Call (.Name "list" p2) [e] [] pos) (aC pH tr):=
 uU ak1 as2 hg B.list PyProof.Rows.boot_list ha (he:=he) (hpl:=hpl)
theorem G2 (B:Bt X.mg) (hc:X.calm=true) (ha:QA X [e] tr) (hg:Gl X "all":=by rfl) (he:starEach [e] X.env=(false,eval e X.env) :: starEach [] X.env:=by rfl) (hpl:(backTo pos (starEach [] X.env)).any (·.1)=false:=by rfl):QE X (.Call (.Name "all" p2) [e] [] pos) (aC nC tr):=
 jN (ao9 hc) as3 hg B.all PyProof.Rows.boot_all ha (he:=he) (hpl:=hpl)
theorem G3 (B:Bt X.mg) (hc:X.calm=true) (ha:QA X [a,b] tr) (hg:Gl X "min":=by rfl) (he:starEach [a,b] X.env=(false,eval a X.env) :: starEach [b] X.env:=by rfl) (hpl:(backTo pos (starEach [b] X.env)).any (·.1)=false:=by rfl):QE X (.Call (.Name "min" p2) [a,b] [] pos) (aC pI tr):=
 jN (ag3 hc) as4 hg B.min PyProof.Rows.boot_min ha (he:=he) (hpl:=hpl)
theorem uV (B:Bt X.mg) (hc:X.calm=true) (ha:QA X [a,b] tr) (hg:Gl X "max":=by rfl) (he:starEach [a,b] X.env=(false,eval a X.env) :: starEach [b] X.env:=by rfl) (hpl:(backTo pos (starEach [b] X.env)).any (·.1)=false:=by rfl):QE X (.Call (.Name "max" p2) [a,b] [] pos) (aC nD tr):=
 jN (ag2 hc) as5 hg B.max PyProof.Rows.boot_max ha (he:=he) (hpl:=hpl)
theorem G4 (ha:QE X a ta):QE X (.UnaryOp .USub a pos) (uK ta):=c8 (ae4 af2 ha) fun σ H Q' h=>by
 obtain ⟨W,ρ,Q,px,q,k⟩:=h
 refine⟨W,ρ,_,px,q,?_⟩
 rintro v H1 x g s r ⟨i,rfl,q⟩
 cases r
 exact⟨i,rfl,k _ _ _ .fr s (.int _) q⟩
theorem G5 (x:Int):∀ (xs:List Int),mT (.int x) (xs.map V.int)=decide (x ∈ xs)
 | []=>by simp [mT]
 | y :: r=>by
  have ih:=G5 x r
  unfold mT at ih ⊢
  rw [bc5,List.any_cons,ih]
  by_cases e:y=x
  ·subst e; simp [gG]
  ·have:gG (.int y) (.int x)=false:=by simpa [gG] using e
   rw [this,Bool.false_or,be8]
   simp [Ne.symm e]
theorem G6:∀ (xs:List Int),(xs.map V.int).all iH=true
 | []=>rfl
 | _ :: r=>by rw [bc5,bh9,G6 r]; rfl
theorem G7 (neg:Bool):dQ X (fY neg) (sY X.K neg):=by
 rintro W Hs H u v x y g g' Q Q' s n r1 r2 ⟨i,ns,rfl,e,q⟩ k
 cases r1
 obtain ⟨a,us,rfl,hs,r⟩:=r2.seq e
 obtain rfl:=r.ofInts
 refine⟨a,_,rfl,hs,rfl,G6 ns,?_⟩
 have:=k _ _ _ .fr (aD.refl _) (.bl _) q
 rw [G5]
 cases neg <;> exact this
theorem lU (ha:QE X a ta) (hb:QE X b tb) (hm:behindInMarks .In b=false:=by rfl):QT X (.Compare a [.In] [b] pos) (aW (q2 (fY false) ta tb)):=jL aj8 (G7 false) ha hb hm
theorem uW (ha:QE X a ta) (hb:QE X b tb) (hm:behindInMarks .NotIn b=false:=by rfl):QT X (.Compare a [.NotIn] [b] pos) (aW (q2 (fY true) ta tb)):=jL aj9 (G7 true) ha hb hm
theorem aE.kt_ {K:PySem.W.Frag}{M:Addr->Prop}{H:Hp}{v:V}{xs:List PV} (r:aE K M H v (.kt xs)):∃ a us,v = .ref a/\lC K a us/\Reps K M H us xs:=by
 cases r with
 | kt h r=>exact⟨_,_,rfl,h,r⟩
def G8 (K:PySem.W.Frag) (H:Hp) (x:V) (t:Value):Prop:=eQ K H x t ∨ ∃ a us,x = .ref a/\aG K H a us/\t = .type "tuple"
theorem av9:cH X (.builtin "isinstance") (fun xs H Q=>∃ x t n b,xs = [x,.ty n]/\G8 X.K H x t/\PySem.W.kitOne X.K t (.type n)=some b/\Q (.bl b) H):=by
 intro pins s σ H xs us Q I r h
 obtain ⟨x,t,n,b,rfl,ty,e,q⟩:=h
 rcases ty with ty | ⟨a,ws,rfl,hs,rfl⟩
 ·exact an9 pins s σ H _ us Q I r ⟨x,t,n,b,rfl,ty,e,q⟩
 obtain ⟨u,u',rfl,ru,ru'⟩:=oN r
 cases ru'
 cases (show u=Value.ref a from ru)
 obtain ⟨its,_,⟨o,h1,h2,_⟩,_⟩:=I.tuple hs
 exact bf5 PySem.W.kitx_tuple I.kIn ⟨o,h1,h2⟩ e (fun z=>nomatch z) fun tk=>⟨.bl b,H,I.tok tk,rfl,q⟩
theorem aw0 {K:PySem.W.Frag}{M:Addr->Prop}{H:Hp}{v:V}{x:PV}{T:String} (r:aE K M H v x) (e:E8 x=some T):G8 K H v (.type T):=by
 cases r with
 | non=>cases e; exact .inl .non
 | bl b=>cases e; exact .inl (.bl b)
 | int i=>cases e; exact .inl (.int i)
 | str i=>cases e; exact .inl (.str i)
 | tup h _=>cases e; exact .inl (.tup h)
 | lst _ h _=>cases e; exact .inl (.lst h)
 | kt h _=>cases e; exact .inr ⟨_,_,rfl,.inr h,rfl⟩
 | _=>cases e
theorem uX {x:Str}{n:String} (B:Bt X.mg) (hn:bootBuiltins x=some (.type n)) (hm:X.mg x=none) (ha:QE X a ta) (hg:Gl X "isinstance":=by rfl) (hgx:Gl X x:=by rfl) (hx:x ≠ "__name__":=by decide) (hdx:(x == ("__debug__" : Str))=false:=by decide)
  (he:starEach [a,.Name x px] X.env=(false,eval a X.env) :: starEach [.Name x px] X.env:=by rfl) (he2:starEach [.Name x px] X.env=(false,eval (.Name x px) X.env) :: starEach [] X.env:=by rfl) (hpl:(backTo pos (starEach [.Name x px] X.env)).any (·.1)=false:=by rfl):QE X (.Call (.Name "isinstance" p2) [a,.Name x px] [] pos) (kD X.K n ta):=
 c8 (sS av9 hg B.isinst PyProof.Rows.boot_isinstance (fF ha (fF (ab8 (v:=.ty n) hgx hm hn rfl hx hdx) gE he2) he) (he:=he) (hpl:=hpl)) fun σ H Q' h=>by
  obtain ⟨W,ρ,Q,px,q,k⟩:=h
  refine⟨W,ρ,_,px,q,?_⟩
  rintro v H1 x g s r ⟨T,b,e,kt,q⟩
  exact⟨v,_,n,b,rfl,aw0 r e,kt,k _ _ _ .fr s (.bl _) q⟩
theorem aw1 (B:Bt X.mg) (ha:QE X a ta) (hg:Gl X "isinstance":=by rfl) (hgx:Gl X "int":=by rfl)
  (he:starEach [a,.Name "int" px] X.env=(false,eval a X.env) :: starEach [.Name "int" px] X.env:=by rfl) (he2:starEach [.Name "int" px] X.env=(false,eval (.Name "int" px) X.env) :: starEach [] X.env:=by rfl) (hpl:(backTo pos (starEach [.Name "int" px] X.env)).any (·.1)=false:=by rfl):QE X (.Call (.Name "isinstance" p2) [a,.Name "int" px] [] pos) (kD X.K "int" ta):=uX B PyProof.Rows.boot_int B.int ha (hg:=hg) (hgx:=hgx) (he:=he) (he2:=he2) (hpl:=hpl)
theorem aw2 (B:Bt X.mg) (ha:QE X a ta) (hg:Gl X "isinstance":=by rfl) (hgx:Gl X "bool":=by rfl)
  (he:starEach [a,.Name "bool" px] X.env=(false,eval a X.env) :: starEach [.Name "bool" px] X.env:=by rfl) (he2:starEach [.Name "bool" px] X.env=(false,eval (.Name "bool" px) X.env) :: starEach [] X.env:=by rfl) (hpl:(backTo pos (starEach [.Name "bool" px] X.env)).any (·.1)=false:=by rfl):QE X (.Call (.Name "isinstance" p2) [a,.Name "bool" px] [] pos) (kD X.K "bool" ta):=uX B PyProof.Rows.boot_bool B.bool ha (hg:=hg) (hgx:=hgx) (he:=he) (he2:=he2) (hpl:=hpl)
theorem aw3 (B:Bt X.mg) (ha:QE X a ta) (hg:Gl X "isinstance":=by rfl) (hgx:Gl X "tuple":=by rfl)
  (he:starEach [a,.Name "tuple" px] X.env=(false,eval a X.env) :: starEach [.Name "tuple" px] X.env:=by rfl) (he2:starEach [.Name "tuple" px] X.env=(false,eval (.Name "tuple" px) X.env) :: starEach [] X.env:=by rfl) (hpl:(backTo pos (starEach [.Name "tuple" px] X.env)).any (·.1)=false:=by rfl):QE X (.Call (.Name "isinstance" p2) [a,.Name "tuple" px] [] pos) (kD X.K "tuple" ta):=uX B PyProof.Rows.boot_tuple B.tuple ha (hg:=hg) (hgx:=hgx) (he:=he) (he2:=he2) (hpl:=hpl)
def uY (K:PySem.W.Frag) (n:Nat) (neg:Bool):R2:=fun v w H Q=>∃ x y,aE K (fun _=>True) H v x/\aE K (fun _=>True) H w y/\((∃ xs ys,x = .tup xs/\y = .tup ys) ∨ (∃ xs ys,x = .lst xs/\y = .lst ys) ∨ (∃ xs ys,x = .kt xs/\y = .kt ys))/\cW (n+1) x y=true/\Q (.bl (if neg=true then !bF (n+1) x y else bF (n+1) x y)) H
theorem lV {pins:List (Addr × Obj)}{σ:St}{H:Hp}{s:Shared}{M M':Addr->Prop} (I:a6 X pins σ H s) {n:Nat}{A:Around} (hu:A.units+(n+1) < cLine) {us ws:List V}{xs ys:List PV}{its its2:List Value} (r1:Reps X.K M H us xs) (r2:Reps X.K M' H ws ys) (v1:aI us its) (v2:aI ws its2)
  (ok:((xs.zip ys).all fun p=>cW n p.1 p.2)=true):∀ j (h1:j < its.toArray.size) (h2:j < its2.toArray.size),SeqAt.EqAt A.in1 s its.toArray[j] its2.toArray[j] (bF n (xs.getD j .non) (ys.getD j .non)):=by
 intro j h1 h2
 have l1:=v1.length
 have l2:=v2.length
 have m1:=r1.length
 have m2:=r2.length
 have k1:j < its.length:=by simpa using h1
 have k2:j < its2.length:=by simpa using h2
 have j1:j < us.length:=by omega
 have j2:j < ws.length:=by omega
 have i1:j < xs.length:=by omega
 have i2:j < ys.length:=by omega
 obtain ⟨u,hu',ru⟩:=v1.get (aX5 j1)
 obtain ⟨u2,hu2',ru2⟩:=v2.get (aX5 j2)
 obtain ⟨x,hx,rx⟩:=r1.get (aX5 j1)
 obtain ⟨y,hy,ry⟩:=r2.get (aX5 j2)
 have e1:its.toArray[j]=u:=by
  rw [aX5 k1] at hu'
  simpa using hu'
 have e2:its2.toArray[j]=u2:=by
  rw [aX5 k2] at hu2'
  simpa using hu2'
 have ok':cW n x y=true:=by
  rw [bg8] at ok
  have hz:j < (xs.zip ys).length:=by simp; omega
  have:=ok _ (bh6 hz)
  rw [List.getElem_zip] at this
  rw [aX5 i1] at hx
  rw [aX5 i2] at hy
  cases hx; cases hy
  exact this
 rw [e1,e2]
 have g1:xs.getD j .non=x:=by rw [aZ1,hx]; rfl
 have g2:ys.getD j .non=y:=by rw [aZ1,hy]; rfl
 rw [g1,g2]
 exact av8 I n (by show A.units+1+n < cLine; omega) rx ry ru ru2 ok'
theorem aw4 (n:Nat) (hu:X.A.units+(n+1) < cLine):bY X (compareOp .Eq) (uY X.K n false):=by
 intro pins s σ H v w a b Q I ra rb h
 obtain ⟨x,y,rx,ry,kd,o,q⟩:=h
 have hu0:X.A.units < cLine:=by omega
 rcases kd with ⟨xs,ys,rfl,rfl⟩ | ⟨xs,ys,rfl,rfl⟩ | ⟨xs,ys,rfl,rfl⟩
 ·obtain ⟨p,us,rfl,h1,r1⟩:=rx.sqT
  obtain ⟨p2,ws,rfl,h2,r2⟩:=ry.sqT
  cases ra; cases rb
  obtain ⟨its,v1,p1,_⟩:=I.tuple (aG.of (K:=X.K) h1)
  obtain ⟨its2,v2,p2',_⟩:=I.tuple (aG.of (K:=X.K) h2)
  have l1:=v1.length
  have l2:=v2.length
  have m1:=r1.length
  have m2:=r2.length
  have:=SeqAt.RcAt.tuples p1 p2' hu0 (lV I hu r1 r2 v1 v2 o)
  rw [aX6,aX6,<- l1,<- l2,m1,m2,iT] at this
  exact this _ _ _ _ ⟨.bl _,H,I,rfl,q⟩
 ·obtain ⟨p,us,rfl,_,h1,r1⟩:=rx.sqL
  obtain ⟨p2,ws,rfl,_,h2,r2⟩:=ry.sqL
  cases ra; cases rb
  obtain ⟨its,v1,p1,_⟩:=I.list (aJ.of (K:=X.K) h1)
  obtain ⟨its2,v2,p2',_⟩:=I.list (aJ.of (K:=X.K) h2)
  have l1:=v1.length
  have l2:=v2.length
  have m1:=r1.length
  have m2:=r2.length
  have q:Q (.bl ((xs.zip ys).all (fun p=>bF n p.1 p.2) && xs.length == ys.length)) H:=q
  by_cases hl:xs.length=ys.length
  ·have:=SeqAt.RcAt.lists p1.isList p2'.isList (by rw [aX6,aX6]; omega) hu0 (lV I hu r1 r2 v1 v2 o)
   have hm:min xs.length ys.length=its.length:=by omega
   rw [aX6,<- hm,iT] at this
   rw [show (xs.length == ys.length)=true by simpa using hl,Bool.and_true] at q
   exact this _ _ _ _ ⟨.bl _,H,I,rfl,q⟩
  ·have:=SeqAt.RcAt.lists_lengths (A:=X.A) p1.isList p2'.isList (by rw [aX6,aX6]; simp; omega) hu0
   rw [show (xs.length == ys.length)=false by simpa using hl,bh1] at q
   exact this _ _ _ _ ⟨.bl _,H,I,rfl,q⟩
 ·obtain ⟨p,us,rfl,h1,r1⟩:=rx.kt_
  obtain ⟨p2,ws,rfl,h2,r2⟩:=ry.kt_
  cases ra; cases rb
  obtain ⟨its,v1,p1,_⟩:=I.tuple (.inr h1)
  obtain ⟨its2,v2,p2',_⟩:=I.tuple (.inr h2)
  have l1:=v1.length
  have l2:=v2.length
  have m1:=r1.length
  have m2:=r2.length
  have:=SeqAt.RcAt.tuples p1 p2' hu0 (lV I hu r1 r2 v1 v2 o)
  rw [aX6,aX6,<- l1,<- l2,m1,m2,iT] at this
  exact this _ _ _ _ ⟨.bl _,H,I,rfl,q⟩
theorem G9 (n:Nat) (hu:X.A.units+(n+1) < cLine):bY X (compareOp .NotEq) (uY X.K n true):=by
 intro pins s σ H v w a b Q I ra rb h
 obtain ⟨x,y,rx,ry,kd,o,q⟩:=h
 have hu0:X.A.units < cLine:=by omega
 rcases kd with ⟨xs,ys,rfl,rfl⟩ | ⟨xs,ys,rfl,rfl⟩ | ⟨xs,ys,rfl,rfl⟩
 ·obtain ⟨p,us,rfl,h1,r1⟩:=rx.sqT
  obtain ⟨p2,ws,rfl,h2,r2⟩:=ry.sqT
  cases ra; cases rb
  obtain ⟨its,v1,p1,_⟩:=I.tuple (aG.of (K:=X.K) h1)
  obtain ⟨its2,v2,p2',_⟩:=I.tuple (aG.of (K:=X.K) h2)
  have l1:=v1.length
  have l2:=v2.length
  have m1:=r1.length
  have m2:=r2.length
  have:=SeqAt.RcNeAt.tuples p1 p2' hu0 (lV I hu r1 r2 v1 v2 o)
  rw [aX6,aX6,<- l1,<- l2,m1,m2,iT] at this
  exact this _ _ _ _ ⟨.bl _,H,I,rfl,q⟩
 ·obtain ⟨p,us,rfl,_,h1,r1⟩:=rx.sqL
  obtain ⟨p2,ws,rfl,_,h2,r2⟩:=ry.sqL
  cases ra; cases rb
  obtain ⟨its,v1,p1,_⟩:=I.list (aJ.of (K:=X.K) h1)
  obtain ⟨its2,v2,p2',_⟩:=I.list (aJ.of (K:=X.K) h2)
  have l1:=v1.length
  have l2:=v2.length
  have m1:=r1.length
  have m2:=r2.length
  have q:Q (.bl (!((xs.zip ys).all (fun p=>bF n p.1 p.2) && xs.length == ys.length))) H:=q
  by_cases hl:xs.length=ys.length
  ·have:=SeqAt.RcNeAt.lists p1.isList p2'.isList (by rw [aX6,aX6]; omega) hu0 (lV I hu r1 r2 v1 v2 o)
   have hm:min xs.length ys.length=its.length:=by omega
   rw [aX6,<- hm,iT] at this
   rw [show (xs.length == ys.length)=true by simpa using hl,Bool.and_true] at q
   exact this _ _ _ _ ⟨.bl _,H,I,rfl,q⟩
  ·have:=SeqAt.RcNeAt.lists_lengths (A:=X.A) p1.isList p2'.isList (by rw [aX6,aX6]; simp; omega) hu0
   rw [show (xs.length == ys.length)=false by simpa using hl,bh1] at q
   exact this _ _ _ _ ⟨.bl _,H,I,rfl,q⟩
 ·obtain ⟨p,us,rfl,h1,r1⟩:=rx.kt_
  obtain ⟨p2,ws,rfl,h2,r2⟩:=ry.kt_
  cases ra; cases rb
  obtain ⟨its,v1,p1,_⟩:=I.tuple (.inr h1)
  obtain ⟨its2,v2,p2',_⟩:=I.tuple (.inr h2)
  have l1:=v1.length
  have l2:=v2.length
  have m1:=r1.length
  have m2:=r2.length
  have:=SeqAt.RcNeAt.tuples p1 p2' hu0 (lV I hu r1 r2 v1 v2 o)
  rw [aX6,aX6,<- l1,<- l2,m1,m2,iT] at this
  exact this _ _ _ _ ⟨.bl _,H,I,rfl,q⟩
theorem uZ {n:Nat}{neg:Bool}:dQ X (jI n neg) (uY X.K n neg):=by
 rintro W Hs H u v x y g g' Q Q' s n r1 r2 ⟨kd,o,q⟩ k
 exact⟨x,y,r1.same (aD.refl _) fun _ _=>trivial,r2.same (aD.refl _) fun _ _=>trivial,kd.elim .inl fun z=>.inr (.inl z),o,k _ _ _ .fr (aD.refl _) (.bl _) q⟩
theorem aw5 (hu:X.A.units+3 < cLine) (ha:QE X a ta) (hb:QE X b tb):QT X (.Compare a [.NotEq] [b] pos) (aW (q2 (jI 2 true) ta tb)):=jL (G9 2 hu) uZ ha hb (fE _)
theorem J0 (hu:X.A.units+3 < cLine) (ha:QE X a ta) (hb:QE X b tb):QE X (.Compare a [.Eq] [b] pos) (q2 (jI 2 false) ta tb):=kJ (aw4 2 hu) uZ ha hb (fE _)
theorem aw6 (hu:X.A.units+3 < cLine) (ha:QE X a ta) (hb:QE X b tb):QE X (.Compare a [.NotEq] [b] pos) (q2 (jI 2 true) ta tb):=kJ (G9 2 hu) uZ ha hb (fE _)
end
end PP
namespace PP
open PySem L2 PyProof.Rows
def LO (X:Cx) (t:lK):TO:=fun σ H Q'=>∃ (W:Addr->Prop) (ρ:bE) (Q:Option Int->Prop),PX X.K X.H₀ W σ ρ H/\t ρ Q/\∀ o H',aD H H'->Q o->Q' o H'
def QO (X:Cx) (e:Option Expr) (t:lK):Prop:=PO X e (LO X t)
theorem Reps.cut {K:PySem.W.Frag}{M:Addr->Prop}{H:Hp}{us:List V}{xs:List PV} (r:Reps K M H us xs) (lo hi:Option Int):Reps K M H (gF us lo hi) (eF xs lo hi):=by
 unfold gF eF
 rw [r.length]
 exact (r.drop _).take _
section
variable {X : Cx} {a b c e o : Expr} {es cN : List Expr} {ta tb te to tk : aF} {tr : cO} {tA tB' tc : cA} {pos p2 px : Pos} {st : Stmt} {sts : List Stmt} {t u : aK}
theorem v3:QO X none pP:=fun pins s σ H Q I h=>ai4 pins s σ H Q I (by
 obtain ⟨W,ρ,Q1,px,q,k⟩:=h
 exact k _ _ (aD.refl _) q)
theorem v4 (h:QE X e te):QO X (some e) (pQ te):=fun pins s σ H Q I hq=>ai5 h pins s σ H Q I (by
 obtain ⟨W,ρ,Q1,px,q,k⟩:=hq
 refine⟨W,ρ,_,px,q,?_⟩
 rintro v H1 x g s r ⟨i,rfl,q⟩
 cases r
 exact⟨i,rfl,k _ _ s q⟩)
theorem v5 {lo hi:Option Expr}{tl th:lK}{sp:Pos} (he:QE X e te) (hl:QO X lo tl) (hh:QO X hi th):QE X (.Subscript e (.Slice lo hi none sp) pos) (pR te tl th):=c8 (ai6 (aj6.or ap2) he hl hh) fun σ H Q' h=>by
 obtain ⟨W,ρ,Q,px,q,k⟩:=h
 refine⟨W,ρ,_,px,q,fun v H1 x g s1 r1 q1=>⟨W,ρ,_,px.mono s1,q1,fun lo H2 s2 q2=>⟨W,ρ,_,px.mono (s1.trans s2),q2,?_⟩⟩⟩
 rintro hi H3 s3 ⟨xs,e,f,q3⟩
 have S:=(s1.trans s2).trans s3
 have r3:=r1.same (M':=Mg X.H₀ W H g) (s2.trans s3) fun _ z=>z
 cases r3 with
 | tup h r=>
  cases e
  refine .inr ⟨_,_,rfl,aG.of h,fun p hp=>k _ _ _ .fr (S.trans (bQ hp _)) (.tup bK (((r.flat f).cut lo hi).same (bQ hp _) fun _ z=>z)) q3,fun ec=>k _ _ _ .fr S (.tup h ?_) q3⟩
  have:=(r.flat (M':=Mg X.H₀ W H .fr) f).cut lo hi
  rw [ec] at this
  exact this
 | lst m h r=>
  cases e
  exact .inl ⟨_,_,rfl,aJ.of h,fun p hp=>k _ _ _ .fr (S.trans (bQ hp _)) (.lst (S.free hp) bK (((r.flat f).cut lo hi).same (bQ hp _) fun _ z=>z)) q3⟩
 | scr h=>
  cases e
  exact .inl ⟨_,_,rfl,h.sqL,fun p hp=>k _ _ _ .fr (S.trans (bQ hp _)) (.lst (S.free hp) bK (((Reps.intz _).cut lo hi).same (bQ hp _) fun _ z=>z)) q3⟩
 | _=>cases e
structure Df (P:Program) (w:World) (K:PySem.W.Frag) (mg:Str->Option Value) (base:Heap) (k:Nat) (x:Str) (ps:List Str) (p:bC):Prop where
 ex:∃ f fd,cT P w K mg base dJ k f fd ps (nE K p)/\iF K fd ps []/\PySem.W.keepIn K (.ref f)=true/\mg x=some (.ref f)
theorem b8 {k j:Nat}{x:Str}{ps:List Str}{p:bC} (d:Df X.prog X.w X.K X.mg X.base k x ps p) (hr:bZ j X.A) (ha:QA X (e :: es) tr) (hkj:k<=j:=by decide) (hg:Gl X x:=by rfl) (hdb:(x == ("__debug__" : Str))=false:=by decide)
  (he:starEach (e :: es) X.env=(false,eval e X.env) :: starEach es X.env:=by rfl) (hpl:(backTo pos (starEach es X.env)).any (·.1)=false:=by rfl):QE X (.Call (.Name x p2) (e :: es) [] pos) (aC p tr):=by
 obtain ⟨f,fd,F,b,kp,m⟩:=d.ex
 exact c8 (sQ F (hr.mono hkj) hg m kp b .nil am0 ha hdb he hpl) fun _ _ _=>as6
theorem v6 {K:PySem.W.Frag}{H:Hp}{N:List Str}{vs:List V}{xs:List PV} (r:Reps K (fun _=>True) H vs xs):PX K H (fun _=>False) (L2.fV N vs) (dS N xs) H:=by
 have lr:=r.length
 have own:∀ {i:Nat}{m:Slot},(dS N xs)[i]? = some (some m)->∃ x,xs[i]? = some x/\m = .sh (flat x) x:=fun {i m} h=>by
  unfold dS at h
  by_cases hi:i < xs.length
  ·rw [bi5 (by simpa using hi),aZ3] at h
   rw [aX5 hi] at h ⊢
   cases h
   exact⟨_,rfl,rfl⟩
  ·rw [bk3 (by simpa using hi),List.getElem?_replicate] at h
   split at h <;> cases h
 refine⟨by unfold L2.fV dS; simp [lr],aD.refl _,fun a z=>z.elim,fun i m h=>?_,fun i j x y a h1=>?_⟩
 ·obtain ⟨x,hx,rfl⟩:=own h
  obtain ⟨v,hv,rx⟩:=r.at hx
  refine⟨v,?_,pJ (g:=false) (rx.same (aD.refl _) fun _ _ z=>z)⟩
  have hi:i < vs.length:=(aY5.mp hv).1
  unfold L2.fV
  rw [bi5 (by simpa using hi),aZ3,hv]; rfl
 ·obtain ⟨x,_,e⟩:=own h1
  cases e
theorem Df.of {P:Program}{w:World}{K:PySem.W.Frag}{mg:Str->Option Value}{base:Heap}{k:Nat}{x:Str}{ps N:List Str}{p:bC}{st:Stmt}{f:Addr}{fd:FuncData} (F:eR K x x st f fd) (m:mg x=some (.ref f)) (S:FnScope N ps (aR st))
  (hb:∀ (kV doc pm:Value) (an:Option Addr) (cdv ct:Value) (us:List Value),us.length=ps.length->bindArgs (PySem.W.fnOf x x (iI st) (dP st) (aR st) .none kV doc pm an cdv ct) ⟨us,[]⟩=pure (ps.zip us))
  (len:∀ xs Q,p xs Q->xs.length=ps.length)
  (body:∀ (cdv:Value) (A:Around) (outer:List Env) (s:Shared) (H:Hp) (E:XK),bZ k (A.deeper (envOfC x (aR st) s.heap.objs.size f cdv))->
   ∃ t,eG (cU dJ P w K mg base N x (aR st) f cdv A outer s H E).nox (dP st) t/\∀ xs Q,p xs Q->t { nx:=fun _=>Q .non,rt:=Q } (dS N xs)):Df P w K mg base (k+1) x ps p:=by
 refine⟨f,fd,F.ok S (fun vs H Q E h=>?_) (fun cdv A outer s H vs Q E hr h=>?_),F.binds hb,F.kp,m⟩
 ·obtain ⟨xs,Qp,r,q,_⟩:=h
  rw [r.length]; exact len xs Qp q
 ·obtain ⟨xs,Qp,r,q,k⟩:=h
  obtain ⟨t,ht,hq⟩:=body cdv A outer s H E hr
  refine⟨_,ht,fun _=>False,dS N xs,_,v6 r,hq xs Qp q,?_,?_,?_,?_⟩
  ·exact fun W' σ' H' ρ' e px q=>k _ _ _ px.same .non q
  ·exact fun v H' x s r q=>k _ _ _ s r q
  ·exact fun W' σ' H' ρ' e px q=>q
  ·exact fun W' σ' H' ρ' e px q=>q
theorem hB (i:Nat) {x:Str}{tp:Pos}{body:List Stmt}{ti:dR} (hN:X.N.Nodup) (hi:QI X (.Name x tp) e ti) (hb:eG X body t) (hx:X.N[i]? = some x:=by rfl) (hl:iB X.env.scope x:=by first | exact Or.inl rfl | exact Or.inr rfl) (hf:X.fn x=true ∨ X.env.scope.names.lookup x=some .local:=by first | exact .inl rfl | exact .inr rfl)
  (hp:PassesOwn (model X.prog X.w) X.A X.env X.xe:=by exact PassesOwn.never) (hc:X.calm=true:=by rfl) (hs:∀ x,foldedSetIterable e X.env x=pure x:=by intro _; rfl):QS X (.For (.Name x tp) e body [] pos) (eD ti (bR i) t):=
 G0 hp hc hi (iD hN hx hl hf) (pK _ i) hb hs
theorem aw7 (i j:Nat) {x y:Str}{tp xp yp:Pos}{kt:Nat}{body:List Stmt}{ti:dR} (hN:X.N.Nodup) (hi:QI X (.Tuple [.Name x xp,.Name y yp] kt tp) e ti) (hb:eG X body t) (hx:X.N[i]? = some x:=by rfl) (hy:X.N[j]? = some y:=by rfl) (hlx:iB X.env.scope x:=by first | exact Or.inl rfl | exact Or.inr rfl) (hly:iB X.env.scope y:=by first | exact Or.inl rfl | exact Or.inr rfl)
  (hfx:X.fn x=true ∨ X.env.scope.names.lookup x=some .local:=by first | exact .inl rfl | exact .inr rfl) (hfy:X.fn y=true ∨ X.env.scope.names.lookup y=some .local:=by first | exact .inl rfl | exact .inr rfl)
  (hp:PassesOwn (model X.prog X.w) X.A X.env X.xe:=by exact PassesOwn.never) (hc:X.calm=true:=by rfl) (hs:∀ x,foldedSetIterable e X.env x=pure x:=by intro _; rfl):QS X (.For (.Tuple [.Name x xp,.Name y yp] kt tp) e body [] pos) (eD ti (nI i j) t):=
 G0 hp hc hi (sF hc (l7 (iD hN hx hlx hfx) (l7 (iD hN hy hly hfy) sE))) (C5 _ i j) hb hs
abbrev cQ:Value->Shared->Prop:=fun _ _=>False
section
variable {scope : Scope} {N : List Str} {fr : List (Option Nat)} {x y : Str} {tp xp yp : Pos} {kt : Nat} {iter elt : Expr} {ti : dR}
theorem v7 {ifs:List Expr}{tcs:cA} (he:∀ (s:Shared) (H:Hp) (C:Addr) (fp:List Addr),QE (bM X scope N s H C fp cQ) elt te) (hi:∀ (s:Shared) (H:Hp) (C:Addr) (fp:List Addr),jB (bM X scope N s H C fp cQ) ifs (LT (bM X scope N s H C fp cQ) tcs))
  (hN:N.Nodup) (h0:N[0]? = some x) (hl:∀ (s:Shared) (H:Hp) (C:Addr) (fp:List Addr),(bM X scope N s H C fp cQ).env.scope.names.lookup x=some .local) (s:Shared) (H:Hp) :
  l9 X scope N (.Name x tp) ifs elt s H (dI 0) (LT (X.frm H) tcs) (LE (X.frm H) te):=
 ⟨fun C fp=>iD (X:=bM X scope N s H C fp cQ) hN h0 (.inl (hl s H C fp)) (.inr (hl s H C fp)),fun C fp=>hi s H C fp,fun C fp=>he s H C fp⟩
theorem J1 {Y:Cx}:jB Y [] (LT Y fX):=fun pins s σ H Q I h=>zR pins s σ H Q I (at8 h)
theorem pU (hi:QI X (.Name x tp) iter ti) (he:∀ (s:Shared) (H:Hp) (C:Addr) (fp:List Addr),QE (bM X scope N s H C fp cQ) elt te)
  (hc:X.calm=true:=by rfl) (S:dD X scope N fr:=by exact dD.of rfl rfl) (hN:N.Nodup:=by decide +kernel) (h0:N[0]? = some x:=by rfl) (hl:∀ (s:Shared) (H:Hp) (C:Addr) (fp:List Addr),(bM X scope N s H C fp cQ).env.scope.names.lookup x=some .local:=by intro _ _ _ _; rfl) (hf:fr[0]? = some none:=by rfl)
  (hs:∀ x,foldedSetIterable iter X.env x=pure x:=by intro _; rfl):QE X (.ListComp elt [⟨.Name x tp,iter,[],0⟩] scope pos) (cV ti fr (bR 0) fX te):=
 c8 (tQ (gh:=fun _=>dI 0) (tch:=fun H=>LT (X.frm H) fX) (teh:=fun H=>LE (X.frm H) te) hc S hi (v7 he (fun _ _ _ _=>J1) hN h0 hl) hs) fun _ _ _=>pL (pK _ 0) (fun i e=>by subst e; exact hf)
theorem kS {c:Expr}{tcs:cA} (hi:QI X (.Name x tp) iter ti) (ht:∀ (s:Shared) (H:Hp) (C:Addr) (fp:List Addr),QT (bM X scope N s H C fp cQ) c tcs) (he:∀ (s:Shared) (H:Hp) (C:Addr) (fp:List Addr),QE (bM X scope N s H C fp cQ) elt te)
  (hc:X.calm=true:=by rfl) (S:dD X scope N fr:=by exact dD.of rfl rfl) (hN:N.Nodup:=by decide +kernel) (h0:N[0]? = some x:=by rfl) (hl:∀ (s:Shared) (H:Hp) (C:Addr) (fp:List Addr),(bM X scope N s H C fp cQ).env.scope.names.lookup x=some .local:=by intro _ _ _ _; rfl) (hf:fr[0]? = some none:=by rfl)
  (hs:∀ x,foldedSetIterable iter X.env x=pure x:=by intro _; rfl):QE X (.ListComp elt [⟨.Name x tp,iter,[c],0⟩] scope pos) (cV ti fr (bR 0) tcs te):=
 c8 (tQ (gh:=fun _=>dI 0) (tch:=fun H=>LT (X.frm H) tcs) (teh:=fun H=>LE (X.frm H) te) hc S hi (v7 he (fun s H C fp=>zS (ht s H C fp)) hN h0 hl) hs) fun _ _ _=>pL (pK _ 0) (fun i e=>by subst e; exact hf)
theorem v8 {c:Expr}{tcs:cA}{i:Nat}{z:Str}{zp:Pos} (nd:X.N.Nodup) (hi:QI X (.Name x tp) iter ti) (ht:∀ (s:Shared) (H:Hp) (C:Addr) (fp:List Addr),QT (bM X scope N s H C fp cQ) c tcs) (he:∀ (s:Shared) (H:Hp) (C:Addr) (fp:List Addr),QE (bM X scope N s H C fp cQ) elt te)
  (hz:X.N[i]? = some z:=by rfl) (hzl:X.env.scope.names.lookup z=some .local:=by rfl) (hsw:swapsWith (.ListComp elt [⟨.Name x tp,iter,[c],0⟩] scope p2) (some (.Name z zp)) pos.line X.env=pure true:=by rfl)
  (hc:X.calm=true:=by rfl) (S:dD X scope N fr:=by exact dD.of rfl rfl) (hN:N.Nodup:=by decide +kernel) (h0:N[0]? = some x:=by rfl) (hl:∀ (s:Shared) (H:Hp) (C:Addr) (fp:List Addr),(bM X scope N s H C fp cQ).env.scope.names.lookup x=some .local:=by intro _ _ _ _; rfl) (hf:fr[0]? = some none:=by rfl)
  (hs:∀ x,foldedSetIterable iter X.env x=pure x:=by intro _; rfl):QS X (.Assign [.Name z zp] (.ListComp elt [⟨.Name x tp,iter,[c],0⟩] scope p2) pos) (b7 i (cV ti fr (bR 0) tcs te)):=
 dU (an0 (gh:=fun _=>dI 0) (tch:=fun H=>LT (X.frm H) tcs) (teh:=fun H=>LE (X.frm H) te) hc S hi (v7 he (fun s H C fp=>zS (ht s H C fp)) hN h0 hl) nd hz hzl hsw hs) fun D σ H h=>pL (pK _ 0) (fun i e=>by subst e; exact hf) (B7 h)
end
theorem aw8 (i:Nat) {x:Str}{apos cpos xpos:Pos} (he:QE X e te) (hm:M1 X (.Name x xpos) "update" apos e cpos:=by exact⟨rfl,rfl,rfl,rfl⟩) (hN:X.N[i]? = some x:=by rfl) (hv:gD X.env.scope x:=by first | exact Or.inl rfl | exact Or.inr (Or.inl rfl) | exact Or.inr (Or.inr rfl)) (hd:(x == ("__debug__" : Str))=false:=by decide) (hcd:(x == ("__classdict__" : Str))=false:=by decide)
  (hsw:swapsWith (.Call (.Attribute (.Name x xpos) "update" apos) [e] [] cpos) none pos.line X.env=pure false:=by rfl):QS X (.Expr (.Call (.Attribute (.Name x xpos) "update" apos) [e] [] cpos) pos) (uH i te):=
 dU (mG (ap6 (j5 hN hv hd hcd) he hm) hsw) fun _ _ _=>au5
end
end PP
namespace SO
open PySem PyProof.Rows
section
variable (rk : Keyed → Int)
def Kr (xs:Array Keyed) (i:Nat):Int:=((xs[i]?).map rk).getD 0
def Up (xs:Array Keyed) (lo hi:Nat):Prop:=∀ i j,lo<=i->i<=j->j < hi->Kr rk xs i<=Kr rk xs j
def Dn (xs:Array Keyed) (lo hi:Nat):Prop:=∀ i j,lo<=i->i<=j->j < hi->Kr rk xs j<=Kr rk xs i
end
variable {rk : Keyed → Int}
theorem kT {xs ys:Array Keyed}{i j:Nat} (h:xs[i]? = ys[j]?):Kr rk xs i=Kr rk ys j:=by unfold Kr; rw [h]
theorem pV {xs:Array Keyed}{i j:Nat} (hj:j<=xs.size) (k:Nat):Kr rk (mirror xs i j ((j - i) / 2)) k=Kr rk xs (if i<=k/\k < j then i+j - 1 - k else k):=by
 refine kT ?_
 rw [getElem?_mirror_all hj]
 split <;> rfl
theorem v9 {xs:Array Keyed}{i j:Nat} (hj:j<=xs.size) (e:∀ k,i<=k->k < j->Kr rk xs k=Kr rk xs (j - 1)) (k:Nat):Kr rk (mirror xs i j ((j - i) / 2)) k=Kr rk xs k:=by
 rw [pV hj]
 split
 ·rename_i h; rw [e k h.1 h.2,e _ (by omega) (by omega)]
 ·rfl
theorem aw9 {xs:Array Keyed}{src d:Nat} (hs:src < xs.size) (hd:d<=src) (k:Nat):Kr rk (bubble xs src d) k=Kr rk xs (if k=src - d then src else if src - d < k/\k<=src then k - 1 else k):=by
 refine kT ?_
 rw [getElem?_bubble hs d hd]
 repeat' split
 all_goals rfl
structure SB (κ:SortKind) (a0:Array Keyed) (pd:Array (Nat × Nat × Nat)) (st:SortSt):Prop where
 pm:(arrOf st).Perm a0
 kd:kindOf st=κ
 ok:failedOf st=none
 pd:pendingOf st=pd
section
variable {κ : SortKind} {a0 : Array Keyed} {pd : Array (Nat × Nat × Nat)} {st : SortSt} {prog : Program} {w : World} {A : Around} {E : Value → Shared → Prop} {s : Shared} {Ok : Keyed → Prop}
theorem SB.sz (h:SB κ a0 pd st):(arrOf st).size=a0.size:=h.pm.size_eq
theorem SB.put (h:SB κ a0 pd st) {xs:Array Keyed} (hp:xs.Perm (arrOf st)):SB κ a0 pd (setArr st xs):=⟨hp.trans h.pm,h.kd,h.ok,h.pd⟩
def cB (prog:Program) (w:World) (A:Around) (E:Value->Shared->Prop) (s:Shared) (κ:SortKind) (Ok:Keyed->Prop) (rk:Keyed->Int):Prop:=
 ∀ (x y:Keyed),Ok x->Ok y->∀ (st:SortSt) (Q:Option Bool->SortSt->Prop),kindOf st=κ->Q (some (decide (rk x < rk y))) st->wpS (model prog w) A E s (lt' x y) Q st
def bH (Ok:Keyed->Prop) (xs:Array Keyed):Prop:=∀ x ∈ xs,Ok x
theorem SB.all (h:SB κ a0 pd st) (o:bH Ok a0):bH Ok (arrOf st):=fun x hx=>o x (h.pm.mem_iff.mp hx)
theorem cM {xs:Array Keyed}{i:Nat}{Q:Keyed->SortSt->Prop} (hi:i < xs.size) (h:Q xs[i] st):wpS (model prog w) A E s (elem' xs i) Q st:=by
 rw [elem'_eq,getElem?_pos xs i hi]; exact aZ2 h
theorem bV {xs:Array Keyed}{i:Nat} (hi:i < xs.size):Kr rk xs i=rk xs[i]:=by unfold Kr; rw [getElem?_pos xs i hi]; rfl
theorem nP (c:cB prog w A E s κ Ok rk) (o:bH Ok a0) (b:SB κ a0 pd st) {i j:Nat}{Q:Option Bool->SortSt->Prop} (hi:i < a0.size) (hj:j < a0.size)
  (h:Q (some (decide (Kr rk (arrOf st) i < Kr rk (arrOf st) j))) st):wpS (model prog w) A E s (ltAt' i j) Q st:=by
 have hi':i < (arrOf st).size:=by rw [b.sz]; exact hi
 have hj':j < (arrOf st).size:=by rw [b.sz]; exact hj
 rw [ltAt'_eq]
 refine aY4 (wpS_get (aY4 (cM hi' (aY4 (cM hj' ?_)))))
 refine c _ _ (b.all o _ (bc3 hi')) (b.all o _ (bc3 hj')) st Q b.kd ?_
 rw [<- bV (rk:=rk) hi',<- bV (rk:=rk) hj']; exact h
theorem pW {i j:Nat}{Q:Unit->SortSt->Prop} (h:Q () (setArr st (mirror (arrOf st) i j ((j - i) / 2)))):wpS (model prog w) A E s (reverseSlice' i j) Q st:=by
 rw [reverseSlice'_eq]; exact wpS_modify h
abbrev CS:=Option (Option Nat) × Nat
abbrev DS:=Option (Option Nat) × Nat × Nat
def nQ (lo b nrem:Nat):StateT SortSt Sem CS:=forIn [b:nrem] ((none,b):CS) fun _ r=>do
 match <- ltAt' (lo+r.2) (lo+r.2 - 1) with
 | some q=>if q=true then pure (ForInStep.done (none,r.2)) else pure (ForInStep.yield (none,r.2+1))
 | _=>pure (ForInStep.done (some none,r.2))
def vA (lo b nrem:Nat):StateT SortSt Sem DS:=forIn [b:nrem] ((none,b,0):DS) fun _ r=>do
 match <- ltAt' (lo+r.2.1) (lo+r.2.1 - 1) with
 | some q=>
  if q=true then (if r.2.2 > 0 then do reverseSlice' (lo+r.2.1 - (r.2.2+1)) (lo+r.2.1); pure (ForInStep.yield (none,r.2.1+1,0)) else pure (ForInStep.yield (none,r.2.1+1,0)))
  else do
   match <- ltAt' (lo+r.2.1 - 1) (lo+r.2.1) with
   | some q=>if q=true then pure (ForInStep.done (none,r.2.1,r.2.2)) else pure (ForInStep.yield (none,r.2.1+1,r.2.2+1))
   | _=>pure (ForInStep.done (some none,r.2.1,r.2.2))
 | _=>pure (ForInStep.done (some none,r.2.1,r.2.2))
theorem J2 (c:cB prog w A E s κ Ok rk) (o:bH Ok a0) (b:SB κ a0 pd st) {lo n nrem:Nat}{Q:CS->SortSt->Prop} (hz:lo+nrem<=a0.size) (h1:1<=n) (hn:n<=nrem) (u:Up rk (arrOf st) lo (lo+n))
  (h:∀ m,n<=m->m<=nrem->Up rk (arrOf st) lo (lo+m)->(m=nrem ∨ Kr rk (arrOf st) (lo+m) < Kr rk (arrOf st) (lo+m - 1))->Q (none,m) st):wpS (model prog w) A E s (nQ lo n nrem) Q st:=by
 unfold nQ
 refine bf4 (I:=fun x r st'=>st'=st/\r=(none,x)/\Up rk (arrOf st) lo (lo+x)) ?_ ?_ ⟨rfl,rfl,u⟩
 ·rintro x r st' hx hx' ⟨rfl,rfl,u'⟩
  refine aY4 (nP c o b (by omega) (by omega) ?_)
  by_cases hq:Kr rk (arrOf st') (lo+x) < Kr rk (arrOf st') (lo+x - 1)
  ·rw [aX4 hq]
   exact aZ2 (h x hx (by omega) u' (.inr hq))
  ·rw [aX3 hq]
   refine aZ2 ⟨rfl,rfl,fun i j hi hij hj=>?_⟩
   rcases bb7 j (lo+x) with z | z
   ·exact u' i j hi hij z
   ·have ej:j=lo+x:=by omega
    subst ej
    rcases bk5 hij with z | z
    ·rw [z]; exact bj3 _
    ·have:=u' i (lo+x - 1) hi (by omega) (by omega)
     omega
 ·rintro r st' ⟨rfl,rfl,u'⟩
  have em:max n nrem=nrem:=by omega
  rw [em] at u' ⊢
  exact h nrem hn (aX7 _) u' (.inl rfl)
structure nR (rk:Keyed->Int) (xs ys:Array Keyed) (lo m q:Nat):Prop where
 dn:Dn rk ys lo (lo+m)
 le:q+1<=m
 eq:∀ i,lo+m - (q+1)<=i->i < lo+m->Kr rk ys i=Kr rk ys (lo+m - 1)
 low:∀ i,i < lo->Kr rk ys i=Kr rk xs i
theorem ax0 (c:cB prog w A E s κ Ok rk) (o:bH Ok a0) (b:SB κ a0 pd st) {lo n nrem:Nat}{xs:Array Keyed}{Q:DS->SortSt->Prop} (hz:lo+nrem<=a0.size) (h1:1<=n) (hn:n<=nrem) (u:nR rk xs (arrOf st) lo n 0)
  (h:∀ m q st',SB κ a0 pd st'->n<=m->m<=nrem->nR rk xs (arrOf st') lo m q->Q (none,m,q) st'):wpS (model prog w) A E s (vA lo n nrem) Q st:=by
 unfold vA
 refine bf4 (I:=fun x r st'=>∃ q,r=(none,x,q)/\SB κ a0 pd st'/\nR rk xs (arrOf st') lo x q) ?_ ?_ ⟨0,rfl,b,u⟩
 ·rintro x r st' hx hx' ⟨q,rfl,b',f⟩
  have sz:=b'.sz
  dsimp only
  refine aY4 (nP c o b' (by omega) (by omega) ?_)
  by_cases hq:Kr rk (arrOf st') (lo+x) < Kr rk (arrOf st') (lo+x - 1)
  ·rw [aX4 hq]
   have nx:∀ ys:Array Keyed,(∀ k,Kr rk ys k=Kr rk (arrOf st') k)->nR rk xs ys lo (x+1) 0:=fun ys e=>by
    refine⟨fun i j hi hij hj=>?_,by omega,fun i h1 h2=>by rw [show i=lo+(x+1) - 1 by omega],fun i hi=>(e i).trans (f.low i hi)⟩
    rw [e,e]
    rcases bb7 j (lo+x) with z | z
    ·exact f.dn i j hi hij z
    ·have ej:j=lo+x:=by omega
     subst ej
     rcases bk5 hij with z | z
     ·rw [z]; exact bj3 _
     ·have:=f.dn i (lo+x - 1) hi (by omega) (by omega)
      omega
   dsimp only
   rw [if_pos rfl]
   by_cases hp:q > 0
   ·rw [if_pos hp]
    exact aY4 (pW (aZ2 ⟨0,rfl,b'.put (mirror_perm _ _ _ _),nx _ (v9 (by omega) f.eq)⟩))
   ·rw [if_neg hp]
    exact aZ2 ⟨0,rfl,b',nx _ fun _=>rfl⟩
  ·rw [aX3 hq]
   dsimp only
   rw [if_neg aZ0]
   refine aY4 (nP c o b' (by omega) (by omega) ?_)
   by_cases hl:Kr rk (arrOf st') (lo+x - 1) < Kr rk (arrOf st') (lo+x)
   ·rw [aX4 hl]
    exact aZ2 (h x q st' b' hx (by omega) f)
   ·rw [aX3 hl]
    have ex:Kr rk (arrOf st') (lo+x)=Kr rk (arrOf st') (lo+x - 1):=by omega
    refine aZ2 ⟨q+1,rfl,b',fun i j hi hij hj=>?_,by have:=f.le; omega,fun i h1 h2=>?_,f.low⟩
    ·rcases bb7 j (lo+x) with z | z
     ·exact f.dn i j hi hij z
     ·have ej:j=lo+x:=by omega
      subst ej
      rcases bk5 hij with z | z
      ·rw [z]; exact bj3 _
      ·rw [ex]; exact f.dn i (lo+x - 1) hi (by omega) (by omega)
    ·rw [show lo+(x+1) - 1=lo+x by omega]
     rcases bb7 i (lo+x) with z | z
     ·rw [ex]; exact f.eq i (by omega) z
     ·rw [show i=lo+x by omega]
 ·rintro r st' ⟨q,rfl,b',f⟩
  have em:max n nrem=nrem:=by omega
  rw [em] at f ⊢
  exact h nrem q st' b' hn (aX7 _) f
theorem J3 (c:cB prog w A E s κ Ok rk) (o:bH Ok a0) (b:SB κ a0 pd st) {lo nrem:Nat} (n:Nat) {xs:Array Keyed}{Q:Option Nat->SortSt->Prop}{K:DS->StateT SortSt Sem (Option Nat)}{k:CS->StateT SortSt Sem (Option Nat)} (hz:lo+nrem<=a0.size) (hn:n+1<=nrem)
  (hK:∀ m q,K (none,m,q)=if q > 0 then reverseSlice' (lo+m - (q+1)) (lo+m) >>= fun _=>reverseSlice' lo (lo+m) >>= fun _=>nQ lo m nrem >>= k else reverseSlice' lo (lo+m) >>= fun _=>nQ lo m nrem >>= k)
  (hk:∀ m,k (none,m)=pure (some m)) (u:nR rk xs (arrOf st) lo (n+1) 0)
  (h:∀ m st',SB κ a0 pd st'->1<=m->m<=nrem->Up rk (arrOf st') lo (lo+m)->(∀ i,i < lo->Kr rk (arrOf st') i=Kr rk xs i)->Q (some m) st'):wpS (model prog w) A E s (liftM (rule "list.sort.descending-run") >>= fun _=>vA lo (n+1) nrem >>= K) Q st:=by
 refine aY4 (wpS_lift (bj9 ⟨rfl,?_⟩))
 refine aY4 (ax0 c o b hz (by omega) hn u fun m q st1 b1 m1 m2 f=>?_)
 have fin:∀ st2:SortSt,SB κ a0 pd st2->(∀ k,Kr rk (arrOf st2) k=Kr rk (arrOf st1) k)->
   wpS (model prog w) A E s (reverseSlice' lo (lo+m) >>= fun _=>nQ lo m nrem >>= k) Q st2:=fun st2 b2 e=>by
  have sz:=b2.sz
  have low:∀ i,i < lo->Kr rk (mirror (arrOf st2) lo (lo+m) ((lo+m - lo) / 2)) i=Kr rk xs i:=fun i hi=>by
   rw [pV (by omega),if_neg (by omega),e]
   exact f.low i hi
  refine aY4 (pW (aY4 (J2 (κ:=κ) c o (b2.put (mirror_perm _ _ _ _)) hz (by omega) m2 ?_ fun m' h1 h2 up _=>by rw [hk]; exact aZ2 (h m' _ (b2.put (mirror_perm _ _ _ _)) (by omega) h2 up low))))
  ·intro i j hi hij hj
   show Kr rk (mirror (arrOf st2) lo (lo+m) _) i<=Kr rk (mirror (arrOf st2) lo (lo+m) _) j
   rw [pV (by omega),pV (by omega),if_pos (by omega),if_pos (by omega),e,e]
   exact f.dn _ _ (by omega) (by omega) (by omega)
 rw [hK]
 by_cases hp:q > 0
 ·rw [if_pos hp]
  have sz:=b1.sz
  exact aY4 (pW (fin _ (b1.put (mirror_perm _ _ _ _)) (v9 (by omega) f.eq)))
 ·rw [if_neg hp]
  exact fin st1 b1 fun _=>rfl
theorem ax1 (c:cB prog w A E s κ Ok rk) (o:bH Ok a0) (b:SB κ a0 pd st) {lo nrem:Nat}{Q:Option Nat->SortSt->Prop} (hz:lo+nrem<=a0.size) (h1:1<=nrem)
  (h:∀ m st',SB κ a0 pd st'->1<=m->m<=nrem->Up rk (arrOf st') lo (lo+m)->(∀ i,i < lo->Kr rk (arrOf st') i=Kr rk (arrOf st) i)->Q (some m) st'):wpS (model prog w) A E s (countRun' lo nrem) Q st:=by
 rw [countRun'_eq]
 refine aY4 (J2 (n:=1) c o b hz (aX7 _) h1 (fun i j hi hij hj=>by rw [show i=j by omega]; exact bj3 _) fun n n1 n2 un on=>?_)
 dsimp only
 by_cases en:(n == nrem)=true
 ·rw [if_pos en]
  exact aZ2 (h n st b n1 n2 un fun _ _=>rfl)
 ·rw [if_neg en]
  have en':n ≠ nrem:=by simpa using en
  have lt:=on.resolve_left en'
  have sz:=b.sz
  by_cases g:n > 1
  ·rw [if_pos g]
   refine aY4 (nP c o b (by omega) (by omega) ?_)
   by_cases hq:Kr rk (arrOf st) lo < Kr rk (arrOf st) (lo+n - 1)
   ·rw [aX4 hq]
    exact aZ2 (h n st b n1 n2 un fun _ _=>rfl)
   ·rw [aX3 hq]
    dsimp only
    rw [if_neg aZ0]
    have all:∀ k,lo<=k->k < lo+n->Kr rk (arrOf st) k=Kr rk (arrOf st) (lo+n - 1):=fun k k1 k2=>by
     have a1:=un lo k (aX7 _) k1 k2
     have a2:=un k (lo+n - 1) k1 (by omega) (by omega)
     omega
    have sm:=v9 (rk:=rk) (xs:=arrOf st) (i:=lo) (j:=lo+n) (by omega) all
    refine aY4 (pW (J3 (xs:=arrOf st) (κ:=κ) c o (b.put (mirror_perm _ _ _ _)) n hz (by omega) (fun _ _=>rfl) (fun _=>rfl) ⟨fun i j hi hij hj=>?_,by omega,fun i h1 h2=>by rw [show i=lo+(n+1) - 1 by omega],fun i _=>sm i⟩ h))
    show Kr rk (mirror (arrOf st) lo (lo+n) _) j<=Kr rk (mirror (arrOf st) lo (lo+n) _) i
    rw [sm,sm]
    rcases bb7 j (lo+n) with z | z
    ·rw [all i hi (by omega),all j (by omega) z]; exact bj3 _
    ·have ej:j=lo+n:=by omega
     subst ej
     rcases bk5 hij with z | z
     ·rw [z]; exact bj3 _
     ·rw [all i hi (by omega)]; exact Int.le_of_lt lt
  ·rw [if_neg g]
   have e1:n=1:=by omega
   subst e1
   refine J3 (xs:=arrOf st) c o b 1 hz (by omega) (fun _ _=>rfl) (fun _=>rfl) ⟨fun i j hi hij hj=>?_,by omega,fun i h1 h2=>by rw [show i=lo+(1+1) - 1 by omega],fun i _=>rfl⟩ h
   rcases bk5 hij with z | z
   ·rw [z]; exact bj3 _
   ·have ei:i=lo+1 - 1:=by omega
    have ej:j=lo+1:=by omega
    rw [ei,ej]; exact Int.le_of_lt lt
theorem ax2 (c:cB prog w A E s κ Ok rk) (o:bH Ok a0) (b:SB κ a0 pd st) {lo n q:Nat}{Q:Bool->SortSt->Prop} (hz:lo+n<=a0.size) (hq:q<=n) (u:Up rk (arrOf st) lo (lo+q))
  (h:∀ st',SB κ a0 pd st'->Up rk (arrOf st') lo (lo+n)->(∀ i,i < lo->Kr rk (arrOf st') i=Kr rk (arrOf st) i)->Q true st'):wpS (model prog w) A E s (binarySort' lo n q) Q st:=by
 rw [binarySort'_eq]
 refine aY4 (bl3 (bf4 (I:=fun k r st'=>r=(none,())/\SB κ a0 pd st'/\Up rk (arrOf st') lo (lo+min k n)/\∀ i,i < lo->Kr rk (arrOf st') i=Kr rk (arrOf st) i)
  (Q:=fun r st'=>r=(none,())/\SB κ a0 pd st'/\Up rk (arrOf st') lo (lo+n)/\∀ i,i < lo->Kr rk (arrOf st') i=Kr rk (arrOf st) i) ?_ ?_ ?_) ?_)
 ·rintro k r st1 hk hkn ⟨rfl,b1,u1,l1⟩
  rw [show min k n=k by omega] at u1
  have hk0:lo+k < a0.size:=by omega
  have sz:=b1.sz
  refine aY4 (bl3 (bf4 (I:=fun x r st'=>st'=st1/\∃ l g,r=(none,l,g)/\l<=g/\g<=k/\g - l<=k - x/\(∀ i,i < l->Kr rk (arrOf st1) (lo+i)<=Kr rk (arrOf st1) (lo+k))/\∀ i,g<=i->i < k->Kr rk (arrOf st1) (lo+k) < Kr rk (arrOf st1) (lo+i))
   (Q:=fun r st'=>st'=st1/\∃ l g,r=(none,l,g)/\l<=k/\(∀ i,i < l->Kr rk (arrOf st1) (lo+i)<=Kr rk (arrOf st1) (lo+k))/\∀ i,l<=i->i < k->Kr rk (arrOf st1) (lo+k) < Kr rk (arrOf st1) (lo+i)) ?_ ?_ ?_) ?_)
  ·rintro x r st2 _ hx ⟨rfl,l,g,rfl,d1,d2,d3,f1,f2⟩
   dsimp only
   by_cases hlg:l >= g
   ·rw [if_pos hlg]
    have e:g=l:=by omega
    subst e
    exact aZ2 ⟨rfl,g,g,rfl,d2,f1,f2⟩
   ·rw [if_neg hlg]
    refine aY4 (nP c o b1 hk0 (by omega) ?_)
    by_cases hc:Kr rk (arrOf st2) (lo+k) < Kr rk (arrOf st2) (lo+(l+g) / 2)
    ·rw [aX4 hc]
     refine aZ2 ⟨rfl,l,(l+g) / 2,rfl,by omega,by omega,by omega,f1,fun i i1 i2=>?_⟩
     have:=u1 (lo+(l+g) / 2) (lo+i) (by omega) (by omega) (by omega)
     omega
    ·rw [aX3 hc]
     refine aZ2 ⟨rfl,(l+g) / 2+1,g,rfl,by omega,d2,by omega,fun i i1=>?_,f2⟩
     have:=u1 (lo+i) (lo+(l+g) / 2) (by omega) (by omega) (by omega)
     omega
  ·rintro r st2 ⟨rfl,l,g,rfl,d1,d2,d3,f1,f2⟩
   have e:g=l:=by omega
   subst e
   exact⟨rfl,g,g,rfl,d2,f1,f2⟩
  ·exact⟨rfl,0,k,rfl,by omega,by omega,by omega,fun i hi=>absurd hi (by omega),fun i i1 i2=>absurd i1 (by omega)⟩
  ·rintro r st2 ⟨rfl,l,g,rfl,d,f1,f2⟩
   dsimp only
   rw [moveDown'_eq]
   have kb:∀ i,Kr rk (bubble (arrOf st2) (lo+k) (lo+k - (lo+l))) i=Kr rk (arrOf st2) (if i=lo+l then lo+k else if lo+l < i/\i<=lo+k then i - 1 else i):=fun i=>by
    rw [aw9 (by omega) (by omega),show lo+k - (lo+k - (lo+l))=lo+l by omega]
   refine aY4 (wpS_modify (aZ2 ⟨rfl,b1.put (bubble_perm _ _ _),fun i j hi hij hj=>?_,fun i hi=>?_⟩))
   ·show Kr rk (bubble (arrOf st2) (lo+k) (lo+k - (lo+l))) i<=Kr rk (bubble (arrOf st2) (lo+k) (lo+k - (lo+l))) j
    rw [kb,kb]
    rw [show min (k+1) n=k+1 by omega] at hj
    have v1:∀ p,lo<=p->p < lo+l->Kr rk (arrOf st2) p<=Kr rk (arrOf st2) (lo+k):=fun p p1 p2=>by have:=f1 (p - lo) (by omega); rwa [show lo+(p - lo)=p by omega] at this
    have v2:∀ p,lo+l<=p->p < lo+k->Kr rk (arrOf st2) (lo+k) < Kr rk (arrOf st2) p:=fun p p1 p2=>by have:=f2 (p - lo) (by omega) (by omega); rwa [show lo+(p - lo)=p by omega] at this
    repeat' split
    all_goals first
     | (exfalso; omega)
     | exact bj3 _
     | exact v1 _ (by omega) (by omega)
     | exact Int.le_of_lt (v2 _ (by omega) (by omega))
     | exact u1 _ _ (by omega) (by omega) (by omega)
   ·show Kr rk (bubble (arrOf st2) (lo+k) (lo+k - (lo+l))) i=_
    rw [kb,if_neg (by omega),if_neg (by omega)]
    exact l1 i hi
 ·rintro r st1 ⟨rfl,b1,u1,l1⟩
  rw [show min (max (max q 1) n) n=n by omega] at u1
  exact⟨rfl,b1,u1,l1⟩
 ·refine⟨rfl,b,fun i j hi hij hj=>?_,fun _ _=>rfl⟩
  rcases bb7 j (lo+q) with z | z
  ·exact u i j hi hij z
  ·rw [show i=j by omega]; exact bj3 _
 ·rintro r st1 ⟨rfl,b1,u1,l1⟩
  exact aZ2 (h st1 b1 u1 l1)
end
def jP:Bool->Keyed->Array Keyed->Nat->Nat->Nat->StateT SortSt Sem (Option Nat):=sortPriv% PySem.Builtin.gallop
def kU (lf:Bool) (key:Keyed) (xs:Array Keyed) (bs i:Nat):StateT SortSt Sem (Option Bool):=do
 let z <- elem' xs (bs+i)
 if lf then lt' z key else return (<- lt' key z).map (!·)
theorem ax3 (lf:Bool) (key:Keyed) (xs:Array Keyed) (bs n h:Nat):jP lf key xs bs n h=(do
 let mut la:=0
 let mut of:=1
 let mut l:=0
 let mut g:=0
 let some rt <- kU lf key xs bs h | return none
 if rt then
  let mx:=n - h
  for _ in [0:n] do
   if of >= mx then break
   let some mr <- kU lf key xs bs (h+of) | return none
   if !mr then break
   la:=of
   of:=2 * of+1
  l:=h+la+1
  g:=h+min of mx
 else
  let mx:=h+1
  for _ in [0:n] do
   if of >= mx then break
   let some fd <- kU lf key xs bs (h - of) | return none
   if fd then break
   la:=of
   of:=2 * of+1
  l:=h+1 - min of mx
  g:=h - la
 for _ in [0:n] do
  if l >= g then break
  let m:=l+(g - l) / 2
  let some mr <- kU lf key xs bs m | return none
  if mr then l:=m+1 else g:=m
 return some g):=rfl
section
variable {rk : Keyed → Int} {κ : SortKind} {st : SortSt} {prog : Program} {w : World} {A : Around} {E : Value → Shared → Prop} {s : Shared} {Ok : Keyed → Prop}
def bS (rk:Keyed->Int) (lf:Bool) (key:Keyed) (xs:Array Keyed) (bs i:Nat):Bool:=if lf then decide (Kr rk xs (bs+i) < rk key) else decide (Kr rk xs (bs+i)<=rk key)
theorem pX (c:cB prog w A E s κ Ok rk) (hk:kindOf st=κ) {lf:Bool}{key:Keyed}{xs:Array Keyed}{bs i:Nat}{Q:Option Bool->SortSt->Prop} (ok:Ok key) (o:bH Ok xs) (hi:bs+i < xs.size)
  (h:Q (some (bS rk lf key xs bs i)) st):wpS (model prog w) A E s (kU lf key xs bs i) Q st:=by
 unfold kU
 refine aY4 (cM hi ?_)
 unfold bS at h
 rw [bV hi] at h
 cases lf with
 | true=>
  simp only [if_true] at h ⊢
  exact c _ _ (o _ (bc3 hi)) ok st Q hk h
 | false=>
  simp only [aZ6,be3] at h ⊢
  refine aY4 (c _ _ ok (o _ (bc3 hi)) st _ hk (aZ2 ?_))
  have e:(!decide (rk key < rk xs[bs+i]))=decide (rk xs[bs+i]<=rk key):=by
   by_cases z:rk xs[bs+i]<=rk key
   ·rw [aX4 z,aX3 (by omega)]; rfl
   ·rw [aX3 z,aX4 (by omega)]; rfl
  show Q (some (!decide (rk key < rk xs[bs+i]))) st
  rw [e]; exact h
abbrev GS:=Option (Option Nat) × Nat × Nat
def J4 (lf:Bool) (key:Keyed) (xs:Array Keyed) (bs n l g:Nat):StateT SortSt Sem GS:=forIn [0:n] ((none,l,g):GS) fun _ r=>
 if r.2.1 >= r.2.2 then pure (ForInStep.done (none,r.2.1,r.2.2)) else do
  match <- kU lf key xs bs (r.2.1+(r.2.2 - r.2.1) / 2) with
  | some q=>if q=true then pure (ForInStep.yield (none,r.2.1+(r.2.2 - r.2.1) / 2+1,r.2.2)) else pure (ForInStep.yield (none,r.2.1,r.2.1+(r.2.2 - r.2.1) / 2))
  | _=>pure (ForInStep.done (some none,r.2.1,r.2.2))
theorem J5 (c:cB prog w A E s κ Ok rk) (hk:kindOf st=κ) {lf:Bool}{key:Keyed}{xs:Array Keyed}{bs n l g:Nat}{Q:GS->SortSt->Prop} (ok:Ok key) (o:bH Ok xs) (hz:bs+n<=xs.size)
  (mono:∀ i j,i<=j->j < n->bS rk lf key xs bs j=true->bS rk lf key xs bs i=true) (hlg:l<=g) (hg:g<=n) (h1:∀ i,i < l->bS rk lf key xs bs i=true) (h2:∀ i,g<=i->i < n->bS rk lf key xs bs i=false)
  (hq:∀ k,k<=n->(∀ i,i < k->bS rk lf key xs bs i=true)->(∀ i,k<=i->i < n->bS rk lf key xs bs i=false)->Q (none,k,k) st):wpS (model prog w) A E s (J4 lf key xs bs n l g) Q st:=by
 unfold J4
 refine bf4 (I:=fun x r st'=>st'=st/\∃ l g,r=(none,l,g)/\l<=g/\g<=n/\g - l<=n - x/\(∀ i,i < l->bS rk lf key xs bs i=true)/\∀ i,g<=i->i < n->bS rk lf key xs bs i=false) ?_ ?_ ⟨rfl,l,g,rfl,hlg,hg,by omega,h1,h2⟩
 ·rintro x r st' _ hx ⟨rfl,l,g,rfl,d1,d2,d3,f1,f2⟩
  dsimp only
  by_cases hc:l >= g
  ·rw [if_pos hc]
   have e:g=l:=by omega
   subst e
   exact aZ2 (hq g d2 f1 f2)
  ·rw [if_neg hc]
   refine aY4 (pX c hk ok o (by omega) ?_)
   cases z:bS rk lf key xs bs (l+(g - l) / 2) with
   | true=>exact aZ2 ⟨rfl,_,_,rfl,by omega,d2,by omega,fun i hi=>mono i (l+(g - l) / 2) (by omega) (by omega) z,f2⟩
   | false=>
    refine aZ2 ⟨rfl,_,_,rfl,by omega,by omega,by omega,f1,fun i i1 i2=>?_⟩
    cases y:bS rk lf key xs bs i with
    | false=>rfl
    | true=>rw [mono _ i i1 i2 y] at z; cases z
 ·rintro r st' ⟨rfl,l,g,rfl,d1,d2,d3,f1,f2⟩
  have e:g=l:=by omega
  subst e
  exact hq g d2 f1 f2
theorem lW (c:cB prog w A E s κ Ok rk) (hk:kindOf st=κ) {lf:Bool}{key:Keyed}{xs:Array Keyed}{bs n h:Nat}{Q:Option Nat->SortSt->Prop} (ok:Ok key) (o:bH Ok xs) (hh:h < n) (hz:bs+n<=xs.size) (u:Up rk xs bs (bs+n))
  (hq:∀ k,k<=n->(∀ i,i < k->bS rk lf key xs bs i=true)->(∀ i,k<=i->i < n->bS rk lf key xs bs i=false)->Q (some k) st):wpS (model prog w) A E s (jP lf key xs bs n h) Q st:=by
 have mono:∀ i j,i<=j->j < n->bS rk lf key xs bs j=true->bS rk lf key xs bs i=true:=fun i j hij hj e=>by
  have:=u (bs+i) (bs+j) (by omega) (by omega) (by omega)
  unfold bS at e ⊢
  cases lf with
  | true=>simp only [if_true,ba1] at e ⊢; omega
  | false=>simp only [aZ6,be3,ba1] at e ⊢; omega
 have monf:∀ i j,i<=j->j < n->bS rk lf key xs bs i=false->bS rk lf key xs bs j=false:=fun i j hij hj e=>by
  cases z:bS rk lf key xs bs j with
  | false=>rfl
  | true=>rw [mono i j hij hj z] at e; cases e
 rw [ax3]
 refine aY4 (pX c hk ok o (by omega) ?_)
 dsimp only
 cases z:bS rk lf key xs bs h with
 | true=>
  rw [if_pos rfl]
  refine aY4 (bl3 (bf4 (I:=fun x r st'=>st'=st/\∃ la of,r=(none,la,of)/\la < of/\x < of/\h+la < n/\bS rk lf key xs bs (h+la)=true)
   (Q:=fun r st'=>st'=st/\∃ la of,r=(none,la,of)/\la < of/\h+la < n/\bS rk lf key xs bs (h+la)=true/\(of < n - h->bS rk lf key xs bs (h+of)=false)) ?_ ?_ ⟨rfl,0,1,rfl,by omega,by omega,by omega,z⟩) ?_)
  ·rintro x r st' _ hx ⟨rfl,la,of,rfl,d1,d2,d3,f⟩
   dsimp only
   by_cases hc:of >= n - h
   ·rw [if_pos hc]
    exact aZ2 ⟨rfl,la,of,rfl,d1,d3,f,fun y=>absurd y (by omega)⟩
   ·rw [if_neg hc]
    refine aY4 (pX c hk ok o (by omega) ?_)
    cases y:bS rk lf key xs bs (h+of) with
    | true=>exact aZ2 ⟨rfl,of,2 * of+1,rfl,by omega,by omega,by omega,y⟩
    | false=>exact aZ2 ⟨rfl,la,of,rfl,d1,d3,f,fun _=>y⟩
  ·rintro r st' ⟨rfl,la,of,rfl,d1,d2,d3,f⟩
   exact⟨rfl,la,of,rfl,d1,d3,f,fun y=>absurd y (by omega)⟩
  ·rintro r st' ⟨rfl,la,of,rfl,d1,d3,f,ft⟩
   dsimp only
   refine aY4 (J5 (l:=h+la+1) (g:=h+min of (n - h)) c hk ok o hz mono (by omega) (by omega) (fun i hi=>mono i (h+la) (by omega) d3 f) (fun i i1 i2=>?_) fun k k1 k2 k3=>aZ2 (hq k k1 k2 k3))
   rcases bb7 of (n - h) with y | y
   ·exact monf (h+of) i (by omega) i2 (ft y)
   ·exact absurd i1 (by omega)
 | false=>
  rw [if_neg aZ0]
  refine aY4 (bl3 (bf4 (I:=fun x r st'=>st'=st/\∃ la of,r=(none,la,of)/\la < of/\x < of/\la<=h/\bS rk lf key xs bs (h - la)=false)
   (Q:=fun r st'=>st'=st/\∃ la of,r=(none,la,of)/\la < of/\la<=h/\bS rk lf key xs bs (h - la)=false/\(of < h+1->bS rk lf key xs bs (h - of)=true)) ?_ ?_ ⟨rfl,0,1,rfl,by omega,by omega,by omega,z⟩) ?_)
  ·rintro x r st' _ hx ⟨rfl,la,of,rfl,d1,d2,d3,f⟩
   dsimp only
   by_cases hc:of >= h+1
   ·rw [if_pos hc]
    exact aZ2 ⟨rfl,la,of,rfl,d1,d3,f,fun y=>absurd y (by omega)⟩
   ·rw [if_neg hc]
    refine aY4 (pX c hk ok o (by omega) ?_)
    cases y:bS rk lf key xs bs (h - of) with
    | false=>exact aZ2 ⟨rfl,of,2 * of+1,rfl,by omega,by omega,by omega,y⟩
    | true=>exact aZ2 ⟨rfl,la,of,rfl,d1,d3,f,fun _=>y⟩
  ·rintro r st' ⟨rfl,la,of,rfl,d1,d2,d3,f⟩
   exact⟨rfl,la,of,rfl,d1,d3,f,fun y=>absurd y (by omega)⟩
  ·rintro r st' ⟨rfl,la,of,rfl,d1,d3,f,ft⟩
   dsimp only
   refine aY4 (J5 (l:=h+1 - min of (h+1)) (g:=h - la) c hk ok o hz mono (by omega) (by omega) (fun i hi=>?_) (fun i i1 i2=>monf (h - la) i i1 i2 f) fun k k1 k2 k3=>aZ2 (hq k k1 k2 k3))
   rcases bb7 of (h+1) with y | y
   ·exact mono i (h - of) (by omega) (by omega) (ft y)
   ·exact absurd hi (by omega)
end
def lX:Nat->StateT SortSt Sem Unit:=sortPriv% PySem.Builtin.setMinGallop
def vB:Array Keyed->Array Keyed->StateT SortSt Sem (Array Keyed):=sortPriv% PySem.Builtin.mergeLo
theorem ax4 (g:Nat):lX g=modify (fun st=>SortSt.mk' (kindOf st) (arrOf st) (pendingOf st) g (failedOf st)):=rfl
abbrev LS:=Option (Array Keyed) × Array Keyed × Nat × Nat × Nat × Nat × Nat
abbrev vC:=Option (Array Keyed) × Array Keyed × Nat × Nat × Nat × Nat
abbrev LO:=Option (Array Keyed) × Array Keyed × Nat × Nat × Nat
def pY (x y o:Array Keyed) (i j mg p q:Nat):StateT SortSt Sem (ForInStep LS):=do
 let v <- elem' x i
 if (i+1+1 == x.size)=true then pure (.done (some (o.push v ++ y.extract j y.size ++ x.extract (i+1) x.size),o.push v,i+1,j,mg,p,q))
 else if (decide (p < 7) && decide (q < 7))=true then pure (.done (none,o.push v,i+1,j,mg,p,q)) else pure (.yield (none,o.push v,i+1,j,mg,p,q))
def pZ (x y o:Array Keyed) (i j mg p q:Nat):StateT SortSt Sem (ForInStep LS):=do
 let v <- elem' y j
 if (j+1 == y.size)=true then pure (.done (some (o.push v ++ x.extract i x.size ++ y.extract (j+1) y.size),o.push v,i,j+1,mg,p,q)) else do
  let u <- elem' x i
  match <- jP true u y (j+1) (y.size - (j+1)) 0 with
  | some k=>
   if k > 0 then
    if (j+1+k == y.size)=true then pure (.done (some (o.push v ++ y.extract (j+1) (j+1+k) ++ x.extract i x.size ++ y.extract (j+1+k) y.size),o.push v ++ y.extract (j+1) (j+1+k),i,j+1+k,mg,p,k))
    else pY x y (o.push v ++ y.extract (j+1) (j+1+k)) i (j+1+k) mg p k
   else pY x y (o.push v) i (j+1) mg p k
  | _=>pure (.done (some (o.push v ++ x.extract i x.size ++ y.extract (j+1) y.size),o.push v,i,j+1,mg,p,q))
def qA (x y o:Array Keyed) (i j mg p q:Nat):StateT SortSt Sem (ForInStep LS):=do
 lX mg
 let v <- elem' y j
 match <- jP false v x i (x.size - i) 0 with
 | some k=>
  if k > 0 then
   if (i+k+1 == x.size)=true then pure (.done (some (o ++ x.extract i (i+k) ++ y.extract j y.size ++ x.extract (i+k) x.size),o ++ x.extract i (i+k),i+k,j,mg,k,q))
   else if (i+k == x.size)=true then pure (.done (some (o ++ x.extract i (i+k) ++ x.extract (i+k) x.size ++ y.extract j y.size),o ++ x.extract i (i+k),i+k,j,mg,k,q))
   else pZ x y (o ++ x.extract i (i+k)) (i+k) j mg k q
  else pZ x y o i j mg k q
 | _=>pure (.done (some (o ++ x.extract i x.size ++ y.extract j y.size),o,i,j,mg,p,q))
def vD (x y o:Array Keyed) (i j mg p q:Nat):StateT SortSt Sem LS:=forIn [0:x.size+y.size] ((none,o,i,j,mg,p,q):LS) fun _ r=>
 if r.2.2.2.2.1 > 1 then qA x y r.2.1 r.2.2.1 r.2.2.2.1 (r.2.2.2.2.1 - 1) r.2.2.2.2.2.1 r.2.2.2.2.2.2 else qA x y r.2.1 r.2.2.1 r.2.2.2.1 r.2.2.2.2.1 r.2.2.2.2.2.1 r.2.2.2.2.2.2
def vE (x y o:Array Keyed) (i j mg:Nat):StateT SortSt Sem vC:=forIn [0:x.size+y.size] ((none,o,i,j,0,0):vC) fun _ r=>do
 let v <- elem' y r.2.2.2.1
 let u <- elem' x r.2.2.1
 match <- lt' v u with
 | some q=>
  if q=true then do
   let v <- elem' y r.2.2.2.1
   if (r.2.2.2.1+1 == y.size)=true then pure (.done (some (r.2.1.push v ++ x.extract r.2.2.1 x.size ++ y.extract (r.2.2.2.1+1) y.size),r.2.1.push v,r.2.2.1,r.2.2.2.1+1,0,r.2.2.2.2.2+1))
   else if r.2.2.2.2.2+1 >= mg then pure (.done (none,r.2.1.push v,r.2.2.1,r.2.2.2.1+1,0,r.2.2.2.2.2+1)) else pure (.yield (none,r.2.1.push v,r.2.2.1,r.2.2.2.1+1,0,r.2.2.2.2.2+1))
  else do
   let u <- elem' x r.2.2.1
   if (r.2.2.1+1+1 == x.size)=true then pure (.done (some (r.2.1.push u ++ y.extract r.2.2.2.1 y.size ++ x.extract (r.2.2.1+1) x.size),r.2.1.push u,r.2.2.1+1,r.2.2.2.1,r.2.2.2.2.1+1,0))
   else if r.2.2.2.2.1+1 >= mg then pure (.done (none,r.2.1.push u,r.2.2.1+1,r.2.2.2.1,r.2.2.2.2.1+1,0)) else pure (.yield (none,r.2.1.push u,r.2.2.1+1,r.2.2.2.1,r.2.2.2.2.1+1,0))
 | _=>pure (.done (some (r.2.1 ++ x.extract r.2.2.1 x.size ++ y.extract r.2.2.2.1 y.size),r.2.1,r.2.2.1,r.2.2.2.1,r.2.2.2.2.1,r.2.2.2.2.2))
def J6 (x y o:Array Keyed) (i j mg:Nat):StateT SortSt Sem LO:=forIn [0:x.size+y.size] ((none,o,i,j,mg):LO) fun _ r=>do
 let u <- vE x y r.2.1 r.2.2.1 r.2.2.2.1 r.2.2.2.2
 match u.1 with
 | some z=>pure (.done (some z,u.2.1,u.2.2.1,u.2.2.2.1,r.2.2.2.2))
 | none=>do
  liftM (rule "list.sort.gallop")
  let v <- vD x y u.2.1 u.2.2.1 u.2.2.2.1 (r.2.2.2.2+1) u.2.2.2.2.1 u.2.2.2.2.2
  match v.1 with
  | some z=>pure (.done (some z,v.2.1,v.2.2.1,v.2.2.2.1,v.2.2.2.2.1))
  | none=>do
   lX (v.2.2.2.2.1+1)
   pure (.yield (none,v.2.1,v.2.2.1,v.2.2.2.1,v.2.2.2.2.1+1))
theorem ax5 (x y:Array Keyed):vB x y=(do
 liftM (rule "list.sort.merge-lo")
 let v <- elem' y 0
 if (1 == y.size)=true then pure (#[v] ++ x.extract 0 x.size ++ y.extract 1 y.size)
 else if (0+1 == x.size)=true then pure (#[v] ++ y.extract 1 y.size ++ x.extract 0 x.size)
 else do
  let z <- get
  let r <- J6 x y #[v] 0 1 (gallopOf z)
  match r.1 with
  | some z=>pure z
  | none=>unsupported "internal:list.sort.merge-bound"):=by kernel_rfl
section
variable (rk : Keyed → Int)
def Sd (l:List Keyed):Prop:=l.Pairwise fun a b=>rk a<=rk b
structure MI (xs ys o:List Keyed) (i j:Nat):Prop where
 pm:o.Perm (xs.take i ++ ys.take j)
 sx:Sd rk (o ++ xs.drop i)
 sy:Sd rk (o ++ ys.drop j)
end
variable {rk : Keyed → Int} {xs ys o : List Keyed} {i j : Nat}
theorem Sd.ins {o a b d:List Keyed} (h1:Sd rk (o ++ a)) (h2:Sd rk (o ++ (b ++ d))) (h:∀ u ∈ b,∀ t ∈ a,rk u<=rk t):Sd rk ((o ++ b) ++ a):=by
 unfold Sd at *
 rw [aZ5]
 obtain ⟨p1,p2,p3⟩:=bc1.mp h1
 obtain ⟨q1,q2,q3⟩:=bc1.mp h2
 obtain ⟨r1,r2,r3⟩:=bc1.mp q2
 refine bc1.mpr ⟨p1,bc1.mpr ⟨r1,p2,h⟩,fun u hu t ht=>?_⟩
 rcases bb6.mp ht with z | z
 ·exact q3 u hu t (bg3 _ z)
 ·exact p3 u hu t z
theorem MI.ofy (m:MI rk xs ys o i j) (k:Nat) (h:∀ u ∈ (ys.drop j).take k,∀ t ∈ xs.drop i,rk u<=rk t):MI rk xs ys (o ++ (ys.drop j).take k) i (j+k):=by
 have e:(ys.drop j).take k ++ ys.drop (j+k)=ys.drop j:=by rw [<- List.drop_drop]; exact bb2 k _
 refine⟨?_,Sd.ins m.sx (d:=ys.drop (j+k)) (by rw [e]; exact m.sy) h,by rw [aZ5,e]; exact m.sy⟩
 rw [List.take_add,<- aZ5]
 exact m.pm.append_right _
theorem MI.ofx (m:MI rk xs ys o i j) (k:Nat) (h:∀ u ∈ (xs.drop i).take k,∀ t ∈ ys.drop j,rk u<=rk t):MI rk xs ys (o ++ (xs.drop i).take k) (i+k) j:=by
 have e:(xs.drop i).take k ++ xs.drop (i+k)=xs.drop i:=by rw [<- List.drop_drop]; exact bb2 k _
 refine⟨?_,by rw [aZ5,e]; exact m.sx,Sd.ins m.sy (d:=xs.drop (i+k)) (by rw [e]; exact m.sx) h⟩
 rw [List.take_add]
 refine (m.pm.append_right _).trans ?_
 rw [aZ5,aZ5]
 exact (bi6).append_left _
theorem MI.fin (m:MI rk xs ys o i j) (h:xs.length<=i ∨ ys.length<=j):(o ++ xs.drop i ++ ys.drop j).Perm (xs ++ ys)/\Sd rk (o ++ xs.drop i ++ ys.drop j):=by
 refine⟨?_,?_⟩
 ·rw [aZ5]
  refine (m.pm.append_right _).trans ?_
  have e1:xs=xs.take i ++ xs.drop i:=(bb2 i xs).symm
  have e2:ys=ys.take j ++ ys.drop j:=(bb2 j ys).symm
  conv=>rhs; rw [e1,e2]
  rw [aZ5,aZ5]
  refine List.Perm.append_left _ ?_
  rw [<- aZ5,<- aZ5]
  exact (bi6).append_right _
 ·rcases h with h | h
  ·rw [List.drop_eq_nil_of_le h,ba5]; exact m.sy
  ·rw [List.drop_eq_nil_of_le h,ba5]; exact m.sx
theorem MI.lst (m:MI rk xs ys o i j) (h:∀ u ∈ ys,∀ t ∈ xs.drop i,rk u<=rk t):(o ++ ys.drop j ++ xs.drop i).Perm (xs ++ ys)/\Sd rk (o ++ ys.drop j ++ xs.drop i):=by
 have m2:=m.ofy ys.length fun u hu t ht=>h u (List.mem_of_mem_drop (bl4 hu)) t ht
 have e:(ys.drop j).take ys.length=ys.drop j:=ba3 (by simp)
 rw [e] at m2
 have f:=m2.fin (.inr (by omega))
 rw [List.drop_eq_nil_of_le (as:=ys) (i:=j+ys.length) (by omega),ba5] at f
 exact f
theorem J7 {x:Array Keyed}{i k:Nat}{u:Keyed} (h:u ∈ (x.toList.drop i).take k):∃ t,t < k/\i+t < x.size/\rk u=Kr rk x (i+t):=by
 obtain ⟨t,ht,e⟩:=bd8 h
 have h1:t < k/\i+t < x.size:=by simp at ht; omega
 refine⟨t,h1.1,h1.2,?_⟩
 rw [bV h1.2,<- e]
 simp
theorem nS {x:Array Keyed}{i:Nat}{u:Keyed} (h:u ∈ x.toList.drop i):∃ t,i+t < x.size/\rk u=Kr rk x (i+t):=by
 obtain ⟨t,ht,e⟩:=bd8 h
 have h1:i+t < x.size:=by simp at ht; omega
 refine⟨t,h1,?_⟩
 rw [bV h1,<- e]
 simp
theorem Sd.up {x:Array Keyed} (h:Sd rk x.toList) (lo hi:Nat) (hh:hi<=x.size):Up rk x lo hi:=fun i j _ hij hj=>by
 rw [bV (by omega:i < x.size),bV (by omega:j < x.size)]
 rcases bk5 hij with z | z
 ·subst z; exact bj3 _
 ·have:=bc7.mp h i j (by simp; omega) (by simp; omega) z
  simpa using this
theorem J8 (x:Array Keyed) (i k:Nat):(x.extract i (i+k)).toList=(x.toList.drop i).take k:=by
 simp [List.extract]
theorem qB (x:Array Keyed) (i:Nat):(x.extract i x.size).toList=x.toList.drop i:=by
 simp [List.extract]
 exact ba3 (by simp)
theorem kW {x:Array Keyed}{i:Nat} (h:i < x.size) : [x[i]]=(x.toList.drop i).take 1:=by
 rw [List.drop_eq_getElem_cons (by simpa using h)]; simp
structure Gq (st st':SortSt):Prop where
 kd:kindOf st'=kindOf st
 ar:arrOf st'=arrOf st
 pd:pendingOf st'=pendingOf st
 ok:failedOf st'=failedOf st
theorem Gq.refl (st:SortSt):Gq st st:=⟨rfl,rfl,rfl,rfl⟩
section
variable {κ : SortKind} {st : SortSt} {prog : Program} {w : World} {A : Around} {E : Value → Shared → Prop} {s : Shared} {Ok : Keyed → Prop}
theorem qD {st0:SortSt}{g:Nat}{Q:Unit->SortSt->Prop} (q:Gq st0 st) (h:∀ st',Gq st0 st'->Q () st'):wpS (model prog w) A E s (lX g) Q st:=by
 rw [ax4]; exact wpS_modify (h _ ⟨q.kd,q.ar,q.pd,q.ok⟩)
def dF (rk:Keyed->Int) (x y r:Array Keyed):Prop:=r.toList.Perm (x.toList ++ y.toList)/\Sd rk r.toList
theorem MI.y1 {x y o:Array Keyed} (m:MI rk x.toList y.toList o.toList i j) (hj:j < y.size) (h:∀ t,i+t < x.size->rk y[j]<=Kr rk x (i+t)):MI rk x.toList y.toList (o.push y[j]).toList i (j+1):=by
 have:=m.ofy 1 fun u hu t ht=>?_
 ·rw [<- kW hj] at this; simpa using this
 ·rw [<- kW hj,aY3] at hu
  subst hu
  obtain ⟨q,q1,q2⟩:=nS (rk:=rk) ht
  rw [q2]; exact h q q1
theorem MI.x1 {x y o:Array Keyed} (m:MI rk x.toList y.toList o.toList i j) (hi:i < x.size) (h:∀ t,j+t < y.size->rk x[i]<=Kr rk y (j+t)):MI rk x.toList y.toList (o.push x[i]).toList (i+1) j:=by
 have:=m.ofx 1 fun u hu t ht=>?_
 ·rw [<- kW hi] at this; simpa using this
 ·rw [<- kW hi,aY3] at hu
  subst hu
  obtain ⟨q,q1,q2⟩:=nS (rk:=rk) ht
  rw [q2]; exact h q q1
theorem MI.yk {x y o:Array Keyed} (m:MI rk x.toList y.toList o.toList i j) (k:Nat) (h:∀ p t,p < k->j+p < y.size->i+t < x.size->Kr rk y (j+p)<=Kr rk x (i+t)):MI rk x.toList y.toList (o ++ y.extract j (j+k)).toList i (j+k):=by
 have:=m.ofy k fun u hu t ht=>?_
 ·rw [<- J8] at this; rw [be7]; exact this
 ·obtain ⟨p,p1,p2,p3⟩:=J7 (rk:=rk) hu
  obtain ⟨q,q1,q2⟩:=nS (rk:=rk) ht
  rw [q2,p3]; exact h p q p1 p2 q1
theorem MI.xk {x y o:Array Keyed} (m:MI rk x.toList y.toList o.toList i j) (k:Nat) (h:∀ p t,p < k->i+p < x.size->j+t < y.size->Kr rk x (i+p)<=Kr rk y (j+t)):MI rk x.toList y.toList (o ++ x.extract i (i+k)).toList (i+k) j:=by
 have:=m.ofx k fun u hu t ht=>?_
 ·rw [<- J8] at this; rw [be7]; exact this
 ·obtain ⟨p,p1,p2,p3⟩:=J7 (rk:=rk) hu
  obtain ⟨q,q1,q2⟩:=nS (rk:=rk) ht
  rw [q2,p3]; exact h p q p1 p2 q1
theorem lY {key:Keyed}{xs:Array Keyed}{bs i:Nat}:bS rk false key xs bs i=decide (Kr rk xs (bs+i)<=rk key):=rfl
theorem lZ {key:Keyed}{xs:Array Keyed}{bs i:Nat}:bS rk true key xs bs i=decide (Kr rk xs (bs+i) < rk key):=rfl
def GI (rk:Keyed->Int) (x y:Array Keyed) (lb:Nat) (st:SortSt) (c:LS) (st':SortSt):Prop:=Gq st st'/\∃ o i j mg p q,c=(none,o,i,j,mg,p,q)/\MI rk x.toList y.toList o.toList i j/\i+1 < x.size/\j < y.size/\lb<=i+j
def GQ (rk:Keyed->Int) (x y:Array Keyed) (lb:Nat) (st:SortSt) (c:LS) (st':SortSt):Prop:=Gq st st'/\((∃ r o i j mg p q,c=(some r,o,i,j,mg,p,q)/\dF rk x y r) ∨ ∃ o i j mg p q,c=(none,o,i,j,mg,p,q)/\MI rk x.toList y.toList o.toList i j/\i+1 < x.size/\j < y.size/\lb<=i+j)
def GR (rk:Keyed->Int) (x y:Array Keyed) (lb:Nat) (st:SortSt) (r:ForInStep LS) (st':SortSt):Prop:=match r with | .done c=>GQ rk x y lb st c st' | .yield c=>GI rk x y lb st c st'
theorem MI.done {x y o:Array Keyed} (m:MI rk x.toList y.toList o.toList i j) (hh:x.size<=i ∨ y.size<=j):dF rk x y (o ++ x.extract i x.size ++ y.extract j y.size):=by
 unfold dF
 rw [be7,be7,qB,qB]
 exact m.fin (by simpa using hh)
theorem MI.last {x y o:Array Keyed} (m:MI rk x.toList y.toList o.toList i j) (x0:0 < x.size) (hl:∀ u ∈ y.toList,rk u<=rk x[x.size - 1]) (hh:i+1=x.size):dF rk x y (o ++ y.extract j y.size ++ x.extract i x.size):=by
 unfold dF
 rw [be7,be7,qB,qB]
 refine m.lst fun u hu t ht=>?_
 obtain ⟨q,q1,q2⟩:=nS (rk:=rk) ht
 have e:i+q=x.size - 1:=by omega
 rw [q2,e,bV (by omega)]
 exact hl u hu
theorem J9 {st0:SortSt}{x y o:Array Keyed}{mg p q lb:Nat} (x0:0 < x.size) (hl:∀ u ∈ y.toList,rk u<=rk x[x.size - 1]) (g:Gq st0 st) (m:MI rk x.toList y.toList o.toList i j) (hi:i+1 < x.size) (hj:j < y.size) (hb:lb<=i+j)
  (hm:∀ t,j+t < y.size->rk x[i]<=Kr rk y (j+t)):wpS (model prog w) A E s (pY x y o i j mg p q) (GR rk x y lb st0) st:=by
 unfold pY
 have hi':i < x.size:=by omega
 have m':=m.x1 hi' hm
 refine aY4 (cM hi' ?_)
 by_cases he:(i+1+1 == x.size)=true
 ·rw [if_pos he]
  have he:i+1+1=x.size:=by simpa using he
  exact aZ2 ⟨g,.inl ⟨_,_,_,_,_,_,_,rfl,m'.last x0 hl he⟩⟩
 ·rw [if_neg he]
  have he:i+1+1 ≠ x.size:=by simpa using he
  split
  ·exact aZ2 ⟨g,.inr ⟨_,_,_,_,_,_,rfl,m',by omega,hj,by omega⟩⟩
  ·exact aZ2 ⟨g,_,_,_,_,_,_,rfl,m',by omega,hj,by omega⟩
theorem K0 (c:cB prog w A E s κ Ok rk) {st0:SortSt} (hk:kindOf st0=κ) {x y o:Array Keyed}{mg p q lb:Nat} (ox:bH Ok x) (oy:bH Ok y) (sx:Sd rk x.toList) (sy:Sd rk y.toList) (x0:0 < x.size) (hl:∀ u ∈ y.toList,rk u<=rk x[x.size - 1]) (g:Gq st0 st) (m:MI rk x.toList y.toList o.toList i j) (hi:i+1 < x.size) (hj:j < y.size) (hb:lb<=i+j)
  (hm:∀ t,i+t < x.size->rk y[j]<=Kr rk x (i+t)):wpS (model prog w) A E s (pZ x y o i j mg p q) (GR rk x y lb st0) st:=by
 unfold pZ
 have hi':i < x.size:=by omega
 have m':=m.y1 hj hm
 refine aY4 (cM hj ?_)
 by_cases he:(j+1 == y.size)=true
 ·rw [if_pos he]
  have he:j+1=y.size:=by simpa using he
  exact aZ2 ⟨g,.inl ⟨_,_,_,_,_,_,_,rfl,m'.done (.inr (by omega))⟩⟩
 ·rw [if_neg he]
  have he:j+1 ≠ y.size:=by simpa using he
  refine aY4 (cM hi' (aY4 (lW c (g.kd.trans hk) (ox _ (bc3 hi')) oy (by omega) (by omega) (sy.up _ _ (by omega)) fun k k1 k2 k3=>?_)))
  dsimp only
  have ux:=sx.up 0 _ (aX7 x.size)
  have mk:=m'.yk k fun p t hp _ ht=>by
   have a1:=k2 p hp
   rw [lZ,ba1] at a1
   have a2:=ux i (i+t) (by omega) (by omega) ht
   rw [bV hi'] at a2
   omega
  have km:∀ t,j+1+k+t < y.size->rk x[i]<=Kr rk y (j+1+k+t):=fun t ht=>by
   have a1:=k3 (k+t) (by omega) (by omega)
   rw [lZ,bh7,<- Nat.add_assoc] at a1
   omega
  by_cases hk0:k > 0
  ·rw [if_pos hk0]
   by_cases hf:(j+1+k == y.size)=true
   ·rw [if_pos hf]
    have hf:j+1+k=y.size:=by simpa using hf
    exact aZ2 ⟨g,.inl ⟨_,_,_,_,_,_,_,rfl,mk.done (.inr (by omega))⟩⟩
   ·rw [if_neg hf]
    have hf:j+1+k ≠ y.size:=by simpa using hf
    exact J9 x0 hl g mk hi (by omega) (by omega) km
  ·rw [if_neg hk0]
   have e0:k=0:=by omega
   subst e0
   exact J9 x0 hl g m' hi (by omega) (by omega) km
theorem K1 (c:cB prog w A E s κ Ok rk) {st0:SortSt} (hk:kindOf st0=κ) {x y o:Array Keyed}{mg p q lb:Nat} (ox:bH Ok x) (oy:bH Ok y) (sx:Sd rk x.toList) (sy:Sd rk y.toList) (x0:0 < x.size) (hl:∀ u ∈ y.toList,rk u<=rk x[x.size - 1]) (g:Gq st0 st) (m:MI rk x.toList y.toList o.toList i j) (hi:i+1 < x.size) (hj:j < y.size) (hb:lb<=i+j) :
  wpS (model prog w) A E s (qA x y o i j mg p q) (GR rk x y lb st0) st:=by
 unfold qA
 refine aY4 (qD g fun st4 q4=>aY4 (cM hj (aY4 (lW c (q4.kd.trans hk) (oy _ (bc3 hj)) ox (by omega) (by omega) (sx.up _ _ (by omega)) fun k k1 k2 k3=>?_))))
 dsimp only
 have uy:=sy.up 0 _ (aX7 y.size)
 have mk:=m.xk k fun p t hp _ ht=>by
  have a1:=k2 p hp
  rw [lY,ba1] at a1
  have a2:=uy j (j+t) (by omega) (by omega) ht
  rw [bV hj] at a2
  omega
 have km:∀ t,i+k+t < x.size->rk y[j]<=Kr rk x (i+k+t):=fun t ht=>by
  have a1:=k3 (k+t) (by omega) (by omega)
  rw [lY,bh7,<- Nat.add_assoc] at a1
  omega
 by_cases hk0:k > 0
 ·rw [if_pos hk0]
  by_cases he:(i+k+1 == x.size)=true
  ·rw [if_pos he]
   exact aZ2 ⟨q4,.inl ⟨_,_,_,_,_,_,_,rfl,mk.last x0 hl (by simpa using he)⟩⟩
  ·rw [if_neg he]
   have he:i+k+1 ≠ x.size:=by simpa using he
   by_cases hf:(i+k == x.size)=true
   ·rw [if_pos hf]
    have hf:i+k=x.size:=by simpa using hf
    exact aZ2 ⟨q4,.inl ⟨_,_,_,_,_,_,_,rfl,mk.done (.inl (by omega))⟩⟩
   ·rw [if_neg hf]
    have hf:i+k ≠ x.size:=by simpa using hf
    exact K0 c hk ox oy sx sy x0 hl q4 mk (by omega) hj (by omega) km
 ·rw [if_neg hk0]
  have e0:k=0:=by omega
  subst e0
  exact K0 c hk ox oy sx sy x0 hl q4 m hi hj hb km
theorem ax6 (c:cB prog w A E s κ Ok rk) {st0:SortSt} (hk:kindOf st0=κ) {x y o:Array Keyed}{mg p q lb:Nat} (ox:bH Ok x) (oy:bH Ok y) (sx:Sd rk x.toList) (sy:Sd rk y.toList) (x0:0 < x.size) (hl:∀ u ∈ y.toList,rk u<=rk x[x.size - 1]) (g:Gq st0 st) (m:MI rk x.toList y.toList o.toList i j) (hi:i+1 < x.size) (hj:j < y.size) (hb:lb<=i+j) :
  wpS (model prog w) A E s (vD x y o i j mg p q) (GQ rk x y lb st0) st:=by
 unfold vD
 refine bf4 (I:=fun _=>GI rk x y lb st0) ?_ ?_ ⟨g,o,i,j,_,p,q,rfl,m,hi,hj,hb⟩
 ·rintro t c3 st3 _ _ ⟨q3,o,i,j,mg,p,q,rfl,m,hi,hj,pr3⟩
  dsimp only
  split
  ·exact bl3 (K1 c hk ox oy sx sy x0 hl q3 m hi hj pr3) fun r _ hr=>by cases r <;> exact hr
  ·exact bl3 (K1 c hk ox oy sx sy x0 hl q3 m hi hj pr3) fun r _ hr=>by cases r <;> exact hr
 ·rintro c3 st3 ⟨q3,o,i,j,mg,p,q,rfl,m,hi,hj,pr3⟩
  exact⟨q3,.inr ⟨_,_,_,_,_,_,rfl,m,hi,hj,pr3⟩⟩
theorem ax7 (c:cB prog w A E s κ Ok rk) {st0:SortSt} (hk:kindOf st0=κ) {x y o:Array Keyed}{mg:Nat}{Q:vC->SortSt->Prop} (ox:bH Ok x) (oy:bH Ok y) (sx:Sd rk x.toList) (sy:Sd rk y.toList) (x0:0 < x.size) (hl:∀ u ∈ y.toList,rk u<=rk x[x.size - 1]) (g:Gq st0 st) (m:MI rk x.toList y.toList o.toList i j) (hi:i+1 < x.size) (hj:j < y.size)
  (h1:∀ r o' i' j' p q st',Gq st0 st'->dF rk x y r->Q (some r,o',i',j',p,q) st')
  (h2:∀ o' i' j' p q st',Gq st0 st'->MI rk x.toList y.toList o'.toList i' j'->i'+1 < x.size->j' < y.size->i+j+1<=i'+j'->Q (none,o',i',j',p,q) st') :
  wpS (model prog w) A E s (vE x y o i j mg) Q st:=by
 have ux:Up rk x 0 x.size:=sx.up 0 _ (aX7 _)
 have uy:Up rk y 0 y.size:=sy.up 0 _ (aX7 _)
 unfold vE
 refine bf4 (I:=fun t c st'=>Gq st0 st'/\∃ o i' j' p q,c=(none,o,i',j',p,q)/\MI rk x.toList y.toList o.toList i' j'/\i'+1 < x.size/\j' < y.size/\i+j+t<=i'+j') ?_ ?_ ⟨g,o,i,j,0,0,rfl,m,hi,hj,by omega⟩
 ·rintro t c2 st2 _ ht ⟨q2,o,i',j',p,q,rfl,m,hi,hj,pr2⟩
  dsimp only
  have hi':i' < x.size:=by omega
  refine aY4 (cM hj (aY4 (cM hi' (aY4 (c _ _ (oy _ (bc3 hj)) (ox _ (bc3 hi')) st2 _ (q2.kd.trans hk) ?_)))))
  by_cases hc:rk y[j'] < rk x[i']
  ·rw [aX4 hc]
   dsimp only
   rw [if_pos rfl]
   have m':=m.y1 hj fun t ht=>by
    have:=ux i' (i'+t) (by omega) (by omega) ht
    rw [bV hi'] at this
    omega
   refine aY4 (cM hj ?_)
   by_cases he:(j'+1 == y.size)=true
   ·rw [if_pos he]
    have he:j'+1=y.size:=by simpa using he
    exact aZ2 (h1 _ _ _ _ _ _ _ q2 (m'.done (.inr (by omega))))
   ·rw [if_neg he]
    have he:j'+1 ≠ y.size:=by simpa using he
    split
    ·exact aZ2 (h2 _ _ _ _ _ _ q2 m' hi (by omega) (by omega))
    ·exact aZ2 ⟨q2,_,_,_,_,_,rfl,m',hi,by omega,by omega⟩
  ·rw [aX3 hc]
   dsimp only
   rw [if_neg aZ0]
   have m':=m.x1 hi' fun t ht=>by
    have:=uy j' (j'+t) (by omega) (by omega) ht
    rw [bV hj] at this
    omega
   refine aY4 (cM hi' ?_)
   by_cases he:(i'+1+1 == x.size)=true
   ·rw [if_pos he]
    exact aZ2 (h1 _ _ _ _ _ _ _ q2 (m'.last x0 hl (by simpa using he)))
   ·rw [if_neg he]
    have he:i'+1+1 ≠ x.size:=by simpa using he
    split
    ·exact aZ2 (h2 _ _ _ _ _ _ q2 m' (by omega) hj (by omega))
    ·exact aZ2 ⟨q2,_,_,_,_,_,rfl,m',by omega,hj,by omega⟩
 ·rintro c2 st2 ⟨q2,o,i',j',p,q,rfl,m,hi,hj,pr2⟩
  exact h2 _ _ _ _ _ _ q2 m hi hj (by omega)
theorem ax8 (c:cB prog w A E s κ Ok rk) (hk:kindOf st=κ) {x y:Array Keyed}{Q:Array Keyed->SortSt->Prop} (ox:bH Ok x) (oy:bH Ok y) (sx:Sd rk x.toList) (sy:Sd rk y.toList) (x0:0 < x.size) (y0:0 < y.size)
  (hf:∀ t ∈ x.toList,rk y[0]<=rk t) (hl:∀ u ∈ y.toList,rk u<=rk x[x.size - 1])
  (h:∀ r st',Gq st st'->dF rk x y r->Q r st'):wpS (model prog w) A E s (vB x y) Q st:=by
 rw [ax5]
 refine aY4 (wpS_lift (bj9 ⟨rfl,aY4 (cM y0 ?_)⟩))
 have m0:MI rk x.toList y.toList (#[y[0]]:Array Keyed).toList 0 1:=by
  have mm:MI rk x.toList y.toList [] 0 0:=⟨by simp,sx,sy⟩
  have:=mm.ofy 1 fun u hu t ht=>?_
  ·rw [<- kW y0] at this; exact this
  ·rw [<- kW y0,aY3] at hu
   subst hu
   exact hf t ht
 by_cases e1:(1 == y.size)=true
 ·rw [if_pos e1]
  have e1:1=y.size:=by simpa using e1
  exact aZ2 (h _ st (Gq.refl st) (m0.done (.inr (by omega))))
 ·rw [if_neg e1]
  have e1:1 ≠ y.size:=by simpa using e1
  by_cases e2:(0+1 == x.size)=true
  ·rw [if_pos e2]
   exact aZ2 (h _ st (Gq.refl st) (m0.last x0 hl (by simpa using e2)))
  ·rw [if_neg e2]
   have e2:0+1 ≠ x.size:=by simpa using e2
   refine aY4 (wpS_get ?_)
   unfold J6
   refine aY4 (bl3 (bf4
    (I:=fun n c st'=>Gq st st'/\∃ o i j mg,c=(none,o,i,j,mg)/\MI rk x.toList y.toList o.toList i j/\i+1 < x.size/\j < y.size/\n+1<=i+j)
    (Q:=fun c st'=>Gq st st'/\∃ r o i j mg,c=(some r,o,i,j,mg)/\dF rk x y r) ?_ ?_ ⟨Gq.refl st,_,0,1,_,rfl,m0,by omega,by omega,by omega⟩) ?_)
   ·rintro n c1 st1 _ hn ⟨q1,o,i,j,mg,rfl,m,hi,hj,pr⟩
    dsimp only
    refine aY4 (ax7 c hk ox oy sx sy x0 hl q1 m hi hj (fun r o' i' j' p q st' g md=>aZ2 ⟨g,r,_,_,_,_,rfl,md⟩) fun o' i' j' p q st' g m' hi' hj' pr'=>?_)
    refine aY4 (wpS_lift (bj9 ⟨rfl,?_⟩))
    refine aY4 (bl3 (ax6 c hk ox oy sx sy x0 hl g m' hi' hj' pr') ?_)
    rintro c3 st3 ⟨q3,⟨r,o,i3,j3,mg,p,q,rfl,md⟩ | ⟨o,i3,j3,mg,p,q,rfl,m,hi,hj,pr3⟩⟩
    ·exact aZ2 ⟨q3,r,_,_,_,_,rfl,md⟩
    ·exact aY4 (qD q3 fun st4 q4=>aZ2 ⟨q4,o,i3,j3,_,rfl,m,hi,hj,by omega⟩)
   ·rintro c1 st1 ⟨q1,o,i,j,mg,rfl,m,hi,hj,pr⟩
    exact absurd pr (by omega)
   ·rintro c1 st1 ⟨q1,r,o,i,j,mg,rfl,md⟩
    exact aZ2 (h r _ q1 md)
end
def vF:Array Keyed->Array Keyed->StateT SortSt Sem (Array Keyed):=sortPriv% PySem.Builtin.mergeHi
abbrev LH:=Option (Array Keyed) × Nat × Nat × Array Keyed × Nat × Nat × Nat
abbrev vG:=Option (Array Keyed) × Nat × Nat × Array Keyed × Nat × Nat
abbrev LP:=Option (Array Keyed) × Nat × Nat × Array Keyed × Nat
def qE (x y o:Array Keyed) (i j mg p q:Nat):StateT SortSt Sem (ForInStep LH):=do
 let v <- elem' x (i - 1)
 if (i - 1 == 0)=true then pure (.done (some (x.extract 0 (i - 1) ++ y.extract 0 j ++ (o.push v).reverse),i - 1,j,o.push v,mg,p,q))
 else if (decide (p < 7) && decide (q < 7))=true then pure (.done (none,i - 1,j,o.push v,mg,p,q)) else pure (.yield (none,i - 1,j,o.push v,mg,p,q))
def qF (x y o:Array Keyed) (i j mg p q:Nat):StateT SortSt Sem (ForInStep LH):=do
 let v <- elem' y (j - 1)
 if (j - 1 == 1)=true then pure (.done (some (y.extract 0 (j - 1) ++ x.extract 0 i ++ (o.push v).reverse),i,j - 1,o.push v,mg,p,q)) else do
  let u <- elem' x (i - 1)
  match <- jP true u y 0 (j - 1) (j - 1 - 1) with
  | some z=>
   if j - 1 - z > 0 then
    if (z == 1)=true then pure (.done (some (y.extract 0 z ++ x.extract 0 i ++ (o.push v ++ (y.extract z (j - 1)).reverse).reverse),i,z,o.push v ++ (y.extract z (j - 1)).reverse,mg,p,j - 1 - z))
    else if (z == 0)=true then pure (.done (some (x.extract 0 i ++ y.extract 0 z ++ (o.push v ++ (y.extract z (j - 1)).reverse).reverse),i,z,o.push v ++ (y.extract z (j - 1)).reverse,mg,p,j - 1 - z))
    else qE x y (o.push v ++ (y.extract z (j - 1)).reverse) i z mg p (j - 1 - z)
   else qE x y (o.push v) i (j - 1) mg p (j - 1 - z)
  | _=>pure (.done (some (x.extract 0 i ++ y.extract 0 (j - 1) ++ (o.push v).reverse),i,j - 1,o.push v,mg,p,q))
def qG (x y o:Array Keyed) (i j mg p q:Nat):StateT SortSt Sem (ForInStep LH):=do
 lX mg
 let v <- elem' y (j - 1)
 match <- jP false v x 0 i (i - 1) with
 | some z=>
  if i - z > 0 then
   if (z == 0)=true then pure (.done (some (x.extract 0 z ++ y.extract 0 j ++ (o ++ (x.extract z i).reverse).reverse),z,j,o ++ (x.extract z i).reverse,mg,i - z,q))
   else qF x y (o ++ (x.extract z i).reverse) z j mg (i - z) q
  else qF x y o i j mg (i - z) q
 | _=>pure (.done (some (x.extract 0 i ++ y.extract 0 j ++ o.reverse),i,j,o,mg,p,q))
def vH (x y o:Array Keyed) (i j mg p q:Nat):StateT SortSt Sem LH:=forIn [0:x.size+y.size] ((none,i,j,o,mg,p,q):LH) fun _ r=>
 if r.2.2.2.2.1 > 1 then qG x y r.2.2.2.1 r.2.1 r.2.2.1 (r.2.2.2.2.1 - 1) r.2.2.2.2.2.1 r.2.2.2.2.2.2 else qG x y r.2.2.2.1 r.2.1 r.2.2.1 r.2.2.2.2.1 r.2.2.2.2.2.1 r.2.2.2.2.2.2
def m3 (x y o:Array Keyed) (i j mg:Nat):StateT SortSt Sem vG:=forIn [0:x.size+y.size] ((none,i,j,o,0,0):vG) fun _ r=>do
 let v <- elem' y (r.2.2.1 - 1)
 let u <- elem' x (r.2.1 - 1)
 match <- lt' v u with
 | some q=>
  if q=true then do
   let u <- elem' x (r.2.1 - 1)
   if (r.2.1 - 1 == 0)=true then pure (.done (some (x.extract 0 (r.2.1 - 1) ++ y.extract 0 r.2.2.1 ++ (r.2.2.2.1.push u).reverse),r.2.1 - 1,r.2.2.1,r.2.2.2.1.push u,r.2.2.2.2.1+1,0))
   else if r.2.2.2.2.1+1 >= mg then pure (.done (none,r.2.1 - 1,r.2.2.1,r.2.2.2.1.push u,r.2.2.2.2.1+1,0)) else pure (.yield (none,r.2.1 - 1,r.2.2.1,r.2.2.2.1.push u,r.2.2.2.2.1+1,0))
  else do
   let v <- elem' y (r.2.2.1 - 1)
   if (r.2.2.1 - 1 == 1)=true then pure (.done (some (y.extract 0 (r.2.2.1 - 1) ++ x.extract 0 r.2.1 ++ (r.2.2.2.1.push v).reverse),r.2.1,r.2.2.1 - 1,r.2.2.2.1.push v,0,r.2.2.2.2.2+1))
   else if r.2.2.2.2.2+1 >= mg then pure (.done (none,r.2.1,r.2.2.1 - 1,r.2.2.2.1.push v,0,r.2.2.2.2.2+1)) else pure (.yield (none,r.2.1,r.2.2.1 - 1,r.2.2.2.1.push v,0,r.2.2.2.2.2+1))
 | _=>pure (.done (some (x.extract 0 r.2.1 ++ y.extract 0 r.2.2.1 ++ r.2.2.2.1.reverse),r.2.1,r.2.2.1,r.2.2.2.1,r.2.2.2.2.1,r.2.2.2.2.2))
def K2 (x y o:Array Keyed) (i j mg:Nat):StateT SortSt Sem LP:=forIn [0:x.size+y.size] ((none,i,j,o,mg):LP) fun _ r=>do
 let u <- m3 x y r.2.2.2.1 r.2.1 r.2.2.1 r.2.2.2.2
 match u.1 with
 | some z=>pure (.done (some z,u.2.1,u.2.2.1,u.2.2.2.1,r.2.2.2.2))
 | none=>do
  liftM (rule "list.sort.gallop")
  let v <- vH x y u.2.2.2.1 u.2.1 u.2.2.1 (r.2.2.2.2+1) u.2.2.2.2.1 u.2.2.2.2.2
  match v.1 with
  | some z=>pure (.done (some z,v.2.1,v.2.2.1,v.2.2.2.1,v.2.2.2.2.1))
  | none=>do
   lX (v.2.2.2.2.1+1)
   pure (.yield (none,v.2.1,v.2.2.1,v.2.2.2.1,v.2.2.2.2.1+1))
theorem ax9 (x y:Array Keyed):vF x y=(do
 liftM (rule "list.sort.merge-hi")
 let v <- elem' x (x.size - 1)
 if (x.size - 1 == 0)=true then pure (x.extract 0 (x.size - 1) ++ y.extract 0 y.size ++ (#[v]:Array Keyed).reverse)
 else if (y.size == 1)=true then pure (y.extract 0 y.size ++ x.extract 0 (x.size - 1) ++ (#[v]:Array Keyed).reverse)
 else do
  let z <- get
  let r <- K2 x y #[v] (x.size - 1) y.size (gallopOf z)
  match r.1 with
  | some z=>pure z
  | none=>unsupported "internal:list.sort.merge-bound"):=by kernel_rfl
structure MH (rk:Keyed->Int) (xs ys o:List Keyed) (i j:Nat):Prop where
 pm:o.Perm (xs.drop i ++ ys.drop j)
 sx:Sd rk (xs.take i ++ o)
 sy:Sd rk (ys.take j ++ o)
variable {rk : Keyed → Int} {xs ys o : List Keyed} {i j : Nat}
theorem Sd.insR {o a b d:List Keyed} (h1:Sd rk (a ++ o)) (h2:Sd rk ((d ++ b) ++ o)) (h:∀ t ∈ a,∀ u ∈ b,rk t<=rk u):Sd rk (a ++ (b ++ o)):=by
 unfold Sd at *
 obtain ⟨p1,p2,p3⟩:=bc1.mp h1
 obtain ⟨q1,q2,q3⟩:=bc1.mp h2
 obtain ⟨r1,r2,r3⟩:=bc1.mp q1
 refine bc1.mpr ⟨p1,bc1.mpr ⟨r2,p2,fun u hu t ht=>q3 u (bb0 _ hu) t ht⟩,fun u hu t ht=>?_⟩
 rcases bb6.mp ht with z | z
 ·exact h u hu t z
 ·exact p3 u hu t z
theorem qH (l:List Keyed) {z j:Nat} (h:z<=j):l.take z ++ (l.take j).drop z=l.take j:=by
 have e:l.take z=(l.take j).take z:=by rw [List.take_take,Nat.min_eq_left h]
 rw [e]; exact bb2 z _
theorem vI (l:List Keyed) {z j:Nat} (h:z<=j):(l.take j).drop z ++ l.drop j=l.drop z:=by
 rw [bm1,show l.drop j=(l.drop z).drop (j - z) by rw [List.drop_drop,Nat.add_sub_cancel' h]]
 exact bb2 _ _
theorem MH.ofy (m:MH rk xs ys o i j) {z:Nat} (hz:z<=j) (h:∀ t ∈ xs.take i,∀ u ∈ (ys.take j).drop z,rk t<=rk u):MH rk xs ys ((ys.take j).drop z ++ o) i z:=by
 refine⟨?_,Sd.insR m.sx (d:=ys.take z) (by rw [qH _ hz]; exact m.sy) h,by rw [<- aZ5,qH _ hz]; exact m.sy⟩
 rw [<- vI ys hz]
 refine (m.pm.append_left _).trans ?_
 rw [<- aZ5,<- aZ5]
 exact (bi6).append_right _
theorem MH.ofx (m:MH rk xs ys o i j) {z:Nat} (hz:z<=i) (h:∀ t ∈ ys.take j,∀ u ∈ (xs.take i).drop z,rk t<=rk u):MH rk xs ys ((xs.take i).drop z ++ o) z j:=by
 refine⟨?_,by rw [<- aZ5,qH _ hz]; exact m.sx,Sd.insR m.sy (d:=xs.take z) (by rw [qH _ hz]; exact m.sx) h⟩
 rw [<- vI xs hz,aZ5]
 exact m.pm.append_left _
theorem MH.fin (m:MH rk xs ys o i j) (h:i=0 ∨ j=0):(xs.take i ++ ys.take j ++ o).Perm (xs ++ ys)/\Sd rk (xs.take i ++ ys.take j ++ o):=by
 refine⟨?_,?_⟩
 ·have e1:xs=xs.take i ++ xs.drop i:=(bb2 i xs).symm
  have e2:ys=ys.take j ++ ys.drop j:=(bb2 j ys).symm
  conv=>rhs; rw [e1,e2]
  rw [aZ5,aZ5]
  refine List.Perm.append_left _ ((m.pm.append_left _).trans ?_)
  rw [<- aZ5,<- aZ5]
  exact (bi6).append_right _
 ·rcases h with h | h
  ·subst h; simpa using m.sy
  ·subst h; simpa using m.sx
theorem MH.fst (m:MH rk xs ys o i j) (h:∀ t ∈ ys.take j,∀ u ∈ xs,rk t<=rk u):(ys.take j ++ xs.take i ++ o).Perm (xs ++ ys)/\Sd rk (ys.take j ++ xs.take i ++ o):=by
 have m2:=m.ofx (bc6 i) fun t ht u hu=>h t ht u (bl4 (List.mem_of_mem_drop hu))
 have f:=m2.fin (.inl rfl)
 simpa using f
theorem nT {x:Array Keyed}{i:Nat}{u:Keyed} (h:u ∈ x.toList.take i):∃ t,t < i/\t < x.size/\rk u=Kr rk x t:=by
 obtain ⟨t,ht,e⟩:=bd8 h
 have h1:t < i/\t < x.size:=by simp at ht; omega
 refine⟨t,h1.1,h1.2,?_⟩
 rw [bV h1.2,<- e]
 simp
theorem nU {x:Array Keyed}{z i:Nat}{u:Keyed} (h:u ∈ (x.toList.take i).drop z):∃ t,z<=t/\t < i/\t < x.size/\rk u=Kr rk x t:=by
 obtain ⟨t,ht,e⟩:=bd8 h
 have h1:z+t < i/\z+t < x.size:=by simp at ht; omega
 refine⟨z+t,by omega,h1.1,h1.2,?_⟩
 rw [bV h1.2,<- e]
 simp
theorem kX (x:Array Keyed) (z i:Nat):(x.extract z i).toList=(x.toList.take i).drop z:=by
 rw [bm1]; simp [List.extract]
theorem qI (x:Array Keyed) (i:Nat):(x.extract 0 i).toList=x.toList.take i:=by
 simp [List.extract]
theorem nV {x:Array Keyed}{i:Nat} (h:i < x.size) : [x[i]]=(x.toList.take (i+1)).drop i:=by
 rw [bm1,kW h,show i+1 - i=1 by omega]
section
variable {κ : SortKind} {st : SortSt} {prog : Program} {w : World} {A : Around} {E : Value → Shared → Prop} {s : Shared} {Ok : Keyed → Prop}
theorem MH.y1 {x y o:Array Keyed} (m:MH rk x.toList y.toList o.toList.reverse i (j+1)) (hj:j < y.size) (h:∀ t,t < i->t < x.size->Kr rk x t<=rk y[j]):MH rk x.toList y.toList (o.push y[j]).toList.reverse i j:=by
 have:=m.ofy (Nat.le_succ j) fun t ht u hu=>?_
 ·rw [<- nV hj] at this; simpa using this
 ·rw [<- nV hj,aY3] at hu
  subst hu
  obtain ⟨q,q1,q2,q3⟩:=nT (rk:=rk) ht
  rw [q3]; exact h q q1 q2
theorem MH.x1 {x y o:Array Keyed} (m:MH rk x.toList y.toList o.toList.reverse (i+1) j) (hi:i < x.size) (h:∀ t,t < j->t < y.size->Kr rk y t<=rk x[i]):MH rk x.toList y.toList (o.push x[i]).toList.reverse i j:=by
 have:=m.ofx (Nat.le_succ i) fun t ht u hu=>?_
 ·rw [<- nV hi] at this; simpa using this
 ·rw [<- nV hi,aY3] at hu
  subst hu
  obtain ⟨q,q1,q2,q3⟩:=nT (rk:=rk) ht
  rw [q3]; exact h q q1 q2
theorem MH.yk {x y o:Array Keyed} (m:MH rk x.toList y.toList o.toList.reverse i j) {z:Nat} (hz:z<=j) (h:∀ t p,t < i->t < x.size->z<=p->p < j->p < y.size->Kr rk x t<=Kr rk y p):MH rk x.toList y.toList (o ++ (y.extract z j).reverse).toList.reverse i z:=by
 have:=m.ofy hz fun t ht u hu=>?_
 ·rw [<- kX] at this; simpa using this
 ·obtain ⟨q,q1,q2,q3⟩:=nT (rk:=rk) ht
  obtain ⟨p,p1,p2,p3,p4⟩:=nU (rk:=rk) hu
  rw [q3,p4]; exact h q p q1 q2 p1 p2 p3
theorem MH.xk {x y o:Array Keyed} (m:MH rk x.toList y.toList o.toList.reverse i j) {z:Nat} (hz:z<=i) (h:∀ t p,t < j->t < y.size->z<=p->p < i->p < x.size->Kr rk y t<=Kr rk x p):MH rk x.toList y.toList (o ++ (x.extract z i).reverse).toList.reverse z j:=by
 have:=m.ofx hz fun t ht u hu=>?_
 ·rw [<- kX] at this; simpa using this
 ·obtain ⟨q,q1,q2,q3⟩:=nT (rk:=rk) ht
  obtain ⟨p,p1,p2,p3,p4⟩:=nU (rk:=rk) hu
  rw [q3,p4]; exact h q p q1 q2 p1 p2 p3
theorem MH.done {x y o:Array Keyed} (m:MH rk x.toList y.toList o.toList.reverse i j) (hh:i=0 ∨ j=0):dF rk x y (x.extract 0 i ++ y.extract 0 j ++ o.reverse):=by
 unfold dF
 rw [be7,be7,qI,qI,Array.toList_reverse]
 exact m.fin hh
theorem MH.frst {x y o:Array Keyed} (m:MH rk x.toList y.toList o.toList.reverse i j) (y0:0 < y.size) (hf:∀ t ∈ x.toList,rk y[0]<=rk t) (hh:j=1):dF rk x y (y.extract 0 j ++ x.extract 0 i ++ o.reverse):=by
 unfold dF
 rw [be7,be7,qI,qI,Array.toList_reverse]
 refine m.fst fun t ht u hu=>?_
 subst hh
 obtain ⟨q,q1,q2,q3⟩:=nT (rk:=rk) ht
 have e:q=0:=by omega
 subst e
 rw [q3,bV y0]
 exact hf u hu
structure HB (rk:Keyed->Int) (x y:Array Keyed) (lb i j:Nat) (o:Array Keyed):Prop where
 m:MH rk x.toList y.toList o.toList.reverse i j
 i0:0 < i
 i1:i < x.size
 j0:1 < j
 j1:j<=y.size
 pr:i+j+lb<=x.size+y.size
def HI (rk:Keyed->Int) (x y:Array Keyed) (lb:Nat) (st:SortSt) (c:LH) (st':SortSt):Prop:=Gq st st'/\∃ i j o mg p q,c=(none,i,j,o,mg,p,q)/\HB rk x y lb i j o
def HQ (rk:Keyed->Int) (x y:Array Keyed) (lb:Nat) (st:SortSt) (c:LH) (st':SortSt):Prop:=Gq st st'/\((∃ r i j o mg p q,c=(some r,i,j,o,mg,p,q)/\dF rk x y r) ∨ ∃ i j o mg p q,c=(none,i,j,o,mg,p,q)/\HB rk x y lb i j o)
def HR (rk:Keyed->Int) (x y:Array Keyed) (lb:Nat) (st:SortSt) (r:ForInStep LH) (st':SortSt):Prop:=match r with | .done c=>HQ rk x y lb st c st' | .yield c=>HI rk x y lb st c st'
theorem K3 {st0:SortSt}{x y o:Array Keyed}{i j mg p q lb:Nat} (g:Gq st0 st) (b:HB rk x y lb (i+1) j o) (hm:∀ (hi:i < x.size) t,t < j->t < y.size->Kr rk y t<=rk x[i]):wpS (model prog w) A E s (qE x y o (i+1) j mg p q) (HR rk x y lb st0) st:=by
 unfold qE
 obtain ⟨m,i0,i1,j0,j1,pr⟩:=b
 have hi':i < x.size:=by omega
 have m':=m.x1 hi' (hm hi')
 simp only [Nat.add_sub_cancel]
 refine aY4 (cM hi' ?_)
 by_cases he:(i == 0)=true
 ·rw [if_pos he]
  have he:i=0:=by simpa using he
  exact aZ2 ⟨g,.inl ⟨_,_,_,_,_,_,_,rfl,m'.done (.inl he)⟩⟩
 ·rw [if_neg he]
  have he:i ≠ 0:=by simpa using he
  split
  ·exact aZ2 ⟨g,.inr ⟨_,_,_,_,_,_,rfl,m',by omega,by omega,j0,j1,by omega⟩⟩
  ·exact aZ2 ⟨g,_,_,_,_,_,_,rfl,m',by omega,by omega,j0,j1,by omega⟩
theorem K4 (c:cB prog w A E s κ Ok rk) {st0:SortSt} (hk:kindOf st0=κ) {x y o:Array Keyed}{i j mg p q lb:Nat} (ox:bH Ok x) (oy:bH Ok y) (sx:Sd rk x.toList) (sy:Sd rk y.toList) (y0:0 < y.size) (hf:∀ t ∈ x.toList,rk y[0]<=rk t) (g:Gq st0 st) (b:HB rk x y lb (i+1) (j+1) o)
  (hm:∀ (hj:j < y.size) t,t < i+1->t < x.size->Kr rk x t<=rk y[j]):wpS (model prog w) A E s (qF x y o (i+1) (j+1) mg p q) (HR rk x y lb st0) st:=by
 unfold qF
 obtain ⟨m,i0,i1,j0,j1,pr⟩:=b
 have hi':i < x.size:=by omega
 have hj:j < y.size:=by omega
 have m':=m.y1 hj (hm hj)
 simp only [Nat.add_sub_cancel]
 refine aY4 (cM hj ?_)
 by_cases he:(j == 1)=true
 ·rw [if_pos he]
  have he:j=1:=by simpa using he
  exact aZ2 ⟨g,.inl ⟨_,_,_,_,_,_,_,rfl,m'.frst y0 hf he⟩⟩
 ·rw [if_neg he]
  have he:j ≠ 1:=by simpa using he
  refine aY4 (cM hi' (aY4 (lW c (g.kd.trans hk) (ox _ (bc3 hi')) oy (by omega) (by omega) (sy.up _ _ (by omega)) fun z k1 k2 k3=>?_)))
  dsimp only
  have ux:=sx.up 0 _ (aX7 x.size)
  have mk:=m'.yk k1 fun t p ht ht' hp hp' _=>by
   have a1:=k3 p hp hp'
   rw [lZ,bh7,Nat.zero_add] at a1
   have a2:=ux t i (by omega) (by omega) hi'
   rw [bV (i:=i) hi'] at a2
   omega
  have km:∀ (hi:i < x.size) t,t < z->t < y.size->Kr rk y t<=rk x[i]:=fun _ t ht _=>by
   have a1:=k2 t ht
   rw [lZ,ba1,Nat.zero_add] at a1
   omega
  by_cases hk0:j - z > 0
  ·rw [if_pos hk0]
   by_cases h1:(z == 1)=true
   ·rw [if_pos h1]
    have h1:z=1:=by simpa using h1
    exact aZ2 ⟨g,.inl ⟨_,_,_,_,_,_,_,rfl,mk.frst y0 hf h1⟩⟩
   ·rw [if_neg h1]
    have h1:z ≠ 1:=by simpa using h1
    by_cases h0:(z == 0)=true
    ·rw [if_pos h0]
     have h0:z=0:=by simpa using h0
     exact aZ2 ⟨g,.inl ⟨_,_,_,_,_,_,_,rfl,mk.done (.inr h0)⟩⟩
    ·rw [if_neg h0]
     have h0:z ≠ 0:=by simpa using h0
     exact K3 g ⟨mk,by omega,i1,by omega,by omega,by omega⟩ km
  ·rw [if_neg hk0]
   have e0:z=j:=by omega
   subst e0
   exact K3 g ⟨m',by omega,i1,by omega,by omega,by omega⟩ km
theorem K5 (c:cB prog w A E s κ Ok rk) {st0:SortSt} (hk:kindOf st0=κ) {x y o:Array Keyed}{i j mg p q lb:Nat} (ox:bH Ok x) (oy:bH Ok y) (sx:Sd rk x.toList) (sy:Sd rk y.toList) (y0:0 < y.size) (hf:∀ t ∈ x.toList,rk y[0]<=rk t) (g:Gq st0 st) (b:HB rk x y lb i (j+1) o) :
  wpS (model prog w) A E s (qG x y o i (j+1) mg p q) (HR rk x y lb st0) st:=by
 unfold qG
 obtain ⟨m,i0,i1,j0,j1,pr⟩:=b
 have hj:j < y.size:=by omega
 simp only [Nat.add_sub_cancel]
 refine aY4 (qD g fun st4 q4=>aY4 (cM hj (aY4 (lW c (q4.kd.trans hk) (oy _ (bc3 hj)) ox (by omega) (by omega) (sx.up _ _ (by omega)) fun z k1 k2 k3=>?_))))
 dsimp only
 have uy:=sy.up 0 _ (aX7 y.size)
 have mk:=m.xk k1 fun t p ht ht' hp hp' _=>by
  have a1:=k3 p hp hp'
  rw [lY,bh7,Nat.zero_add] at a1
  have a2:=uy t j (by omega) (by omega) hj
  rw [bV (i:=j) hj] at a2
  omega
 have km:∀ (hj:j < y.size) t,t < z->t < x.size->Kr rk x t<=rk y[j]:=fun _ t ht _=>by
  have a1:=k2 t ht
  rw [lY,ba1,Nat.zero_add] at a1
  exact a1
 by_cases hk0:i - z > 0
 ·rw [if_pos hk0]
  by_cases he:(z == 0)=true
  ·rw [if_pos he]
   exact aZ2 ⟨q4,.inl ⟨_,_,_,_,_,_,_,rfl,mk.done (.inl (by simpa using he))⟩⟩
  ·rw [if_neg he]
   have he:z ≠ 0:=by simpa using he
   obtain ⟨z2,rfl⟩:∃ z2,z=z2+1:=⟨z - 1,by omega⟩
   exact K4 c hk ox oy sx sy y0 hf q4 ⟨mk,by omega,by omega,j0,j1,by omega⟩ km
 ·rw [if_neg hk0]
  have e0:z=i:=by omega
  subst e0
  obtain ⟨z2,rfl⟩:∃ z2,z=z2+1:=⟨z - 1,by omega⟩
  exact K4 c hk ox oy sx sy y0 hf q4 ⟨m,i0,i1,j0,j1,pr⟩ km
theorem ay0 (c:cB prog w A E s κ Ok rk) {st0:SortSt} (hk:kindOf st0=κ) {x y o:Array Keyed}{i j mg p q lb:Nat} (ox:bH Ok x) (oy:bH Ok y) (sx:Sd rk x.toList) (sy:Sd rk y.toList) (y0:0 < y.size) (hf:∀ t ∈ x.toList,rk y[0]<=rk t) (g:Gq st0 st) (b:HB rk x y lb i j o) :
  wpS (model prog w) A E s (vH x y o i j mg p q) (HQ rk x y lb st0) st:=by
 unfold vH
 refine bf4 (I:=fun _=>HI rk x y lb st0) ?_ ?_ ⟨g,i,j,o,_,p,q,rfl,b⟩
 ·rintro t c3 st3 _ _ ⟨q3,i,j,o,mg,p,q,rfl,b3⟩
  obtain ⟨j3,rfl⟩:∃ j3,j=j3+1:=⟨j - 1,by have:=b3.j0; omega⟩
  dsimp only
  split
  ·exact bl3 (K5 c hk ox oy sx sy y0 hf q3 b3) fun r _ hr=>by cases r <;> exact hr
  ·exact bl3 (K5 c hk ox oy sx sy y0 hf q3 b3) fun r _ hr=>by cases r <;> exact hr
 ·rintro c3 st3 ⟨q3,i,j,o,mg,p,q,rfl,b3⟩
  exact⟨q3,.inr ⟨_,_,_,_,_,_,rfl,b3⟩⟩
theorem ay1 (c:cB prog w A E s κ Ok rk) {st0:SortSt} (hk:kindOf st0=κ) {x y o:Array Keyed}{i j mg n:Nat}{Q:vG->SortSt->Prop} (ox:bH Ok x) (oy:bH Ok y) (sx:Sd rk x.toList) (sy:Sd rk y.toList) (y0:0 < y.size) (hf:∀ t ∈ x.toList,rk y[0]<=rk t) (g:Gq st0 st) (b:HB rk x y n i j o)
  (h1:∀ r i' j' o' p q st',Gq st0 st'->dF rk x y r->Q (some r,i',j',o',p,q) st') (h2:∀ i' j' o' p q st',Gq st0 st'->HB rk x y (n+1) i' j' o'->Q (none,i',j',o',p,q) st') :
  wpS (model prog w) A E s (m3 x y o i j mg) Q st:=by
 have ux:Up rk x 0 x.size:=sx.up 0 _ (aX7 _)
 have uy:Up rk y 0 y.size:=sy.up 0 _ (aX7 _)
 unfold m3
 refine bf4 (I:=fun t c st'=>Gq st0 st'/\∃ i j o p q,c=(none,i,j,o,p,q)/\HB rk x y (n+t) i j o) ?_ ?_ ⟨g,i,j,o,0,0,rfl,b⟩
 ·rintro t c2 st2 _ ht ⟨q2,i',j',o,p,q,rfl,m,i0,i1,j0,j1,pr⟩
  obtain ⟨i2,rfl⟩:∃ i2,i'=i2+1:=⟨i' - 1,by omega⟩
  obtain ⟨j2,rfl⟩:∃ j2,j'=j2+1:=⟨j' - 1,by omega⟩
  simp only [Nat.add_sub_cancel]
  have hi:i2 < x.size:=by omega
  have hj:j2 < y.size:=by omega
  refine aY4 (cM hj (aY4 (cM hi (aY4 (c _ _ (oy _ (bc3 hj)) (ox _ (bc3 hi)) st2 _ (q2.kd.trans hk) ?_)))))
  by_cases hc:rk y[j2] < rk x[i2]
  ·rw [aX4 hc]
   dsimp only
   rw [if_pos rfl]
   have m':=m.x1 hi fun t ht _=>by
    have:=uy t j2 (by omega) (by omega) hj
    rw [bV hj] at this
    omega
   refine aY4 (cM hi ?_)
   by_cases he:(i2 == 0)=true
   ·rw [if_pos he]
    exact aZ2 (h1 _ _ _ _ _ _ _ q2 (m'.done (.inl (by simpa using he))))
   ·rw [if_neg he]
    have he:i2 ≠ 0:=by simpa using he
    split
    ·exact aZ2 (h2 _ _ _ _ _ _ q2 ⟨m',by omega,by omega,j0,j1,by omega⟩)
    ·exact aZ2 ⟨q2,_,_,_,_,_,rfl,m',by omega,by omega,j0,j1,by omega⟩
  ·rw [aX3 hc]
   dsimp only
   rw [if_neg aZ0]
   have m':=m.y1 hj fun t ht _=>by
    have:=ux t i2 (by omega) (by omega) hi
    rw [bV hi] at this
    omega
   refine aY4 (cM hj ?_)
   by_cases he:(j2 == 1)=true
   ·rw [if_pos he]
    exact aZ2 (h1 _ _ _ _ _ _ _ q2 (m'.frst y0 hf (by simpa using he)))
   ·rw [if_neg he]
    have he:j2 ≠ 1:=by simpa using he
    split
    ·exact aZ2 (h2 _ _ _ _ _ _ q2 ⟨m',i0,i1,by omega,by omega,by omega⟩)
    ·exact aZ2 ⟨q2,_,_,_,_,_,rfl,m',i0,i1,by omega,by omega,by omega⟩
 ·rintro c2 st2 ⟨q2,i',j',o,p,q,rfl,m,i0,i1,j0,j1,pr⟩
  exact h2 _ _ _ _ _ _ q2 ⟨m,i0,i1,j0,j1,by omega⟩
theorem ay2 (c:cB prog w A E s κ Ok rk) (hk:kindOf st=κ) {x y:Array Keyed}{Q:Array Keyed->SortSt->Prop} (ox:bH Ok x) (oy:bH Ok y) (sx:Sd rk x.toList) (sy:Sd rk y.toList) (x0:0 < x.size) (y0:0 < y.size)
  (hf:∀ t ∈ x.toList,rk y[0]<=rk t) (hl:∀ u ∈ y.toList,rk u<=rk x[x.size - 1])
  (h:∀ r st',Gq st st'->dF rk x y r->Q r st'):wpS (model prog w) A E s (vF x y) Q st:=by
 rw [ax9]
 refine aY4 (wpS_lift (bj9 ⟨rfl,aY4 (cM (by omega:x.size - 1 < x.size) ?_)⟩))
 have m0:MH rk x.toList y.toList (#[x[x.size - 1]]:Array Keyed).toList.reverse (x.size - 1) y.size:=by
  have mm:MH rk x.toList y.toList [] x.size y.size:=⟨by simp,by rw [ba3 (by simp),ba5]; exact sx,by rw [ba3 (by simp),ba5]; exact sy⟩
  have e:=nV (x:=x) (i:=x.size - 1) (by omega)
  rw [show x.size - 1+1=x.size by omega] at e
  have:=mm.ofx (Nat.sub_le x.size 1) fun t ht u hu=>?_
  ·rw [<- e] at this; simpa using this
  ·rw [<- e,aY3] at hu
   subst hu
   exact hl t (bl4 ht)
 by_cases e1:(x.size - 1 == 0)=true
 ·rw [if_pos e1]
  exact aZ2 (h _ st (Gq.refl st) (m0.done (.inl (by simpa using e1))))
 ·rw [if_neg e1]
  have e1:x.size - 1 ≠ 0:=by simpa using e1
  by_cases e2:(y.size == 1)=true
  ·rw [if_pos e2]
   exact aZ2 (h _ st (Gq.refl st) (m0.frst y0 hf (by simpa using e2)))
  ·rw [if_neg e2]
   have e2:y.size ≠ 1:=by simpa using e2
   refine aY4 (wpS_get ?_)
   unfold K2
   refine aY4 (bl3 (bf4
    (I:=fun n c st'=>Gq st st'/\∃ i j o mg,c=(none,i,j,o,mg)/\HB rk x y (n+1) i j o)
    (Q:=fun c st'=>Gq st st'/\∃ r i j o mg,c=(some r,i,j,o,mg)/\dF rk x y r) ?_ ?_ ⟨Gq.refl st,_,_,_,_,rfl,m0,by omega,by omega,by omega,by omega,by omega⟩) ?_)
   ·rintro n c1 st1 _ hn ⟨q1,i,j,o,mg,rfl,b⟩
    dsimp only
    refine aY4 (ay1 c hk ox oy sx sy y0 hf q1 b (fun r o' i' j' p q st' g md=>aZ2 ⟨g,r,_,_,_,_,rfl,md⟩) fun i' j' o' p q st' g b'=>?_)
    refine aY4 (wpS_lift (bj9 ⟨rfl,?_⟩))
    refine aY4 (bl3 (ay0 c hk ox oy sx sy y0 hf g b') ?_)
    rintro c3 st3 ⟨q3,⟨r,i3,j3,o,mg,p,q,rfl,md⟩ | ⟨i3,j3,o,mg,p,q,rfl,b3⟩⟩
    ·exact aZ2 ⟨q3,r,_,_,_,_,rfl,md⟩
    ·exact aY4 (qD q3 fun st4 q4=>aZ2 ⟨q4,i3,j3,o,_,rfl,b3⟩)
   ·rintro c1 st1 ⟨q1,i,j,o,mg,rfl,b⟩
    have:=b.pr
    exact absurd this (by omega)
   ·rintro c1 st1 ⟨q1,r,i,j,o,mg,rfl,md⟩
    exact aZ2 (h r _ q1 md)
end
theorem ay3 (i:Nat):mergeAt' i=(do
 let z <- get
 let (some (sa,na,pw),some (sb,nb,_)):=((pendingOf z)[i]?,(pendingOf z)[i+1]?) | unsupported "internal:list.sort.pending"
 set (SortSt.mk' (kindOf z) (arrOf z) (((pendingOf z).setIfInBounds i (sa,na+nb,pw)).eraseIdxIfInBounds (i+1)) (gallopOf z) (failedOf z))
 let some k <- jP false (<- elem' (arrOf z) sb) (arrOf z) sa na 0 | return false
 let (sa,na):=(sa+k,na - k)
 if na == 0 then return true
 let some nb <- jP true (<- elem' (arrOf z) (sa+na - 1)) (arrOf z) sb nb (nb - 1) | return false
 if nb == 0 then return true
 let x:=(arrOf z).extract sa sb
 let y:=(arrOf z).extract sb (sb+nb)
 let m <- if na<=nb then vB x y else vF x y
 modify fun z=>setArr z (m.toList.zipIdx.foldl (fun a (p,j)=>a.setIfInBounds (sa+j) p) (arrOf z))
 return (failedOf (<- get)).isNone):=rfl
variable {rk : Keyed → Int}
theorem ay4 {σ:Type}{M:Model}{A:Around}{E:Value->Shared->Prop}{s:Shared}{a b:σ}{Q:PUnit->σ->Prop} (h:Q ⟨⟩ a):wpS M A E s (set a:StateT σ Sem PUnit) Q b:=by
 unfold wpS; rw [StateT.run_set]; exact aX8 ⟨rfl,h⟩
theorem K6 (o:Nat):∀ (m:List Keyed) (n:Nat) (a:Array Keyed) (t:Nat),o+n+m.length<=a.size->
  ((m.zipIdx n).foldl (fun a (p,j)=>a.setIfInBounds (o+j) p) a)[t]? = if o+n<=t/\t < o+n+m.length then m[t - (o+n)]? else a[t]?
 | [],n,a,t,_=>by
  show a[t]? = _
  rw [if_neg (fun z=>Nat.not_lt_of_ge z.1 z.2)]
 | p :: m,n,a,t,h=>by
  rw [List.zipIdx_cons,List.foldl_cons]
  have h':o+(n+1)+m.length<=(a.setIfInBounds (o+n) p).size:=by rw [Array.size_setIfInBounds]; simp at h; omega
  have ih:=K6 o m (n+1) (a.setIfInBounds (o+n) p) t h'
  refine ih.trans ?_
  have hs:o+n < a.size:=by simp at h; omega
  rw [Array.getElem?_setIfInBounds]
  by_cases e:o+n=t
  ·subst e
   rw [if_neg (by omega),if_pos rfl,if_pos hs,if_pos (by simp),Nat.sub_self]; rfl
  ·rw [if_neg e]
   by_cases c:o+n<=t/\t < o+n+(p :: m).length
   ·rw [if_pos c,if_pos (by simp at c; omega)]
    rw [show t - (o+n)=(t - (o+(n+1)))+1 by omega]; rfl
   ·rw [if_neg c,if_neg (by simp at c ⊢; omega)]
theorem K7 {a:Array Keyed}{lo hi:Nat} (u:Up rk a lo hi) (hh:hi<=a.size):Sd rk (a.extract lo hi).toList:=by
 unfold Sd
 rw [bc7]
 intro i j hi' hj hij
 have h2:lo+j < hi:=by simp at hj; omega
 have:=u (lo+i) (lo+j) (by omega) (by omega) h2
 rw [bV (by omega:lo+i < a.size),bV (by omega:lo+j < a.size)] at this
 simpa using this
theorem K8 {a:Array Keyed}{lo mid hi:Nat} (u:Up rk a lo mid) (v:Up rk a mid hi) (h0:lo < mid) (h1:mid < hi) (h:Kr rk a (mid - 1)<=Kr rk a mid):Up rk a lo hi:=fun i j hi' hij hj=>by
 rcases bb7 j mid with z | z
 ·exact u i j hi' hij z
 ·rcases bb7 i mid with y | y
  ·have a1:=u i (mid - 1) hi' (by omega) (by omega)
   have a2:=v mid j (aX7 _) z hj
   omega
  ·exact v i j y hij hj
theorem K9 {a:Array Keyed}{lo hi t:Nat} (h:t < hi - lo) (hh:hi<=a.size):Kr rk (a.extract lo hi) t=Kr rk a (lo+t):=by
 refine kT ?_
 rw [Array.getElem?_extract_of_lt (by omega)]
 exact (getElem?_pos a (lo+t) (by omega)).symm
section
variable {κ : SortKind} {a0 : Array Keyed} {pd : Array (Nat × Nat × Nat)} {st : SortSt} {prog : Program} {w : World} {A : Around} {E : Value → Shared → Prop} {s : Shared} {Ok : Keyed → Prop}
theorem ay5 {a m:Array Keyed}{p x e:Nat} (hpx:p<=x) (hxe:x<=e) (he:e<=a.size) (md:dF rk (a.extract p x) (a.extract x e) m) :
  let r:=m.toList.zipIdx.foldl (fun a (q,j)=>a.setIfInBounds (p+j) q) a
  r.Perm a/\(∀ t,(t < p ∨ e<=t)->Kr rk r t=Kr rk a t)/\(∀ t t',p<=t->t<=t'->t' < e->Kr rk r t<=Kr rk r t')/\∀ t,p<=t->t < e->∃ t',p<=t'/\t' < e/\Kr rk r t=Kr rk a t':=by
 intro r
 have ml:m.toList.length=e - p:=by
  rw [md.1.length_eq]; simp; omega
 have g:∀ t,r[t]? = if p<=t/\t < e then m[t - p]? else a[t]?:=fun t=>by
  have:=K6 p m.toList 0 a t (by omega)
  rw [show r=(m.toList.zipIdx 0).foldl (fun a (q,j)=>a.setIfInBounds (p+j) q) a from rfl,this]
  simp only [Nat.add_zero,ml,show p+(e - p)=e by omega,bg1]
 have ex:(a.extract p x).toList ++ (a.extract x e).toList=(a.toList.take e).drop p:=by
  rw [kX,kX,bm1,bm1,bm1]
  rw [show x=p+(x - p) by omega,<- List.drop_drop,show p+(x - p) - p=x - p by omega,show e - (p+(x - p))=(e - p) - (x - p) by omega]
  have:=bb2 (x - p) ((a.toList.drop p).take (e - p))
  rw [List.take_take,bm1,Nat.min_eq_left (by omega)] at this
  exact this
 have rl:r.toList=a.toList.take p ++ (m.toList ++ a.toList.drop e):=by
  apply List.ext_getElem?
  intro t
  rw [bg1,g]
  rcases bb7 t p with z | z
  ·rw [if_neg (by omega),bi5 (by simp; omega),List.getElem?_take_of_lt z,bg1]
  ·rw [bk3 (by simp; omega)]
   have lp:(a.toList.take p).length=p:=by simp; omega
   rw [lp]
   rcases bb7 t e with y | y
   ·rw [if_pos ⟨z,y⟩,bi5 (by omega),bg1]
   ·rw [if_neg (by omega),bk3 (by omega),ml,List.getElem?_drop,bg1]
    congr 1; omega
 have mp:m.toList.Perm ((a.toList.take e).drop p):=ex ▸ md.1
 refine⟨?_,fun t ht=>kT (by rw [g,if_neg (by omega)]),fun t t' h1 h2 h3=>?_,fun t h1 h2=>?_⟩
 ·refine Array.perm_iff_toList_perm.mpr ?_
  rw [rl]
  have:a.toList=a.toList.take p ++ ((a.toList.take e).drop p ++ a.toList.drop e):=by
   rw [vI _ (by omega:p<=e)]; exact (bb2 p _).symm
  conv=>rhs; rw [this]
  exact (mp.append_right _).append_left _
 ·have e1:Kr rk r t=Kr rk m (t - p):=kT (by rw [g,if_pos (by omega)])
  have e2:Kr rk r t'=Kr rk m (t' - p):=kT (by rw [g,if_pos (by omega)])
  rw [e1,e2]
  have ms:m.size=e - p:=by rw [<- ml]; simp
  exact md.2.up 0 m.size (aX7 _) (t - p) (t' - p) (by omega) (by omega) (by omega)
 ·have e1:Kr rk r t=Kr rk m (t - p):=kT (by rw [g,if_pos (by omega)])
  have ms:m.size=e - p:=by rw [<- ml]; simp
  have hm:t - p < m.size:=by omega
  have mm:m[t - p] ∈ (a.toList.take e).drop p:=mp.mem_iff.mp (by simp)
  obtain ⟨t',q1,q2,q3,q4⟩:=nU (rk:=rk) mm
  exact⟨t',q1,q2,by rw [e1,bV hm]; exact q4⟩
theorem ay6 (c:cB prog w A E s κ Ok rk) (o:bH Ok a0) (b:SB κ a0 pd st) {i sa na pw sb nb pw':Nat}{Q:Bool->SortSt->Prop} (e1:pd[i]? = some (sa,na,pw)) (e2:pd[i+1]? = some (sb,nb,pw')) (hs:sb=sa+na) (n0:0 < na) (m0:0 < nb) (hz:sb+nb<=a0.size)
  (u:Up rk (arrOf st) sa sb) (v:Up rk (arrOf st) sb (sb+nb))
  (h:∀ st',SB κ a0 ((pd.setIfInBounds i (sa,na+nb,pw)).eraseIdxIfInBounds (i+1)) st'->Up rk (arrOf st') sa (sb+nb)->(∀ t,(t < sa ∨ sb+nb<=t)->Kr rk (arrOf st') t=Kr rk (arrOf st) t)->Q true st'):wpS (model prog w) A E s (mergeAt' i) Q st:=by
 have sz:=b.sz
 rw [ay3]
 refine aY4 (wpS_get ?_)
 rw [b.pd,e1,e2]
 dsimp only
 refine aY4 (ay4 ?_)
 generalize hst:SortSt.mk' (kindOf st) (arrOf st) ((pd.setIfInBounds i (sa,na+nb,pw)).eraseIdxIfInBounds (i+1)) (gallopOf st) (failedOf st)=st1
 have b1:SB κ a0 ((pd.setIfInBounds i (sa,na+nb,pw)).eraseIdxIfInBounds (i+1)) st1:=by rw [<- hst]; exact⟨b.pm,b.kd,b.ok,rfl⟩
 have ar:arrOf st1=arrOf st:=by rw [<- hst]
 have oa:=b.all o
 have hsb:sb < (arrOf st).size:=by omega
 refine aY4 (cM hsb (aY4 (lW c b1.kd (oa _ (bc3 hsb)) oa n0 (by omega) (hs ▸ u) fun k k1 k2 k3=>?_)))
 dsimp only
 have k2':∀ t,sa<=t->t < sa+k->Kr rk (arrOf st) t<=Kr rk (arrOf st) sb:=fun t t1 t2=>by
  have:=k2 (t - sa) (by omega)
  rw [lY,ba1,show sa+(t - sa)=t by omega] at this
  rw [bV hsb]; exact this
 have k3':∀ t,sa+k<=t->t < sb->Kr rk (arrOf st) sb < Kr rk (arrOf st) t:=fun t t1 t2=>by
  have:=k3 (t - sa) (by omega) (by omega)
  rw [lY,bh7,show sa+(t - sa)=t by omega] at this
  rw [bV hsb]; omega
 by_cases ek:(na - k == 0)=true
 ·rw [if_pos ek]
  have ek:na - k=0:=by simpa using ek
  refine aZ2 (h st1 b1 ?_ fun t _=>by rw [ar])
  rw [ar]
  exact K8 u v (by omega) (by omega) (k2' (sb - 1) (by omega) (by omega))
 ·rw [if_neg ek]
  have ek:na - k ≠ 0:=by simpa using ek
  have el:sa+k+(na - k) - 1=sb - 1:=by omega
  rw [el]
  have hsl:sb - 1 < (arrOf st).size:=by omega
  refine aY4 (cM hsl (aY4 (lW c b1.kd (oa _ (bc3 hsl)) oa (by omega) (by omega) v fun l l1 l2 l3=>?_)))
  dsimp only
  have l2':∀ t,sb<=t->t < sb+l->Kr rk (arrOf st) t < Kr rk (arrOf st) (sb - 1):=fun t t1 t2=>by
   have:=l2 (t - sb) (by omega)
   rw [lZ,ba1,show sb+(t - sb)=t by omega] at this
   rw [bV hsl]; exact this
  have l3':∀ t,sb+l<=t->t < sb+nb->Kr rk (arrOf st) (sb - 1)<=Kr rk (arrOf st) t:=fun t t1 t2=>by
   have:=l3 (t - sb) (by omega) (by omega)
   rw [lZ,bh7,show sb+(t - sb)=t by omega] at this
   rw [bV hsl]; omega
  by_cases en:(l == 0)=true
  ·rw [if_pos en]
   have en:l=0:=by simpa using en
   subst en
   refine aZ2 (h st1 b1 ?_ fun t _=>by rw [ar])
   rw [ar]
   exact K8 u v (by omega) (by omega) (l3' sb (by omega) (by omega))
  ·rw [if_neg en]
   have en:l ≠ 0:=by simpa using en
   have sub:∀ p e,bH Ok ((arrOf st).extract p e):=fun p e z hz=>oa z (by
    have:z ∈ ((arrOf st).extract p e).toList:=Array.mem_toList_iff.mpr hz
    rw [kX] at this
    exact Array.mem_toList_iff.mp (bl4 (List.mem_of_mem_drop this)))
   have sx:Sd rk ((arrOf st).extract (sa+k) sb).toList:=K7 (fun i j h1 h2 h3=>u i j (by omega) h2 h3) (by omega)
   have sy:Sd rk ((arrOf st).extract sb (sb+l)).toList:=K7 (fun i j h1 h2 h3=>v i j h1 h2 (by omega)) (by omega)
   have x0:0 < ((arrOf st).extract (sa+k) sb).size:=by simp; omega
   have y0:0 < ((arrOf st).extract sb (sb+l)).size:=by simp; omega
   have hf:∀ t ∈ ((arrOf st).extract (sa+k) sb).toList,rk ((arrOf st).extract sb (sb+l))[0]<=rk t:=fun t ht=>by
    rw [kX] at ht
    obtain ⟨t',q1,q2,q3,q4⟩:=nU (rk:=rk) ht
    rw [q4,<- bV (rk:=rk) y0,K9 (by omega) (by omega)]
    exact Int.le_of_lt (k3' t' q1 q2)
   have hl:∀ t ∈ ((arrOf st).extract sb (sb+l)).toList,rk t<=rk ((arrOf st).extract (sa+k) sb)[((arrOf st).extract (sa+k) sb).size - 1]:=fun t ht=>by
    rw [kX] at ht
    obtain ⟨t',q1,q2,q3,q4⟩:=nU (rk:=rk) ht
    have e:((arrOf st).extract (sa+k) sb).size=sb - (sa+k):=by simp; omega
    rw [q4,<- bV (rk:=rk) (by omega),K9 (by omega) (by omega),e,show sa+k+(sb - (sa+k) - 1)=sb - 1 by omega]
    exact Int.le_of_lt (l2' t' q1 q2)
   have fin:∀ (m:Array Keyed) (st2:SortSt),Gq st1 st2->dF rk ((arrOf st).extract (sa+k) sb) ((arrOf st).extract sb (sb+l)) m->
     wpS (model prog w) A E s (do modify (fun z=>setArr z (m.toList.zipIdx.foldl (fun a (p,j)=>a.setIfInBounds (sa+k+j) p) (arrOf z))); return (failedOf (<- get)).isNone) Q st2:=fun m st2 g md=>by
    have b2:SB κ a0 ((pd.setIfInBounds i (sa,na+nb,pw)).eraseIdxIfInBounds (i+1)) st2:=⟨by rw [g.ar]; exact b1.pm,g.kd.trans b1.kd,g.ok.trans b1.ok,g.pd.trans b1.pd⟩
    have a2:arrOf st2=arrOf st:=g.ar.trans ar
    obtain ⟨r1,r2,r3,r4⟩:=ay5 (by omega) (by omega) (by omega) md
    generalize hr:m.toList.zipIdx.foldl (fun a (q,j)=>a.setIfInBounds (sa+k+j) q) (arrOf st)=r at r1 r2 r3 r4
    refine aY4 (wpS_modify (aY4 (wpS_get (aZ2 ?_))))
    have b3:=b2.put (xs:=m.toList.zipIdx.foldl (fun a (q,j)=>a.setIfInBounds (sa+k+j) q) (arrOf st2)) (by rw [a2,hr]; exact r1)
    have er:arrOf (setArr st2 (m.toList.zipIdx.foldl (fun a (q,j)=>a.setIfInBounds (sa+k+j) q) (arrOf st2)))=r:=by rw [<- hr,a2]
    have tr:(failedOf (setArr st2 (m.toList.zipIdx.foldl (fun a (q,j)=>a.setIfInBounds (sa+k+j) q) (arrOf st2)))).isNone=true:=by rw [b3.ok]; rfl
    rw [tr]
    refine h _ b3 (fun i j hi hij hj=>?_) fun t ht=>?_
    ·rw [er]
     have bl:∀ t,sa<=t->t < sa+k->∀ t',sa+k<=t'->t' < sb+l->Kr rk (arrOf st) t<=Kr rk (arrOf st) t':=fun t t1 t2 t' t3 t4=>by
      rcases bb7 t' sb with z | z
      ·exact u t t' t1 (by omega) z
      ·have a1:=k2' t t1 t2
       have a2:=v sb t' (aX7 _) z (by omega)
       omega
     have br:∀ t,sb+l<=t->t < sb+nb->∀ t',sa+k<=t'->t' < sb+l->Kr rk (arrOf st) t'<=Kr rk (arrOf st) t:=fun t t1 t2 t' t3 t4=>by
      rcases bb7 t' sb with z | z
      ·have a1:=u t' (sb - 1) (by omega) (by omega) (by omega)
       have a2:=l3' t t1 t2
       omega
      ·exact v t' t z (by omega) t2
     have blr:∀ t,sa<=t->t < sa+k->∀ t',sb+l<=t'->t' < sb+nb->Kr rk (arrOf st) t<=Kr rk (arrOf st) t':=fun t t1 t2 t' t3 t4=>by
      have a1:=bl t t1 t2 (sb - 1) (by omega) (by omega)
      have a2:=l3' t' t3 t4
      omega
     rcases bb7 i (sa+k) with z | z
     ·rw [r2 i (.inl z)]
      rcases bb7 j (sa+k) with y | y
      ·rw [r2 j (.inl y)]; exact u i j hi hij (by omega)
      ·rcases bb7 j (sb+l) with x | x
       ·obtain ⟨t',q1,q2,q3⟩:=r4 j y x
        rw [q3]; exact bl i hi z t' q1 q2
       ·rw [r2 j (.inr x)]; exact blr i hi z j x hj
     ·rcases bb7 j (sb+l) with x | x
      ·exact r3 i j z hij x
      ·rw [r2 j (.inr x)]
       rcases bb7 i (sb+l) with y | y
       ·obtain ⟨t',q1,q2,q3⟩:=r4 i z y
        rw [q3]; exact br j x hj t' q1 q2
       ·rw [r2 i (.inr y)]; exact v i j (by omega) hij hj
    ·rw [er]; exact r2 t (by omega)
   by_cases hle:na - k<=l
   ·rw [if_pos hle]
    exact aY4 (ax8 c b1.kd (sub _ _) (sub _ _) sx sy x0 y0 hf hl fun m st2 g md=>fin m st2 g md)
   ·rw [if_neg hle]
    exact aY4 (ay2 c b1.kd (sub _ _) (sub _ _) sx sy x0 y0 hf hl fun m st2 g md=>fin m st2 g md)
end
def Ch:Nat->List (Nat × Nat)->Nat->Prop
 | a,[],b=>a=b
 | a,(p,n) :: r,b=>p=a/\0 < n/\Ch (a+n) r b
theorem Ch.split:∀ {l l':List (Nat × Nat)}{a b:Nat},Ch a (l ++ l') b->∃ m,Ch a l m/\Ch m l' b
 | [],_,a,_,h=>⟨a,rfl,h⟩
 | (p,n) :: l,l',a,b,h=>by
  obtain ⟨h1,h2,h3⟩:=h
  obtain ⟨m,q1,q2⟩:=Ch.split h3
  exact⟨m,⟨h1,h2,q1⟩,q2⟩
theorem Ch.join:∀ {l l':List (Nat × Nat)}{a m b:Nat},Ch a l m->Ch m l' b->Ch a (l ++ l') b
 | [],_,a,m,_,h,h'=>by cases (show a=m from h); exact h'
 | (p,n) :: l,l',a,m,b,h,h'=>⟨h.1,h.2.1,Ch.join h.2.2 h'⟩
theorem Ch.len:∀ {l:List (Nat × Nat)}{a b:Nat},Ch a l b->a+l.length<=b
 | [],a,b,h=>by cases (show a=b from h); simp
 | (p,n) :: l,a,b,h=>by
  have:=Ch.len h.2.2
  have:=h.2.1
  simp; omega
theorem Ch.mem:∀ {l:List (Nat × Nat)}{a b:Nat}{r:Nat × Nat},Ch a l b->r ∈ l->a<=r.1/\r.1+r.2<=b/\0 < r.2
 | (p,n) :: l,a,b,r,h,hr=>by
  obtain ⟨h1,h2,h3⟩:=h
  have hb:=Ch.len h3
  rcases aX9.mp hr with e | e
  ·subst e
   have h1:p=a:=h1
   refine⟨?_,?_,h2⟩
   ·show a<=p; omega
   ·show p+n<=b; omega
  ·have:=Ch.mem h3 e
   exact⟨by omega,this.2.1,this.2.2⟩
def sk (pd:Array (Nat × Nat × Nat)):List (Nat × Nat):=pd.toList.map fun r=>(r.1,r.2.1)
theorem qJ (pd:Array (Nat × Nat × Nat)):(sk pd).length=pd.size:=by simp [sk]
structure Rn (rk:Keyed->Int) (a:Array Keyed) (l:List (Nat × Nat)) (lo:Nat):Prop where
 ch:Ch 0 l lo
 up:∀ r ∈ l,Up rk a r.1 (r.1+r.2)
variable {rk : Keyed → Int} {κ : SortKind} {a0 : Array Keyed} {pd : Array (Nat × Nat × Nat)} {st : SortSt} {prog : Program} {w : World} {A : Around} {E : Value → Shared → Prop} {s : Shared} {Ok : Keyed → Prop}
theorem Rn.same {a b:Array Keyed}{l:List (Nat × Nat)}{lo:Nat} (h:Rn rk a l lo) (e:∀ t,t < lo->Kr rk b t=Kr rk a t):Rn rk b l lo:=⟨h.ch,fun r hr i j hi hij hj=>by
 have:=(h.ch.mem hr).2.1
 rw [e i (by omega),e j (by omega)]
 exact h.up r hr i j hi hij hj⟩
theorem L0 (c:cB prog w A E s κ Ok rk) (o:bH Ok a0) (b:SB κ a0 pd st) {i lo:Nat}{Q:Bool->SortSt->Prop} (hi:i+1 < pd.size) (hz:lo<=a0.size) (rn:Rn rk (arrOf st) (sk pd) lo)
  (h:∀ pd' st',SB κ a0 pd' st'->pd'.size+1=pd.size->Rn rk (arrOf st') (sk pd') lo->(∀ t,lo<=t->Kr rk (arrOf st') t=Kr rk (arrOf st) t)->Q true st'):wpS (model prog w) A E s (mergeAt' i) Q st:=by
 obtain ⟨⟨sa,na,pw⟩,e1⟩:∃ r,pd[i]? = some r:=⟨pd[i],getElem?_pos pd i (by omega)⟩
 obtain ⟨⟨sb,nb,pw'⟩,e2⟩:∃ r,pd[i+1]? = some r:=⟨pd[i+1],getElem?_pos pd (i+1) hi⟩
 have d1:pd.toList=pd.toList.take i ++ (sa,na,pw) :: (sb,nb,pw') :: pd.toList.drop (i+2):=by
  have hl:i < pd.toList.length:=by simp; omega
  have hl2:i+1 < pd.toList.length:=by simpa using hi
  have g1:pd.toList[i]=(sa,na,pw):=by rw [getElem?_pos pd i (by omega)] at e1; simpa using e1
  have g2:pd.toList[i+1]=(sb,nb,pw'):=by rw [getElem?_pos pd (i+1) hi] at e2; simpa using e2
  have:=bb2 i pd.toList
  rw [List.drop_eq_getElem_cons hl,List.drop_eq_getElem_cons hl2,g1,g2] at this
  exact this.symm
 have li:(pd.toList.take i).length=i:=by simp; omega
 have d2:((pd.setIfInBounds i (sa,na+nb,pw)).eraseIdxIfInBounds (i+1)).toList=pd.toList.take i ++ (sa,na+nb,pw) :: pd.toList.drop (i+2):=by
  have e:((pd.setIfInBounds i (sa,na+nb,pw)).eraseIdxIfInBounds (i+1)).toList=(pd.toList.set i (sa,na+nb,pw)).eraseIdx (i+1):=by
   unfold Array.eraseIdxIfInBounds
   rw [dif_pos (by rw [Array.size_setIfInBounds]; exact hi),Array.toList_eraseIdx,Array.toList_setIfInBounds]
  rw [e]
  conv=>lhs; rw [d1]
  rw [List.set_append_right _ _ (by omega),li,Nat.sub_self,List.set_cons_zero,List.eraseIdx_append_of_length_le (by omega),li,show i+1 - i=1 by omega]
  rfl
 have k1:sk pd=(pd.toList.take i).map (fun r=>(r.1,r.2.1)) ++ (sa,na) :: (sb,nb) :: (pd.toList.drop (i+2)).map (fun r=>(r.1,r.2.1)):=by
  unfold sk; conv=>lhs; rw [d1]
  simp
 have k2:sk ((pd.setIfInBounds i (sa,na+nb,pw)).eraseIdxIfInBounds (i+1))=(pd.toList.take i).map (fun r=>(r.1,r.2.1)) ++ (sa,na+nb) :: (pd.toList.drop (i+2)).map (fun r=>(r.1,r.2.1)):=by
  unfold sk; rw [d2]
  simp
 have ch:=rn.ch
 rw [k1] at ch
 obtain ⟨m,c1,c2⟩:=ch.split
 obtain ⟨f1,f2,f3,f4,f5⟩:=c2
 have f1:sa=m:=f1
 have f3:sb=m+na:=f3
 have up:=rn.up
 rw [k1] at up
 have lo2:=f5.len
 refine ay6 c o b e1 e2 (by omega) f2 f4 (by omega) (by have:=up (sa,na) (by simp); rw [f3,<- f1]; exact this) (up (sb,nb) (by simp)) fun st' b' u' fr=>h _ st' b' ?_ ⟨?_,?_⟩ fun t ht=>fr t (by omega)
 ·rw [<- qJ,<- qJ,k1,k2]; simp; omega
 ·rw [k2]
  refine c1.join ⟨f1,by omega,?_⟩
  rw [<- Nat.add_assoc]; exact f5
 ·intro r hr
  rw [k2] at hr
  rcases bb6.mp hr with z | z
  ·intro p q h1 h2 h3
   have:=(c1.mem z).2.1
   rw [fr p (by omega),fr q (by omega)]
   exact up r (bg3 _ z) p q h1 h2 h3
  ·rcases aX9.mp z with z | z
   ·subst z
    show Up rk (arrOf st') sa (sa+(na+nb))
    rw [show sa+(na+nb)=sb+nb by omega]; exact u'
   ·intro p q h1 h2 h3
    have:=(f5.mem z).1
    rw [fr p (by omega),fr q (by omega)]
    exact up r (bb0 _ (aY2 _ (aY2 _ z))) p q h1 h2 h3
abbrev RS:=Option Unit × Nat
def L1 (sz pw:Nat):StateT SortSt Sem (Option Unit × Unit):=forIn [0:sz] ((none,()):Option Unit × Unit) fun _ _=>do
 let z <- get
 match (if (pendingOf z).size > 1 then (pendingOf z)[(pendingOf z).size - 2]? else none) with
 | some (_,_,o)=>if o<=pw then pure (.done (none,())) else do
   let q <- mergeAt' ((pendingOf z).size - 2)
   if (!q)=true then pure (.done (some (),())) else pure (.yield (none,()))
 | _=>pure (.done (none,()))
def jn (sz lo n:Nat):StateT SortSt Sem (ForInStep RS):=do
 let z <- get
 match (pendingOf z).back? with
 | some (s1,n1,_)=>do
  let r <- L1 sz (power' sz (2 * s1+n1) (2 * s1+n1+n1+n) sz)
  match r.1 with
  | some u=>pure (.done (some u,lo))
  | none=>do
   modify fun s=>setPending s ((pendingOf s).modify ((pendingOf s).size - 1) fun x=>(x.1,x.2.1,power' sz (2 * s1+n1) (2 * s1+n1+n1+n) sz))
   modify fun s=>setPending s ((pendingOf s).push (lo,n,0))
   pure (.yield (none,lo+n))
 | _=>do
  modify fun s=>setPending s ((pendingOf s).push (lo,n,0))
  pure (.yield (none,lo+n))
def L3 (sz mr lo:Nat):StateT SortSt Sem (ForInStep RS):=if lo >= sz then pure (.done (none,lo)) else do
 match <- countRun' lo (sz - lo) with
 | some n=>
  if n < mr then
   liftM (rule "list.sort.binary-insertion")
   let q <- binarySort' lo (min (sz - lo) mr) n
   if (!q)=true then pure (.done (some (),lo)) else jn sz lo (min (sz - lo) mr)
  else jn sz lo n
 | _=>pure (.done (some (),lo))
def L4 (sz:Nat):StateT SortSt Sem (Option Unit × Unit):=forIn [0:sz] ((none,()):Option Unit × Unit) fun _ _=>do
 let z <- get
 if (pendingOf z).size<=1 then pure (.done (none,())) else do
  let q <- mergeAt' (if ((if (pendingOf z).size - 2 > 0 then (pendingOf z)[(pendingOf z).size - 2 - 1]?.map (·.2.1) else none).any (· < ((pendingOf z)[(pendingOf z).size - 2+1]?.elim 0 (·.2.1))))=true then (pendingOf z).size - 2 - 1 else (pendingOf z).size - 2)
  if (!q)=true then pure (.done (some (),())) else pure (.yield (none,()))
theorem ay7:sortRuns'=(do
 let z <- get
 let r <- (forIn [0:(arrOf z).size] ((none,0):RS) fun _ r=>L3 (arrOf z).size (minRun' (arrOf z).size (arrOf z).size 0) r.2)
 match r.1 with
 | some u=>pure u
 | none=>do
  let q <- L4 (arrOf z).size
  match q.1 with
  | some u=>pure u
  | none=>pure ()):=by kernel_rfl
theorem L5 {lo nn:Nat} (n1:0 < nn) {pd:Array (Nat × Nat × Nat)}{a:Array Keyed} (r:Rn rk a (sk pd) lo) (u:Up rk a lo (lo+nn)):Rn rk a (sk (pd.push (lo,nn,0))) (lo+nn):=by
 have e:sk (pd.push (lo,nn,0))=sk pd ++ [(lo,nn)]:=by simp [sk]
 refine⟨by rw [e]; exact r.ch.join ⟨rfl,n1,rfl⟩,fun q hq=>?_⟩
 rw [e] at hq
 rcases bb6.mp hq with z | z
 ·exact r.up q z
 ·rw [aY3] at z
  subst z
  exact u
theorem L6 (c:cB prog w A E s κ Ok rk) (o:bH Ok a0) (b:SB κ a0 pd st) {lo n:Nat}{Q:ForInStep RS->SortSt->Prop} (n1:1<=n) (n2:lo+n<=a0.size) (rn:Rn rk (arrOf st) (sk pd) lo) (u:Up rk (arrOf st) lo (lo+n))
  (h:∀ pd' st',SB κ a0 pd' st'->Rn rk (arrOf st') (sk pd') (lo+n)->Q (.yield (none,lo+n)) st'):wpS (model prog w) A E s (jn a0.size lo n) Q st:=by
 unfold jn
 refine aY4 (wpS_get ?_)
 rw [b.pd]
 cases hb:pd.back? with
 | none=>exact aY4 (wpS_modify (aZ2 (h (pd.push (lo,n,0)) _ ⟨b.pm,b.kd,b.ok,by show (pendingOf st).push _=_; rw [b.pd]⟩ (L5 n1 rn u))))
 | some q=>
  obtain ⟨s1,m1,q3⟩:=q
  dsimp only
  generalize power' a0.size (2 * s1+m1) (2 * s1+m1+m1+n) a0.size=pw
  unfold L1
  refine aY4 (bl3 (bf4
   (I:=fun _ r st'=>r=(none,())/\∃ pd,SB κ a0 pd st'/\Rn rk (arrOf st') (sk pd) lo/\Up rk (arrOf st') lo (lo+n))
   (Q:=fun r st'=>r=(none,())/\∃ pd,SB κ a0 pd st'/\Rn rk (arrOf st') (sk pd) lo/\Up rk (arrOf st') lo (lo+n)) ?_ (fun _ _ z=>z) ⟨rfl,pd,b,rn,u⟩) ?_)
  ·rintro t r st4 _ ht ⟨rfl,pd4,b4,r4,u4⟩
   refine aY4 (wpS_get ?_)
   rw [b4.pd]
   cases ho:(if pd4.size > 1 then pd4[pd4.size - 2]? else none) with
   | none=>exact aZ2 ⟨rfl,pd4,b4,r4,u4⟩
   | some z=>
    obtain ⟨z1,z2,z3⟩:=z
    have h1:pd4.size > 1:=by
     by_cases y:pd4.size > 1
     ·exact y
     ·rw [if_neg y] at ho; cases ho
    dsimp only
    by_cases hp:z3<=pw
    ·rw [if_pos hp]
     exact aZ2 ⟨rfl,pd4,b4,r4,u4⟩
    ·rw [if_neg hp]
     refine aY4 (L0 c o b4 (by omega) (by omega) r4 fun pd5 st5 b5 _ r5 f5=>?_)
     exact aZ2 ⟨rfl,pd5,b5,r5,fun i j hi hij hj=>by rw [f5 i hi,f5 j (by omega)]; exact u4 i j hi hij hj⟩
  ·rintro r st4 ⟨rfl,pd4,b4,r4,u4⟩
   refine aY4 (wpS_modify (aY4 (wpS_modify (aZ2 ?_))))
   have e:sk (pd4.modify (pd4.size - 1) fun x=>(x.1,x.2.1,pw))=sk pd4:=by
    unfold sk
    rw [Array.toList_modify]
    apply List.ext_getElem?
    intro t
    rw [aZ3,aZ3,List.getElem?_modify]
    cases pd4.toList[t]? with
    | none=>simp
    | some v=>by_cases y:pd4.size - 1=t <;> simp [y]
   refine h ((pd4.modify (pd4.size - 1) fun x=>(x.1,x.2.1,pw)).push (lo,n,0)) _ ⟨b4.pm,b4.kd,b4.ok,?_⟩ (L5 n1 (by rw [e]; exact r4) u4)
   show ((pendingOf st4).modify ((pendingOf st4).size - 1) fun x=>(x.1,x.2.1,pw)).push _=_
   rw [b4.pd]
theorem ay8 (c:cB prog w A E s κ Ok rk) (o:bH Ok a0) (b:SB κ a0 #[] st) {Q:Unit->SortSt->Prop} (h2:1<=a0.size)
  (h:∀ st',(arrOf st').Perm a0->failedOf st'=none->Up rk (arrOf st') 0 a0.size->Q () st'):wpS (model prog w) A E s sortRuns' Q st:=by
 rw [ay7]
 refine aY4 (wpS_get ?_)
 rw [b.sz]
 generalize minRun' a0.size a0.size 0=mr
 refine aY4 (bl3 (bf4
  (I:=fun x r st'=>∃ lo pd,r=(none,lo)/\x<=lo/\lo<=a0.size/\SB κ a0 pd st'/\Rn rk (arrOf st') (sk pd) lo)
  (Q:=fun r st'=>∃ pd,r=(none,a0.size)/\SB κ a0 pd st'/\Rn rk (arrOf st') (sk pd) a0.size) ?_ ?_ ⟨0,#[],rfl,aX7 _,bc6 _,b,⟨rfl,fun r hr=>absurd hr (by simp [sk])⟩⟩) ?_)
 ·rintro x r st1 _ hx ⟨lo,pd,rfl,xl,lz,b1,rn⟩
  unfold L3
  dsimp only
  by_cases hd:lo >= a0.size
  ·rw [if_pos hd]
   have e:lo=a0.size:=by omega
   subst e
   exact aZ2 ⟨pd,rfl,b1,rn⟩
  ·rw [if_neg hd]
   refine aY4 (ax1 c o b1 (by omega) (by omega) fun n st2 b2 n1 n2 u2 l2=>?_)
   have rn2:=rn.same l2
   dsimp only
   by_cases hmr:n < mr
   ·rw [if_pos hmr]
    refine aY4 (wpS_lift (bj9 ⟨rfl,?_⟩))
    refine aY4 (ax2 c o b2 (by omega) (by omega) u2 fun st3 b3 u3 l3=>?_)
    rw [if_neg (by decide)]
    exact L6 c o b3 (by omega) (by omega) (rn2.same l3) u3 fun pd' st' b' r'=>⟨_,pd',rfl,by omega,by omega,b',r'⟩
   ·rw [if_neg hmr]
    exact L6 c o b2 n1 (by omega) rn2 u2 fun pd' st' b' r'=>⟨lo+n,pd',rfl,by omega,by omega,b',r'⟩
 ·rintro r st1 ⟨lo,pd,rfl,xl,lz,b1,rn⟩
  have e:lo=a0.size:=by omega
  subst e
  exact⟨pd,rfl,b1,rn⟩
 ·rintro r st1 ⟨pd,rfl,b1,rn⟩
  dsimp only
  unfold L4
  refine aY4 (bl3 (bf4
   (I:=fun t r st'=>r=(none,())/\∃ pd,SB κ a0 pd st'/\Rn rk (arrOf st') (sk pd) a0.size/\(pd.size+t<=a0.size ∨ pd.size<=1))
   (Q:=fun r st'=>r=(none,())/\∃ pd,SB κ a0 pd st'/\Rn rk (arrOf st') (sk pd) a0.size/\pd.size<=1) ?_ ?_ ⟨rfl,pd,b1,rn,.inl (by have:=rn.ch.len; rw [qJ] at this; omega)⟩) ?_)
  ·rintro t r st2 _ ht ⟨rfl,pd,b2,rn2,pr⟩
   refine aY4 (wpS_get ?_)
   rw [b2.pd]
   by_cases h1:pd.size<=1
   ·rw [if_pos h1]
    exact aZ2 ⟨rfl,pd,b2,rn2,h1⟩
   ·rw [if_neg h1]
    refine aY4 (L0 c o b2 ?_ (aX7 _) rn2 fun pd' st3 b3 sz3 rn3 _=>?_)
    ·split <;> split <;> omega
    ·exact aZ2 ⟨rfl,pd',b3,rn3,by omega⟩
  ·rintro r st2 ⟨rfl,pd,b2,rn2,pr⟩
   exact⟨rfl,pd,b2,rn2,by omega⟩
  ·rintro r st2 ⟨rfl,pd,b2,rn2,pr⟩
   refine aZ2 (h st2 b2.pm b2.ok ?_)
   have ch:=rn2.ch
   have up:=rn2.up
   rw [<- qJ] at pr
   cases e:sk pd with
   | nil=>rw [e] at ch; exact absurd (show 0=a0.size from ch) (by omega)
   | cons r l=>
    rw [e] at ch up pr
    have el:l = []:=List.eq_nil_of_length_eq_zero (by have:=pr; rw [aZ7] at this; omega)
    subst el
    obtain ⟨p,n⟩:=r
    obtain ⟨q1,q2,q3⟩:=ch
    have q1:p=0:=q1
    have q3:0+n=a0.size:=q3
    subst q1
    have:=up (0,n) (by simp)
    rw [<- q3]; exact this
end SO
namespace L2
open PySem PySem.Spec PyProof.Rows SO
abbrev eI (h:Heap) (a:Addr) (vs:List Value):Heap:=((h.update a (Obj.mapSeq fun _=>#[])).push (seqObj "tuple" vs.toArray 0)).push (seqObj "list" #[] 0)
abbrev eY (h:Heap) (vs:List Value):Heap:=((h.push (seqObj "list" #[] 0)).update h.objs.size (Obj.mapSeq (· ++ vs.toArray))).push (seqObj "list" vs.toArray 0)
theorem ay9 {h:Heap}{vs:List Value}{b:Addr}{o:Obj} (e:h.get? b=some o):(eY h vs).get? b=some o:=by
 have l:=aY6 e
 refine aX2 _ ?_
 rw [Heap.get?_update_ne _ _ _ _ (ba2 l)]
 exact aX2 _ e
theorem az0 {h:Heap}{vs:List Value}{a b:Addr}{o:Obj} (hb:b ≠ a) (e:h.get? b=some o):(eI h a vs).get? b=some o:=by
 refine aX2 _ (aX2 _ ?_)
 rw [Heap.get?_update_ne _ _ _ _ hb]; exact e
theorem az1 {prog:Program}{w:World}{A:Around}{E:Value->Shared->Prop}{s:Shared}{a:Addr}{vs:List Value}{n:Nat}{P:PySem.Fin->Shared->Prop}{κ:SortKind}{Ok:Keyed->Prop}{rk:Keyed->Int}
  (e:s.heap.get? a=some (seqObj "list" vs.toArray n)) (h2:2<=vs.length) (big:vs.length<=sizeLine)
  (hk:∀ Q:SortKind->Shared->Prop,Q κ { s with heap:=eI s.heap a vs }->wpAny (model prog w) A (keyKind' vs.toArray) Q E { s with heap:=eI s.heap a vs })
  (c:cB prog w A E { s with heap:=eI s.heap a vs } κ Ok rk) (o:∀ v ∈ vs,Ok (v,v))
  (q:∀ out:List Value,out.Perm vs->out.Pairwise (fun u v=>rk (u,u)<=rk (v,v))->P (.done (.ret .none)) { s with heap:=sortedHeap s.heap a vs out.toArray }):wpAny (model prog w) A (Builtin.«list.sort» ⟨[.ref a],[]⟩) P E s:=by
 have la:=aY6 e
 have cc : ¬ vs.toArray.size < 2:=by simpa using h2
 obtain ⟨k,ek⟩:∃ k,(s.heap.update a (Obj.mapSeq fun _=>#[])).get? a=some (seqObj "list" #[] k):=⟨_,get?_update_seq e fun _=>#[]⟩
 have there:(eI s.heap a vs).get? a=some (seqObj "list" #[] k):=aX2 _ (aX2 _ ek)
 rw [list_sort_plain]
 apply aX0
 apply listItems_at e rfl
 apply aX0
 refine listUpdate_at e rfl ?_ (by simpa using big) (bc6 _)
 apply aX0
 apply seqEpoch_at ek rfl
 apply aX0
 refine wpAny_newTuple ?_ big
 apply aX0
 refine wpAny_newList ?_ (bc6 _)
 apply bi9
 simp only [cc,be3]
 apply aX0
 refine hk _ ?_
 have zl:(vs.toArray.zip vs.toArray).toList=vs.zip vs:=by simp
 apply aX0
 refine bg0 (ay8 (a0:=vs.toArray.zip vs.toArray) (Q:=fun _ st'=>(arrOf st').Perm (vs.toArray.zip vs.toArray)/\failedOf st'=none/\Up rk (arrOf st') 0 (vs.toArray.zip vs.toArray).size) c (fun x hx=>?_) ⟨Array.Perm.refl _,rfl,rfl,rfl⟩ (by simp; omega) fun st' a1 a2 a3=>⟨a1,a2,a3⟩) ?_ fun _ _ z=>z
 ·have hx':x ∈ vs.zip vs:=by rw [<- zl]; exact Array.mem_toList_iff.mpr hx
  obtain ⟨y1,y2⟩:=mem_zip_self hx'
  have:=o x.1 y2
  have ex:x=(x.1,x.1):=Prod.ext rfl y1.symm
  rw [ex]; exact this
 ·rintro ⟨⟨⟩,st'⟩ s' ⟨rfl,pm,ok,up⟩
  have lp:(arrOf st').toList.Perm (vs.zip vs):=by rw [<- zl]; exact Array.perm_iff_toList_perm.mp pm
  have out:(arrOf st').map (·.2)=((arrOf st').toList.map (·.2)).toArray:=by apply Array.toList_inj.mp; rw [Array.toList_map]
  have op:((arrOf st').toList.map (·.2)).Perm vs:=by
   have:=lp.map (·.2)
   rw [p5] at this; exact this
  have sz:(arrOf st').size=vs.length:=by rw [pm.size_eq]; simp
  dsimp only
  apply aX0
  apply seqEpoch_at there rfl
  apply aX0
  refine listUpdate_at there rfl ?_ (bc6 _) (by rw [Array.size_map,sz]; exact Nat.le_succ_of_le big)
  rw [ok]
  simp only [bne_self_eq_false,aZ6,be3]
  refine aX8 ?_
  have hq:=q _ op ?_
  ·rw [<- out] at hq; exact hq
  ·rw [bg2,bc7]
   intro i j hi hj hij
   have hi':i < (arrOf st').size:=by simpa using hi
   have hj':j < (arrOf st').size:=by simpa using hj
   have h1:=up i j (bc6 _) (bf3 hij) (by simp; omega)
   rw [bV hi',bV hj'] at h1
   have dg:∀ x ∈ (arrOf st').toList,(x.2,x.2)=x:=fun x hx=>Prod.ext (mem_zip_self (lp.mem_iff.mp hx)).1.symm rfl
   rw [dg _ (bh6 hi),dg _ (bh6 hj)]
   simpa using h1
theorem az2 {prog:Program}{w:World}{A:Around}{E:Value->Shared->Prop}{s:Shared}{l:Addr}{vs:List Value}{Q:Value->Shared->Prop}{κ:SortKind}{Ok:Keyed->Prop}{rk:Keyed->Int}
  (hl:s.heap.IsList l vs.toArray) (h2:2<=vs.length) (big:vs.length<=sizeLine)
  (hk:∀ (A:Around) (E:Value->Shared->Prop) (Q:SortKind->Shared->Prop),Q κ { s with heap:=eI (eY s.heap vs) (s.heap.objs.size+1) vs }->wpAny (model prog w) A (keyKind' vs.toArray) Q E { s with heap:=eI (eY s.heap vs) (s.heap.objs.size+1) vs })
  (c:∀ (A:Around) (E:Value->Shared->Prop),cB prog w A E { s with heap:=eI (eY s.heap vs) (s.heap.objs.size+1) vs } κ Ok rk) (o:∀ v ∈ vs,Ok (v,v))
  (q:∀ out:List Value,out.Perm vs->out.Pairwise (fun u v=>rk (u,u)<=rk (v,v))->Q (.ref (s.heap.objs.size+1)) { s with heap:=sortedAll s.heap vs out.toArray }):wpAny (model prog w) A (call (.builtin "sorted") [.ref l]) Q E s:=by
 apply Calls.call_function_entry kind_sorted plain_sorted entry_sorted (args_sorted1 _)
 simp only [Builtin.«sorted»]
 apply aX0 (m:=checkCount "sorted" 1 1 _)
 apply aX8
 apply aX0
 refine collect_list hl ?_ big
 apply aX0
 refine wpAny_newList ?_ big
 have one:((s.heap.push (seqObj "list" #[] 0)).update s.heap.objs.size (Obj.mapSeq (· ++ vs.toArray))).objs.size=s.heap.objs.size+1:=(Heap.size_update _ _ _).trans (size_push' _ _)
 have at1:(eY s.heap vs).get? (s.heap.objs.size+1)=some (seqObj "list" vs.toArray 0):=one ▸ aY8 _ rfl
 change wpAny _ _ _ _ _ { s with heap:=eY s.heap vs }
 rw [one]
 apply aX0
 apply bi9
 refine be1 slot_list_sort ⟨_,at1,rfl⟩ entry_list_sort ?_ (args_list_sort _)
 exact az1 (s:={ s with heap:=eY s.heap vs }) at1 h2 big (hk _ _) (c _ _) o fun out a1 a2=>⟨_,rfl,aX8 ⟨_,rfl,q out a1 a2⟩⟩
def qK (h:Heap) (B:Int) (x:Keyed):Int:=match x.1 with
 | .ref b=>match h.get? b with
  | some ob=>match ob.data with
   | .seq us _=>numOf (us.getD 0 .none) * B+numOf (us.getD 1 .none)
   | _=>0
  | none=>0
 | _=>0
structure iU (h:Heap) (M:Int) (v:Value) (p q:Int):Prop where
 at_:∃ b ob us n,v = .ref b/\h.get? b=some ob/\ob.cls = .type "tuple"/\ob.data = .seq (List.toArray us) n/\IntsAre us [p,q]
 lo : -M<=q
 hi:q<=M
theorem iU.rk {h:Heap}{M B:Int}{x:Keyed}{p q:Int} (z:iU h M x.1 p q):qK h B x=p * B+q:=by
 obtain ⟨b,ob,us,n,e1,e2,_,e4,e5⟩:=z.at_
 cases e5 with
 | cons _ t e6=>cases e6 with
  | cons _ u e7=>cases e7; unfold qK; rw [e1]; dsimp only; rw [e2]; dsimp only; rw [e4]; rfl
theorem L7 {p q p' q' M:Int} (h1 : -M<=q) (h2:q<=M) (h3 : -M<=q') (h4:q'<=M):HT.c9 [p,q] [p',q']=decide (p * (2 * M+1)+q < p' * (2 * M+1)+q'):=by
 rw [HT.j7]
 have mm:∀ {a b:Int},a < b->a * (2 * M+1)+(2 * M+1)<=b * (2 * M+1):=fun {a b} z=>by
  have:=Int.mul_le_mul_of_nonneg_right (show a+1<=b by omega) (show 0<=2 * M+1 by omega)
  rw [Int.add_mul,Int.one_mul] at this
  exact this
 by_cases e:p=p'
 ·subst e
  rw [if_pos rfl,HT.j7]
  by_cases e2:q=q'
  ·subst e2
   rw [if_pos rfl,HT.sT,aX3 (by omega)]
  ·rw [if_neg e2]
   by_cases l:q < q'
   ·rw [aX4 l,aX4 (by omega)]
   ·rw [aX3 l,aX3 (by omega)]
 ·rw [if_neg e]
  by_cases l:p < p'
  ·have:=mm l
   rw [aX4 l,aX4 (by omega)]
  ·have:=mm (show p' < p by omega)
   rw [aX3 l,aX3 (by omega)]
theorem az3 {prog:Program}{w:World}{A:Around}{E:Value->Shared->Prop}{s:Shared}{M:Int}:cB prog w A E s (tuples' true) (fun x=>∃ p q,iU s.heap M x.1 p q) (qK s.heap (2 * M+1)):=by
 rintro x y ⟨p,q,z⟩ ⟨p',q',z'⟩ st Q hk hq
 rw [z.rk,z'.rk] at hq
 rw [<- L7 z.lo z.hi z'.lo z'.hi] at hq
 obtain ⟨b,ob,us,n,e1,e2,e3,e4,e5⟩:=z.at_
 obtain ⟨b',ob',us',n',e1',e2',e3',e4',e5'⟩:=z'.at_
 rw [lt'_eq]
 refine aY4 (wpS_get ?_)
 rw [hk,e1,e1']
 refine aY4 (wpS_lift (wpAny_attempt (PySem.W.kat_lt e2 e4 e2' e4' ?_)))
 have:=zX (prog:=prog) (w:=w) (A:=A) (s:=s) (Q:=fun a s'=>s'=s/\wpS (model prog w) A E s (pure (some a)) Q st) 0 e5 e5' ⟨rfl,aZ2 hq⟩
 simpa using this
theorem az4 {vs vs':List Value} (h:vs.Perm vs'):∀ {xs:List V},aI xs vs->∃ xs',xs'.Perm xs/\aI xs' vs':=by
 induction h with
 | nil=>intro xs r; exact⟨xs,List.Perm.refl _,r⟩
 | cons v _ ih=>
  intro xs r
  cases r with
  | cons r t=>
   obtain ⟨xs',p,r'⟩:=ih t
   exact⟨_ :: xs',p.cons _,.cons r r'⟩
 | swap u v l=>
  intro xs r
  cases r with
  | cons r t=>cases t with
   | cons r2 t2=>exact⟨_,List.Perm.swap _ _ _,.cons r2 (.cons r t2)⟩
 | trans _ _ ih1 ih2=>
  intro xs r
  obtain ⟨x1,p1,r1⟩:=ih1 r
  obtain ⟨x2,p2,r2⟩:=ih2 r1
  exact⟨x2,p2.trans p1,r2⟩
theorem L8 {α:Type} (f:α->Int):∀ l:List α,∃ M:Int,∀ y ∈ l,-M<=f y/\f y<=M
 | []=>⟨0,fun _ h=>nomatch h⟩
 | x :: l=>by
  obtain ⟨M,h⟩:=L8 f l
  refine⟨max M (max (f x) (- f x)),fun y hy=>?_⟩
  rcases aX9.mp hy with e | e
  ·subst e; omega
  ·have:=h y e; omega
def L9 (K:PySem.W.Frag):List V->Hp->VK->Prop:=fun xs H Q=>∃ (a:Addr) (ys:List V) (key:V->List Int),xs = [.ref a]/\aJ K H a ys/\ys.length<=4096/\(∀ y ∈ ys,∃ b,y = .ref b/\aG K H b ((key y).map V.int)/\(key y).length=2)/\
 ∀ l (zs:List V),H l=none->zs.Perm ys->zs.Pairwise (fun u v=>HT.c9 (key v) (key u)=false)->Q (.ref l) (upd H l (.lst zs))
theorem az5 {X:Cx}:cH X (.builtin "sorted") (L9 X.K):=by
 intro pins s σ H xs us Q I r h
 obtain ⟨a,ys,key,rfl,hs,hz4,hk,q⟩:=h
 obtain ⟨u,rfl,ru⟩:=fS r
 cases ru
 obtain ⟨its,rv,p,hz⟩:=I.list hs
 have hl:=rv.length
 have hn:s.heap.objs.size<=s.heap.objs.size+1:=Nat.le_succ _
 by_cases h2:its.length < 2
 ·refine an4 p.isList h2 ?_
  obtain ⟨e,he⟩:=sortedAll_at s.heap its its.toArray
  refine⟨.ref (s.heap.objs.size+1),upd H (s.heap.objs.size+1) (.lst ys),I.laid (t':=s.toks) (fun _ _=>sortedAll_old) hn ⟨hz,its,e,rv,he⟩,rfl,q _ ys (I.hok.fresh hn) (List.Perm.refl _) ?_⟩
  match ys,hl with
  | [],_=>exact List.Pairwise.nil
  | [_],_=>exact ba8 _ _
  | _ :: _ :: _,hl=>simp at hl; omega
 ·obtain ⟨M,hM⟩:=L8 (fun y=>(key y).getD 1 0) ys
  have pv:∀ {y:V}{v:Value},aU y v->y ∈ ys->∃ pp qq,key y = [pp,qq]/\iU (eI (eY s.heap its) (s.heap.objs.size+1) its) M v pp qq:=fun {y v} ry hy=>by
   obtain ⟨b,rfl,sq,l2⟩:=hk y hy
   cases ry
   obtain ⟨us,ru,⟨ob,e1,c1,n1,d1⟩,_⟩:=I.tuple sq
   have ia:=k6 ru
   have mm:=hM _ hy
   match hkk:key (V.ref b),l2 with
   | [pp,qq],_=>
    rw [hkk] at ia mm
    exact⟨pp,qq,rfl,⟨b,ob,us,n1,rfl,az0 (ba2 (Nat.lt_succ_of_lt (aY6 e1))) (ay9 e1),c1,d1,ia⟩,mm.1,mm.2⟩
  have pvs:∀ {xs:List V}{vs:List Value},aI xs vs->(∀ y ∈ xs,y ∈ ys)->∀ v ∈ vs,∃ pp qq,iU (eI (eY s.heap its) (s.heap.objs.size+1) its) M v pp qq:=by
   intro xs vs r
   induction r with
   | nil=>intro _ v hv; cases hv
   | cons rx rt ih=>
    intro hh v hv
    rcases aX9.mp hv with z | z
    ·subst z
     obtain ⟨pp,qq,_,z⟩:=pv rx (hh _ aY1)
     exact⟨pp,qq,z⟩
    ·exact ih (fun y hy=>hh y (aY2 _ hy)) v z
  have firsts:∀ {vs:List Value},(∀ v ∈ vs,∃ pp qq,iU (eI (eY s.heap its) (s.heap.objs.size+1) its) M v pp qq)->∃ fs:List Value,PySem.W.KatTups (eI (eY s.heap its) (s.heap.objs.size+1) its) vs fs/\fs.length=vs.length/\∀ v ∈ fs,∃ i t,v=Value.int i t:=by
   intro vs
   induction vs with
   | nil=>intro _; exact⟨[],PySem.W.KatTups.nil,rfl,fun _ z=>nomatch z⟩
   | cons v vs ih=>
    intro hh
    obtain ⟨fs,t1,t2,t3⟩:=ih fun y hy=>hh y (aY2 _ hy)
    obtain ⟨pp,qq,z⟩:=hh v aY1
    obtain ⟨b,ob,us,n,rfl,e2,e3,e4,e5⟩:=z.at_
    cases e5 with
    | cons _ t e6=>exact⟨Value.int pp t :: fs,PySem.W.KatTups.cons e2 e3 e4 (by simp) t1,by simp [t2],fun v hv=>(aX9.mp hv).elim (fun z=>⟨pp,t,z⟩) (t3 v)⟩
  have allp:=pvs rv fun _ h=>h
  obtain ⟨fs,t1,t2,t3⟩:=firsts allp
  refine az2 (κ:=tuples' true) (Ok:=fun x=>∃ pp qq,iU (eI (eY s.heap its) (s.heap.objs.size+1) its) M x.1 pp qq) (rk:=qK (eI (eY s.heap its) (s.heap.objs.size+1) its) (2 * M+1)) p.isList (by omega) (by rw [<- hl]; exact hz)
   (fun A E Q hQ=>?_) (fun A E=>az3 (s:={ s with heap:=eI (eY s.heap its) (s.heap.objs.size+1) its })) (fun v hv=>allp v hv) fun out pm so=>?_
  ·refine PySem.W.kat_kind (T:=.type "int") t1 (by omega) (fun v hv=>?_) (by decide) ?_
   ·obtain ⟨i,t,rfl⟩:=t3 v hv
    exact PySem.W.Looks.now
   ·have eT:(Value.type "int" != Value.type "tuple")=true:=by decide
    rw [eT]; exact hQ
  ·obtain ⟨zs,pz,rz⟩:=az4 pm.symm rv
   obtain ⟨e,he⟩:=sortedAll_at s.heap its out.toArray
   refine⟨.ref (s.heap.objs.size+1),upd H (s.heap.objs.size+1) (.lst zs),I.laid (t':=s.toks) (fun _ _=>sortedAll_old) hn ⟨by rw [pz.length_eq]; exact hz,out,e,rz,he⟩,rfl,q _ zs (I.hok.fresh hn) pz ?_⟩
   have lz:=rz.length
   rw [bc7]
   intro i j hi hj hij
   have s1:=bc7.mp so i j (by omega) (by omega) hij
   have gi:=tS i hi rz
   have gj:=tS j hj rz
   simp only [aZ1,aX5 hi,aX5 hj,aX5 (show i < out.length by omega),aX5 (show j < out.length by omega),Option.getD_some] at gi gj
   obtain ⟨pi,qi,ki,vi⟩:=pv gi (pz.mem_iff.mp (bh6 hi))
   obtain ⟨pj,qj,kj,vj⟩:=pv gj (pz.mem_iff.mp (bh6 hj))
   rw [iU.rk (x:=(out[i],out[i])) vi,iU.rk (x:=(out[j],out[j])) vj] at s1
   rw [ki,kj,L7 vj.lo vj.hi vi.lo vi.hi]
   exact aX3 (by omega)
end L2
namespace L2
open PySem PySem.Spec PyProof.Rows
theorem bI.at {P:Program}{w:World}{H:Hp}{h:Heap}{a:Addr}{o:HO} (x:bI P w H h a o):∃ ob,h.get? a=some ob:=by
 cases o with
 | lst xs=>obtain ⟨_,_,_,_,e⟩:=x; exact⟨_,e⟩
 | tup xs=>obtain ⟨_,_,_,⟨_,e,_⟩,_⟩:=x; exact⟨_,e⟩
 | dK kvs=>obtain ⟨_,_,_,_,_,_,_,e,_⟩:=x; exact⟨_,e⟩
 | dT kvs=>obtain ⟨_,_,_,_,_,_,_,e,_⟩:=x; exact⟨_,e⟩
 | set S n=>obtain ⟨_,_,_,_,e,_⟩:=x; exact⟨_,e⟩
 | ins C dx fs=>obtain ⟨_,_,_,e,_⟩:=x; exact⟨_,e⟩
 | own y=>exact x
 | xd fs=>obtain ⟨_,⟨_,_,_,e,_⟩,_⟩:=x; exact⟨_,e⟩
 | rng lo hi=>obtain ⟨_,_,_,e⟩:=x; exact⟨_,e⟩
 | frz ob u=>obtain ⟨e,_⟩:=x; exact⟨_,e⟩
 | tbl ps=>exact⟨_,x⟩
 | met f y=>exact⟨_,x⟩
 | ext φ=>exact x.2.1
structure vJ (P:Program) (w:World) (outer:List Env) (H:Hp) (s:Shared) (H':Hp) (B:Heap) (a C:Addr) (s':Shared):Prop where
 os:s'.os=s.os
 bare:AllBare s'.gens
 un:Un (bU outer) [] H H' s.heap s'.heap
 hok:bL P w H' s'.heap
 fly:∃ a0,Heap.FlyingW B outer a (.ref C) a0 s'.heap
 b0:∀ b o,s.heap.get? b=some o->b ∉ bU outer->∃ o',B.get? b=some o'
 b1:∀ b o,s.heap.get? b=some o->H b=none->b ∉ bU outer->B.get? b=some o
 b2:∀ b u o,H' b=some u->s'.heap.get? b=some o->B.get? b=some o
def dY (P:Program) (w:World):fU:=fun outer H s E e s'=>∃ (H':Hp) (B:Heap) (a C:Addr),e = .ref a/\vJ P w outer H s H' B a C s'/\E (.ref C) none H'
section
variable {P : Program} {w : World} {outer : List Env} {H H' : Hp} {s s' : Shared} {B h2 : Heap} {a C : Addr}
theorem vJ.hok2 (f:vJ P w outer H s H' B a C s') (k:B.StaysIn h2):bL P w H' h2:=fun b u e=>
 (f.hok b u e).stay (fun c v hc q=>by
  rcases hc with z | z
  ·subst z; exact k _ _ (f.b2 _ _ _ e q)
  ·exact k _ _ (f.b2 _ _ _ z q)) (fun _ q=>q) fun _ _ q=>q
end
section
variable {P : Program} {w : World} {K : PySem.W.Frag} {mg : Str → Option Value} {base : Heap} {N : List Str} {qual : Str} {scope : Scope} {f : Addr} {cd : Value} {A : Around} {outer : List Env} {s₀ : Shared} {H₀ : Hp} {E₀ E₁ : XK}
theorem qL {pins:List (Addr × Obj)}{σ:St}{H:Hp}{s:Shared} (I:a6 (cU (dY P w) P w K mg base N qual scope f cd A outer s₀ H₀ E₀) pins σ H s) {b:Addr}{o:Obj} (e:s₀.heap.get? b=some o) (n:b ∉ bU outer) :
  b ∉ bU (envOfC qual scope s₀.heap.objs.size f cd :: outer):=fun z=>by
 rcases aX9.mp (I.stkSub b z) with y | y
 ·have l:=aY6 e
  have y:b=s₀.heap.objs.size:=y
  exact absurd l (by rw [y]; exact bd7 _)
 ·exact n y
theorem az6 (hE:∀ c d H',E₁ c d H'->E₀ c d H'):mO (dY P w) (cU (dY P w) P w K mg base N qual scope f cd A outer s₀ H₀ E₀) E₁:=by
 intro pins σ H s e s' I hx
 obtain ⟨H',B,a,C,e1,fl,q⟩:=hx
 subst e1
 have I':=I.call' fl.os fl.un fl.hok fl.bare (ch:=[]) (fun b z=>absurd z (by simp))
 obtain ⟨a0,fly⟩:=fl.fly
 refine wpAny_leaves_onW I.ok.frames rfl fly fun h' fly' up=>?_
 have slot:∀ b o,s₀.heap.get? b=some o->b ∈ bU outer->∃ sl,h'.get? b=some { o with slots:=sl }:=fun b o e hb=>by
  obtain ⟨sl,e1⟩:=I'.base.slot b o e (I.ok.frf b hb) hb (fun z=>nomatch z)
  obtain ⟨_,o2,e2,nf⟩:=I.ok.funs.mem hb
  rw [show (cU (dY P w) P w K mg base N qual scope f cd A outer s₀ H₀ E₀).s₀=s₀ from rfl,e] at e2
  cases e2
  obtain ⟨sl',e3⟩:=up b _ e1 nf
  exact⟨sl',e3⟩
 have old:∀ b o,s₀.heap.get? b=some o->H₀ b=none->b ∉ bU outer->B.get? b=some o:=fun b o e n hb=>
  fl.b1 b o (I.base.keep b o e n hb (fun z=>nomatch z)) (I.base.free b o e n (fun z=>nomatch z)) (qL I e hb)
 have old0:∀ b o,s₀.heap.get? b=some o->b ∉ bU outer->∃ o',B.get? b=some o':=fun b o e hb=>by
  obtain ⟨o1,e1⟩:=I.base.there b o e (fun z=>nomatch z)
  exact fl.b0 b o1 e1 (qL I e hb)
 refine⟨H',B,a,C,rfl,⟨I'.os,I'.bare,⟨fun b o e n hb _=>fly'.1 _ _ (old b o e n hb),fun b o e n hb _=>slot b o e hb,fun b o e n hx=>I'.base.free b o e n hx,fun b o e _=>?_,I'.base.tups,I'.base.frzs,I'.base.tbls⟩,fl.hok2 fly'.1,⟨a0,fly'⟩,old0,old,fun b u o e h=>?_⟩,hE _ _ _ q⟩
 ·by_cases hb:b ∈ bU outer
  ·obtain ⟨sl,e1⟩:=slot b o e hb
   exact⟨_,e1⟩
  ·obtain ⟨o',e1⟩:=old0 b o e hb
   exact⟨o',fly'.1 _ _ e1⟩
 ·obtain ⟨ob,e1⟩:=(fl.hok b u e).at
  have e2:=fl.b2 b u ob e e1
  have e3:=fly'.1 _ _ e2
  have h:h'.get? b=some o:=h
  rw [h] at e3; cases e3; exact e2
theorem az7 {pins:List (Addr × Obj)}{σ:St}{H:Hp}{s:Shared}{h':Heap}{e C:Addr}{args:List Value} (I:a6 (cU (dY P w) P w K mg base N qual scope f cd A outer s₀ H₀ E₀) pins σ H s) (mx:Heap.MadeExcOf s.heap h' e (.ref C) args) (q:E₀ (.ref C) none H) :
  (cU (dY P w) P w K mg base N qual scope f cd A outer s₀ H₀ E₀).xe (.ref e) { s with heap:=h' }:=by
 have tr:∀ b u,H b=some u->b ∉ bU (envOfC qual scope s₀.heap.objs.size f cd :: outer):=fun b u z n=>by
  rw [I.stkFree b n] at z; cases z
 have inB:∀ b o,s.heap.get? b=some o->b ∉ bU (envOfC qual scope s₀.heap.objs.size f cd :: outer)->(PySem.W.hideAll s.heap (bU (envOfC qual scope s₀.heap.objs.size f cd :: outer))).get? b=some o:=fun b o z n=>PySem.W.hideAll_get _ z n
 refine wpAny_leaves_madeW (base:=PySem.W.hideAll s.heap (bU (envOfC qual scope s₀.heap.objs.size f cd :: outer))) I.ok.frames rfl (fun b o z=>PySem.W.of_hideAll _ z) (PySem.W.funFrames_hide I.stack fun env he b hb=>List.mem_filterMap.mpr ⟨env,he,hb⟩) mx fun h'' t fly _ _ up=>?_
 have slot:∀ b o,s₀.heap.get? b=some o->b ∈ bU outer->∃ sl,h''.get? b=some { o with slots:=sl }:=fun b o e hb=>by
  obtain ⟨sl,e1⟩:=I.base.slot b o e (I.ok.frf b hb) hb (fun z=>nomatch z)
  obtain ⟨_,o2,e2,nf⟩:=I.ok.funs.mem hb
  rw [show (cU (dY P w) P w K mg base N qual scope f cd A outer s₀ H₀ E₀).s₀=s₀ from rfl,e] at e2
  cases e2
  obtain ⟨sl',e3⟩:=up b _ (mx.keeps _ _ e1) nf
  exact⟨sl',e3⟩
 have old:∀ b o,s₀.heap.get? b=some o->H₀ b=none->b ∉ bU outer->(PySem.W.hideAll s.heap (bU (envOfC qual scope s₀.heap.objs.size f cd :: outer))).get? b=some o:=fun b o e n hb=>
  inB b o (I.base.keep b o e n hb (fun z=>nomatch z)) (qL I e hb)
 have old0:∀ b o,s₀.heap.get? b=some o->b ∉ bU outer->∃ o',(PySem.W.hideAll s.heap (bU (envOfC qual scope s₀.heap.objs.size f cd :: outer))).get? b=some o':=fun b o e hb=>by
  obtain ⟨o1,e1⟩:=I.base.there b o e (fun z=>nomatch z)
  exact⟨o1,inB b o1 e1 (qL I e hb)⟩
 refine⟨H,_,e,C,rfl,⟨I.os,I.bare,⟨fun b o e n hb _=>fly.1 _ _ (old b o e n hb),fun b o e n hb _=>slot b o e hb,fun b o e n hx=>I.base.free b o e n hx,fun b o e _=>?_,I.base.tups,I.base.frzs,I.base.tbls⟩,fun b u z=>?_,⟨_,fly⟩,old0,old,fun b u o z h=>?_⟩,q⟩
 ·by_cases hb:b ∈ bU outer
  ·obtain ⟨sl,e1⟩:=slot b o e hb
   exact⟨_,e1⟩
  ·obtain ⟨o',e1⟩:=old0 b o e hb
   exact⟨o',fly.1 _ _ e1⟩
 ·refine (I.hok b u z).stay (fun c v hc y=>?_) (fun _ y=>y) fun _ _ y=>y
  rcases hc with z' | z'
  ·subst z'; exact fly.1 _ _ (inB _ _ y (tr _ _ z))
  ·exact fly.1 _ _ (inB _ _ y (tr _ _ z'))
 ·obtain ⟨ob,e1⟩:=(I.hok b u z).at
  have e2:=inB b ob e1 (tr b u z)
  have e3:=fly.1 _ _ e2
  have h:h''.get? b=some o:=h
  rw [h] at e3; cases e3; exact e2
end
structure m5 (X:Cx) (E:XK):Prop where
 pass:mO (dY X.prog X.w) X E
 made:∀ (pins:List (Addr × Obj)) (σ:St) (H:Hp) (s:Shared) (h':Heap) (e C:Addr) (args:List Value),a6 X pins σ H s->Heap.MadeExcOf s.heap h' e (.ref C) args->E (.ref C) none H->X.xe (.ref e) { s with heap:=h' }
 own:PassesOwn (model X.prog X.w) X.A X.env X.xe
theorem az8 {P:Program}{w:World}{K:PySem.W.Frag}{mg:Str->Option Value}{base:Heap}{N:List Str}{qual:Str}{scope:Scope}{f:Addr}{cd:Value}{A:Around}{outer:List Env}{s₀:Shared}{H₀:Hp}{E₀ E₁:XK} (hE:∀ c d H',E₁ c d H'->E₀ c d H') :
  m5 (cU (dY P w) P w K mg base N qual scope f cd A outer s₀ H₀ E₀) E₁:=
 ⟨az6 hE,fun _ _ _ _ _ _ _ _ I mx q=>az7 I mx (hE _ _ _ q),PassesOwn.leaving⟩
def M0 (E:XK) (C:Addr) (t:TA):TS:=fun _ σ H=>t σ H fun vs H1=>vs.length<=sizeLine/\E (.ref C) none H1
theorem az9 {X:Cx}{E:XK}{x:Str}{C:Addr}{bm:List Value}{B newId initId:String}{np cpos pos:Pos}{e:Expr}{es:List Expr}{t:TA} (hX:m5 X E) (hc:X.calm=true) (O:OwnCls x C bm newId X.mg X.base) (FB:ExcBaseFacts B newId initId bm) (ha:PA X (e :: es) t) (hg:Gl X x)
  (hd:(x == ("__debug__" : Str))=false:=by decide) (he:starEach (e :: es) X.env=(false,eval e X.env) :: starEach es X.env:=by rfl) (hpl:(backTo cpos (starEach es X.env)).any (·.1)=false:=by rfl) :
  PS X (.Raise (some (.Call (.Name x np) (e :: es) [] cpos)) none pos) (M0 E C t):=by
 intro pins s σ H D I h
 obtain ⟨tl,Na,nm,qn,bs,hx,sn,sub,ab,col,dd,k0,k1,k2,k3,k5,mN,hC,hN,hni,T⟩:=O.obj
 refine wpAny_Raise_call_subT (nm:=nm) (q:=qn) (N:=Na) (bs:=bs) (bm:=tl) (hdct:=hx) (sn:=sn) (sub:=sub) (ab:=ab) (col:=col) (dd:=dd) (k0:=k0) (k1:=k1) (k2:=k2) (k3:=k3) (k5:=k5) FB (C:=C) (mN:=mN) (T.hasType FB.hasBase) (I.ok.hd hc) (by rw [he]; show (false || (backTo cpos (starEach es X.env)).any (·.1))=false; rw [hpl]; rfl) hni (sA I hg O.bound ⟨rfl,?_⟩ hd)
 have h1:=ha cpos pins s σ H _ I h
 rw [he] at h1 ⊢
 refine Calls.evalArgs_plain (bg0 h1 (fun us s2 h2=>?_) fun _ _ y=>y)
 obtain ⟨vs,H2,I2,r,hl,q⟩:=h2
 have r:aI vs us:=r
 exact⟨rfl,by show us.length<=sizeLine; rw [<- r.length]; exact hl,I2.bk _ _ hC,hN.keeps I2.bk,T.keeps I2.bk,fun h' e' mx=>hX.made pins σ H2 s2 h' e' C _ I2 mx q⟩
theorem eR.okX {P:Program}{w:World}{K:PySem.W.Frag}{mg:Str->Option Value}{base:Heap}{x qual:Str}{st:Stmt}{f:Addr}{fd:FuncData}{N ps:List Str}{k:Nat}{sp:Sp} (F:eR K x qual st f fd) (S:FnScope N ps (aR st)) (len:∀ vs H Q E,sp vs H Q E->vs.length=ps.length)
  (hbody:∀ (cdv:Value) (A:Around) (outer:List Env) (s:Shared) (H:Hp) (vs:List V) (Q:VK) (E:XK),bZ k (A.deeper (envOfC qual (aR st) s.heap.objs.size f cdv))->sp vs H Q E->
   ∃ t,dH (cU (dY P w) P w K mg base N qual (aR st) f cdv A outer s H E) (dP st) t/\t { nx:=fun _ H'=>Q .non H',rt:=Q } (fV N vs) H):cT P w K mg base (dY P w) (k+1) f fd ps sp:=by
 obtain ⟨oc,od,kV,doc,pm,an,cdv,ct,osl,rfl,lk,hcd⟩:=F.ex
 exact yL lk hcd S len fun A outer s H vs Q E hr hsp=>hbody cdv A outer s H vs Q E hr hsp
section
variable {X : Cx} {pins : List (Addr × Obj)} {σ : St} {H H1 H' : Hp} {s s1 s' : Shared} {B h2 : Heap} {a C : Addr}
abbrev Cx.suite (X:Cx) (a:Addr):Cx:={ X with A:=X.A.mark (some (.ref a)),calm:=false,xe:=fun _ _=>False }
end
abbrev TB:=cE->XK->St->Hp->Prop
end L2
namespace Raw
open PySem PySem.W PySem.Calls PyProof.Rows
theorem kY {α β:Type} (f:α->β):∀ (j:Nat) (l:List α),(l.eraseIdx j).map f=(l.map f).eraseIdx j
 | _,[]=>rfl
 | 0,_ :: _=>rfl
 | j+1,x :: r=>by
  show f x :: (r.eraseIdx j).map f=f x :: (r.map f).eraseIdx j
  rw [kY f j r]
section
variable {prog : Program} {w : World} {K : Type} [DecidableEq K] {knd : HeapKind prog w K} {A : Around} {E : Value → Shared → Prop} {s : Shared} {d a : Addr} {k : K} {xs : List (K × Addr × Value)}
def M3 (knd:HeapKind prog w K) (h:Heap) (d:Addr) (xs:List (K × Addr × Value)) (j:Nat):Prop:=∃ o es ep,h.get? d=some o/\o.ExactDict/\o.data = .dict es ep/\es.toList=(xs.eraseIdx j).map (entryOfKey knd)
theorem aA0 {Q:Option DictEntry->Shared->Prop} (hu:knd.room A) (hkey:knd.is s.heap k a) (hm:s.heap.DictOfH knd d xs) (hz:xs.length<=sizeLine) (is:∃ (j:Nat) (p:Addr × Value),xs[j]? = some (k,p))
  (q:∀ (j:Nat) (p:Addr × Value) h',xs[j]? = some (k,p)->M3 knd h' d xs j->Heap.SameBut d s.heap h'->Q (some (entryOfKey knd (k,p))) { s with heap:=h',toks:=s.toks+knd.draws k }):wpAny (model prog w) A (Builtin.Dict.takeOut d (.ref a)) Q E s:=by
 obtain ⟨o,es,ep,e1,e2,e3,e4,e5,e6⟩:=hm
 obtain ⟨j0,p0,h0⟩:=is
 unfold Builtin.Dict.takeOut
 try with_reducible refine bi9 ?_
 apply aX0
 apply knd.pyHash hu hkey
 apply aX0
 refine wpAny_dictFind_heap (s:={ s with toks:=s.toks+knd.draws k }) hu hkey e1 e3 e4 e5 e6 (fun no=>absurd h0 (no j0 p0)) fun j p hj=>?_
 apply aX0
 apply wpAny_dictEntries (s:={ s with toks:=s.toks+knd.draws k }) e1 e3
 rw [entry_at e4 j,hj]
 have sz:=size_of_entries e4
 apply aX0
 refine wpAny_updateDictKeys (hz:=by omega) (s:={ s with toks:=s.toks+knd.draws k }) e1 e3 (aX8 (q j p _ hj ⟨_,_,ep+1,Heap.get?_update_self _ e1 (Obj.isFreed_of_dict (Obj.data_mapDictKeys e3 _)),e2.mapDictKeys _,Obj.data_mapDictKeys e3 _,?_⟩ (bi3 ..)))
 rw [kY,<- e4]
 obtain ⟨l⟩:=es
 simp
end
section
variable {prog : Program} {w : World} {K : Type} [DecidableEq K] (knd : HeapKind prog w K) (d a : Addr)
theorem aA1:MeetsIn prog w (Builtin.«dict.pop» ⟨[.ref d,.ref a],[]⟩) (fun A R s=>knd.room A.in1/\∃ k xs,knd.is s.heap k a/\s.heap.DictOfH knd d xs/\xs.length<=sizeLine/\(∃ (j:Nat) (p:Addr × Value),xs[j]? = some (k,p))/\
  ∀ (j:Nat) (p:Addr × Value) h',xs[j]? = some (k,p)->M3 knd h' d xs j->Heap.SameBut d s.heap h'->R (.ok (.ret p.2)) { s with heap:=h',toks:=s.toks+knd.draws k }):=
 .of_wp fun A R s h=>by
  obtain ⟨hu,k,xs,hk,hm,hz,is,q⟩:=h
  obtain ⟨o,es,ep,e1,e2,e3,e4,e5,e6⟩:=id hm
  have ne:es.isEmpty=false:=by
   obtain ⟨j,p,hj⟩:=is
   have sz:=size_of_entries e4
   have:=(aY5.mp hj).1
   rw [Array.isEmpty_eq_false_iff,ne_eq,<- Array.size_eq_zero_iff]
   omega
  unfold Builtin.«dict.pop»
  apply aX0
  unfold Builtin.Dict.keyAndDefault
  apply aX0
  apply wpAny_notOrdered_dict hm.typeIs
  change wpAny _ _ (pure (d,Value.ref a,none)) _ _ s
  apply aX8
  have kp:(keyPart (Value.ref a)).isSome=false:=rfl
  simp only [kp,aZ6,be3]
  refine aX0 (wpAny_dictEntries e1 e3 (aX0 (aX8 ?_)))
  simp only [ne,aZ6,be3]
  apply aX0
  refine aA0 hu hk hm hz is fun j p h' hj c sb=>?_
  simp only [Option.isNone_some,aZ6,be3]
  exact aX0 (wpAny_letGo (aX8 ⟨p.2,rfl,q j p h' hj c sb⟩))
end
end Raw
namespace L2
open PySem PySem.Spec PyProof.Rows
theorem Paired.erase {α β:Type}{F:α->β->Prop}:∀ (j:Nat) {l:List α}{m:List β},Paired F l m->Paired F (l.eraseIdx j) (m.eraseIdx j)
 | _,_,_,.nil=>.nil
 | 0,_,_,.cons _ t=>t
 | j+1,_,_,.cons r t=>.cons r (Paired.erase j t)
theorem M4 {α β:Type}{F:α->β->Prop}:∀ {l:List α}{m:List β}{i:Nat}{y:β},Paired F l m->m[i]? = some y->∃ x,l[i]? = some x/\F x y
 | _,_,_,_,.nil,e=>by simp at e
 | _,_,0,_,.cons r _,e=>by simp at e; subst e; exact⟨_,rfl,r⟩
 | _,_,i+1,y,.cons _ t,e=>by
  rw [bd6] at e
  obtain ⟨x,h1,h2⟩:=M4 t e
  exact⟨x,by rw [bd6]; exact h1,h2⟩
theorem M5 {α β:Type}{F:α->β->Prop}:∀ {l:List α}{m:List β}{i:Nat}{x:α},Paired F l m->l[i]? = some x->∃ y,m[i]? = some y/\F x y
 | _,_,_,_,.nil,e=>by simp at e
 | _,_,0,_,.cons r _,e=>by simp at e; subst e; exact⟨_,rfl,r⟩
 | _,_,i+1,x,.cons _ t,e=>by
  rw [bd6] at e
  obtain ⟨y,h1,h2⟩:=M5 t e
  exact⟨y,by rw [bd6]; exact h1,h2⟩
section
variable {X : Cx} {pins : List (Addr × Obj)} {σ : St} {H : Hp} {s : Shared} {a b : Addr} {kvs : List (List a9 × V)} {k : List a9} {A : Around} {E : Value → Shared → Prop}
theorem aA2 {Q:Value->Shared->Prop} (hu:A.units+1 < cLine) (I:a6 X pins σ H s) (e:H a=some (.dT kvs)) (eb:H b=some (.tup (k.map kV))) (is:∃ j:Nat,(kvs.map (·.1))[j]? = some k)
  (h:∀ (j:Nat) v w' s',(kvs.map (·.1))[j]? = some k->a6 X pins σ (upd H a (.dT (kvs.eraseIdx j))) s'->aU v w'->Q w' s'):wpAny (model X.prog X.w) A (call (.builtin "dict.pop") [.ref a,.ref b]) Q E s:=by
 obtain ⟨z,hd,xs,rel,dd⟩:=zE I.hok e
 have hz:xs.length<=sizeLine:=by rw [<- Paired.length rel]; exact z
 refine call_meetsIn PySem.F.slot_dict_pop dd.typeIs PySem.F.entry_dict_pop (PySem.F.args_dict_pop_2 _ _) (Raw.aA1 (tupleKind (dO X.prog X.w)) a b) ⟨tupleKind_room_in1 hu,k,xs,mV I.hok eb,dd,hz,?_,fun j p h' hj c sb=>?_⟩
 ·obtain ⟨j,hj⟩:=is
  rw [aZ3] at hj
  cases ej:kvs[j]? with
  | none=>rw [ej] at hj; cases hj
  | some kv=>
   rw [ej] at hj
   cases hj
   obtain ⟨y,hy,r⟩:=M5 rel ej
   exact⟨j,y.2,by rw [hy]; exact congrArg some (Prod.ext r.1.symm rfl)⟩
 ·obtain ⟨kv,hkv,r⟩:=M4 rel hj
  obtain ⟨o,es,ep,h1,h2,h3,h4⟩:=c
  have nd:((xs.eraseIdx j).map (·.1)).Nodup:=by
   obtain ⟨_,_,_,_,_,_,_,_,nd⟩:=dd
   exact nd.sublist ((List.eraseIdx_sublist xs j).map _)
  refine h j kv.2 p.2 _ (by rw [aZ3,hkv]; exact congrArg some r.1) ?_ r.2.2
  refine oT I (by rw [e]; exact bl6) sb ⟨o,h1⟩ ⟨bb5 (List.length_eraseIdx_le kvs j) z,hd,_,KT.keeps (Paired.erase j rel) fun c ys ec=>?_,o,es,ep,h1,h2,h3,h4,nd⟩
  rw [aV (x8 ec e (fun z=>nomatch z))]
  exact ec
end
section
variable {X : Cx} {o e : Expr} {apos cpos : Pos} {td ty : TE}
def M6 (td ty:TE):TE:=fun σ H Q=>td σ H fun x H1=>∃ a,x = .ref a/\tD H1 a/\ty σ H1 fun y H2=>∃ kvs k b,H2 a=some (.dT kvs)/\y = .ref b/\H2 b=some (.tup (k.map kV))/\(∃ j:Nat,(kvs.map (·.1))[j]? = some k)/\∀ (j:Nat) v,(kvs.map (·.1))[j]? = some k->Q v (upd H2 a (.dT (kvs.eraseIdx j)))
theorem aA3 (hu:X.A.units+1 < cLine) (ho:PE X o td) (he:PE X e ty) (m:M1 X o "pop" apos e cpos):PE X (.Call (.Attribute o "pop" apos) [e] [] cpos) (M6 td ty):=by
 intro pins s σ H Q I h
 refine wpAny_Call_method m.base m.few m.line PySem.F.plainAttrs_dict PySem.F.slot_dict_pop PySem.F.type_dict_pop (aP (ho pins s σ H _ I h) fun u s1 h1=>?_)
 obtain ⟨x,H1,I1,rx,a,ex,d,q1⟩:=h1
 subst ex
 obtain rfl:u=Value.ref a:=rx
 obtain ⟨t1,t2,_⟩:=zN I1 d
 refine⟨t1,t2,?_⟩
 rw [m.trees]
 refine Calls.callWith_builtin rfl (Calls.evalArgs_plain (Calls.spliced_cons (aP (he pins s1 σ H1 _ I1 q1) fun iv s2 h2=>Calls.spliced_nil ?_)))
 obtain ⟨y,H2,I2,ry,kvs,k,b,ea,ey,eb,is,q2⟩:=h2
 subst ey
 obtain rfl:iv=Value.ref b:=ry
 exact aA2 hu I2 ea eb is fun j v w' s3 hj I3 rw'=>⟨v,_,I3,rw',q2 j v hj⟩
end
end L2
namespace Raw
open PySem PySem.W PySem.Calls PyProof.Rows
theorem aA4:isSubtype (.type "tuple") (.type "set")=pure false:=by rw [isSubtype_type]; kernel_rfl
theorem aA5:isSubtype (.type "tuple") (.type "frozenset")=pure false:=by rw [isSubtype_type]; kernel_rfl
section
variable {prog : Program} {w : World} {A : Around} {E : Value → Shared → Prop} {s : Shared} {l : Addr} {items : Array Value} {ns : List Int}
abbrev hG (led:Bool):Obj:={ cls:=.type "set",dict:=none,data:=.set #[] 0 (.fresh 0 0 led) }
def qM (prog:Program) (w:World) (ns:List Int) (n:Nat) (h h':Heap):Prop:=h'.SetOf (intKind prog w) h.objs.size (fun k=>(firstMet (fun i=>ns.getD i 0) n).any (· == k)) (firstMet (fun i=>ns.getD i 0) n).length/\∀ b o,b < h.objs.size->h.get? b=some o->h'.get? b=some o
theorem aA6 {led:Bool}{Q:Value->Shared->Prop} (hh:A.handled=none) (hl:s.heap.IsTuple l items) (hi:IntsAre items.toList ns) (hb:items.size+1 < scanBound) (h:∀ h' tk,qM prog w ns items.size s.heap h'->Q .none { s with heap:=h',toks:=tk }) :
  wpAny (model prog w) A (Builtin.«set.__init__» ⟨[.ref s.heap.objs.size,.ref l],[]⟩) (fun fin s'=>∃ r,fin = .done (.ret r)/\Q r s') E { s with heap:=s.heap.push (hG led) }:=by
 have hS:(s.heap.push (hG led)).get? s.heap.objs.size=some (hG led):=aY8 _ rfl
 have hT:Shared.TypeIs { s with heap:=s.heap.push (hG led) } (.ref s.heap.objs.size) "set":=⟨_,hS,rfl⟩
 obtain ⟨ol,m3,hcl,nl,hdl⟩:=hl
 have lt:l < s.heap.objs.size:=aY6 m3
 obtain ⟨ocls,odict,odata,oslots⟩:=ol
 dsimp only at hcl hdl
 subst hcl hdl
 have hol1:=aX2 (hG led) m3
 have tu:(s.heap.push (hG led)).IsTuple l items:=⟨_,hol1,rfl,nl,rfl⟩
 have t1:=aA4
 have t2:=aA5
 have t3:(Value.type "tuple" == Value.type "dict")=false:=by decide
 unfold Builtin.«set.__init__» noKeywords Builtin.Frozenset.updateFrom
 generalize pi:pyIter=PI
 wp_walk
 subst pi
 apply bh3 tu
 apply aX0
 apply wpAny_runValue
 have sz:(s.heap.push (hG led)).objs.size=s.heap.objs.size+1:=bg4 ..
 have a3:A.in1.handled=none:=by simp [hh]
 refine codeAny_set_update_loopS (Walks.tuple (by simp [hh]) (s.heap.push (hG led)).objs.size l (by rw [sz]; exact ba2 (Nat.lt_succ_of_lt lt)) items).toS s.heap.objs.size (fun z=>?_) (fun i=>ns.getD i 0) (fun i v hv=>IntsAre.int_at hi i v (by rw [bg1]; exact hv)) hb items.size 0 _ (Nat.sub_zero _) (bc6 _) ⟨⟨_,aY8 _ rfl,rfl,rfl⟩,tu.push _⟩ ?_ ?_
 ·simp only [aX9,aY9,bc2] at z
  rcases z with z | z
  ·rw [sz] at z
   exact ba2 (Nat.lt_succ_self _) z
  ·exact be6 lt z
 ·exact SetOf_congr ((setObjOf_fresh (knd:=intKind prog w) led).setOf (aX2 _ hS) (by decide)) (fun _=>rfl) rfl
 ·rintro ⟨h',g',d',tk',os'⟩ hm hS'
  obtain rfl:g'=s.gens:=hm.gens
  obtain rfl:d'=s.drawn:=hm.drawn
  obtain rfl:os'=s.os:=hm.os
  change wpAny _ _ _ _ _ _
  apply aX8
  change wpAny _ _ (ret Value.none) _ _ _
  refine aX8 ⟨_,rfl,h h' tk' ⟨hS',fun b o lb e=>hm.heap b o (fun z=>?_) (aX2 _ (aX2 _ e))⟩⟩
  simp only [aX9,aY9,bc2] at z
  rcases z with z | z
  ·exact ba2 lb z
  ·rw [sz] at z
   exact ba2 (Nat.lt_succ_of_lt lb) z
theorem aA7 {Q:Value->Shared->Prop} (hh:A.handled=none) (hl:s.heap.IsTuple l items) (hi:IntsAre items.toList ns) (hb:items.size+1 < scanBound) (h:∀ h' tk,qM prog w ns items.size s.heap h'->Q (.ref s.heap.objs.size) { s with heap:=h',toks:=tk }) :
  wpAny (model prog w) A (call (.type "set") [.ref l]) Q E s:=by
 have C:=F.called_set
 obtain ⟨c,tl,hmro⟩:=C.mro
 have c1:=C.made
 have c2:=C.sub
 have c3:=C.notType
 have c4:=C.canCreate
 have c5:=F.typeCall_set_1 (.ref l)
 have c6:=C.init.lookup
 have c7:=C.init.bind (.ref s.heap.objs.size)
 apply wpAny_call
 apply codeAny_of_tree
 change wpAny _ _ (callAny (.type "set") _) _ _ _
 refine aX8 ⟨Code.quiet_builtin _ (by decide +kernel),codeAny_builtin F.entry_type_call ?_⟩
 rw [Around.under_plain (weight_type_call_type "set" [.ref l] []) rfl]
 repeat (any_goals first | assumption | wp_step | fail)
 refine codeAny_mono (code_set_new_1 (.ref l) (E:=E) (Q₁:=fun obj s₁=>∃ led:Bool,obj = .ref s.heap.objs.size/\s₁={ s with heap:=s.heap.push (hG led) }) fun led=>⟨led,rfl,rfl⟩) fun r s₁ hr=>?_
 match r,hr with
 | .error _,hr=>exact hr
 | .ok (.ret obj),hr=>
  obtain ⟨led,rfl,rfl⟩:=hr
  have hT:Shared.TypeIs { s with heap:=s.heap.push (hG led) } (.ref s.heap.objs.size) "set":=⟨_,aY8 _ rfl,rfl⟩
  repeat (any_goals first | assumption | wp_step | fail)
  refine codeAny_mono (codeAny_call_builtin (R:=wants (fun r s₂=>r = .none/\∃ h' tk,s₂={ s with heap:=h',toks:=tk }/\qM prog w ns items.size s.heap h') E) C.init.plain F.entry_set_init (check_set_init_1 hT ?_)) fun r₂ s₂ hr₂=>?_
  ·refine bg0 (aA6 (E:=fun _ _=>False) (Q:=fun r s₂=>r = .none/\∃ h' tk,s₂={ s with heap:=h',toks:=tk }/\qM prog w ns items.size s.heap h') (by simp [hh]) hl hi hb fun h' tk f=>⟨rfl,h',tk,rfl,f⟩) ?_ ?_
   ·rintro fin s' ⟨r,rfl,q⟩
    exact q
   ·exact fun _ _ h=>h.elim
  match r₂,hr₂ with
  | .error _,hr₂=>exact hr₂
  | .ok (.ret _),hr₂=>
   obtain ⟨rfl,h',tk,rfl,f⟩:=hr₂
   repeat (any_goals first | assumption | wp_step | fail)
   exact h _ _ f
end
end Raw
namespace L2
open PySem PySem.Spec PyProof.Rows
section
variable {X : Cx}
theorem M7 {ns:List Int} (nd:ns.Nodup):∀ i,i<=ns.length->firstMet (fun i=>ns.getD i 0) i=ns.take i
 | 0,_=>rfl
 | i+1,h=>by
  rw [firstMet_succ,M7 nd i (by omega)]
  have g:ns[i]? = some (ns.getD i 0):=by
   rw [aZ1,aX5 (by omega)]; rfl
  unfold step_dedup
  rw [bd2,g,if_neg]
  ·rfl
  ·intro z
   obtain ⟨x,hx,e⟩:=List.any_eq_true.mp z
   obtain rfl:x=ns.getD i 0:=by simpa using e
   obtain ⟨j,hj,e2⟩:=bd8 hx
   rw [bd1] at hj
   rw [List.getElem_take] at e2
   have g2:ns[i]'(by omega)=ns.getD i 0:=by
    rw [aX5 (by omega)] at g
    exact aZ8 g
   rw [<- g2] at e2
   exact bc7.mp nd j i (by omega) (by omega) (by omega) e2
theorem aA8 (hc:X.calm=true):cH X (.type "set") (fun xs H Q=>∃ (p:Addr) (ns:List Int),xs = [.ref p]/\aG X.K H p (ns.map V.int)/\ns.Nodup/\ns.length<=1000/\∀ l S,H l=none->Q (.ref l) (upd H l (.set S ns.length))):=by
 intro pins s σ H xs us Q I r h
 obtain ⟨p,ns,rfl,hq,nd,hl,q⟩:=h
 obtain ⟨u,rfl,rx⟩:=fS r
 obtain rfl:u=Value.ref p:=rx
 obtain ⟨its,r',pl,hz⟩:=I.tuple hq
 have ia:=k6 r'
 have len:its.length=ns.length:=by rw [<- r'.length,aY0]
 refine Raw.aA7 (items:=its.toArray) (ns:=ns) (I.ok.hd hc) pl ia (by rw [aX6,len]; exact Nat.lt_of_le_of_lt (Nat.add_le_add_right hl 1) (by decide)) fun h' tk f=>?_
 obtain ⟨f1,f2⟩:=f
 have e1:(firstMet (fun i=>ns.getD i 0) its.toArray.size).length=ns.length:=by
  rw [aX6,len]
  rw [M7 nd _ (aX7 _),bc4]
 rw [e1] at f1
 exact⟨.ref s.heap.objs.size,_,I.laid (t':=tk) (fun b o e=>f2 b o (aY6 e) e) (aX7 _) (show bI X.prog X.w _ _ _ (.set _ _) from f1),rfl,q _ _ (I.hok.fresh (aX7 _))⟩
theorem aA9:cH X (.builtin "len") (fun xs H Q=>∃ (a:Addr) (S:Int->Bool) (n:Nat),xs = [.ref a]/\H a=some (.set S n)/\n<=1000/\Q (.int n) H):=by
 intro pins s σ H xs us Q I r h
 obtain ⟨a,S,n,rfl,e,hn,q⟩:=h
 obtain ⟨u,rfl,rx⟩:=fS r
 obtain rfl:u=Value.ref a:=rx
 have hs:s.heap.SetOf (intKind X.prog X.w) a S n:=I.hok a _ e
 obtain ⟨o,es,ep,t,ho,h1,h2,_,_,_,h3,rfl⟩:=hs
 exact call_len_set ho h1 h2 h3 (by omega) ⟨.int _,H,I.tok _,⟨_,rfl⟩,q⟩
end
end L2
namespace Core
open PySem L2 PP
def fZ (ns:List Int):Bool:=((ns.zip (ns.drop 1)).map fun p=>decide (p.1 < p.2)).all id
theorem aB0 {α β:Type}{l:List α}{f:α->β}{i:Nat}{x:α} (h:l[i]? = some x):(l.take (i+1)).map f=(l.take i).map f ++ [f x]:=by
 rw [bd2,h]; simp
theorem iV:∀ {ns:List Int},fZ ns=true->ns.Pairwise (· < ·)
 | [],_=>.nil
 | [x],_=>ba8 _ _
 | x :: y :: r,h=>by
  have e:fZ (x :: y :: r)=(decide (x < y) && fZ (y :: r)):=rfl
  rw [e,bb1] at h
  have ih:=iV h.2
  refine bi7.mpr ⟨fun z hz=>?_,ih⟩
  rcases aX9.mp hz with rfl | hz
  ·exact bd3 h.1
  ·exact Int.lt_trans (bd3 h.1) (List.rel_of_pairwise_cons ih hz)
theorem vK:∀ {ns:List Int},ns.Pairwise (· < ·)->fZ ns=true
 | [],_=>rfl
 | [x],_=>rfl
 | x :: y :: r,h=>by
  have e:fZ (x :: y :: r)=(decide (x < y) && fZ (y :: r)):=rfl
  have h':=bi7.mp h
  rw [e,vK h'.2,Bool.and_true]
  exact aX4 (h'.1 y aY1)
def kin (ws:List Int) (ls:List (Int × Int)) (S:List Int) (h:Int):Bool:=!decide (h ∈ S) && decide (ws.getD h.toNat 0<=(((aH ls h).filter fun x=>decide (x ∈ S)).length:Int))
def nextOf (ws:List Int) (ls:List (Int × Int)) (S:List Int):List Int:=((List.range ws.length).map fun (i:Nat)=>(i:Int)).filter (kin ws ls S)
def aY (ws:List Int) (ls:List (Int × Int)) (S:List Int):Nat->List Int
 | 0=>S
 | k+1=>aY ws ls S k ++ nextOf ws ls (aY ws ls S k)
def cold (ws:List Int) (S:List Int):Nat:=(((List.range ws.length).map fun (i:Nat)=>(i:Int)).filter fun x=>!decide (x ∈ S)).length
theorem vL {α:Type} (p q:α->Bool) (h:∀ x,q x=true->p x=false):∀ L:List α,(L.filter fun x=>!p x && !q x).length+(L.filter q).length=(L.filter fun x=>!p x).length
 | []=>rfl
 | x :: r=>by
  have ih:=vL p q h r
  cases e1:p x with
  | true=>
   have e2:q x=false:=by
    cases e:q x with
    | false=>rfl
    | true=>have:=h x e; rw [e1] at this; cases this
   simp only [List.filter_cons,e1,e2,Bool.not_true,bi0,aZ6,be3]
   exact ih
  | false=>
   cases e2:q x with
   | true=>
    simp only [List.filter_cons,e1,e2,Bool.not_true,Bool.not_false,bh1,aZ6,be3,if_true,aZ7]
    omega
   | false=>
    simp only [List.filter_cons,e1,e2,Bool.not_false,Bool.and_true,aZ6,be3,if_true,aZ7]
    omega
theorem vM {ws:List Int}{ls:List (Int × Int)}{S:List Int}{x:Int} (h:kin ws ls S x=true):decide (x ∈ S)=false:=by
 unfold kin at h
 cases e:decide (x ∈ S) with
 | false=>rfl
 | true=>rw [e] at h; cases h
theorem vN (ws:List Int) (ls:List (Int × Int)) (S:List Int):cold ws (S ++ nextOf ws ls S)+(nextOf ws ls S).length=cold ws S:=by
 have e:=vL (fun x=>decide (x ∈ S)) (kin ws ls S) (fun x h=>vM h) ((List.range ws.length).map fun (i:Nat)=>(i:Int))
 unfold cold
 rw [<- e]
 congr 2
 refine List.filter_congr fun x hx=>?_
 have:decide (x ∈ S ++ nextOf ws ls S)=(decide (x ∈ S) || kin ws ls S x):=by
  rw [be8]
  unfold nextOf
  simp only [ba1,bb6,ba4,Bool.or_eq_true]
  exact⟨fun z=>z.elim .inl fun z=>.inr z.2,fun z=>z.elim .inl fun z=>.inr ⟨hx,z⟩⟩
 rw [this]
 cases decide (x ∈ S) <;> cases kin ws ls S x <;> rfl
theorem aB1 (ws:List Int) (S:List Int):cold ws S<=ws.length:=by
 unfold cold
 refine bb5 (be5 _ _) ?_
 rw [aY0,bf2]; exact aX7 _
theorem aB2 (ws:List Int) (ls:List (Int × Int)) (S:List Int):(nextOf ws ls S).length<=ws.length:=by
 unfold nextOf
 refine bb5 (be5 _ _) ?_
 rw [aY0,bf2]; exact aX7 _
def after (ws:List Int) (ls:List (Int × Int)) (S:List Int) (m:Nat):List (List Int):=(List.range m).map fun k=>nextOf ws ls (aY ws ls S k)
theorem M8 (ws:List Int) (ls:List (Int × Int)) (S:List Int) (m:Nat):after ws ls S (m+1)=after ws ls S m ++ [nextOf ws ls (aY ws ls S m)]:=by
 unfold after
 rw [List.range_succ,ba6]; rfl
theorem vO (ws:List Int) (ls:List (Int × Int)) (ns:List Int):∀ k,(aY ws ls ns k).length+cold ws (aY ws ls ns k)=ns.length+cold ws ns
 | 0=>rfl
 | k+1=>by
  have ih:=vO ws ls ns k
  have cs:=vN ws ls (aY ws ls ns k)
  show (aY ws ls ns k ++ nextOf ws ls (aY ws ls ns k)).length+cold ws (aY ws ls ns k ++ nextOf ws ls (aY ws ls ns k))=_
  rw [ba0]; omega
theorem vP {ws ns:List Int} (hu:ns.Pairwise (· < ·)) (hin:∀ x ∈ ns,0<=x/\x < (ws.length:Int)):ns.length+cold ws ns<=ws.length:=by
 have nd:ns.Nodup:=hu.imp fun h=>Int.ne_of_lt h
 have sub:ns ⊆ ((List.range ws.length).map fun (i:Nat)=>(i:Int)).filter fun x=>decide (x ∈ ns):=fun x hx=>by
  refine ba4.mpr ⟨bb9.mpr ⟨x.toNat,bj2.mpr ?_,?_⟩,aX4 hx⟩
  ·have:=hin x hx; omega
  ·have:=hin x hx; omega
 have h1:=nd.length_le_of_subset sub
 have h2:=vL (fun _=>false) (fun x=>decide (x ∈ ns)) (fun _ _=>rfl) ((List.range ws.length).map fun (i:Nat)=>(i:Int))
 have h3:(((List.range ws.length).map fun (i:Nat)=>(i:Int)).filter fun x=>!false && !decide (x ∈ ns)).length=cold ws ns:=rfl
 have h4:(((List.range ws.length).map fun (i:Nat)=>(i:Int)).filter fun x=>!false).length<=ws.length:=by
  refine bb5 (be5 _ _) ?_
  rw [aY0,bf2]; exact aX7 _
 rw [h3] at h2
 omega
theorem vQ (ws:List Int) (ls:List (Int × Int)) (ns:List Int):∀ m,(ns :: after ws ls ns m).flatten=aY ws ls ns m
 | 0=>by simp [after,aY]
 | m+1=>by
  rw [M8,<- List.cons_append,List.flatten_append,vQ ws ls ns m]
  simp [aY]
def cE (ws:List Int) (ls:List (Int × Int)) (ns:List Int) (m:Nat):Prop:=(∀ k < m,nextOf ws ls (aY ws ls ns k) ≠ [])/\nextOf ws ls (aY ws ls ns m) = []
theorem M9 {ws:List Int}{ls:List (Int × Int)}{ns:List Int}:∀ (m:Nat),(∀ k < m,nextOf ws ls (aY ws ls ns k) ≠ [])->m+cold ws (aY ws ls ns m)<=ws.length
 | 0,_=>by have:=aB1 ws ns; show 0+cold ws ns<=_; omega
 | m+1,h=>by
  have ih:=M9 m fun k hk=>h k (by omega)
  have cs:=vN ws ls (aY ws ls ns m)
  have:1<=(nextOf ws ls (aY ws ls ns m)).length:=by
   cases e:nextOf ws ls (aY ws ls ns m) with
   | nil=>exact absurd e (h m (by omega))
   | cons _ _=>exact Nat.succ_le_succ (bc6 _)
  show m+1+cold ws (aY ws ls ns m ++ nextOf ws ls (aY ws ls ns m))<=_
  omega
theorem g9 {ns:List Int}{i:Nat}{x:PV} (h:(intz ns)[i]? = some x):∃ n,x = .int n/\ns[i]? = some n:=by
 rw [aZ3] at h
 cases e:ns[i]? with
 | none=>rw [e] at h; cases h
 | some n=>rw [e] at h; exact⟨n,(aZ8 h).symm,rfl⟩
theorem jQ {lo:Int}{n i:Nat}{x:PV} (h:(iP lo n)[i]? = some x):x = .int (lo+i)/\i < n:=by
 have hi:i < n:=by
  have:=(aY5.mp h).1
  rwa [eC] at this
 rw [C3 hi] at h
 exact⟨(aZ8 h).symm,hi⟩
def rng (n:Nat):List Int:=(List.range n).map fun (i:Nat)=>(i:Int)
theorem qN (n:Nat):(rng n).length=n:=by unfold rng; rw [aY0,bf2]
theorem N0 {n i:Nat} (h:i < n):(rng n)[i]? = some (i:Int):=by unfold rng; rw [aZ3,bk1 h]; rfl
theorem nW {n:Nat}{x:Int}:x ∈ rng n ↔ 0<=x/\x < (n:Int):=by
 unfold rng
 rw [bb9]
 constructor
 ·rintro ⟨i,hi,rfl⟩
  have:=bj2.mp hi
  omega
 ·intro h
  exact⟨x.toNat,bj2.mpr (by omega),by omega⟩
theorem iW {α:Type}{l:List α}{p:α->Bool}{i:Nat}{x:α} (h:l[i]? = some x):(l.take (i+1)).filter p=(l.take i).filter p ++ (if p x=true then [x] else []):=by
 rw [bd2,h,List.filter_append]
 congr 1
 cases e:p x <;> simp [e]
theorem fM (a b:List Int):intz (a ++ b)=intz a ++ intz b:=ba6
theorem bD (a:List Int):(intz a).length=a.length:=aY0 _
def bJ (ws:List Int) (ls:List (Int × Int)):PV:=.tup [.tup (intz ws),.tup (ls.map fun l=>.tup [.int l.1,.int l.2])]
structure Wb (ws:List Int) (ls:List (Int × Int)):Prop where
 few:ws.length<=40
 most:ls.length<=1700
 links:∀ l ∈ ls,(0<=l.1/\l.1 < ws.length)/\0<=l.2/\l.2 < ws.length
def cJ (x:PV) (ns:List Int):Prop:=x = .tup (intz ns) ∨ x = .lst (intz ns)
theorem cJ.seq {x:PV}{ns:List Int} (h:cJ x ns):gX x=some (intz ns):=by rcases h with rfl | rfl <;> rfl
theorem cJ.seqT {x:PV}{ns:List Int} (h:cJ x ns):seqT x=some (intz ns):=by rcases h with rfl | rfl <;> rfl
theorem qO:∀ (ls:List (Int × Int)),flats (ls.map fun l=>PV.tup [.int l.1,.int l.2])=true
 | []=>rfl
 | l :: r=>by
  show (flat (.tup [.int l.1,.int l.2]) && flats (r.map fun l=>PV.tup [.int l.1,.int l.2]))=true
  rw [qO r]; rfl
theorem vR (ws:List Int) (ls:List (Int × Int)):flat (bJ ws ls)=true:=by
 show flats [.tup (intz ws),.tup (ls.map fun l=>PV.tup [.int l.1,.int l.2])]=true
 show (flat (.tup (intz ws)) && (flat (.tup (ls.map fun l=>PV.tup [.int l.1,.int l.2])) && true))=true
 show (flats (intz ws) && (flats (ls.map fun l=>PV.tup [.int l.1,.int l.2]) && true))=true
 rw [cY,qO]; rfl
theorem nX (ns:List Int):flat (.tup (intz ns))=true:=cY ns
def jR:bC:=fun xs Q=>∃ ws ls,xs = [bJ ws ls]/\Q (.int ws.length)
def N1:aK:=(bB (aC dE (a7 (bW (a5 0) (qC (.int 0))) aA)))
abbrev cC (t:aK) (N:List Str) (p:bC):Prop:=∀ xs Q,p xs Q->t { nx:=fun _=>Q .non,rt:=Q } (dS N xs)
theorem aB3:cC N1 ["web"] jR:=by
 rintro xs Q ⟨ws,ls,rfl,q⟩
 refine⟨_,rfl,_,_,_,rfl,rfl,rfl,_,_,rfl,rfl,trivial,?_⟩
 rw [bD]; exact q
def N2:bC:=fun xs Q=>∃ x ns,xs = [x]/\cJ x ns/\ns.length<=1000/\Q (.bl (fZ ns))
def inB (n:Nat) (x:Int):Bool:=decide (0<=x) && decide (x < (n:Int))
def nY:bC:=fun xs Q=>∃ ws ls n,xs = [bJ ws ls,.int n]/\Q (.bl (inB ws.length n))
def N3:aK:=(bB (gV (uN (a5 1) (qC (.int 0))) (gZ (a5 1) (aC jR (a7 (a5 0) aA)))))
theorem aB4:cC N3 ["web","number"] nY:=by
 rintro xs Q ⟨ws,ls,n,rfl,q⟩
 refine⟨_,rfl,_,_,rfl,rfl,_,rfl,?_⟩
 unfold inB at q
 by_cases h:(0:Int)<=n
 ·rw [aX4 h] at q ⊢
  refine b6 ⟨_,rfl,_,rfl,ws,ls,rfl,_,_,rfl,rfl,trivial,?_⟩
  simpa using q
 ·rw [aX3 h] at q ⊢
  exact aS ⟨trivial,by simpa using q⟩
def b9 (n:Nat) (ns:List Int):Bool:=fZ ns && (ns.map (inB n)).all id
def vS:bC:=fun xs Q=>∃ ws ls x ns,xs = [bJ ws ls,x]/\cJ x ns/\ns.length<=1000/\Q (.bl (b9 ws.length ns))
def aB5:aK:=(bB (gV (aC N2 (a7 (a5 1) aA)) (aC nC (a7 (cV (dB (a5 1)) [none,some 0] (bR 0) fX (aC nY (a7 (a5 1) (a7 (a5 0) aA)))) aA))))
theorem m6 {x:PV}{ns:List Int} (h:cJ x ns):(Slot.sh (flat x) x).tag = .rd->flat x=true:=by
 cases flat x <;> intro z <;> cases z
theorem aB6:cC aB5 ["web","numbers"] vS:=by
 rintro xs Q ⟨ws,ls,x,ns,rfl,hx,hl,q⟩
 refine⟨_,rfl,x,ns,rfl,hx,hl,_,rfl,?_⟩
 unfold b9 at q
 cases h:fZ ns with
 | false=>rw [h] at q; exact aS ⟨trivial,q⟩
 | true=>
  rw [h] at q
  refine b6 ⟨_,rfl,_,hx.seq,m6 hx,by rw [bD]; omega,fun i acc=>acc=(((ns.take i).map (inB ws.length)).map PV.bl),rfl,?_,?_⟩
  ·rintro i y acc hy rfl
   obtain ⟨n,rfl,hn⟩:=g9 hy
   have tk:((ns.take (i+1)).map (inB ws.length)).map PV.bl=((ns.take i).map (inB ws.length)).map PV.bl ++ [PV.bl (inB ws.length n)]:=by rw [aB0 hn,ba6]; rfl
   exact⟨_,rfl,_,rfl,ws,ls,n,rfl,trivial,tk.symm⟩
  ·rintro acc rfl
   rw [bD,bc4]
   exact⟨_,rfl,trivial,by simpa using q⟩
theorem cJ.noscr {x:PV}{ns:List Int} (h:cJ x ns):∀ ms,([x]:List PV) ≠ [.scr ms]:=by
 rcases h with rfl | rfl <;> intro ms z <;> cases z
structure DS (ps:List (a9 × PV)) (S:List Int):Prop where
 has:∀ i:Int,(bN ps (Sum.inl i:a9)).isSome=decide (i ∈ S)
 len:ps.length<=S.length
 fl:flats (ps.map (·.2))=true
theorem DS.nil:DS [] []:=⟨fun i=>rfl,aX7 _,rfl⟩
section
variable {κ : Type} [DecidableEq κ]
theorem aB7 {k:κ}:bN ([]:List (κ × PV)) k=none:=rfl
theorem hJ {p:κ × PV}{r:List (κ × PV)}{k:κ} (e:p.1=k):bN (p :: r) k=some p.2:=by simp [bN,bh2,e]
theorem hV {p:κ × PV}{r:List (κ × PV)}{k:κ} (e : ¬ p.1=k):bN (p :: r) k=bN r k:=by simp [bN,bh2,e]
theorem qP (k:κ):∀ kvs:List (κ × PV),(kvs.any fun kv=>decide (kv.1=k))=(bN kvs k).isSome
 | []=>rfl
 | p :: r=>by
  rw [List.any_cons]
  by_cases e:p.1=k
  ·simp only [hJ e,aX4 e,Bool.true_or,Option.isSome_some]
  ·rw [hV e,aX3 e,Bool.false_or]; exact qP k r
theorem N4 (k j:κ) (y:PV):∀ kvs:List (κ × PV),bN (kvs.map fun kv=>if kv.1=k then (kv.1,y) else kv) j=(bN kvs j).map fun x=>if j=k then y else x
 | []=>rfl
 | p :: r=>by
  have ih:=N4 k j y r
  rw [bc5]
  by_cases h:p.1=k
  ·rw [if_pos h]
   by_cases e:p.1=j
   ·rw [hJ (p:=(p.1,y)) e,hJ e,Option.map_some,if_pos (e.symm.trans h)]
   ·rw [hV (p:=(p.1,y)) e,hV e,ih]
  ·rw [if_neg h]
   by_cases e:p.1=j
   ·rw [hJ (p:=p) e,hJ e,Option.map_some,if_neg (fun z=>h (e.trans z))]
   ·rw [hV (p:=p) e,hV e,ih]
theorem N5 (k j:κ) (y:PV):∀ kvs:List (κ × PV),bN kvs k=none->bN (kvs ++ [(k,y)]) j=if j=k then some y else bN kvs j
 | [],_=>by
  by_cases e:k=j
  ·rw [if_pos e.symm]; exact hJ (p:=(k,y)) e
  ·rw [if_neg (fun z=>e z.symm)]; exact hV (p:=(k,y)) e
 | p :: r,hn=>by
  rw [List.cons_append]
  have hk : ¬ p.1=k:=fun z=>by rw [hJ z] at hn; cases hn
  rw [hV hk] at hn
  have ih:=N5 k j y r hn
  by_cases e:p.1=j
  ·rw [hJ e,hJ e,if_neg (fun z=>hk (e.trans z))]
  ·rw [hV e,hV e,ih]
theorem N6 (kvs:List (κ × PV)) (k j:κ) (y:PV):bN (cD kvs k y) j=if j=k then some y else bN kvs j:=by
 unfold cD
 by_cases a:(kvs.any fun kv=>decide (kv.1=k))=true
 ·rw [if_pos a,N4]
  rw [qP] at a
  by_cases e:j=k
  ·obtain ⟨x,hx⟩:=Option.isSome_iff_exists.mp a
   rw [if_pos e,e,hx,Option.map_some,if_pos rfl]
  ·rw [if_neg e]
   cases bN kvs j with
   | none=>rfl
   | some x=>rw [Option.map_some,if_neg e]
 ·rw [if_neg a]
  refine N5 k j y kvs ?_
  rw [qP] at a
  cases q:bN kvs k with
  | none=>rfl
  | some x=>rw [q] at a; exact (a rfl).elim
theorem vT (kvs:List (κ × PV)) (k:κ) (v:PV):(cD kvs k v).length<=kvs.length+1:=by
 unfold cD
 split
 ·rw [aY0]; omega
 ·rw [ba0,aZ7,List.length_nil]; omega
end
theorem N7:∀ (xs:List PV),flats xs=true ↔ ∀ x ∈ xs,flat x=true
 | []=>by simp [flats]
 | x :: r=>by
  unfold flats
  rw [bb1,N7 r]; simp
theorem aB8 {κ:Type} [DecidableEq κ] {ps:List (κ × PV)}{k:κ}{v:PV}{p:κ × PV} (h:p ∈ cD ps k v):p.2=v ∨ p ∈ ps:=by
 unfold cD at h
 split at h
 ·obtain ⟨q,hq,e⟩:=bb9.mp h
  split at e
  ·subst e; exact .inl rfl
  ·subst e; exact .inr hq
 ·rcases bb6.mp h with h | h
  ·exact .inr h
  ·rw [aY3.mp h]; exact .inl rfl
theorem vU {κ:Type} [DecidableEq κ] {ps:List (κ × PV)}{k:κ}{v:PV} (h:flats (ps.map (·.2))=true) (hv:flat v=true):flats ((cD ps k v).map (·.2))=true:=by
 rw [N7] at h ⊢
 intro x hx
 obtain ⟨p,hp,rfl⟩:=bb9.mp hx
 rcases aB8 hp with e | e
 ·rw [e]; exact hv
 ·exact h _ (bb9.mpr ⟨p,e,rfl⟩)
theorem DS.put {ps:List (a9 × PV)}{S:List Int} (h:DS ps S) (x:Int) (v:PV) (hv:flat v=true):DS (cD ps (Sum.inl x:a9) v) (S ++ [x]):=by
 refine⟨fun i=>?_,?_,vU h.fl hv⟩
 ·rw [N6]
  by_cases e:i=x
  ·subst e; rw [if_pos rfl]; simp
  ·rw [if_neg (fun z=>e (Sum.inl.inj z)),h.has]
   simp [e]
 ·have:=vT ps (Sum.inl x:a9) v
  have:=h.len
  rw [ba0,bk8]; omega
theorem DS.merge {S:List Int}:∀ {mp ps:List (a9 × PV)}{T:List Int},DS ps S->DS mp T->DS (gK ps mp) (S ++ T):=by
 have key:∀ (mp:List (a9 × PV)) {ps:List (a9 × PV)} (i:Int),(bN (gK ps mp) (Sum.inl i:a9)).isSome=((bN ps (Sum.inl i:a9)).isSome || (bN mp (Sum.inl i:a9)).isSome):=fun mp=>by
  induction mp with
  | nil=>intro ps i; show (bN ps (Sum.inl i:a9)).isSome=_; rw [aB7]; simp
  | cons p r ih=>
   intro ps i
   show (bN (gK (cD ps p.1 p.2) r) (Sum.inl i:a9)).isSome=_
   rw [ih,N6]
   by_cases e:(Sum.inl i:a9)=p.1
   ·rw [if_pos e,hJ e.symm]; simp
   ·rw [if_neg e,hV (Ne.symm e)]
 have keyl:∀ (mp:List (a9 × PV)) {ps:List (a9 × PV)},(gK ps mp).length<=ps.length+mp.length:=fun mp=>by
  induction mp with
  | nil=>intro ps; exact aX7 _
  | cons p r ih=>
   intro ps
   have h1:=ih (ps:=cD ps p.1 p.2)
   have h2:=vT ps p.1 p.2
   show (gK (cD ps p.1 p.2) r).length<=_
   rw [aZ7]; omega
 have keyf:∀ (mp:List (a9 × PV)) {ps:List (a9 × PV)},flats (ps.map (·.2))=true->flats (mp.map (·.2))=true->flats ((gK ps mp).map (·.2))=true:=fun mp=>by
  induction mp with
  | nil=>intro ps h _; exact h
  | cons p r ih=>
   intro ps h g
   have g:(flat p.2 && flats (r.map (·.2)))=true:=g
   rw [bb1] at g
   exact ih (ps:=cD ps p.1 p.2) (vU h g.1) g.2
 intro mp ps T h g
 refine⟨fun i=>?_,?_,keyf mp h.fl g.fl⟩
 ·rw [key,h.has,g.has,be8]; simp
 ·have:=keyl mp (ps:=ps)
  have:=h.len
  have:=g.len
  rw [ba0]; omega
def gM:bC:=fun xs Q=>∃ x ns,xs = [x]/\cJ x ns/\ns.length<=1000/\∀ ps,DS ps ns->Q (.dK ps)
def N8:aK:=(aM (gW 1 (qC (.dK [])))
 (aM (eD (dB (a5 0)) (bR 2)
  (pO 1 (a5 2) (qC (.bl true))))
 (jF 1)))
theorem aB9:cC N8 ["hearths","inside","hearth"] gM:=by
 rintro xs Q ⟨x,ns,rfl,hx,hl,q⟩
 refine⟨rfl,rfl,_,rfl,_,hx.seq,m6 hx,fun i ρ=>∃ y ps,ρ = [some (.sh (flat x) x),some (.own (.dK ps)),y]/\DS ps (ns.take i),⟨none,[],rfl,DS.nil⟩,?_,?_⟩
 ·rintro i y ρ hy ⟨y0,ps,rfl,d⟩
  obtain ⟨n,rfl,hn⟩:=g9 hy
  have hlen:=d.len
  rw [bd1] at hlen
  refine⟨_,rfl,_,rfl,Sum.inl n,rfl,trivial,by omega,_,_,rfl,?_⟩
  rw [bd2,hn]
  exact d.put n _ rfl
 ·rintro ρ ⟨y,ps,rfl,d⟩
  rw [bD,bc4] at d
  exact⟨_,rfl,trivial,q ps d⟩
def m7:bC:=fun xs Q=>∃ x ns ps S,xs = [x,.dK ps]/\cJ x ns/\DS ps S/\ns.length<=10000/\Q (.int ((ns.filter fun x=>decide (x ∈ S)).length:Nat))
def N9:aK:=(bB (aC dE (a7 (cV (dB (a5 0)) [none,some 1] (bR 0) (aW (gY false (a5 0) (a5 1))) (a5 0)) aA)))
theorem aC0:cC N9 ["hearths","inside"] m7:=by
 rintro xs Q ⟨x,ns,ps,S,rfl,hx,d,hl,q⟩
 refine⟨_,rfl,_,hx.seq,m6 hx,by rw [bD]; omega,fun i acc=>acc=intz ((ns.take i).filter fun x=>decide (x ∈ S)),rfl,?_,?_⟩
 ·rintro i y acc hy rfl
  obtain ⟨n,rfl,hn⟩:=g9 hy
  have tk:=iW (p:=fun x=>decide (x ∈ S)) hn
  refine⟨_,rfl,_,rfl,_,.inl ⟨ps,Sum.inl n,rfl,rfl,rfl⟩,_,rfl,?_⟩
  show if (bN ps (Sum.inl n:a9)).isSome=true then _ else _
  rw [d.has n]
  by_cases h:n ∈ S
  ·rw [aX4 h] at tk ⊢
   refine b6 ⟨_,rfl,trivial,?_⟩
   rw [if_pos rfl] at tk
   show _=intz (List.filter _ (List.take (i+1) ns))
   rw [tk,fM]; rfl
  ·rw [aX3 h] at tk ⊢
   refine aS ?_
   rw [if_neg (by decide),ba5] at tk
   show _=intz (List.filter _ (List.take (i+1) ns))
   rw [tk]
 ·rintro acc rfl
  rw [bD,bc4]
  refine⟨_,_,rfl,rfl,trivial,?_⟩
  rw [bD]; exact q
def fN (n:Nat) (ls:List (Int × Int)):List PV:=(List.range n).map fun (k:Nat)=>PV.lst (intz (aH ls k))
def iX:bC:=fun xs Q=>∃ ws ls,xs = [bJ ws ls]/\Wb ws ls/\Q (.lst (fN ws.length ls))
theorem vV {n:Nat}{ls:List (Int × Int)}{h:Int} (h0:0<=h) (h1:h < (n:Int)):atI (fN n ls) h=some (.lst (intz (aH ls h))):=by
 refine p9 h0 ?_
 unfold fN
 rw [aZ3,bk1 (by omega)]
 show some (PV.lst (intz (aH ls ((h.toNat:Nat):Int))))=_
 rw [show ((h.toNat:Nat):Int)=h by omega]
def qQ:bC:=fun xs Q=>∃ ws ls ps S h,xs = [bJ ws ls,.lst (fN ws.length ls),.dK ps,.int h]/\Wb ws ls/\DS ps S/\0<=h/\h < (ws.length:Int)/\Q (.bl (kin ws ls S h))
def O0:aK:=(bB (gV (gY true (a5 3) (a5 2)) (uN (aC m7 (a7 (bW (a5 1) (a5 3)) (a7 (a5 2) aA))) (bW (bW (a5 0) (qC (.int 0))) (a5 3)))))
theorem m8 {ws:List Int}{h:Int} (h0:0<=h) (h1:h < (ws.length:Int)):atI (intz ws) h=some (.int (ws.getD h.toNat 0)):=by
 refine p9 h0 ?_
 have:h.toNat < ws.length:=by omega
 rw [aZ3,aZ1,aX5 this]; rfl
theorem aC1:cC O0 ["web","around","burning","hearth"] qQ:=by
 rintro xs Q ⟨ws,ls,ps,S,h,rfl,wb,d,h0,h1,q⟩
 refine⟨_,rfl,_,rfl,_,.inl ⟨ps,Sum.inl h,rfl,rfl,rfl⟩,_,rfl,?_⟩
 show if (!(bN ps (Sum.inl h:a9)).isSome)=true then _ else _
 rw [d.has h]
 unfold kin at q
 by_cases hm:h ∈ S
 ·rw [aX4 hm] at q ⊢
  exact aS ⟨trivial,by simpa using q⟩
 ·rw [aX3 hm] at q ⊢
  have nl:=mW ls h
  have:=wb.most
  refine b6 ⟨_,rfl,_,rfl,_,_,_,rfl,rfl,vV h0 h1,_,rfl,_,aH ls h,ps,S,rfl,.inr rfl,d,by omega,_,rfl,_,_,_,rfl,rfl,rfl,_,rfl,_,_,_,rfl,rfl,m8 h0 h1,_,_,rfl,rfl,trivial,?_⟩
  simpa using q
def nZ:bC:=fun xs Q=>∃ ws ls ps S,xs = [bJ ws ls,.lst (fN ws.length ls),.dK ps]/\Wb ws ls/\DS ps S/\Q (.tup (intz (nextOf ws ls S)))
def O1:aK:=(bB (aC eW (a7 (cV (iQ (aC jR (a7 (a5 0) aA))) [none,some 0,some 1,some 2] (bR 0) (aW (aC qQ (a7 (a5 1) (a7 (a5 2) (a7 (a5 3) (a7 (a5 0) aA)))))) (a5 0)) aA)))
theorem aC2:cC O1 ["web","around","burning"] nZ:=by
 rintro xs Q ⟨ws,ls,ps,S,rfl,wb,d,q⟩
 have few:=wb.few
 refine⟨_,rfl,ws,ls,rfl,_,rfl,by omega,by omega,by rw [eC]; omega,fun i acc=>acc=intz (((rng ws.length).take i).filter (kin ws ls S)),rfl,?_,?_⟩
 ·rintro i y acc hy rfl
  obtain ⟨rfl,hi⟩:=jQ hy
  have hi':i < ws.length:=by omega
  have tk:=iW (p:=kin ws ls S) (N0 hi')
  have e0:(0:Int)+(i:Int)=(i:Int):=by omega
  refine⟨_,rfl,_,rfl,_,rfl,_,rfl,ws,ls,ps,S,_,rfl,wb,d,by omega,by omega,_,rfl,?_⟩
  show if kin ws ls S ((0:Int)+(i:Int))=true then _ else _
  rw [e0]
  cases h:kin ws ls S (i:Int) with
  | true=>
   refine b6 ⟨_,rfl,trivial,?_⟩
   rw [h,if_pos rfl] at tk
   show _=intz (List.filter _ (List.take (i+1) _))
   rw [tk,fM]
   show _ ++ [PV.int _]=_
   rfl
  | false=>
   refine aS ?_
   rw [h,if_neg (by decide),ba5] at tk
   show _=intz (List.filter _ (List.take (i+1) _))
   rw [tk]
 ·rintro acc rfl
  rw [eC,ba3 (by rw [qN]; omega)]
  exact⟨⟨_,_,rfl,rfl,cY _,trivial,q⟩,fun ns z=>by cases z⟩
def tups (rs:List (List Int)):List PV:=rs.map fun r=>PV.tup (intz r)
theorem aC3 {rs:List (List Int)}{i:Nat}{x:PV} (h:(tups rs)[i]? = some x):∃ r,x = .tup (intz r)/\rs[i]? = some r:=by
 unfold tups at h
 rw [aZ3] at h
 cases e:rs[i]? with
 | none=>rw [e] at h; cases h
 | some n=>rw [e] at h; exact⟨n,(aZ8 h).symm,rfl⟩
theorem O2 (rs:List (List Int)):(tups rs).length=rs.length:=aY0 _
theorem eJ {n:Nat}{ns:List Int} (h:b9 n ns=true):fZ ns=true/\∀ x ∈ ns,0<=x/\x < (n:Int):=by
 unfold b9 at h
 rw [bb1,bg8] at h
 refine⟨h.1,fun x hx=>?_⟩
 have:=h.2 _ (bb9.mpr ⟨x,hx,rfl⟩)
 unfold inB at this
 simpa using this
theorem gN {n:Nat}{ns:List Int} (h:b9 n ns=true):ns.length<=n:=by
 obtain ⟨h1,h2⟩:=eJ h
 have:=vP (ws:=List.replicate n (0:Int)) (iV h1) (by rw [bk7]; exact h2)
 rw [bk7] at this
 omega
theorem vW {ws:List Int}{ls:List (Int × Int)}{ns:List Int} (h:b9 ws.length ns=true) (k:Nat):(aY ws ls ns k).length<=ws.length:=by
 have h1:=vO ws ls ns k
 have h2:=vP (iV (eJ h).1) (eJ h).2
 omega
end Core
namespace PP
open PySem L2
def vX:List PV->(PV->Prop)->Prop:=fun xs Q=>∃ ps:List (List a9 × PV),xs = [.dT ps]/\Q (.lst (ps.map fun p=>PV.tup (p.1.map kP)))
end PP
namespace Core
open PySem L2 PP
theorem qR (g:Tg) (n:Int):Nw g (.int n):=by cases g <;> first | exact trivial | rfl
def gA (x:PV) (ns:List Int):Prop:=x = .scr ns ∨ x = .lst (intz ns)
theorem gA.seq {x:PV}{ns:List Int} (h:gA x ns):gX x=some (intz ns):=by rcases h with rfl | rfl <;> rfl
theorem gA.len {x:PV}{ns:List Int} (h:gA x ns):uA x=some ns.length:=by
 rcases h with rfl | rfl
 ·rfl
 ·show some (intz ns).length=_
  rw [bD]
def m9:bC:=fun xs Q=>∃ x ns k,xs = [x,.int k]/\gA x ns/\0<=k/\Q (.int (ns.getD k.toNat 0))
def O3:aK:=(aM (cI (aW (gZ (a5 1) (aC dE (a7 (a5 0) aA)))) (bB (bW (a5 0) (a5 1))) cL)
 (bB (qC (.int 0))))
theorem aC4:cC O3 ["script","k"] m9:=by
 rintro xs Q ⟨x,ns,k,rfl,hx,h0,q⟩
 refine⟨_,rfl,_,rfl,_,_,rfl,hx.len,_,_,rfl,rfl,_,rfl,?_⟩
 by_cases h:k < (ns.length:Int)
 ·rw [aX4 h]
  exact b6 ⟨_,rfl,_,rfl,_,_,_,hx.seq,rfl,m8 h0 h,qR _ _,q⟩
 ·rw [aX3 h]
  rw [aZ1,List.getElem?_eq_none (by omega)] at q
  exact aS ⟨trivial,q⟩
def aZ (ls:List (Int × Int)):List PV:=ls.map fun l=>PV.tup [.int l.1,.int l.2]
theorem O4 (ls:List (Int × Int)):(aZ ls).length=ls.length:=aY0 _
def cR (l m:Int × Int):Prop:=l.1 < m.1 ∨ (l.1=m.1/\l.2 < m.2)
abbrev si (n:Int):Option Slot:=some (.sh true (.int n))
def qS:bC:=fun xs Q=>∃ i,xs = [.int i]/\Q (.bl true)
def O5 (K:PySem.W.Frag):aK:=(bB (gV (kD K "int" (a5 0)) (tZ (kD K "bool" (a5 0)))))
theorem cJ.len {x:PV}{ns:List Int} (h:cJ x ns):uA x=some ns.length:=by
 rcases h with rfl | rfl <;> (show some (intz ns).length=_; rw [bD])
theorem aC5 {K:PySem.W.Frag} (k1:PySem.W.kitOne K (.type "int") (.type "int")=some true) (k2:PySem.W.kitOne K (.type "int") (.type "bool")=some false):cC (O5 K) ["found"] qS:=by
 rintro xs Q ⟨i,rfl,q⟩
 exact⟨_,rfl,_,_,rfl,k1,_,rfl,b6 ⟨_,rfl,_,_,rfl,k2,_,rfl,trivial,q⟩⟩
theorem vY {ls:List (Int × Int)}{i:Nat}{x:PV} (h:(aZ ls)[i]? = some x):∃ l,x = .tup [.int l.1,.int l.2]/\ls[i]? = some l:=by
 unfold aZ at h
 rw [aZ3] at h
 cases e:ls[i]? with
 | none=>rw [e] at h; cases h
 | some n=>rw [e] at h; exact⟨n,(aZ8 h).symm,rfl⟩
end Core
namespace PP
open PySem L2 PyProof.Rows
theorem Reps.rep {K:PySem.W.Frag}{M:Addr->Prop}{H:Hp}{us:List V}{xs:List PV} (r:Reps K M H us xs):∀ k:Nat,Reps K M H (List.replicate k us).flatten (List.replicate k xs).flatten
 | 0=>.nil
 | k+1=>by rw [bf9,bf9,bh0,bh0]; exact r.append (Reps.rep r k)
section
variable {X : Cx} {a b e : Expr} {ta tb te : aF} {tr : cO} {pos p2 p3 pos2 : Pos}
theorem aC6:eV X vX (fun xs H Q=>∃ a kvs,xs = [.ref a]/\H a=some (.dT kvs)/\∀ l ys,H l=none->Paired (p6 H) ys (kvs.map (·.1))->Q (.ref l) (upd H l (.lst ys))):=by
 rintro H vs xs Q Q' r ⟨ps,rfl,q⟩ k
 obtain ⟨v,rfl,r1⟩:=r.one
 cases r1 with
 | @dT a kvs _ m h e r2=>
  refine⟨a,kvs,rfl,h,fun l ys hl pr=>k _ _ _ (bQ hl _) (.lst hl bK ?_) q⟩
  have kv:∀ (k:List a9),Reps X.K (fun a=>H a=none) H (k.map kV) (k.map kP):=fun k=>by
   induction k with
   | nil=>exact .nil
   | cons a r ih=>exact .cons (by cases a <;> constructor) ih
  have go:∀ {ys:List V}{ks:List (List a9)},Paired (p6 H) ys ks->Reps X.K (fun a=>H a=none) H ys (ks.map fun k=>PV.tup (k.map kP)):=fun {ys ks} pr=>by
   induction pr with
   | nil=>exact .nil
   | cons h t ih=>
    obtain ⟨q,rfl,hq⟩:=h
    exact .cons (.tup hq (kv _)) ih
  have e2:(ps.map fun p=>PV.tup (p.1.map kP))=(kvs.map (·.1)).map fun k=>PV.tup (k.map kP):=by rw [e,bl5]; rfl
  rw [e2]
  exact (go pr).same (bQ hl _) fun _ z=>z
theorem aC7 (B:Bt X.mg) (hc:X.calm=true) (ha:QA X [e] tr) (hg:Gl X "list":=by rfl) (he:starEach [e] X.env=(false,eval e X.env) :: starEach [] X.env:=by rfl) (hpl:(backTo pos (starEach [] X.env)).any (·.1)=false:=by rfl):QE X (.Call (.Name "list" p2) [e] [] pos) (aC vX tr):=
 uU (an8 hc) aC6 hg B.list PyProof.Rows.boot_list ha (he:=he) (hpl:=hpl)
def vZ:V->Int
 | .int i=>i
 | _=>0
def kZ (H:Hp):V->List Int
 | .ref a=>match H a with
  | some (.tup us)=>us.map vZ
  | _=>[]
 | _=>[]
theorem aC8 {H:Hp}{a:Addr}{ns:List Int} (h:H a=some (.tup (ns.map V.int))):kZ H (.ref a)=ns:=by
 show (match H a with | some (.tup us)=>us.map vZ | _=>[])=ns
 rw [h]
 show (ns.map V.int).map vZ=ns
 rw [bl5]
 exact List.map_id _
theorem O6 {K:PySem.W.Frag}{M:Addr->Prop}{H:Hp}:∀ {us:List V}{ys:List (List Int)},Reps K M H us (ys.map fun r=>PV.tup (intz r))->us.map (kZ H)=ys/\∀ u ∈ us,∃ b,u = .ref b/\H b=some (.tup ((kZ H u).map V.int))
 | _,[],.nil=>⟨rfl,fun u h=>nomatch h⟩
 | _,y :: ys,.cons r t=>by
  obtain ⟨a,us,rfl,h,r1⟩:=r.sqT
  obtain rfl:=r1.ofInts
  obtain ⟨h1,h2⟩:=O6 t
  have hk:=aC8 h
  refine⟨by rw [bc5,h1,hk],fun u hu=>?_⟩
  rcases aX9.mp hu with rfl | hu
  ·exact⟨a,rfl,by rw [hk]; exact h⟩
  ·exact h2 u hu
theorem O7 {K:PySem.W.Frag}{M:Addr->Prop}{H:Hp}:∀ {us:List V},(∀ u ∈ us,∃ b,u = .ref b/\H b=some (.tup ((kZ H u).map V.int)))->Reps K M H us ((us.map (kZ H)).map fun r=>PV.tup (intz r))
 | [],_=>.nil
 | u :: us,h=>by
  obtain ⟨b,rfl,hb⟩:=h u aY1
  exact .cons (.tup hb (Reps.intz _)) (O7 fun v hv=>h v (aY2 _ hv))
end
def aC9 (K:PySem.W.Frag):Sp:=fun vs H Q _=>∃ (a:Addr) (ns:List Int),vs = [.ref a]/\(aG K H a (ns.map V.int) ∨ aJ K H a (ns.map V.int))/\ns.length<=1000/\∀ H',aD H H'->Q (.bl (Core.fZ ns)) H'
def O8:Sp:=fun vs H Q _=>∃ v ws ls,vs = [v]/\A1 H v ws ls/\ws.length<=1000/\ls.length<=2000/\(∀ l ∈ ls,(0<=l.1/\l.1 < ws.length)/\0<=l.2/\l.2 < ws.length)/\
 ∀ (r:Addr) (bs:List Addr) (H':Hp),bs.length=ws.length->iK H H' r bs (fun k=>aH ls k)->Q (.ref r) H'
section
variable {P : Program} {w : World} {K : PySem.W.Frag} {mg : Str → Option Value} {base : Heap} {f : Addr} {fd : FuncData} {k : Nat}
theorem O9 (F:cT P w K mg base dJ k f fd ["things"] (aC9 K)) (b:iF K fd ["things"] []) (kp:PySem.W.keepIn K (.ref f)=true) (m:mg "rises" = some (.ref f)):Df P w K mg base k "rises" ["things"] Core.N2:=by
 refine⟨f,fd,F.imp fun vs H Q E h=>?_,b,kp,m⟩
 obtain ⟨xs,Qp,r,⟨x,ns,rfl,hx,hl,q⟩,k⟩:=h
 obtain ⟨v,rfl,r1⟩:=r.one
 rcases hx with rfl | rfl
 ·obtain ⟨a,us,rfl,h,r2⟩:=r1.sqT
  obtain rfl:=r2.ofInts
  exact⟨a,ns,rfl,.inl (aG.of h),hl,fun H' s=>k _ H' _ s (.bl _) q⟩
 ·obtain ⟨a,us,rfl,_,h,r2⟩:=r1.sqL
  obtain rfl:=r2.ofInts
  exact⟨a,ns,rfl,.inr (aJ.of h),hl,fun H' s=>k _ H' _ s (.bl _) q⟩
theorem pA {M:Addr->Prop}{H:Hp}:∀ {us:List V}{ls:List (Int × Int)},Reps K M H us (ls.map fun l=>PV.tup [.int l.1,.int l.2])->lA H us ls
 | _,[],.nil=>.nil
 | _,l :: ls,.cons r t=>by
  obtain ⟨a,us,rfl,h,r1⟩:=r.sqT
  obtain ⟨u1,u2,rfl,q1,q2⟩:=r1.two
  cases q1; cases q2
  exact .cons ⟨a,rfl,h⟩ (pA t)
theorem aD0 {M:Addr->Prop}{H:Hp}{v:V}{ws:List Int}{ls:List (Int × Int)} (r:aE K M H v (Core.bJ ws ls)):A1 H v ws ls:=by
 obtain ⟨a,us,rfl,h,r1⟩:=aE.sqT r
 obtain ⟨u1,u2,rfl,q1,q2⟩:=r1.two
 obtain ⟨p,up,rfl,hp,rp⟩:=q1.sqT
 obtain ⟨q,uq,rfl,hq,rq⟩:=q2.sqT
 obtain rfl:=rp.ofInts
 exact⟨a,p,q,uq,rfl,h,hp,hq,pA rq⟩
theorem P0 {M:Addr->Prop}{H:Hp}:∀ {bs:List Addr}{ls:List (Int × Int)} (off:Nat),(∀ b ∈ bs,M b)->(∀ (k:Nat) b,bs[k]? = some b->H b=some (.lst ((aH ls ((off+k:Nat):Int)).map V.int)))->Reps K M H (bs.map V.ref) ((List.range' off bs.length).map fun (k:Nat)=>PV.lst (intz (aH ls k)))
 | [],_,_,_,_=>.nil
 | b :: bs,ls,off,hm,h=>by
  refine .cons (.lst (hm b aY1) (h 0 b rfl) (Reps.intz _)) (P0 (off+1) (fun c hc=>hm c (aY2 _ hc)) fun k c hk=>?_)
  have:=h (k+1) c (by rw [bd6]; exact hk)
  rw [show off+1+k=off+(k+1) by omega]; exact this
theorem aD1 (F:cT P w K mg base dJ k f fd ["web"] O8) (b:iF K fd ["web"] []) (kp:PySem.W.keepIn K (.ref f)=true) (m:mg "near_lists" = some (.ref f)):Df P w K mg base k "near_lists" ["web"] Core.iX:=by
 refine⟨f,fd,F.imp fun vs H Q E h=>?_,b,kp,m⟩
 obtain ⟨xs,Qp,r,⟨ws,ls,rfl,wb,q⟩,k⟩:=h
 obtain ⟨v,rfl,r1⟩:=r.one
 have:=wb.few
 have:=wb.most
 refine⟨v,ws,ls,rfl,aD0 r1,by omega,by omega,wb.links,fun t bs H' hb R=>k _ H' _ R.same (.lst R.new R.row ?_) q⟩
 have:=P0 (K:=K) (M:=fun a=>H a=none) (H:=H') (bs:=bs) (ls:=ls) 0 (fun b hb=>(R.news b hb).1) fun k b hk=>by rw [Nat.zero_add]; exact R.rows k b hk
 rw [hb,<- List.range_eq_range'] at this
 exact this
end
end PP
namespace Core
open PySem L2 PP
theorem P3 (n:Nat):(rng n).Nodup:=by
 unfold rng
 rw [List.nodup_iff_pairwise_ne,bg2]
 exact (List.nodup_range (n:=n)).imp fun h e=>h (by omega)
def two (l:Int × Int):List Int:=[l.1,l.2]
def o3 (r:List Int):Int × Int:=(r.getD 0 0,r.getD 1 0)
theorem l0 (ls:List (Int × Int)):aZ ls=(ls.map two).map fun r=>PV.tup (intz r):=by
 unfold aZ
 rw [bl5]; rfl
theorem w4 {zs:List (List Int)}{ls:List (Int × Int)} (h:zs.Perm (ls.map two)):∃ ls':List (Int × Int),zs=ls'.map two/\ls'.Perm ls:=by
 refine⟨zs.map o3,?_,?_⟩
 ·rw [bl5]
  have:∀ z ∈ zs,(two ∘ o3) z=z:=fun z hz=>by
   obtain ⟨l,_,rfl⟩:=bb9.mp (h.mem_iff.mp hz)
   rfl
  rw [List.map_congr_left this,List.map_id']
 ·have:=h.map o3
  rw [bl5] at this
  have e:ls.map (o3 ∘ two)=ls:=by
   have:∀ l ∈ ls,(o3 ∘ two) l=id l:=fun l _=>rfl
   rw [List.map_congr_left this,List.map_id]
  rw [e] at this
  exact this
theorem w5 {ls:List (Int × Int)} (so:(ls.map two).Pairwise fun u v=>HT.c9 v u=false) (nd:ls.Nodup):ls.Pairwise cR:=by
 rw [bg2] at so
 refine (List.pairwise_and_iff.mpr ⟨so,nd⟩).imp fun {a b} h=>?_
 obtain ⟨h1,h2⟩:=h
 unfold two at h1
 rw [HT.j7] at h1
 unfold cR
 by_cases e:b.1=a.1
 ·rw [if_pos e,HT.j7] at h1
  by_cases e2:b.2=a.2
  ·exact absurd (Prod.ext e.symm e2.symm) h2
  ·rw [if_neg e2] at h1
   have:=of_decide_eq_false h1
   omega
 ·rw [if_neg e] at h1
  have:=of_decide_eq_false h1
  omega
def eZ (l:Int × Int):List a9:=[Sum.inl l.1,Sum.inl l.2]
structure DL (n:Int) (ps:List (List a9 × PV)) (i:Nat):Prop where
 key:∀ p ∈ ps,∃ l:Int × Int,p.1=eZ l/\0<=l.1/\l.1 < l.2/\l.2 < n
 len:ps.length<=i
 fl:flats (ps.map (·.2))=true
 nd:(ps.map (·.1)).Nodup
theorem aD2 {κ:Type} [DecidableEq κ] {ps:List (κ × PV)} (k:κ) (v:PV) (h:(ps.map (·.1)).Nodup):((cD ps k v).map (·.1)).Nodup:=by
 unfold cD
 split
 ·rw [bl5]
  have:((fun x:κ × PV=>x.1) ∘ fun kv:κ × PV=>if kv.1=k then (kv.1,v) else kv)=fun x=>x.1:=by
   funext x
   show (if x.1=k then (x.1,v) else x).1=x.1
   split <;> rfl
  rw [this]; exact h
 ·rename_i hn
  rw [ba6]
  refine bi2.mpr ⟨h,ba8 _ _,fun x hx y hy e=>hn ?_⟩
  obtain ⟨p,hp,rfl⟩:=bb9.mp hx
  rw [aY3.mp hy] at e
  exact List.any_eq_true.mpr ⟨p,hp,aX4 e⟩
theorem aD3 {κ:Type} [DecidableEq κ] {ps:List (κ × PV)}{k:κ}{v:PV}{p:κ × PV} (h:p ∈ cD ps k v):p.1=k ∨ ∃ q ∈ ps,q.1=p.1:=by
 unfold cD at h
 split at h
 ·obtain ⟨q,hq,e⟩:=bb9.mp h
  split at e
  ·subst e; exact .inr ⟨q,hq,rfl⟩
  ·subst e; exact .inr ⟨q,hq,rfl⟩
 ·rcases bb6.mp h with h | h
  ·exact .inr ⟨p,h,rfl⟩
  ·rw [aY3.mp h]; exact .inl rfl
theorem DL.put {n:Int}{ps:List (List a9 × PV)}{i:Nat} (h:DL n ps i) (l:Int × Int) (hl:0<=l.1/\l.1 < l.2/\l.2 < n):DL n (cD ps (eZ l) (.bl true)) (i+1):=by
 refine⟨fun p hp=>?_,?_,vU h.fl rfl,aD2 _ _ h.nd⟩
 ·rcases aD3 hp with e | ⟨q,hq,e⟩
  ·exact⟨l,e,hl⟩
  ·obtain ⟨l',e',h'⟩:=h.key q hq
   exact⟨l',e ▸ e',h'⟩
 ·have:=vT ps (eZ l) (.bl true)
  have:=h.len
  omega
theorem DL.links {n:Int}:∀ {ps:List (List a9 × PV)},(∀ p ∈ ps,∃ l:Int × Int,p.1=eZ l/\0<=l.1/\l.1 < l.2/\l.2 < n)->∃ ls:List (Int × Int),(ps.map fun p=>PV.tup (p.1.map kP))=aZ ls/\(∀ l ∈ ls,0<=l.1/\l.1 < l.2/\l.2 < n)/\ls.length=ps.length/\ps.map (·.1)=ls.map eZ
 | [],_=>⟨[],rfl,(fun _ h=>nomatch h),rfl,rfl⟩
 | p :: ps,h=>by
  obtain ⟨l,e,hl⟩:=h p aY1
  obtain ⟨ls,h1,h2,h3,h4⟩:=DL.links (ps:=ps) fun q hq=>h q (aY2 _ hq)
  refine⟨l :: ls,?_,fun m hm=>?_,by rw [aZ7,aZ7,h3],by rw [bc5,bc5,h4,e]⟩
  ·rw [bc5,h1,e]; rfl
  ·rcases aX9.mp hm with rfl | hm
   ·exact hl
   ·exact h2 m hm
theorem aD4 {x:PV}{ns:List Int} (h:gA x ns):(Slot.sh (flat x) x).tag = .rd->flat x=true:=by
 cases flat x <;> intro z <;> cases z
theorem aD5 (ns:List Int) {k:Int} (h:0<=k):eF (intz ns) (some k) none=intz (ns.drop k.toNat):=by
 unfold eF
 have e1:HT.aT (intz ns).length 0 (some k)=min k.toNat (intz ns).length:=by
  have:=HT.ah6 (intz ns).length 0 k.toNat
  rw [show ((k.toNat:Nat):Int)=k by omega] at this
  exact this
 have e2:HT.aT (intz ns).length (intz ns).length none=(intz ns).length:=rfl
 rw [e1,e2,bD]
 rw [ba3 (by rw [bf6,bD]; omega)]
 show _=List.map PV.int _
 rw [List.map_drop]
 by_cases hk:k.toNat<=ns.length
 ·rw [Nat.min_eq_left hk]
 ·rw [Nat.min_eq_right (by omega),List.drop_of_length_le (by rw [bD]; omega),List.drop_of_length_le (by rw [bD]; omega)]
structure qT (i:Int) (ms:List Int):Prop where
 up:ms.Pairwise (· < ·)
 inn:∀ x ∈ ms,0<=x/\x < i
 len:(ms.length:Int)<=i
theorem qT.set {n:Nat}{ms:List Int} (h:qT (n:Int) ms):b9 n ms=true:=by
 unfold b9
 rw [vK h.up,Bool.true_and,bg8]
 intro b hb
 obtain ⟨x,hx,rfl⟩:=bb9.mp hb
 have:=h.inn x hx
 unfold inB
 simp [this]
def P4:bC:=fun xs Q=>∃ ns:List Int,xs = [.scr ns]/\ns.length<=63/\Q (.bl true)
structure aD6 (K:PySem.W.Frag):Prop where
 ii:PySem.W.kitOne K (.type "int") (.type "int")=some true
 ib:PySem.W.kitOne K (.type "int") (.type "bool")=some false
 tt:PySem.W.kitOne K (.type "tuple") (.type "tuple")=some true
 ll:PySem.W.kitOne K (.type "list") (.type "list")=some true
 bb:PySem.W.kitOne K (.type "bool") (.type "bool")=some true
theorem w6 (K:PySem.W.Frag):aD6 K:=by
 have same:∀ n:String,PySem.W.kitMeta n=true->True:=fun _ _=>trivial
 refine⟨?_,?_,?_,?_,?_⟩
 ·unfold PySem.W.kitOne; rw [if_pos (by decide)]
 ·have e:(if PySem.W.kitMeta "bool" = true then (fastBuiltinMro "int").map (·.contains (Value.type "bool")) else none)=some false:=by decide +kernel
  unfold PySem.W.kitOne
  rw [if_neg (by decide)]
  exact e
 ·unfold PySem.W.kitOne; rw [if_pos (by decide)]
 ·unfold PySem.W.kitOne; rw [if_pos (by decide)]
 ·unfold PySem.W.kitOne; rw [if_pos (by decide)]
end Core
namespace PP
open PySem L2 PyProof.Rows
theorem aD7 {P:Program}{w:World}{K:PySem.W.Frag}{mg:Str->Option Value}{base:Heap}{k:Nat}{x:Str}{ps N:List Str}{p:bC}{st:Stmt}{f:Addr}{fd:FuncData} (F:eR K x x st f fd) (S:FnScope N ps (aR st))
  (len:∀ xs Q,p xs Q->xs.length=ps.length)
  (body:∀ (cdv:Value) (A:Around) (outer:List Env) (s:Shared) (H:Hp) (E:XK),bZ k (A.deeper (envOfC x (aR st) s.heap.objs.size f cdv))->
   ∃ t,eG (cU dJ P w K mg base N x (aR st) f cdv A outer s H E).nox (dP st) t/\∀ xs Q,p xs Q->t { nx:=fun _=>Q .non,rt:=Q } (dS N xs)):cT P w K mg base dJ (k+1) f fd ps (nE K p):=by
 refine F.ok S (fun vs H Q E h=>?_) (fun cdv A outer s H vs Q E hr h=>?_)
 ·obtain ⟨xs,Qp,r,q,_⟩:=h
  rw [r.length]; exact len xs Qp q
 ·obtain ⟨xs,Qp,r,q,k⟩:=h
  obtain ⟨t,ht,hq⟩:=body cdv A outer s H E hr
  refine⟨_,ht,fun _=>False,dS N xs,_,v6 r,hq xs Qp q,?_,?_,?_,?_⟩
  ·exact fun W' σ' H' ρ' e px q=>k _ _ _ px.same .non q
  ·exact fun v H' x s r q=>k _ _ _ s r q
  ·exact fun W' σ' H' ρ' e px q=>q
  ·exact fun W' σ' H' ρ' e px q=>q
def qU (K:PySem.W.Frag):Sp:=fun vs H Q _=>∃ (a:Addr) (ns:List Int),vs = [.ref a]/\iL K H a ns/\ns.length<=63/\∀ H',Q (.bl true) H'
theorem aD8 {P:Program}{w:World}{K:PySem.W.Frag}{mg:Str->Option Value}{base:Heap}{k:Nat}{f:Addr}{fd:FuncData} (F:cT P w K mg base dJ k f fd ["script"] (nE K Core.P4)):cT P w K mg base dJ k f fd ["script"] (qU K):=
 F.imp fun vs H Q E h=>by
  obtain ⟨a,ns,rfl,hs,hl,q⟩:=h
  refine⟨[.scr ns],fun z=>z = .bl true,.cons (.scr hs) .nil,⟨ns,rfl,hl,rfl⟩,?_⟩
  rintro v H' x _ r rfl
  cases r
  exact q H'
theorem aD9 {K:PySem.W.Frag}{H:Hp}{a:Addr}{ns:List Int} (hO:oU H) (h:aJ K H a (ns.map V.int)):iL K H a ns:=by
 rcases h with (h | ⟨o,h⟩) | h
 ·rcases hO a with e | ⟨o,xs,e⟩ <;> (rw [h] at e; cases e)
 ·exact .inl ⟨o,h⟩
 ·exact .inr h
end PP
namespace PyProof.Rows
open PySem
end PyProof.Rows
namespace L2
open PySem PySem.Spec PyProof.Rows
def w9 (K:PySem.W.Frag) (a:Addr):It:=
  ⟨fun i H=>∃ xs x,aJ K H a xs/\xs[i]? = some x,
   fun i H v H'=>∃ T x,H T=none/\v = .ref T/\H'=upd H T (.tup [.int i,x])/\∀ xs,aJ K H a xs->xs[i]? = some x,
   fun i H=>∃ xs,aJ K H a xs/\xs.length<=i⟩
structure aE0 (e it a:Addr) (i:Nat) (h:Heap):Prop where
 ee:∃ old,IsEnum h e it i old
 s1:h.IsListIter it a i
theorem aE1 {P:Program}{w:World}{K:PySem.W.Frag}{elts:List Expr}{k:Nat}{pos:Pos} (a e it:Addr) (d:e ≠ it) :
  gR P w K (.Tuple elts k pos) (w9 K a) [e,it] e (aE0 e it a):=by
 refine⟨by simp,fun i h st c hc=>?_,fun i h h' st kp=>?_,?_,?_,fun A i s Q E st q=>?_⟩
 ·simp only [aX9,aY9,bc2] at hc
  obtain ⟨old,ee⟩:=st.ee
  obtain ⟨o1,f1,g1,d1⟩:=st.s1
  rcases hc with rfl | rfl
  ·exact⟨_,ee,fun v q=>by cases q⟩
  ·exact⟨_,f1,fun v q=>by rw [d1] at q; cases q⟩
 ·obtain ⟨old,ee⟩:=st.ee
  exact⟨⟨old,kp e (by simp) _ ee⟩,st.s1.at fun o z=>kp it (by simp) o z⟩
 ·intro X hP hw hK hc i pins s σ H E I hf st hg
  subst hP hw hK
  obtain ⟨xs,x,ha,hx⟩:=hg
  obtain ⟨us,ru,pu,lu⟩:=I.list ha
  obtain ⟨ux,eux,rux⟩:=ru.get hx
  obtain ⟨old,ee⟩:=st.ee
  refine wpAny_pyNext_enum_item ee st.s1 pu.isList (by simpa using eux) d fun h' eo it' pr sz kp=>⟨_,rfl,?_⟩
  refine wpAny_letOwnedTupleGo_enum (s:={ s with heap:=h',toks:=s.toks+1 }) eo fun g zz sb=>?_
  have hzl:e < s.heap.objs.size:=aY6 ee
  have up:∀ c o,c ≠ e->c ≠ it->s.heap.get? c=some o->g.get? c=some o:=fun c o c1 c2 z=>sb.extBut c o c1 (kp c o c1 c2 z)
  have hT:H s.heap.objs.size=none:=I.hok.fresh (aX7 _)
  have prG:g.get? s.heap.objs.size=some { cls:=.type "tuple",data:=.seq #[.int i s.toks,ux] }:=sb.extBut _ _ (be6 hzl) pr
  have fpn:∀ c u,H c=some u->c ∉ [e,it]:=fun c u z hm=>by rw [(hf c hm).1] at z; cases z
  have upH:∀ c o u,H c=some u->s.heap.get? c=some o->g.get? c=some o:=fun c o u q z=>by
   have:=fpn c u q
   simp only [aX9,aY9,bc2,not_or] at this
   exact up c o this.1 this.2 z
  have ns:∀ m,s.heap.Ns X.env.locals m->g.Ns X.env.locals m:=fun m hm=>by
   obtain ⟨o,es,ep,e1,e2⟩:=hm
   exact⟨o,es,ep,up _ o (Ne.symm (hf e (by simp)).2.1) (Ne.symm (hf it (by simp)).2.1) e1,e2⟩
  have I2:a6 X pins σ (upd H s.heap.objs.size (.tup [.int i,x])) { s with heap:=g,toks:=s.toks+1 }:=by
   refine I.step (g':=s.gens) (d':=s.drawn) (ch:=[e,it]) (fun c hc'=>?_) (fun c o _ _ hc' z _=>?_) (fun c o _ _ hc' z _=>⟨o.slots,?_⟩) (fun c o _ z n=>?_) (fun c o hc' z=>⟨o,?_⟩)
    (fun c zs z=>by rw [aV (cG z hT)]; exact z) (fun c u zs z=>by rw [aV (cG z hT)]; exact z) (fun c ps z=>⟨#[],by rw [aV (cG z hT),z]; simp⟩) ns (fun c u z=>?_) I.bare
   ·exact⟨(hf c hc').2.2.2.1,(hf c hc').2.1,(hf c hc').2.2.2.2.1,(hf c hc').2.2.2.2.2⟩
   ·simp only [aX9,aY9,bc2,not_or] at hc'
    exact up c o hc'.1 hc'.2 z
   ·simp only [aX9,aY9,bc2,not_or] at hc'
    exact up c o hc'.1 hc'.2 z
   ·rw [aV (ba2 (aY6 z))]; exact n
   ·simp only [aX9,aY9,bc2,not_or] at hc'
    exact up c o hc'.1 hc'.2 z
   ·by_cases hcT:c=s.heap.objs.size
    ·subst hcT
     rw [bK] at z; cases z
     exact⟨by show 2<=sizeLine; decide,[.int i s.toks,ux],.cons ⟨_,rfl⟩ (.cons rux .nil),⟨_,prG,rfl,_,rfl⟩,fun u e=>by rw [prG] at e; cases e; rfl⟩
    ·rw [aV hcT] at z
     refine (I.hok c u z).stay (fun c' o' hc2 q'=>?_) (fun c' q'=>by rw [aV (cG q' hT)]; exact q') fun c' zs q'=>by rw [aV (cG q' hT)]; exact q'
     rcases hc2 with rfl | hc2
     ·exact upH _ _ _ z q'
     ·exact upH _ _ _ hc2 q'
  refine⟨.ref s.heap.objs.size,_,I2,rfl,⟨_,x,hT,rfl,rfl,fun xs' ha'=>?_⟩,⟨⟨ux,by push_cast; exact zz⟩,it'.at fun o z=>sb.extBut _ o (Ne.symm d) z⟩,fun c hc'=>?_⟩
  ·rw [I.list_inj ha' ha]; exact hx
  ·obtain ⟨o,z⟩:∃ o,s.heap.get? c=some o:=by
    simp only [aX9,aY9,bc2] at hc'
    obtain ⟨o1,f1,_⟩:=st.s1
    rcases hc' with rfl | rfl
    ·exact⟨_,ee⟩
    ·exact⟨_,f1⟩
   rw [aV (ba2 (aY6 z))]; exact (hf c hc').1
 ·intro X hP hw hK hc i pins s σ H E I hf st hg
  subst hP hw hK
  obtain ⟨xs,ha,hi⟩:=hg
  obtain ⟨us,ru,pu,lu⟩:=I.list ha
  obtain ⟨old,ee⟩:=st.ee
  have hh:X.A.handled=none:=I.ok.hd hc
  have e1:=ru.length
  refine wpAny_pyNext_enum_end hh ee st.s1 pu.isList (by rw [Array.getElem?_eq_none]; simp only [aX6]; omega) fun g kp=>⟨rfl,?_⟩
  have fpn:∀ c u,H c=some u->c ∉ [e,it]:=fun c u z hm=>by rw [(hf c hm).1] at z; cases z
  have upH:∀ c o u,H c=some u->s.heap.get? c=some o->g.get? c=some o:=fun c o u q z=>by
   have:=fpn c u q
   simp only [aX9,aY9,bc2,not_or] at this
   exact kp c o this.2 z
  have ns:∀ m,s.heap.Ns X.env.locals m->g.Ns X.env.locals m:=fun m hm=>by
   obtain ⟨o,es,ep,e1,e2⟩:=hm
   exact⟨o,es,ep,kp _ o (Ne.symm (hf it (by simp)).2.1) e1,e2⟩
  refine I.step (g':=s.gens) (d':=s.drawn) (ch:=[it]) (fun c hc'=>?_) (fun c o _ _ hc' z _=>?_) (fun c o _ _ hc' z _=>⟨o.slots,?_⟩) (fun c o _ z n=>n) (fun c o hc' z=>⟨o,?_⟩)
   (fun c zs z=>z) (fun c u zs z=>z) (fun c ps z=>⟨#[],by rw [z]; simp⟩) ns (fun c u z=>?_) I.bare
  ·have hm:c ∈ [e,it]:=aY2 _ hc'
   exact⟨(hf c hm).2.2.2.1,(hf c hm).2.1,(hf c hm).2.2.2.2.1,(hf c hm).2.2.2.2.2⟩
  ·exact kp c o (fun y=>hc' (by rw [y]; simp)) z
  ·exact kp c o (fun y=>hc' (by rw [y]; simp)) z
  ·exact kp c o (fun y=>hc' (by rw [y]; simp)) z
  ·refine (I.hok c u z).stay (fun c' o' hc2 q'=>?_) (fun _ q'=>q') fun _ _ q'=>q'
   rcases hc2 with rfl | hc2
   ·exact upH _ _ _ z q'
   ·exact upH _ _ _ hc2 q'
 ·obtain ⟨old,ee⟩:=st.ee
  exact wpAny_pyIter_enum ee q
end L2
namespace Zp
open PySem PyProof.Rows
section
variable {prog : Program} {w : World} {A : Around} {E : Value → Shared → Prop} {s : Shared}
theorem aE2 {e it t:Addr}{i:Nat}{items:Array Value}{x old:Value}{Q:Option Value->Shared->Prop} (he:IsEnum s.heap e it i old) (hi:s.heap.IsTupleIter it t i) (ht:s.heap.IsTuple t items) (hx:items[i]? = some x) (ne:e ≠ it)
  (q:∀ h',IsEnumOut h' e it ((i:Int)+1) x s.heap.objs.size->h'.IsTupleIter it t (i+1)->h'.get? s.heap.objs.size=some { cls:=.type "tuple",data:=.seq #[.int i s.toks,x] }->h'.objs.size=s.heap.objs.size+1->
   (∀ b o,b ≠ e->b ≠ it->s.heap.get? b=some o->h'.get? b=some o)->Q (some (.ref s.heap.objs.size)) { s with heap:=h',toks:=s.toks+1 }):wpAny (model prog w) A (pyNext (.ref e)) Q E s:=by
 have T:s.TypeIs (.ref e) "enumerate":=⟨_,he,rfl⟩
 have slot:=PySem.F.slot_enumerate_next
 unfold pyNext
 apply aX0
 apply wpAny_attempt
 apply bd5 (name:=Str.ofString "__next__") T slot
 apply be1 slot T PySem.F.entry_enumerate_next _ (PySem.F.args_enumerate_next_1 _)
 change wpAny _ _ (field (.ref e) 2 >>= _) _ _ _
 apply aX0
 refine bd4 he rfl (x:=.ref it) rfl ?_
 apply aX0
 refine A2 hi ht hx fun g1 it1 sb1=>?_
 have e1:IsEnum g1 e it i old:=sb1.extBut _ _ ne he
 change wpAny _ _ (field (.ref e) 3 >>= _) _ _ _
 apply aX0
 refine bd4 e1 rfl (x:=rawInt i) rfl ?_
 change wpAny _ _ (field (.ref e) 4 >>= _) _ _ _
 apply aX0
 refine bd4 e1 rfl (x:=.none) rfl ?_
 change wpAny _ _ (mkInt i >>= _) _ _ _
 apply aX0
 refine wpAny_mkInt ?_
 change wpAny _ _ (setField (.ref e) 3 (rawInt ((i:Int)+1)) >>= _) _ _ _
 apply aX0
 refine be4 e1 (by simp) fun g2 e2 sb2=>?_
 apply aX0
 refine be4 e2 (by simp) fun g3 e3 sb3=>?_
 have e3:IsEnum g3 e it ((i:Int)+1) old:=e3
 apply aX0
 refine wpAny_newTuple ?_ (by show 2<=sizeLine; decide)
 have e4:IsEnum (g3.push { cls:=.type "tuple",data:=.seq #[.int i s.toks,x] }) e it ((i:Int)+1) old:=aX2 _ e3
 have size:g3.objs.size=s.heap.objs.size:=by rw [sb3.1,sb2.1,sb1.1]
 change wpAny _ _ (Builtin.SmallTypes.ownedTupleIsFree (.ref e) >>= _) _ _ _
 apply aX0
 unfold Builtin.SmallTypes.ownedTupleIsFree
 apply aX0
 refine bd4 e4 rfl (x:=.none) rfl (aX8 ?_)
 simp only [if_true]
 apply aX0
 apply bj9
 apply aX0
 refine bd4 e4 rfl (x:=old) rfl ?_
 apply aX0
 refine be4 e4 (by simp) fun g5 e5 sb5=>?_
 apply aX0
 unfold Builtin.SmallTypes.ownedTupleHandOut
 apply aX0
 refine be4 e5 (by simp) fun g6 e6 sb6=>?_
 refine be4 e6 (by simp) fun g7 e7 sb7=>?_
 have e7:IsEnumOut g7 e it ((i:Int)+1) x g3.objs.size:=e7
 have elt:e < g3.objs.size:=aY6 e3
 have up:∀ c o,c ≠ e->(g3.push { cls:=.type "tuple",data:=.seq #[.int i s.toks,x] }).get? c=some o->g7.get? c=some o:=fun c o c1 z=>sb7.extBut c o c1 (sb6.extBut c o c1 (sb5.extBut c o c1 z))
 have up3:∀ c o,c ≠ e->g1.get? c=some o->g7.get? c=some o:=fun c o c1 z=>up c o c1 (aX2 _ (sb3.extBut c o c1 (sb2.extBut c o c1 z)))
 have p7:g7.get? g3.objs.size=some { cls:=.type "tuple",data:=.seq #[.int i s.toks,x] }:=up _ _ (be6 elt) (aY8 _ rfl)
 have s7:g7.objs.size=g3.objs.size+1:=by rw [sb7.1,sb6.1,sb5.1,bg4]
 apply aX0
 apply wpAny_letGo
 apply aX8
 rw [size] at e7 p7 s7
 refine⟨_,rfl,aX8 ?_⟩
 change Q (some (.ref g3.objs.size)) _
 rw [size]
 exact q g7 e7 (it1.at fun o z=>up3 it o (Ne.symm ne) z) p7 s7 fun b o b1 b2 z=>up3 b o b1 (sb1.extBut b o b2 z)
theorem aE3 {e it t:Addr}{i:Nat}{items:Array Value}{old:Value}{Q:Option Value->Shared->Prop} (hh:A.handled=none) (he:IsEnum s.heap e it i old) (hi:s.heap.IsTupleIter it t i) (ht:s.heap.IsTuple t items) (hx:items[i]? = none)
  (q:∀ h',Heap.ExtBut it s.heap h'->Q none { s with heap:=h' }):wpAny (model prog w) A (pyNext (.ref e)) Q E s:=by
 have T:s.TypeIs (.ref e) "enumerate":=⟨_,he,rfl⟩
 have slot:=PySem.F.slot_enumerate_next
 unfold pyNext
 apply aX0
 apply wpAny_attempt
 apply bd5 (name:=Str.ofString "__next__") T slot
 apply be1 slot T PySem.F.entry_enumerate_next _ (PySem.F.args_enumerate_next_1 _)
 change wpAny _ _ (field (.ref e) 2 >>= _) _ _ _
 apply aX0
 refine bd4 he rfl (x:=.ref it) rfl ?_
 apply aX0
 refine A3 hh hi ht hx fun g2 ex eb exo=>?_
 obtain ⟨oe,eo,co⟩:=exo
 apply aX0
 refine wpAny_isInstance (T:="StopIteration") (b:=true) ⟨oe,eo,co⟩ isSubtype_stop ?_
 exact aX8 (q g2 eb)
theorem aE4 {M:Model}{A:Around}{E:Value->Shared->Prop}{s:Shared}{α:Type}{c:Prop} [Decidable c] {m n:Sem α}{Q:α->Shared->Prop} (h1:wpAny M A m Q E s) (h2:wpAny M A n Q E s):wpAny M A (if c then m else n) Q E s:=by
 split
 ·exact h1
 ·exact h2
theorem aE5 (t:Addr) (xs:Array Value):Meets (Builtin.«enumerate.__new__» ⟨[.type "enumerate",.ref t],[]⟩) (fun _ R s=>s.heap.IsTuple t xs/\R (.ok (.ret (.ref (s.heap.objs.size+1)))) { s with heap:=(s.heap.push { cls:=.type "tuple_iterator",data:=.fields #[.ref t,.int 0 0] }).push { cls:=.type "enumerate",data:=.fields #[.none,.bool false,.ref s.heap.objs.size,rawInt 0,.none,.none] } }):=
 .of_wp fun prog w A R s h=>by
  obtain ⟨hp,g,d,tk,os⟩:=s
  obtain ⟨ht,h⟩:=h
  have sub:=sub_enumerate
  have a1:Heap.IsTuple (Shared.heap ⟨hp,g,d,tk,os⟩) t xs:=ht
  wp_walk using bh3 a1
  refine wpAny_stack_any fun st=>aX8 ?_
  refine aE4 ?_ ?_
  all_goals
   apply aX0
   refine wpAny_of_eq (a:=(Value.ref t,none)) rfl ?_
   wp_walk using bh3 a1
   have e:∀ (o:Obj) (k:Heap),(k.push o).objs.size=k.objs.size+1:=fun o k=>bg4 ..
   refine⟨_,rfl,?_⟩
   simp only [e] at h ⊢
   exact h
theorem aE6 {t:Addr}{xs:Array Value}{Q:Value->Shared->Prop} (ht:s.heap.IsTuple t xs)
  (q:∀ h',IsEnum h' (s.heap.objs.size+1) s.heap.objs.size 0 .none->h'.IsTupleIter s.heap.objs.size t 0->h'.objs.size=s.heap.objs.size+2->(∀ c o,s.heap.get? c=some o->h'.get? c=some o)->Q (.ref (s.heap.objs.size+1)) { s with heap:=h' }) :
  wpAny (model prog w) A (call (.type "enumerate") [.ref t]) Q E s:=by
 refine callType_new PySem.F.called_enumerate (by decide) (PySem.F.typeCall_enumerate_1 _) (PySem.F.newCall_enumerate_1 _) (fun obj=>PySem.F.args_object_init_2 obj _) PySem.F.entry_enumerate_new (aE5 t xs) ⟨ht,?_⟩
 have e:∀ (o:Obj) (k:Heap),(k.push o).objs.size=k.objs.size+1:=fun o k=>bg4 ..
 have g0:((s.heap.push { cls:=.type "tuple_iterator",data:=.fields #[.ref t,.int 0 0] }).push { cls:=.type "enumerate",data:=.fields #[.none,.bool false,.ref s.heap.objs.size,rawInt 0,.none,.none] }).get? s.heap.objs.size=some { cls:=.type "tuple_iterator",data:=.fields #[.ref t,.int 0 0] }:=aX2 _ (aY8 _ rfl)
 have g1:((s.heap.push { cls:=.type "tuple_iterator",data:=.fields #[.ref t,.int 0 0] }).push { cls:=.type "enumerate",data:=.fields #[.none,.bool false,.ref s.heap.objs.size,rawInt 0,.none,.none] }).get? (s.heap.objs.size+1)=some { cls:=.type "enumerate",data:=.fields #[.none,.bool false,.ref s.heap.objs.size,rawInt 0,.none,.none] }:=by
  have:=aY8 (h:=s.heap.push { cls:=.type "tuple_iterator",data:=.fields #[.ref t,.int 0 0] }) (o:={ cls:=.type "enumerate",data:=.fields #[.none,.bool false,.ref s.heap.objs.size,rawInt 0,.none,.none] }) rfl
  rw [e] at this; exact this
 exact⟨⟨_,g1,rfl⟩,q _ g1 ⟨_,g0,rfl,rfl⟩ (by rw [e,e]) fun c o z=>aX2 _ (aX2 _ z)⟩
end
end Zp
namespace L2
open PySem PySem.Spec PyProof.Rows
def wA (K:PySem.W.Frag) (a:Addr):It:=
  ⟨fun i H=>∃ xs x,aG K H a xs/\xs[i]? = some x,
   fun i H v H'=>∃ T x,H T=none/\v = .ref T/\H'=upd H T (.tup [.int i,x])/\∀ xs,aG K H a xs->xs[i]? = some x,
   fun i H=>∃ xs,aG K H a xs/\xs.length<=i⟩
structure aE7 (e it a:Addr) (i:Nat) (h:Heap):Prop where
 ee:∃ old,IsEnum h e it i old
 s1:h.IsTupleIter it a i
theorem aE8 {P:Program}{w:World}{K:PySem.W.Frag}{elts:List Expr}{k:Nat}{pos:Pos} (a e it:Addr) (d:e ≠ it) :
  gR P w K (.Tuple elts k pos) (wA K a) [e,it] e (aE7 e it a):=by
 refine⟨by simp,fun i h st c hc=>?_,fun i h h' st kp=>?_,?_,?_,fun A i s Q E st q=>?_⟩
 ·simp only [aX9,aY9,bc2] at hc
  obtain ⟨old,ee⟩:=st.ee
  obtain ⟨o1,f1,g1,d1⟩:=st.s1
  rcases hc with rfl | rfl
  ·exact⟨_,ee,fun v q=>by cases q⟩
  ·exact⟨_,f1,fun v q=>by rw [d1] at q; cases q⟩
 ·obtain ⟨old,ee⟩:=st.ee
  exact⟨⟨old,kp e (by simp) _ ee⟩,st.s1.at fun o z=>kp it (by simp) o z⟩
 ·intro X hP hw hK hc i pins s σ H E I hf st hg
  subst hP hw hK
  obtain ⟨xs,x,ha,hx⟩:=hg
  obtain ⟨us,ru,pu,lu⟩:=I.tuple ha
  obtain ⟨ux,eux,rux⟩:=ru.get hx
  obtain ⟨old,ee⟩:=st.ee
  refine Zp.aE2 ee st.s1 pu (by simpa using eux) d fun h' eo it' pr sz kp=>⟨_,rfl,?_⟩
  refine wpAny_letOwnedTupleGo_enum (s:={ s with heap:=h',toks:=s.toks+1 }) eo fun g zz sb=>?_
  have hzl:e < s.heap.objs.size:=aY6 ee
  have up:∀ c o,c ≠ e->c ≠ it->s.heap.get? c=some o->g.get? c=some o:=fun c o c1 c2 z=>sb.extBut c o c1 (kp c o c1 c2 z)
  have hT:H s.heap.objs.size=none:=I.hok.fresh (aX7 _)
  have prG:g.get? s.heap.objs.size=some { cls:=.type "tuple",data:=.seq #[.int i s.toks,ux] }:=sb.extBut _ _ (be6 hzl) pr
  have fpn:∀ c u,H c=some u->c ∉ [e,it]:=fun c u z hm=>by rw [(hf c hm).1] at z; cases z
  have upH:∀ c o u,H c=some u->s.heap.get? c=some o->g.get? c=some o:=fun c o u q z=>by
   have:=fpn c u q
   simp only [aX9,aY9,bc2,not_or] at this
   exact up c o this.1 this.2 z
  have ns:∀ m,s.heap.Ns X.env.locals m->g.Ns X.env.locals m:=fun m hm=>by
   obtain ⟨o,es,ep,e1,e2⟩:=hm
   exact⟨o,es,ep,up _ o (Ne.symm (hf e (by simp)).2.1) (Ne.symm (hf it (by simp)).2.1) e1,e2⟩
  have I2:a6 X pins σ (upd H s.heap.objs.size (.tup [.int i,x])) { s with heap:=g,toks:=s.toks+1 }:=by
   refine I.step (g':=s.gens) (d':=s.drawn) (ch:=[e,it]) (fun c hc'=>?_) (fun c o _ _ hc' z _=>?_) (fun c o _ _ hc' z _=>⟨o.slots,?_⟩) (fun c o _ z n=>?_) (fun c o hc' z=>⟨o,?_⟩)
    (fun c zs z=>by rw [aV (cG z hT)]; exact z) (fun c u zs z=>by rw [aV (cG z hT)]; exact z) (fun c ps z=>⟨#[],by rw [aV (cG z hT),z]; simp⟩) ns (fun c u z=>?_) I.bare
   ·exact⟨(hf c hc').2.2.2.1,(hf c hc').2.1,(hf c hc').2.2.2.2.1,(hf c hc').2.2.2.2.2⟩
   ·simp only [aX9,aY9,bc2,not_or] at hc'
    exact up c o hc'.1 hc'.2 z
   ·simp only [aX9,aY9,bc2,not_or] at hc'
    exact up c o hc'.1 hc'.2 z
   ·rw [aV (ba2 (aY6 z))]; exact n
   ·simp only [aX9,aY9,bc2,not_or] at hc'
    exact up c o hc'.1 hc'.2 z
   ·by_cases hcT:c=s.heap.objs.size
    ·subst hcT
     rw [bK] at z; cases z
     exact⟨by show 2<=sizeLine; decide,[.int i s.toks,ux],.cons ⟨_,rfl⟩ (.cons rux .nil),⟨_,prG,rfl,_,rfl⟩,fun u e=>by rw [prG] at e; cases e; rfl⟩
    ·rw [aV hcT] at z
     refine (I.hok c u z).stay (fun c' o' hc2 q'=>?_) (fun c' q'=>by rw [aV (cG q' hT)]; exact q') fun c' zs q'=>by rw [aV (cG q' hT)]; exact q'
     rcases hc2 with rfl | hc2
     ·exact upH _ _ _ z q'
     ·exact upH _ _ _ hc2 q'
  refine⟨.ref s.heap.objs.size,_,I2,rfl,⟨_,x,hT,rfl,rfl,fun xs' ha'=>?_⟩,⟨⟨ux,by push_cast; exact zz⟩,it'.at fun o z=>sb.extBut _ o (Ne.symm d) z⟩,fun c hc'=>?_⟩
  ·rw [I.tuple_inj ha' ha]; exact hx
  ·obtain ⟨o,z⟩:∃ o,s.heap.get? c=some o:=by
    simp only [aX9,aY9,bc2] at hc'
    obtain ⟨o1,f1,_⟩:=st.s1
    rcases hc' with rfl | rfl
    ·exact⟨_,ee⟩
    ·exact⟨_,f1⟩
   rw [aV (ba2 (aY6 z))]; exact (hf c hc').1
 ·intro X hP hw hK hc i pins s σ H E I hf st hg
  subst hP hw hK
  obtain ⟨xs,ha,hi⟩:=hg
  obtain ⟨us,ru,pu,lu⟩:=I.tuple ha
  obtain ⟨old,ee⟩:=st.ee
  have hh:X.A.handled=none:=I.ok.hd hc
  have e1:=ru.length
  refine Zp.aE3 hh ee st.s1 pu (by rw [Array.getElem?_eq_none]; simp only [aX6]; omega) fun g kp=>⟨rfl,?_⟩
  have fpn:∀ c u,H c=some u->c ∉ [e,it]:=fun c u z hm=>by rw [(hf c hm).1] at z; cases z
  have upH:∀ c o u,H c=some u->s.heap.get? c=some o->g.get? c=some o:=fun c o u q z=>by
   have:=fpn c u q
   simp only [aX9,aY9,bc2,not_or] at this
   exact kp c o this.2 z
  have ns:∀ m,s.heap.Ns X.env.locals m->g.Ns X.env.locals m:=fun m hm=>by
   obtain ⟨o,es,ep,e1,e2⟩:=hm
   exact⟨o,es,ep,kp _ o (Ne.symm (hf it (by simp)).2.1) e1,e2⟩
  refine I.step (g':=s.gens) (d':=s.drawn) (ch:=[it]) (fun c hc'=>?_) (fun c o _ _ hc' z _=>?_) (fun c o _ _ hc' z _=>⟨o.slots,?_⟩) (fun c o _ z n=>n) (fun c o hc' z=>⟨o,?_⟩)
   (fun c zs z=>z) (fun c u zs z=>z) (fun c ps z=>⟨#[],by rw [z]; simp⟩) ns (fun c u z=>?_) I.bare
  ·have hm:c ∈ [e,it]:=aY2 _ hc'
   exact⟨(hf c hm).2.2.2.1,(hf c hm).2.1,(hf c hm).2.2.2.2.1,(hf c hm).2.2.2.2.2⟩
  ·exact kp c o (fun y=>hc' (by rw [y]; simp)) z
  ·exact kp c o (fun y=>hc' (by rw [y]; simp)) z
  ·exact kp c o (fun y=>hc' (by rw [y]; simp)) z
  ·refine (I.hok c u z).stay (fun c' o' hc2 q'=>?_) (fun _ q'=>q') fun _ _ q'=>q'
   rcases hc2 with rfl | hc2
   ·exact upH _ _ _ z q'
   ·exact upH _ _ _ hc2 q'
 ·obtain ⟨old,ee⟩:=st.ee
  exact wpAny_pyIter_enum ee q
section
variable {X : Cx}
def P5 (K:PySem.W.Frag) (ta:TA):TI:=fun σ H R=>ta σ H fun vs H1=>∃ a,vs = [.ref a]/\((∃ xs,aJ K H1 a xs/\R (w9 K a) H1) ∨ (∃ xs,aG K H1 a xs/\R (wA K a) H1))
theorem aE9 {elts:List Expr}{kt:Nat}{pt:Pos}{a:Expr}{ta:TA}{p pos:Pos} (hg:Gl X "enumerate") (hm:X.mg "enumerate" = none) (ha:PA X [a] ta) (hs:starEach [a] X.env = [(false,eval a X.env)]:=by rfl) :
  PI X (.Tuple elts kt pt) (.Call (.Name "enumerate" p) [a] [] pos) (P5 X.K ta):=by
 intro pins s σ H R I h
 refine Call_ (jX I hg hm PyProof.Rows.boot_enumerate (bh8 (aP (ha pos pins s σ H _ I h) fun us s1 ⟨vs,H1,I1,r1,q1⟩=>?_) (by rw [hs]; rfl) (by rfl)))
 obtain ⟨a',e,q⟩:=q1
 subst e
 have fresh:∀ k,H1 (s1.heap.objs.size+k)=none:=fun k=>I1.hok.fresh (bi8 _ _)
 cases r1 with
 | cons r rr=>
  cases rr
  cases r
  rcases q with ⟨xs,h1,q⟩ | ⟨xs,h1,q⟩
  ·obtain ⟨us,_,p1,_⟩:=I1.list h1
   refine call_enumerate_list p1.isList fun h' z s1' sz kp=>wpAny_pyIter_enum z ?_
   refine⟨s1.heap.objs.size+1,[s1.heap.objs.size+1,s1.heap.objs.size],_,_,H1,rfl,I1.kept (t':=s1.toks) kp,
    aE1 a' _ _ (Nat.succ_ne_self _),⟨⟨_,z⟩,s1'⟩,fun c hc=>?_,q⟩
   simp only [aX9,aY9,bc2] at hc
   rcases hc with rfl | rfl
   ·exact I1.fpOk (bi8 _ _) (fresh 1)
   ·exact I1.fpOk (aX7 _) (fresh 0)
  ·obtain ⟨us,_,p1,_⟩:=I1.tuple h1
   refine Zp.aE6 p1 fun h' z s1' sz kp=>wpAny_pyIter_enum z ?_
   refine⟨s1.heap.objs.size+1,[s1.heap.objs.size+1,s1.heap.objs.size],_,_,H1,rfl,I1.kept (t':=s1.toks) kp,
    aE8 a' _ _ (Nat.succ_ne_self _),⟨⟨_,z⟩,s1'⟩,fun c hc=>?_,q⟩
   simp only [aX9,aY9,bc2] at hc
   rcases hc with rfl | rfl
   ·exact I1.fpOk (bi8 _ _) (fresh 1)
   ·exact I1.fpOk (aX7 _) (fresh 0)
end
end L2
namespace PP
open PySem L2 PyProof.Rows
def iY (xs:List PV):List PV:=xs.mapIdx fun i x=>PV.tup [.int (i:Int),x]
theorem wB (xs:List PV):(iY xs).length=xs.length:=by unfold iY; rw [List.length_mapIdx]
theorem P6 {xs:List PV}{i:Nat}{x:PV} (h:xs[i]? = some x):(iY xs)[i]? = some (.tup [.int (i:Int),x]):=by
 unfold iY; rw [List.getElem?_mapIdx,h]; rfl
theorem aF0 {xs:List PV}{i:Nat}{z:PV} (h:(iY xs)[i]? = some z):∃ x,xs[i]? = some x/\z = .tup [.int (i:Int),x]:=by
 unfold iY at h
 rw [List.getElem?_mapIdx] at h
 cases e:xs[i]? with
 | none=>rw [e] at h; cases h
 | some x=>rw [e] at h; exact⟨x,rfl,(aZ8 h).symm⟩
def wC (te:aF):dR:=fun ρ Q=>te ρ fun x g=>∃ xs,(x = .lst xs ∨ x = .tup xs)/\(g = .rd->flat x=true)/\Q (iY xs) (uD g xs)
theorem aF1 {K:PySem.W.Frag}{H0:Hp}{W:Addr->Prop}{g:Bool}{H1:Hp}{a:Addr}{us:List V}{xs:List PV} (tw:∀ a,W a->∃ o,H1 a=some o/\eU o=true) (ha:∀ W' H',Ev W H1 W' H'->aJ K H' a us) (r:Reps K (Ms H0 W g) H1 us xs):jG K H0 W g H1 (w9 K a) (iY xs):=by
 have lr:=r.length
 have ll:=wB xs
 refine⟨fun W' H' i e hi=>⟨us,us[i]'(by omega),ha W' H' e,by simp⟩,fun W' H' i v H2 e y hi=>?_,fun W' H' e=>⟨us,ha W' H' e,by omega⟩⟩
 obtain ⟨T,x,hT,rfl,rfl,y⟩:=y
 obtain ⟨z,hz,rz⟩:=r.get (y us (ha W' _ e))
 have sm:=bQ hT (HO.tup [.int (i:Int),x])
 exact⟨sm,_,P6 hz,.tup bK (.cons (.int _) (.cons ((rz.keep (e.keep tw)).same sm fun _ q=>q) .nil))⟩
theorem aF2 {K:PySem.W.Frag}{H0:Hp}{W:Addr->Prop}{g:Bool}{H1:Hp}{a:Addr}{us:List V}{xs:List PV} (tw:∀ a,W a->∃ o,H1 a=some o/\eU o=true) (ha:∀ W' H',Ev W H1 W' H'->aG K H' a us) (r:Reps K (Ms H0 W g) H1 us xs):jG K H0 W g H1 (wA K a) (iY xs):=by
 have lr:=r.length
 have ll:=wB xs
 refine⟨fun W' H' i e hi=>⟨us,us[i]'(by omega),ha W' H' e,by simp⟩,fun W' H' i v H2 e y hi=>?_,fun W' H' e=>⟨us,ha W' H' e,by omega⟩⟩
 obtain ⟨T,x,hT,rfl,rfl,y⟩:=y
 obtain ⟨z,hz,rz⟩:=r.get (y us (ha W' _ e))
 have sm:=bQ hT (HO.tup [.int (i:Int),x])
 exact⟨sm,_,P6 hz,.tup bK (.cons (.int _) (.cons ((rz.keep (e.keep tw)).same sm fun _ q=>q) .nil))⟩
section
variable {X : Cx} {σ : L2.St} {H : Hp} {te : aF} {R : It → Hp → Prop}
theorem aF3 (h:LI X (wC te) σ H R):P5 X.K (iE (LE X te) k4) σ H R:=by
 obtain ⟨W,ρ,Q,px,q,k⟩:=h
 refine⟨W,ρ,_,px,q,?_⟩
 rintro v H1 x g s r ⟨xs,hx,hg,q⟩
 have px1:=px.mono s
 have tw:∀ a,W a->∃ o,H1 a=some o/\eU o=true:=fun a z=>(px1.wm a z).2
 rcases hx with rfl | rfl
 ·obtain ⟨a,us,rfl,m,h,r⟩:=r.sqL
  have wa : ¬ W a:=by
   cases g with
   | fr=>exact (px.new m).1
   | nw=>exact m.1
   | sh=>exact m
   | rd=>have:=hg rfl; unfold flat at this; cases this
  exact⟨a,rfl,.inl ⟨us,aJ.of h,k _ _ _ _ s (aF1 tw (fun W' H' e=>aJ.of (e _ _ h wa).1) (lI px (fun z=>by have:=hg z; unfold flat at this; cases this) r)) q⟩⟩
 ·obtain ⟨a,us,rfl,h,r⟩:=r.sqT
  refine⟨a,rfl,.inr ⟨us,aG.of h,k _ _ _ _ s (aF2 tw (fun W' H' e=>aG.of (e _ _ h fun z=>?_).1) (lI px (fun z=>by have:=hg z; unfold flat at this; exact this) r)) q⟩⟩
  obtain ⟨o,h',mu⟩:=tw _ z; rw [h] at h'; cases h'; cases mu
theorem aF4 {elts:List Expr}{kt:Nat}{pt p2 pos:Pos}{a:Expr}{ta:aF} (hg:Gl X "enumerate") (hm:X.mg "enumerate" = none) (ha:QE X a ta) (hs:starEach [a] X.env = [(false,eval a X.env)]:=by rfl):QI X (.Tuple elts kt pt) (.Call (.Name "enumerate" p2) [a] [] pos) (wC ta):=
 nL (aE9 hg hm (fF ha gE hs) hs) fun _ _ _=>aF3
end
section
variable {X : Cx} {e : Expr} {te : aF} {pos p2 : Pos} {scope : Scope} {N : List Str} {fr : List (Option Nat)} {x y : Str} {tp xp yp : Pos} {kt : Nat} {iter elt : Expr} {ti : dR}
abbrev wD (x y:Str) (xp yp:Pos) (kt:Nat) (tp:Pos):Expr:=.Tuple [.Name x xp,.Name y yp] kt tp
theorem aF5 {ifs:List Expr}{tcs:cA} (hc:X.calm=true) (he:∀ (s:Shared) (H:Hp) (C:Addr) (fp:List Addr),QE (bM X scope N s H C fp cQ) elt te) (hi:∀ (s:Shared) (H:Hp) (C:Addr) (fp:List Addr),jB (bM X scope N s H C fp cQ) ifs (LT (bM X scope N s H C fp cQ) tcs))
  (hN:N.Nodup) (h0:N[0]? = some x) (h1:N[1]? = some y) (hl:∀ (s:Shared) (H:Hp) (C:Addr) (fp:List Addr),(bM X scope N s H C fp cQ).env.scope.names.lookup x=some .local) (hl2:∀ (s:Shared) (H:Hp) (C:Addr) (fp:List Addr),(bM X scope N s H C fp cQ).env.scope.names.lookup y=some .local) (s:Shared) (H:Hp) :
  l9 X scope N (wD x y xp yp kt tp) ifs elt s H (oJ X.K 2 (jZ (dI 0) (jZ (dI 1) oI))) (LT (X.frm H) tcs) (LE (X.frm H) te):=
 ⟨fun C fp=>sF (X:=bM X scope N s H C fp cQ) hc (l7 (iD hN h0 (.inl (hl s H C fp)) (.inr (hl s H C fp))) (l7 (iD hN h1 (.inl (hl2 s H C fp)) (.inr (hl2 s H C fp))) sE)),fun C fp=>hi s H C fp,fun C fp=>he s H C fp⟩
theorem aF6 (hi:QI X (wD x y xp yp kt tp) iter ti) (he:∀ (s:Shared) (H:Hp) (C:Addr) (fp:List Addr),QE (bM X scope N s H C fp cQ) elt te)
  (hc:X.calm=true:=by rfl) (S:dD X scope N fr:=by exact dD.of rfl rfl) (hN:N.Nodup:=by decide +kernel) (h0:N[0]? = some x:=by rfl) (h1:N[1]? = some y:=by rfl) (hl:∀ (s:Shared) (H:Hp) (C:Addr) (fp:List Addr),(bM X scope N s H C fp cQ).env.scope.names.lookup x=some .local:=by intro _ _ _ _; rfl) (hl2:∀ (s:Shared) (H:Hp) (C:Addr) (fp:List Addr),(bM X scope N s H C fp cQ).env.scope.names.lookup y=some .local:=by intro _ _ _ _; rfl) (hf:fr[0]? = some none:=by rfl) (hf2:fr[1]? = some none:=by rfl)
  (hs:∀ x,foldedSetIterable iter X.env x=pure x:=by intro _; rfl):QE X (.ListComp elt [⟨wD x y xp yp kt tp,iter,[],0⟩] scope pos) (cV ti fr (nI 0 1) fX te):=
 c8 (tQ (gh:=fun _=>oJ X.K 2 (jZ (dI 0) (jZ (dI 1) oI))) (tch:=fun H=>LT (X.frm H) fX) (teh:=fun H=>LE (X.frm H) te) hc S hi (aF5 hc he (fun _ _ _ _=>J1) hN h0 h1 hl hl2) hs) fun _ _ _=>pL (C5 _ 0 1) (fun i e=>by rcases e with e | e <;> (subst e; assumption))
end
section
variable {X : Cx} {a b e o f : Expr} {ta tb te td tk tx : aF} {pos p2 apos cpos : Pos} {σ : L2.St} {H : Hp} {Q' : VK}
def P7:PV->Tg->PV->Tg->PK->Prop:=fun x _ y _ Q=>∃ xs n,x = .lst xs/\y = .int n/\flats xs=true/\-1000000<=n/\n<=1000000/\xs.length<=10/\Q (.lst (List.replicate n.toNat xs).flatten) .fr
abbrev P8 (ta tb:aF):aF:=q2 P7 ta tb
theorem aF7:dQ X P7 zA:=by
 rintro W Hs H u v x y g g' Q Q' s n r1 r2 ⟨xs,m,rfl,rfl,f,h1,h2,hl,q⟩ k
 cases r2
 obtain ⟨a,us,rfl,mm,h,r⟩:=r1.sqL
 have lr:=r.length
 refine⟨a,m,us,rfl,rfl,h,by omega,by omega,lim ?_,fun p hp=>k _ _ _ .fr (bQ hp _) (.lst (s.free hp) bK (((r.flat f).rep m.toNat).same (bQ hp _) fun _ z=>z)) q⟩
 have h3:us.length<=10:=by omega
 have h4:m.toNat<=1000000:=by omega
 calc us.length * m.toNat<=10 * 1000000:=Nat.mul_le_mul h3 h4
  _<=16000000:=by decide
theorem aF8 (ha:QE X a ta) (hb:QE X b tb):QE X (.BinOp a .Mult b pos) (P8 ta tb):=kH ak6 aF7 ha hb
theorem wE {x:Str}{n:Int}{t:Nat} (hg:Gl X x) (hm:X.mg x=some (.int n t)) (hd:(x == ("__debug__" : Str))=false:=by decide):QE X (.Name x pos) (qC (.int n)):=
 c8 (ab7 (v:=.int n) hg hm ⟨t,rfl⟩ hd) fun _ _ _=>mZ fun _=>.int n
end
end PP
namespace Core
open PySem L2 PP
section
variable (ws : List Int) (ls : List (Int × Int)) (os ns : List Int)
def fO:Nat->List Int
 | 0=>[]
 | k+1=>fO k ++ (os.find? (kin ws ls (ns ++ fO k))).toList
def o4 (k:Nat):Option Int:=os.find? (kin ws ls (ns ++ fO ws ls os ns k))
end
section
variable {ws : List Int} {ls : List (Int × Int)} {os ns : List Int}
theorem aF9 {k:Nat}{h:Int} (e:o4 ws ls os ns k=some h):fO ws ls os ns (k+1)=fO ws ls os ns k ++ [h]:=by
 show fO ws ls os ns k ++ (o4 ws ls os ns k).toList=_
 rw [e]; rfl
def aG0 (ws:List Int) (ls:List (Int × Int)) (T:List Int):Prop:=∀ h ∈ rng ws.length,kin ws ls T h=false
theorem aG1 {k:Nat}{h:Int} (e:o4 ws ls os ns k=some h):h ∈ os/\h ∉ ns ++ fO ws ls os ns k:=
 ⟨List.mem_of_find?_eq_some e,of_decide_eq_false (vM (List.find?_some e))⟩
theorem aG2 (po:os.Perm (rng ws.length)) (hs:b9 ws.length ns=true):∀ k,(ns ++ fO ws ls os ns k).Nodup/\∀ x ∈ ns ++ fO ws ls os ns k,x ∈ rng ws.length
 | 0=>by
  rw [show fO ws ls os ns 0 = [] from rfl,ba5]
  exact⟨(iV (eJ hs).1).imp fun h=>Int.ne_of_lt h,fun x hx=>nW.mpr ((eJ hs).2 x hx)⟩
 | k+1=>by
  obtain ⟨i1,i2⟩:=aG2 po hs k
  cases e:o4 ws ls os ns k with
  | none=>
   have:fO ws ls os ns (k+1)=fO ws ls os ns k:=by
    show fO ws ls os ns k ++ (o4 ws ls os ns k).toList=_
    rw [e]; exact ba5 _
   rw [this]; exact⟨i1,i2⟩
  | some h=>
   obtain ⟨n1,n2⟩:=aG1 e
   rw [aF9 e,<- aZ5]
   refine⟨bi2.mpr ⟨i1,ba8 _ _,fun x hx y hy=>?_⟩,fun x hx=>?_⟩
   ·rw [aY3.mp hy]; intro z; subst z; exact n2 hx
   ·rcases bb6.mp hx with hx | hx
    ·exact i2 x hx
    ·rw [aY3.mp hx]; exact po.mem_iff.mp n1
theorem P9 (hs:b9 ws.length ns=true):∀ k,(aY ws ls ns k).Nodup
 | 0=>(iV (eJ hs).1).imp fun h=>Int.ne_of_lt h
 | k+1=>by
  show (aY ws ls ns k ++ nextOf ws ls (aY ws ls ns k)).Nodup
  refine bi2.mpr ⟨P9 hs k,(P3 ws.length).filter _,fun x hx y hy=>?_⟩
  intro z; subst z
  exact of_decide_eq_false (vM (ba4.mp hy).2) hx
end
def aG3:Option Int->PV
 | none=>.non
 | some h=>.int h
theorem l4 {i:Nat}{h:Int}{g:Bool}{ρ:bE}{Q:bE->Prop} (q:Q (ρ.set i (some (.sh true (.int h))))):bR i (.int h) g ρ Q:=by
 show Q (ρ.set i (some (.sh (g || true) (.int h))))
 rw [Bool.or_true]; exact q
def iZ (ns S:List Int):Int:=(ns.length:Int) - (((ns.filter fun x=>decide (x ∈ S)).length:Nat):Int)
def qV:bC:=fun xs Q=>∃ x ns ps S,xs = [x,.dK ps]/\cJ x ns/\DS ps S/\ns.length<=10000/\Q (.int (iZ ns S))
def Q0:aK:=(bB (nK (aC dE (a7 (a5 0) aA)) (aC m7 (a7 (a5 0) (a7 (a5 1) aA)))))
theorem aG4:cC Q0 ["hearths","inside"] qV:=by
 rintro xs Q ⟨x,ns,ps,S,rfl,hx,d,hl,q⟩
 exact⟨_,rfl,_,_,rfl,hx.len,_,rfl,_,rfl,x,ns,ps,S,rfl,hx,d,hl,_,_,rfl,rfl,trivial,q⟩
def qW:bC:=fun xs Q=>∃ x ns y ms,xs = [x,y]/\cJ x ns/\cJ y ms/\ns.length<=10000/\ms.length<=1000/\Q (.tup (intz (ns.filter fun z=>!decide (z ∈ ms))))
def Q2:aK:=(aM (b7 2 (aC gM (a7 (a5 1) aA)))
 (bB (aC eW (a7 (cV (dB (a5 0)) [none,some 2] (bR 0) (aW (gY true (a5 0) (a5 1))) (a5 0)) aA))))
theorem aG5:cC Q2 ["hearths","some","gone"] qW:=by
 rintro xs Q ⟨x,ns,y,ms,rfl,hx,hy,hl,hm,q⟩
 refine⟨_,rfl,y,ms,rfl,hy,hm,fun ps d=>⟨trivial,?_⟩⟩
 refine⟨_,rfl,_,hx.seq,m6 hx,by rw [bD]; omega,fun i acc=>acc=intz ((ns.take i).filter fun z=>!decide (z ∈ ms)),rfl,?_,?_⟩
 ·rintro i z acc hz rfl
  obtain ⟨n,rfl,hn⟩:=g9 hz
  have tk:=iW (p:=fun z=>!decide (z ∈ ms)) hn
  refine⟨_,rfl,_,rfl,_,.inl ⟨ps,Sum.inl n,rfl,rfl,rfl⟩,_,rfl,?_⟩
  show if (!(bN ps (Sum.inl n:a9)).isSome)=true then _ else _
  rw [d.has n]
  by_cases h:n ∈ ms
  ·rw [aX4 h] at tk ⊢
   refine aS ?_
   show _=intz (List.filter _ (List.take (i+1) ns))
   rw [tk]; exact congrArg intz (ba5 _).symm
  ·rw [aX3 h] at tk ⊢
   refine b6 ⟨_,rfl,trivial,?_⟩
   show _=intz (List.filter _ (List.take (i+1) ns))
   rw [tk,fM]; rfl
 ·rintro acc rfl
  rw [bD,bc4]
  exact⟨⟨_,_,rfl,rfl,cY _,trivial,q⟩,fun ns z=>by cases z⟩
def fA (ws:List Int) (ls:List (Int × Int)) (S:List Int) (h:Int):Bool:=decide (iZ (aH ls h) S < ws.getD h.toNat 0)
def stay (ws:List Int) (ls:List (Int × Int)) (S:List Int):List Int:=S.filter (fA ws ls S)
theorem Q3 {n:Nat}{S:List Int} (h:b9 n S=true) (p:Int->Bool):b9 n (S.filter p)=true:=by
 obtain ⟨h1,h2⟩:=eJ h
 have u:qT (n:Int) (S.filter p):=⟨(iV h1).filter p,fun x hx=>h2 x (ba4.mp hx).1,by
  have:=gN h
  have:=be5 p S
  omega⟩
 exact u.set
def o5:bC:=fun xs Q=>∃ ws ls x S,xs = [bJ ws ls,.lst (fN ws.length ls),x]/\Wb ws ls/\cJ x S/\b9 ws.length S=true/\Q (.tup (intz (stay ws ls S)))
def Q4:aK:=(aM (b7 3 (aC gM (a7 (a5 2) aA)))
 (bB (aC eW (a7 (cV (dB (a5 2)) [none,some 3,some 1,some 0] (bR 0) (aW (gZ (aC qV (a7 (bW (a5 2) (a5 0)) (a7 (a5 1) aA))) (bW (bW (a5 3) (qC (.int 0))) (a5 0)))) (a5 0)) aA))))
theorem aG6:cC Q4 ["web","around","block","inside"] o5:=by
 rintro xs Q ⟨ws,ls,x,S,rfl,wb,hx,hs,q⟩
 have few:=wb.few
 have ln:=gN hs
 have most:=wb.most
 refine⟨_,rfl,x,S,rfl,hx,by omega,fun ps d=>⟨trivial,?_⟩⟩
 refine⟨_,rfl,_,hx.seq,m6 hx,by rw [bD]; omega,fun i acc=>acc=intz ((S.take i).filter (fA ws ls S)),rfl,?_,?_⟩
 ·rintro i z acc hz rfl
  obtain ⟨h,rfl,hh⟩:=g9 hz
  have hm:=(eJ hs).2 h (bb4 hh)
  have nl:=mW ls h
  have tk:=iW (p:=fA ws ls S) hh
  refine⟨_,rfl,_,rfl,_,_,_,rfl,rfl,vV hm.1 hm.2,_,rfl,_,aH ls h,ps,S,rfl,.inr rfl,d,by omega,_,rfl,_,_,_,rfl,rfl,rfl,_,rfl,_,_,_,rfl,rfl,m8 hm.1 hm.2,_,_,rfl,rfl,_,rfl,?_⟩
  show if fA ws ls S h=true then _ else _
  cases hk:fA ws ls S h with
  | true=>
   rw [hk,if_pos rfl] at tk
   refine b6 ⟨_,rfl,trivial,?_⟩
   show _=intz (List.filter _ (List.take (i+1) S))
   rw [tk,fM]; rfl
  | false=>
   rw [hk,if_neg (by decide),ba5] at tk
   refine aS ?_
   show _=intz (List.filter _ (List.take (i+1) S))
   rw [tk]
 ·rintro acc rfl
  rw [bD,bc4]
  exact⟨⟨_,_,rfl,rfl,cY _,trivial,q⟩,fun ns z=>by cases z⟩
def cZ (ws:List Int) (ls:List (Int × Int)) (S:List Int):Nat->List Int
 | 0=>S
 | k+1=>stay ws ls (cZ ws ls S k)
theorem qX {ws:List Int}{ls:List (Int × Int)}{S:List Int} (hs:b9 ws.length S=true):∀ k,b9 ws.length (cZ ws ls S k)=true
 | 0=>hs
 | k+1=>Q3 (qX hs k) _
theorem aG7 {S:List Int}{p:Int->Bool} (h:S.filter p ≠ S):(S.filter p).length < S.length:=by
 rcases bb7 (S.filter p).length S.length with z | z
 ·exact z
 ·exact absurd (List.filter_sublist.eq_of_length_le z) h
section
variable {ws : List Int} {ls : List (Int × Int)} {S T : List Int}
theorem aG8 {ns:List Int} (st:∀ x ∈ T,x ∈ S):iZ ns S<=iZ ns T:=by
 have h2:(ns.filter fun x=>decide (x ∈ T)).length<=(ns.filter fun x=>decide (x ∈ S)).length:=by
  rw [<- bk0,<- bk0]
  exact List.countP_mono_left fun x _ hx=>aX4 (st x (bd3 hx))
 unfold iZ; omega
theorem Q5 {h:Int} (st:∀ x ∈ T,x ∈ S) (hs:fA ws ls T h=true):fA ws ls S h=true:=by
 unfold fA at hs ⊢
 have h1:=bd3 hs
 have h2:=aG8 (ns:=aH ls h) st
 exact aX4 (by omega)
theorem aG9 (hT:stay ws ls T=T) (st:∀ x ∈ T,x ∈ S):∀ x ∈ T,x ∈ stay ws ls S:=fun x hx=>
 ba4.mpr ⟨st x hx,Q5 st (ba4.mp (show x ∈ stay ws ls T by rw [hT]; exact hx)).2⟩
theorem Q6 (hT:stay ws ls T=T) (st:∀ x ∈ T,x ∈ S):∀ k,∀ x ∈ T,x ∈ cZ ws ls S k
 | 0=>st
 | k+1=>aG9 hT (Q6 hT st k)
theorem Q7:∀ k,∀ x ∈ cZ ws ls S k,x ∈ S
 | 0,x,hx=>hx
 | k+1,x,hx=>Q7 k x (ba4.mp (show x ∈ stay ws ls (cZ ws ls S k) from hx)).1
structure o6 (ws:List Int) (ls:List (Int × Int)) (S G:List Int):Prop where
 cold:stay ws ls G=G
 sub:∀ x ∈ G,x ∈ S
 most:∀ U,stay ws ls U=U->(∀ x ∈ U,x ∈ S)->∀ x ∈ U,x ∈ G
theorem Q8 {k:Nat} (h:stay ws ls (cZ ws ls S k)=cZ ws ls S k):o6 ws ls S (cZ ws ls S k):=⟨h,Q7 k,fun U hU st=>Q6 hU st k⟩
theorem aH0 {S T:List Int}{h:Int} (hin:h ∉ S) (ht:∀ x,x ∈ aH ls h->(x ∈ T ↔ x ∉ S)):kin ws ls S h = !fA ws ls T h:=by
 have e:(((aH ls h).filter fun x=>decide (x ∈ S)).length:Int)=iZ (aH ls h) T:=by
  unfold iZ
  have:∀ L:List Int,(∀ x,x ∈ L->(x ∈ T ↔ x ∉ S))->(L.filter fun x=>decide (x ∈ S)).length+(L.filter fun x=>decide (x ∈ T)).length=L.length:=fun L hL=>by
   induction L with
   | nil=>rfl
   | cons a r ih=>
    have i:=ih fun x hx=>hL x (aY2 _ hx)
    have ha:=hL a aY1
    by_cases h1:a ∈ S
    ·have h2:a ∉ T:=fun z=>ha.mp z h1
     simp only [List.filter_cons,aX4 h1,aX3 h2,if_true,aZ6,be3,aZ7]; omega
    ·have h2:a ∈ T:=ha.mpr h1
     simp only [List.filter_cons,aX4 h2,aX3 h1,if_true,aZ6,be3,aZ7]; omega
  have:=this _ ht
  omega
 unfold kin fA
 rw [e,aX3 hin]
 simp only [Bool.not_false,Bool.true_and]
 by_cases hc:ws.getD h.toNat 0<=iZ (aH ls h) T
 ·rw [aX4 hc,aX3 (by omega)]; rfl
 ·rw [aX3 hc,aX4 (by omega)]; rfl
end
structure wF (ws:List Int) (ls:List (Int × Int)) (G L:List Int):Prop where
 cold:stay ws ls L=L
 set:b9 ws.length L=true
 sub:∀ x ∈ L,x ∈ G
 emp:L = [] ↔ G = []
 least:∀ h ∈ L,∀ U,stay ws ls U=U->(∀ x ∈ U,x ∈ L)->h ∉ U->U = []
section
variable {ws : List Int} {ls : List (Int × Int)} {ns : List Int}
theorem aH1 (wb:Wb ws ls) {h x:Int} (hx:x ∈ aH ls h):x ∈ rng ws.length:=by
 unfold aH at hx
 obtain ⟨l,hl,hx⟩:=List.mem_flatMap.mp hx
 have:=wb.links l hl
 rcases bb6.mp hx with hx | hx
 ·split at hx
  ·rw [aY3.mp hx]; exact nW.mpr this.2
  ·cases hx
 ·split at hx
  ·rw [aY3.mp hx]; exact nW.mpr this.1
  ·cases hx
def eL (n:Nat) (S:List Int):List Int:=(rng n).filter fun x=>!decide (x ∈ S)
theorem fP {n:Nat}{S:List Int}{x:Int}:x ∈ eL n S ↔ x ∈ rng n/\x ∉ S:=by
 unfold eL; rw [ba4]; simp
theorem Q9 (n:Nat) (S:List Int):b9 n (eL n S)=true:=by
 have u:qT (n:Int) (eL n S):=⟨by
   refine List.Pairwise.filter _ ?_
   unfold rng
   rw [bg2]
   exact List.pairwise_lt_range.imp fun h=>by omega,fun x hx=>nW.mp (fP.mp hx).1,by
   have:=be5 (fun x=>!decide (x ∈ S)) (rng n)
   rw [qN] at this
   show ((List.filter (fun x=>!decide (x ∈ S)) (rng n)).length:Int)<=_
   omega⟩
 exact u.set
theorem R3 (wb:Wb ws ls) {S:List Int}{h:Int} (hin:h ∉ S):kin ws ls S h = !fA ws ls (eL ws.length S) h:=
 aH0 hin fun x hx=>⟨fun z=>(fP.mp z).2,fun z=>fP.mpr ⟨aH1 wb hx,z⟩⟩
theorem aH2 (wb:Wb ws ls) {m:Nat} (en:cE ws ls ns m):o6 ws ls (eL ws.length ns) (eL ws.length (aY ws ls ns m)):=by
 have grow:∀ k,∀ x ∈ ns,x ∈ aY ws ls ns k:=fun k x hx=>by
  induction k with
  | zero=>exact hx
  | succ k ih=>exact bg3 _ ih
 refine⟨List.filter_eq_self.mpr fun h hh=>?_,fun x hx=>?_,fun U hU us x hx=>?_⟩
 ·have hm:=fP.mp hh
  have h1:=List.filter_eq_nil_iff.mp (show (rng ws.length).filter (kin ws ls (aY ws ls ns m)) = [] from en.2) h hm.1
  rw [R3 wb hm.2] at h1
  simpa using h1
 ·have hm:=fP.mp hx
  exact fP.mpr ⟨hm.1,fun z=>hm.2 (grow m x z)⟩
 ·have key:∀ k,∀ y ∈ U,y ∉ aY ws ls ns k:=fun k=>by
   induction k with
   | zero=>exact fun y hy=>(fP.mp (us y hy)).2
   | succ k ih=>
    intro y hy z
    rcases bb6.mp (show y ∈ aY ws ls ns k ++ nextOf ws ls (aY ws ls ns k) from z) with z | z
    ·exact ih y hy z
    ·have hk:=(ba4.mp z).2
     rw [R3 wb (ih y hy)] at hk
     have sy:fA ws ls U y=true:=(ba4.mp (show y ∈ stay ws ls U by rw [hU]; exact hy)).2
     have:=Q5 (S:=eL ws.length (aY ws ls ns k)) (fun v hv=>fP.mpr ⟨(fP.mp (us v hv)).1,ih v hv⟩) sy
     rw [this] at hk; cases hk
  exact fP.mpr ⟨(fP.mp (us x hx)).1,key m x hx⟩
end
end Core
namespace Raw
open PySem PySem.W PyProof.Rows
section
variable {prog : Program} {w : World} {A : Around} {E : Value → Shared → Prop} {s : Shared} {T : String} {r d : Addr} {n : Nat} {P : Nat → Value → Prop} {OK : Heap → Prop}
theorem aH3 {R:Result->Shared->Prop} (K:KdlSrc prog w T r d n P OK) (hh:A.handled=none) (hok:OK s.heap) (hn:n<=sizeLine)
  (hR:∀ h' tk acc c,(∀ b o,b ≠ s.heap.objs.size->(s.heap.push { cls:=.type "list",data:=.seq ([]:List Value).toArray }).get? b=some o->h'.get? b=some o)->h'.get? s.heap.objs.size=some { cls:=.type "list",dict:=none,data:=.seq acc c,slots:=#[] }->ItemsOf P acc n->R (.ok (.ret (.ref s.heap.objs.size))) { s with heap:=h',toks:=tk }) :
  codeAny (model prog w) A (.builtin "proto.collect" ⟨[.ref r],[]⟩) R s:=by
 have lt:=K.there _ hok
 refine codeAny_builtin PySem.F.entry_proto_collect ?_
 rw [Around.under_plainId PySem.F.plain_proto_collect _]
 show wpAny _ A.in1 (newList [] >>= fun l=>again (.builtin "list.__iadd__" ⟨[l,.ref r],[]⟩)) _ _ s
 refine aX0 (bf1 ?_)
 refine aX8 ⟨plainId_quiet PySem.F.plain_list_iadd _,codeAny_builtin PySem.F.entry_list_iadd ?_⟩
 rw [Around.under_plainId PySem.F.plain_list_iadd _]
 show wpAny _ A.in1 (Builtin.List.listExtendWith (.ref s.heap.objs.size) (.ref r) (.ref s.heap.objs.size)) _ _ _
 exact kdl_extend (s:={ s with heap:=s.heap.push { cls:=.type "list",data:=.seq ([]:List Value).toArray } }) (R:=R) K hh (K.keep _ _ hok fun b _ o e=>aX2 _ e) s.heap.objs.size (be6 lt.1) (be6 lt.2) _ 0 (aY8 _ rfl) hR hn
theorem aH4 {Q:List Value->Shared->Prop} (K:KdlSrc prog w T r d n P OK) (hh:A.handled=none) (hok:OK s.heap) (hn:n<=sizeLine)
  (hQ:∀ h' tk acc,(∀ b o,s.heap.get? b=some o->h'.get? b=some o)->s.heap.objs.size<=h'.objs.size->ItemsOf P acc n->Q acc.toList { s with heap:=h',toks:=tk }) :
  wpAny (model prog w) A (collect (.ref r)) Q E s:=by
 unfold collect
 refine aX0 (wpAny_runValue (aH3 (s:=s) K hh hok hn fun h' tk acc c kp at1 it=>?_))
 show wpAny _ A (load s.heap.objs.size >>= _) _ _ _
 refine aX0 (wpAny_load at1 ?_)
 exact aX8 (hQ h' tk acc (fun b o e=>kp b o (ba2 (aY6 e)) (aX2 _ e)) (bf3 (aY6 at1)) it)
theorem aH5 {Q:Value->Shared->Prop}{G:List Int->Prop} (K:KdlSrc prog w T r d n P OK) (hh:A.handled=none) (hok:OK s.heap) (hn:n < 64)
  (hI:∀ acc,ItemsOf P acc n->∃ ns,IntsAre acc.toList ns/\G ns)
  (h:∀ h' tk a (out:Array Value) (ns ns':List Int) e,(∀ b o,s.heap.get? b=some o->h'.get? b=some o)->s.heap.objs.size<=a->h'.get? a=some (seqObj "list" out e)->IntsAre out.toList ns'->G ns->ns'.Perm ns->ns'.Pairwise (· <= ·)->Q (.ref a) { s with heap:=h',toks:=tk }) :
  wpAny (model prog w) A (call (.builtin "sorted") [.ref r]) Q E s:=by
 have hsl:n<=sizeLine:=bb5 (bf3 hn) (by decide)
 refine Calls.call_function_entry kind_sorted plain_sorted entry_sorted (args_sorted1 _) ?_
 unfold Builtin.«sorted»
 refine aX0 (m:=checkCount "sorted" 1 1 _) (aX8 ?_)
 refine aX0 (aH4 (s:=s) K hh hok hsl fun h' tk acc kp hs it=>?_)
 obtain ⟨ns,hi,g⟩:=hI acc it
 have hz:acc.toList.length < 64:=by rw [bb8,it.1]; exact hn
 refine aX0 (wpAny_newList ?_ (bb5 (bf3 hz) (by decide)))
 have hoL:(h'.push (seqObj "list" acc.toList.toArray 0)).get? h'.objs.size=some (seqObj "list" acc.toList.toArray 0):=aY8 _ rfl
 show wpAny _ _ _ _ _ { s with heap:=h'.push (seqObj "list" acc.toList.toArray 0),toks:=tk }
 refine aX0 (bi9 (be1 slot_list_sort ⟨_,hoL,rfl⟩ entry_list_sort (list_sort_tree hoL hi hz fun out ns' a1 a2 a3=>⟨_,rfl,?_⟩) (args_list_sort _)))
 obtain ⟨e,he⟩:=sortedHeap_at (vs:=acc.toList) (out:=out) hoL
 refine aX8 ⟨_,rfl,h _ tk h'.objs.size out ns ns' e (fun b o hb=>?_) hs he a1 g a2 a3⟩
 have lt:=aY6 (kp b o hb)
 rw [sortedHeap_old (ba2 lt) (by rw [size_push']; exact Nat.lt_succ_of_lt lt)]
 exact aX2 _ (kp b o hb)
end
end Raw
namespace L2
open PySem PySem.Spec PyProof.Rows
section
variable {X : Cx}
theorem aH6 (hc:X.calm=true):cH X (.builtin "sorted") (fun xs H Q=>∃ a kvs ns,xs = [.ref a]/\H a=some (.dK kvs)/\kvs.map (·.1)=ns.map Sum.inl/\ns.length < 64/\∀ l (ms:List Int),H l=none->ms.Perm ns->ms.Pairwise (· <= ·)->Q (.ref l) (upd H l (.lst (ms.map V.int)))):=by
 intro pins s σ H xs us Q I r h
 obtain ⟨a,kvs,ns,rfl,ha,hk,h64,q⟩:=h
 obtain ⟨u,rfl,ru⟩:=fS r
 cases ru
 obtain ⟨es,ep,rd,far,vk,z⟩:=an6 I ha
 have hl:=vk.length
 have hl2:=congrArg List.length hk
 rw [aY0,aY0] at hl hl2
 have hsz:es.toList.length=es.size:=bb8
 have e1:(kvs.map fun p=>kV p.1)=ns.map V.int:=by
  have:(kvs.map fun p=>kV p.1)=(kvs.map (·.1)).map kV:=by rw [bl5]; rfl
  rw [this,hk,bl5]; rfl
 rw [e1] at vk
 refine Raw.aH5 (G:=fun ms=>ms=ns) (Raw.zY far) (I.ok.hd hc) rd (by omega) (fun acc it=>⟨ns,by rw [zZ it]; exact k6 vk,rfl⟩) fun h' tk l out ns1 ns' e kp hn he a1 g a2 a3=>?_
 subst g
 have hlen:ns'.length=ns1.length:=a2.length_eq
 refine⟨.ref l,upd H l (.lst (ns'.map V.int)),I.laid (t':=tk) kp hn ⟨?_,out.toList,e,tE a1,by simpa using he⟩,rfl,q _ ns' (I.hok.fresh hn) a2 a3⟩
 rw [aY0,hlen]
 exact bf3 (tF (by omega))
end
end L2
namespace PP
open PySem L2 PyProof.Rows
section
variable {X : Cx} {a b e : Expr} {ta tb te : aF} {tr : cO} {pos p2 : Pos}
def wG:List PV->(PV->Prop)->Prop:=fun xs Q=>∃ (ps:List (a9 × PV)) (ns:List Int),xs = [.dK ps]/\ps.map (·.1)=ns.map Sum.inl/\ns.length < 64/\∀ ms:List Int,ms.Perm ns->ms.Pairwise (· <= ·)->Q (.lst (intz ms))
theorem aH7:eV X wG (fun xs H Q=>∃ a kvs ns,xs = [.ref a]/\H a=some (.dK kvs)/\kvs.map (·.1)=ns.map Sum.inl/\ns.length < 64/\∀ l (ms:List Int),H l=none->ms.Perm ns->ms.Pairwise (· <= ·)->Q (.ref l) (upd H l (.lst (ms.map V.int)))):=by
 rintro H vs xs Q Q' r ⟨ps,ns,rfl,e,hl,q⟩ k
 obtain ⟨v,rfl,r1⟩:=r.one
 cases r1 with
 | @dK a kvs _ m h e2 r2=>
  exact⟨a,kvs,ns,rfl,h,e2.trans e,hl,fun l ms hl' p o=>k _ _ _ (bQ hl' _) (.lst hl' bK (Reps.intz ms)) (q ms p o)⟩
theorem aH8 (B:Bt X.mg) (hc:X.calm=true) (ha:QA X [e] tr) (hg:Gl X "sorted":=by rfl) (he:starEach [e] X.env=(false,eval e X.env) :: starEach [] X.env:=by rfl) (hpl:(backTo pos (starEach [] X.env)).any (·.1)=false:=by rfl):QE X (.Call (.Name "sorted" p2) [e] [] pos) (aC wG tr):=
 jN (aH6 hc) aH7 hg B.sorted PyProof.Rows.boot_sorted ha (he:=he) (hpl:=hpl)
end
end PP
namespace Core
open PySem L2 PP
def gB (k:Nat) (r:List Int):List (a9 × PV):=r.map fun h=>((Sum.inl h:a9),PV.int (k:Int))
def j4 (rs:List (List Int)):List (a9 × PV):=(rs.mapIdx gB).flatten
theorem aH9 (rs:List (List Int)) (r:List Int):j4 (rs ++ [r])=j4 rs ++ gB rs.length r:=by
 unfold j4
 rw [List.mapIdx_append,List.flatten_append]
 simp
theorem R4 (k:Nat) (r:List Int):(gB k r).map (·.1)=r.map Sum.inl:=by
 unfold gB; rw [bl5]; rfl
theorem R5:∀ (rs:List (List Int)) (g:Nat->Nat),((rs.mapIdx fun i r=>gB (g i) r).flatten).map (·.1)=rs.flatten.map (Sum.inl:Int->a9)
 | [],_=>rfl
 | r :: t,g=>by
  rw [List.mapIdx_cons,bh0,bh0,ba6,ba6,R4,R5 t fun i=>g (i+1)]
theorem R6 (rs:List (List Int)):(j4 rs).map (·.1)=rs.flatten.map (Sum.inl:Int->a9):=R5 rs fun i=>i
theorem aI0 {ps:List (a9 × PV)}{h:Int}{v:PV}{S:List Int} (e:ps.map (·.1)=S.map Sum.inl) (hn:h ∉ S):cD ps (Sum.inl h:a9) v=ps ++ [(Sum.inl h,v)]:=by
 unfold cD
 rw [if_neg]
 intro z
 rw [List.any_eq_true] at z
 obtain ⟨p,hp,hq⟩:=z
 have:p.1 ∈ ps.map (·.1):=bb9.mpr ⟨p,hp,rfl⟩
 rw [e,bd3 hq] at this
 obtain ⟨y,hy,e2⟩:=bb9.mp this
 exact hn (Sum.inl.inj e2 ▸ hy)
theorem aI1 {k:Nat}{r:List Int}{i:Nat}{n:Int} (h:r[i]? = some n):gB k (r.take (i+1))=gB k (r.take i) ++ [(Sum.inl n,PV.int (k:Int))]:=by
 unfold gB
 rw [bd2,h,ba6]; rfl
theorem k9 {ls:List (Int × Int)}{h x:Int}:x ∈ aH ls h ↔ ∃ l ∈ ls,(l.1=h/\l.2=x) ∨ (l.2=h/\l.1=x):=by
 unfold aH
 rw [List.mem_flatMap]
 constructor
 ·rintro ⟨l,hl,hx⟩
  refine⟨l,hl,?_⟩
  rcases bb6.mp hx with hx | hx
  ·split at hx
   ·rename_i e; exact .inl ⟨e,(aY3.mp hx).symm⟩
   ·cases hx
  ·split at hx
   ·rename_i e; exact .inr ⟨e,(aY3.mp hx).symm⟩
   ·cases hx
 ·rintro ⟨l,hl,⟨e1,e2⟩ | ⟨e1,e2⟩⟩
  ·exact⟨l,hl,bg3 _ (by rw [if_pos e1,e2]; exact List.mem_singleton_self _)⟩
  ·exact⟨l,hl,bb0 _ (by rw [if_pos e1,e2]; exact List.mem_singleton_self _)⟩
theorem R7 {h:Int}:∀ {ls:List (Int × Int)},(∀ l ∈ ls,l.1 < l.2)->ls.Pairwise cR->(aH ls h).Nodup
 | [],_,_=>.nil
 | l :: r,hl,hp=>by
  have ih:=R7 (h:=h) (ls:=r) (fun m hm=>hl m (aY2 _ hm)) (bi7.mp hp).2
  have h0:=hl l aY1
  have e:aH (l :: r) h=((if l.1=h then [l.2] else []) ++ (if l.2=h then [l.1] else [])) ++ aH r h:=rfl
  rw [e]
  refine bi2.mpr ⟨?_,ih,fun x hx y hy q=>?_⟩
  ·by_cases e1:l.1=h
   ·rw [if_pos e1,if_neg (by omega),ba5]; exact ba8 _ _
   ·rw [if_neg e1]
    split
    ·exact ba8 _ _
    ·exact .nil
  ·subst q
   obtain ⟨m,hm,c⟩:=k9.mp hy
   have h1:=hl m (aY2 _ hm)
   have h2:=(bi7.mp hp).1 m hm
   have c':(l.1=h/\l.2=x) ∨ (l.2=h/\l.1=x):=by
    rcases bb6.mp hx with hx | hx
    ·split at hx
     ·rename_i e; exact .inl ⟨e,(aY3.mp hx).symm⟩
     ·cases hx
    ·split at hx
     ·rename_i e; exact .inr ⟨e,(aY3.mp hx).symm⟩
     ·cases hx
   unfold cR at h2
   omega
end Core
namespace PP
open PySem L2 PyProof.Rows
def hZ (xs ys:List PV):List PV:=List.zipWith (fun x y=>PV.tup [x,y]) xs ys
theorem wH (xs ys:List PV):(hZ xs ys).length=min xs.length ys.length:=by unfold hZ; rw [List.length_zipWith]
theorem R8 {xs ys:List PV}{i:Nat}{x y:PV} (h:xs[i]? = some x) (h':ys[i]? = some y):(hZ xs ys)[i]? = some (.tup [x,y]):=by
 unfold hZ; rw [List.getElem?_zipWith,h,h']
theorem aI2 {xs ys:List PV}{i:Nat}{z:PV} (h:(hZ xs ys)[i]? = some z):∃ x y,xs[i]? = some x/\ys[i]? = some y/\z = .tup [x,y]:=by
 unfold hZ at h
 rw [List.getElem?_zipWith] at h
 cases e:xs[i]? with
 | none=>rw [e] at h; cases h
 | some x=>
  cases e':ys[i]? with
  | none=>rw [e,e'] at h; cases h
  | some y=>rw [e,e'] at h; exact⟨x,y,rfl,rfl,(aZ8 h).symm⟩
theorem aI3 {K:PySem.W.Frag}{H0:Hp}{W:Addr->Prop}{g:Bool}{H1:Hp}{a b:Addr}{us vs:List V}{xs ys:List PV} (tw:∀ a,W a->∃ o,H1 a=some o/\eU o=true) (ha:∀ W' H',Ev W H1 W' H'->aG K H' a us) (hb:∀ W' H',Ev W H1 W' H'->aG K H' b vs)
  (r:Reps K (Ms H0 W g) H1 us xs) (r':Reps K (Ms H0 W g) H1 vs ys):jG K H0 W g H1 (tW K a b) (hZ xs ys):=by
 have lr:=r.length
 have lr':=r'.length
 have ll:=wH xs ys
 refine⟨fun W' H' i e hi=>⟨us,vs,us[i]'(by omega),vs[i]'(by omega),ha W' H' e,hb W' H' e,by simp,by simp⟩,fun W' H' i v H2 e y hi=>?_,fun W' H' e=>⟨us,vs,ha W' H' e,hb W' H' e,by omega⟩⟩
 obtain ⟨T,x,y',hT,rfl,rfl,y⟩:=y
 obtain ⟨h1,h2⟩:=y us vs (ha W' _ e) (hb W' _ e)
 obtain ⟨z,hz,rz⟩:=r.get h1
 obtain ⟨z',hz',rz'⟩:=r'.get h2
 have sm:=bQ hT (HO.tup [x,y'])
 exact⟨sm,_,R8 hz hz',.tup bK (.cons ((rz.keep (e.keep tw)).same sm fun _ q=>q) (.cons ((rz'.keep (e.keep tw)).same sm fun _ q=>q) .nil))⟩
end PP
namespace Core
open PySem L2 PP
def wnb (zs:List ((Int × Int) × Int)) (k:Int):List (Int × Int):=zs.flatMap fun z=>(if z.1.1=k then [(z.1.2,z.2)] else []) ++ (if z.1.2=k then [(z.1.1,z.2)] else [])
def aI4 (want:Int) (hs:List Int) (c:PV):Prop:=((hs.length:Int) < want/\c = .non) ∨ (want<=(hs.length:Int)/\∃ zs:List Int,zs.Perm hs/\zs.Pairwise (· <= ·)/\c = .int (zs.take want.toNat).sum)
def aI5 (zs:List Int) (s:Int):Nat:=((List.range zs.length).filter fun i=>decide ((zs.take (i+1)).sum<=s)).length
structure aI6 (ws:List Int) (ls:List (Int × Int)) (wts:List Int) (os:List (Option Int)):Prop where
 len:os.length=ws.length
 due:∀ h:Nat,h < ws.length->∃ o,os[h]? = some o/\aI4 (ws.getD h 0) ((wnb (ls.zip wts) h).map (·.2)) (aG3 o)
theorem p5 {ls:List (Int × Int)}{wts:List Int} (e:wts.length=ls.length):(ls.zip wts).map (·.2)=wts:=by
 rw [List.map_snd_zip]; omega
structure aI7 (ws:List Int) (ls:List (Int × Int)) (wts zs:List Int):Prop where
 ex:∃ os,aI6 ws ls wts os/\zs.Perm (os.filterMap id)/\zs.Pairwise (· <= ·)
section
variable {ws : List Int} {ls : List (Int × Int)} {ns wts : List Int} {m : Nat}
def loose (ls:List (Int × Int)) (wts ns:List Int):List ((Int × Int) × Int):=(ls.zip wts).filter fun z=>!(decide (z.1.1 ∈ ns) && decide (z.1.2 ∈ ns))
end
end Core
set_option maxHeartbeats 1000000
set_option maxHeartbeats 1000000
set_option maxHeartbeats 1000000
set_option maxHeartbeats 1000000
namespace PP
open PySem L2 PyProof.Rows
abbrev dG:=(Str->Prop)->bC
def EX (K:PySem.W.Frag) (H0:Hp) (Ep:Str->Prop):XK:=fun c d H'=>d=none/\aD H0 H'/\∃ n C,c = .ref C/\PySem.W.nsIn K mainGlobals n=some (some (.ref C))/\Ep n
def R9 (K:PySem.W.Frag) (p:dG):Sp:=fun vs H Q E=>∃ xs Qp Ep,Reps K (fun _=>True) H vs xs/\p Ep xs Qp/\(∀ v H' x,aD H H'->aE K (fun a=>H a=none) H' v x->Qp x->Q v H')/\
 ∀ n C H',aD H H'->PySem.W.nsIn K mainGlobals n=some (some (.ref C))->Ep n->E (.ref C) none H'
structure bO (P:Program) (w:World) (K:PySem.W.Frag) (mg:Str->Option Value) (base:Heap) (k:Nat) (x:Str) (ps:List Str) (p:dG):Prop where
 ex:∃ f fd,cT P w K mg base (dY P w) k f fd ps (R9 K p)/\iF K fd ps []/\PySem.W.keepIn K (.ref f)=true/\mg x=some (.ref f)
section
variable {X : Cx} {σ : L2.St} {H : Hp} {D : cE} {tr : cO} {Q' : VK} {a b c e : Expr} {es : List Expr} {pos p2 cp np hp : Pos} {t : aK} {te : aF} {tc : cA}
def i4 (Ep:Str->Prop) (p:dG) (t:cO):aF:=aC (p Ep) t
theorem S0 {p:dG}{Ep:Str->Prop} (h:LE X (i4 Ep p tr) σ H Q'):sP (R9 X.K p) [] (EX X.K X.H₀ Ep) (LA X tr) σ H Q':=by
 obtain ⟨W,ρ,Q,px,q,k⟩:=h
 refine⟨W,ρ,_,px,q,fun vs H1 xs s1 r1 q1=>⟨_,_,Ep,by rw [ba5]; exact r1.any,q1,fun v H' x s2 r2 q2=>k v H' x .fr (s1.trans s2) (r2.same (aD.refl _) fun _ z=>s1.free z) q2,fun n C H' s2 z1 z2=>⟨rfl,(px.same.trans s1).trans s2,n,C,rfl,z1,z2⟩⟩⟩
theorem jS {Ep:Str->Prop}{k j:Nat}{x:Str}{ps:List Str}{p:dG} (hX:m5 X (EX X.K X.H₀ Ep)) (d:bO X.prog X.w X.K X.mg X.base k x ps p) (hr:bZ j X.A) (ha:QA X (e :: es) tr) (hkj:k<=j:=by decide) (hg:Gl X x:=by rfl) (hdb:(x == ("__debug__" : Str))=false:=by decide)
  (he:starEach (e :: es) X.env=(false,eval e X.env) :: starEach es X.env:=by rfl) (hpl:(backTo pos (starEach es X.env)).any (·.1)=false:=by rfl):QE X (.Call (.Name x p2) (e :: es) [] pos) (i4 Ep p tr):=by
 obtain ⟨f,fd,F,b,kp,m⟩:=d.ex
 exact c8 (sQ F (hr.mono hkj) hg m kp b .nil hX.pass ha hdb he hpl) fun _ _ _=>S0
theorem wI {k j:Nat}{x:Str}{ps:List Str}{p:dG} (d:bO X.prog X.w X.K X.mg X.base k x ps p) (hr:bZ j X.A) (ha:QA X (e :: es) tr) (hkj:k<=j:=by decide) (hg:Gl X x:=by rfl) (hdb:(x == ("__debug__" : Str))=false:=by decide)
  (he:starEach (e :: es) X.env=(false,eval e X.env) :: starEach es X.env:=by rfl) (hpl:(backTo pos (starEach es X.env)).any (·.1)=false:=by rfl):QE X (.Call (.Name x p2) (e :: es) [] pos) (aC (p fun _=>False) tr):=by
 obtain ⟨f,fd,F,b,kp,m⟩:=d.ex
 refine c8 (sQ F (E:=EX X.K X.H₀ fun _=>False) (hr.mono hkj) hg m kp b .nil (fun _ _ _ _ _ _ _ h=>?_) ha hdb he hpl) fun _ _ _ h=>S0 (Ep:=fun _=>False) h
 obtain ⟨_,_,_,_,_,_,_,_,_,_,_,_,z⟩:=h
 exact z.elim
def wJ (Ep:Str->Prop) (n:Str) (t:cO):aK:=fun _ ρ=>t ρ fun xs=>xs.length<=1000/\Ep n
theorem aI8 {Ep:Str->Prop}{n:Str}{C:Addr} (hn:PySem.W.nsIn X.K mainGlobals n=some (some (.ref C))) (h:LS X (wJ Ep n tr) D σ H):M0 (EX X.K X.H₀ Ep) C (LA X tr) D σ H:=by
 obtain ⟨W,ρ,D',px,q,k⟩:=h
 exact⟨W,ρ,_,px,q,fun vs H1 xs s1 r z=>⟨by rw [r.length]; exact u5 z.1,rfl,px.same.trans s1,n,C,rfl,hn,z.2⟩⟩
structure Xc (K:PySem.W.Frag) (mg:Str->Option Value) (base:Heap) (n:Str):Prop where
 ex:∃ C B newId initId bm,OwnCls n C bm newId mg base/\ExcBaseFacts B newId initId bm/\PySem.W.nsIn K mainGlobals n=some (some (.ref C))
theorem aI9 {Ep:Str->Prop}{n:Str} (hX:m5 X (EX X.K X.H₀ Ep)) (x:Xc X.K X.mg X.base n) (ha:QA X (e :: es) tr) (hc:X.calm=true:=by rfl) (hg:Gl X n:=by rfl) (hd:(n == ("__debug__" : Str))=false:=by decide)
  (he:starEach (e :: es) X.env=(false,eval e X.env) :: starEach es X.env:=by rfl) (hpl:(backTo cp (starEach es X.env)).any (·.1)=false:=by rfl):QS X (.Raise (some (.Call (.Name n np) (e :: es) [] cp)) none pos) (wJ Ep n tr):=by
 obtain ⟨C,B,newId,initId,bm,O,FB,hn⟩:=x.ex
 exact dU (az9 hX hc O FB ha hg hd he hpl) fun _ _ _=>aI8 hn
def oP:V->Value
 | .ref a=>.ref a
 | .ty n=>.type n
 | _=>.none
end
structure wK (K:PySem.W.Frag) (C:Addr):Prop where
 cls:PySem.W.isClsIn K C=true
 ty:PySem.W.typeIn K (.ref C)=some (.type "type")
 ga:PySem.W.findIn K (.ref C) "__getattribute__" = some (some (.builtin "BaseException.__getattribute__"))
 gt:PySem.W.findIn K (.ref C) "__getattr__" = some none
 fc:PySem.W.findIn K (.ref C) "__class__" = some (some (.builtin "object.__class__"))
 fg:PySem.W.specialIn K (.builtin "object.__class__") "__get__" = some (some (.builtin "getset_descriptor.__get__"))
 ft:PySem.W.takesIn K (.builtin "object.__class__")=some true
 ob:PySem.W.mroIn K C (.type "object")=some true
 be:PySem.W.mroIn K C (.type "BaseException")=some true
theorem aJ0 {K:PySem.W.Frag}{h₀:Heap}{mg:Str->Option Value}{x:Str}{C:Addr}{bmB:List Value}{newId:String} (X:K.In h₀) (m:mg x=some (.ref C)) (q:PySem.W.excIn K C bmB newId=true):OwnCls x C bmB newId mg h₀:=by
 refine⟨m,?_⟩
 unfold PySem.W.excIn at q
 split at q
 case h_2=>cases q
 rename_i dd cd sl ho
 split at q
 case h_2=>cases q
 rename_i C' bm k0 k1 k2 k3 n k5 hm hs
 simp only [bb1,beq_iff_eq,Bool.not_eq_true'] at q
 obtain ⟨⟨⟨⟨⟨rfl,rfl⟩,dl⟩,ht⟩,hok⟩,hni⟩:=q
 obtain ⟨nm,bs,mro,ns,qn,hd,sn,sub,ab,col,del⟩:=cd
 dsimp only at hm dl hok hni
 subst hm dl
 obtain rfl:sl = #[k0,k1,k2,k3,some (.builtin n),k5]:=by
  obtain ⟨l⟩:=sl
  exact congrArg Array.mk hs
 exact⟨bm,ns,nm,qn,bs,hd,sn,sub,ab,col,dd,k0,k1,k2,k3,k5,_,X _ _ ho,.of_isNs (PySem.W.isNs_of_in X hok),PySem.W.nsMap_none_of_in X hok hni,PySem.W.tail_of_in X ht⟩
theorem bO.of {P:Program}{w:World}{K:PySem.W.Frag}{mg:Str->Option Value}{base:Heap}{k:Nat}{x:Str}{ps N:List Str}{p:dG}{st:Stmt}{f:Addr}{fd:FuncData} (F:eR K x x st f fd) (m:mg x=some (.ref f)) (S:FnScope N ps (aR st))
  (hb:∀ (kV doc pm:Value) (an:Option Addr) (cdv ct:Value) (us:List Value),us.length=ps.length->bindArgs (PySem.W.fnOf x x (iI st) (dP st) (aR st) .none kV doc pm an cdv ct) ⟨us,[]⟩=pure (ps.zip us))
  (t:(Str->Prop)->aK) (len:∀ Ep xs Q,p Ep xs Q->xs.length=ps.length) (rd:∀ Ep xs Q,p Ep xs Q->t Ep { nx:=fun _=>Q .non,rt:=Q } (dS N xs))
  (body:∀ (cdv:Value) (A:Around) (outer:List Env) (s:Shared) (H:Hp) (E:XK) (Ep:Str->Prop),bZ k (A.deeper (envOfC x (aR st) s.heap.objs.size f cdv))->m5 (cU (dY P w) P w K mg base N x (aR st) f cdv A outer s H E) (EX K H Ep)->
   eG (cU (dY P w) P w K mg base N x (aR st) f cdv A outer s H E) (dP st) (t Ep)):bO P w K mg base (k+1) x ps p:=by
 refine⟨f,fd,F.okX S (fun vs H Q E h=>?_) (fun cdv A outer s H vs Q E hr h=>?_),F.binds hb,F.kp,m⟩
 ·obtain ⟨xs,Qp,Ep,r,q,_⟩:=h
  rw [r.length]; exact len Ep xs Qp q
 ·obtain ⟨xs,Qp,Ep,r,q,k,ke⟩:=h
  have ht:=body cdv A outer s H E Ep hr (az8 fun c d H' z=>?_)
  ·refine⟨_,ht,fun _=>False,dS N xs,_,v6 r,rd Ep xs Qp q,?_,?_,?_,?_⟩
   ·exact fun W' σ' H' ρ' e px q=>k _ _ _ px.same .non q
   ·exact fun v H' x s r q=>k _ _ _ s r q
   ·exact fun W' σ' H' ρ' e px q=>q
   ·exact fun W' σ' H' ρ' e px q=>q
  ·obtain ⟨rfl,s1,n,C,rfl,z1,z2⟩:=z
   exact ke n C H' s1 z1 z2
end PP
namespace Core
open PySem L2 PP
abbrev jT (t:(Str->Prop)->aK) (N:List Str) (p:dG):Prop:=∀ Ep xs Q,p Ep xs Q->t Ep { nx:=fun _=>Q .non,rt:=Q } (dS N xs)
def mC:dG:=fun Ep xs Q=>∃ ws ls x ns,xs = [bJ ws ls,x]/\cJ x ns/\ns.length<=1000/\(b9 ws.length ns=true->Q (.tup (intz ns)))/\(b9 ws.length ns=false->Ep "BadSet")
def S2 (Ep:Str->Prop):aK:=(aM (cI (kB (aW (aC vS (a7 (a5 0) (a7 (a5 1) aA))))) (wJ Ep "BadSet" (a7 (qC (.str "a set is of rising hearths of the web")) aA)) cL)
 (bB (aC eW (a7 (a5 1) aA))))
theorem aJ1:jT S2 ["web","hearths"] mC:=by
 rintro Ep xs Q ⟨ws,ls,x,ns,rfl,hx,hl,q1,q2⟩
 refine⟨_,rfl,_,rfl,ws,ls,x,ns,rfl,hx,hl,_,rfl,?_⟩
 cases h:b9 ws.length ns with
 | true=>exact aS ⟨_,rfl,⟨_,_,rfl,hx.seqT,cY _,trivial,q1 h⟩,hx.noscr⟩
 | false=>exact b6 ⟨by decide,q2 h⟩
end Core
namespace PP
open PySem L2
theorem qY {us:List Value} (h:us.length=1):∃ a,us = [a]:=List.length_eq_one_iff.mp h
theorem wL {us:List Value} (h:us.length=2):∃ a b,us = [a,b]:=by
 cases us with
 | nil=>cases h
 | cons a r=>
  obtain ⟨b,rfl⟩:=qY (us:=r) (by simpa using h)
  exact⟨a,b,rfl⟩
theorem wM {us:List Value} (h:us.length=3):∃ a b c,us = [a,b,c]:=by
 cases us with
 | nil=>cases h
 | cons a r=>
  obtain ⟨b,c,rfl⟩:=wL (us:=r) (by simpa using h)
  exact⟨a,b,c,rfl⟩
theorem S3 {us:List Value} (h:us.length=4):∃ a b c d,us = [a,b,c,d]:=by
 cases us with
 | nil=>cases h
 | cons a r=>
  obtain ⟨b,c,d,rfl⟩:=wM (us:=r) (by simpa using h)
  exact⟨a,b,c,d,rfl⟩
section
variable {X : Cx} {e : Expr} {tk : aF} {D : cE} {σ : St} {H : Hp} {pos : Pos}
def wN (i:Nat) (tk:aF):aK:=fun D ρ=>∃ ps,ρ[i]? = some (some (.own (.dT ps)))/\tk ρ fun y _=>∃ k,y = .tup (k.map kP)/\(∃ j:Nat,(ps.map (·.1))[j]? = some k)/\∀ j:Nat,(ps.map (·.1))[j]? = some k->D.nx (ρ.set i (some (.own (.dT (ps.eraseIdx j)))))
theorem aJ2 {i:Nat} (h:LS X (wN i tk) D σ H):oG (M6 (iC i) (LE X tk)) D σ H:=by
 obtain ⟨W,ρ,D',px,⟨ps,hi,q⟩,k⟩:=h
 obtain ⟨v,ev,a,rfl,wa,kvs,ea,e1,r⟩:=px.sl i _ hi
 refine⟨_,ev,a,rfl,.inr ⟨kvs,.inl ea⟩,W,ρ,_,px,q,?_⟩
 rintro kv H2 y g s ry ⟨kk,rfl,is,q⟩
 obtain ⟨b,us,rfl,hb,rb⟩:=ry.sqT
 obtain rfl:=pM rb
 have ea2:=s _ _ ea
 refine⟨kvs,kk,b,ea2,rfl,hb,by rw [e1]; exact is,fun j v hj=>?_⟩
 rw [e1] at hj
 refine k.nx W σ _ _ ((Ev.same s).trans (Ev.upd wa)) ((px.mono s).updT hi ev wa ⟨?_,?_⟩) (q j hj)
 ·rw [Raw.kY,Raw.kY,e1]
 ·rw [Raw.kY,Raw.kY]
  exact ((r.same s fun _ z=>z).eraseIdx j).keep (.upd ea2 rfl fun b m=>⟨lF wa m,m⟩)
theorem aJ3 (i:Nat) {x:Str}{apos cpos xpos:Pos} (hu:X.A.units+1 < cLine) (he:QE X e tk) (hm:M1 X (.Name x xpos) "pop" apos e cpos:=by exact⟨rfl,rfl,rfl,rfl⟩) (hN:X.N[i]? = some x:=by rfl) (hv:gD X.env.scope x:=by first | exact Or.inl rfl | exact Or.inr (Or.inl rfl) | exact Or.inr (Or.inr rfl)) (hd:(x == ("__debug__" : Str))=false:=by decide) (hcd:(x == ("__classdict__" : Str))=false:=by decide)
  (hsw:swapsWith (.Call (.Attribute (.Name x xpos) "pop" apos) [e] [] cpos) none pos.line X.env=pure false:=by rfl):QS X (.Expr (.Call (.Attribute (.Name x xpos) "pop" apos) [e] [] cpos) pos) (wN i tk):=
 dU (mG (aA3 hu (j5 hN hv hd hcd) he hm) hsw) fun _ _ _=>aJ2
end
end PP
namespace Core
open PySem L2 PP
def jU:bC:=fun xs Q=>∃ c k:Int,xs = [.int c,.int k]/\0<=k/\k<=1000/\∀ z:Int,0<=z->Q (.int z)
def S4:aK:=(aM (b7 2 (dM (uM (kE (kE (dM (a5 0) (qC (.int 1000000007))) (uM (a5 1) (a5 1))) (qC (.int 1))) (qC (.int 48271))) (qC (.int 2147483647))))
 (bB (jJ (dM (uM (a5 2) (a5 2)) (qC (.int 2147483647))) (qC (.int 8)))))
theorem aJ4:cC S4 ["cell","k","turn"] jU:=by
 rintro xs Q ⟨c,k,rfl,k0,k1,q⟩
 refine⟨_,rfl,_,_,rfl,rfl,(by show (0:Int) < 1000000007; decide),_,rfl,_,rfl,_,_,rfl,rfl,.inl ⟨by show -(2 ^ 64) < k; omega,by show k < 2 ^ 64; omega⟩,_,_,rfl,rfl,_,_,rfl,rfl,_,_,rfl,rfl,.inr ⟨by decide,by decide⟩,_,_,rfl,rfl,(by show (0:Int) < 2147483647; decide),trivial,?_⟩
 dsimp only
 have t0:0<=(c % 1000000007+k * k+1) * 48271 % 2147483647:=bl0 _ (by decide)
 have t1:(c % 1000000007+k * k+1) * 48271 % 2147483647 < 2147483647:=bk6 _ (by decide)
 generalize (c % 1000000007+k * k+1) * 48271 % 2147483647=t at t0 t1
 refine⟨_,rfl,_,rfl,_,_,rfl,rfl,.inl ⟨by show -(2 ^ 64) < t; omega,by show t < 2 ^ 64; omega⟩,_,_,rfl,rfl,(by show (0:Int) < 2147483647; decide),_,_,rfl,rfl,⟨by decide,by decide⟩,trivial,q _ ?_⟩
 have:=bl0 (t * t) (show (2147483647:Int) ≠ 0 by decide)
 omega
abbrev DK (n:Int) (ps:List (List a9 × PV)):Prop:=DL n ps ps.length
theorem DL.dk {n:Int}{ps:List (List a9 × PV)}{i:Nat} (h:DL n ps i):DK n ps:=⟨h.key,aX7 _,h.fl,h.nd⟩
theorem DK.nil (n:Int):DK n []:=⟨(fun _ h=>nomatch h),aX7 _,rfl,.nil⟩
theorem wO:∀ (m:Nat) (l:List Nat),l.Nodup->(∀ x ∈ l,x < m)->l.length<=m
 | 0,[],_,_=>aX7 _
 | 0,x :: _,_,h=>absurd (h x aY1) (Nat.not_lt_zero _)
 | m+1,l,nd,h=>by
  by_cases hm:m ∈ l
  ·have h1:=wO m (l.erase m) (nd.erase m) fun x hx=>by
    obtain ⟨h2,h3⟩:=(nd.mem_erase_iff).mp hx
    have:=h x h3
    omega
   rw [List.length_erase_of_mem hm] at h1
   omega
  ·have h1:=wO m l nd fun x hx=>by
    have:=h x hx
    have:x ≠ m:=fun z=>hm (z ▸ hx)
    omega
   omega
theorem gA.seqTF {x:PV}{ns:List Int} (h:gA x ns):seqT x=some (intz ns):=by rcases h with rfl | rfl <;> rfl
theorem DK.put {n:Int}{ps:List (List a9 × PV)} (h:DK n ps) (l:Int × Int) (hl:0<=l.1/\l.1 < l.2/\l.2 < n):DK n (cD ps (eZ l) (.bl true)):=(DL.put h l hl).dk
theorem DK.cut {n:Int}{ps:List (List a9 × PV)} (h:DK n ps) (j:Nat):DK n (ps.eraseIdx j):=
 ⟨fun p hp=>h.key p (List.mem_of_mem_eraseIdx hp),aX7 _,by
  rw [Raw.kY]
  have:∀ (j:Nat) {xs:List PV},flats xs=true->flats (xs.eraseIdx j)=true:=by
   intro j
   induction j with
   | zero=>
    intro xs h
    cases xs with
    | nil=>rfl
    | cons x r=>unfold flats at h; rw [bb1] at h; exact h.2
   | succ j ih=>
    intro xs h
    cases xs with
    | nil=>rfl
    | cons x r=>
     unfold flats at h
     rw [bb1] at h
     show (flat x && flats (r.eraseIdx j))=true
     rw [h.1,ih h.2]; rfl
  exact this j h.fl,(h.nd).sublist ((List.eraseIdx_sublist ps j).map _)⟩
def qZ:bC:=fun xs Q=>∃ c n:Int,xs = [.int c,.int n]/\0<=n/\n<=40/\∀ S,b9 n.toNat S=true->Q (.tup (intz S))
def S5:aK:=(aM (cI (aW (iS (dM (a5 0) (qC (.int 2))) (qC (.int 1)))) (bB (aC eW (a7 (cV (iQ (a5 1)) [none,some 0] (bR 0) (aW (iS (dM (au7 (a5 1) (kE (a5 0) (qC (.int 1)))) (qC (.int 2))) (qC (.int 1)))) (a5 0)) aA))) cL)
 (bB (aC eW (a7 (cV (iQ (a5 1)) [none,some 0] (bR 0) (aW (gZ (dM (aC jU (a7 (a5 1) (a7 (a5 0) aA))) (qC (.int 8))) (kE (qC (.int 1)) (dM (jJ (a5 1) (qC (.int 2))) (qC (.int 7)))))) (a5 0)) aA))))
def i5 (i:Nat) (S:List Int):Prop:=S.Pairwise (· < ·)/\∀ x ∈ S,0<=x/\x < (i:Int)
theorem i5.more {i:Nat}{S:List Int} (h:i5 i S):i5 (i+1) S:=⟨h.1,fun x hx=>by have:=h.2 x hx; omega⟩
theorem i5.app {i:Nat}{S:List Int} (h:i5 i S):i5 (i+1) (S ++ [(0:Int)+(i:Int)]):=by
 refine⟨bc1.mpr ⟨h.1,ba8 _ _,fun a ha b hb=>?_⟩,fun x hx=>?_⟩
 ·rw [aY3.mp hb]
  have:=h.2 a ha
  omega
 ·rcases bb6.mp hx with hx | hx
  ·have:=h.2 x hx; omega
  ·rw [aY3.mp hx]; omega
theorem i5.set {i:Nat}{S:List Int} (h:i5 i S):b9 i S=true:=by
 unfold b9
 rw [vK h.1,Bool.true_and,bg8]
 intro b hb
 obtain ⟨x,hx,rfl⟩:=bb9.mp hb
 have:=h.2 x hx
 unfold inB
 simp only [id,bb1,ba1]
 exact this
theorem aJ5:cC S5 ["cell","many"] qZ:=by
 rintro xs Q ⟨c,n,rfl,n0,n1,q⟩
 refine⟨_,rfl,_,_,rfl,rfl,(by show (0:Int) < 2; decide),.inl ⟨_,_,rfl,rfl,_,rfl,?_⟩⟩
 cases h1:(if false=true then !decide (c % 2=1) else decide (c % 2=1)) with
 | true=>
  refine b6 ⟨_,rfl,n,rfl,by omega,by omega,by rw [eC]; omega,fun i acc=>∃ S,acc=intz S/\i5 i S,⟨[],rfl,.nil,fun _ h=>nomatch h⟩,?_,?_⟩
  ·rintro i y acc hy ⟨S,rfl,hS⟩
   obtain ⟨rfl,hi⟩:=jQ hy
   refine⟨_,rfl,_,rfl,_,_,rfl,rfl,_,_,rfl,rfl,(by show (0:Int)<=0+(i:Int)+1; omega),_,_,rfl,rfl,(by show (0:Int) < 2; decide),.inl ⟨_,_,rfl,rfl,_,rfl,?_⟩⟩
   dsimp only
   generalize (if false=true then _ else _)=b
   cases b with
   | true=>exact b6 ⟨_,rfl,trivial,S ++ [(0:Int)+(i:Int)],by rw [fM]; rfl,hS.app⟩
   | false=>exact aS ⟨S,rfl,hS.more⟩
  ·rintro acc ⟨S,rfl,hS⟩
   rw [eC] at hS
   exact⟨⟨_,_,rfl,rfl,cY _,trivial,q S hS.set⟩,fun ns z=>by cases z⟩
 | false=>
  refine aS ⟨_,rfl,n,rfl,by omega,by omega,by rw [eC]; omega,fun i acc=>∃ S,acc=intz S/\i5 i S,⟨[],rfl,.nil,fun _ h=>nomatch h⟩,?_,?_⟩
  ·rintro i y acc hy ⟨S,rfl,hS⟩
   obtain ⟨rfl,hi⟩:=jQ hy
   refine⟨_,rfl,_,rfl,c,_,rfl,by omega,by omega,fun z z0=>⟨_,_,rfl,rfl,(by show (0:Int) < 8; decide),_,rfl,_,_,rfl,rfl,⟨by decide,by decide⟩,_,_,rfl,rfl,(by show (0:Int) < 7; decide),_,_,rfl,rfl,_,_,rfl,rfl,_,rfl,?_⟩⟩
   dsimp only
   generalize decide ((_:Int) < _)=b
   cases b with
   | true=>exact b6 ⟨_,rfl,trivial,S ++ [(0:Int)+(i:Int)],by rw [fM]; rfl,hS.app⟩
   | false=>exact aS ⟨S,rfl,hS.more⟩
  ·rintro acc ⟨S,rfl,hS⟩
   rw [eC] at hS
   exact⟨⟨_,_,rfl,rfl,cY _,trivial,q S hS.set⟩,fun ns z=>by cases z⟩
def o7:dG:=fun Ep xs Q=>∃ ws ls x S,xs = [bJ ws ls,x]/\Wb ws ls/\cJ x S/\S.length<=1000/\(b9 ws.length S=true->∀ k,stay ws ls (cZ ws ls S k)=cZ ws ls S k->Q (.tup (intz (cZ ws ls S k))))/\(b9 ws.length S=false->Ep "BadSet")
def S6 (Ep:Str->Prop):aK:=(aM (b7 2 (aC iX (a7 (a5 0) aA)))
 (aM (b7 3 (i4 Ep mC (a7 (a5 0) (a7 (a5 1) aA))))
 (aM (b7 4 (aC o5 (a7 (a5 0) (a7 (a5 2) (a7 (a5 3) aA)))))
 (aM (lG (aW (q2 (jI 2 true) (a5 4) (a5 3)))
  (aM (b7 3 (a5 4))
  (b7 4 (aC o5 (a7 (a5 0) (a7 (a5 2) (a7 (a5 3) aA)))))))
 (jF 3)))))
theorem aJ6:jT S6 ["web","some","around","left","kept"] o7:=by
 rintro Ep xs Q ⟨ws,ls,x,S,rfl,wb,hx,hl,q,qe⟩
 refine⟨_,rfl,ws,ls,rfl,wb,trivial,?_⟩
 refine⟨_,rfl,_,rfl,ws,ls,x,S,rfl,hx,hl,fun hs=>⟨trivial,?_⟩,qe⟩
 have q:=q hs
 refine⟨_,rfl,_,rfl,_,rfl,ws,ls,_,S,rfl,wb,.inl rfl,hs,trivial,?_⟩
 refine⟨fun n ρ=>∃ k,ρ = [some (.sh (flat (bJ ws ls)) (bJ ws ls)),some (.sh (flat x) x),some (.sh true (.lst (fN ws.length ls))),some (.sh true (.tup (intz (cZ ws ls S k)))),some (.sh true (.tup (intz (stay ws ls (cZ ws ls S k)))))]/\n=(cZ ws ls S k).length,⟨_,0,rfl,rfl⟩,?_⟩
 rintro n ρ ⟨k,rfl,rfl⟩
 refine⟨_,rfl,_,rfl,.inl ⟨_,_,rfl,rfl⟩,E6 2 _ _,_,rfl,?_⟩
 show if (!bF 3 (PV.tup (intz (stay ws ls (cZ ws ls S k)))) (PV.tup (intz (cZ ws ls S k))))=true then _ else _
 rw [E4]
 by_cases h:stay ws ls (cZ ws ls S k)=cZ ws ls S k
 ·rw [aX4 h]
  exact aS ⟨_,rfl,trivial,q k h⟩
 ·rw [aX3 h]
  refine b6 ⟨_,rfl,trivial,?_⟩
  refine⟨_,rfl,_,rfl,_,rfl,ws,ls,_,_,rfl,wb,.inl rfl,qX hs (k+1),trivial,?_⟩
  exact⟨_,aG7 h,k+1,rfl,rfl⟩
end Core
namespace PP
open PySem L2
section
variable {X : Cx} {a b e : Expr} {ta tb : aF} {tr : cO} {D : cE} {σ : St} {H : Hp} {pos p2 p3 p4 : Pos}
def S7:List PV->(PV->Prop)->Prop:=fun xs Q=>∃ ns:List Int,xs = [.tup (intz ns)]/\ns.Nodup/\ns.length<=1000/\Q (.int ns.length)
theorem aJ7 (B:Bt X.mg) (bs:X.mg "set" = none) (hc:X.calm=true) (ha:QA X [e] tr) (hg:Gl X "len":=by rfl) (hg2:Gl X "set":=by rfl) (he:starEach [e] X.env=(false,eval e X.env) :: starEach [] X.env:=by rfl) (hpl:∀ p:Pos,(backTo p (starEach [] X.env)).any (·.1)=false:=by intro _; rfl)
  (he2:starEach [.Call (.Name "set" p3) [e] [] p4] X.env=(false,eval (.Call (.Name "set" p3) [e] [] p4) X.env) :: starEach [] X.env:=by rfl):QE X (.Call (.Name "len" p2) [.Call (.Name "set" p3) [e] [] p4] [] pos) (aC S7 tr):=
 c8 (sS aA9 hg B.len PySem.boot_len (fF (yM (aA8 hc) hg2 bs PyProof.Rows.boot_set ha (by decide) (by decide) he (hpl _)) gE he2) (by decide) (by decide) he2 (hpl _)) fun σ H Q' h=>by
  obtain ⟨W,ρ,Q,px,q,k⟩:=h
  refine⟨W,ρ,_,px,q,fun vs H1 xs s1 r1 q1=>?_⟩
  obtain ⟨ns,e1,nd,hl,q⟩:=q1
  have r2:=r1.any
  rw [e1] at r2
  obtain ⟨v,rfl,r3⟩:=r2.one
  obtain ⟨p,us,rfl,hp,r4⟩:=r3.sqT
  obtain rfl:=r4.ofInts
  refine⟨p,ns,rfl,aG.of hp,nd,hl,fun l S hf=>⟨l,S,ns.length,rfl,bK,hl,?_⟩⟩
  exact k _ _ _ .fr (s1.trans (bQ hf _)) (.int _) q
end
section
variable {X : Cx} {e : Expr} {tr : cO} {pos p2 : Pos}
def o8:List PV->(PV->Prop)->Prop:=fun xs Q=>∃ ys:List (List Int),xs = [.lst (ys.map fun r=>PV.tup (intz r))]/\ys.length<=4096/\(∀ y ∈ ys,y.length=2)/\∀ zs:List (List Int),zs.Perm ys->zs.Pairwise (fun u v=>HT.c9 v u=false)->Q (.lst (zs.map fun r=>PV.tup (intz r)))
theorem aJ8:eV X o8 (L9 X.K):=by
 rintro H vs xs Q Q' r ⟨ys,rfl,hl,hne,q⟩ k
 obtain ⟨v,rfl,r1⟩:=r.one
 obtain ⟨a,us,rfl,_,h,r2⟩:=r1.sqL
 obtain ⟨h1,h2⟩:=O6 r2
 have lr:=r2.length
 rw [aY0] at lr
 refine⟨a,us,kZ H,rfl,aJ.of h,by omega,fun y hy=>?_,fun l zs hl' pm so=>?_⟩
 ·obtain ⟨b,rfl,hb⟩:=h2 y hy
  refine⟨b,rfl,aG.of hb,hne _ ?_⟩
  rw [<- h1]; exact bb9.mpr ⟨_,hy,rfl⟩
 ·have hz:∀ u ∈ zs,∃ b,u = .ref b/\H b=some (.tup ((kZ H u).map V.int)):=fun u hu=>h2 u (pm.mem_iff.mp hu)
  refine k _ _ _ (bQ hl' _) (.lst hl' bK ((O7 hz).same (bQ hl' _) fun _ z=>z)) (q _ ?_ ?_)
  ·rw [<- h1]; exact pm.map _
  ·rw [bg2]; exact so
theorem wP (B:Bt X.mg) (ha:QA X [e] tr) (hg:Gl X "sorted":=by rfl) (he:starEach [e] X.env=(false,eval e X.env) :: starEach [] X.env:=by rfl) (hpl:(backTo pos (starEach [] X.env)).any (·.1)=false:=by rfl):QE X (.Call (.Name "sorted" p2) [e] [] pos) (aC o8 tr):=
 jN az5 aJ8 hg B.sorted PyProof.Rows.boot_sorted ha (he:=he) (hpl:=hpl)
end
end PP
namespace Core
open PySem L2 PP
structure WL (n:Int) (ws:List Int) (ls:List (Int × Int)):Prop where
 many:(ws.length:Int)=n
 inn:∀ l ∈ ls,0<=l.1/\l.1 < l.2/\l.2 < n
 most:ls.length<=1700
 ord:ls.Pairwise cR
 pos:∀ w ∈ ws,0<=w
theorem WL.perm {n:Int}{ws:List Int}{ls ls':List (Int × Int)} (h1:(ws.length:Int)=n) (h2:∀ l ∈ ls,0<=l.1/\l.1 < l.2/\l.2 < n) (h3:ls.length<=1700) (nd:ls.Nodup) (h4:∀ w ∈ ws,0<=w) (p:ls'.Perm ls) (so:(ls'.map two).Pairwise fun u v=>HT.c9 v u=false):WL n ws ls':=
 ⟨h1,fun l hl=>h2 l (p.mem_iff.mp hl),by rw [p.length_eq]; exact h3,w5 so (p.nodup_iff.mpr nd),h4⟩
theorem DK.few40 {n:Int}{ps:List (List a9 × PV)} (h:DK n ps) (hn:n<=40):ps.length<=1600:=by
 obtain ⟨ls,_,e2,e3,e4⟩:=DL.links h.key
 have nd:ls.Nodup:=by
  have:=h.nd
  rw [e4] at this
  exact (bg2.mp this).imp fun h e=>h (congrArg eZ e)
 have:=wO 1600 (ls.map fun l=>(l.1 * 40+l.2).toNat) (by
  refine bg2.mpr (nd.imp_of_mem fun {a b} ha hb hab e=>hab ?_)
  have:=e2 a ha
  have:=e2 b hb
  exact Prod.ext (by omega) (by omega)) fun x hx=>by
   obtain ⟨l,hl,rfl⟩:=bb9.mp hx
   have:=e2 l hl
   omega
 rw [aY0,e3] at this
 omega
def r6:bC:=fun xs Q=>∃ c:Int,xs = [.int c]/\∀ z:Int,0<=z->z<=40->Q (.int z)
def S8:aK:=(aM (cI (aW (iS (dM (jJ (a5 0) (qC (.int 8))) (qC (.int 3))) (qC (.int 1)))) (bB (dM (jJ (a5 0) (qC (.int 24))) (qC (.int 41)))) cL)
 (bB (dM (a5 0) (qC (.int 8)))))
theorem aJ9:cC S8 ["cell"] r6:=by
 rintro xs Q ⟨c,rfl,q⟩
 refine⟨_,rfl,_,_,rfl,rfl,⟨by decide,by decide⟩,_,_,rfl,rfl,(by show (0:Int) < 3; decide),.inl ⟨_,_,rfl,rfl,_,rfl,?_⟩⟩
 cases h:(if false=true then !decide (c / 8 % 3=1) else decide (c / 8 % 3=1)) with
 | true=>exact b6 ⟨_,rfl,_,_,rfl,rfl,⟨by decide,by decide⟩,_,_,rfl,rfl,(by show (0:Int) < 41; decide),trivial,q _ (bl0 _ (by decide)) (by have:=bk6 (c / 24) (show (0:Int) < 41 by decide); omega)⟩
 | false=>exact aS ⟨_,rfl,_,_,rfl,rfl,(by show (0:Int) < 8; decide),trivial,q _ (bl0 _ (by decide)) (by have:=bk6 c (show (0:Int) < 8 by decide); omega)⟩
def o9 (f:List Int->List (Int × Int)->List Int->(PV->Prop)->Prop):dG:=fun Ep xs Q=>∃ ws ls x ns,xs = [bJ ws ls,x]/\Wb ws ls/\cJ x ns/\ns.length<=1000/\(b9 ws.length ns=true->f ws ls ns Q)/\(b9 ws.length ns=false->Ep "BadSet")
def r9:dG:=o9 fun ws ls ns Q=>∀ m,cE ws ls ns m->Q (.lst (tups (ns :: after ws ls ns m)))
def rA:dG:=o9 fun ws ls ns Q=>∀ m,cE ws ls ns m->Q (.dK (j4 (ns :: after ws ls ns m)))
def rB:dG:=o9 fun ws ls ns Q=>∀ ms m,cE ws ls ns m->ms.Perm (aY ws ls ns m)->ms.Pairwise (· <= ·)->Q (.tup (intz ms))
def rC:dG:=o9 fun ws ls ns Q=>∀ m,cE ws ls ns m->Q (.bl (decide (((aY ws ls ns m).length:Int)=(ws.length:Int))))
def S9 (Ep:Str->Prop):aK:=(aM (gW 2 (iO (a7 (i4 Ep mC (a7 (a5 0) (a7 (a5 1) aA))) aA)))
 (aM (gW 3 (aC gM (a7 (bW (a5 2) (qC (.int 0))) aA)))
 (aM (b7 4 (aC iX (a7 (a5 0) aA)))
 (aM (b7 5 (aC nZ (a7 (a5 0) (a7 (a5 4) (a7 (a5 3) aA)))))
 (aM (lG (nF (a5 5))
  (aM (lH 2 (a5 5))
  (aM (uH 3 (aC gM (a7 (a5 5) aA)))
  (b7 5 (aC nZ (a7 (a5 0) (a7 (a5 4) (a7 (a5 3) aA))))))))
 (jF 2))))))
theorem aK0:jT S9 ["web","seeds","told","burning","around","lit"] r9:=by
 rintro Ep xs Q ⟨ws,ls,x,ns,rfl,wb,hx,hl,q,qe⟩
 have few:=wb.few
 refine⟨_,rfl,_,rfl,ws,ls,x,ns,rfl,hx,hl,fun hs=>?_,qe⟩
 have q:=q hs
 have ln:=gN hs
 refine⟨by show 1<=1000; decide,?_,rfl,?_,?_⟩
 ·show (flat (.tup (intz ns)) && true)=true
  rw [nX]; rfl
 ·show (flat (.tup (intz ns)) && true)=true
  rw [nX]; rfl
 refine⟨_,rfl,_,_,_,rfl,rfl,rfl,_,ns,rfl,.inl rfl,by omega,fun ps d=>⟨rfl,d.fl,?_⟩⟩
 refine⟨_,rfl,ws,ls,rfl,wb,trivial,?_⟩
 refine⟨_,rfl,_,rfl,_,rfl,ws,ls,ps,ns,rfl,wb,d,trivial,?_⟩
 refine⟨fun n ρ=>∃ k ps,ρ = [some (.sh (flat (bJ ws ls)) (bJ ws ls)),some (.sh (flat x) x),some (.own (.lst (tups (ns :: after ws ls ns k)))),some (.own (.dK ps)),some (.sh true (.lst (fN ws.length ls))),some (.sh true (.tup (intz (nextOf ws ls (aY ws ls ns k)))))]/\
   n=cold ws (aY ws ls ns k)/\DS ps (aY ws ls ns k)/\∀ j < k,nextOf ws ls (aY ws ls ns j) ≠ [],⟨_,0,ps,rfl,rfl,d,fun _ z=>absurd z (Nat.not_lt_zero _)⟩,?_⟩
 rintro n ρ ⟨k,ps,rfl,rfl,d,ne⟩
 refine⟨_,rfl,_,rfl,?_⟩
 cases hn:nextOf ws ls (aY ws ls ns k) with
 | nil=>exact aS ⟨_,rfl,trivial,q k ⟨ne,hn⟩⟩
 | cons y yr=>
  refine b6 ?_
  rw [<- hn]
  have cs:=vN ws ls (aY ws ls ns k)
  have nl:1<=(nextOf ws ls (aY ws ls ns k)).length:=by rw [hn]; exact Nat.succ_le_succ (bc6 _)
  have nle:=aB2 ws ls (aY ws ls ns k)
  have sl:=vW (ls:=ls) hs k
  have dl:=d.len
  have ke:=M9 k ne
  refine⟨_,rfl,_,rfl,trivial,?_,?_⟩
  ·rw [O2,aZ7]
   unfold after
   rw [aY0,bf2]; omega
  refine⟨_,rfl,_,rfl,_,_,rfl,.inl rfl,by omega,fun mp dm=>⟨mp,rfl,.inl rfl,?_,?_⟩⟩
  ·have:=dm.len; omega
  have D7:DS (gK ps mp) (aY ws ls ns (k+1)):=d.merge dm
  refine⟨_,rfl,_,rfl,_,rfl,ws,ls,_,_,rfl,wb,D7,trivial,?_⟩
  refine⟨_,?_,k+1,gK ps mp,?_,rfl,D7,fun j hj=>?_⟩
  ·show cold ws (aY ws ls ns k ++ nextOf ws ls (aY ws ls ns k)) < _
   omega
  ·rw [M8,<- List.cons_append]
   unfold tups
   rw [ba6]; rfl
  ·by_cases e:j=k
   ·rw [e,hn]; exact fun z=>nomatch z
   ·exact ne j (by omega)
def T0 (Ep:Str->Prop):aK:=(aM (gW 2 (qC (.dK [])))
 (aM (eD (wC (i4 Ep r9 (a7 (a5 0) (a7 (a5 1) aA)))) (nI 3 4)
  (eD (dB (a5 4)) (bR 5)
   (pO 2 (a5 5) (a5 3))))
 (jF 2)))
theorem aK1:jT T0 ["web","seeds","ranks","rank","lit","hearth"] rA:=by
 rintro Ep xs Q ⟨ws,ls,x,ns,rfl,wb,hx,hl,q,qe⟩
 have few:=wb.few
 refine⟨rfl,rfl,_,rfl,_,rfl,ws,ls,x,ns,rfl,wb,hx,hl,fun hs m en=>⟨_,.inl rfl,fun z=>(by cases z),?_⟩,qe⟩
 have q:=q hs
 have fl:=vQ ws ls ns m
 have sl:=vW (ls:=ls) hs m
 have nd:=P9 (ls:=ls) hs m
 generalize hrs:ns :: after ws ls ns m=rs at fl
 rw [<- fl] at sl nd
 refine⟨fun i ρ=>∃ y z u,ρ = [some (.sh (flat (bJ ws ls)) (bJ ws ls)),some (.sh (flat x) x),some (.own (.dK (j4 (rs.take i)))),y,z,u],⟨none,none,none,rfl⟩,?_,?_⟩
 ·rintro i y ρ hy ⟨y0,z0,u0,rfl⟩
  obtain ⟨y,hy2,rfl⟩:=aF0 hy
  obtain ⟨r,rfl,hr⟩:=aC3 hy2
  have tk:rs.take (i+1)=rs.take i ++ [r]:=by rw [bd2,hr]; rfl
  have il:(rs.take i).length=i:=by
   have:=(aY5.mp hr).1
   rw [bd1]; omega
  have nd2:((rs.take i).flatten ++ r).Nodup/\((rs.take i).flatten ++ r).length<=rs.flatten.length:=by
   have e:rs.flatten=((rs.take i).flatten ++ r) ++ (rs.drop (i+1)).flatten:=by
    rw [<- List.flatten_singleton (l:=r),<- List.flatten_append,<- tk,<- List.flatten_append,bb2]
   rw [e] at nd ⊢
   exact⟨(bi2.mp nd).1,by rw [ba0 (as:=(rs.take i).flatten ++ r)]; omega⟩
  refine⟨_,_,rfl,_,rfl,_,rfl,fun z=>(by cases z),fun j ρ=>∃ u,ρ = [some (.sh (flat (bJ ws ls)) (bJ ws ls)),some (.sh (flat x) x),some (.own (.dK (j4 (rs.take i) ++ gB i (r.take j)))),some (.sh true (.int (i:Int))),some (.sh true (.tup (intz r))),u],⟨u0,?_⟩,?_,?_⟩
  ·rw [show gB i (r.take 0) = [] from rfl,ba5]
   rfl
  ·rintro j y ρ hy ⟨u1,rfl⟩
   obtain ⟨n,rfl,hn⟩:=g9 hy
   have ke:(j4 (rs.take i) ++ gB i (r.take j)).map (·.1)=((rs.take i).flatten ++ r.take j).map (Sum.inl:Int->a9):=by
    rw [ba6,ba6,R6,R4]
   have nn:n ∉ (rs.take i).flatten ++ r.take j:=by
    have:=nd2.1
    rw [<- bb2 j r,List.drop_eq_getElem_cons (aY5.mp hn).1,(aY5.mp hn).2,<- aZ5] at this
    exact fun z=>(bi2.mp this).2.2 n z n aY1 rfl
   have le:(j4 (rs.take i) ++ gB i (r.take j)).length<=40:=by
    have e1:=congrArg List.length ke
    have e2:=nd2.2
    rw [aY0,aY0,ba0,ba0,bd1] at e1
    rw [ba0] at e2
    rw [ba0]
    omega
   refine⟨_,rfl,_,rfl,_,rfl,Sum.inl n,rfl,trivial,by omega,si n,?_⟩
   rw [aI0 ke nn,aI1 hn,aZ5]
   rfl
  ·rintro ρ ⟨u,rfl⟩
   refine⟨some (.sh true (.int i)),some (.sh true (.tup (intz r))),u,?_⟩
   rw [bD,bc4,tk,aH9,il]
 ·rintro ρ ⟨y,z,u,rfl⟩
  rw [wB,O2,bc4,<- hrs]
  exact⟨_,rfl,trivial,q m en⟩
def T1 (Ep:Str->Prop):aK:=(bB (aC eW (a7 (aC wG (a7 (i4 Ep rA (a7 (a5 0) (a7 (a5 1) aA))) aA)) aA)))
theorem aK2:jT T1 ["web","seeds"] rB:=by
 rintro Ep xs Q ⟨ws,ls,x,ns,rfl,wb,hx,hl,q,qe⟩
 have few:=wb.few
 refine⟨_,rfl,_,rfl,ws,ls,x,ns,rfl,wb,hx,hl,fun hs m en=>?_,qe⟩
 have sl:=vW (ls:=ls) hs m
 refine⟨_,aY ws ls ns m,rfl,?_,by omega,fun ms hp ho=>⟨⟨_,_,rfl,rfl,cY _,trivial,q hs ms m en hp ho⟩,fun ns z=>by cases z⟩⟩
 rw [R6,vQ]
def T2 (Ep:Str->Prop):aK:=(bB (iS (aC dE (a7 (i4 Ep rB (a7 (a5 0) (a7 (a5 1) aA))) aA)) (aC jR (a7 (a5 0) aA))))
theorem aK3:jT T2 ["web","seeds"] rC:=by
 rintro Ep xs Q ⟨ws,ls,x,ns,rfl,wb,hx,hl,q,qe⟩
 refine⟨_,rfl,_,rfl,ws,ls,x,ns,rfl,wb,hx,hl,fun hs ms m en hp ho=>⟨_,_,rfl,rfl,_,rfl,ws,ls,rfl,.inl ⟨_,_,rfl,rfl,trivial,?_⟩⟩,qe⟩
 rw [bD,hp.length_eq]
 exact q hs m en
theorem aK4 (ws:List Int) (S:List Int):(eL ws.length S).length=cold ws S:=rfl
def T3 (Ep:Str->Prop):aK:=(aM (b7 2 (i4 Ep o7 (a7 (a5 0) (a7 (a5 1) aA))))
 (aM (b7 3 (a5 2))
 (aM (eD (dB (a5 2)) (bR 4)
  (cI (aW (q2 (fY false) (a5 4) (a5 3))) (aM (b7 5 (i4 Ep o7 (a7 (a5 0) (a7 (aC qW (a7 (a5 3) (a7 (iO (a7 (a5 4) aA)) aA))) aA))))
   (cI (nF (a5 5)) (b7 3 (a5 5)) cL)) cL))
 (jF 3))))
abbrev aK5:=T3
def rD:dG:=o9 fun ws ls S Q=>∀ G L,o6 ws ls S G->b9 ws.length G=true->wF ws ls G L->Q (.tup (intz L))
theorem aK6:jT T3 ["web","some","whole","left","hearth","smaller"] rD:=by
 rintro Ep xs Q ⟨ws,ls,x,S,rfl,wb,hx,hl,q,qe⟩
 have few:=wb.few
 refine⟨_,rfl,_,rfl,ws,ls,x,S,rfl,wb,hx,hl,fun hs k hk=>⟨trivial,?_⟩,qe⟩
 have q:∀ G L,o6 ws ls S G->b9 ws.length G=true->wF ws ls G L->Q (.tup (intz L)):=q hs
 have gr:=Q8 hk
 have gs:=qX (ls:=ls) hs k
 generalize cZ ws ls S k=G at *
 have gl:=gN gs
 refine⟨_,rfl,trivial,?_⟩
 refine⟨_,rfl,_,rfl,(fun z=>by cases z),fun i ρ=>∃ (L:List Int) (y4 y5:Option Slot),ρ = [some (.sh (flat (bJ ws ls)) (bJ ws ls)),some (.sh (flat x) x),some (.sh true (.tup (intz G))),some (.sh true (.tup (intz L))),y4,y5]/\
   stay ws ls L=L/\b9 ws.length L=true/\(∀ x ∈ L,x ∈ G)/\(L = [] ↔ G = [])/\∀ h ∈ G.take i,h ∈ L->∀ U,stay ws ls U=U->(∀ x ∈ U,x ∈ L)->h ∉ U->U = [],
  ⟨G,none,none,rfl,gr.cold,gs,fun _ z=>z,Iff.rfl,fun h z=>by rw [List.take_zero] at z; cases z⟩,?_,?_⟩
 ·rintro i y ρ hy ⟨L,y4,y5,rfl,lc,lset,lsub,lemp,lle⟩
  obtain ⟨h,rfl,hh⟩:=g9 hy
  have tk:∀ h',h' ∈ G.take (i+1)->h' ∈ G.take i ∨ h'=h:=fun h' z=>by
   rw [bd2,hh] at z
   rcases bb6.mp z with z | z
   ·exact .inl z
   ·exact .inr (aY3.mp z)
  have ll:=gN lset
  refine l4 ?_
  refine⟨_,rfl,_,rfl,_,L,rfl,rfl,_,rfl,?_⟩
  show if decide (h ∈ L)=true then _ else _
  by_cases hm:h ∈ L
  ·rw [aX4 hm]
   refine b6 ?_
   refine⟨_,rfl,_,rfl,_,rfl,by show 1<=1000; decide,rfl,_,L,_,[h],rfl,.inl rfl,.inr rfl,by omega,by show 1<=1000; decide,?_⟩
   have ws1:b9 ws.length (L.filter fun z=>!decide (z ∈ [h]))=true:=Q3 lset _
   refine⟨ws,ls,_,_,rfl,wb,.inl rfl,?_,fun _ k2 hk2=>⟨trivial,?_⟩,fun z=>by rw [ws1] at z; cases z⟩
   ·have:=be5 (fun z=>!decide (z ∈ [h])) L
    omega
   have g2:=Q8 hk2
   have s2:=qX (ls:=ls) ws1 k2
   have w2:∀ x,x ∈ L.filter (fun z=>!decide (z ∈ [h])) ↔ x ∈ L/\x ≠ h:=fun x=>by
    rw [ba4]; simp
   generalize cZ ws ls (L.filter fun z=>!decide (z ∈ [h])) k2=M at *
   refine⟨_,rfl,_,rfl,?_⟩
   cases hM:M with
   | nil=>
    refine aS ⟨L,si h,some (.sh true (.tup (intz []))),rfl,lc,lset,lsub,lemp,fun h' z hz U hU us hn=>?_⟩
    rcases tk h' z with z | rfl
    ·exact lle h' z hz U hU us hn
    ·cases hU2:U with
     | nil=>rfl
     | cons a r=>
      have:a ∈ M:=g2.most U hU (fun x hx=>(w2 x).mpr ⟨us x hx,fun e=>hn (e ▸ hx)⟩) a (by rw [hU2]; exact aY1)
      rw [hM] at this; cases this
   | cons a r=>
    rw [<- hM]
    have ne:(!(intz M).isEmpty)=true:=by rw [hM]; rfl
    show if (!(intz M).isEmpty)=true then _ else _
    rw [ne]
    have msub:∀ x ∈ M,x ∈ L:=fun x hx=>((w2 x).mp (g2.sub x hx)).1
    refine b6 ⟨_,rfl,trivial,M,si h,some (.sh true (.tup (intz M))),rfl,g2.cold,s2,fun x hx=>lsub x (msub x hx),⟨(fun z=>by rw [hM] at z; cases z),(fun z=>?_)⟩,fun h' z hz U hU us hn=>?_⟩
    ·have:a ∈ G:=lsub a (msub a (by rw [hM]; exact aY1))
     rw [z] at this; cases this
    ·rcases tk h' z with z | rfl
     ·exact lle h' z (msub _ hz) U hU (fun x hx=>msub x (us x hx)) hn
     ·exact absurd rfl ((w2 _).mp (g2.sub _ hz)).2
  ·rw [aX3 hm]
   refine aS ⟨L,si h,y5,rfl,lc,lset,lsub,lemp,fun h' z hz U hU us hn=>?_⟩
   rcases tk h' z with z | rfl
   ·exact lle h' z hz U hU us hn
   ·exact absurd hz hm
 ·rintro ρ ⟨L,y4,y5,rfl,lc,lset,lsub,lemp,lle⟩
  rw [bD,bc4] at lle
  exact⟨_,rfl,trivial,q G L gr gs ⟨lc,lset,lsub,lemp,fun h hh=>lle h (lsub h hh) hh⟩⟩
theorem T4 (n:Nat):∀ (a b:List (List Int)),((((tups a).zip (tups b)).all fun p=>bF (n+1) p.1 p.2) && (tups a).length == (tups b).length)=decide (a=b)
 | [],[]=>rfl
 | [],_ :: _=>by simp [tups]
 | _ :: _,[]=>by simp [tups]
 | x :: a,y :: b=>by
  have ih:=T4 n a b
  have e:∀ (z:List Int) (c:List (List Int)),tups (z :: c)=PV.tup (intz z) :: tups c:=fun _ _=>rfl
  rw [e,e]
  simp only [bh4,bh9,aZ7,E4] at ih ⊢
  by_cases h:x=y
  ·subst h
   have:((tups a).length+1 == (tups b).length+1)=((tups a).length == (tups b).length):=by simp
   rw [this,aX4 rfl,Bool.true_and,ih]
   simp
  ·rw [aX3 h,bi0,bi0]
   simp [h]
theorem aK7 (n:Nat) (a b:List (List Int)):bF (n+2) (.lst (tups a)) (.lst (tups b))=decide (a=b):=T4 n a b
theorem T5 (n:Nat):∀ (a b:List (List Int)),cW (n+2) (.lst (tups a)) (.lst (tups b))=true
 | [],_=>by unfold cW tups; simp
 | _ :: _,[]=>by unfold cW tups; simp
 | x :: a,y :: b=>by
  have ih:=T5 n a b
  show (((PV.tup (intz x) :: tups a).zip (PV.tup (intz y) :: tups b)).all fun p=>cW (n+1) p.1 p.2)=true
  rw [bh4,bh9,E6,Bool.true_and]
  exact ih
abbrev T6 (bs:List Bool):List PV:=bs.map PV.bl
section
variable {ws : List Int} {ls : List (Int × Int)}
def cne (ws:List Int) (ls:List (Int × Int)) (S:List Int):Bool:=!decide (S = []) && decide (stay ws ls S=S)
end
def far (ns S:List Int):Bool:=decide (((S.filter fun x=>decide (x ∈ ns)).length:Int)=0)
theorem aK8 {ws:List Int}{ls:List (Int × Int)}{S:List Int}{k:Nat} (hS:b9 ws.length S=true):decide (((aY ws ls S k).length:Int)=(ws.length:Int))=decide (eL ws.length (aY ws ls S k) = []):=by
 have len:(aY ws ls S k).length+(eL ws.length (aY ws ls S k)).length<=ws.length:=by
  have h1:=vO ws ls S k
  have h2:=vP (iV (eJ hS).1) (eJ hS).2
  rw [aK4]; omega
 rw [be8,ba1,ba1]
 refine⟨fun z=>List.eq_nil_of_length_eq_zero (by omega),fun z=>?_⟩
 have all:∀ x ∈ rng ws.length,x ∈ aY ws ls S k:=fun x hx=>Decidable.byContradiction fun y=>by
  have:=fP.mpr ⟨hx,y⟩
  rw [z] at this; cases this
 have:=(P3 ws.length).length_le_of_subset all
 rw [qN] at this
 omega
def T7 (ws:List Int) (ls:List (Int × Int)):List Int->List Int->Bool
 | _,[]=>true
 | B,h :: R=>inB ws.length h && (kin ws ls B h && T7 ws ls (B ++ [h]) R)
end Core
namespace Raw
open PySem PySem.W PySem.Calls PyProof.Rows
theorem wQ {xs:List Nat} (a:xs.Pairwise (· < ·)) {i k:Nat} (hk:k < xs.length) (h:i<=k):xs.getD i 0<=xs.getD k 0:=by
 rcases bb7 i k with z | z
 ·have:=bc7.mp a i k (by omega) hk z
  rw [aZ1,aZ1,aX5 (by omega),aX5 hk]
  exact bf3 this
 ·rw [Nat.le_antisymm h z]; exact aX7 _
theorem aK9 {xs:Array Nat}{i j:Nat} (h:i < xs.size):xs.getD i j=xs.toList.getD i 0:=by
 rw [aZ1,bg1,Array.getD_eq_getD_getElem?,Array.getElem?_eq_getElem h]; rfl
theorem wR {xs:Array Nat}{j:Nat} (a:xs.toList.Pairwise (· < ·)):∀ (fuel lo hi:Nat),lo<=hi->hi<=xs.size->hi - lo<=fuel->(∀ i,i < lo->xs.toList.getD i 0 < j)->(∀ i,hi<=i->i < xs.size->j<=xs.toList.getD i 0)->
  SetTable.below.go xs j fuel lo hi<=xs.size/\(∀ i,i < SetTable.below.go xs j fuel lo hi->xs.toList.getD i 0 < j)/\∀ i,SetTable.below.go xs j fuel lo hi<=i->i < xs.size->j<=xs.toList.getD i 0
 | 0,lo,hi,h1,h2,h3,h4,h5=>by
  have e:lo=hi:=by omega
  subst e
  exact⟨h2,h4,h5⟩
 | fuel+1,lo,hi,h1,h2,h3,h4,h5=>by
  have sz:xs.toList.length=xs.size:=bb8
  unfold SetTable.below.go
  by_cases lt:lo < hi
  ·rw [if_pos lt]
   dsimp only
   have m1:lo<=(lo+hi) / 2:=by omega
   have m2:(lo+hi) / 2 < hi:=by omega
   rw [aK9 (by omega)]
   by_cases c:xs.toList.getD ((lo+hi) / 2) 0 < j
   ·rw [if_pos c]
    exact wR a fuel _ _ (by omega) h2 (by omega) (fun i hi'=>Nat.lt_of_le_of_lt (wQ a (by omega) (by omega)) c) h5
   ·rw [if_neg c]
    exact wR a fuel _ _ (by omega) (by omega) (by omega) h4 fun i h6 h7=>bb5 (bk2 c) (wQ a (by omega) h6)
  ·rw [if_neg lt]
   have e:lo=hi:=by omega
   subst e
   exact⟨h2,h4,h5⟩
theorem aL0 {xs:Array Nat}{j:Nat} (a:xs.toList.Pairwise (· < ·)):SetTable.below xs j<=xs.size/\(∀ i,i < SetTable.below xs j->xs.toList.getD i 0 < j)/\∀ i,SetTable.below xs j<=i->i < xs.size->j<=xs.toList.getD i 0:=
 wR a xs.size 0 xs.size (bc6 _) (aX7 _) (by omega) (fun i h=>absurd h (Nat.not_lt_zero _)) fun i h1 h2=>absurd h2 (by omega)
theorem aL1 {α:Type} (xs:Array α) (p:Nat) (x:α):(SetTable.insertAt xs p x).toList=xs.toList.take p ++ x :: xs.toList.drop p:=by
 unfold SetTable.insertAt
 simp
 exact ba3 (by simp)
theorem aL2 {xs:Array Nat}{j:Nat} (a:xs.toList.Pairwise (· < ·)) (ne:xs[SetTable.below xs j]? ≠ some j):(SetTable.insertAt xs (SetTable.below xs j) j).toList.Pairwise (· < ·):=by
 obtain ⟨b1,b2,b3⟩:=aL0 (j:=j) a
 have sz:xs.toList.length=xs.size:=bb8
 rw [aL1]
 refine bc1.mpr ⟨a.sublist (List.take_sublist _ _),bi7.mpr ⟨fun x hx=>?_,a.sublist (List.drop_sublist _ _)⟩,fun x hx y hy=>?_⟩
 ·obtain ⟨i,hi,e⟩:=bd8 hx
  rw [bf6] at hi
  rw [List.getElem_drop] at e
  have h1:=b3 (SetTable.below xs j) (aX7 _) (by omega)
  have h2:=wQ a (i:=SetTable.below xs j) (k:=SetTable.below xs j+i) (by omega) (by omega)
  have h3:xs.toList.getD (SetTable.below xs j+i) 0=x:=by rw [aZ1,aX5 (by omega),e]; rfl
  rcases bb7 j x with z | z
  ·exact z
  ·exfalso
   have h4:xs.toList.getD (SetTable.below xs j) 0=j:=by omega
   rw [aZ1,aX5 (by omega)] at h4
   refine ne ?_
   rw [<- bg1,aX5 (by omega)]
   exact congrArg some h4
 ·have hx':x < j:=by
   obtain ⟨i,hi,e⟩:=bd8 hx
   rw [bd1] at hi
   rw [List.getElem_take] at e
   have:=b2 i (by omega)
   rw [aZ1,aX5 (by omega),e] at this
   exact this
  rcases aX9.mp hy with e | hy
  ·rw [e]; exact hx'
  ·obtain ⟨i,hi,e⟩:=bd8 hy
   rw [bf6] at hi
   rw [List.getElem_drop] at e
   have:=b3 (SetTable.below xs j+i) (by omega) (by omega)
   rw [aZ1,aX5 (by omega),e] at this
   exact aY7 hx' this
structure gO (b:Bool) (t:SetTable):Prop where
 asc:t.place.toList.Pairwise (· < ·)
 dm:t.dummies = #[]
 led:t.led=b
theorem T8 (j:Nat):SetTable.has #[] j=false:=by
 unfold SetTable.has
 simp
theorem T9 {t:SetTable} (dm:t.dummies = #[]) {h:Int}{j:Nat}{d:Option Nat}:∀ (fuel:Nat) (p:SetTable.Probe),p.dummy=none->SetTable.probe.go t (fun _=>h+1) h fuel p=some (.empty j d)->d=none/\t.slot j = .empty
 | 0,p,_,e=>by cases e
 | fuel+1,p,hp,e=>by
  unfold SetTable.probe.go at e
  have adv:∀ p:SetTable.Probe,p.dummy=none->(t.advance p).dummy=none:=fun p hp=>by
   unfold SetTable.advance
   split <;> exact hp
  cases hs:t.slot p.j with
  | empty=>
   rw [hs] at e
   cases e
   exact⟨hp,hs⟩
  | dummy=>
   exfalso
   unfold SetTable.slot at hs
   dsimp only at hs
   rw [dm,T8] at hs
   split at hs <;> cases hs
  | live i=>
   rw [hs] at e
   dsimp only at e
   rw [if_neg (by simp; omega)] at e
   exact T9 dm fuel _ (adv p hp) e
theorem aL3 {t:SetTable} (dm:t.dummies = #[]) {h:Int}{sl:Nat}{d:Bool} (e:t.freeSlot h=some (sl,d)):t.slot sl = .empty:=by
 unfold SetTable.freeSlot at e
 split at e
 ·rename_i j dummy hm
  obtain ⟨e1,e2⟩:=T9 dm _ _ rfl hm
  subst e1
  cases e
  exact e2
 ·cases e
theorem rE {b:Bool}{t:SetTable} (h:gO b t) (n:Nat):gO b (t.standIn n):=⟨by
 show (Array.range n).toList.Pairwise (· < ·)
 rw [Array.toList_range]; exact List.pairwise_lt_range,rfl,h.led⟩
theorem aL4 {b:Bool}{t:SetTable} (h:gO b t) {j:Nat} (hs:t.slot j = .empty):gO b (t.put j).1:=by
 refine⟨?_,?_,h.led⟩
 ·refine aL2 h.asc fun e=>?_
  unfold SetTable.slot at hs
  dsimp only at hs
  rw [if_pos (by rw [e]; exact bf8 _)] at hs
  cases hs
 ·show (if SetTable.has t.dummies j then SetTable.eraseAt t.dummies (SetTable.below t.dummies j) else t.dummies) = #[]
  rw [h.dm,T8]; rfl
theorem aL5 {b:Bool}{t:SetTable} (h:gO b t) (es:Array (Int × Value)) (k:Int) (x:Value):gO b (layNew t es k x).2.1:=by
 unfold layNew
 split
 ·rename_i sl wd e
  have p:=aL4 h (aL3 h.dm e)
  show gO b (SetTable.orStandIn _ _)
  unfold SetTable.orStandIn
  split
  ·exact p
  ·exact rE p _
 ·exact rE h _
theorem aL6 {b:Bool}{t:SetTable} (h:gO b t) (es:Array (Int × Value)) (n:Nat):gO b (relayAll t es n).2.1:=by
 unfold relayAll
 split
 ·rename_i t' order e
  dsimp only
  split
  ·show gO b t'
   unfold SetTable.relaid SetTable.laid at e
   cases hc:SetTable.layClean (SetTable.sizeAbove n - 1) (es.map (·.1)) with
   | none=>rw [hc] at e; cases e
   | some owner=>
    rw [hc] at e
    cases e
    refine⟨?_,rfl,h.led⟩
    show (List.map _ _).Pairwise (· < ·)
    refine bg2.mpr (List.Pairwise.filterMap _ (R:=(· < ·)) ?_ List.pairwise_lt_range)
    intro i i' hlt x hx y hy
    cases ho:owner.getD i none with
    | none=>rw [ho] at hx; cases hx
    | some v=>
     rw [ho] at hx
     cases ho2:owner.getD i' none with
     | none=>rw [ho2] at hy; cases hy
     | some v2=>
      rw [ho2] at hy
      cases hx; cases hy
      exact hlt
  ·exact rE h _
 ·exact rE h _
theorem U0 {us vs:List Value} (p:us.Perm vs):∀ {ns:List Int},IntsAre vs ns->∃ ms,IntsAre us ms/\ms.Perm ns:=by
 induction p with
 | nil=>intro ns h; exact⟨ns,h,List.Perm.refl _⟩
 | cons x _ ih=>
  intro ns h
  cases h with
  | cons n t r=>
   obtain ⟨ms,h1,h2⟩:=ih r
   exact⟨n :: ms,.cons n t h1,h2.cons n⟩
 | swap x y l=>
  intro ns h
  cases h with
  | cons n t r=>
   cases r with
   | cons n' t' r=>
    exact⟨n' :: n :: _,.cons n' t' (.cons n t r),List.Perm.swap _ _ _⟩
 | trans _ _ ih1 ih2=>
  intro ns h
  obtain ⟨ms,h1,h2⟩:=ih2 h
  obtain ⟨ms',h3,h4⟩:=ih1 h1
  exact⟨ms',h3,h4.trans h2⟩
theorem U1:∀ {us:List Value}{ns:List Int},IntsAre us ns->∀ (k:Int) (t:Nat),IntsAre (us ++ [.int k t]) (ns ++ [k])
 | _,_,.nil,k,t=>.cons k t .nil
 | _,_,.cons n u r,k,t=>.cons n u (U1 r k t)
theorem rF:∀ {us:List Value}{ns:List Int},IntsAre us ns->∀ k:Int,k ∈ ns ↔ ∃ t,Value.int k t ∈ us
 | _,_,.nil,k=>⟨(fun h=>nomatch h),(fun ⟨_,h⟩=>nomatch h)⟩
 | _,_,.cons n u r,k=>by
  constructor
  ·intro h
   rcases aX9.mp h with e | h
   ·exact⟨u,by rw [e]; exact aY1⟩
   ·obtain ⟨t,ht⟩:=(rF r k).mp h
    exact⟨t,aY2 _ ht⟩
  ·rintro ⟨t,h⟩
   rcases aX9.mp h with e | h
   ·cases e; exact aY1
   ·exact aY2 _ ((rF r k).mpr ⟨t,h⟩)
abbrev oA (es:Array (Int × Value)) (ep:Nat) (t:SetTable):Obj:={ cls:=.type "set",dict:=none,data:=.set es ep t,slots:=#[] }
section
variable {prog : Program} {w : World} {A : Around} {E : Value → Shared → Prop} {s : Shared}
def aL7 (prog:Program) (w:World) (es:Array (Int × Value)) (t:SetTable) (ms:List Int):Prop:=ElemsOf (intKind prog w) es.toList/\IntsAre (es.toList.map (·.2)) ms/\es.size < scanBound/\t.fits es.size=true/\gO (!w.params.followText "set-order") t
def U2 (prog:Program) (w:World) (h:Heap) (a:Addr) (ms:List Int):Prop:=∃ es ep t,h.get? a=some (oA es ep t)/\aL7 prog w es t ms
theorem U3 {h:Heap}{a:Addr}{es es':Array (Int × Value)}{ep:Nat}{t t':SetTable} (ho:h.get? a=some (oA es ep t)):(h.update a (Obj.putSet es' t')).get? a=some (oA es' (ep+1) t'):=by
 have:=Heap.get?_update_self (Obj.putSet es' t') ho (by rw [putSet_of es' t' (rfl:(oA es ep t).data=_)]; rfl)
 rw [putSet_of es' t' (rfl:(oA es ep t).data=_)] at this
 exact this
theorem add_int {a:Addr}{ms:List Int}{k:Int}{u:Nat}{Q:Bool->Shared->Prop} (hS:U2 prog w s.heap a ms) (room:ms.length+1 < scanBound)
  (h:∀ b h' ms',Heap.SameBut a s.heap h'->U2 prog w h' a ms'->(k ∈ ms->ms'.Perm ms)->(k ∉ ms->ms'.Perm (ms ++ [k]))->Q b { s with heap:=h' }) :
  wpAny (model prog w) A (setAddHashed a (.int k u) ((intKind prog w).hash k)) Q E s:=by
 obtain ⟨es,ep,t,ho,hel,hi,hb,hf,tk⟩:=hS
 have key:(intKind prog w).is k (.int k u)=true:=intKind_is _ _ _ _
 have ln:ms.length=es.size:=by
  have:=IntsAre.length hi
  rw [aY0,bb8] at this
  exact this.symm
 have isk:∀ v,(intKind prog w).is k v=true->∃ u,v = .int k u:=fun v hv=>Value.isInt_shape hv
 unfold setAddHashed setAddHashedIn
 refine bi9 (aX0 (wpAny_setState_of ho rfl hf ?_))
 dsimp only
 rw [byScan_of (knd:=intKind prog w) (x:=.int k u) rfl hb hel,if_pos rfl]
 unfold setAddByScan
 refine aX0 (aX0 (bj9 ?_))
 refine aX0 (wpAny_setScan_of key ho rfl hf hel ?_)
 cases hr:List.findIdx? (fun e=>(intKind prog w).is k e.2) es.toList with
 | some j=>
  dsimp only
  obtain ⟨hj,hp,_⟩:=List.findIdx?_eq_some_iff_getElem.mp hr
  have km:k ∈ ms:=by
   obtain ⟨u',e⟩:=isk _ hp
   exact (rF hi k).mpr ⟨u',by rw [<- e]; exact bb9.mpr ⟨_,bh6 hj,rfl⟩⟩
  have e:s={ s with heap:=s.heap }:=by cases s; rfl
  rw [e]
  exact aX8 (aX8 (h _ s.heap ms (Heap.SameBut.refl a s.heap) ⟨es,ep,t,ho,hel,hi,hb,hf,tk⟩ (fun _=>List.Perm.refl _) fun n=>absurd km n))
 | none=>
  dsimp only
  have km:k ∉ ms:=fun z=>by
   obtain ⟨u',hm⟩:=(rF hi k).mp z
   obtain ⟨e,he,e2⟩:=bb9.mp hm
   have:=List.findIdx?_eq_none_iff.mp hr e he
   rw [e2,intKind_is _ _ _ _] at this; cases this
  have lp:=layNew_perm t es ((intKind prog w).hash k) (.int k u)
  have lf:=layNew_fits t es ((intKind prog w).hash k) (.int k u)
  have lk:=aL5 tk es ((intKind prog w).hash k) (.int k u)
  generalize hL:layNew t es ((intKind prog w).hash k) (.int k u)=L at lp lf lk ⊢
  obtain ⟨es1,t1,wd,gave⟩:=L
  dsimp only at lp lf lk ⊢
  rw [Array.toList_push] at lp
  have el1:ElemsOf (intKind prog w) es1.toList:=(hel.push key rfl).perm lp
  have sz1:es1.size=es.size+1:=by rw [<- bb8,lp.length_eq,ba0,bb8]; rfl
  obtain ⟨ms1,i1,p1⟩:∃ ms1,IntsAre (es1.toList.map (·.2)) ms1/\ms1.Perm (ms ++ [k]):=U0 (lp.map (·.2)) (by rw [ba6]; exact U1 hi k u)
  have hb1:es1.size < scanBound:=by omega
  have gw:∀ (b:Bool) (s₁:Shared) (Q':Unit->Shared->Prop),Q' () s₁->wpAny (model prog w) A (match b with | true=>rule "set.scan.the-table-gave-way" | false=>pure ()) Q' E s₁:=fun b s₁ Q' hq=>by
   cases b
   ·exact aX8 hq
   ·exact bj9 hq
  refine aX0 (gw _ _ _ ?_)
  split <;> (
   show wpAny _ _ (storeSet a es1 t1 >>= _) _ _ _
   simp only [↓reduceIte]
   refine aX0 (wpAny_storeSet_of ho rfl ?_ (fits_of_scanBound hb1))
   have ho1:=U3 (es':=es1) (t':=t1) ho
   have sb1:=bi3 s.heap a (Obj.putSet es1 t1)
   split
   ·have rp:=relayAll_perm t1 es1 (SetTable.grown es1.size)
    have rf:=relayAll_fits t1 es1 (SetTable.grown es1.size)
    have rk:=aL6 lk es1 (SetTable.grown es1.size)
    generalize relayAll t1 es1 (SetTable.grown es1.size)=L at rp rf rk ⊢
    obtain ⟨es2,t2,gave2⟩:=L
    dsimp only at rp rf rk ⊢
    have sz2:es2.size=es1.size:=by rw [<- bb8,rp.length_eq,bb8]
    obtain ⟨ms2,i2,p2⟩:=U0 (rp.map (·.2)) i1
    refine aX0 (gw _ _ _ ?_)
    refine aX0 (wpAny_storeSet_of ho1 rfl ?_ (fits_of_scanBound (by omega)))
    exact aX8 (aX8 (h _ _ ms2 (sb1.trans (bi3 _ a _)) ⟨es2,_,t2,U3 ho1,el1.perm rp,i2,by omega,rf,rk⟩ (fun z=>absurd z km) fun _=>p2.trans p1))
   ·exact aX8 (aX8 (h _ _ ms1 sb1 ⟨es1,_,t1,ho1,el1,i1,hb1,lf,lk⟩ (fun z=>absurd z km) fun _=>p1)))
end
end Raw
namespace PP
open PySem L2
section
variable {X : Cx} {σ : St} {H : Hp} {D : cE} {te tix tk tv : aF} {e eix ek ev : Expr} {pos p1 p2 p3 p4 : Pos}
theorem yR {α:Type} (us:List α) (v:α):L2.atI (us ++ [v]) (-1)=some v:=by
 unfold L2.atI gT
 have h1:(1:Int)<=(us.length:Int)+1:=by omega
 have h2:(-1+((us.length:Int)+1)).toNat=us.length:=by omega
 simp [h1,h2]
end
end PP
namespace Core
open PySem L2 PP
def zV (ws:List Int) (ls:List (Int × Int)) (ns R:List Int):Prop:=T7 ws ls ns R=true/\aG0 ws ls (ns ++ R)
end Core
namespace PP
open PySem L2
section
variable {X : Cx} {a b : Expr} {ta tb : aF} {pos : Pos}
def U4:PV->Tg->PV->Tg->PK->Prop:=fun x _ y _ Q=>∃ ns ms:List Int,x = .tup (intz ns)/\y = .tup (intz ms)/\Q (.bl (HT.c9 ns ms)) .fr
theorem aL8:dQ X U4 (sU X.K):=by
 rintro W Hs H u v x y g g' Q Q' s n r1 r2 ⟨ns,ms,rfl,rfl,q⟩ k
 obtain ⟨p1,us,rfl,h1,r1⟩:=r1.sqT
 obtain ⟨p2,vs,rfl,h2,r2⟩:=r2.sqT
 obtain rfl:=r1.ofInts
 obtain rfl:=r2.ofInts
 exact⟨p1,p2,ns,ms,rfl,rfl,aG.of h1,aG.of h2,k _ _ _ _ (aD.refl _) (.bl _) q⟩
end
end PP
namespace L2
open PySem PySem.Spec PyProof.Rows PP
section
variable {prog : Program} {w : World} {A : Around} {R : Result → Shared → Prop} {I S : Addr} {n : Nat} {l : Addr} {its : Array Value} {s0 : Shared} {bt : Nat → Nat → Bool}
abbrev at_ (s:Shared) (h:Heap) (k:Nat):Shared:={ s with heap:=h,toks:=k }
abbrev aL9 (g h:Heap):Prop:=∀ b o,g.get? b=some o->h.get? b=some o
def cB (prog:Program) (w:World) (A:Around) (s0:Shared) (its:Array Value) (bt:Nat->Nat->Bool):Prop:=
 ∀ (i j:Nat) (v u:Value) (h:Heap) (k:Nat) (Q E:Value->Shared->Prop),its[i]? = some v->its[j]? = some u->aL9 s0.heap h->Q (.bool (bt i j)) (at_ s0 h k)->wpAny (model prog w) A (richCompare .Lt v u) Q E (at_ s0 h k)
end
end L2
namespace Core
open PySem L2 PP
theorem U5 (ps:List Int):eF (intz ps) (some 1) none=intz (ps.drop 1):=by
 unfold eF
 have e1:HT.aT (intz ps).length 0 (some 1)=min 1 ps.length:=by
  rw [bD]
  show (if (1:Int) < 0 then ((1:Int)+(ps.length:Int)).toNat else min (1:Int).toNat ps.length)=_
  rw [if_neg (by decide)]; rfl
 rw [e1]
 show ((intz ps).drop (min 1 ps.length)).take ((intz ps).length - min 1 ps.length)=_
 rw [ba3 (by rw [bf6]; exact aX7 _)]
 show (List.map PV.int ps).drop _=List.map PV.int _
 cases ps with
 | nil=>rfl
 | cons x xs=>rw [show min 1 (x :: xs).length=1 by simp]; rfl
end Core
namespace HT
open PySem PyProof.Rows
section
open PySem.SeqAt
open PySem.AutoSeq1 (wpAny_loadPart')
open PySem.MeetsSeq PySem.MeetsSeq2 PySem.MeetsSeq3
theorem int_at {its:List Value}{ns:List Int} (h:IntsAre its ns) {i:Nat} (hi:i < its.length):∃ a t,its[i]? = some (.int a t)/\ns[i]? = some a:=by
 induction h generalizing i with
 | nil=>exact absurd hi (Nat.not_lt_zero _)
 | cons a t h ih=>
  cases i with
  | zero=>exact⟨a,t,rfl,rfl⟩
  | succ i=>exact ih (by simpa using hi)
end
end HT
namespace Core
open PySem L2 PP
def Bd (ws:List Int) (ls:List (Int × Int)) (wts:List Int) (b:Int):Prop:=∃ zs,aI7 ws ls wts zs/\b=(ws.length:Int) - (aI5 zs wts.sum:Int)
noncomputable def wS (ws:List Int) (ls:List (Int × Int)) (wts:List Int):Int:=Classical.epsilon (Bd ws ls wts)
def FB (L:List (List Int)) (f:List Int->Int) (r:List Int):Prop:=∃ i,L[i]? = some r/\(∀ (j:Nat) (s:List Int),j < i->L[j]? = some s->f s < f r)/\∀ s ∈ L,f s<=f r
end Core
namespace L2
open PySem PySem.Spec PyProof.Rows
section
variable {prog : Program} {w : World} {A : Around} {E : Value → Shared → Prop} {s : Shared} {l : Addr} {xs : Array (Int × Tok)}
theorem U6 {Q:Value->Shared->Prop} (hl:s.heap.IsTuple l (intItems xs))
  (h:∀ h2:Heap,(h2.IsTupleIter s.heap.objs.size l 0/\h2.IsTuple l (intItems xs))->(∀ b ∈ [s.heap.objs.size,l],b < h2.objs.size)->l ≠ s.heap.objs.size->(∀ b o,s.heap.get? b=some o->b ∉ [s.heap.objs.size]/\h2.get? b=some o)->Q (.ref s.heap.objs.size) { s with heap:=h2 }):wpAny (model prog w) A (pyIter (.ref l)) Q E s:=by
 have lb:l < s.heap.objs.size:=by obtain ⟨_,e,_⟩:=hl; exact aY6 e
 refine bh3 hl (h _ ⟨⟨_,aY8 _ rfl,rfl,rfl⟩,hl.push _⟩ (fun b hb=>?_) (ba2 lb) fun b o e=>⟨fun hm=>?_,aX2 _ e⟩)
 ·rw [bg4]
  rcases aX9.mp hb with rfl | hb
  ·exact Nat.lt_succ_self _
  ·rw [aY3.mp hb]; exact Nat.lt_succ_of_lt lb
 ·rw [aY3.mp hm] at e
  exact absurd (aY6 e) (bd7 _)
theorem aM0 {Q:Value->Shared->Prop} (hh:A.handled=none) (hl:s.heap.IsTuple l (intItems xs)) (hne:0 < xs.size)
  (h:∀ v h' tk,(intItems xs)[argBest (fun i j=>decide (numAt xs i > numAt xs j)) (xs.size - 1)]? = some v->(∀ b o,s.heap.get? b=some o->h'.get? b=some o)->Q v { s with heap:=h',toks:=tk }):wpAny (model prog w) A (call (.builtin "max") [.ref l]) Q E s:=by
 refine call_max_walk (U6 hl fun h2 st hfp ne old=>?_)
 exact⟨_,_,_,_,_,_,_,rfl,Walks.tuple (A:=A.in1) hh _ l ne (intItems xs),st,hfp,by simpa [intItems] using hne,CmpOf.ints_gt (numAt xs) (fun _ _=>intItems_at),fun v h' tk hP hk=>h v h' tk (by simpa [intItems] using hP) fun b o e=>hk b o (old b o e).1 (old b o e).2⟩
theorem aM1 {Q:Value->Shared->Prop} (hh:A.handled=none) (hl:s.heap.IsTuple l (intItems xs)) (hne:0 < xs.size)
  (h:∀ v h' tk,(intItems xs)[argBest (fun i j=>decide (numAt xs i < numAt xs j)) (xs.size - 1)]? = some v->(∀ b o,s.heap.get? b=some o->h'.get? b=some o)->Q v { s with heap:=h',toks:=tk }):wpAny (model prog w) A (call (.builtin "min") [.ref l]) Q E s:=by
 refine call_min_walk (U6 hl fun h2 st hfp ne old=>?_)
 exact⟨_,_,_,_,_,_,_,rfl,Walks.tuple (A:=A.in1) hh _ l ne (intItems xs),st,hfp,by simpa [intItems] using hne,CmpOf.ints_lt (numAt xs) (fun _ _=>intItems_at),fun v h' tk hP hk=>h v h' tk (by simpa [intItems] using hP) fun b o e=>hk b o (old b o e).1 (old b o e).2⟩
end
section
variable {X : Cx}
theorem aM2 (hc:X.calm=true):cH X (.builtin "max") (fun xs H Q=>∃ (a:Addr) (ns:List Int),xs = [.ref a]/\aG X.K H a (ns.map V.int)/\ns ≠ []/\∀ M:Int,M ∈ ns->(∀ x ∈ ns,x<=M)->Q (.int M) H):=by
 intro pins s σ H xs us Q I r h
 obtain ⟨a,ns,rfl,hq,ne,q⟩:=h
 obtain ⟨u,rfl,ru⟩:=fS r
 cases ru
 obtain ⟨its,rv,p,hz⟩:=I.tuple hq
 have ia:=k6 rv
 obtain ⟨ys,ey⟩:=ia.allInts.items
 have en:ns=ys.toList.map (·.1):=by
  have e1:=nums_intItems ys
  rw [<- ey] at e1
  exact ia.numsOf.symm.trans e1
 have pos:0 < ys.size:=Nat.pos_of_ne_zero fun z=>ne (by rw [en,Array.eq_empty_of_size_eq_zero z]; rfl)
 have hl:s.heap.IsTuple a (intItems ys):=by rw [<- ey]; exact p
 refine aM0 (I.ok.hd hc) hl pos fun v h' tk ev old=>?_
 obtain ⟨t,rfl⟩:=intItems_at ev
 have best:=argBest_gt (numAt ys) (ys.size - 1)
 have mem:∀ x:Int,x ∈ ns ↔ ∃ j,j < ys.size/\numAt ys j=x:=fun x=>by
  rw [en]
  constructor
  ·intro z
   obtain ⟨j,hj,e⟩:=mem_getD z
   exact⟨j,by simpa using hj,by rw [numAt_eq]; exact e⟩
  ·rintro ⟨j,hj,rfl⟩
   rw [numAt_eq]
   exact getD_mem (by simpa using hj)
 refine⟨.int _,H,I.kept (t':=tk) (h':=h') old,⟨t,rfl⟩,q _ ?_ fun x hx=>?_⟩
 ·exact (mem _).mpr ⟨_,by have:=best.1; omega,rfl⟩
 ·obtain ⟨j,hj,rfl⟩:=(mem x).mp hx
  exact best.2 j (by omega)
theorem aM3 (hc:X.calm=true):cH X (.builtin "min") (fun xs H Q=>∃ (a:Addr) (ns:List Int),xs = [.ref a]/\aG X.K H a (ns.map V.int)/\ns ≠ []/\∀ M:Int,M ∈ ns->(∀ x ∈ ns,M<=x)->Q (.int M) H):=by
 intro pins s σ H xs us Q I r h
 obtain ⟨a,ns,rfl,hq,ne,q⟩:=h
 obtain ⟨u,rfl,ru⟩:=fS r
 cases ru
 obtain ⟨its,rv,p,hz⟩:=I.tuple hq
 have ia:=k6 rv
 obtain ⟨ys,ey⟩:=ia.allInts.items
 have en:ns=ys.toList.map (·.1):=by
  have e1:=nums_intItems ys
  rw [<- ey] at e1
  exact ia.numsOf.symm.trans e1
 have pos:0 < ys.size:=Nat.pos_of_ne_zero fun z=>ne (by rw [en,Array.eq_empty_of_size_eq_zero z]; rfl)
 have hl:s.heap.IsTuple a (intItems ys):=by rw [<- ey]; exact p
 refine aM1 (I.ok.hd hc) hl pos fun v h' tk ev old=>?_
 obtain ⟨t,rfl⟩:=intItems_at ev
 have best:=argBest_lt (numAt ys) (ys.size - 1)
 have mem:∀ x:Int,x ∈ ns ↔ ∃ j,j < ys.size/\numAt ys j=x:=fun x=>by
  rw [en]
  constructor
  ·intro z
   obtain ⟨j,hj,e⟩:=mem_getD z
   exact⟨j,by simpa using hj,by rw [numAt_eq]; exact e⟩
  ·rintro ⟨j,hj,rfl⟩
   rw [numAt_eq]
   exact getD_mem (by simpa using hj)
 refine⟨.int _,H,I.kept (t':=tk) (h':=h') old,⟨t,rfl⟩,q _ ?_ fun x hx=>?_⟩
 ·exact (mem _).mpr ⟨_,by have:=best.1; omega,rfl⟩
 ·obtain ⟨j,hj,rfl⟩:=(mem x).mp hx
  exact best.2 j (by omega)
end
end L2
namespace PP
open PySem L2
section
variable {X : Cx} {a b e : Expr} {ta tb : aF} {tr : cO} {pos p2 : Pos}
def wT:List PV->(PV->Prop)->Prop:=fun xs Q=>∃ ns:List Int,xs = [.tup (intz ns)]/\ns ≠ []/\∀ M:Int,M ∈ ns->(∀ x ∈ ns,x<=M)->Q (.int M)
def rG:List PV->(PV->Prop)->Prop:=fun xs Q=>∃ ns:List Int,xs = [.tup (intz ns)]/\ns ≠ []/\∀ M:Int,M ∈ ns->(∀ x ∈ ns,M<=x)->Q (.int M)
theorem aM4:eV X wT (fun xs H Q=>∃ (a:Addr) (ns:List Int),xs = [.ref a]/\aG X.K H a (ns.map V.int)/\ns ≠ []/\∀ M:Int,M ∈ ns->(∀ x ∈ ns,x<=M)->Q (.int M) H):=by
 rintro H vs xs Q Q' r ⟨ns,rfl,ne,q⟩ k
 obtain ⟨v,rfl,r1⟩:=r.one
 obtain ⟨a,us,rfl,h,r2⟩:=r1.sqT
 rw [r2.ofInts] at h
 exact⟨a,ns,rfl,aG.of h,ne,fun M m1 m2=>k _ _ _ (aD.refl _) (.int M) (q M m1 m2)⟩
theorem aM5:eV X rG (fun xs H Q=>∃ (a:Addr) (ns:List Int),xs = [.ref a]/\aG X.K H a (ns.map V.int)/\ns ≠ []/\∀ M:Int,M ∈ ns->(∀ x ∈ ns,M<=x)->Q (.int M) H):=by
 rintro H vs xs Q Q' r ⟨ns,rfl,ne,q⟩ k
 obtain ⟨v,rfl,r1⟩:=r.one
 obtain ⟨a,us,rfl,h,r2⟩:=r1.sqT
 rw [r2.ofInts] at h
 exact⟨a,ns,rfl,aG.of h,ne,fun M m1 m2=>k _ _ _ (aD.refl _) (.int M) (q M m1 m2)⟩
theorem aM6 (B:Bt X.mg) (hc:X.calm=true) (ha:QA X [e] tr) (hg:Gl X "max":=by rfl) (he:starEach [e] X.env=(false,eval e X.env) :: starEach [] X.env:=by rfl) (hpl:(backTo pos (starEach [] X.env)).any (·.1)=false:=by rfl):QE X (.Call (.Name "max" p2) [e] [] pos) (aC wT tr):=
 jN (aM2 hc) aM4 hg B.max PyProof.Rows.boot_max ha (he:=he) (hpl:=hpl)
theorem U7 (B:Bt X.mg) (hc:X.calm=true) (ha:QA X [e] tr) (hg:Gl X "min":=by rfl) (he:starEach [e] X.env=(false,eval e X.env) :: starEach [] X.env:=by rfl) (hpl:(backTo pos (starEach [] X.env)).any (·.1)=false:=by rfl):QE X (.Call (.Name "min" p2) [e] [] pos) (aC rG tr):=
 jN (aM3 hc) aM5 hg B.min PyProof.Rows.boot_min ha (he:=he) (hpl:=hpl)
def U8 (K:PySem.W.Frag):R2:=fun x y H Q=>gS (fun i j=>.bl (decide (i < j))) x y H Q ∨ sU K x y H Q
theorem aM7 (hu:X.A.units < cLine):bY X (compareOp .Lt) (U8 X.K):=by
 intro pins s σ H x y v u Q I rx ry h
 rcases h with h | h
 ·exact sL pins s σ H x y v u Q I rx ry h
 ·exact ai9 hu pins s σ H x y v u Q I rx ry h
def rH:PV->Tg->PV->Tg->PK->Prop:=fun x g y g' Q=>eB (fun i j=>.bl (decide (i < j))) x g y g' Q ∨ U4 x g y g' Q
theorem aM8:dQ X rH (U8 X.K):=by
 intro W Hs H u v x y g g' Q Q' s n r1 r2 h k
 rcases h with h | h
 ·exact .inl (lD W Hs H u v x y g g' Q Q' s n r1 r2 h k)
 ·exact .inr (aL8 W Hs H u v x y g g' Q Q' s n r1 r2 h k)
theorem aM9 (hu:X.A.units+1 < cLine) (ha:QE X a ta) (hb:QE X b tb):QE X (.Compare a [.Lt] [b] pos) (q2 rH ta tb):=kJ (aM7 (by omega)) aM8 ha hb (fE _)
end
end PP
namespace L2
open PySem PySem.Spec PyProof.Rows
section
variable {X : Cx}
def U9 (K:PySem.W.Frag) (ta:TA):TI:=fun σ H R=>ta σ H fun vs H1=>∃ a b,vs = [.ref a,.ref b]/\((∃ xs ys,aG K H1 a xs/\aG K H1 b ys/\R (tW K a b) H1) ∨ ∃ xs ys,aJ K H1 a xs/\aJ K H1 b ys/\R (tY K a b) H1)
theorem aN0 {elts:List Expr}{kt:Nat}{pt:Pos}{a b:Expr}{ta:TA}{p pos:Pos} (hg:Gl X "zip") (hm:X.mg "zip" = none) (ha:PA X [a,b] ta) (hs:starEach [a,b] X.env = [(false,eval a X.env),(false,eval b X.env)]:=by rfl) (hs2:starEach [b] X.env = [(false,eval b X.env)]:=by rfl) :
  PI X (.Tuple elts kt pt) (.Call (.Name "zip" p) [a,b] [] pos) (U9 X.K ta):=by
 intro pins s σ H R I h
 refine Call_ (jX I hg hm PyProof.Rows.boot_zip (bh8 (aP (ha pos pins s σ H _ I h) fun us s1 ⟨vs,H1,I1,r1,q1⟩=>?_) (by rw [hs,hs2]) (by rw [hs2]; rfl)))
 obtain ⟨a',b',e,q1⟩:=q1
 subst e
 obtain ⟨u1,u2,rfl,r,r'⟩:=aI.two r1
 cases r
 cases r'
 have fresh:∀ k,H1 (s1.heap.objs.size+k)=none:=fun k=>I1.hok.fresh (bi8 _ _)
 have fp:∀ c ∈ [s1.heap.objs.size+4,s1.heap.objs.size+2,s1.heap.objs.size+3,s1.heap.objs.size,s1.heap.objs.size+1],fD X pins H1 c:=fun c hc=>by
  simp only [aX9,aY9,bc2] at hc
  rcases hc with rfl | rfl | rfl | rfl | rfl
  ·exact I1.fpOk (bi8 _ _) (fresh 4)
  ·exact I1.fpOk (bi8 _ _) (fresh 2)
  ·exact I1.fpOk (bi8 _ _) (fresh 3)
  ·exact I1.fpOk (aX7 _) (fresh 0)
  ·exact I1.fpOk (bi8 _ _) (fresh 1)
 rcases q1 with ⟨xs,ys,h1,h2,q⟩ | ⟨xs,ys,h1,h2,q⟩
 ·obtain ⟨us,_,p1,_⟩:=I1.tuple h1
  obtain ⟨ws,_,p2,_⟩:=I1.tuple h2
  refine Zp.ao5 p1 p2 fun h' z ti to s1' s2' kp=>wpAny_pyIter_zip z ?_
  exact⟨s1.heap.objs.size+4,[s1.heap.objs.size+4,s1.heap.objs.size+2,s1.heap.objs.size+3,s1.heap.objs.size,s1.heap.objs.size+1],_,_,H1,rfl,I1.kept (t':=s1.toks) kp,ao8 a' b' _ _ _ _ _ (by simp),⟨z,ti,⟨_,_,to⟩,s1',s2'⟩,fp,q⟩
 ·obtain ⟨us,_,p1,_⟩:=I1.list h1
  obtain ⟨ws,_,p2,_⟩:=I1.list h2
  refine call_zip_2 p1.isList p2.isList fun h' z ti to s1' s2' _ kp=>wpAny_pyIter_zip z ?_
  exact⟨s1.heap.objs.size+4,[s1.heap.objs.size+4,s1.heap.objs.size+2,s1.heap.objs.size+3,s1.heap.objs.size,s1.heap.objs.size+1],_,_,H1,rfl,I1.kept (t':=s1.toks) kp,ap4 a' b' _ _ _ _ _ (by simp),⟨z,ti,⟨_,_,to⟩,s1',s2'⟩,fp,q⟩
end
end L2
namespace PP
open PySem L2
theorem aN1 {K:PySem.W.Frag}{H0:Hp}{W:Addr->Prop}{g:Bool}{H1:Hp}{a b:Addr}{us vs:List V}{xs ys:List PV} (tw:∀ a,W a->∃ o,H1 a=some o/\eU o=true) (ha:∀ W' H',Ev W H1 W' H'->aJ K H' a us) (hb:∀ W' H',Ev W H1 W' H'->aJ K H' b vs)
  (r:Reps K (Ms H0 W g) H1 us xs) (r':Reps K (Ms H0 W g) H1 vs ys):jG K H0 W g H1 (tY K a b) (hZ xs ys):=by
 have lr:=r.length
 have lr':=r'.length
 have ll:=wH xs ys
 refine⟨fun W' H' i e hi=>⟨us,vs,us[i]'(by omega),vs[i]'(by omega),ha W' H' e,hb W' H' e,by simp,by simp⟩,fun W' H' i v H2 e y hi=>?_,fun W' H' e=>⟨us,vs,ha W' H' e,hb W' H' e,by omega⟩⟩
 obtain ⟨T,x,y',hT,rfl,rfl,y⟩:=y
 obtain ⟨h1,h2⟩:=y us vs (ha W' _ e) (hb W' _ e)
 obtain ⟨z,hz,rz⟩:=r.get h1
 obtain ⟨z',hz',rz'⟩:=r'.get h2
 have sm:=bQ hT (HO.tup [x,y'])
 exact⟨sm,_,R8 hz hz',.tup bK (.cons ((rz.keep (e.keep tw)).same sm fun _ q=>q) (.cons ((rz'.keep (e.keep tw)).same sm fun _ q=>q) .nil))⟩
section
variable {X : Cx} {σ : L2.St} {H : Hp} {ta tb : aF} {R : It → Hp → Prop}
def wU (ta tb:aF):dR:=fun ρ Q=>ta ρ fun x g0=>tb ρ fun y g=>∃ xs ys,((x = .tup xs/\y = .tup ys) ∨ (x = .lst xs/\y = .lst ys/\g0 ≠ .rd/\g ≠ .rd))/\flats xs=true/\flats ys=true/\Q (hZ xs ys) true
theorem V0 {K:PySem.W.Frag}{H0 Hs:Hp}{W:Addr->Prop}{σ:L2.St}{ρ:bE}{g:Tg}{b:Addr} (px:PX K H0 W σ ρ Hs) (ng:g ≠ .rd) (m:Mg H0 W Hs g b) : ¬ W b:=by
 cases g with
 | fr=>exact (px.new m).1
 | nw=>exact m.1
 | sh=>exact m
 | rd=>exact absurd rfl ng
theorem aN2 (h:LI X (wU ta tb) σ H R):U9 X.K (iE (LE X ta) (iE (LE X tb) k4)) σ H R:=by
 obtain ⟨W,ρ,Q,px,q,k⟩:=h
 refine⟨W,ρ,_,px,q,fun v0 H0 x0 g0 s0 r0 q0=>⟨W,ρ,_,px.mono s0,q0,?_⟩⟩
 rintro v H1 x g s r ⟨xs,ys,c,fx,fy,q⟩
 have S:=s0.trans s
 have px1:=px.mono S
 have tw:∀ a,W a->∃ o,H1 a=some o/\eU o=true:=fun a z=>(px1.wm a z).2
 rcases c with ⟨rfl,rfl⟩ | ⟨rfl,rfl,n0,n1⟩
 ·obtain ⟨a,us,rfl,h1,ra⟩:=(r0.same (M':=fun _=>True) s fun _ _=>trivial).sqT
  obtain ⟨b,vs,rfl,h2,rb⟩:=r.sqT
  have sta:∀ {c us},H1 c=some (.tup us)->∀ W' H',Ev W H1 W' H'->aG X.K H' c us:=fun {c us} hc W' H' e=>aG.of (e _ _ hc fun z=>by obtain ⟨o,h',mu⟩:=tw _ z; rw [hc] at h'; cases h'; cases mu).1
  exact⟨a,b,rfl,.inl ⟨us,vs,aG.of h1,aG.of h2,k _ _ _ _ S (aI3 tw (sta h1) (sta h2) (ra.flat fx) (rb.flat fy)) q⟩⟩
 ·obtain ⟨a,us,rfl,m0,h1,ra⟩:=(r0.same s fun _ z=>z).sqL
  obtain ⟨b,vs,rfl,m1,h2,rb⟩:=r.sqL
  have w0:=V0 px n0 m0
  have w1:=V0 (px.mono s0) n1 m1
  exact⟨a,b,rfl,.inr ⟨us,vs,aJ.of h1,aJ.of h2,k _ _ _ _ S (aN1 tw (fun W' H' e=>aJ.of (e _ _ h1 w0).1) (fun W' H' e=>aJ.of (e _ _ h2 w1).1) (ra.flat fx) (rb.flat fy)) q⟩⟩
theorem aN3 {elts:List Expr}{kt:Nat}{pt p2 pos:Pos}{a b:Expr} (B:Bt X.mg) (ha:QE X a ta) (hb:QE X b tb) (hg:Gl X "zip":=by rfl) (hs:starEach [a,b] X.env = [(false,eval a X.env),(false,eval b X.env)]:=by rfl) (hs2:starEach [b] X.env = [(false,eval b X.env)]:=by rfl):QI X (.Tuple elts kt pt) (.Call (.Name "zip" p2) [a,b] [] pos) (wU ta tb):=
 nL (aN0 hg B.zip (fF ha (fF hb gE hs2) (by rw [hs,hs2])) hs hs2) fun _ _ _=>aN2
end
end PP
namespace Core
open PySem L2 PP
theorem aN4 (xs:List PV):eF xs (some 1) none=xs.drop 1:=by
 unfold eF
 have e1:HT.aT xs.length 0 (some 1)=min 1 xs.length:=by
  show (if (1:Int) < 0 then ((1:Int)+(xs.length:Int)).toNat else min (1:Int).toNat xs.length)=_
  rw [if_neg (by decide)]; rfl
 rw [e1]
 show (xs.drop (min 1 xs.length)).take (xs.length - min 1 xs.length)=_
 rw [ba3 (by rw [bf6]; exact aX7 _)]
 cases xs with
 | nil=>rfl
 | cons x xs=>rw [show min 1 (x :: xs).length=1 by simp]
def rJ {α:Type} (lt:α->α->Bool) (A:List α):Bool:=((A.zip (A.drop 1)).map fun p=>lt p.1 p.2).all id
def mD:bC:=fun xs Q=>∃ x,xs = [x]/\((∃ ns,cJ x ns/\ns.length<=1000/\Q (.bl (fZ ns))) ∨ ∃ ls:List (Int × Int),x = .lst (aZ ls)/\ls.length<=4096/\∀ b:Bool,(b=true ↔ ls.Pairwise cR)->Q (.bl b))
def wV:aK:=(bB (aC nC (a7 (cV (wU (a5 0) (pR (a5 0) (pQ (qC (.int 1))) pP)) [none,none] (nI 0 1) fX (q2 rH (a5 0) (a5 1))) aA)))
theorem V1 {α:Type} (f:α->PV) (lt:α->α->Bool) (fl:∀ a,flat (f a)=true) (hlt:∀ (a b:α) (g g':Tg) (K:PK),K (.bl (lt a b)) .fr->rH (f a) g (f b) g' K) (A:List α) (la:A.length<=10000) (x:PV) (hx:x = .tup (A.map f) ∨ x = .lst (A.map f)) {Q:PV->Prop} (q:Q (.bl (rJ lt A))) :
  wV { nx:=fun _=>Q .non,rt:=Q } [some (.sh (flat x) x)]:=by
 have fls:∀ B:List α,flats (B.map f)=true:=fun B=>by
  induction B with
  | nil=>rfl
  | cons b B ih=>show (flat (f b) && flats (B.map f))=true; rw [fl,ih]; rfl
 have sx:seqT x=some (A.map f):=by rcases hx with rfl | rfl <;> rfl
 have cut:eF (A.map f) (some 1) none=(A.drop 1).map f:=by rw [aN4,List.map_drop]
 refine⟨_,rfl,_,rfl,_,rfl,_,sx,fls A,?_⟩
 rw [cut]
 refine⟨A.map f,(A.drop 1).map f,?_,fls A,fls _,?_⟩
 ·rcases hx with rfl | rfl
  ·exact .inl ⟨rfl,rfl⟩
  ·refine .inr ⟨rfl,rfl,?_,fun z=>by cases z⟩
   cases flat (.lst (A.map f)) <;> intro z <;> cases z
 have zl:(hZ (A.map f) ((A.drop 1).map f)).length=A.length - 1:=by rw [wH,aY0,aY0,bf6]; omega
 refine⟨by rw [zl]; omega,fun i acc=>acc=T6 (((A.zip (A.drop 1)).take i).map fun p=>lt p.1 p.2),rfl,?_,?_⟩
 ·rintro i y acc hy rfl
  obtain ⟨u,v,h1,h2,rfl⟩:=aI2 hy
  rw [aZ3] at h1 h2
  cases ha:A[i]? with
  | none=>rw [ha] at h1; cases h1
  | some a=>
   cases hb:(A.drop 1)[i]? with
   | none=>rw [hb] at h2; cases h2
   | some b=>
    rw [ha] at h1
    rw [hb] at h2
    cases h1
    cases h2
    have hz:(A.zip (A.drop 1))[i]? = some (a,b):=List.getElem?_zip_eq_some.mpr ⟨ha,hb⟩
    refine⟨_,_,rfl,_,rfl,_,rfl,hlt a b _ _ _ ⟨trivial,?_⟩⟩
    dsimp only
    rw [bd2,hz,ba6]
    unfold T6
    rw [ba6]; rfl
 ·rintro acc rfl
  rw [ba3 (by rw [zl,List.length_zip,bf6]; omega)]
  exact⟨_,rfl,trivial,q⟩
theorem aN5 (ls:List (Int × Int)):rJ (fun a b=>HT.c9 [a.1,a.2] [b.1,b.2]) ls=true ↔ ls.Pairwise cR:=by
 have lt2:∀ a b:Int × Int,HT.c9 [a.1,a.2] [b.1,b.2]=true ↔ cR a b:=fun a b=>by
  unfold cR
  rw [HT.j7,HT.j7,HT.sT]
  by_cases h1:a.1=b.1
  ·rw [if_pos h1]
   by_cases h2:a.2=b.2
   ·rw [if_pos h2]
    exact⟨fun z=>(by cases z),fun z=>(by omega)⟩
   ·rw [if_neg h2,ba1]; omega
  ·rw [if_neg h1,ba1]; omega
 induction ls with
 | nil=>exact⟨fun _=>.nil,fun _=>rfl⟩
 | cons a r ih=>
  cases r with
  | nil=>exact⟨fun _=>ba8 _ _,fun _=>rfl⟩
  | cons b r=>
   have e:rJ (fun a b:Int × Int=>HT.c9 [a.1,a.2] [b.1,b.2]) (a :: b :: r)=(HT.c9 [a.1,a.2] [b.1,b.2] && rJ (fun a b:Int × Int=>HT.c9 [a.1,a.2] [b.1,b.2]) (b :: r)):=rfl
   rw [e,bb1,lt2,bi7]
   refine⟨fun ⟨h1,h2⟩=>⟨fun c hc=>?_,ih.mp h2⟩,fun ⟨h1,h2⟩=>⟨h1 b aY1,ih.mpr h2⟩⟩
   rcases aX9.mp hc with rfl | hc
   ·exact h1
   ·have:=(bi7.mp (ih.mp h2)).1 c hc
    unfold cR at *; omega
theorem aN6:cC wV ["things"] mD:=by
 rintro xs Q ⟨x,rfl,⟨ns,hx,hl,q⟩ | ⟨ls,rfl,hl,q⟩⟩
 ·exact V1 PV.int (fun a b=>decide (a < b)) (fun _=>rfl) (fun a b g g' K h=>.inl ⟨_,_,rfl,rfl,h⟩) ns (by omega) x hx q
 ·exact V1 (fun l:Int × Int=>PV.tup [.int l.1,.int l.2]) (fun a b=>HT.c9 [a.1,a.2] [b.1,b.2]) (fun _=>rfl) (fun a b g g' K h=>.inr ⟨_,_,rfl,rfl,h⟩) ls (by omega) _ (.inr rfl) (q _ (aN5 ls))
abbrev wW:bC:=vS
def V2:aK:=(bB (gV (aC mD (a7 (a5 1) aA)) (aC nC (a7 (cV (dB (a5 1)) [none,some 0] (bR 0) fX (aC nY (a7 (a5 1) (a7 (a5 0) aA)))) aA))))
theorem aN7:cC V2 ["web","numbers"] wW:=by
 intro xs Q h
 have h2:=aB6 xs Q h
 obtain ⟨m,e,x,ns,r1,r2,r3,r4⟩:=h2
 exact⟨m,e,x,r1,.inl ⟨ns,r2,r3,r4⟩⟩
def eN (l:Int × Int):Int × Int:=(min l.1 l.2,max l.1 l.2)
def rK:bC:=fun xs Q=>∃ (n:Nat) (l:Int × Int),xs = [.int n,.tup [.int l.1,.int l.2]]/\0<=l.1/\l.1 < (n:Int)/\0<=l.2/\l.2 < (n:Int)/\l.1 ≠ l.2/\Q (.tup [.int (eN l).1,.int (eN l).2])
def V3:aK:=(aM (b7 2 (aC rG (a7 (a5 1) aA)))
 (aM (b7 3 (aC wT (a7 (a5 1) aA)))
 (aM (cI (iM (aW (gZ (a5 2) (qC (.int 0)))) (aW (uN (a5 3) (a5 0)))) kF cL)
 (aM (cI (aW (iS (a5 2) (a5 3))) kF cL)
 (bB (iN (a7 (a5 2) (a7 (a5 3) aA))))))))
theorem aN8:cC V3 ["many","link","one","other"] rK:=by
 rintro xs Q ⟨n,l,rfl,a0,a1,b0,b1,ne,q⟩
 refine⟨_,rfl,[l.1,l.2],rfl,(fun z=>by cases z),fun m m1 m2=>⟨trivial,?_⟩⟩
 refine⟨_,rfl,[l.1,l.2],rfl,(fun z=>by cases z),fun M M1 M2=>⟨trivial,?_⟩⟩
 have hm:m=(eN l).1:=by
  have h1:=m2 l.1 (by simp)
  have h2:=m2 l.2 (by simp)
  show m=min l.1 l.2
  rcases aX9.mp m1 with z | z
  ·omega
  ·have:=aY3.mp z; omega
 have hM:M=(eN l).2:=by
  have h1:=M2 l.1 (by simp)
  have h2:=M2 l.2 (by simp)
  show M=max l.1 l.2
  rcases aX9.mp M1 with z | z
  ·omega
  ·have:=aY3.mp z; omega
 have e1:(eN l).1=min l.1 l.2:=rfl
 have e2:(eN l).2=max l.1 l.2:=rfl
 subst hm hM
 refine⟨_,rfl,_,_,rfl,rfl,_,rfl,?_⟩
 dsimp only
 rw [aX3 (by omega)]
 refine aS ⟨_,rfl,_,rfl,_,_,rfl,rfl,_,rfl,?_⟩
 dsimp only
 rw [aX3 (by omega)]
 refine aS ⟨_,rfl,_,rfl,.inl ⟨_,_,rfl,rfl,_,rfl,?_⟩⟩
 show if decide ((eN l).1=(eN l).2)=true then _ else _
 rw [aX3 (by omega)]
 exact aS ⟨_,rfl,_,rfl,by show 2<=1000; decide,rfl,trivial,q⟩
def rL:bC:=fun xs Q=>∃ x y ws ls,xs = [x,y]/\cJ x ws/\ws.length<=40/\(∀ w ∈ ws,0<=w/\w<=60)/\(y = .tup (aZ ls) ∨ y = .lst (aZ ls))/\ls.length<=1700/\(∀ l ∈ ls,0<=l.1/\l.1 < (ws.length:Int)/\0<=l.2/\l.2 < (ws.length:Int)/\l.1 ≠ l.2)/\(ls.map eN).Nodup/\∀ ls',ls'.Perm (ls.map eN)->WL (ws.length:Int) ws ls'->Q (bJ ws ls')
def V4:aK:=(aM (cI (aW (lM (aC dE (a7 (a5 0) aA)) (qC (.int 40)))) kF cL)
 (aM (eD (dB (a5 0)) (bR 2)
  (cI (iM (aW (gZ (a5 2) (qC (.int 0)))) (aW (lM (a5 2) (qC (.int 60))))) kF cL))
 (aM (b7 3 (aC o8 (a7 (cV (dB (a5 1)) [none,some 0] (bR 0) fX (aC rK (a7 (aC dE (a7 (a5 1) aA)) (a7 (a5 0) aA)))) aA)))
 (aM (cI (kB (aW (aC mD (a7 (a5 3) aA)))) kF cL)
 (bB (iN (a7 (aC eW (a7 (a5 0) aA)) (a7 (aC eW (a7 (a5 3) aA)) aA))))))))
theorem aN9:cC V4 ["wants","links","want","pairs"] rL:=by
 rintro xs Q ⟨x,y,ws,ls,rfl,hx,few,hw,hy,l17,inn,nd,q⟩
 have sy:gX y=some (aZ ls):=by rcases hy with rfl | rfl <;> rfl
 have fy:flats (aZ ls)=true:=qO ls
 have pl:(aZ ls).length=ls.length:=aY0 _
 refine⟨_,rfl,_,_,rfl,hx.len,_,_,rfl,rfl,_,rfl,?_⟩
 dsimp only
 rw [aX3 (by omega)]
 refine aS ?_
 refine⟨_,rfl,_,hx.seq,m6 hx,fun i ρ=>∃ y2,ρ = [some (.sh (flat x) x),some (.sh (flat y) y),y2,none],⟨none,rfl⟩,?_,?_⟩
 ·rintro i z ρ hz ⟨y2,rfl⟩
  obtain ⟨n,rfl,hn⟩:=g9 hz
  have:=hw n (bb4 hn)
  refine l4 ?_
  refine⟨_,rfl,_,_,rfl,rfl,_,rfl,?_⟩
  dsimp only
  rw [aX3 (by omega)]
  refine aS ⟨_,rfl,_,_,rfl,rfl,_,rfl,?_⟩
  dsimp only
  rw [aX3 (by omega)]
  exact aS ⟨_,rfl⟩
 rintro ρ ⟨y2,rfl⟩
 refine⟨_,rfl,_,sy,(fun z=>?_),by rw [pl]; omega,fun i acc=>acc=aZ ((ls.take i).map eN),rfl,?_,?_⟩
 ·cases h:flat y with
  | true=>exact h
  | false=>rw [h] at z; cases z
 ·rintro i z acc hz rfl
  obtain ⟨l,rfl,hl⟩:=vY hz
  obtain ⟨a0,a1,b0,b1,ne⟩:=inn l (bb4 hl)
  refine⟨_,rfl,_,_,rfl,hx.len,_,rfl,ws.length,l,rfl,a0,a1,b0,b1,ne,trivial,?_⟩
  dsimp only
  rw [bd2,hl,ba6]
  unfold aZ
  rw [ba6]; rfl
 rintro acc rfl
 rw [pl,bc4]
 refine⟨(ls.map eN).map two,by rw [l0]; rfl,by rw [aY0,aY0]; omega,fun r hr=>by obtain ⟨l,_,rfl⟩:=bb9.mp hr; rfl,fun Z pz so=>⟨trivial,?_⟩⟩
 obtain ⟨ls',rfl,pp⟩:=w4 pz
 have wl:WL (ws.length:Int) ws ls':=WL.perm rfl (fun l hl=>by
  obtain ⟨m,hm,rfl⟩:=bb9.mp hl
  obtain ⟨a0,a1,b0,b1,ne⟩:=inn m hm
  show 0<=min m.1 m.2/\min m.1 m.2 < max m.1 m.2/\max m.1 m.2 < (ws.length:Int)
  omega) (by rw [aY0]; exact l17) nd (fun w h=>(hw w h).1) pp so
 have ll:=pp.length_eq
 rw [aY0] at ll
 rw [show ((ls'.map two).map fun r=>PV.tup (intz r))=aZ ls' from (l0 ls').symm]
 refine⟨_,rfl,_,rfl,.inr ⟨ls',rfl,by omega,fun b hb=>?_⟩⟩
 refine⟨_,rfl,?_⟩
 rw [hb.mpr wl.ord]
 refine aS ?_
 refine⟨_,rfl,⟨_,_,rfl,hx.seqT,cY _,?_⟩,hx.noscr⟩
 refine⟨_,rfl,⟨_,_,rfl,rfl,qO _,?_⟩,fun _ z=>by cases z⟩
 exact⟨by show 2<=1000; decide,vR ws ls',trivial,q ls' pp wl⟩
def fQ (n:Nat) (ls:List (Int × Int)):Prop:=(∀ l ∈ ls,0<=l.1/\l.1 < l.2/\l.2 < (n:Int))/\ls.length<=1700/\ls.Pairwise cR
theorem aO0 {l:Int × Int} (h:l.1 < l.2):eN l=l:=by
 unfold eN
 rw [show min l.1 l.2=l.1 by omega,show max l.1 l.2=l.2 by omega]
theorem aO1 {a b:List (Int × Int)} (p:a.Perm b) (ha:a.Pairwise cR) (hb:b.Pairwise cR):a=b:=
 p.eq_of_pairwise (fun x y _ _ h1 h2=>by unfold cR at h1 h2; omega) ha hb
theorem V5:∀ n:Nat,(List.replicate n [PV.int 0]).flatten=intz (List.replicate n 0)
 | 0=>rfl
 | n+1=>by rw [bf9,bh0,bf9]; show PV.int 0 :: _=PV.int 0 :: _; rw [V5 n]; rfl
def rM:bC:=fun xs Q=>∃ (n:Nat) (ls:List (Int × Int)),xs = [.int n,.lst (aZ ls)]/\n<=40/\fQ n ls/\Q (bJ (List.replicate n 0) ls)
def V6:aK:=(aM (cI (iM (aW (gZ (a5 0) (qC (.int 0)))) (aW (lM (a5 0) (qC (.int 40))))) kF cL)
 (bB (aC rL (a7 (P8 (iO (a7 (qC (.int 0)) aA)) (a5 0)) (a7 (a5 1) aA)))))
theorem aO2:cC V6 ["many","links"] rM:=by
 rintro xs Q ⟨n,ls,rfl,n40,⟨inn,l17,ord⟩,q⟩
 refine⟨_,rfl,_,_,rfl,rfl,_,rfl,?_⟩
 dsimp only
 rw [aX3 (by omega)]
 refine aS ⟨_,rfl,_,_,rfl,rfl,_,rfl,?_⟩
 dsimp only
 rw [aX3 (by omega)]
 refine aS ?_
 have nl:ls.map eN=ls:=by
  conv=>rhs; rw [<- List.map_id ls]
  exact List.map_congr_left fun l hl=>aO0 (inn l hl).2.1
 have nd:ls.Nodup:=ord.imp fun {a b} h e=>by rw [e] at h; unfold cR at h; omega
 have rp:(List.replicate (n:Int).toNat [PV.int 0]).flatten=intz (List.replicate n 0):=by rw [bj5]; exact V5 n
 refine⟨by show 1<=1000; decide,rfl,_,rfl,_,_,rfl,rfl,rfl,by omega,by omega,by decide,_,rfl,?_⟩
 have rl:(List.replicate n (0:Int)).length=n:=bk7
 refine⟨_,_,List.replicate n 0,ls,rfl,.inr (by show PV.lst (List.replicate (n:Int).toNat [PV.int 0]).flatten=_; rw [rp]),by omega,fun w hw=>by rw [List.eq_of_mem_replicate hw]; decide,.inr rfl,l17,fun l hl=>by rw [rl]; have:=inn l hl; omega,by rw [nl]; exact nd,fun ls' pp wl=>⟨trivial,?_⟩⟩
 rw [nl] at pp
 rw [aO1 pp wl.ord ord]
 exact q
def aO3:aK:=(bB (iN (a7 (aC eW (a7 (cV (dB (aC iX (a7 (a5 0) aA))) [none,some 1] (bR 0) fX (aC nD (a7 (qC (.int 0)) (a7 (nK (aC dE (a7 (a5 0) aA)) (a5 1)) aA)))) aA)) (a7 (bW (a5 0) (qC (.int 1))) aA))))
def cF (S:List Int) (l:Int × Int):Bool:=decide (l.1 ∈ S) && decide (l.2 ∈ S)
def rN:bC:=fun xs Q=>∃ ws ls c,xs = [bJ ws ls,.int c]/\ws.length<=40/\∀ ws',ws'.length=ws.length->Q (bJ ws' ls)
def V7:aK:=(bB (iN (a7 (aC eW (a7 (cV (iQ (aC dE (a7 (bW (a5 0) (qC (.int 0))) aA))) [none,some 1] (bR 0) fX (dM (aC jU (a7 (a5 1) (a7 (a5 0) aA))) (qC (.int 5)))) aA)) (a7 (bW (a5 0) (qC (.int 1))) aA))))
theorem aO4:cC V7 ["web","cell"] rN:=by
 rintro xs Q ⟨ws,ls,c,rfl,few,q⟩
 refine⟨_,rfl,_,_,_,rfl,rfl,rfl,_,_,rfl,rfl,_,rfl,by rw [bD]; omega,by rw [bD]; omega,by rw [eC,bD]; omega,fun i acc=>∃ ds:List Int,acc=intz ds/\ds.length=i,⟨[],rfl,rfl⟩,?_,?_⟩
 ·rintro i y acc hy ⟨ds,rfl,dl⟩
  obtain ⟨rfl,hi⟩:=jQ hy
  rw [bD] at hi
  refine⟨_,rfl,_,rfl,c,0+(i:Int),rfl,by omega,by omega,fun z _=>?_⟩
  exact⟨_,_,rfl,rfl,(by show (0:Int) < 5; decide),trivial,ds ++ [z % 5],by rw [fM]; rfl,by rw [ba0,dl]; rfl⟩
 rintro acc ⟨ds,rfl,dl⟩
 rw [eC,bD,bj5] at dl
 exact⟨⟨_,_,rfl,rfl,cY _,_,rfl,_,_,_,rfl,rfl,rfl,by show 2<=1000; decide,vR ds ls,trivial,q ds dl⟩,fun ns z=>by cases z⟩
def rO:bC:=fun xs Q=>∃ x ns,∃ n:Nat,xs = [x,.int n]/\gA x ns/\ns.length<=63/\n<=40/\∀ ls,fQ n ls->Q (.lst (aZ ls))
def wX:aK:=(aM (eD (dB (a5 0)) (bR 3)
  (cI (aW (lM (a5 1) (qC (.int 1)))) (aM (b7 6 (aC jU (a7 (a5 3) (a7 (qC (.int 0)) aA))))
   (aM (b7 4 (dM (a5 6) (a5 1)))
   (aM (b7 5 (dM (kE (kE (a5 4) (qC (.int 1))) (dM (jJ (a5 6) (qC (.int 64))) (nK (a5 1) (qC (.int 1))))) (a5 1)))
   (aM (b7 7 (iN (a7 (aC pI (a7 (a5 4) (a7 (a5 5) aA))) (a7 (aC nD (a7 (a5 4) (a7 (a5 5) aA))) aA))))
   (cI (jE (aW (gY false (a5 7) (a5 2))) (aW (iS (dM (jJ (a5 6) (qC (.int 4096))) (qC (.int 2))) (qC (.int 0))))) (wN 2 (a5 7)) (nJ 2 (a5 7) (qC (.bl true)))))))) cL))
 (bB (aC o8 (a7 (aC vX (a7 (a5 2) aA)) aA))))
def V8:aK:=(aM (gW 2 (qC (.dT [])))
 (aM (cI (jE (aW (lM (aC dE (a7 (a5 0) aA)) (qC (.int 0)))) (aW (iS (dM (bW (a5 0) (qC (.int 0))) (qC (.int 2))) (qC (.int 1))))) (aM (b7 3 (jJ (bW (a5 0) (qC (.int 0))) (qC (.int 2))))
  (aM (eD (iQ (a5 1)) (bR 4)
   (eD (uE (kE (a5 4) (qC (.int 1))) (a5 1)) (bR 5)
    (aM (cI (aW (iS (dM (a5 3) (qC (.int 2))) (qC (.int 1)))) (nJ 2 (iN (a7 (a5 4) (a7 (a5 5) aA))) (qC (.bl true))) cL)
    (b7 3 (jJ (a5 3) (qC (.int 2)))))))
  (b7 0 (pR (a5 0) (pQ (qC (.int 1))) pP)))) cL)
 wX))
theorem aO5 {n one t:Int} (h:1 < n) (o0:0<=one) (o1:one < n) (t0:0<=t):(one+1+t % (n - 1)) % n ≠ one:=by
 have r0:0<=t % (n - 1):=bl0 _ (by omega)
 have r1:t % (n - 1) < n - 1:=bk6 _ (by omega)
 generalize t % (n - 1)=r at r0 r1
 by_cases c:one+1+r < n
 ·rw [Int.emod_eq_of_lt (by omega) c]; omega
 ·rw [show one+1+r=(one+1+r - n)+n by omega,Int.add_emod_right,Int.emod_eq_of_lt (by omega) (by omega)]; omega
theorem V9 {x:PV}{ns:List Int}{n:Nat}{g:Bool}{ps:List (List a9 × PV)}{y3 y4 y5:Option Slot}{Q:PV->Prop} (hx:gA x ns) (hg:(Slot.sh g x).tag = .rd->flat x=true) (n1:n<=40) (dk:DK (n:Int) ps) (q:∀ ls,fQ n ls->Q (.lst (aZ ls))) :
  wX { nx:=fun _=>Q .non,rt:=Q } [some (.sh g x),si (n:Nat),some (.own (.dT ps)),y3,y4,y5,none,none]:=by
 refine⟨_,rfl,_,hx.seq,hg,fun i ρ=>∃ (a b c d e:Option Slot) (ps:List (List a9 × PV)),ρ = [some (.sh g x),si (n:Nat),some (.own (.dT ps)),a,b,c,d,e]/\DK (n:Int) ps,⟨y3,y4,y5,none,none,ps,rfl,dk⟩,?_,?_⟩
 ·rintro i y ρ hy ⟨a,b,c,d,e,ps,rfl,dk⟩
  obtain ⟨cell,rfl,hc⟩:=g9 hy
  have few:=dk.few40 (by omega)
  refine l4 ?_
  refine⟨_,rfl,_,_,rfl,rfl,_,rfl,?_⟩
  by_cases h1:(n:Int) > 1
  ·dsimp only
   rw [aX4 h1]
   refine b6 ⟨_,rfl,cell,0,rfl,by decide,by decide,fun t t0=>⟨trivial,?_⟩⟩
   refine⟨_,rfl,_,rfl,_,_,rfl,rfl,(by show (0:Int) < (n:Int); omega),trivial,?_⟩
   dsimp only
   generalize hone:t % (n:Int)=one
   have o1:0<=one/\one < n:=by rw [<- hone]; exact⟨bl0 _ (by omega),bk6 _ (by omega)⟩
   refine⟨_,rfl,_,_,rfl,rfl,_,rfl,_,_,rfl,rfl,⟨by decide,by decide⟩,_,rfl,_,_,rfl,rfl,_,_,rfl,rfl,(by show (0:Int) < (n:Int) - 1; omega),_,_,rfl,rfl,_,rfl,_,_,rfl,rfl,(by show (0:Int) < (n:Int); omega),trivial,?_⟩
   dsimp only
   have ne:=aO5 h1 o1.1 o1.2 (Int.ediv_nonneg t0 (by decide:(0:Int)<=64))
   generalize hoth:(one+1+t / 64 % ((n:Int) - 1)) % (n:Int)=oth
   have o2:0<=oth/\oth < n:=by rw [<- hoth]; exact⟨bl0 _ (by omega),bk6 _ (by omega)⟩
   rw [hoth] at ne
   have lk:0<=(if oth < one then oth else one)/\(if oth < one then oth else one) < (if oth > one then oth else one)/\(if oth > one then oth else one) < (n:Int):=by
    split <;> split <;> omega
   refine⟨_,rfl,_,rfl,_,_,rfl,_,rfl,_,rfl,_,_,rfl,by show 2<=1000; decide,rfl,trivial,?_⟩
   dsimp only
   revert lk
   generalize (if oth < one then oth else one)=mn
   generalize (if oth > one then oth else one)=mx
   intro lk
   have put:∀ D:nA,(∀ ρ,(∃ (a b c d e:Option Slot) (ps:List (List a9 × PV)),ρ = [some (.sh g x),si (n:Nat),some (.own (.dT ps)),a,b,c,d,e]/\DK (n:Int) ps)->D.nx ρ)->(nJ 2 (a5 7) (qC (.bl true))) D [some (.sh g x),si (n:Nat),some (.own (.dT ps)),si cell,si one,si oth,si t,some (.sh true (.tup [.int mn,.int mx]))]:=fun D hD=>
    ⟨ps,rfl,_,rfl,eZ (mn,mx),rfl,trivial,by omega,hD _ ⟨_,_,_,_,_,_,rfl,dk.put (mn,mx) lk⟩⟩
   refine⟨_,rfl,_,rfl,_,.inr ⟨ps,eZ (mn,mx),rfl,rfl,rfl⟩,_,rfl,?_⟩
   cases hv:(bN ps (eZ (mn,mx))).isSome with
   | false=>exact aS (aS (put _ fun ρ h=>h))
   | true=>
    have is:∃ j:Nat,(ps.map (·.1))[j]? = some (eZ (mn,mx)):=by
     rw [<- qP] at hv
     obtain ⟨p,hp,e⟩:=List.any_eq_true.mp hv
     have e:=bd3 e
     obtain ⟨j,hj,ej⟩:=bd8 hp
     exact⟨j,by rw [aZ3,aX5 hj,ej]; exact congrArg some e⟩
    refine b6 ⟨_,rfl,_,_,rfl,rfl,⟨by decide,by decide⟩,_,_,rfl,rfl,(by show (0:Int) < 2; decide),.inl ⟨_,_,rfl,rfl,_,rfl,?_⟩⟩
    dsimp only
    cases (if false=true then !decide (t / 4096 % 2=0) else decide (t / 4096 % 2=0)) with
    | true=>exact b6 ⟨ps,rfl,_,rfl,eZ (mn,mx),rfl,is,fun j hj=>⟨_,_,_,_,_,_,rfl,dk.cut j⟩⟩
    | false=>exact aS (put _ fun ρ h=>h)
  ·dsimp only
   rw [aX3 h1]
   exact aS ⟨_,_,_,_,_,ps,rfl,dk⟩
 rintro ρ ⟨a,b,c,d,e,ps,rfl,dk⟩
 have few:=dk.few40 (by omega)
 obtain ⟨ls,e1,e2,e3,e4⟩:=DL.links dk.key
 have lnd:ls.Nodup:=by
  have:=dk.nd
  rw [e4] at this
  exact (bg2.mp this).imp fun h e=>h (congrArg eZ e)
 refine⟨_,rfl,ps,rfl,ls.map two,?_,by rw [aY0]; omega,?_,fun us pz so=>?_⟩
 ·show [PV.lst (ps.map fun p=>PV.tup (p.1.map kP))]=_
  rw [e1,l0]
 ·intro y hy
  obtain ⟨l,_,rfl⟩:=bb9.mp hy
  rfl
 obtain ⟨ls',rfl,pl⟩:=w4 pz
 rw [<- l0]
 exact⟨trivial,q ls' ⟨fun l hl=>e2 l (pl.mem_iff.mp hl),by rw [pl.length_eq]; omega,w5 so (pl.nodup_iff.mpr lnd)⟩⟩
theorem aO6:cC V8 ["flow","many","links","cell","one","other","turn","pair"] rO:=by
 rintro xs Q ⟨x,ns,n,rfl,hx,hns,n1,q⟩
 refine⟨rfl,rfl,?_⟩
 have last:wX { nx:=fun _=>Q .non,rt:=Q } [some (.sh (flat x) x),si (n:Nat),some (.own (.dT [])),none,none,none,none,none]:=V9 hx (aD4 hx) n1 (DK.nil n) q
 refine⟨_,rfl,_,_,rfl,hx.len,_,_,rfl,rfl,_,rfl,?_⟩
 by_cases h1:(0:Int) < (ns.length:Int)
 ·dsimp only
  rw [aX4 h1]
  have g0:ns[0]? = some (ns[0]'(by omega)):=aX5 (by omega)
  have i0:L2.atI (intz ns) (0:Int)=some (.int (ns[0]'(by omega))):=mP (xs:=intz ns) (j:=0) (by rw [aZ3,g0]; rfl)
  refine b6 ⟨_,rfl,_,_,_,hx.seq,rfl,i0,_,_,rfl,rfl,(by show (0:Int) < 2; decide),.inl ⟨_,_,rfl,rfl,_,rfl,?_⟩⟩
  cases h2:(if false=true then !decide (ns[0]'(by omega) % 2=1) else decide (ns[0]'(by omega) % 2=1)) with
  | false=>exact aS last
  | true=>
   refine b6 ⟨_,rfl,_,_,_,hx.seq,rfl,i0,_,_,rfl,rfl,⟨by decide,by decide⟩,trivial,?_⟩
   refine⟨_,rfl,(n:Int),rfl,by omega,by omega,fun i ρ=>∃ (c:Int) (y z:Option Slot) (ps:List (List a9 × PV)),ρ = [some (.sh (flat x) x),si (n:Nat),some (.own (.dT ps)),si c,y,z,none,none]/\DK (n:Int) ps,⟨_,none,none,[],rfl,DK.nil n⟩,?_,?_⟩
   ·rintro i y ρ hy ⟨c,y1,z1,ps,rfl,dl⟩
    obtain ⟨rfl,hi⟩:=jQ hy
    refine l4 ?_
    refine⟨_,rfl,_,_,rfl,rfl,_,rfl,_,(n:Int),rfl,rfl,⟨by omega,by omega,by omega,by omega⟩,fun j ρ=>∃ (c:Int) (z:Option Slot) (ps:List (List a9 × PV)),ρ = [some (.sh (flat x) x),si (n:Nat),some (.own (.dT ps)),si c,si (0+(i:Int)),z,none,none]/\DK (n:Int) ps,⟨c,z1,ps,rfl,dl⟩,?_,?_⟩
    ·rintro j y ρ hy ⟨c,z2,ps,rfl,dl⟩
     obtain ⟨rfl,hj⟩:=jQ hy
     have few:=dl.few40 (by omega)
     refine l4 ?_
     refine⟨_,rfl,_,_,rfl,rfl,(by show (0:Int) < 2; decide),.inl ⟨_,_,rfl,rfl,_,rfl,?_⟩⟩
     cases h:(if false=true then !decide (c % 2=1) else decide (c % 2=1)) with
     | true=>
      refine b6 ⟨_,rfl,_,rfl,_,rfl,by show 2<=1000; decide,rfl,eZ (0+(i:Int),0+(i:Int)+1+(j:Int)),rfl,trivial,by omega,?_⟩
      refine⟨_,rfl,_,_,rfl,rfl,⟨by decide,by decide⟩,trivial,c / 2,si (0+(i:Int)+1+(j:Int)),_,rfl,?_⟩
      exact dl.put _ ⟨by show (0:Int)<=0+(i:Int); omega,by show (0:Int)+(i:Int) < 0+(i:Int)+1+(j:Int); omega,by show (0:Int)+(i:Int)+1+(j:Int) < n; omega⟩
     | false=>exact aS ⟨_,rfl,_,_,rfl,rfl,⟨by decide,by decide⟩,trivial,c / 2,si (0+(i:Int)+1+(j:Int)),ps,rfl,dl⟩
    ·rintro ρ ⟨c,z2,ps,rfl,dl⟩
     exact⟨c,si (0+(i:Int)),z2,ps,rfl,dl⟩
   ·rintro ρ ⟨c,y1,z1,ps,rfl,dl⟩
    refine⟨_,rfl,_,rfl,_,hx.seqTF,cY _,trivial,?_⟩
    have hc:gA (uL x (eF (intz ns) (some 1) none)) (ns.drop 1):=by
     rcases hx with rfl | rfl
     ·exact .inr (by show PV.lst (eF (intz ns) (some 1) none)=_; rw [U5])
     ·exact .inr (by show PV.lst (eF (intz ns) (some 1) none)=_; rw [U5])
    exact V9 (g:=true) hc (fun z=>by cases z) n1 dl q
 ·dsimp only
  rw [aX3 h1]
  exact aS (aS last)
theorem aO7 (ls:List (Int × Int)):tups (ls.map two)=aZ ls:=(l0 ls).symm
theorem W0 {ls:List (Int × Int)} (h:ls.Pairwise cR):ls.Nodup:=h.imp fun {a b} z e=>by subst e; unfold cR at z; omega
theorem aO8 {a b:List (Int × Int)} (p:a.Perm b) (ha:a.Pairwise cR) (hb:b.Pairwise cR):a=b:=
 p.eq_of_pairwise (fun x y _ _ h1 h2=>by unfold cR at h1 h2; omega) ha hb
theorem rP:∀ {l m:List Int},l.Nodup->(∀ x ∈ l,x ∈ m)->l.length<=m.length
 | [],_,_,_=>bc6 _
 | a :: r,m,nd,h=>by
  have hm:=h a aY1
  have:=rP (l:=r) (m:=m.erase a) (be9.mp nd).2 fun x hx=>(List.mem_erase_of_ne (show x ≠ a from fun e=>(be9.mp nd).1 (by rw [<- e]; exact hx))).mpr (h x (aY2 _ hx))
  rw [List.length_erase_of_mem hm] at this
  have:=List.length_pos_of_mem hm
  rw [aZ7]; omega
section
variable {ls : List (Int × Int)} {n : Nat} {B : List Int}
def ins (ls:List (Int × Int)) (S:List Int) (h:Int):Nat:=((aH ls h).filter fun x=>decide (x ∈ S)).length
def jV (ls:List (Int × Int)) (S:List Int):Prop:=∀ h ∈ S,2<=ins ls S h
theorem aO9 {S:List Int}{h a b:Int} (ha:a ∈ aH ls h) (hb:b ∈ aH ls h) (sa:a ∈ S) (sb:b ∈ S) (ne:a ≠ b):2<=ins ls S h:=by
 unfold ins
 have m1:a ∈ (aH ls h).filter fun x=>decide (x ∈ S):=ba4.mpr ⟨ha,aX4 sa⟩
 have m2:b ∈ (aH ls h).filter fun x=>decide (x ∈ S):=ba4.mpr ⟨hb,aX4 sb⟩
 cases e:(aH ls h).filter fun x=>decide (x ∈ S) with
 | nil=>rw [e] at m1; cases m1
 | cons x r=>
  cases r with
  | nil=>
   rw [e] at m1 m2
   rw [aY3.mp m1,aY3.mp m2] at ne
   exact absurd rfl ne
  | cons y z=>simp
theorem aP0 {S:List Int}{h:Int} (nd:(aH ls h).Nodup) (t:2<=ins ls S h):∃ a b,a ∈ aH ls h/\b ∈ aH ls h/\a ∈ S/\b ∈ S/\a ≠ b:=by
 unfold ins at t
 have n2:=nd.filter (fun x=>decide (x ∈ S))
 have mem:∀ x ∈ (aH ls h).filter fun x=>decide (x ∈ S),x ∈ aH ls h/\x ∈ S:=fun x hx=>⟨(ba4.mp hx).1,bd3 (ba4.mp hx).2⟩
 cases e:(aH ls h).filter fun x=>decide (x ∈ S) with
 | nil=>rw [e] at t; simp at t
 | cons x r=>
  cases r with
  | nil=>rw [e] at t; simp at t
  | cons y z=>
   rw [e] at n2 mem
   have h1:=mem x aY1
   have h2:=mem y (aY2 _ aY1)
   exact⟨x,y,h1.1,h2.1,h1.2,h2.2,fun z=>(be9.mp n2).1 (by rw [z]; exact aY1)⟩
def dZ (ls:List (Int × Int)):List Int->Prop
 | a :: b :: r=>b ∈ aH ls a/\dZ ls (b :: r)
 | _=>True
theorem aP1 {a:Int}:∀ {r:List Int},dZ ls (a :: r)->dZ ls r
 | [],_=>trivial
 | _ :: _,h=>h.2
theorem rQ:∀ {c z:List Int},dZ ls (c ++ z)->dZ ls c
 | [],_,_=>trivial
 | [_],_,_=>trivial
 | _ :: _ :: _,_,h=>⟨h.1,rQ h.2⟩
theorem W5:∀ (k:Nat) {c:List Int},dZ ls c->dZ ls (c.drop k)
 | 0,_,h=>h
 | k+1,[],_=>trivial
 | k+1,_ :: _,h=>W5 k (aP1 h)
theorem aP2 {c:List Int} (k:Nat) (h:dZ ls c):dZ ls (c.take k):=rQ (z:=c.drop k) (by rw [bb2]; exact h)
theorem wY:∀ {c:List Int}{i:Nat}{a b:Int},dZ ls c->c[i]? = some a->c[i+1]? = some b->b ∈ aH ls a
 | [],_,_,_,_,h,_=>by simp at h
 | [_],0,_,_,_,_,h=>by simp at h
 | [_],_+1,_,_,_,h,_=>by simp at h
 | x :: y :: r,0,a,b,h,h1,h2=>by
  simp at h1 h2
  subst h1 h2
  exact h.1
 | x :: y :: r,i+1,a,b,h,h1,h2=>wY h.2 (by simpa using h1) (by simpa using h2)
theorem wZ {a:Int}:∀ {r:List Int}{b:Int},dZ ls r->r.getLast? = some b->a ∈ aH ls b->dZ ls (r ++ [a])
 | [],_,_,h,_=>by simp at h
 | [x],b,_,h,ha=>by
  simp at h
  subst h
  exact⟨ha,trivial⟩
 | x :: y :: r,b,h,hl,ha=>⟨h.1,wZ (r:=y :: r) h.2 (by simpa using hl) ha⟩
theorem W6:∀ {r:List Int},dZ ls r->dZ ls r.reverse
 | [],_=>trivial
 | [_],_=>trivial
 | x :: y :: r,h=>by
  rw [List.reverse_cons]
  exact wZ (b:=y) (W6 (r:=y :: r) h.2) (by rw [List.getLast?_reverse]; rfl) (jD h.1)
structure fB (ls:List (Int × Int)) (c:List Int):Prop where
 len:3<=c.length
 nd:c.Nodup
 ch:dZ ls c
 cl:∃ a b,c.head? = some a/\c.getLast? = some b/\a ∈ aH ls b
theorem aP3 {a:Int}{r:List Int} (h:fB ls (a :: r)):fB ls (r ++ [a]):=by
 obtain ⟨x,y,hx,hy,hxy⟩:=h.cl
 have hl:=h.len
 cases r with
 | nil=>simp at hl
 | cons b r=>
  cases hx
  have hy2:(b :: r).getLast? = some y:=by simpa using hy
  refine⟨by simpa using hl,?_,wZ h.ch.2 hy2 hxy,b,a,rfl,List.getLast?_concat,h.ch.1⟩
  have:=h.nd
  exact (bi6 (l₁:=[a]) (l₂:=b :: r)).nodup_iff.mp this
theorem W7 {x:Int}:∀ {A Z:List Int},fB ls (A ++ x :: Z)->∃ r,fB ls (x :: r)/\(x :: r).Perm (A ++ x :: Z)
 | [],Z,h=>⟨Z,h,List.Perm.refl _⟩
 | a :: A,Z,h=>by
  have h2:=aP3 (a:=a) (r:=A ++ x :: Z) h
  rw [aZ5,List.cons_append] at h2
  obtain ⟨r,h3,p⟩:=W7 h2
  refine⟨r,h3,p.trans ?_⟩
  have:(A ++ x :: (Z ++ [a]))=(A ++ x :: Z) ++ [a]:=by rw [aZ5,List.cons_append]
  rw [this]
  exact bi6
theorem W8 {c:List Int}{x:Int} (h:fB ls c) (hx:x ∈ c):∃ r,fB ls (x :: r)/\(x :: r).Perm c:=by
 obtain ⟨A,Z,rfl⟩:=List.append_of_mem hx
 exact W7 h
theorem W9 {c:List Int} (h:fB ls c):jV ls c:=fun x hx=>by
 obtain ⟨r,h2,p⟩:=W8 h hx
 have hl:=h2.len
 obtain ⟨u,v,hu,hv,huv⟩:=h2.cl
 cases hu
 cases r with
 | nil=>simp at hl
 | cons a r=>
  cases r with
  | nil=>simp at hl
  | cons b r=>
   have hv2:(b :: r).getLast? = some v:=by simpa using hv
   have vm:v ∈ b :: r:=List.mem_of_getLast? hv2
   have nd:=h2.nd
   refine aO9 (a:=a) (b:=v) h2.ch.1 (jD huv) (p.mem_iff.mp (aY2 _ aY1)) (p.mem_iff.mp (aY2 _ (aY2 _ vm))) fun e=>?_
   rw [e] at nd
   exact (be9.mp (be9.mp nd).2).1 vm
theorem X0 (nnd:∀ h,(aH ls h).Nodup) (irr:∀ h,h ∉ aH ls h) (t:jV ls B):∀ (k:Nat) (v:Int) (r:List Int),(v :: r).Nodup->(∀ x ∈ v :: r,x ∈ B)->dZ ls (v :: r)->B.length < (v :: r).length+k->B.Nodup->∃ c,fB ls c/\∀ x ∈ c,x ∈ B
 | 0,v,r,nd,sub,_,hk,wS=>by
  have:=rP nd sub
  omega
 | k+1,v,r,nd,sub,ch,hk,wS=>by
  have hv:=sub v aY1
  by_cases ex:∃ x,x ∈ aH ls v/\x ∈ B/\x ∉ v :: r
  ·obtain ⟨x,h1,h2,h3⟩:=ex
   exact X0 nnd irr t k x (v :: r) (be9.mpr ⟨h3,nd⟩) (fun y hy=>by
    rcases aX9.mp hy with rfl | hy
    ·exact h2
    ·exact sub y hy) ⟨jD h1,ch⟩ (by rw [aZ7] at hk ⊢; rw [aZ7]; omega) wS
  ·have all:∀ x,x ∈ aH ls v->x ∈ B->x ∈ r:=fun x h1 h2=>by
    rcases aX9.mp (Classical.byContradiction fun z=>ex ⟨x,h1,h2,z⟩) with rfl | h
    ·exact absurd h1 (irr x)
    ·exact h
   obtain ⟨a,b,ha,hb,sa,sb,ne⟩:=aP0 (nnd v) (t v hv)
   have ra:=all a ha sa
   have rb:=all b hb sb
   cases r with
   | nil=>cases ra
   | cons u r'=>
    obtain ⟨w,hw,wr⟩:∃ w,w ∈ aH ls v/\w ∈ r':=by
     rcases aX9.mp ra with rfl | ra
     ·rcases aX9.mp rb with rfl | rb
      ·exact absurd rfl ne
      ·exact⟨b,hb,rb⟩
     ·exact⟨a,ha,ra⟩
    obtain ⟨A,Z,rfl⟩:=List.append_of_mem wr
    have e:v :: u :: (A ++ w :: Z)=(v :: u :: (A ++ [w])) ++ Z:=by simp
    rw [e] at nd ch sub
    refine⟨v :: u :: (A ++ [w]),⟨by simp,(bi2.mp nd).1,rQ ch,v,w,rfl,List.getLast?_concat (l:=v :: u :: A),jD hw⟩,fun x hx=>sub x (bg3 _ hx)⟩
end
section
variable {ls : List (Int × Int)} {B : List Int}
structure i6 (ls:List (Int × Int)) (B:List Int):Prop where
 ne:B ≠ []
 nd:B.Nodup
 two:jV ls B
 least:∀ U,jV ls U->(∀ x ∈ U,x ∈ B)->U ≠ []->∀ x ∈ B,x ∈ U
structure i7 (ls:List (Int × Int)):Prop where
 lt:∀ l ∈ ls,l.1 < l.2
 ord:ls.Pairwise cR
theorem i7.nnd (f:i7 ls) (h:Int):(aH ls h).Nodup:=R7 f.lt f.ord
theorem i7.irr (f:i7 ls) (h:Int):h ∉ aH ls h:=fun z=>by
 rcases L2.k9.mp z with z | z <;> exact absurd (f.lt _ z) (Int.lt_irrefl _)
theorem aP4 (f:i7 ls) (m:i6 ls B):∃ c,fB ls c/\c.Perm B:=by
 obtain ⟨b0,hb⟩:=List.exists_mem_of_ne_nil B m.ne
 obtain ⟨c,h,sub⟩:=X0 f.nnd f.irr m.two (B.length) b0 [] (ba8 _ _) (fun x hx=>by rw [aY3.mp hx]; exact hb) trivial (by simp) m.nd
 have cne:c ≠ []:=fun z=>by have:=h.len; rw [z] at this; simp at this
 exact⟨c,h,(List.perm_ext_iff_of_nodup h.nd m.nd).mpr fun x=>⟨sub x,m.least c (W9 h) sub cne x⟩⟩
theorem x3 (m:i6 ls B) {c:List Int} (h:fB ls c) (p:c.Perm B) {i j:Nat}{a b:Int} (hi:c[i]? = some a) (hj:c[j]? = some b) (ij:i < j) (ab:b ∈ aH ls a):j=i+1 ∨ (i=0/\j+1=c.length):=by
 by_cases e:j=i+1
 ·exact .inl e
 ·refine .inr ?_
  have jl:=(aY5.mp hj).1
  have sl:((c.drop i).take (j - i+1)).length=j - i+1:=by rw [bd1,bf6]; omega
  have snd:((c.drop i).take (j - i+1)).Nodup:=(h.nd.sublist (List.drop_sublist _ _)).sublist (List.take_sublist _ _)
  have cyc:fB ls ((c.drop i).take (j - i+1)):=by
   refine⟨by omega,snd,aP2 _ (W5 _ h.ch),a,b,?_,?_,jD ab⟩
   ·rw [List.head?_take,if_neg (by omega),List.head?_drop,hi]
   ·rw [List.getLast?_eq_getElem?,sl,List.getElem?_take_of_lt (by omega),List.getElem?_drop,show i+(j - i+1 - 1)=j by omega,hj]
  have sub:∀ x ∈ (c.drop i).take (j - i+1),x ∈ B:=fun x hx=>p.mem_iff.mp (List.mem_of_mem_drop (bl4 hx))
  have all:=m.least _ (W9 cyc) sub (fun z=>by rw [z] at sl; simp at sl)
  have:=rP h.nd fun x hx=>all x (p.mem_iff.mp hx)
  omega
structure l5 (ls:List (Int × Int)) (B c:List Int):Prop where
 cyc:fB ls c
 perm:c.Perm B
 low:∃ b T,c=b :: T/\∀ x ∈ B,b<=x
 turn:∀ u v,c[1]? = some u->c.getLast? = some v->u < v
theorem aP5 (f:i7 ls) (m:i6 ls B) {b0:Int} (hb:b0 ∈ B) (hm:∀ x ∈ B,b0<=x):∃ c,l5 ls B c:=by
 obtain ⟨c,h,p⟩:=aP4 f m
 obtain ⟨r,h2,p2⟩:=W8 h (p.mem_iff.mpr hb)
 have hl:=h2.len
 obtain ⟨x,v,hx,hv,hxv⟩:=h2.cl
 cases hx
 cases r with
 | nil=>simp at hl
 | cons u T=>
  have hv2:(u :: T).getLast? = some v:=by simpa using hv
  cases T with
  | nil=>simp at hl
  | cons u2 T=>
   have hv3:(u2 :: T).getLast? = some v:=by simpa using hv2
   have vm:v ∈ u2 :: T:=List.mem_of_getLast? hv3
   have une:u ≠ v:=fun z=>(be9.mp (be9.mp h2.nd).2).1 (by rw [z]; exact vm)
   by_cases uv:u < v
   ·refine⟨_,h2,p2.trans p,⟨b0,_,rfl,hm⟩,fun a b ha hb'=>?_⟩
    have ha:u=a:=by simpa using ha
    rw [hv] at hb'
    cases hb'
    rw [<- ha]; exact uv
   ·
    have pr:(b0 :: (u :: u2 :: T).reverse).Perm (b0 :: u :: u2 :: T):=(List.reverse_perm _).cons b0
    refine⟨b0 :: (u :: u2 :: T).reverse,⟨by simpa using hl,pr.nodup_iff.mpr h2.nd,?_,b0,u,rfl,?_,jD h2.ch.1⟩,pr.trans (p2.trans p),⟨b0,_,rfl,hm⟩,fun a b ha hb'=>?_⟩
    ·have c1:=W6 (r:=b0 :: u :: u2 :: T) h2.ch
     rw [List.reverse_cons] at c1
     have c2:=rQ c1
     have hd:(u :: u2 :: T).reverse.head? = some v:=by rw [List.head?_reverse]; exact hv2
     cases e:(u :: u2 :: T).reverse with
     | nil=>rw [e] at hd; cases hd
     | cons y z=>
      rw [e] at hd c2
      cases hd
      exact⟨jD hxv,c2⟩
    ·rw [List.getLast?_cons,List.getLast?_reverse]; rfl
    ·rw [List.getLast?_cons,List.getLast?_reverse] at hb'
     have hb':u=b:=by simpa using hb'
     have ha:(u :: u2 :: T).reverse.head? = some a:=by rw [List.head?_eq_getElem?]; simpa using ha
     rw [List.head?_reverse,hv2] at ha
     cases ha
     rw [<- hb']; omega
theorem aP6 (f:i7 ls) (up:∀ h,(aH ls h).Pairwise (· < ·)) (m:i6 ls B) {c:List Int} (R:l5 ls B c) {k:Nat}{a b:Int} (ha:c[k]? = some a) (hb:c[k+1]? = some b) :
  ((aH ls a).filter fun x=>decide (x ∈ B) && !decide (x ∈ c.take (k+1))).head? = some b:=by
 have kl:=(aY5.mp hb).1
 have bm:b ∈ (aH ls a).filter fun x=>decide (x ∈ B) && !decide (x ∈ c.take (k+1)):=by
  refine ba4.mpr ⟨wY R.cyc.ch ha hb,?_⟩
  have h1:b ∈ B:=R.perm.mem_iff.mp (bb4 hb)
  have h2:b ∉ c.take (k+1):=fun z=>by
   obtain ⟨j,hj,e⟩:=bd8 z
   rw [bd1] at hj
   rw [List.getElem_take] at e
   have e2:c[j]? = some b:=by rw [aX5 (by omega),e]
   have:=(List.getElem?_inj (by omega) R.cyc.nd).mp (e2.trans hb.symm)
   omega
  rw [aX4 h1,aX3 h2]; rfl
 cases e:(aH ls a).filter fun x=>decide (x ∈ B) && !decide (x ∈ c.take (k+1)) with
 | nil=>rw [e] at bm; cases bm
 | cons y z=>
  have ym:y ∈ (aH ls a).filter fun x=>decide (x ∈ B) && !decide (x ∈ c.take (k+1)):=by rw [e]; exact aY1
  obtain ⟨y1,y2⟩:=ba4.mp ym
  rw [bb1] at y2
  have yB:=bd3 y2.1
  have yn:y ∉ c.take (k+1):=by simpa using y2.2
  obtain ⟨j,hj⟩:=List.getElem?_of_mem (R.perm.mem_iff.mpr yB)
  have jl:=(aY5.mp hj).1
  have kj:k < j:=by
   rcases bb7 k j with z | z
   ·exact z
   ·exact absurd (bb4 (l:=c.take (k+1)) (i:=j) (by rw [List.getElem?_take_of_lt (by omega)]; exact hj)) yn
  have le:y<=b:=by
   rw [e] at bm
   have so:=(up a).filter (fun x=>decide (x ∈ B) && !decide (x ∈ c.take (k+1)))
   rw [e] at so
   rcases aX9.mp bm with rfl | h
   ·exact bj3 _
   ·exact Int.le_of_lt (List.rel_of_pairwise_cons so h)
  show some y=some b
  rcases x3 m R.cyc R.perm ha hj kj y1 with z | ⟨z1,z2⟩
  ·rw [z,hb] at hj; cases hj; rfl
  ·subst z1
   have:=R.turn b y hb (by rw [List.getLast?_eq_getElem?,show c.length - 1=j by omega]; exact hj)
   omega
end
def oB (d:Int):Int:=if d - 1 > 0 then d - 1 else 0
def bT (n:Nat) (ls:List (Int × Int)):List Int:=(List.range n).map fun (k:Nat)=>oB ((aH ls (k:Int)).length:Int)
theorem gP {n:Nat}{ls:List (Int × Int)}:(bT n ls).length=n:=by unfold bT; rw [aY0,bf2]
theorem aP7 {n:Nat}{ls:List (Int × Int)}{x:Int} (h0:0<=x) (h1:x < (n:Int)):(bT n ls).getD x.toNat 0=oB ((aH ls x).length:Int):=by
 unfold bT
 rw [aZ1,aZ3,bk1 (by omega)]
 show oB ((aH ls ((x.toNat:Nat):Int)).length:Int)=_
 rw [show ((x.toNat:Nat):Int)=x by omega]
theorem X1 {n:Nat}{ls:List (Int × Int)}{S:List Int}{h:Int} (h0:0<=h) (h1:h < (n:Int)):fA (bT n ls) ls S h=decide (2<=ins ls S h):=by
 unfold fA
 rw [aP7 h0 h1,be8,ba1,ba1]
 unfold iZ oB ins
 have:=be5 (fun x=>decide (x ∈ S)) (aH ls h)
 split <;> omega
theorem rR {n:Nat}{ls:List (Int × Int)}{S:List Int} (hs:∀ x ∈ S,0<=x/\x < (n:Int)):stay (bT n ls) ls S=S ↔ jV ls S:=by
 unfold stay
 rw [List.filter_eq_self]
 constructor
 ·intro h x hx
  have:=h x hx
  rw [X1 (hs x hx).1 (hs x hx).2] at this
  exact bd3 this
 ·intro h x hx
  rw [X1 (hs x hx).1 (hs x hx).2]
  exact aX4 (h x hx)
def i8 (ls:List (Int × Int)) (S:List Int):Prop:=∀ U,jV ls U->(∀ x ∈ U,x ∈ S)->U = []
theorem X2 {n:Nat}{ls:List (Int × Int)}{S G:List Int} (hs:∀ x ∈ S,0<=x/\x < (n:Int)) (g:o6 (bT n ls) ls S G):G = [] ↔ i8 ls S:=by
 constructor
 ·intro e U tU sub
  have:=g.most U ((rR fun x hx=>hs x (sub x hx)).mpr tU) sub
  rw [e] at this
  exact List.eq_nil_iff_forall_not_mem.mpr fun x hx=>nomatch this x hx
 ·intro no
  exact no G ((rR fun x hx=>hs x (g.sub x hx)).mp g.cold) g.sub
theorem aP8 {n:Nat}{ls:List (Int × Int)}{G L:List Int} (l:wF (bT n ls) ls G L) (ne:L ≠ []):i6 ls L:=by
 have hs:=l.set
 rw [gP] at hs
 have inn:=(eJ hs).2
 refine⟨ne,(iV (eJ hs).1).imp fun {a b} h e=>by omega,(rR inn).mp l.cold,fun U tU sub une x hx=>?_⟩
 exact Classical.byContradiction fun hn=>une (l.least x hx U ((rR fun y hy=>inn y (sub y hy)).mpr tU) sub hn)
def mE:bC:=fun xs Q=>∃ ws ls,xs = [bJ ws ls,.int 1]/\Wb ws ls/\Q (bJ (bT ws.length ls) ls)
abbrev X3:aK:=aO3
theorem aP9:cC X3 ["web","few"] mE:=by
 rintro xs Q ⟨ws,ls,rfl,wb,q⟩
 have few:=wb.few
 have nl:(fN ws.length ls).length=ws.length:=by unfold fN; rw [aY0,bf2]
 have get:∀ i y,(fN ws.length ls)[i]? = some y->i < ws.length/\y = .lst (intz (aH ls (i:Int))):=fun i y h=>by
  unfold fN at h
  rw [aZ3] at h
  by_cases hi:i < ws.length
  ·rw [bk1 hi] at h; cases h; exact⟨hi,rfl⟩
  ·rw [List.getElem?_eq_none (by rw [bf2]; omega)] at h; cases h
 refine⟨_,rfl,ws,ls,rfl,wb,_,rfl,(fun z=>by cases z),by rw [nl]; omega,fun i acc=>acc=intz ((bT ws.length ls).take i),rfl,?_,?_⟩
 ·rintro i y acc hy rfl
  obtain ⟨hi,rfl⟩:=get i y hy
  have dg:(bT ws.length ls)[i]? = some (oB ((aH ls (i:Int)).length:Int)):=by unfold bT; rw [aZ3,bk1 hi]; rfl
  refine⟨_,rfl,_,_,rfl,rfl,_,rfl,_,_,rfl,rfl,_,_,rfl,trivial,?_⟩
  dsimp only
  rw [bD,bd2,dg,fM]
  rfl
 rintro acc rfl
 rw [nl,ba3 (by rw [gP]; exact aX7 _)]
 exact⟨⟨_,_,rfl,rfl,cY _,_,rfl,_,_,_,rfl,rfl,rfl,by show 2<=1000; decide,vR (bT ws.length ls) ls,trivial,q⟩,fun ns z=>by cases z⟩
def rS:bC:=fun xs Q=>∃ (n:Nat) (ls:List (Int × Int)),xs = [.int n,.lst (aZ ls)]/\n<=40/\fQ n ls/\Q (bJ (bT n ls) ls)
def X4:aK:=(bB (aC mE (a7 (aC rM (a7 (a5 0) (a7 (a5 1) aA))) (a7 (qC (.int 1)) aA))))
theorem aQ0:cC X4 ["many","links"] rS:=by
 rintro xs Q ⟨n,ls,rfl,hn,lk,q⟩
 have lr:(List.replicate n (0:Int)).length=n:=bk7
 refine⟨_,rfl,_,rfl,n,ls,rfl,hn,lk,List.replicate n 0,ls,rfl,⟨by rw [lr]; omega,lk.2.1,fun l hl=>by have:=lk.1 l hl; rw [lr]; omega⟩,trivial,?_⟩
 rw [lr]; exact q
theorem fQ.fit {n:Nat}{ls:List (Int × Int)} (lk:fQ n ls):i7 ls:=⟨fun l hl=>(lk.1 l hl).2.1,lk.2.2⟩
theorem aQ1 {ls:List (Int × Int)} (f:i7 ls) (k:Int):(aH ls k).Pairwise (· < ·):=by
 unfold aH
 rw [List.pairwise_flatMap]
 refine⟨fun l hl=>?_,f.ord.imp_of_mem fun {l m} hl hm lt x hx y hy=>?_⟩
 ·have:=f.lt l hl
  by_cases a:l.1=k
  ·have b : ¬ l.2=k:=by omega
   rw [if_pos a,if_neg b]; exact ba8 _ _
  ·rw [if_neg a]
   split
   ·exact ba8 _ _
   ·exact .nil
 ·have h1:=f.lt l hl
  have h2:=f.lt m hm
  rcases L2.mY.mp hx with ⟨a,rfl⟩ | ⟨a,rfl⟩ <;> rcases L2.mY.mp hy with ⟨b,rfl⟩ | ⟨b,rfl⟩ <;> (unfold cR at lt; omega)
def oC:dG:=fun Ep xs Q=>∃ ws ls x S,xs = [bJ ws ls,x]/\ws.length<=40/\fQ ws.length ls/\cJ x S/\S.length<=1000/\
 (b9 ws.length S=true->(i8 ls S->Q .non)/\(¬ i8 ls S->∀ B c,i6 ls B->(∀ x ∈ B,x ∈ S)->l5 ls B c->Q (.tup (intz c))))/\(b9 ws.length S=false->Ep "BadSet")
def X5 (Ep:Str->Prop):aK:=(aM (b7 2 (i4 Ep rD (a7 (aC mE (a7 (a5 0) (a7 (qC (.int 1)) aA))) (a7 (a5 1) aA))))
 (aM (cI (kB (nF (a5 2))) (bB (qC .non)) cL)
 (aM (b7 3 (aC gM (a7 (a5 2) aA)))
 (aM (b7 4 (aC iX (a7 (a5 0) aA)))
 (aM (gW 5 (iO (a7 (bW (a5 2) (qC (.int 0))) aA)))
 (aM (lG (aW (gZ (aC dE (a7 (a5 5) aA)) (aC dE (a7 (a5 2) aA))))
  (aM (b7 6 (cV (dB (bW (a5 4) (bW (a5 5) (uK (qC (.int 1)))))) [none,some 3,some 5] (bR 0) (jE (aW (gY false (a5 0) (a5 1))) (aW (q2 (fY true) (a5 0) (a5 2)))) (a5 0)))
  (lH 5 (bW (a5 6) (qC (.int 0))))))
 (bB (aC eW (a7 (a5 5) aA)))))))))
theorem x4 {c:List Int}{k:Nat}{a:Int} (ha:c[k]? = some a):L2.atI (intz (c.take (k+1))) (-1)=some (.int a):=by
 have e:c.take (k+1)=c.take k ++ [a]:=by rw [bd2,ha]; rfl
 rw [e,fM]
 exact L2.yR (intz (c.take k)) (.int a)
theorem aQ2:jT X5 ["web","some","block","inside","around","row","left"] oC:=by
 rintro Ep xs Q ⟨ws,ls,x,S,rfl,few,lk,hx,hl,q,qe⟩
 have wb:Wb ws ls:=⟨by omega,lk.2.1,fun l h=>by have:=lk.1 l h; omega⟩
 have wb1:Wb (bT ws.length ls) ls:=⟨by rw [gP]; omega,lk.2.1,fun l h=>by have:=lk.1 l h; rw [gP]; omega⟩
 refine⟨_,rfl,ws,ls,rfl,wb,_,rfl,bT ws.length ls,ls,x,S,rfl,wb1,hx,hl,fun hs=>?_,fun hs=>by rw [gP] at hs; exact qe hs⟩
 rw [gP] at hs
 intro G L g _ l
 have inn:=(eJ hs).2
 have lset:=l.set
 rw [gP] at lset
 have ll:=gN lset
 have gn:=X2 inn g
 refine⟨trivial,?_⟩
 refine⟨_,rfl,_,rfl,?_⟩
 cases hL:L with
 | nil=>
  exact b6 ⟨trivial,(q hs).1 (gn.mp (l.emp.mp hL))⟩
 | cons b0 L'=>
  have ne:L ≠ []:=by rw [hL]; exact fun z=>by cases z
  have mt:=aP8 l ne
  have f:=lk.fit
  have up:=iV (eJ lset).1
  have hm:∀ x ∈ L,b0<=x:=fun x hx=>by
   rw [hL] at hx up
   rcases aX9.mp hx with rfl | hx
   ·exact bj3 _
   ·exact Int.le_of_lt (List.rel_of_pairwise_cons up hx)
  have hb:b0 ∈ L:=by rw [hL]; exact aY1
  obtain ⟨c,R⟩:=aP5 f mt hb hm
  have cl:c.length=L.length:=R.perm.length_eq
  obtain ⟨b1,T,hc,hlow⟩:=R.low
  have hb1:b1=b0:=Int.le_antisymm (hlow b0 hb) (hm b1 (R.perm.mem_iff.mp (by rw [hc]; exact aY1)))
  subst hb1
  have lin:=(eJ lset).2
  have sub:∀ x ∈ L,x ∈ S:=fun x hx=>g.sub x (l.sub x hx)
  have no : ¬ i8 ls S:=fun z=>ne (z L mt.two sub)
  have fin:=(q hs).2 no L c mt sub R
  rw [<- hL]
  have tl:((intz L).isEmpty)=false:=by rw [hL]; rfl
  show (if (!(!(intz L).isEmpty))=true then _ else _)
  rw [tl]
  refine aS ?_
  refine⟨_,rfl,_,L,rfl,.inl rfl,by omega,fun ps d=>⟨trivial,?_⟩⟩
  refine⟨_,rfl,ws,ls,rfl,wb,trivial,?_⟩
  have at0:L2.atI (intz L) 0=some (.int b1):=by rw [hL]; exact mP (j:=0) rfl
  refine⟨_,rfl,_,_,_,rfl,rfl,at0,by show 1<=1000; decide,rfl,rfl,rfl,?_⟩
  have c0:c.take 1 = [b1]:=by rw [hc]; rfl
  refine⟨fun m ρ=>∃ (k:Nat) (y6:Option Slot),ρ = [some (.sh (flat (bJ ws ls)) (bJ ws ls)),some (.sh (flat x) x),some (.sh true (.tup (intz L))),some (.sh true (.dK ps)),some (.sh true (.lst (fN ws.length ls))),some (.own (.lst (intz (c.take (k+1))))),y6]/\k < c.length/\m+k=c.length,⟨c.length,0,none,by rw [c0]; rfl,by rw [hc]; simp,rfl⟩,?_⟩
  rintro m ρ ⟨k,y6,rfl,kl,mk⟩
  have rl:(c.take (k+1)).length=k+1:=by rw [bd1]; omega
  refine⟨_,rfl,_,_,rfl,rfl,_,rfl,_,_,rfl,rfl,_,_,rfl,rfl,_,rfl,?_⟩
  show if decide (((intz (c.take (k+1))).length:Int) < ((intz L).length:Int))=true then _ else _
  rw [bD,bD,rl]
  by_cases hk:((k+1:Nat):Int) < (L.length:Int)
  ·rw [aX4 hk]
   have ha:c[k]? = some c[k]:=aX5 kl
   have hbk:c[k+1]? = some (c[k+1]'(by omega)):=aX5 (by omega)
   have aL:=lin c[k] (R.perm.mem_iff.mp (bh6 kl))
   have nx:=aP6 f (aQ1 f) mt R ha hbk
   have nlen:=mW ls c[k]
   have lm:=lk.2.1
   refine b6 ⟨_,rfl,_,rfl,_,rfl,_,_,_,rfl,rfl,x4 ha,_,_,_,rfl,rfl,vV aL.1 aL.2,intz (aH ls c[k]),rfl,(fun z=>by cases z),by rw [bD]; omega,fun i acc=>acc=intz (((aH ls c[k]).take i).filter fun x=>decide (x ∈ L) && !decide (x ∈ c.take (k+1))),rfl,?_,?_⟩
   ·rintro i z acc hz rfl
    obtain ⟨h,rfl,hh⟩:=g9 hz
    have tk:=iW (p:=fun x=>decide (x ∈ L) && !decide (x ∈ c.take (k+1))) hh
    refine⟨_,rfl,_,rfl,_,.inl ⟨ps,Sum.inl h,rfl,rfl,rfl⟩,_,rfl,?_⟩
    show if (bN ps (Sum.inl h:a9)).isSome=true then _ else _
    rw [d.has h]
    by_cases m1:h ∈ L
    ·rw [aX4 m1] at tk ⊢
     refine b6 ⟨_,rfl,_,rfl,_,c.take (k+1),rfl,rfl,_,rfl,?_⟩
     show if (!decide (h ∈ c.take (k+1)))=true then _ else _
     by_cases m2:h ∈ c.take (k+1)
     ·rw [aX4 m2] at tk ⊢
      refine aS ?_
      rw [if_neg (by decide),ba5] at tk
      rw [tk]
     ·rw [aX3 m2] at tk ⊢
      refine b6 ⟨_,rfl,trivial,?_⟩
      rw [if_pos (by decide)] at tk
      rw [tk,fM]; rfl
    ·rw [aX3 m1] at tk ⊢
     refine aS (aS ?_)
     rw [if_neg (by rw [bi0]; decide),ba5] at tk
     rw [tk]
   rintro acc rfl
   rw [bD,bc4]
   refine⟨trivial,?_⟩
   cases e:(aH ls c[k]).filter fun x=>decide (x ∈ L) && !decide (x ∈ c.take (k+1)) with
   | nil=>rw [e] at nx; cases nx
   | cons y z=>
    rw [e] at nx
    have hy:y=c[k+1]'(by omega):=aZ8 nx
    refine⟨_,rfl,_,rfl,_,_,_,rfl,rfl,mP (j:=0) rfl,qR _ _,by rw [bD]; omega,c.length - (k+1),by omega,k+1,some (.sh true (.lst (intz (y :: z)))),?_,by omega,by omega⟩
    have:c.take (k+1+1)=c.take (k+1) ++ [y]:=by rw [bd2 (i:=k+1),hbk,hy]; rfl
    rw [this,fM]; rfl
  ·rw [aX3 hk]
   refine aS ?_
   rw [ba3 (by omega)]
   exact⟨_,rfl,⟨_,_,rfl,rfl,cY _,trivial,fin⟩,fun _ z=>by cases z⟩
theorem aQ3 {ls:List (Int × Int)}{U L:List Int} (h:∀ x ∈ U,x ∈ L) (k:Int):ins ls U k<=ins ls L k:=by
 unfold ins
 rw [<- bk0,<- bk0]
 exact List.countP_mono_left fun x _ hx=>aX4 (h x (bd3 hx))
def dC (L:List Int) (h:Int) (l:Int × Int):Bool:=decide (h ∈ [l.1,l.2]) && (decide (l.1 ∈ L) && decide (l.2 ∈ L))
theorem X6 {L:List Int}{h:Int} (hh:h ∈ L):∀ {ls:List (Int × Int)},(∀ l ∈ ls,l.1 ≠ l.2)->(ls.filter (dC L h)).length=ins ls L h
 | [],_=>rfl
 | l :: r,ne=>by
  have ih:=X6 hh (ls:=r) fun m hm=>ne m (aY2 _ hm)
  have e:aH (l :: r) h=((if l.1=h then [l.2] else []) ++ (if l.2=h then [l.1] else [])) ++ aH r h:=rfl
  have n0:=ne l aY1
  unfold ins at ih ⊢
  rw [e,List.filter_append,ba0,<- ih]
  by_cases a:l.1=h
  ·have b : ¬ l.2=h:=fun z=>n0 (a.trans z.symm)
   have a1:l.1 ∈ L:=by rw [a]; exact hh
   have a2:h ∈ [l.1,l.2]:=by rw [a]; exact aY1
   rw [if_pos a,if_neg b,ba5]
   by_cases c:l.2 ∈ L
   ·rw [List.filter_cons_of_pos (by unfold dC; rw [aX4 a2,aX4 a1,aX4 c]; rfl),List.filter_cons_of_pos (by simpa using c),aZ7]
    show _=1+_
    omega
   ·rw [bj6 (by unfold dC; rw [aX3 c,bh1,bh1]; decide),bj6 (by simpa using c)]
    show _=0+_
    omega
  ·by_cases b:l.2=h
   ·have a1:l.2 ∈ L:=by rw [b]; exact hh
    have a2:h ∈ [l.1,l.2]:=by rw [b]; exact aY2 _ aY1
    rw [if_neg a,if_pos b,List.nil_append]
    by_cases c:l.1 ∈ L
    ·rw [List.filter_cons_of_pos (by unfold dC; rw [aX4 a2,aX4 a1,aX4 c]; rfl),List.filter_cons_of_pos (by simpa using c),aZ7]
     show _=1+_
     omega
    ·rw [bj6 (by unfold dC; rw [aX3 c,bi0,bh1]; decide),bj6 (by simpa using c)]
     show _=0+_
     omega
   ·have a2:h ∉ [l.1,l.2]:=fun z=>by
     simp only [aX9,aY9,bc2] at z
     rcases z with z | z
     ·exact a z.symm
     ·exact b z.symm
    rw [if_neg a,if_neg b,bj6 (by unfold dC; rw [aX3 a2,bi0]; decide)]
    show _=0+_
    omega
def rT:bC:=fun xs Q=>∃ (n:Nat) (ls:List (Int × Int)) (x:PV) (S:List Int),xs = [.lst (aZ ls),x]/\n<=40/\fQ n ls/\cJ x S/\b9 n S=true/\∀ L,(L = [] ↔ i8 ls S)->L.length<=40->Q (.lst (intz L))
def X7:aK:=(aM (b7 2 (aC pH (a7 (a5 1) aA)))
 (aM (b7 3 (qC (.bl true)))
 (aM (lG (aW (a5 3))
  (aM (gW 4 (iO aA))
  (aM (eD (dB (a5 2)) (bR 5)
   (aM (b7 6 (cV (dB (a5 0)) [none,some 5,some 2] (bR 0) (jE (aW (q2 (fY false) (a5 1) (a5 0))) (jE (aW (q2 (fY false) (bW (a5 0) (qC (.int 0))) (a5 2))) (aW (q2 (fY false) (bW (a5 0) (qC (.int 1))) (a5 2))))) (a5 0)))
   (cI (aW (lM (aC dE (a7 (a5 6) aA)) (qC (.int 1)))) (lH 4 (a5 5)) cL)))
  (aM (b7 3 (q2 (jI 2 true) (a5 4) (a5 2)))
  (u8 4 (b7 2 (a5 4)))))))
 (jF 2))))
theorem aQ4:cC X7 ["links","some","left","going","kept","hearth","beside"] rT:=by
 rintro xs Q ⟨n,ls,x,S,rfl,n40,lk,hx,hs,q⟩
 have sl:=gN hs
 have pl:(aZ ls).length=ls.length:=aY0 _
 have lm:=lk.2.1
 have sq:gX x=some (intz S):=hx.seq
 refine⟨_,rfl,_,_,rfl,sq,cY _,trivial,?_⟩
 refine⟨trivial,?_⟩
 refine⟨fun m ρ=>∃ (L:List Int) (g:Bool) (y4 y5 y6:Option Slot),ρ = [some (.sh false (.lst (aZ ls))),some (.sh (flat x) x),some (.sh true (.lst (intz L))),some (.sh true (.bl g)),y4,y5,y6]/\(∀ y ∈ L,y ∈ S)/\L.length<=S.length/\(∀ U,jV ls U->(∀ y ∈ U,y ∈ S)->∀ y ∈ U,y ∈ L)/\(g=false->jV ls L)/\m=2 * L.length+(if g=true then 1 else 0),
  ⟨2 * S.length+1,S,true,none,none,none,rfl,fun y h=>h,aX7 _,fun U _ h=>h,(fun z=>by cases z),rfl⟩,?_⟩
 rintro m ρ ⟨L,g,y4,y5,y6,rfl,sub,ll,most,done,rfl⟩
 refine⟨_,rfl,_,rfl,?_⟩
 cases g with
 | false=>
  refine aS ⟨_,rfl,trivial,q L ⟨fun e U tU us=>?_,fun no=>no L (done rfl) sub⟩ (by omega)⟩
  have:=most U tU us
  rw [e] at this
  exact List.eq_nil_iff_forall_not_mem.mpr fun y hy=>nomatch this y hy
 | true=>
  refine b6 ⟨by decide,rfl,rfl,rfl,?_⟩
  refine⟨_,rfl,intz L,rfl,(fun z=>by cases z),fun i ρ=>∃ y5 y6:Option Slot,ρ = [some (.sh false (.lst (aZ ls))),some (.sh (flat x) x),some (.sh true (.lst (intz L))),some (.sh true (.bl true)),some (.own (.lst (intz ((L.take i).filter fun h=>decide (2<=ins ls L h))))),y5,y6],⟨y5,y6,rfl⟩,?_,?_⟩
  ·rintro i z ρ hz ⟨y5,y6,rfl⟩
   obtain ⟨h,rfl,hh⟩:=g9 hz
   have il:=(aY5.mp hh).1
   have hL:=bb4 hh
   have tk:=iW (p:=fun h=>decide (2<=ins ls L h)) hh
   refine l4 ?_
   refine⟨_,rfl,aZ ls,rfl,(fun z=>by cases z),by rw [pl]; omega,fun j acc=>acc=aZ ((ls.take j).filter (dC L h)),rfl,?_,?_⟩
   ·rintro j w acc hw rfl
    obtain ⟨l,rfl,hl⟩:=vY hw
    have tk2:=iW (p:=dC L h) hl
    refine⟨_,rfl,_,rfl,_,[l.1,l.2],rfl,rfl,_,rfl,?_⟩
    show if decide (h ∈ [l.1,l.2])=true then _ else _
    have no:dC L h l=false->aZ ((ls.take j).filter (dC L h))=aZ ((ls.take (j+1)).filter (dC L h)):=fun e=>by
     rw [e,if_neg (by decide),ba5] at tk2
     rw [tk2]
    by_cases m0:h ∈ [l.1,l.2]
    ·rw [aX4 m0]
     refine b6 ⟨_,rfl,_,_,_,rfl,rfl,rfl,_,rfl,_,L,rfl,rfl,_,rfl,?_⟩
     show if decide (l.1 ∈ L)=true then _ else _
     by_cases m1:l.1 ∈ L
     ·rw [aX4 m1]
      refine b6 ⟨_,rfl,_,_,_,rfl,rfl,rfl,_,rfl,_,L,rfl,rfl,_,rfl,?_⟩
      show if decide (l.2 ∈ L)=true then _ else _
      by_cases m2:l.2 ∈ L
      ·rw [aX4 m2]
       have b:dC L h l=true:=by unfold dC; rw [aX4 m0,aX4 m1,aX4 m2]; rfl
       rw [b,if_pos rfl] at tk2
       refine b6 ⟨_,rfl,trivial,?_⟩
       dsimp only
       rw [tk2]
       unfold aZ
       rw [ba6]; rfl
      ·rw [aX3 m2]
       exact aS (no (by unfold dC; rw [aX3 m2,bh1,bh1]))
     ·rw [aX3 m1]
      exact aS (aS (no (by unfold dC; rw [aX3 m1,bi0,bh1])))
    ·rw [aX3 m0]
     exact aS (aS (no (by unfold dC; rw [aX3 m0]; rfl)))
   rintro acc rfl
   rw [pl,bc4]
   refine⟨trivial,?_⟩
   have bi:=X6 hL (ls:=ls) fun l hl=>by have:=lk.1 l hl; omega
   refine⟨_,rfl,_,_,rfl,rfl,_,_,rfl,rfl,_,rfl,?_⟩
   show if decide (((aZ (ls.filter (dC L h))).length:Int) > 1)=true then _ else _
   rw [O4,bi]
   by_cases t2:2<=ins ls L h
   ·rw [aX4 (by omega)]
    rw [aX4 t2,if_pos rfl] at tk
    refine b6 ⟨_,rfl,_,rfl,qR _ _,by rw [bD]; have:=be5 (fun h=>decide (2<=ins ls L h)) (L.take i); rw [bd1] at this; omega,si h,some (.sh true (.lst (aZ (ls.filter (dC L h))))),?_⟩
    rw [tk,fM]; rfl
   ·rw [aX3 (by omega)]
    rw [aX3 t2,if_neg (by decide),ba5] at tk
    refine aS ⟨si h,some (.sh true (.lst (aZ (ls.filter (dC L h))))),?_⟩
    rw [tk]; rfl
  rintro ρ ⟨y5,y6,rfl⟩
  rw [bD,bc4]
  have kl:=be5 (fun h=>decide (2<=ins ls L h)) L
  refine⟨_,rfl,_,rfl,.inr ⟨_,_,rfl,rfl⟩,E7 2 _ _,trivial,?_⟩
  refine⟨_,rfl,_,rfl,trivial,?_⟩
  show ∃ m',m' < 2 * L.length+1/\_
  have eq:bF 3 (.lst (intz (L.filter fun h=>decide (2<=ins ls L h)))) (.lst (intz L))=decide ((L.filter fun h=>decide (2<=ins ls L h))=L):=E5 2 _ _
  by_cases e:(L.filter fun h=>decide (2<=ins ls L h))=L
  ·refine⟨2 * L.length,by omega,L.filter (fun h=>decide (2<=ins ls L h)),false,some (.sh true (.lst (intz (L.filter fun h=>decide (2<=ins ls L h))))),y5,y6,?_,fun y hy=>sub y (ba4.mp hy).1,by omega,fun U tU us y hy=>?_,fun _=>?_,by rw [e]; rfl⟩
   ·show [_,_,_,some (Slot.sh _ (PV.bl (!bF 3 (.lst (intz (L.filter fun h=>decide (2<=ins ls L h)))) (.lst (intz L))))),_,_,_]=_
    rw [eq,aX4 e]; rfl
   ·rw [e]; exact most U tU us y hy
   ·intro y hy
    rw [e] at hy ⊢
    exact bd3 (List.filter_eq_self.mp e y hy)
  ·have lt:(L.filter fun h=>decide (2<=ins ls L h)).length < L.length:=by
    rcases bb7 (L.filter fun h=>decide (2<=ins ls L h)).length L.length with z | z
    ·exact z
    ·exact absurd (List.filter_sublist.eq_of_length_le z) e
   refine⟨2 * (L.filter fun h=>decide (2<=ins ls L h)).length+1,by omega,L.filter (fun h=>decide (2<=ins ls L h)),true,some (.sh true (.lst (intz (L.filter fun h=>decide (2<=ins ls L h))))),y5,y6,?_,fun y hy=>sub y (ba4.mp hy).1,by omega,fun U tU us y hy=>?_,(fun z=>by cases z),rfl⟩
   ·show [_,_,_,some (Slot.sh _ (PV.bl (!bF 3 (.lst (intz (L.filter fun h=>decide (2<=ins ls L h)))) (.lst (intz L))))),_,_,_]=_
    rw [eq,aX3 e]; rfl
   ·exact ba4.mpr ⟨most U tU us y hy,aX4 (bb5 (tU y hy) (aQ3 (most U tU us) y))⟩
def gC (c:List Int) (k:Nat):Nat:=if k=0 then c.length - 1 else k - 1
def cK (c:List Int) (k:Nat):Int:=c.getD (gC c k) 0
def fC (c:List Int) (k:Nat):Int × Int:=(if c.getD k 0 < cK c k then c.getD k 0 else cK c k,if c.getD k 0 > cK c k then c.getD k 0 else cK c k)
section
variable {ls : List (Int × Int)} {B c : List Int}
theorem fR {k:Nat} (h:k < c.length):c[k]? = some (c.getD k 0):=by rw [aZ1,aX5 h]; rfl
theorem rV (R:fB ls c) {k:Nat} (h:k < c.length):gC c k < c.length:=by unfold gC; split <;> omega
theorem aQ5 (R:fB ls c) {k:Nat} (h:k < c.length):c.getD k 0 ∈ aH ls (cK c k):=by
 have hp:=rV R h
 unfold cK
 by_cases e:k=0
 ·subst e
  obtain ⟨a,b,ha,hb,ab⟩:=R.cl
  rw [List.head?_eq_getElem?,fR h] at ha
  rw [List.getLast?_eq_getElem?,fR (by omega)] at hb
  cases ha
  have:gC c 0=c.length - 1:=rfl
  rw [this]
  rw [aZ8 hb]
  exact ab
 ·have:gC c k=k - 1:=by unfold gC; rw [if_neg e]
  rw [this]
  exact wY R.ch (fR (by omega)) (by rw [show k - 1+1=k by omega]; exact fR h)
theorem aQ6 (f:i7 ls) (m:i6 ls B) (R:l5 ls B c):((List.range c.length).map (fC c)).Perm (ls.filter (cF c)):=by
 have nd:=R.cyc.nd
 have l3:=R.cyc.len
 have inj:∀ {i j:Nat},i < c.length->j < c.length->c.getD i 0=c.getD j 0->i=j:=fun {i j} hi hj e=>(List.getElem?_inj hi nd).mp (by rw [fR hi,fR hj,e])
 refine (List.perm_ext_iff_of_nodup ?_ (W0 (f.ord.filter _))).mpr fun l=>?_
 ·refine bg2.mpr ((List.nodup_range).imp_of_mem fun {i j} hi hj ne e=>ne ?_)
  have hi:=bj2.mp hi
  have hj:=bj2.mp hj
  have e1:(fC c i).1=(fC c j).1:=by rw [e]
  have e2:(fC c i).2=(fC c j).2:=by rw [e]
  unfold fC at e1 e2
  dsimp only at e1 e2
  have cs:(cK c i=cK c j/\c.getD i 0=c.getD j 0) ∨ (cK c i=c.getD j 0/\c.getD i 0=cK c j):=by
   generalize cK c i=p at e1 e2 ⊢
   generalize cK c j=q at e1 e2 ⊢
   generalize c.getD i 0=u at e1 e2 ⊢
   generalize c.getD j 0=v at e1 e2 ⊢
   split at e1 <;> split at e1 <;> split at e2 <;> split at e2 <;> omega
  rcases cs with ⟨_,z⟩ | ⟨z1,z2⟩
  ·exact inj hi hj z
  ·unfold cK at z1 z2
   have w1:=inj (rV R.cyc hi) hj z1
   have w2:=inj hi (rV R.cyc hj) z2
   unfold gC at w1 w2
   split at w1 <;> split at w2 <;> omega
 ·rw [bb9,ba4]
  constructor
  ·rintro ⟨k,hk,rfl⟩
   have hk:=bj2.mp hk
   have ad:=aQ5 R.cyc hk
   have m1:c.getD k 0 ∈ c:=bb4 (fR hk)
   have m2:cK c k ∈ c:=bb4 (fR (rV R.cyc hk))
   rcases L2.k9.mp ad with h | h
   ·have lt:=f.lt _ h
    dsimp only at lt
    have e:fC c k=(cK c k,c.getD k 0):=by unfold fC; rw [if_neg (by omega),if_pos (by omega)]
    rw [e]
    exact⟨h,by unfold cF; rw [aX4 m1,aX4 m2]; rfl⟩
   ·have lt:=f.lt _ h
    dsimp only at lt
    have e:fC c k=(c.getD k 0,cK c k):=by unfold fC; rw [if_pos (by omega),if_neg (by omega)]
    rw [e]
    exact⟨h,by unfold cF; rw [aX4 m1,aX4 m2]; rfl⟩
  ·rintro ⟨h1,h2⟩
   unfold cF at h2
   rw [bb1] at h2
   have m1:l.1 ∈ c:=bd3 h2.1
   have m2:l.2 ∈ c:=bd3 h2.2
   have lt:=f.lt l h1
   have ad:l.2 ∈ aH ls l.1:=L2.k9.mpr (.inl h1)
   obtain ⟨i,hi⟩:=List.getElem?_of_mem m1
   obtain ⟨j,hj⟩:=List.getElem?_of_mem m2
   have il:=(aY5.mp hi).1
   have jl:=(aY5.mp hj).1
   have gi:c.getD i 0=l.1:=by rw [fR il] at hi; exact aZ8 hi
   have gj:c.getD j 0=l.2:=by rw [fR jl] at hj; exact aZ8 hj
   have ne:i ≠ j:=fun z=>by rw [z,gj] at gi; omega
   have mk:∀ k,k < c.length->((cK c k=l.1/\c.getD k 0=l.2) ∨ (cK c k=l.2/\c.getD k 0=l.1))->∃ a,a ∈ List.range c.length/\fC c a=l:=fun k hk h=>by
    refine⟨k,bj2.mpr hk,?_⟩
    unfold fC
    rcases h with ⟨h1,h2⟩ | ⟨h1,h2⟩
    ·rw [h1,h2,if_neg (by omega),if_pos (by omega)]
    ·rw [h1,h2,if_pos (by omega),if_neg (by omega)]
   rcases Nat.lt_or_gt_of_ne ne with ij | ij
   ·rcases x3 m R.cyc R.perm hi hj ij ad with z | ⟨z1,z2⟩
    ·refine mk j jl (.inl ⟨?_,gj⟩)
     unfold cK gC
     rw [if_neg (by omega),show j - 1=i by omega]; exact gi
    ·subst z1
     refine mk 0 (by omega) (.inr ⟨?_,gi⟩)
     unfold cK gC
     rw [if_pos rfl,show c.length - 1=j by omega]; exact gj
   ·rcases x3 m R.cyc R.perm hj hi ij (jD ad) with z | ⟨z1,z2⟩
    ·refine mk i il (.inr ⟨?_,gi⟩)
     unfold cK gC
     rw [if_neg (by omega),show i - 1=j by omega]; exact gj
    ·subst z1
     refine mk 0 (by omega) (.inl ⟨?_,gj⟩)
     unfold cK gC
     rw [if_pos rfl,show c.length - 1=i by omega]; exact gi
end
def oD:bC:=fun xs Q=>∃ (n:Nat) (ls:List (Int × Int)) (S B c:List Int),xs = [.tup (intz c),.lst (aZ ls),.tup (intz S)]/\n<=40/\fQ n ls/\b9 n S=true/\i6 ls B/\(∀ x ∈ B,x ∈ S)/\l5 ls B c/\Q (.bl true)
def X8 (K:PySem.W.Frag):aK:=(aM (gW 4 (iO aA))
 (aM (eD (iQ (aC dE (a7 (a5 0) aA))) (bR 5)
  (lH 4 (iN (a7 (aC pI (a7 (bW (a5 0) (nK (a5 5) (qC (.int 1)))) (a7 (bW (a5 0) (a5 5)) aA))) (a7 (aC nD (a7 (bW (a5 0) (nK (a5 5) (qC (.int 1)))) (a7 (bW (a5 0) (a5 5)) aA))) aA)))))
 (aM (b7 6 (cV (dB (a5 1)) [none,some 0] (bR 0) (jE (aW (q2 (fY false) (bW (a5 0) (qC (.int 0))) (a5 1))) (aW (q2 (fY false) (bW (a5 0) (qC (.int 1))) (a5 1)))) (a5 0)))
 (bB (gV (q2 (jI 2 false) (aC o8 (a7 (a5 4) aA)) (a5 6)) (gV (iS (bW (a5 0) (qC (.int 0))) (aC rG (a7 (a5 0) aA))) (gZ (bW (a5 0) (qC (.int 1))) (bW (a5 0) (uK (qC (.int 1)))))))))))
def X9 (K:PySem.W.Frag):aK:=(aM (cI (iM (kB (aW (kD K "tuple" (a5 0)))) (iM (aW (gZ (aC dE (a7 (a5 0) aA)) (qC (.int 3)))) (aW (uO (aC S7 (a7 (a5 0) aA)) (aC dE (a7 (a5 0) aA)))))) (bB (qC (.bl false))) cL)
 (aM (eD (dB (a5 0)) (bR 3)
  (cI (iM (kB (aW (aC qS (a7 (a5 3) aA)))) (aW (q2 (fY true) (a5 3) (a5 2)))) (bB (qC (.bl false))) cL))
 (X8 K)))
theorem aQ7 {K:PySem.W.Frag}{Q:PV->Prop}{n:Nat}{ls:List (Int × Int)}{S B c:List Int}{y3:Option Slot} (n40:n<=40) (lk:fQ n ls) (cl:c.length<=40) (m:i6 ls B) (R:l5 ls B c) (q:Q (.bl true)) :
  X8 K { nx:=fun _=>Q .non,rt:=Q } [some (.sh true (.tup (intz c))),some (.sh false (.lst (aZ ls))),some (.sh true (.tup (intz S))),y3,none,none,none]:=by
 have l3:=R.cyc.len
 have pl:(aZ ls).length=ls.length:=aY0 _
 have lm:=lk.2.1
 have f:=lk.fit
 refine⟨by decide,rfl,rfl,rfl,?_⟩
 refine⟨_,rfl,_,_,rfl,rfl,_,rfl,by omega,by rw [bD]; omega,fun i ρ=>∃ y5:Option Slot,ρ = [some (.sh true (.tup (intz c))),some (.sh false (.lst (aZ ls))),some (.sh true (.tup (intz S))),y3,some (.own (.lst (aZ ((List.range i).map (fC c))))),y5,none],⟨none,rfl⟩,?_,?_⟩
 ·rintro i z ρ hz ⟨y5,rfl⟩
  obtain ⟨rfl,hi⟩:=jQ hz
  rw [bD] at hi
  have e0:(0:Int)+(i:Int)=(i:Int):=by omega
  rw [e0]
  have i1:i < c.length:=by omega
  have at1:L2.atI (intz c) (i:Int)=some (.int (c.getD i 0)):=m8 (h:=(i:Int)) (by omega) (by omega)
  have at0:L2.atI (intz c) ((i:Int) - 1)=some (.int (cK c i)):=by
   unfold cK gC
   by_cases e:i=0
   ·subst e
    rw [if_pos rfl]
    have:=x4 (c:=c) (k:=c.length - 1) (fR (by omega))
    rw [ba3 (by omega)] at this
    exact this
   ·rw [if_neg e,show (i:Int) - 1=((i - 1:Nat):Int) by omega]
    exact m8 (h:=((i - 1:Nat):Int)) (by omega) (by omega)
  refine⟨_,rfl,_,rfl,_,rfl,_,_,rfl,rfl,_,_,_,rfl,rfl,at0,_,rfl,_,rfl,_,_,_,rfl,rfl,at1,_,_,rfl,?_⟩
  refine⟨_,rfl,_,rfl,_,_,rfl,rfl,_,_,_,rfl,rfl,at0,_,rfl,_,rfl,_,_,_,rfl,rfl,at1,_,_,rfl,by show 2<=1000; decide,rfl,trivial,by rw [O4,aY0,bf2]; omega,?_⟩
  refine⟨si i,?_⟩
  rw [List.range_succ,ba6]
  unfold aZ
  rw [ba6]; rfl
 rintro ρ ⟨y5,rfl⟩
 rw [eC,bj5,bD]
 refine⟨_,rfl,aZ ls,rfl,(fun z=>by cases z),by rw [pl]; omega,fun j acc=>acc=aZ ((ls.take j).filter (cF c)),rfl,?_,?_⟩
 ·rintro j w acc hw rfl
  obtain ⟨l,rfl,hl⟩:=vY hw
  have tk2:=iW (p:=cF c) hl
  have no:cF c l=false->aZ ((ls.take j).filter (cF c))=aZ ((ls.take (j+1)).filter (cF c)):=fun e=>by
   rw [e,if_neg (by decide),ba5] at tk2
   rw [tk2]
  refine⟨_,rfl,_,_,_,rfl,rfl,rfl,_,rfl,_,c,rfl,rfl,_,rfl,?_⟩
  show if decide (l.1 ∈ c)=true then _ else _
  by_cases m1:l.1 ∈ c
  ·rw [aX4 m1]
   refine b6 ⟨_,rfl,_,_,_,rfl,rfl,rfl,_,rfl,_,c,rfl,rfl,_,rfl,?_⟩
   show if decide (l.2 ∈ c)=true then _ else _
   by_cases m2:l.2 ∈ c
   ·rw [aX4 m2]
    have b:cF c l=true:=by unfold cF; rw [aX4 m1,aX4 m2]; rfl
    rw [b,if_pos rfl] at tk2
    refine b6 ⟨_,rfl,trivial,?_⟩
    dsimp only
    rw [tk2]
    unfold aZ
    rw [ba6]; rfl
   ·rw [aX3 m2]
    exact aS (no (by unfold cF; rw [aX3 m2,bh1]))
  ·rw [aX3 m1]
   exact aS (aS (no (by unfold cF; rw [aX3 m1]; rfl)))
 rintro acc rfl
 rw [pl,bc4]
 refine⟨trivial,?_⟩
 have ep:=aQ6 f m R
 refine⟨_,rfl,((List.range c.length).map (fC c)).map two,by rw [l0]; rfl,by rw [aY0,aY0,bf2]; omega,fun r hr=>by obtain ⟨l,_,rfl⟩:=bb9.mp hr; rfl,fun Z pz so=>?_⟩
 obtain ⟨l2,rfl,pp⟩:=w4 pz
 have ndw:(ls.filter (cF c)).Nodup:=W0 (f.ord.filter _)
 have el:l2=ls.filter (cF c):=aO8 (pp.trans ep) (w5 so ((pp.trans ep).nodup_iff.mpr ndw)) (f.ord.filter _)
 subst el
 have h1:=T5 1 ((ls.filter (cF c)).map two) ((ls.filter (cF c)).map two)
 have h2:=aK7 1 ((ls.filter (cF c)).map two) ((ls.filter (cF c)).map two)
 rw [aO7] at h1 h2
 rw [show (((ls.filter (cF c)).map two).map fun r=>PV.tup (intz r))=aZ (ls.filter (cF c)) from (l0 _).symm]
 refine⟨_,rfl,.inr ⟨_,_,rfl,rfl⟩,h1,_,rfl,?_⟩
 show if bF 3 (.lst (aZ (ls.filter (cF c)))) (.lst (aZ (ls.filter (cF c))))=true then _ else _
 rw [show bF 3 (.lst (aZ (ls.filter (cF c)))) (.lst (aZ (ls.filter (cF c))))=_ from h2,aX4 rfl]
 obtain ⟨b,T,hc,hlow⟩:=R.low
 have at0:L2.atI (intz c) 0=some (.int b):=by rw [hc]; exact mP (j:=0) rfl
 refine b6 ⟨_,rfl,_,_,_,rfl,rfl,at0,_,rfl,c,rfl,(fun z=>by rw [z] at l3; simp at l3),fun M m1 m2=>?_⟩
 have eM:b=M:=Int.le_antisymm (hlow M (R.perm.mem_iff.mp m1)) (m2 b (by rw [hc]; exact aY1))
 refine .inl ⟨_,_,rfl,rfl,_,rfl,?_⟩
 show if decide (b=M)=true then _ else _
 rw [aX4 eM]
 have g1:c[1]? = some (c.getD 1 0):=fR (by omega)
 have gl:c[c.length - 1]? = some (c.getD (c.length - 1) 0):=fR (by omega)
 have at1:L2.atI (intz c) 1=some (.int (c.getD 1 0)):=m8 (h:=1) (by decide) (by omega)
 have atl:L2.atI (intz c) (-1)=some (.int (c.getD (c.length - 1) 0)):=by
  have:=x4 gl
  rwa [ba3 (by omega)] at this
 have tn:=R.turn _ _ g1 (by rw [List.getLast?_eq_getElem?]; exact gl)
 refine b6 ⟨_,rfl,_,_,_,rfl,rfl,at1,_,rfl,_,rfl,_,_,_,rfl,rfl,atl,_,_,rfl,rfl,trivial,?_⟩
 show Q (.bl (decide (c.getD 1 0 < c.getD (c.length - 1) 0)))
 rw [aX4 tn]; exact q
theorem aQ8 {K:PySem.W.Frag} (kt:PySem.W.kitOne K (.type "tuple") (.type "tuple")=some true):cC (X9 K) ["found","links","some","hearth","due","k","within"] oD:=by
 rintro xs Q ⟨n,ls,S,B,c,rfl,n40,lk,hs,m,sub,R,q⟩
 have l3:=R.cyc.len
 have cS:∀ x ∈ c,x ∈ S:=fun x hx=>sub x (R.perm.mem_iff.mp hx)
 have cl:c.length<=40:=by
  have:=rP R.cyc.nd cS
  have:=gN hs
  omega
 refine⟨_,rfl,_,_,rfl,kt,_,rfl,aS ⟨_,rfl,_,_,rfl,rfl,_,_,rfl,rfl,_,rfl,?_⟩⟩
 show if decide (((intz c).length:Int) < 3)=true then _ else _
 rw [bD,aX3 (by omega)]
 refine aS ⟨_,rfl,c,rfl,R.cyc.nd,by omega,_,rfl,_,_,rfl,rfl,.inl ⟨_,_,rfl,rfl,_,rfl,?_⟩⟩
 show if (!decide ((c.length:Int)=((intz c).length:Int)))=true then _ else _
 rw [bD,aX4 rfl]
 refine aS ?_
 refine⟨_,rfl,intz c,rfl,(fun z=>nX c),fun i ρ=>∃ y3:Option Slot,ρ = [some (.sh true (.tup (intz c))),some (.sh false (.lst (aZ ls))),some (.sh true (.tup (intz S))),y3,none,none,none],⟨none,?_⟩,?_,?_⟩
 ·show dS _ _=_
  unfold dS
  show [some (Slot.sh (flat (.tup (intz c))) (.tup (intz c))),_,some (Slot.sh (flat (.tup (intz S))) (.tup (intz S))),_,_,_,_]=_
  rw [nX,nX]
  rfl
 ·rintro i z ρ hz ⟨y3,rfl⟩
  obtain ⟨h,rfl,hh⟩:=g9 hz
  refine l4 ?_
  refine⟨_,rfl,h,rfl,_,rfl,aS ⟨_,rfl,_,rfl,_,S,rfl,rfl,_,rfl,?_⟩⟩
  show if (!decide (h ∈ S))=true then _ else _
  rw [aX4 (cS h (bb4 hh))]
  exact aS ⟨si h,rfl⟩
 ·rintro ρ ⟨y3,rfl⟩
  exact aQ7 (K:=K) n40 lk cl m R q
def x5:bC:=P4
theorem aQ9 {n:Nat}{ls:List (Int × Int)}{S:List Int}{m:Nat} (n40:n<=40) (lk:fQ n ls) (hS:b9 n S=true) (en:cE (bT n ls) ls S m):decide (((aY (bT n ls) ls S m).length:Int)=((bT n ls).length:Int))=true ↔ i8 ls (eL n S):=by
 have dl:=gP (n:=n) (ls:=ls)
 have wb:Wb (bT n ls) ls:=⟨by rw [dl]; omega,by have:=lk.2.1; omega,fun l hl=>by rw [dl]; have:=lk.1 l hl; omega⟩
 have g:=aH2 wb en
 rw [aK8 (by rw [dl]; exact hS),ba1]
 rw [dl] at g ⊢
 exact X2 (fun x hx=>nW.mp (fP.mp hx).1) g
def Y0:aK:=(aM (b7 8 (aC (oC fun _=>False) (a7 (aC rN (a7 (a5 3) (a7 (aC m9 (a7 (a5 0) (a7 (qC (.int 2)) aA))) aA))) (a7 (aC pH (a7 (a5 5) aA)) aA))))
 (aM (cI (aW (a5 7)) (bB (E9 (a5 8) (qC .non))) cL)
 (bB (gV (aC oD (a7 (a5 6) (a7 (a5 2) (a7 (a5 5) aA)))) (aC oD (a7 (a5 8) (a7 (a5 2) (a7 (a5 5) aA))))))))
def Y1:aK:=(aM (b7 7 (q2 (jI 2 false) (aC rT (a7 (a5 2) (a7 (a5 5) aA))) (iO aA)))
 (aM (cI (iM (aW (uO (aC (rC fun _=>False) (a7 (a5 3) (a7 (a5 4) aA))) (a5 7))) (aW (uO (E9 (a5 6) (qC .non)) (a5 7)))) (bB (qC (.bl false))) cL)
 Y0))
def Y2:aK:=(aM (b7 1 (aC r6 (a7 (aC m9 (a7 (a5 0) (a7 (qC (.int 0)) aA))) aA)))
 (aM (b7 2 (aC rO (a7 (pR (a5 0) (pQ (qC (.int 3))) pP) (a7 (a5 1) aA))))
 (aM (b7 3 (aC rS (a7 (a5 1) (a7 (a5 2) aA))))
 (aM (b7 4 (aC qZ (a7 (aC m9 (a7 (a5 0) (a7 (qC (.int 1)) aA))) (a7 (a5 1) aA))))
 (aM (b7 5 (aC eW (a7 (cV (iQ (a5 1)) [none,some 4] (bR 0) (aW (q2 (fY true) (a5 0) (a5 1))) (a5 0)) aA)))
 (aM (b7 6 (aC (oC fun _=>False) (a7 (a5 3) (a7 (a5 5) aA))))
 Y1))))))
section
variable {n : Nat} {ls : List (Int × Int)} {S O : List Int} {ns : List Int} {f : PV} {Q : PV → Prop}
def x6 (ls:List (Int × Int)) (O:List Int) (f:PV):Prop:=(f = .non/\i8 ls O) ∨ (¬ i8 ls O/\∃ B c,f = .tup (intz c)/\i6 ls B/\(∀ x ∈ B,x ∈ O)/\l5 ls B c)
theorem aR0 (h:x6 ls O f) {L:List Int} (hL:L = [] ↔ i8 ls O):nG f=decide (L = []):=by
 rcases h with ⟨rfl,z⟩ | ⟨z,B,c,rfl,_⟩
 ·rw [aX4 (hL.mpr z)]; rfl
 ·rw [aX3 (fun w=>z (hL.mp w))]; rfl
theorem aR1 (n40:n<=40) (lk:fQ n ls) (hO:b9 n O=true) (hf:x6 ls O f) {L:List Int} (hL:L = [] ↔ i8 ls O) (q:Q (.bl true)) {y4:Option Slot}{g:Bool} :
  Y0 { nx:=fun _=>Q .non,rt:=Q } [some (.sh true (.scr ns)),si (n:Nat),some (.sh true (.lst (aZ ls))),some (.sh true (bJ (bT n ls) ls)),y4,some (.sh true (.tup (intz O))),some (.sh g f),some (.sh true (.bl (decide (L = [])))),none]:=by
 have dl:=gP (n:=n) (ls:=ls)
 have ol:=gN hO
 refine⟨_,rfl,_,rfl,_,ns,2,rfl,.inl rfl,by decide,bT n ls,ls,_,rfl,by rw [dl]; exact n40,fun ws' wl=>?_⟩
 rw [dl] at wl
 refine⟨_,rfl,_,_,rfl,rfl,cY _,ws',ls,_,O,rfl,by rw [wl]; exact n40,by rw [wl]; exact lk,.inr rfl,by omega,fun _=>⟨fun no=>?_,fun no B c mB sub R=>?_⟩,fun z=>by rw [wl,hO] at z; cases z⟩
 ·refine⟨trivial,_,rfl,_,rfl,?_⟩
  rw [aX4 (hL.mpr no)]
  exact b6 ⟨_,rfl,rfl,trivial,q⟩
 ·refine⟨trivial,_,rfl,_,rfl,?_⟩
  rw [aX3 (fun w=>no (hL.mp w))]
  refine aS ?_
  rcases hf with ⟨_,z⟩ | ⟨_,B1,c1,rfl,mB1,sub1,R1⟩
  ·exact absurd z no
  exact⟨_,rfl,_,rfl,_,rfl,n,ls,O,B1,c1,rfl,n40,lk,hO,mB1,sub1,R1,_,rfl,b6 ⟨_,rfl,_,rfl,_,rfl,n,ls,O,B,c,rfl,n40,lk,hO,mB,sub,R,trivial,q⟩⟩
theorem Y3 (n40:n<=40) (lk:fQ n ls) (hS:b9 n S=true) (eO:O=eL n S) (hf:x6 ls O f) (q:Q (.bl true)) {g:Bool} :
  Y1 { nx:=fun _=>Q .non,rt:=Q } [some (.sh true (.scr ns)),si (n:Nat),some (.sh true (.lst (aZ ls))),some (.sh true (bJ (bT n ls) ls)),some (.sh true (.tup (intz S))),some (.sh true (.tup (intz O))),some (.sh g f),none,none]:=by
 have dl:=gP (n:=n) (ls:=ls)
 have hO:b9 n O=true:=by rw [eO]; exact Q9 n S
 have hSd:b9 (bT n ls).length S=true:=by rw [dl]; exact hS
 have sl:=gN hS
 have wb:Wb (bT n ls) ls:=⟨by rw [dl]; omega,by have:=lk.2.1; omega,fun l hl=>by rw [dl]; have:=lk.1 l hl; omega⟩
 refine⟨_,rfl,_,rfl,n,ls,_,O,rfl,n40,lk,.inl rfl,hO,fun L hL ll=>⟨by decide,rfl,.inr ⟨_,_,rfl,rfl⟩,E7 2 L [],trivial,?_⟩⟩
 have eb:bF 3 (.lst (intz L)) (.lst [])=decide (L = []):=E5 2 L []
 refine⟨_,rfl,_,rfl,bT n ls,ls,_,S,rfl,wb,.inl rfl,by omega,fun _ m en=>?_,fun z=>by rw [hSd] at z; cases z⟩
 refine⟨_,rfl,.inr ⟨_,_,rfl,rfl,_,rfl,?_⟩⟩
 have la:decide (((aY (bT n ls) ls S m).length:Int)=((bT n ls).length:Int))=decide (L = []):=by
  have:=aQ9 n40 lk hS en
  rw [<- eO] at this
  rw [be8,this,ba1]; exact hL.symm
 show if (!decide (decide (((aY (bT n ls) ls S m).length:Int)=((bT n ls).length:Int))=bF 3 (.lst (intz L)) (.lst [])))=true then _ else _
 rw [aX4 (la.trans eb.symm)]
 refine aS ?_
 refine⟨_,rfl,rfl,_,rfl,.inr ⟨_,_,rfl,rfl,_,rfl,?_⟩⟩
 show if (!decide (nG f=bF 3 (.lst (intz L)) (.lst [])))=true then _ else _
 rw [aX4 ((aR0 hf hL).trans eb.symm)]
 refine aS ?_
 have fin:=aR1 (ns:=ns) (g:=g) (y4:=some (.sh true (.tup (intz S)))) n40 lk hO hf hL q
 rw [<- eb] at fin
 exact fin
end
theorem aR2:cC Y2 ["script","many","links","web","seeds","rest","found","none","other"] x5:=by
 rintro xs Q ⟨ns,rfl,hl,q⟩
 refine⟨_,rfl,_,ns,0,rfl,.inl rfl,by decide,_,rfl,fun M m0 m1=>⟨trivial,?_⟩⟩
 obtain ⟨n,rfl⟩:∃ n:Nat,M=n:=⟨M.toNat,by omega⟩
 have n40:n<=40:=by omega
 have hc:gA (uL (.scr ns) (eF (intz ns) (some 3) none)) (ns.drop 3):=.inr (by show PV.lst (eF (intz ns) (some 3) none)=_; rw [aD5 ns (by decide)]; rfl)
 refine⟨_,rfl,_,rfl,_,rfl,cY _,_,rfl,_,_,n,rfl,hc,by rw [bf6]; omega,n40,fun ls lk=>⟨trivial,?_⟩⟩
 refine⟨_,rfl,_,rfl,n,ls,rfl,n40,lk,trivial,?_⟩
 refine⟨_,rfl,_,ns,1,rfl,.inl rfl,by decide,_,rfl,_,n,rfl,by omega,by omega,fun S hS=>⟨trivial,?_⟩⟩
 have hS:b9 n S=true:=hS
 refine⟨_,rfl,(n:Int),rfl,by omega,by omega,by rw [eC]; omega,fun i acc=>acc=intz (((rng n).take i).filter fun z=>!decide (z ∈ S)),rfl,?_,?_⟩
 ·rintro i y acc hy rfl
  obtain ⟨rfl,hi⟩:=jQ hy
  have hi':i < n:=by omega
  have tk:=iW (p:=fun z=>!decide (z ∈ S)) (N0 hi')
  have e0:(0:Int)+(i:Int)=(i:Int):=by omega
  rw [e0]
  refine⟨_,rfl,_,rfl,(i:Int),S,rfl,rfl,_,rfl,?_⟩
  show if (!decide ((i:Int) ∈ S))=true then _ else _
  by_cases h2:(i:Int) ∈ S
  ·rw [aX4 h2] at tk ⊢
   rw [if_neg (by decide),ba5] at tk
   refine aS ?_
   show _=_
   rw [tk]
  ·rw [aX3 h2] at tk ⊢
   rw [if_pos (by decide)] at tk
   refine b6 ⟨_,rfl,qR _ _,?_⟩
   show _=_
   rw [tk,fM]; rfl
 rintro acc rfl
 rw [eC,ba3 (by rw [qN]; omega)]
 refine⟨⟨_,_,rfl,rfl,cY _,trivial,?_⟩,fun ns z=>by cases z⟩
 have dl:=gP (n:=n) (ls:=ls)
 have hO:b9 n (eL n S)=true:=Q9 n S
 have ol:=gN hO
 refine⟨_,rfl,_,rfl,bT n ls,ls,_,eL n S,rfl,by rw [dl]; exact n40,by rw [dl]; exact lk,.inl rfl,by omega,fun _=>⟨fun no=>⟨trivial,?_⟩,fun no B c mB sub R=>⟨trivial,?_⟩⟩,fun z=>by rw [dl,hO] at z; cases z⟩
 ·exact Y3 n40 lk hS rfl (.inl ⟨rfl,no⟩) q
 ·exact Y3 n40 lk hS rfl (.inr ⟨no,B,c,rfl,mB,sub,R⟩) q
end Core
namespace K_k77
open PySem PySem.W L2 PP Core
theorem _root_.L2.FnScope.au {N P:List Str}{s:Scope} (a:s.kind=.function:=by rfl) (b:s.isCoroutine=false:=by rfl) (c:s.isGenerator=false:=by rfl) (d:N.Nodup:=by decide +kernel) (e:N.take P.length=P:=by rfl) (f:∀ x∈P,s.names.lookup x=some .local∨s.names.lookup x=some .cell:=by decide +kernel) (g:∀ y∈s.names,y.2≠.free:=by decide +kernel):FnScope N P s:=⟨a,b,c,d,e,f,g⟩
def aX (i:Nat):Stmt:=PySem.Challenge.pw_kindleweb_k77_whole_rounds_left.main.body.getD i (.Pass ⟨0,0,0,0⟩)
structure FK (K:Frag) (n:Str) (i:Nat) (f:Addr) (d:FuncData):Prop where
 a:nsIn K mainGlobals n=some (some (.ref f))
 F:eR K n n (aX i) f d
structure FM (K:Frag) (mg:Str->Option Value) (n:Str) (i:Nat) (f:Addr) (d:FuncData):Prop where
 F:eR K n n (aX i) f d
 m:mg n=some (.ref f)
theorem FK.M {K:Frag}{mg:Str->Option Value}{n:Str}{i:Nat}{f:Addr}{d:FuncData}{h:Heap} (z:FK K n i f d) (X:K.In h) (G:h.Ns mainGlobals mg):FM K mg n i f d:=⟨z.F,mg_of X G z.a⟩
abbrev Hb (x:Str) (ps:List Str) (i:Nat):Prop:=∀ (kV doc pm:Value) (an:Option Addr) (cdv ct:Value) (us:List Value),us.length=ps.length->bindArgs (fnOf x x (iI (aX i)) (dP (aX i)) (aR (aX i)) .none kV doc pm an cdv ct) ⟨us,[]⟩=pure (ps.zip us)
theorem rW {A:Around}{k:Nat} (hr:bZ k A):A.units+3 < cLine:=by have:=hr.units; omega
section
variable {P : Program} {w : World} {K : Frag} {mg : Str → Option Value} {base : Heap} {f : Addr} {fd : FuncData} {k i : Nat} {x : Str} {ps N : List Str}
theorem Df.au {p:bC} (F:FM K mg x i f fd) (S:FnScope N ps (aR (aX i))) (body:∀ (cdv:Value) (A:Around) (outer:List Env) (s:Shared) (H:Hp) (E:XK),bZ k (A.deeper (PyProof.Rows.envOfC x (aR (aX i)) s.heap.objs.size f cdv))->∃ t,eG (cU dJ P w K mg base N x (aR (aX i)) f cdv A outer s H E).nox (dP (aX i)) t/\∀ xs Q,p xs Q->t { nx:=fun _=>Q .non,rt:=Q } (dS N xs)) (hb:Hb x ps i:=by intro _ _ _ _ _ _ us hl; first | (obtain ⟨_,rfl⟩:=qY hl; rfl) | (obtain ⟨_,_,rfl⟩:=wL hl; rfl) | (obtain ⟨_,_,_,rfl⟩:=wM hl; rfl) | (obtain ⟨_,_,_,_,rfl⟩:=S3 hl; rfl) | (obtain ⟨_,_,_,_,_,rfl⟩:=us5 hl; rfl)) (len:∀ xs Q,p xs Q->xs.length=ps.length:=by intro xs Q h; repeat (first | (obtain ⟨rfl,_⟩:=h; rfl) | (obtain ⟨_,h⟩:=h))):Df P w K mg base (k+1) x ps p:=
 Df.of F.F F.m S hb len body
theorem bO.au {p:dG} (F:FM K mg x i f fd) (S:FnScope N ps (aR (aX i))) (t:(Str->Prop)->aK) (rd:∀ Ep xs Q,p Ep xs Q->t Ep { nx:=fun _=>Q .non,rt:=Q } (dS N xs)) (body:∀ (cdv:Value) (A:Around) (outer:List Env) (s:Shared) (H:Hp) (E:XK) (Ep:Str->Prop),bZ k (A.deeper (PyProof.Rows.envOfC x (aR (aX i)) s.heap.objs.size f cdv))->m5 (cU (dY P w) P w K mg base N x (aR (aX i)) f cdv A outer s H E) (EX K H Ep)->eG (cU (dY P w) P w K mg base N x (aR (aX i)) f cdv A outer s H E) (dP (aX i)) (t Ep)) (hb:Hb x ps i:=by intro _ _ _ _ _ _ us hl; first | (obtain ⟨_,rfl⟩:=qY hl; rfl) | (obtain ⟨_,_,rfl⟩:=wL hl; rfl) | (obtain ⟨_,_,_,rfl⟩:=wM hl; rfl) | (obtain ⟨_,_,_,_,rfl⟩:=S3 hl; rfl) | (obtain ⟨_,_,_,_,_,rfl⟩:=us5 hl; rfl)) (len:∀ Ep xs Q,p Ep xs Q->xs.length=ps.length:=by intro Ep xs Q h; repeat (first | (obtain ⟨rfl,_⟩:=h; rfl) | (obtain ⟨_,h⟩:=h))):bO P w K mg base (k+1) x ps p:=
 bO.of F.F F.m S hb t len rd body
end
section
variable {P : Program} {w : World} {K : Frag} {mg : Str → Option Value} {base : Heap} {f : Addr} {fd : FuncData}
abbrev Y4:Stmt:=aX 11
theorem rX:FnScope ["web","around","one","other"] ["web"] (aR Y4):=.au
theorem aR3 (F:eR K "near_lists" "near_lists" Y4 f fd):cT P w K mg base dJ 1 f fd ["web"] O8:=by
 refine F.ok rX (fun vs H Q E h=>?_) (fun cdv A outer s H vs Q E hr h=>?_)
 ·obtain ⟨v,ws,ls,rfl,_⟩:=h
  rfl
 obtain ⟨v,ws,ls,rfl,W,hn,hm,hin,q⟩:=h
 refine⟨_,oF (am9 (i:=1) (N:=["want"]) (fr:=[none]) rfl (dD.of rfl rfl) (xO (mQ sX (pv 0) rZ (fun _ _=>rfl)))
   ⟨fun _ _ _ _=>iD (i:=0) (ba8 _ _) rfl (Or.inl rfl) (.inr rfl),fun _ _ _ _=>zR,fun _ _ _ _=>yF gE⟩ rX.nd rfl rfl rfl)
  (oF (xT PassesOwn.never rfl (xO (mQ sX (pv 0) rZ (fun _ _=>rfl))) (sF (n:=2) rfl (l7 (iD (i:=2) rX.nd rfl (Or.inl rfl) (.inr rfl)) (l7 (iD (i:=3) rX.nd rfl (Or.inl rfl) (.inr rfl)) sE)) )
   (oF (mG (sZ PySem.F.plainAttrs_list PySem.F.slot_list_append PySem.F.type_list_append oQ (mQ sW (pv 1) (pv 2) (fun _ _=>rfl)) (fF (pv 3) gE)))
   (sB (mG (sZ PySem.F.plainAttrs_list PySem.F.slot_list_append PySem.F.type_list_append oQ (mQ sW (pv 1) (pv 3) (fun _ _=>rfl)) (fF (pv 2) gE))))))
  (sB (sD (pv 1)))),?_⟩
 obtain ⟨a,p,q',ys,rfl,ha,hp,hq,hL⟩:=W.at_
 have lw:(ws.map V.int).length=ws.length:=aY0 _
 refine⟨_,rfl,a,_,_,_,rfl,rfl,aG.of ha,rfl,p,rfl,⟨_,aG.of hp⟩,an2 (an1 (aG.of hp)) (fun i acc H'=>∃ bs:List Addr,acc=bs.map V.ref/\bs.length=i/\bs.Nodup/\∀ b ∈ bs,H b=none/\H' b=some (.lst [])) (by rw [lw]; exact bf3 (tF hn))
  (fun D hD=>⟨[],rfl,rfl,List.nodup_nil,fun _ z=>nomatch z⟩) (fun i x acc D H' hx c hPv=>?_) (fun D acc H' hD sm hDa hlen hPv=>?_)⟩
 ·obtain ⟨bs,rfl,hbl,nd,hb⟩:=hPv
  refine⟨wk0 (n:=none),ao2 ⟨bc6 _,fun r hr'=>?_⟩⟩
  have hrD:r ≠ D:=fun z=>by rw [z,c.acc] at hr'; cases hr'
  have hrH:H r=none:=c.same.free hr'
  refine c.yes (bQ hr' _) ⟨bs ++ [r],by simp,by simp [hbl],?_,fun b hm=>?_⟩
  ·refine bi2.mpr ⟨nd,ba8 _ _,fun b hb1 b' hb2 e=>?_⟩
   rw [aY3.mp hb2] at e
   rw [e] at hb1
   rw [(hb r hb1).2] at hr'; cases hr'
  ·rcases bb6.mp hm with hm | hm
   ·have hbD:b ≠ D:=fun z=>by
     rw [z] at hm
     have:=(hb D hm).2
     rw [c.acc] at this
     have:bs.map V.ref = []:=by injection this with e1; injection e1
     have:bs = []:=List.map_eq_nil_iff.mp this
     rw [this] at hm; simp at hm
    refine⟨(hb b hm).1,?_⟩
    rw [aV hbD,aV (cG (hb b hm).2 hr')]
    exact (hb b hm).2
   ·rw [aY3.mp hm]
    exact⟨hrH,by rw [aV hrD,bK]⟩
 ·obtain ⟨bs,rfl,hbl,nd,hb⟩:=hPv
  rw [lw] at hbl
  have R0:iK H H' D bs (fun k=>aH (ls.take 0) k):=by
   refine⟨hD,fun b hm=>⟨(hb b hm).1,fun z=>?_⟩,nd,hDa,fun k b hk=>(hb b (bb4 hk)).2,sm⟩
   rw [z] at hm
   have:=(hb D hm).2
   rw [hDa] at this
   have:bs.map V.ref = []:=by injection this with e1; injection e1
   have:bs = []:=List.map_eq_nil_iff.mp this
   rw [this] at hm; simp at hm
  have lL:=hL.length
  refine⟨_,rfl,a,_,_,_,rfl,rfl,aG.of (sm _ _ ha),rfl,q',rfl,⟨_,aG.of (sm _ _ hq)⟩,ae1 (K:=K) (a:=q') (xs:=ys) (fun i σ H2=>∃ x y:Option V,σ = [some (.ref a),some (.ref D),x,y]/\iK H H2 D bs (fun k=>aH (ls.take i) k))
   ⟨none,none,rfl,R0⟩ (fun i σ H2 _ ⟨_,_,_,R⟩=>aG.of (R.same _ _ hq)) ?_ ?_⟩
  ·rintro i y σ H2 hi ⟨x1,x2,rfl,R⟩
   obtain ⟨l,b,hl,rfl,hbt⟩:=hL.get hi
   have hlm:l ∈ ls:=bb4 hl
   obtain ⟨⟨h1,h2⟩,h3,h4⟩:=hin l hlm
   have k1:l.1.toNat < bs.length:=by omega
   have k2:l.2.toNat < bs.length:=by omega
   have e1:bs[l.1.toNat]? = some (bs[l.1.toNat]):=aX5 k1
   have e2:bs[l.2.toNat]? = some (bs[l.2.toNat]):=aX5 k2
   refine⟨b,_,rfl,aG.of (R.same _ _ hbt),rfl,_,_,rfl,_,_,rfl,rfl,?_⟩
   refine⟨_,rfl,_,rfl,D,_,_,.ref bs[l.1.toNat],rfl,rfl,aJ.of R.row,p9 h1 (by rw [aZ3,e1]; rfl),tT (aJ.of (R.rows _ _ e1)),_,rfl,_,_,_,rfl,rfl,R.rows _ _ e1,?_,?_⟩
   ·rw [aY0]
    have:=mW (ls.take i) (l.1.toNat:Nat)
    rw [bd1] at this
    exact jC (by omega)
   ·have R1:=R.app e1 l.2
    refine⟨_,rfl,_,rfl,D,_,_,.ref bs[l.2.toNat],rfl,rfl,aJ.of R1.row,p9 h3 (by rw [aZ3,e2]; rfl),tT (aJ.of (R1.rows _ _ e2)),_,rfl,_,_,_,rfl,rfl,R1.rows _ _ e2,?_,?_⟩
    ·rw [aY0]
     have:=mW (ls.take i) (l.2.toNat:Nat)
     rw [bd1] at this
     split
     ·rw [ba0,bk8]; exact jC (by omega)
     ·exact jC (by omega)
    ·have R2:=R1.app e2 l.1
     refine⟨_,_,rfl,R2.congr fun k hk=>?_⟩
     rw [ao1 hl]
     have c1:(k=l.1.toNat) ↔ l.1=(k:Int):=by omega
     have c2:(k=l.2.toNat) ↔ l.2=(k:Int):=by omega
     by_cases d1:k=l.1.toNat
     ·by_cases d2:k=l.2.toNat
      ·rw [if_pos d2,if_pos d1,if_pos (c1.mp d1),if_pos (c2.mp d2)]; simp
      ·rw [if_neg d2,if_pos d1,if_pos (c1.mp d1),if_neg (fun z=>d2 (c2.mpr z))]; simp
     ·by_cases d2:k=l.2.toNat
      ·rw [if_pos d2,if_neg d1,if_neg (fun z=>d1 (c1.mpr z)),if_pos (c2.mp d2)]; simp
      ·rw [if_neg d2,if_neg d1,if_neg (fun z=>d1 (c1.mpr z)),if_neg (fun z=>d2 (c2.mpr z))]; simp
  ·
   rintro σ H2 ⟨x1,x2,rfl,R⟩
   refine⟨_,rfl,q D bs H2 hbl ?_⟩
   rw [lL,bc4] at R
   exact R
theorem Y5:FnScope ["many","link","one","other"] ["many","link"] (aR (aX 8)):=.au
theorem aR4 (B:Bt mg) (F:FM K mg "lesser_first" 8 f fd)  : Df P w K mg base 1 "lesser_first" ["many","link"] rK:=
 Df.au F Y5 (fun cdv A outer s H E hr=>by
  have nd:=Y5.nd
  exact⟨(V3),(aO (bA (i:=2) nd (U7 B rfl (a8 (qv 1) aB)))
   (aO (bA (i:=3) nd (aM6 B rfl (a8 (qv 1) aB)))
   (aO (cP (gL (kM (jM (qv 2) aN) (lP (av0 (qv 3) (qv 0))))) (aQ lS) cX)
   (aO (cP (kK (qv 2) (qv 3)) (aQ lS) cX)
   (aQ (bG (kO (a8 (qv 2) (a8 (qv 3) aB))))))))),aN8⟩)
theorem aR5:FnScope ["things"] ["things"] (aR (aX 9)):=.au
theorem O9 (B:Bt mg) (F:FM K mg "rises" 9 f fd)  : Df P w K mg base 1 "rises" ["things"] mD:=
 Df.au F aR5 (fun cdv A outer s H E hr=>by
  have hu:=jA hr
  exact⟨(wV),(aQ (bG (G2 B rfl (a8 (aF6 (N:=["ahead","behind"]) (fr:=[none,none]) (aN3 B (qv 0) (v5 (qv 0) (v4 aN) v3)) (fun _ _ _ _=>(aM9 hu (qv 0) (qv 1)))) aB)))),aN6⟩)
theorem aR6:FnScope ["web"] ["web"] (aR (aX 10)):=.au
theorem aR7 (B:Bt mg) (F:FM K mg "hearths_in" 10 f fd)  : Df P w K mg base 1 "hearths_in" ["web"] jR:=
 Df.au F aR6 (fun cdv A outer s H E hr=>by
  exact⟨(N1),(aQ (bG (dX B (a8 (bX (qv 0) aN) aB)))),aB3⟩)
theorem Y6:FnScope ["hearths","inside","hearth"] ["hearths"] (aR (aX 15)):=.au
theorem aR8 (B:Bt mg) (F:FM K mg "marked" 15 f fd)  : Df P w K mg base 1 "marked" ["hearths"] gM:=
 Df.au F Y6 (fun cdv A outer s H E hr=>by
  have nd:=Y6.nd
  have hu:=jA hr
  exact⟨(N8),(aO (jO (i:=1) nd F7)
   (aO (hB 2 nd (dW (qv 0))
    (aQ (F8 hu (i:=1) (qv 2) kG)))
   (aQ (lT 1)))),aB9⟩)
theorem aR9:FnScope ["hearths","inside"] ["hearths","inside"] (aR (aX 16)):=.au
theorem aS0 (B:Bt mg) (F:FM K mg "count_inside" 16 f fd)  : Df P w K mg base 1 "count_inside" ["hearths","inside"] m7:=
 Df.au F aR9 (fun cdv A outer s H E hr=>by
  have hu:=jA hr
  exact⟨(N9),(aQ (bG (dX B (a8 (kS (N:=["hearth","inside"]) (fr:=[none,some 1]) (dW (qv 0)) (fun _ _ _ _=>(uS hu (qv 0) (qv 1))) (fun _ _ _ _=>(qv 0))) aB)))),aC0⟩)
theorem aS1:FnScope ["script","k"] ["script","k"] (aR (aX 37)):=.au
theorem aS2 (B:Bt mg) (F:FM K mg "_law_cell_at" 37 f fd)  : Df P w K mg base 1 "_law_cell_at" ["script","k"] m9:=
 Df.au F aS1 (fun cdv A outer s H E hr=>by
  exact⟨(O3),(aO (cP (jM (qv 1) (dX B (a8 (qv 0) aB))) (aQ (bG (bX (qv 0) (qv 1)))) cX)
   (aQ (bG aN))),aC4⟩)
theorem aS3:FnScope ["found"] ["found"] (aR (aX 38)):=.au
theorem aS4 (B:Bt mg) (F:FM K mg "_law_whole" 38 f fd)  : Df P w K mg base 1 "_law_whole" ["found"] qS:=
 Df.au F aS3 (fun cdv A outer s H E hr=>by
  exact⟨(O5 K),(aQ (bG (kN (aw1 B (qv 0)) (lR (av3 (aw2 B (qv 0))))))),aC5 (w6 K).ii (w6 K).ib⟩)
theorem Y7:FnScope ["cell","k","turn"] ["cell","k"] (aR (aX 39)):=.au
theorem aS5 (B:Bt mg) (F:FM K mg "_law_stir" 39 f fd)  : Df P w K mg base 1 "_law_stir" ["cell","k"] jU:=
 Df.au F Y7 (fun cdv A outer s H E hr=>by
  have nd:=Y7.nd
  exact⟨(S4),(aO (bA (i:=2) nd (dN (uQ (kI (kI (dN (qv 0) aN) (uQ (qv 1) (qv 1))) aN) aN) aN))
   (aQ (bG (jK (dN (uQ (qv 2) (qv 2)) aN) aN)))),aJ4⟩)
theorem aS6:FnScope ["cell"] ["cell"] (aR (aX 41)):=.au
theorem aS7 (B:Bt mg) (F:FM K mg "_law_many" 41 f fd)  : Df P w K mg base 1 "_law_many" ["cell"] r6:=
 Df.au F aS6 (fun cdv A outer s H E hr=>by
  exact⟨(S8),(aO (cP (kK (dN (jK (qv 0) aN) aN) aN) (aQ (bG (dN (jK (qv 0) aN) aN))) cX)
   (aQ (bG (dN (qv 0) aN)))),aJ9⟩)
theorem Y8:FnScope ["links","some","left","going","kept","hearth","beside"] ["links","some"] (aR (aX 43)):=.au
theorem aS8 (B:Bt mg) (F:FM K mg "_law_core" 43 f fd)  : Df P w K mg base 1 "_law_core" ["links","some"] rT:=
 Df.au F Y8 (fun cdv A outer s H E hr=>by
  have nd:=Y8.nd
  have hu3:=rW hr
  exact⟨(X7),(aO (bA (i:=2) nd (G1 B (a8 (qv 1) aB)))
   (aO (bA (i:=3) nd kG)
   (aO (pS PassesOwn.never (kL (qv 3))
    (aO (jO (i:=4) nd (kQ aB))
    (aO (hB 5 nd (dW (qv 2))
     (aO (v8 (i:=6) nd (N:=["pair","hearth","left"]) (fr:=[none,some 5,some 2]) (dW (qv 0)) (fun _ _ _ _=>(gL (lQ (lU (qv 1) (qv 0)) (lQ (lU (bX (qv 0) aN) (qv 2)) (nN (lU (bX (qv 0) aN) (qv 2))))))) (fun _ _ _ _=>(qv 0)))
     (aQ (cP (lO (dX B (a8 (qv 6) aB)) aN) (aQ (pT 4 (qv 5))) cX))))
    (aO (bA (i:=3) nd (aw6 hu3 (qv 4) (qv 2)))
    (aQ (av5 4 (bA (i:=2) nd (qv 4))))))))
   (aQ (lT 2))))),aQ4⟩)
theorem Y9:FnScope ["wants","links","want","pairs"] ["wants","links"] (aR (aX 7)):=.au
theorem aS9 (B:Bt mg) (F:FM K mg "made_web" 7 f fd) (d_rises:Df P w K mg base 1 "rises" ["things"] mD) (d_lesser_first:Df P w K mg base 1 "lesser_first" ["many","link"] rK) {u_MOST_HEARTHS:Nat} (m_MOST_HEARTHS:mg "MOST_HEARTHS" = some (.int 40 u_MOST_HEARTHS)) {u_MOST_WANTED:Nat} (m_MOST_WANTED:mg "MOST_WANTED" = some (.int 60 u_MOST_WANTED)):Df P w K mg base 2 "made_web" ["wants","links"] rL:=
 Df.au F Y9 (fun cdv A outer s H E hr=>by
  have nd:=Y9.nd
  exact⟨(V4),(aO (cP (lO (dX B (a8 (qv 0) aB)) (wE rfl m_MOST_HEARTHS)) (aQ lS) cX)
   (aO (hB 2 nd (dW (qv 0))
    (aQ (cP (gL (kM (jM (qv 2) aN) (lP (lO (qv 2) (wE rfl m_MOST_WANTED))))) (aQ lS) cX)))
   (aO (bA (i:=3) nd (wP B (a8 (pU (N:=["link","wants"]) (fr:=[none,some 0]) (dW (qv 1)) (fun _ _ _ _=>(b8 d_lesser_first hr (a8 (dX B (a8 (qv 1) aB)) (a8 (qv 0) aB))))) aB)))
   (aO (cP (nO (kL (b8 d_rises hr (a8 (qv 3) aB)))) (aQ lS) cX)
   (aQ (bG (kO (a8 (fL B (a8 (qv 0) aB)) (a8 (fL B (a8 (qv 3) aB)) aB))))))))),aN9⟩)
theorem aT0:FnScope ["web","number"] ["web","number"] (aR (aX 12)):=.au
theorem aT1 (B:Bt mg) (F:FM K mg "is_hearth" 12 f fd) (d_hearths_in:Df P w K mg base 1 "hearths_in" ["web"] jR):Df P w K mg base 2 "is_hearth" ["web","number"] nY:=
 Df.au F aT0 (fun cdv A outer s H E hr=>by
  exact⟨(N3),(aQ (bG (kN (F4 (qv 1) aN) (lR (F3 (qv 1) (b8 d_hearths_in hr (a8 (qv 0) aB))))))),aB4⟩)
theorem aT2:FnScope ["hearths","inside"] ["hearths","inside"] (aR (aX 17)):=.au
theorem aT3 (B:Bt mg) (F:FM K mg "count_outside" 17 f fd) (d_count_inside:Df P w K mg base 1 "count_inside" ["hearths","inside"] m7):Df P w K mg base 2 "count_outside" ["hearths","inside"] qV:=
 Df.au F aT2 (fun cdv A outer s H E hr=>by
  exact⟨(Q0),(aQ (bG (nM (dX B (a8 (qv 0) aB)) (b8 d_count_inside hr (a8 (qv 0) (a8 (qv 1) aB)))))),aG4⟩)
theorem Z0:FnScope ["hearths","some","gone"] ["hearths","some"] (aR (aX 18)):=.au
theorem aT4 (B:Bt mg) (F:FM K mg "without" 18 f fd) (d_marked:Df P w K mg base 1 "marked" ["hearths"] gM):Df P w K mg base 2 "without" ["hearths","some"] qW:=
 Df.au F Z0 (fun cdv A outer s H E hr=>by
  have nd:=Z0.nd
  have hu:=jA hr
  exact⟨(Q2),(aO (bA (i:=2) nd (b8 d_marked hr (a8 (qv 1) aB)))
   (aQ (bG (fL B (a8 (kS (N:=["hearth","gone"]) (fr:=[none,some 2]) (dW (qv 0)) (fun _ _ _ _=>(av1 hu (qv 0) (qv 1))) (fun _ _ _ _=>(qv 0))) aB))))),aG5⟩)
theorem aT5:FnScope ["web","around","burning","hearth"] ["web","around","burning","hearth"] (aR (aX 22)):=.au
theorem aT6 (B:Bt mg) (F:FM K mg "can_kindle" 22 f fd) (d_count_inside:Df P w K mg base 1 "count_inside" ["hearths","inside"] m7):Df P w K mg base 2 "can_kindle" ["web","around","burning","hearth"] qQ:=
 Df.au F aT5 (fun cdv A outer s H E hr=>by
  have hu:=jA hr
  exact⟨(O0),(aQ (bG (kN (av2 hu (qv 3) (qv 2)) (lR (F4 (b8 d_count_inside hr (a8 (bX (qv 1) (qv 3)) (a8 (qv 2) aB))) (bX (bX (qv 0) aN) (qv 3))))))),aC1⟩)
theorem aT7:FnScope ["web","few"] ["web","few"] (aR (aX 34)):=.au
theorem aT8 (B:Bt mg) (F:FM K mg "wanting_all_but" 34 f fd) (d_near_lists:Df P w K mg base 1 "near_lists" ["web"] iX):Df P w K mg base 2 "wanting_all_but" ["web","few"] mE:=
 Df.au F aT7 (fun cdv A outer s H E hr=>by
  exact⟨(X3),(aQ (bG (kO (a8 (fL B (a8 (pU (N:=["beside","few"]) (fr:=[none,some 1]) (dW (b8 d_near_lists hr (a8 (qv 0) aB))) (fun _ _ _ _=>(uV B rfl (a8 aN (a8 (nM (dX B (a8 (qv 0) aB)) (qv 1)) aB))))) aB)) (a8 (bX (qv 0) aN) aB))))),aP9⟩)
theorem aT9:FnScope ["cell","many"] ["cell","many"] (aR (aX 40)):=.au
theorem aU0 (B:Bt mg) (F:FM K mg "_law_some" 40 f fd) (d__law_stir:Df P w K mg base 1 "_law_stir" ["cell","k"] jU):Df P w K mg base 2 "_law_some" ["cell","many"] qZ:=
 Df.au F aT9 (fun cdv A outer s H E hr=>by
  exact⟨(S5),(aO (cP (kK (dN (qv 0) aN) aN) (aQ (bG (fL B (a8 (kS (N:=["k","cell"]) (fr:=[none,some 0]) (kR rfl B.range (qv 1)) (fun _ _ _ _=>(kK (dN (au9 (qv 1) (kI (qv 0) aN)) aN) aN)) (fun _ _ _ _=>(qv 0))) aB)))) cX)
   (aQ (bG (fL B (a8 (kS (N:=["k","cell"]) (fr:=[none,some 0]) (kR rfl B.range (qv 1)) (fun _ _ _ _=>(jM (dN (b8 d__law_stir hr (a8 (qv 1) (a8 (qv 0) aB))) aN) (kI aN (dN (jK (qv 1) aN) aN)))) (fun _ _ _ _=>(qv 0))) aB))))),aJ5⟩)
theorem Z1:FnScope ["flow","many","links","cell","one","other","turn","pair"] ["flow","many"] (aR (aX 42)):=.au
theorem aU1 (B:Bt mg) (F:FM K mg "_law_links" 42 f fd) (d__law_stir:Df P w K mg base 1 "_law_stir" ["cell","k"] jU):Df P w K mg base 2 "_law_links" ["flow","many"] rO:=
 Df.au F Z1 (fun cdv A outer s H E hr=>by
  have nd:=Z1.nd
  have hu:=jA hr
  exact⟨(V8),(aO (jO (i:=2) nd av4)
   (aO (cP (gL (lQ (lO (dX B (a8 (qv 0) aB)) aN) (nN (kK (dN (bX (qv 0) aN) aN) aN)))) (aO (bA (i:=3) nd (jK (bX (qv 0) aN) aN))
    (aO (hB 4 nd (kR rfl B.range (qv 1))
     (aQ (hB 5 nd (av7 rfl B.range (kI (qv 4) aN) (qv 1))
      (aO (cP (kK (dN (qv 3) aN) aN) (aQ (F9 hu (i:=2) (kO (a8 (qv 4) (a8 (qv 5) aB))) kG)) cX)
      (aQ (bA (i:=3) nd (jK (qv 3) aN)))))))
    (aQ (bA (i:=0) nd (v5 (qv 0) (v4 aN) v3))))) cX)
   (aO (hB 3 nd (dW (qv 0))
    (aQ (cP (lO (qv 1) aN) (aO (bA (i:=6) nd (b8 d__law_stir hr (a8 (qv 3) (a8 aN aB))))
     (aO (bA (i:=4) nd (dN (qv 6) (qv 1)))
     (aO (bA (i:=5) nd (dN (kI (kI (qv 4) aN) (dN (jK (qv 6) aN) (nM (qv 1) aN))) (qv 1)))
     (aO (bA (i:=7) nd (kO (a8 (G3 B rfl (a8 (qv 4) (a8 (qv 5) aB))) (a8 (uV B rfl (a8 (qv 4) (a8 (qv 5) aB))) aB))))
     (aQ (cP (gL (lQ (uS hu (qv 7) (qv 2)) (nN (kK (dN (jK (qv 6) aN) aN) aN)))) (aQ (aJ3 2 hu (qv 7))) (aQ (F9 hu (i:=2) (qv 7) kG)))))))) cX)))
   (aQ (bG (wP B (a8 (aC7 B rfl (a8 (qv 2) aB)) aB))))))),aO6⟩)
theorem Z2:FnScope ["found","links","some","hearth","due","k","within"] ["found","links","some"] (aR (aX 44)):=.au
theorem aU2 (B:Bt mg) (F:FM K mg "_law_round_good" 44 f fd) (d__law_whole:Df P w K mg base 1 "_law_whole" ["found"] qS) (bs:mg "set" = none):Df P w K mg base 2 "_law_round_good" ["found","links","some"] oD:=
 Df.au F Z2 (fun cdv A outer s H E hr=>by
  have nd:=Z2.nd
  have hu3:=rW hr
  exact⟨(X9 K),(aO (cP (gL (kM (nO (kL (aw3 B (qv 0)))) (kM (jM (dX B (a8 (qv 0) aB)) aN) (lP (uR (aJ7 B bs rfl (a8 (qv 0) aB)) (dX B (a8 (qv 0) aB))))))) (aQ (bG kG)) cX)
   (aO (hB 3 nd (dW (qv 0))
    (aQ (cP (gL (kM (nO (kL (b8 d__law_whole hr (a8 (qv 3) aB)))) (lP (uW (qv 3) (qv 2))))) (aQ (bG kG)) cX)))
   (aO (jO (i:=4) nd (kQ aB))
   (aO (hB 5 nd (kR rfl B.range (dX B (a8 (qv 0) aB)))
    (aQ (pT 4 (kO (a8 (G3 B rfl (a8 (bX (qv 0) (nM (qv 5) aN)) (a8 (bX (qv 0) (qv 5)) aB))) (a8 (uV B rfl (a8 (bX (qv 0) (nM (qv 5) aN)) (a8 (bX (qv 0) (qv 5)) aB))) aB))))))
   (aO (v8 (i:=6) nd (N:=["pair","found"]) (fr:=[none,some 0]) (dW (qv 1)) (fun _ _ _ _=>(gL (lQ (lU (bX (qv 0) aN) (qv 1)) (nN (lU (bX (qv 0) aN) (qv 1)))))) (fun _ _ _ _=>(qv 0)))
   (aQ (bG (kN (J0 hu3 (wP B (a8 (qv 4) aB)) (qv 6)) (kN (F5 (bX (qv 0) aN) (U7 B rfl (a8 (qv 0) aB))) (lR (F3 (bX (qv 0) aN) (bX (qv 0) (G4 aN))))))))))))),aQ8 (w6 K).tt⟩)
theorem aU3:FnScope ["web","cell"] ["web","cell"] (aR (aX 45)):=.au
theorem aU4 (B:Bt mg) (F:FM K mg "_law_drawn" 45 f fd) (d__law_stir:Df P w K mg base 1 "_law_stir" ["cell","k"] jU):Df P w K mg base 2 "_law_drawn" ["web","cell"] rN:=
 Df.au F aU3 (fun cdv A outer s H E hr=>by
  exact⟨(V7),(aQ (bG (kO (a8 (fL B (a8 (pU (N:=["k","cell"]) (fr:=[none,some 1]) (kR rfl B.range (dX B (a8 (bX (qv 0) aN) aB))) (fun _ _ _ _=>(dN (b8 d__law_stir hr (a8 (qv 1) (a8 (qv 0) aB))) aN))) aB)) (a8 (bX (qv 0) aN) aB))))),aO4⟩)
theorem aU5:FnScope ["web","numbers"] ["web","numbers"] (aR (aX 13)):=.au
theorem aU6 (B:Bt mg) (F:FM K mg "is_set" 13 f fd) (d_rises:Df P w K mg base 1 "rises" ["things"] mD) (d_is_hearth:Df P w K mg base 2 "is_hearth" ["web","number"] nY):Df P w K mg base 3 "is_set" ["web","numbers"] wW:=
 Df.au F aU5 (fun cdv A outer s H E hr=>by
  exact⟨(V2),(aQ (bG (kN (b8 d_rises hr (a8 (qv 1) aB)) (lR (G2 B rfl (a8 (pU (N:=["number","web"]) (fr:=[none,some 0]) (dW (qv 1)) (fun _ _ _ _=>(b8 d_is_hearth hr (a8 (qv 1) (a8 (qv 0) aB))))) aB)))))),aN7⟩)
theorem aU7:FnScope ["web","around","burning"] ["web","around","burning"] (aR (aX 21)):=.au
theorem aU8 (B:Bt mg) (F:FM K mg "kindling" 21 f fd) (d_can_kindle:Df P w K mg base 2 "can_kindle" ["web","around","burning","hearth"] qQ) (d_hearths_in:Df P w K mg base 1 "hearths_in" ["web"] jR):Df P w K mg base 3 "kindling" ["web","around","burning"] nZ:=
 Df.au F aU7 (fun cdv A outer s H E hr=>by
  exact⟨(O1),(aQ (bG (fL B (a8 (kS (N:=["hearth","web","around","burning"]) (fr:=[none,some 0,some 1,some 2]) (kR rfl B.range (b8 d_hearths_in hr (a8 (qv 0) aB))) (fun _ _ _ _=>(kL (b8 d_can_kindle hr (a8 (qv 1) (a8 (qv 2) (a8 (qv 3) (a8 (qv 0) aB))))))) (fun _ _ _ _=>(qv 0))) aB)))),aC2⟩)
theorem Z3:FnScope ["web","around","block","inside"] ["web","around","block"] (aR (aX 28)):=.au
theorem aU9 (B:Bt mg) (F:FM K mg "staying" 28 f fd) (d_marked:Df P w K mg base 1 "marked" ["hearths"] gM) (d_count_outside:Df P w K mg base 2 "count_outside" ["hearths","inside"] qV):Df P w K mg base 3 "staying" ["web","around","block"] o5:=
 Df.au F Z3 (fun cdv A outer s H E hr=>by
  have nd:=Z3.nd
  exact⟨(Q4),(aO (bA (i:=3) nd (b8 d_marked hr (a8 (qv 2) aB)))
   (aQ (bG (fL B (a8 (kS (N:=["hearth","inside","around","web"]) (fr:=[none,some 3,some 1,some 0]) (dW (qv 2)) (fun _ _ _ _=>(jM (b8 d_count_outside hr (a8 (bX (qv 2) (qv 0)) (a8 (qv 1) aB))) (bX (bX (qv 3) aN) (qv 0)))) (fun _ _ _ _=>(qv 0))) aB))))),aG6⟩)
theorem aV0:FnScope ["many","links"] ["many","links"] (aR (aX 33)):=.au
theorem aV1 (B:Bt mg) (F:FM K mg "linked_web" 33 f fd) (d_made_web:Df P w K mg base 2 "made_web" ["wants","links"] rL) {u_MOST_HEARTHS:Nat} (m_MOST_HEARTHS:mg "MOST_HEARTHS" = some (.int 40 u_MOST_HEARTHS)):Df P w K mg base 3 "linked_web" ["many","links"] rM:=
 Df.au F aV0 (fun cdv A outer s H E hr=>by
  exact⟨(V6),(aO (cP (gL (kM (jM (qv 0) aN) (lP (lO (qv 0) (wE rfl m_MOST_HEARTHS))))) (aQ lS) cX)
   (aQ (bG (b8 d_made_web hr (a8 (aF8 (kQ (a8 aN aB)) (qv 0)) (a8 (qv 1) aB)))))),aO2⟩)
theorem aV2:FnScope ["web","hearths"] ["web","hearths"] (aR (aX 14)):=.au
theorem aV3 (B:Bt mg) (F:FM K mg "made_set" 14 f fd) (d_is_set:Df P w K mg base 3 "is_set" ["web","numbers"] wW) (x_BadSet:Xc K mg base "BadSet"):bO P w K mg base 4 "made_set" ["web","hearths"] mC:=
 bO.au F aV2 S2 aJ1 (fun cdv A outer s H E Ep hr hX=>by
  exact (aO (cP (nO (kL (b8 d_is_set hr (a8 (qv 0) (a8 (qv 1) aB))))) (aQ (aI9 hX x_BadSet (a8 au8 aB))) cX)
   (aQ (bG (fL B (a8 (qv 1) aB))))))
theorem aV4:FnScope ["many","links"] ["many","links"] (aR (aX 32)):=.au
theorem aV5 (B:Bt mg) (F:FM K mg "nearly_full_web" 32 f fd) (d_wanting_all_but:Df P w K mg base 2 "wanting_all_but" ["web","few"] mE) (d_linked_web:Df P w K mg base 3 "linked_web" ["many","links"] rM):Df P w K mg base 4 "nearly_full_web" ["many","links"] rS:=
 Df.au F aV4 (fun cdv A outer s H E hr=>by
  exact⟨(X4),(aQ (bG (b8 d_wanting_all_but hr (a8 (b8 d_linked_web hr (a8 (qv 0) (a8 (qv 1) aB))) (a8 aN aB))))),aQ0⟩)
theorem Z4:FnScope ["web","seeds","told","burning","around","lit"] ["web","seeds"] (aR (aX 20)):=.au
theorem aV6 (B:Bt mg) (F:FM K mg "rounds" 20 f fd) (d_marked:Df P w K mg base 1 "marked" ["hearths"] gM) (d_near_lists:Df P w K mg base 1 "near_lists" ["web"] iX) (d_kindling:Df P w K mg base 3 "kindling" ["web","around","burning"] nZ) (d_made_set:bO P w K mg base 4 "made_set" ["web","hearths"] mC):bO P w K mg base 5 "rounds" ["web","seeds"] r9:=
 bO.au F Z4 S9 aK0 (fun cdv A outer s H E Ep hr hX=>by
  have nd:=Z4.nd
  exact (aO (jO (i:=2) nd (kQ (a8 (jS hX d_made_set hr (a8 (qv 0) (a8 (qv 1) aB))) aB)))
   (aO (jO (i:=3) nd (b8 d_marked hr (a8 (bX (qv 2) aN) aB)))
   (aO (bA (i:=4) nd (b8 d_near_lists hr (a8 (qv 0) aB)))
   (aO (bA (i:=5) nd (b8 d_kindling hr (a8 (qv 0) (a8 (qv 4) (a8 (qv 3) aB)))))
   (aO (pS hX.own (uT (qv 5))
    (aO (pT 2 (qv 5))
    (aO (aw8 3 (b8 d_marked hr (a8 (qv 5) aB)))
    (aQ (bA (i:=5) nd (b8 d_kindling hr (a8 (qv 0) (a8 (qv 4) (a8 (qv 3) aB)))))))))
   (aQ (lT 2))))))))
theorem Z5:FnScope ["web","some","around","left","kept"] ["web","some"] (aR (aX 27)):=.au
theorem aV7 (B:Bt mg) (F:FM K mg "cold_within" 27 f fd) (d_near_lists:Df P w K mg base 1 "near_lists" ["web"] iX) (d_made_set:bO P w K mg base 4 "made_set" ["web","hearths"] mC) (d_staying:Df P w K mg base 3 "staying" ["web","around","block"] o5):bO P w K mg base 5 "cold_within" ["web","some"] o7:=
 bO.au F Z5 S6 aJ6 (fun cdv A outer s H E Ep hr hX=>by
  have nd:=Z5.nd
  have hu3:=rW hr
  exact (aO (bA (i:=2) nd (b8 d_near_lists hr (a8 (qv 0) aB)))
   (aO (bA (i:=3) nd (jS hX d_made_set hr (a8 (qv 0) (a8 (qv 1) aB))))
   (aO (bA (i:=4) nd (b8 d_staying hr (a8 (qv 0) (a8 (qv 2) (a8 (qv 3) aB)))))
   (aO (pS hX.own (aw5 hu3 (qv 4) (qv 3))
    (aO (bA (i:=3) nd (qv 4))
    (aQ (bA (i:=4) nd (b8 d_staying hr (a8 (qv 0) (a8 (qv 2) (a8 (qv 3) aB))))))))
   (aQ (lT 3)))))))
theorem Z6:FnScope ["web","seeds","ranks","rank","lit","hearth"] ["web","seeds"] (aR (aX 23)):=.au
theorem aV8 (B:Bt mg) (F:FM K mg "ranks_of" 23 f fd) (d_rounds:bO P w K mg base 5 "rounds" ["web","seeds"] r9):bO P w K mg base 6 "ranks_of" ["web","seeds"] rA:=
 bO.au F Z6 T0 aK1 (fun cdv A outer s H E Ep hr hX=>by
  have nd:=Z6.nd
  have hu:=jA hr
  exact (aO (jO (i:=2) nd F7)
   (aO (aw7 3 4 (hp:=hX.own) nd (aF4 rfl B.enum (jS hX d_rounds hr (a8 (qv 0) (a8 (qv 1) aB))))
    (aQ (hB 5 (hp:=hX.own) nd (dW (qv 4))
     (aQ (F8 hu (i:=2) (qv 5) (qv 3))))))
   (aQ (lT 2)))))
theorem Z7:FnScope ["web","some","whole","left","hearth","smaller"] ["web","some"] (aR (aX 30)):=.au
theorem aV9 (B:Bt mg) (F:FM K mg "least_within" 30 f fd) (d_cold_within:bO P w K mg base 5 "cold_within" ["web","some"] o7) (d_without:Df P w K mg base 2 "without" ["hearths","some"] qW):bO P w K mg base 6 "least_within" ["web","some"] rD:=
 bO.au F Z7 aK5 aK6 (fun cdv A outer s H E Ep hr hX=>by
  have nd:=Z7.nd
  exact (aO (bA (i:=2) nd (jS hX d_cold_within hr (a8 (qv 0) (a8 (qv 1) aB))))
   (aO (bA (i:=3) nd (qv 2))
   (aO (hB 4 (hp:=hX.own) nd (dW (qv 2))
    (aQ (cP (lU (qv 4) (qv 3)) (aO (bA (i:=5) nd (jS hX d_cold_within hr (a8 (qv 0) (a8 (b8 d_without hr (a8 (qv 3) (a8 (kQ (a8 (qv 4) aB)) aB))) aB))))
     (aQ (cP (uT (qv 5)) (aQ (bA (i:=3) nd (qv 5))) cX))) cX)))
   (aQ (lT 3))))))
theorem aW0:FnScope ["web","seeds"] ["web","seeds"] (aR (aX 24)):=.au
theorem aW1 (B:Bt mg) (F:FM K mg "burnt" 24 f fd) (d_ranks_of:bO P w K mg base 6 "ranks_of" ["web","seeds"] rA):bO P w K mg base 7 "burnt" ["web","seeds"] rB:=
 bO.au F aW0 T1 aK2 (fun cdv A outer s H E Ep hr hX=>by
  exact (aQ (bG (fL B (a8 (aH8 B rfl (a8 (jS hX d_ranks_of hr (a8 (qv 0) (a8 (qv 1) aB))) aB)) aB)))))
theorem Z8:FnScope ["web","some","block","inside","around","row","left"] ["web","some"] (aR (aX 35)):=.au
theorem aW2 (B:Bt mg) (F:FM K mg "round_in" 35 f fd) (d_least_within:bO P w K mg base 6 "least_within" ["web","some"] rD) (d_marked:Df P w K mg base 1 "marked" ["hearths"] gM) (d_near_lists:Df P w K mg base 1 "near_lists" ["web"] iX) (d_wanting_all_but:Df P w K mg base 2 "wanting_all_but" ["web","few"] mE):bO P w K mg base 7 "round_in" ["web","some"] oC:=
 bO.au F Z8 X5 aQ2 (fun cdv A outer s H E Ep hr hX=>by
  have nd:=Z8.nd
  have hu:=jA hr
  exact (aO (bA (i:=2) nd (jS hX d_least_within hr (a8 (b8 d_wanting_all_but hr (a8 (qv 0) (a8 aN aB))) (a8 (qv 1) aB))))
   (aO (cP (nO (uT (qv 2))) (aQ (bG uP)) cX)
   (aO (bA (i:=3) nd (b8 d_marked hr (a8 (qv 2) aB)))
   (aO (bA (i:=4) nd (b8 d_near_lists hr (a8 (qv 0) aB)))
   (aO (jO (i:=5) nd (kQ (a8 (bX (qv 2) aN) aB)))
   (aO (pS hX.own (jM (dX B (a8 (qv 5) aB)) (dX B (a8 (qv 2) aB)))
    (aO (v8 (i:=6) nd (N:=["other","inside","row"]) (fr:=[none,some 3,some 5]) (dW (bX (qv 4) (bX (qv 5) (G4 aN)))) (fun _ _ _ _=>(gL (lQ (uS hu (qv 0) (qv 1)) (nN (uW (qv 0) (qv 2)))))) (fun _ _ _ _=>(qv 0)))
    (aQ (pT 5 (bX (qv 6) aN)))))
   (aQ (bG (fL B (a8 (qv 5) aB)))))))))))
theorem aW3:FnScope ["web","seeds"] ["web","seeds"] (aR (aX 25)):=.au
theorem aW4 (B:Bt mg) (F:FM K mg "lights_all" 25 f fd) (d_hearths_in:Df P w K mg base 1 "hearths_in" ["web"] jR) (d_burnt:bO P w K mg base 7 "burnt" ["web","seeds"] rB):bO P w K mg base 8 "lights_all" ["web","seeds"] rC:=
 bO.au F aW3 T2 aK3 (fun cdv A outer s H E Ep hr hX=>by
  exact (aQ (bG (F5 (dX B (a8 (jS hX d_burnt hr (a8 (qv 0) (a8 (qv 1) aB))) aB)) (b8 d_hearths_in hr (a8 (qv 0) aB))))))
theorem Z9:FnScope ["script","many","links","web","seeds","rest","found","none","other"] ["script"] (aR (aX 46)):=.au
theorem aW5 (B:Bt mg) (F:eR K "law" "law" (aX 46) f fd) (d__law_many:Df P w K mg base 1 "_law_many" ["cell"] r6) (d__law_links:Df P w K mg base 2 "_law_links" ["flow","many"] rO) (d_nearly_full_web:Df P w K mg base 4 "nearly_full_web" ["many","links"] rS) (d__law_some:Df P w K mg base 2 "_law_some" ["cell","many"] qZ) (d_round_in:bO P w K mg base 7 "round_in" ["web","some"] oC) (d__law_cell_at:Df P w K mg base 1 "_law_cell_at" ["script","k"] m9) (d__law_core:Df P w K mg base 1 "_law_core" ["links","some"] rT) (d__law_drawn:Df P w K mg base 2 "_law_drawn" ["web","cell"] rN) (d__law_round_good:Df P w K mg base 2 "_law_round_good" ["found","links","some"] oD) (d_lights_all:bO P w K mg base 8 "lights_all" ["web","seeds"] rC):cT P w K mg base dJ 9 f fd ["script"] (nE K x5):=
 aD7 F Z9 (fun xs Q h=>by unfold x5 at h; repeat (first | (obtain ⟨rfl,_⟩:=h; rfl) | (obtain ⟨_,h⟩:=h))) (fun cdv A outer s H E hr=>by
  have nd:=Z9.nd
  have hu3:=rW hr
  exact⟨(Y2),(aO (bA (i:=1) nd (b8 d__law_many hr (a8 (b8 d__law_cell_at hr (a8 (qv 0) (a8 aN aB))) aB)))
   (aO (bA (i:=2) nd (b8 d__law_links hr (a8 (v5 (qv 0) (v4 aN) v3) (a8 (qv 1) aB))))
   (aO (bA (i:=3) nd (b8 d_nearly_full_web hr (a8 (qv 1) (a8 (qv 2) aB))))
   (aO (bA (i:=4) nd (b8 d__law_some hr (a8 (b8 d__law_cell_at hr (a8 (qv 0) (a8 aN aB))) (a8 (qv 1) aB))))
   (aO (bA (i:=5) nd (fL B (a8 (kS (N:=["hearth","seeds"]) (fr:=[none,some 4]) (kR rfl B.range (qv 1)) (fun _ _ _ _=>(uW (qv 0) (qv 1))) (fun _ _ _ _=>(qv 0))) aB)))
   (aO (bA (i:=6) nd (wI d_round_in hr (a8 (qv 3) (a8 (qv 5) aB))))
   (aO (bA (i:=7) nd (J0 hu3 (b8 d__law_core hr (a8 (qv 2) (a8 (qv 5) aB))) (kQ aB)))
   (aO (cP (gL (kM (uR (wI d_lights_all hr (a8 (qv 3) (a8 (qv 4) aB))) (qv 7)) (lP (uR (F6 (qv 6) uP) (qv 7))))) (aQ (bG kG)) cX)
   (aO (bA (i:=8) nd (wI d_round_in hr (a8 (b8 d__law_drawn hr (a8 (qv 3) (a8 (b8 d__law_cell_at hr (a8 (qv 0) (a8 aN aB))) aB))) (a8 (G1 B (a8 (qv 5) aB)) aB))))
   (aO (cP (kL (qv 7)) (aQ (bG (F6 (qv 8) uP))) cX)
   (aQ (bG (kN (b8 d__law_round_good hr (a8 (qv 6) (a8 (qv 2) (a8 (qv 5) aB)))) (lR (b8 d__law_round_good hr (a8 (qv 8) (a8 (qv 2) (a8 (qv 5) aB)))))))))))))))))),aR2⟩)
end
set_option autoImplicit true in
theorem aW6 {l:OpenLaw}{w:World}{K:Frag}{h:Heap}{mg:Str->Option Value} (X:K.In h) (G:h.Ns mainGlobals mg) (hfa:mg "law" = some (.ref fa))
  (h0:FK K "lesser_first" 8 f0 d0)
  (h1:FK K "rises" 9 f1 d1)
  (h2:FK K "hearths_in" 10 f2 d2)
  (h3:FK K "near_lists" 11 f3 d3)
  (h4:FK K "marked" 15 f4 d4)
  (h5:FK K "count_inside" 16 f5 d5)
  (h6:FK K "_law_cell_at" 37 f6 d6)
  (h7:FK K "_law_whole" 38 f7 d7)
  (h8:FK K "_law_stir" 39 f8 d8)
  (h9:FK K "_law_many" 41 f9 d9)
  (h10:FK K "_law_core" 43 f10 d10)
  (h11:FK K "made_web" 7 f11 d11)
  (h12:FK K "is_hearth" 12 f12 d12)
  (h13:FK K "count_outside" 17 f13 d13)
  (h14:FK K "without" 18 f14 d14)
  (h15:FK K "can_kindle" 22 f15 d15)
  (h16:FK K "wanting_all_but" 34 f16 d16)
  (h17:FK K "_law_some" 40 f17 d17)
  (h18:FK K "_law_links" 42 f18 d18)
  (h19:FK K "_law_round_good" 44 f19 d19)
  (h20:FK K "_law_drawn" 45 f20 d20)
  (h21:FK K "is_set" 13 f21 d21)
  (h22:FK K "kindling" 21 f22 d22)
  (h23:FK K "staying" 28 f23 d23)
  (h24:FK K "linked_web" 33 f24 d24)
  (h25:FK K "made_set" 14 f25 d25)
  (h26:FK K "nearly_full_web" 32 f26 d26)
  (h27:FK K "rounds" 20 f27 d27)
  (h28:FK K "cold_within" 27 f28 d28)
  (h29:FK K "ranks_of" 23 f29 d29)
  (h30:FK K "least_within" 30 f30 d30)
  (h31:FK K "burnt" 24 f31 d31)
  (h32:FK K "round_in" 35 f32 d32)
  (h33:FK K "lights_all" 25 f33 d33)
  (a34:nsIn K mainGlobals "law" = some (some (.ref f34))) (l34:K.lookup f34=some ⟨oc34,od34,.func (fnOf "law" "law" (iI (aX 46)) (dP (aX 46)) (aR (aX 46)) .none kV34 dc34 pm34 an34 cd34 ct34),sl34⟩) (c34:codeIn K cd34 "law" = true) (k34:keepIn K (.ref f34)=true)
  (z_len:nsIn K mainGlobals "len" = some none)
  (z_range:nsIn K mainGlobals "range" = some none)
  (z_tuple:nsIn K mainGlobals "tuple" = some none)
  (z_list:nsIn K mainGlobals "list" = some none)
  (z_sorted:nsIn K mainGlobals "sorted" = some none)
  (z_all:nsIn K mainGlobals "all" = some none)
  (z_any:nsIn K mainGlobals "any" = some none)
  (z_zip:nsIn K mainGlobals "zip" = some none)
  (z_min:nsIn K mainGlobals "min" = some none)
  (z_max:nsIn K mainGlobals "max" = some none)
  (z_sum:nsIn K mainGlobals "sum" = some none)
  (z_isinstance:nsIn K mainGlobals "isinstance" = some none)
  (z_int:nsIn K mainGlobals "int" = some none)
  (z_bool:nsIn K mainGlobals "bool" = some none)
  (z_enumerate:nsIn K mainGlobals "enumerate" = some none)
  (z_set:nsIn K mainGlobals "set" = some none)
  {u_MOST_HEARTHS:Nat} (z_MOST_HEARTHSx:nsIn K mainGlobals "MOST_HEARTHS" = some (some (.int 40 u_MOST_HEARTHS)))
  {u_MOST_WANTED:Nat} (z_MOST_WANTEDx:nsIn K mainGlobals "MOST_WANTED" = some (some (.int 60 u_MOST_WANTED)))
  {C_HearthError C_BadWeb C_BadSet:Addr}
  (aX_HE:nsIn K mainGlobals "HearthError" = some (some (.ref C_HearthError)))
  (aX_BW:nsIn K mainGlobals "BadWeb" = some (some (.ref C_BadWeb)))
  (aX_BS:nsIn K mainGlobals "BadSet" = some (some (.ref C_BadSet)))
  (zX_BO:nsIn K mainGlobals "BadOrder" = some none)
  (zX_BP:nsIn K mainGlobals "BadPrices" = some none)
  (zX_BB:nsIn K mainGlobals "BadBoard" = some none)
  (zX_BD:nsIn K mainGlobals "BadDeed" = some none)
  (zX_NW:nsIn K mainGlobals "NotWood" = some none)
  (zX_NP:nsIn K mainGlobals "NoPaper" = some none)
  (zX_NS:nsIn K mainGlobals "NoSuch" = some none)
  (zX_TM:nsIn K mainGlobals "TooMany" = some none)
  (zX_NT:nsIn K mainGlobals "NoText" = some none)
  (zX_OR:nsIn K mainGlobals "OddRound" = some none)
  (y_fg:specialIn K (.builtin "object.__class__") "__get__" = some (some (.builtin "getset_descriptor.__get__")))
  (y_ft:takesIn K (.builtin "object.__class__")=some true)
  (z_VE:nsIn K mainGlobals "ValueError" = some none)
  (y1_HE:isClsIn K C_HearthError=true)
  (y2_HE:typeIn K (.ref C_HearthError)=some (.type "type"))
  (y3_HE:findIn K (.ref C_HearthError) "__getattribute__" = some (some (.builtin "BaseException.__getattribute__")))
  (y4_HE:findIn K (.ref C_HearthError) "__getattr__" = some none)
  (y5_HE:findIn K (.ref C_HearthError) "__class__" = some (some (.builtin "object.__class__")))
  (y6_HE:mroIn K C_HearthError (.type "object")=some true)
  (y7_HE:mroIn K C_HearthError (.type "BaseException")=some true)
  (y1_BW:isClsIn K C_BadWeb=true)
  (y2_BW:typeIn K (.ref C_BadWeb)=some (.type "type"))
  (y3_BW:findIn K (.ref C_BadWeb) "__getattribute__" = some (some (.builtin "BaseException.__getattribute__")))
  (y4_BW:findIn K (.ref C_BadWeb) "__getattr__" = some none)
  (y5_BW:findIn K (.ref C_BadWeb) "__class__" = some (some (.builtin "object.__class__")))
  (y6_BW:mroIn K C_BadWeb (.type "object")=some true)
  (y7_BW:mroIn K C_BadWeb (.type "BaseException")=some true)
  (y1_BS:isClsIn K C_BadSet=true)
  (y2_BS:typeIn K (.ref C_BadSet)=some (.type "type"))
  (y3_BS:findIn K (.ref C_BadSet) "__getattribute__" = some (some (.builtin "BaseException.__getattribute__")))
  (y4_BS:findIn K (.ref C_BadSet) "__getattr__" = some none)
  (y5_BS:findIn K (.ref C_BadSet) "__class__" = some (some (.builtin "object.__class__")))
  (y6_BS:mroIn K C_BadSet (.type "object")=some true)
  (y7_BS:mroIn K C_BadSet (.type "BaseException")=some true)
  (q_BS:excIn K C_BadSet [.type "ValueError",.type "Exception",.type "BaseException",.type "object"] "ValueError.__new__" = true)
  : ∃ fd:FuncData,(∀ (s:Shared) (v:Value),BindsTo s fd ⟨[v],[]⟩ [("script",v)])/\∀ base:Heap,K.In base->base.Ns mainGlobals mg->cT l.prog w K mg base dJ 9 fa fd ["script"] (qU K):=by
 have e:=hfa.symm.trans (mg_of X G a34)
 cases e
 have F34:=am1 (st:=aX 46) l34 c34 k34
 have m34:=mg_of X G a34
 have B:Bt mg:=⟨mg_none_of X G z_len,mg_none_of X G z_range,mg_none_of X G z_tuple,mg_none_of X G z_list,mg_none_of X G z_sorted,mg_none_of X G z_all,mg_none_of X G z_any,mg_none_of X G z_zip,mg_none_of X G z_min,mg_none_of X G z_max,mg_none_of X G z_sum,mg_none_of X G z_isinstance,mg_none_of X G z_int,mg_none_of X G z_bool,mg_none_of X G z_enumerate⟩
 have bs:=mg_none_of X G z_set
 have m_MOST_HEARTHS:=mg_of X G z_MOST_HEARTHSx
 have m_MOST_WANTED:=mg_of X G z_MOST_WANTEDx
 refine⟨fnOf "law" "law" (iI (aX 46)) (dP (aX 46)) (aR (aX 46)) .none kV34 dc34 pm34 an34 cd34 ct34,fun s v=>.of_eq rfl,fun base KB _=>?_⟩
 have XK_HearthError:wK K C_HearthError:=⟨y1_HE,y2_HE,y3_HE,y4_HE,y5_HE,y_fg,y_ft,y6_HE,y7_HE⟩
 have XK_BadWeb:wK K C_BadWeb:=⟨y1_BW,y2_BW,y3_BW,y4_BW,y5_BW,y_fg,y_ft,y6_BW,y7_BW⟩
 have XK_BadSet:wK K C_BadSet:=⟨y1_BS,y2_BS,y3_BS,y4_BS,y5_BS,y_fg,y_ft,y6_BS,y7_BS⟩
 have x_BadSet:Xc K mg base "BadSet":=⟨C_BadSet,_,_,_,_,aJ0 KB (mg_of X G aX_BS) q_BS,PySem.F.excBase_ValueError,aX_BS⟩
 have D0:=aR4 (P:=l.prog) (w:=w) (base:=base) B (h0.M X G)
 have D1:=O9 (P:=l.prog) (w:=w) (base:=base) B (h1.M X G)
 have D2:=aR7 (P:=l.prog) (w:=w) (base:=base) B (h2.M X G)
 have D3:=aD1 (aR3 (P:=l.prog) (w:=w) (mg:=mg) (base:=base) h3.F) (h3.F.binds (ps:=["web"]) fun _ _ _ _ _ _ us hl=>by obtain ⟨_,rfl⟩:=qY hl; rfl) h3.F.kp (mg_of X G h3.a)
 have D4:=aR8 (P:=l.prog) (w:=w) (base:=base) B (h4.M X G)
 have D5:=aS0 (P:=l.prog) (w:=w) (base:=base) B (h5.M X G)
 have D6:=aS2 (P:=l.prog) (w:=w) (base:=base) B (h6.M X G)
 have D7:=aS4 (P:=l.prog) (w:=w) (base:=base) B (h7.M X G)
 have D8:=aS5 (P:=l.prog) (w:=w) (base:=base) B (h8.M X G)
 have D9:=aS7 (P:=l.prog) (w:=w) (base:=base) B (h9.M X G)
 have D10:=aS8 (P:=l.prog) (w:=w) (base:=base) B (h10.M X G)
 have D11:=aS9 (P:=l.prog) (w:=w) (base:=base) B (h11.M X G) D1 D0 m_MOST_HEARTHS m_MOST_WANTED
 have D12:=aT1 (P:=l.prog) (w:=w) (base:=base) B (h12.M X G) D2
 have D13:=aT3 (P:=l.prog) (w:=w) (base:=base) B (h13.M X G) D5
 have D14:=aT4 (P:=l.prog) (w:=w) (base:=base) B (h14.M X G) D4
 have D15:=aT6 (P:=l.prog) (w:=w) (base:=base) B (h15.M X G) D5
 have D16:=aT8 (P:=l.prog) (w:=w) (base:=base) B (h16.M X G) D3
 have D17:=aU0 (P:=l.prog) (w:=w) (base:=base) B (h17.M X G) D8
 have D18:=aU1 (P:=l.prog) (w:=w) (base:=base) B (h18.M X G) D8
 have D19:=aU2 (P:=l.prog) (w:=w) (base:=base) B (h19.M X G) D7 bs
 have D20:=aU4 (P:=l.prog) (w:=w) (base:=base) B (h20.M X G) D8
 have D21:=aU6 (P:=l.prog) (w:=w) (base:=base) B (h21.M X G) D1 D12
 have D22:=aU8 (P:=l.prog) (w:=w) (base:=base) B (h22.M X G) D15 D2
 have D23:=aU9 (P:=l.prog) (w:=w) (base:=base) B (h23.M X G) D4 D13
 have D24:=aV1 (P:=l.prog) (w:=w) (base:=base) B (h24.M X G) D11 m_MOST_HEARTHS
 have D25:=aV3 (P:=l.prog) (w:=w) (base:=base) B (h25.M X G) D21 x_BadSet
 have D26:=aV5 (P:=l.prog) (w:=w) (base:=base) B (h26.M X G) D16 D24
 have D27:=aV6 (P:=l.prog) (w:=w) (base:=base) B (h27.M X G) D4 D3 D22 D25
 have D28:=aV7 (P:=l.prog) (w:=w) (base:=base) B (h28.M X G) D3 D25 D23
 have D29:=aV8 (P:=l.prog) (w:=w) (base:=base) B (h29.M X G) D27
 have D30:=aV9 (P:=l.prog) (w:=w) (base:=base) B (h30.M X G) D28 D14
 have D31:=aW1 (P:=l.prog) (w:=w) (base:=base) B (h31.M X G) D29
 have D32:=aW2 (P:=l.prog) (w:=w) (base:=base) B (h32.M X G) D30 D4 D3 D16
 have D33:=aW4 (P:=l.prog) (w:=w) (base:=base) B (h33.M X G) D2 D31
 exact aD8 (aW5 B F34 D9 D18 D26 D17 D32 D6 D10 D20 D19 D33)
theorem aW7 {l:OpenLaw}{q:Program}{loose:List Str}{XP:(Str->Option Value)->Heap->Prop}{YP:World->Heap->Prop}{d:DefRec}{K:Params->Frag} (hn:l.most=some 63) (hdf:d.params.defaults = [])
  (hY:∀ (w:World) (h:Heap),YP w h->(K w.params).In h)
  (F:∀ (w:World) (mg:Str->Option Value) (fa:Addr) (h:Heap),(K w.params).In h->h.Ns mainGlobals mg->mg d.name=some (.ref fa)->
   ∃ fd:FuncData,(∀ (s:Shared) (u:Value),BindsTo s fd ⟨[u],[]⟩ [("script",u)])/\∀ base:Heap,(K w.params).In base->base.Ns mainGlobals mg->cT l.prog w (K w.params) mg base dJ 9 fa fd ["script"] (qU (K w.params))) :
  WalkO q loose XP YP l.row.toRowW d [] (fun f vs=>PySem.call f vs):=
 L2.al9 (n:=63) (k:=9) (x:="script") (CX:=fun _=>dJ) (sp:=fun w=>qU (K w.params)) hn (by decide) hdf ⟨rfl,by decide,by decide⟩ hY F (fun _ _ a ns hl hO hS=>⟨a,ns,rfl,aD9 hO hS,hl,fun _=>rfl⟩) fun _ _ _ _ _ z=>z
end K_k77
open PySem PySem.W PyProof.Rows
theorem PySem.W.Fast.te13052408679150730464 : True := trivial
theorem PySem.W.Fast.te16555476440528808052 : True := trivial
theorem PySem.W.Fast.te5369427470323729400 : True := trivial
set_option maxRecDepth 100000 in
set_option maxHeartbeats 0 in
theorem PySem.Challenge.cw_kindleweb_k77_whole_rounds_left_holds : PySem.Challenge.rw_kindleweb_k77_whole_rounds_left.Holds := by
 w_on; o_law; k_head; (case hw => w_witness2)
 k_fill
 refine K_k77.aW7 (l := PySem.Challenge.rw_kindleweb_k77_whole_rounds_left) rfl rfl (fun w h Y => PySem.W.kIn_of Y) ?F
 case F =>
  intro w mg fa h KX G hmg
  refine' K_k77.aW6 KX G hmg ?h0 ?h1 ?h2 ?h3 ?h4 ?h5 ?h6 ?h7 ?h8 ?h9 ?h10 ?h11 ?h12 ?h13 ?h14 ?h15 ?h16 ?h17 ?h18 ?h19 ?h20 ?h21 ?h22 ?h23 ?h24 ?h25 ?h26 ?h27 ?h28 ?h29 ?h30 ?h31 ?h32 ?h33 ?a34 ?l34 ?c34 ?k34 ?z_len ?z_range ?z_tuple ?z_list ?z_sorted ?z_all ?z_any ?z_zip ?z_min ?z_max ?z_sum ?z_isinstance ?z_int ?z_bool ?z_enumerate ?z_set ?z_MOST_HEARTHSx ?z_MOST_WANTEDx ?aX_HE ?aX_BW ?aX_BS ?zX_BO ?zX_BP ?zX_BB ?zX_BD ?zX_NW ?zX_NP ?zX_NS ?zX_TM ?zX_NT ?zX_OR ?y_fg ?y_ft ?z_VE ?y1_HE ?y2_HE ?y3_HE ?y4_HE ?y5_HE ?y6_HE ?y7_HE ?y1_BW ?y2_BW ?y3_BW ?y4_BW ?y5_BW ?y6_BW ?y7_BW ?y1_BS ?y2_BS ?y3_BS ?y4_BS ?y5_BS ?y6_BS ?y7_BS ?q_BS
  (case h0 | h1 | h2 | h3 | h4 | h5 | h6 | h7 | h8 | h9 | h10 | h11 | h12 | h13 | h14 | h15 | h16 | h17 | h18 | h19 | h20 | h21 | h22 | h23 | h24 | h25 | h26 | h27 | h28 | h29 | h30 | h31 | h32 | h33 => exact ⟨by k_is, ⟨⟨_, _, _, _, _, _, _, _, _, rfl, by k_is, by k_is⟩, by k_is⟩⟩)
  (case a34|l34|c34|k34|z_len|z_range|z_tuple|z_list|z_sorted|z_all|z_any|z_zip|z_min|z_max|z_sum|z_isinstance|z_int|z_bool|z_enumerate|z_set|z_MOST_HEARTHSx|z_MOST_WANTEDx|aX_HE|aX_BW|aX_BS|zX_BO|zX_BP|zX_BB|zX_BD|zX_NW|zX_NP|zX_NS|zX_TM|zX_NT|zX_OR|y_fg|y_ft|z_VE|y1_HE|y2_HE|y3_HE|y4_HE|y5_HE|y6_HE|y7_HE|y1_BW|y2_BW|y3_BW|y4_BW|y5_BW|y6_BW|y7_BW|y1_BS|y2_BS|y3_BS|y4_BS|y5_BS|y6_BS|y7_BS => k_is)
  (case q_BS => k_exc)


