import PyProof.Rows.All
import Wide.All
import OpenK.AllK
import Wide.FinOn
import Lean
import PyProof.EqAt
import PyProof.EqKinds
import PyProof.TupleCall
import PyProof.NeKinds
import PyProof.Draws
import PyProof.ZipIter
import PyProof.DictUpdate
import PyProof.AutoSeq1
import PyProof.ListRange
import PyProof.ListMulRoad
import PyProof.FactsAll.tuple_2
import PyProof.Rows.SortShell
import PyProof.EnumFor
import PyProof.EnumMake
import PyProof.EnumStmt
import PyProof.Rows.SortWalk
import KE.KDictList
import PyProof.SumAny
import PyProof.ConsumeWalk
import PyProof.WalksMore
import PyProof.Rows.TupAssign
import PyProof.ExcArgsOwn
import PySem.Challenge.RW_kindleweb_k12_orders_and_sets_refused
set_option Elab.async false
set_option linter.all false
set_option maxRecDepth 100000
set_option maxHeartbeats 4000000
section
open PySem PySem.Spec PyProof.Rows
def aQ5:=@wpAny_bind
def aQ6:=@Heap.get?_push_of_some
def aQ7:=@List.getElem?_eq_getElem
def aQ8:=@List.size_toArray
def aQ9:=@wpAny_pure
def aR0:=@Nat.le_refl
def aR1:=@List.length_map
def aR2:=@List.mem_cons
def aR3:=@List.length_append
def aR4:=@List.getElem?_eq_some_iff
def aR5:=@decide_eq_false
def aR6:=@List.not_mem_nil
def aR7:=@List.getD_eq_getElem?_getD
def aR8:=@Heap.lt_size
def aR9:=@Nat.lt_of_lt_of_le
def aS0:=@List.mem_cons_self
def aS1:=@Heap.get?_push_size
def aS2:=@List.mem_cons_of_mem
def aS3:=@decide_eq_true
def aS4:=@List.mem_singleton
def aS5:=@List.getElem?_map
def aS6:=@Bool.false_ne_true
def aS7:=@List.getElem?_set_ne
def aS9:=@Bool.false_eq_true
def aT2:=@Option.some.inj
def aT3:=@Nat.ne_of_lt
def aT4:=@Nat.le_trans
def aT6:=@Int.emod_nonneg
def aT7:=@Nat.zero_le
def aT8:=@List.map_append
def aT9:=@List.length_cons
def aU0:=@Int.emod_lt_of_pos
def aU1:=@or_false
def aU2:=@List.mem_append
def aU3:=@Array.length_toList
def aU5:=@List.length_take
def aU6:=@List.length_drop
def aU7:=@List.mem_append_right
def aU8:=@List.map_cons
def aU9:=@PySem.mem_of_lookup
def aV0:=@Nat.le_of_lt
def aV2:=@Bool.and_eq_true
def aV3:=@List.take_length
def aV4:=@List.append_nil
def aV5:=@List.length_set
def aV7:=@List.mem_map
def aV8:=@wpAny_field
def aV9:=@wpAny_callSpecial?_slot
def aW0:=@List.pairwise_singleton
def aW1:=@Nat.lt_irrefl
def aW3:=@wpAny_call_entry
def aW5:=@List.lookup_cons
def aW6:=@Nat.le_add_right
def aW7:=@List.getElem?_set_self
def aW8:=@List.mem_of_getElem?
def aW9:=@wpAny_setField_rec
def aX1:=@PyProof.Rows.callWith_type1
def aX2:=@List.replicate_succ
def aX3:=@wpAny_mono
def aX4:=@beq_self_eq_true
def aX6:=@wpAny_newObj_type
def aX8:=@if_false
def aX9:=@Nat.ne_of_gt
def aY0:=@Int.toNat_natCast
def aY1:=@List.flatten_cons
def aY2:=@List.getElem?_cons_succ
def aY3:=@PySem.F.plainAttrs_list
def aY5:=@wpAny_holding
def aY6:=@Bool.eq_iff_iff
def aY7:=@List.all_eq_true
def aY8:=@List.map_map
def aY9:=@List.pairwise_iff_getElem
def aZ1:=@List.nodup_append
def aZ2:=@List.length_singleton
def aZ5:=@List.find?_cons
def aZ8:=@List.getElem_mem
def ba0:=@Array.getD_eq_getD_getElem?
def ba3:=@Bool.eq_false_iff
def ba4:=@Heap.size_push
def ba5:=@List.length_range
def ba6:=@List.take_add_one
def ba7:=@beq_eq_false_iff_ne
def ba8:=@PyProof.Rows.slot_tuple_getitem
def ba9:=@List.take_append_drop
def bb5:=@List.append_assoc
def bb6:=@decide_eq_true_eq
def bb7:=@Heap.SameBut.update
def bb9:=@List.all_cons
def bc0:=@Nat.le_of_not_lt
def bc1:=@List.mem_range
def bc3:=@wpAny_pyIter_tuple
def bc5:=@of_decide_eq_false
def bc6:=@wpAny_seqItems
def bc8:=@wpAny_execs_nil
def bc9:=@wpAny_passesOwn
def bd1:=@wpAny_truthy_bool
def bd3:=@List.pairwise_map
end
namespace L2
open PySem PySem.Spec PyProof.Rows
abbrev aD:=Sum Int Str
def kM:aD->Value->Bool
 | .inl k,v=>Value.isInt k v
 | .inr x,v=>Value.isStrOf x v
def V3 (w:World):aD->Int
 | .inl k=>hashInt k
 | .inr x=>hashStr w x
theorem gN:∀ {k:aD}{v:Value},kM k v=true->(∃ i t,k=Sum.inl i/\v=Value.int i t) ∨ (∃ x t,k=Sum.inr x/\v=Value.str x t)
 | .inl i,v,h=>by
  obtain ⟨t,e⟩:=Value.isInt_shape (k:=i) (v:=v) h
  exact .inl ⟨i,t,rfl,e⟩
 | .inr x,v,h=>by
  obtain ⟨t,e⟩:=Value.isStrOf_shape (x:=x) (v:=v) h
  exact .inr ⟨x,t,rfl,e⟩
theorem V4 (i:Int) (t:Tok):kM (.inl i) (.int i t)=true:=by simp [kM,Value.isInt]
theorem V5 (x:Str) (t:Tok):kM (.inr x) (.str x t)=true:=by simp [kM,Value.isStrOf]
theorem V6 (a b:Int):decide ((Sum.inl a:aD)=Sum.inl b)=(a == b):=by
 by_cases e:a=b
 ·subst e; simp
 ·have h : ¬ (Sum.inl a:aD)=Sum.inl b:=fun q=>e (Sum.inl.inj q)
  rw [aR5 h]
  exact (ba7.mpr e).symm
theorem V7 (a b:Str):decide ((Sum.inr a:aD)=Sum.inr b)=decide (a=b):=by
 by_cases e:a=b
 ·subst e; simp
 ·have h : ¬ (Sum.inr a:aD)=Sum.inr b:=fun q=>e (Sum.inr.inj q)
  rw [aR5 h,aR5 e]
theorem V8 (a:Int) (b:Str):decide ((Sum.inl a:aD)=Sum.inr b)=false:=aR5 (fun q=>nomatch q)
theorem V9 (a:Str) (b:Int):decide ((Sum.inr a:aD)=Sum.inl b)=false:=aR5 (fun q=>nomatch q)
def dF (prog:Program) (w:World):PySem.KeyKind prog w aD where
 is:=kM
 hash:=V3 w
 inj:=fun v a b ha hb=>by
  rcases gN ha with ⟨i,t,rfl,rfl⟩ | ⟨x,t,rfl,rfl⟩
  ·rcases gN hb with ⟨j,u,rfl,e⟩ | ⟨y,u,rfl,e⟩
   ·injection e with e1 _; rw [e1]
   ·exact nomatch e
  ·rcases gN hb with ⟨j,u,rfl,e⟩ | ⟨y,u,rfl,e⟩
   ·exact nomatch e
   ·injection e with e1 _; rw [e1]
 byValue:=fun k v h=>by
  rcases gN h with ⟨i,t,rfl,rfl⟩ | ⟨x,t,rfl,rfl⟩ <;> rfl
 pyHash:=fun hv h=>by
  rcases gN hv with ⟨i,t,rfl,rfl⟩ | ⟨x,t,rfl,rfl⟩
  ·exact wpAny_pyHash_int h
  ·exact wpAny_pyHash_str h
 eqBool:=fun hu hv h=>by
  rcases gN hu with ⟨i,t,rfl,rfl⟩ | ⟨x,t,rfl,rfl⟩
  ·rcases gN hv with ⟨j,u,rfl,rfl⟩ | ⟨y,u,rfl,rfl⟩
   ·rw [V6] at h; exact wpAny_eqBool_int h
   ·rw [V8] at h; exact SeqAt.EqAt.int_str i t y u _ _ _ _ h
  ·rcases gN hv with ⟨j,u,rfl,rfl⟩ | ⟨y,u,rfl,rfl⟩
   ·rw [V9] at h; exact SeqAt.EqAt.str_int x t j u _ _ _ _ h
   ·rw [V7] at h; exact wpAny_eqBool_str h
 «strs»:=fun k x t v h=>by
  rcases gN h with ⟨i,u,rfl,e⟩ | ⟨y,u,rfl,e⟩
  ·exact nomatch e
  ·injection e with e1 _
   subst e1
   cases v <;> rfl
theorem W0 (prog:Program) (w:World) (i:Int) (t:Tok):(dF prog w).is (.inl i) (.int i t)=true:=V4 i t
theorem W5 (prog:Program) (w:World) (x:Str) (t:Tok):(dF prog w).is (.inr x) (.str x t)=true:=V5 x t
inductive V where
 | non | bl (b:Bool) | int (i:Int) | str (x:Str) | byt (b:Array UInt8) | flt (b:UInt64) | ref (a:Addr) | ty (n:String)
 deriving DecidableEq
def aQ:V->Value->Prop
 | .non,u=>u=Value.none
 | .bl b,u=>u=Value.bool b
 | .int i,u=>∃ t,u=Value.int i t
 | .str x,u=>∃ t,u=Value.str x t
 | .byt b,u=>∃ t,u=Value.bytes b t
 | .flt b,u=>∃ t,u=Value.float b t
 | .ref a,u=>u=Value.ref a
 | .ty n,u=>u=Value.type n
abbrev aK:List V->List Value->Prop:=Paired aQ
theorem aK.length {xs:List V}{us:List Value} (r:aK xs us):xs.length=us.length:=Paired.length r
theorem aK.get:∀ {xs:List V}{us:List Value}{i:Nat}{x:V},aK xs us->xs[i]? = some x->∃ u,us[i]? = some u/\aQ x u
 | _,_,_,_,.nil,e=>by simp at e
 | _,_,0,_,.cons r _,e=>by simp at e; subst e; exact⟨_,rfl,r⟩
 | _,_,i+1,x,.cons _ t,e=>by
  obtain ⟨u,h1,h2⟩:=aK.get (i:=i) (x:=x) t (by simpa using e)
  exact⟨u,by simpa using h1,h2⟩
theorem aK.set {x:V}{u:Value} (r:aQ x u):∀ {xs:List V}{us:List Value} (i:Nat),aK xs us->aK (xs.set i x) (us.set i u)
 | _,_,_,.nil=>.nil
 | _,_,0,.cons _ t=>.cons r t
 | _,_,i+1,.cons q t=>.cons q (aK.set r i t)
theorem aK.append:∀ {xs ys:List V}{us ws:List Value},aK xs us->aK ys ws->aK (xs ++ ys) (us ++ ws)
 | _,_,_,_,.nil,s=>s
 | _,_,_,_,.cons r t,s=>.cons r (aK.append t s)
theorem aK.take:∀ {xs:List V}{us:List Value} (n:Nat),aK xs us->aK (xs.take n) (us.take n)
 | _,_,0,_=>.nil
 | _,_,_+1,.nil=>.nil
 | _,_,n+1,.cons r t=>.cons r (aK.take n t)
theorem aK.drop:∀ {xs:List V}{us:List Value} (n:Nat),aK xs us->aK (xs.drop n) (us.drop n)
 | _,_,0,r=>r
 | _,_,_+1,.nil=>.nil
 | _,_,n+1,.cons _ t=>aK.drop n t
def fO:Option V->Option Value->Prop
 | some v,some u=>aQ v u
 | none,none=>True
 | _,_=>False
def KV {κ:Type}:List (κ × V)->List (κ × Value)->Prop:=Paired fun (p:κ × V) (q:κ × Value)=>p.1=q.1/\aQ p.2 q.2
def kV:aD->V
 | .inl i=>.int i
 | .inr x=>.str x
inductive HO where
 | lst (xs:List V)
 | tup (xs:List V)
 | dK (kvs:List (aD × V)) | dT (kvs:List (List aD × V))
 | set (S:Int->Bool) (n:Nat)
 | ins (C dx:Addr) (fs:List (Str × V))
 | own (x:Addr)
 | xd (fs:List (Str × V))
 | met (f x:Addr)
 | rng (lo hi:Int)
 | frz (o:Obj) (u:HO)
 | tbl (ps:Array Value)
 | ext (φ:Heap->Prop)
abbrev Hp:=Addr->Option HO
def upd (H:Hp) (a:Addr) (o:HO):Hp:=fun b=>if b=a then some o else H b
theorem b8 {H:Hp}{a:Addr}{o:HO}:upd H a o a=some o:=by unfold upd; rw [if_pos rfl]
theorem aP {H:Hp}{a b:Addr}{o:HO} (h:b ≠ a):upd H a o b=H b:=by unfold upd; rw [if_neg h]
theorem W6 {H:Hp}{a b:Addr}{o u:HO} (h:H a=some o) (h':H b=some u) (d:o ≠ u):a ≠ b:=by
 intro e; subst e; rw [h] at h'; exact d (aT2 h')
theorem bX {H:Hp}{a b:Addr}{o:HO} (h:H a=some o) (h':H b=none):a ≠ b:=by
 intro e; subst e; rw [h] at h'; cases h'
section
variable (P : Program) (w : World)
def bP (H:Hp) (h:Heap) (a:Addr):HO->Prop
 | .lst xs=>xs.length<=sizeLine/\∃ (its:List Value) (n:Nat),aK xs its/\h.get? a=some { cls:=.type "list",data:=.seq its.toArray n }
 | .tup xs=>xs.length<=sizeLine/\∃ its:List Value,aK xs its/\IsTup h a its.toArray
 | .dK kvs=>kvs.length<=sizeLine/\(a == sysModules)=false/\∃ vs,KV kvs vs/\h.DictOf (dF P w) a vs
 | .dT kvs=>kvs.length<=sizeLine/\(a == sysModules)=false/\∃ xs:List (List aD × Addr × Value),
   Paired (fun (p:List aD × V) (q:List aD × Addr × Value)=>p.1=q.1/\H q.2.1=some (.tup (p.1.map kV))/\aQ p.2 q.2.2) kvs xs/\
   ∃ o es ep,h.get? a=some o/\o.ExactDict/\o.data = .dict es ep/\es.toList=xs.map (entryOfKey (tupleKind (dF P w)))/\(xs.map (·.1)).Nodup
 | .set S n=>h.SetOf (intKind P w) a S n
 | .ins C dx fs=>H dx=some (.own a)/\fs.length<=1000/\dx ≠ a/\h.get? a=some (PySem.W.instObj C dx)/\
   ∃ mA,h.Ns1 dx mA/\(∀ f,fO (fs.lookup f) (mA f))/\PySem.Within mA (fs.map (·.1))
 | .own _=>∃ o,h.get? a=some o
 | .xd fs=>∃ mA,h.Ns1 a mA/\∀ f,fO (fs.lookup f) (mA f)
 | .rng lo hi=>∃ t u v,h.get? a=some { cls:=.type "range",data:=.fields #[.int lo t,.int hi u,.int 1 v] }
 | .frz o u=>h.get? a=some o/\bP H h a u
 | .tbl ps=>h.get? a=some { cls:=.none,data:=.fields ps }
 | .met f x=>h.get? a=some (PySem.W.methodObj (.ref f) (.ref x))
 | .ext φ=>φ h/\(∃ o,h.get? a=some o)/\∀ h1 h2:Heap,φ h1->(∀ o,h1.get? a=some o->h2.get? a=some o)->φ h2
def bN (H:Hp) (h:Heap):Prop:=∀ a o,H a=some o->bP P w H h a o
end
section
variable {P : Program} {w : World} {H H' : Hp} {h h' : Heap} {a : Addr} {o : HO}
theorem bP.lt (x:bP P w H h a o):a < h.objs.size:=by
 cases o with
 | lst xs=>obtain ⟨_,_,_,_,e⟩:=x; exact aR8 e
 | tup xs=>obtain ⟨_,_,_,p⟩:=x; exact p.lt
 | dK kvs=>obtain ⟨_,_,_,_,o,_,_,e,_⟩:=x; exact aR8 e
 | dT kvs=>obtain ⟨_,_,_,_,o,_,_,e,_⟩:=x; exact aR8 e
 | set S n=>obtain ⟨o,_,_,_,e,_⟩:=x; exact aR8 e
 | ins C dx fs=>obtain ⟨_,_,_,e,_⟩:=x; exact aR8 e
 | own y=>obtain ⟨_,e⟩:=x; exact aR8 e
 | xd fs=>obtain ⟨_,⟨_,_,_,e,_⟩,_⟩:=x; exact aR8 e
 | rng lo hi=>obtain ⟨_,_,_,e⟩:=x; exact aR8 e
 | frz ob u=>obtain ⟨e,_⟩:=x; exact aR8 e
 | tbl ps=>exact aR8 (show h.get? a=some _ from x)
 | met f y=>exact aR8 (show h.get? a=some _ from x)
 | ext φ=>obtain ⟨_,⟨_,e⟩,_⟩:=x; exact aR8 e
theorem Paired.mapP {α β:Type}{F G:α->β->Prop}:∀ {l₁:List α}{l₂:List β},Paired F l₁ l₂->(∀ a b,F a b->G a b)->Paired G l₁ l₂
 | _,_,.nil,_=>.nil
 | _,_,.cons r t,f=>.cons (f _ _ r) (Paired.mapP t f)
theorem bP.stay (x:bP P w H h a o) (k:∀ b u,(b=a ∨ H b=some (.own a))->h.get? b=some u->h'.get? b=some u)
  (ho:∀ b,H b=some (.own a)->H' b=some (.own a)) (ht:∀ b xs,H b=some (.tup xs)->H' b=some (.tup xs)):bP P w H' h' a o:=by
 induction o with
 | lst xs=>obtain ⟨z,its,n,r,e⟩:=x; exact⟨z,its,n,r,k _ _ (.inl rfl) e⟩
 | tup xs=>obtain ⟨z,its,r,ob,e,c⟩:=x; exact⟨z,its,r,ob,k _ _ (.inl rfl) e,c⟩
 | dK kvs=>obtain ⟨z,y,vs,r,ob,es,ep,e,c⟩:=x; exact⟨z,y,vs,r,ob,es,ep,k _ _ (.inl rfl) e,c⟩
 | dT kvs=>
  obtain ⟨z,y,xs,r,ob,es,ep,e,c⟩:=x
  exact⟨z,y,xs,Paired.mapP r fun p q z=>⟨z.1,ht _ _ z.2.1,z.2.2⟩,ob,es,ep,k _ _ (.inl rfl) e,c⟩
 | set S n=>obtain ⟨ob,es,ep,t,e,c⟩:=x; exact⟨ob,es,ep,t,k _ _ (.inl rfl) e,c⟩
 | ins C dx fs=>
  obtain ⟨d,z,ne,e,mA,⟨od,es,ep,e2,c⟩,r⟩:=x
  exact⟨ho _ d,z,ne,k _ _ (.inl rfl) e,mA,⟨od,es,ep,k _ _ (.inr d) e2,c⟩,r⟩
 | own y=>obtain ⟨ob,e⟩:=x; exact⟨ob,k _ _ (.inl rfl) e⟩
 | xd fs=>obtain ⟨mA,⟨od,es,ep,e,c⟩,r⟩:=x; exact⟨mA,⟨od,es,ep,k _ _ (.inl rfl) e,c⟩,r⟩
 | rng lo hi=>obtain ⟨t,u,v,e⟩:=x; exact⟨t,u,v,k _ _ (.inl rfl) e⟩
 | frz ob u ih=>obtain ⟨e,q⟩:=x; exact⟨k _ _ (.inl rfl) e,ih q⟩
 | tbl ps=>
  have e:h.get? a=some { cls:=.none,data:=.fields ps }:=x
  show h'.get? a=some { cls:=.none,data:=.fields ps }
  exact k a _ (.inl rfl) e
 | met f y=>
  have e:h.get? a=some (PySem.W.methodObj (.ref f) (.ref y)):=x
  show h'.get? a=some (PySem.W.methodObj (.ref f) (.ref y))
  exact k a _ (.inl rfl) e
 | ext φ=>obtain ⟨p,⟨o,e⟩,st⟩:=x; exact⟨st _ _ p fun o q=>k _ _ (.inl rfl) q,⟨o,k _ _ (.inl rfl) e⟩,st⟩
theorem bN.lt (x:bN P w H h) (e:H a=some o):a < h.objs.size:=(x a o e).lt
theorem bN.fresh (x:bN P w H h) (e:h.objs.size<=a):H a=none:=by
 cases q:H a with
 | none=>rfl
 | some u=>exact absurd (aR9 (x.lt q) e) (aW1 _)
theorem bN.kept (x:bN P w H h) (k:∀ b u,h.get? b=some u->h'.get? b=some u):bN P w H h':=fun a o e=>
 (x a o e).stay (fun b u _ q=>k b u q) (fun _ q=>q) fun _ _ q=>q
theorem bN.laid (x:bN P w H h) (k:∀ b u,h.get? b=some u->h'.get? b=some u) (hp:h.objs.size<=a) (new:bP P w (upd H a o) h' a o):bN P w (upd H a o) h':=fun b u e=>by
 have hn:=x.fresh hp
 by_cases hb:b=a
 ·subst hb; rw [b8] at e; cases e; exact new
 ·rw [aP hb] at e
  exact (x b u e).stay (fun c v _ q=>k c v q) (fun c q=>by rw [aP (bX q hn)]; exact q) fun c xs q=>by rw [aP (bX q hn)]; exact q
end
def Rd (H:Hp) (a:Addr) (u:HO):Prop:=H a=some u ∨ ∃ o,H a=some (.frz o u)
theorem Rd.ok {P:Program}{w:World}{H:Hp}{h:Heap}{a:Addr}{u:HO} (r:Rd H a u) (x:bN P w H h):bP P w H h a u:=by
 rcases r with r | ⟨o,r⟩
 ·exact x a u r
 ·obtain ⟨_,q⟩:=x a _ r
  exact q
def lV:Option HO->Prop
 | some (.lst _)=>True
 | some (.dK _)=>True
 | some (.dT _)=>True
 | some (.set _ _)=>True
 | some (.ins _ _ _)=>True
 | some (.ext _)=>True
 | _=>False
section
variable {P : Program} {w : World} {H : Hp} {h h' : Heap} {x e : Addr} {o' : HO}
theorem bN.write (ok:bN P w H h) (mu:lV (H x)) (he:e=x ∨ H e=some (.own x)) (k:∀ b u,b ≠ e->h.get? b=some u->h'.get? b=some u) (heo:∃ u,h'.get? e=some u)
  (new:bP P w (upd H x o') h' x o'):bN P w (upd H x o') h':=fun b u q=>by
 have nown:∀ c y,H c=some (.own y)->c ≠ x:=fun c y r z=>by subst z; rw [r] at mu; exact mu
 have ntup:∀ c xs,H c=some (.tup xs)->c ≠ x:=fun c xs r z=>by subst z; rw [r] at mu; exact mu
 by_cases hb:b=x
 ·subst hb; rw [b8] at q; cases q; exact new
 ·rw [aP hb] at q
  by_cases hbe:b=e
  ·have q':H b=some (.own x):=by
    rcases he with z | z
    ·exact absurd (hbe.trans z) hb
    ·rw [hbe]; exact z
   rw [q] at q'; cases q'
   obtain ⟨v,hv⟩:=heo
   exact⟨v,by rw [hbe]; exact hv⟩
  ·refine (ok b u q).stay (fun c v hc r=>k c v ?_ r) (fun c r=>by rw [aP (nown c b r)]; exact r) fun c xs r=>by rw [aP (ntup c xs r)]; exact r
   rcases hc with rfl | hc
   ·exact hbe
   ·rintro rfl
    rcases he with z | z
    ·exact nown c b hc z
    ·rw [hc] at z; cases z; exact hb rfl
end
structure Un (fs ex:List Addr) (H H':Hp) (h h':Heap):Prop where
 keep:∀ b o,h.get? b=some o->H b=none->b ∉ fs->b ∉ ex->h'.get? b=some o
 slot:∀ b o,h.get? b=some o->H b=none->b ∈ fs->b ∉ ex->∃ sl,h'.get? b=some { o with slots:=sl }
 free:∀ b o,h.get? b=some o->H b=none->b ∉ ex->H' b=none
 there:∀ b o,h.get? b=some o->b ∉ ex->∃ o',h'.get? b=some o'
 tups:∀ b xs,H b=some (.tup xs)->H' b=some (.tup xs)
 frzs:∀ b o u,H b=some (.frz o u)->H' b=some (.frz o u)
 tbls:∀ b ps,H b=some (.tbl ps)->∃ more,H' b=some (.tbl (ps ++ more))
section
variable {fs fs' ex ex' : List Addr} {H H1 H2 : Hp} {h h1 h2 h' : Heap} {a x e : Addr} {o : HO}
theorem Un.any (u:Un fs ex H H1 h h1) {b:Addr}{ob:Obj} (q:h.get? b=some ob) (n:H b=none) (hx:b ∉ ex):∃ sl,h1.get? b=some { ob with slots:=sl }:=by
 by_cases hb:b ∈ fs
 ·exact u.slot b ob q n hb hx
 ·exact⟨ob.slots,u.keep b ob q n hb hx⟩
theorem Un.kept (k:∀ b u,h.get? b=some u->h'.get? b=some u):Un fs ex H H h h':=
 ⟨fun b ob q _ _ _=>k b ob q,fun b ob q _ _ _=>⟨ob.slots,k b ob q⟩,fun _ _ _ n _=>n,fun b ob q _=>⟨ob,k b ob q⟩,fun _ _ q=>q,fun _ _ _ q=>q,fun _ ps q=>⟨#[],by rw [q]; simp⟩⟩
theorem Un.refl:Un fs ex H H h h:=Un.kept fun _ _ q=>q
theorem Un.laid (k:∀ b u,h.get? b=some u->h'.get? b=some u) (hp:h.objs.size<=a) (hn:H a=none):Un fs ex H (upd H a o) h h' where
 keep:=fun b u q _ _ _=>k b u q
 slot:=fun b u q _ _ _=>⟨u.slots,k b u q⟩
 free:=fun b u q n _=>by rw [aP (aT3 (aR9 (aR8 q) hp))]; exact n
 there:=fun b u q _=>⟨u,k b u q⟩
 tups:=fun b xs q=>by rw [aP (bX q hn)]; exact q
 frzs:=fun b u xs q=>by rw [aP (bX q hn)]; exact q
 tbls:=fun b ps q=>⟨#[],by rw [aP (bX q hn),q]; simp⟩
theorem Un.write (mu:lV (H x)) (he:e=x ∨ H e=some (.own x)) (k:∀ b u,b ≠ e->h.get? b=some u->h'.get? b=some u) (heo:∃ u,h'.get? e=some u):Un fs ex H (upd H x o) h h':=by
 have hx:∀ b,H b=none->b ≠ x:=fun b n z=>by subst z; rw [n] at mu; exact mu
 have hb:∀ b,H b=none->b ≠ e:=fun b n z=>by
  subst z
  rcases he with r | r
  ·exact hx b n r
  ·rw [n] at r; cases r
 have hm:∀ b u,H b=some u->¬ lV (some u)->b ≠ x:=fun b u q nm z=>by subst z; rw [q] at mu; exact nm mu
 refine⟨fun b u q n _ _=>k b u (hb b n) q,fun b u q n _ _=>⟨u.slots,k b u (hb b n) q⟩,fun b u q n _=>by rw [aP (hx b n)]; exact n,fun b u q _=>?_,
  fun b xs q=>by rw [aP (hm b _ q fun z=>z)]; exact q,fun b u xs q=>by rw [aP (hm b _ q fun z=>z)]; exact q,fun b ps q=>⟨#[],by rw [aP (hm b _ q fun z=>z),q]; simp⟩⟩
 by_cases hbe:b=e
 ·subst hbe; exact heo
 ·exact⟨u,k b u hbe q⟩
end
def o4 (h:Heap) (H:Hp):List Addr:=(List.range h.objs.size).filter fun a=>(H a).isSome
def i3 (h:Heap) (H:Hp):Heap:=PySem.W.hideAll h (o4 h H)
theorem W7 (h:Heap) (H:Hp):(i3 h H).objs.size=h.objs.size:=PySem.W.hideAll_size _ _
theorem W8 {h:Heap}{H:Hp}{b:Addr}{o:Obj} (e:h.get? b=some o) (n:H b=none):(i3 h H).get? b=some o:=
 PySem.W.hideAll_get _ e fun hm=>by
  have q:(H b).isSome=true:=(List.mem_filter.mp hm).2
  rw [n] at q; simp at q
theorem W9 {h:Heap}{H:Hp}{b:Addr}{o:Obj} (e:(i3 h H).get? b=some o):h.get? b=some o/\H b=none:=by
 have e':h.get? b=some o:=PySem.W.of_hideAll (o4 h H) e
 refine⟨e',?_⟩
 cases q:H b with
 | none=>rfl
 | some x=>
  have hm:b ∈ o4 h H:=List.mem_filter.mpr ⟨bc1.mpr (aR8 e'),by simp [q]⟩
  have z:(i3 h H).get? b=none:=PySem.W.hideAll_none (o4 h H) hm
  rw [z] at e; cases e
def lW (g h:Heap) (L:Addr):List (Addr × Obj):=(List.range h.objs.size).filterMap fun a=>if a=L ∨ (g.get? a).isSome=true then none else (h.get? a).map fun o=>(a,o)
theorem vZ {g h:Heap}{L a:Addr}{o:Obj} (h1:a ≠ L) (h2:g.get? a=none) (h3:h.get? a=some o):(a,o) ∈ lW g h L:=
 List.mem_filterMap.mpr ⟨a,bc1.mpr (aR8 h3),by simp [h1,h2,h3]⟩
theorem X0 {g h:Heap}{L:Addr}{p:Addr × Obj} (hp:p ∈ lW g h L):p.1 ≠ L/\g.get? p.1=none/\h.get? p.1=some p.2:=by
 obtain ⟨b,_,e⟩:=List.mem_filterMap.mp hp
 split at e
 ·cases e
 ·rename_i hn
  cases q:h.get? b with
  | none=>rw [q] at e; simp at e
  | some u=>
   rw [q] at e
   simp only [Option.map_some,Option.some.injEq] at e
   subst e
   refine⟨fun z=>hn (.inl z),?_,q⟩
   show g.get? b=none
   cases r:g.get? b with
   | none=>rfl
   | some v=>exact (hn (.inr (by simp [r]))).elim
def cQ (g h:Heap) (L d:Addr):List (Addr × Obj):=(lW g h L).filter fun p=>decide (p.1 ≠ d)
theorem X1 {g h:Heap}{L:Addr}:News g L h (lW g h L):=fun p hp=>let ⟨a,b,c⟩:=X0 hp; ⟨c,a,b⟩
structure Mod (K:PySem.W.Frag) (mg:Str->Option Value) (base:Heap):Prop where
 kin:K.In base
 glob:base.Ns mainGlobals mg
 blt:∃ mb,base.Ns builtinsNs mb/\∀ x:Str,x ≠ "__name__"->mb x=bootBuiltins x
 nolimit:base.NoLimit
structure Cx where
 prog:Program
 w:World
 K:PySem.W.Frag
 mg:Str->Option Value
 base:Heap
 A:Around
 N:List Str
 s₀:Shared
 H₀:Hp
 env:Env
 outer:List Env
 stack:List Env
 ex:List Addr
 fn:Str->Bool
 calm:Bool
 pn:List (Addr × Obj)
 xe:Value->Shared->Prop
def bI (l:List Env):List Addr:=l.filterMap (·.frame)
abbrev Cx.fs (X:Cx):List Addr:=bI X.outer
def dX (sc:Scope) (x:Str):Prop:=sc.names.lookup x=some .local ∨ sc.names.lookup x=some .cell ∨ sc.names.lookup x=some .free
def i4 (sc:Scope) (x:Str):Prop:=sc.names.lookup x=some .local ∨ sc.names.lookup x=some .cell
def X2 (env:Env) (h:Heap) (m:Str->Option Value) (x:Str) (u:Value):Prop:=
 (env.kindOf x=some .local/\m x=some u) ∨ ((env.kindOf x=some .cell ∨ env.kindOf x=some .free)/\∃ c,env.cells.lookup x=some c/\h.IsCell c (some u))
structure Cx.Ok (X:Cx):Prop where
 mod:Mod X.K X.mg X.base
 kind:X.env.scope.kind = .function
 glob:X.env.globals=mainGlobals
 blt:X.env.builtins=builtinsNs
 above:X.s₀.heap.objs.size<=X.env.locals
 inj:∀ x y c,X.env.cells.lookup x=some c->X.env.cells.lookup y=some c->x=y
 has:∀ x,(X.env.kindOf x=some .cell ∨ X.env.kindOf x=some .free)->∃ c,X.env.cells.lookup x=some c
 cab:∀ x c,X.fn x=true->X.env.cells.lookup x=some c->X.s₀.heap.objs.size<=c
 hd:X.calm=true->X.A.handled=none
 frames:X.A.frames=some X.stack
 stk:X.stack=X.outer ∨ (X.stack=X.env :: X.outer/\X.env.frame=some X.env.locals)
 exf:∀ b ∈ X.ex,b ≠ X.env.locals/\∀ x c,X.env.cells.lookup x=some c->c ≠ b
 bs:∀ b o,X.base.get? b=some o->X.s₀.heap.get? b=some o/\X.H₀ b=none
 bsz:X.base.objs.size<=X.s₀.heap.objs.size
 noex:∀ b o,X.base.get? b=some o->b ∉ X.ex
 exfs:∀ b ∈ X.ex,b ∉ X.fs
 funs:X.s₀.heap.FunFrames X.base X.outer
 frf:∀ b ∈ X.fs,X.H₀ b=none
structure a8 (X:Cx) (pins:List (Addr × Obj)) (σ:List (Option V)) (H:Hp) (s:Shared):Prop where
 ok:X.Ok
 os:s.os=X.s₀.os
 bare:AllBare s.gens
 base:Un X.fs X.ex X.H₀ H X.s₀.heap s.heap
 loc:∃ m,s.heap.Ns X.env.locals m/\∀ (i:Nat) (x:Str) (v:V),X.N[i]? = some x->σ[i]? = some (some v)->dX X.env.scope x->∃ u,aQ v u/\X2 X.env s.heap m x u
 cell:∀ x c,X.env.cells.lookup x=some c->∃ v,s.heap.IsCell c v
 free:H X.env.locals=none
 freeC:∀ x c,X.env.cells.lookup x=some c->H c=none
 pin:∀ p ∈ X.pn ++ pins,s.heap.get? p.1=some p.2/\H p.1=none/\p.1 ≠ X.env.locals/\p.1 ∉ X.fs/\∀ v,p.2.data ≠ .cell v
 hok:bN X.prog X.w H s.heap
 len:σ.length=X.N.length
section
variable {X : Cx} {pins : List (Addr × Obj)} {σ : List (Option V)} {H H' : Hp} {s : Shared} {h' : Heap}
theorem Cx.Ok.nofr (ok:X.Ok) {b:Addr}{o:Obj} (e:X.base.get? b=some o):b ∉ X.fs:=fun hb=>by
 have:=(ok.funs.mem hb).1
 rw [e] at this; cases this
theorem a8.bs (I:a8 X pins σ H s):∀ b o,X.base.get? b=some o->s.heap.get? b=some o/\H b=none:=fun b o e=>
 ⟨I.base.keep b o (I.ok.bs b o e).1 (I.ok.bs b o e).2 (I.ok.nofr e) (I.ok.noex b o e),I.base.free b o (I.ok.bs b o e).1 (I.ok.bs b o e).2 (I.ok.noex b o e)⟩
theorem a8.bk (I:a8 X pins σ H s):∀ b o,X.base.get? b=some o->s.heap.get? b=some o:=fun b o e=>(I.bs b o e).1
theorem a8.mod (I:a8 X pins σ H s):Mod X.K X.mg X.base:=I.ok.mod
theorem a8.kIn (I:a8 X pins σ H s):X.K.In s.heap:=I.ok.mod.kin.keeps I.bk
theorem a8.fr (I:a8 X pins σ H s):∃ m,Fr X.base X.env.locals s.heap m:=
 let ⟨m,hn,_⟩:=I.loc
 ⟨m,hn,I.bk,aT4 I.ok.bsz I.ok.above⟩
theorem a8.lt (I:a8 X pins σ H s):X.env.locals < s.heap.objs.size:=let ⟨_,hn,_⟩:=I.loc; hn.lt
theorem a8.sz (I:a8 X pins σ H s):X.s₀.heap.objs.size<=s.heap.objs.size:=aT4 I.ok.above (aV0 I.lt)
theorem a8.nofs (I:a8 X pins σ H s) {a:Addr} (h:s.heap.objs.size<=a):a ∉ X.fs:=fun hb=>by
 obtain ⟨_,o,ho,_⟩:=I.ok.funs.mem hb
 exact absurd (aR9 (aR8 ho) (aT4 I.sz h)) (aW1 _)
theorem a8.cne (I:a8 X pins σ H s):∀ x c,X.env.cells.lookup x=some c->c ≠ X.env.locals:=fun x c e z=>by
 obtain ⟨v,o,ho,hd⟩:=I.cell x c e
 obtain ⟨m,⟨o',es,ep,ho',hd',_⟩,_⟩:=I.loc
 rw [z,ho'] at ho; cases ho; rw [hd'] at hd; cases hd
theorem a8.funs (I:a8 X pins σ H s):s.heap.FunFrames X.base X.outer:=by
 have all:∀ (l:List Env),(∀ b ∈ bI l,b ∈ X.fs)->X.s₀.heap.FunFrames X.base l->s.heap.FunFrames X.base l:=by
  intro l
  induction l with
  | nil=>intro _ _; trivial
  | cons env r ih=>
   intro hs hl
   obtain ⟨hk,⟨L,o,hf,hn,ho,hd⟩,hr⟩:=hl
   have hL:L ∈ X.fs:=hs L (by unfold bI; rw [List.filterMap_cons,hf]; exact aS0)
   obtain ⟨sl,e⟩:=I.base.slot L o ho (I.ok.frf L hL) hL fun z=>I.ok.exfs L z hL
   exact⟨hk,⟨L,_,hf,hn,e,hd⟩,ih (fun b hb=>hs b (by unfold bI; rw [List.filterMap_cons,hf]; exact aS2 _ hb)) hr⟩
 exact all X.outer (fun _ hb=>hb) I.ok.funs
theorem a8.stack (I:a8 X pins σ H s):s.heap.FunFrames X.base X.stack:=by
 rcases I.ok.stk with e | ⟨e,hf⟩
 ·rw [e]; exact I.funs
 ·rw [e]
  obtain ⟨m,hn,_⟩:=I.loc
  refine .cons (by rw [I.ok.kind]; decide) hf hn ?_ I.funs
  exact Heap.get?_none_of_le (aT4 I.ok.bsz I.ok.above)
theorem a8.stkSub (I:a8 X pins σ H s):∀ b ∈ bI X.stack,b ∈ X.env.locals :: X.fs:=fun b hb=>by
 rcases I.ok.stk with e | ⟨e,hf⟩
 ·rw [e] at hb; exact aS2 _ hb
 ·rw [e] at hb
  unfold bI at hb
  rw [List.filterMap_cons,hf] at hb
  exact hb
theorem a8.stkFree (I:a8 X pins σ H s):∀ b ∈ bI X.stack,H b=none:=fun b hb=>by
 rcases aR2.mp (I.stkSub b hb) with e | hb
 ·rw [e]; exact I.free
 ·obtain ⟨_,o,ho,_⟩:=I.ok.funs.mem hb
  exact I.base.free b o ho (I.ok.frf b hb) fun z=>I.ok.exfs b z hb
theorem a8.step {g':Array GenState}{t':Nat}{d':Drawn}{ch:List Addr} (I:a8 X pins σ H s)
  (hch:∀ b ∈ ch,(b ∈ X.ex ∨ X.s₀.heap.objs.size<=b)/\b ≠ X.env.locals/\(∀ x c,X.env.cells.lookup x=some c->c ≠ b)/\∀ p ∈ X.pn ++ pins,p.1 ≠ b)
  (keep:∀ b o,b ≠ X.env.locals->b ∉ X.fs->b ∉ ch->s.heap.get? b=some o->H b=none->h'.get? b=some o)
  (slot:∀ b o,b ≠ X.env.locals->b ∈ X.fs->b ∉ ch->s.heap.get? b=some o->H b=none->∃ sl,h'.get? b=some { o with slots:=sl }) (free:∀ b o,b ∉ ch->s.heap.get? b=some o->H b=none->H' b=none)
  (there:∀ b o,b ∉ ch->s.heap.get? b=some o->∃ o',h'.get? b=some o')
  (tups:∀ b xs,H b=some (.tup xs)->H' b=some (.tup xs)) (frzs:∀ b o u,H b=some (.frz o u)->H' b=some (.frz o u)) (tbls:∀ b ps,H b=some (.tbl ps)->∃ more,H' b=some (.tbl (ps ++ more)))
  (ns:∀ m,s.heap.Ns X.env.locals m->h'.Ns X.env.locals m) (hok:bN X.prog X.w H' h') (hg:AllBare g') :
  a8 X pins σ H' { s with heap:=h',gens:=g',drawn:=d',toks:=t' }:=by
 have neL:∀ b o,X.s₀.heap.get? b=some o->b ≠ X.env.locals:=fun b o e=>aT3 (aR9 (aR8 e) I.ok.above)
 have neC:∀ b o,X.s₀.heap.get? b=some o->b ∉ X.ex->b ∉ ch:=fun b o e hx hb=>by
  rcases (hch b hb).1 with z | z
  ·exact hx z
  ·exact absurd (aR9 (aR8 e) z) (aW1 _)
 have cellK:∀ x c,X.env.cells.lookup x=some c->∀ v,s.heap.IsCell c v->h'.IsCell c v:=fun x c e v ⟨o,ho,hd⟩=>by
  have nch:c ∉ ch:=fun z=>(hch c z).2.2.1 x c e rfl
  by_cases hc:c ∈ X.fs
  ·obtain ⟨sl,q⟩:=slot c o (I.cne x c e) hc nch ho (I.freeC x c e)
   exact⟨_,q,hd⟩
  ·exact⟨o,keep c o (I.cne x c e) hc nch ho (I.freeC x c e),hd⟩
 refine⟨I.ok,I.os,hg,⟨fun b o e n hb hx=>?_,fun b o e n hb hx=>?_,fun b o e n hx=>?_,fun b o e hx=>?_,fun b xs e=>tups b xs (I.base.tups b xs e),fun b o xs e=>frzs b o xs (I.base.frzs b o xs e),fun b ps e=>?_⟩,?_,fun x c e=>?_,?_,fun x c e=>?_,fun p hp=>?_,hok,I.len⟩
 ·exact keep b o (neL b o e) hb (neC b o e hx) (I.base.keep b o e n hb hx) (I.base.free b o e n hx)
 ·obtain ⟨sl,e1⟩:=I.base.slot b o e n hb hx
  obtain ⟨sl',e2⟩:=slot b _ (neL b o e) hb (neC b o e hx) e1 (I.base.free b o e n hx)
  exact⟨sl',e2⟩
 ·obtain ⟨o',e1⟩:=I.base.there b o e hx
  exact free b o' (neC b o e hx) e1 (I.base.free b o e n hx)
 ·obtain ⟨o',e1⟩:=I.base.there b o e hx
  exact there b o' (neC b o e hx) e1
 ·obtain ⟨m1,e1⟩:=I.base.tbls b ps e
  obtain ⟨m2,e2⟩:=tbls b _ e1
  exact⟨m1 ++ m2,by rw [e2,Array.append_assoc]⟩
 ·obtain ⟨m,hn,hl⟩:=I.loc
  refine⟨m,ns m hn,fun i x v e1 e2 e3=>?_⟩
  obtain ⟨u,r,l⟩:=hl i x v e1 e2 e3
  refine⟨u,r,?_⟩
  rcases l with l | ⟨k,c,e,z⟩
  ·exact .inl l
  ·exact .inr ⟨k,c,e,cellK x c e _ z⟩
 ·obtain ⟨v,z⟩:=I.cell x c e
  exact⟨v,cellK x c e v z⟩
 ·obtain ⟨m,⟨o,_,_,ho,_⟩,_⟩:=I.loc
  exact free _ o (fun z=>(hch _ z).2.1 rfl) ho I.free
 ·obtain ⟨v,o,ho,hd⟩:=I.cell x c e
  exact free c o (fun z=>(hch c z).2.2.1 x c e rfl) ho (I.freeC x c e)
 ·obtain ⟨e,n,ne,nf,d⟩:=I.pin p hp
  have nch:p.1 ∉ ch:=fun z=>(hch p.1 z).2.2.2 p hp rfl
  exact⟨keep p.1 p.2 ne nf nch e n,free p.1 p.2 nch e n,ne,nf,d⟩
theorem a8.un {t':Nat} (I:a8 X pins σ H s) (u:Un X.fs [] H H' s.heap h') (hok:bN X.prog X.w H' h'):a8 X pins σ H' { s with heap:=h',toks:=t' }:=by
 obtain ⟨m,⟨o,es,ep,ho,r⟩,_⟩:=id I.loc
 obtain ⟨sl,hL⟩:=u.any ho I.free (by simp)
 exact I.step (g':=s.gens) (d':=s.drawn) (ch:=[]) (fun _ z=>nomatch z) (fun b o _ hb _ e n=>u.keep b o e n hb (by simp)) (fun b o _ hb _ e n=>u.slot b o e n hb (by simp)) (fun b o _ e n=>u.free b o e n (by simp)) (fun b o _ e=>u.there b o e (by simp)) u.tups u.frzs u.tbls (fun m' hm=>by
  obtain ⟨o',es',ep',ho',r'⟩:=hm
  rw [ho] at ho'; cases ho'
  exact⟨_,es',ep',hL,r'⟩) hok I.bare
theorem a8.call {g':Array GenState}{t':Nat}{d':Drawn}{ch:List Addr} (I:a8 X pins σ H s) (u:Un (bI X.stack) ch H H' s.heap h') (hok:bN X.prog X.w H' h') (hg:AllBare g')
  (hch:∀ b ∈ ch,(b ∈ X.ex ∨ X.s₀.heap.objs.size<=b)/\b ≠ X.env.locals/\(∀ x c,X.env.cells.lookup x=some c->c ≠ b)/\∀ p ∈ X.pn ++ pins,p.1 ≠ b) :
  a8 X pins σ H' { s with heap:=h',gens:=g',drawn:=d',toks:=t' }:=by
 obtain ⟨m,⟨o,es,ep,ho,r⟩,_⟩:=id I.loc
 obtain ⟨sl,hL⟩:=u.any ho I.free fun z=>(hch _ z).2.1 rfl
 exact I.step (ch:=ch) hch (fun b o hL hb hc e n=>u.keep b o e n (fun z=>(aR2.mp (I.stkSub b z)).elim hL hb) hc) (fun b o _ _ hc e n=>u.any e n hc) (fun b o hc e n=>u.free b o e n hc) (fun b o hc e=>u.there b o e hc) u.tups u.frzs u.tbls (fun m' hm=>by
  obtain ⟨o',es',ep',ho',r'⟩:=hm
  rw [ho] at ho'; cases ho'
  exact⟨_,es',ep',hL,r'⟩) hok hg
theorem a8.turned {t':Nat}{it:Addr} (I:a8 X pins σ H s) (k:∀ b o,b ≠ it->s.heap.get? b=some o->h'.get? b=some o) (hn:H it=none) (hL:it ≠ X.env.locals)
  (h1:it ∈ X.ex ∨ X.s₀.heap.objs.size<=it) (h2:∀ x c,X.env.cells.lookup x=some c->c ≠ it) (h3:∀ p ∈ X.pn ++ pins,p.1 ≠ it):a8 X pins σ H { s with heap:=h',toks:=t' }:=by
 have nit:∀ b u,H b=some u->b ≠ it:=fun b u e z=>by rw [z,hn] at e; cases e
 refine I.step (g':=s.gens) (d':=s.drawn) (ch:=[it]) (fun b hb=>?_) (fun b o _ _ hc e _=>k b o (fun z=>hc (by simp [z])) e) (fun b o _ _ hc e _=>⟨o.slots,k b o (fun z=>hc (by simp [z])) e⟩) (fun _ _ _ _ n=>n)
  (fun b o hc e=>⟨o,k b o (fun z=>hc (by simp [z])) e⟩) (fun _ _ e=>e) (fun _ _ _ e=>e) (fun b ps e=>⟨#[],by rw [e]; simp⟩) (fun m hm=>?_) (fun b u e=>?_) I.bare
 ·have e:b=it:=by simpa using hb
  subst e
  exact⟨h1,hL,h2,h3⟩
 ·obtain ⟨o,es,ep,ho,r⟩:=hm
  exact⟨o,es,ep,k _ o (Ne.symm hL) ho,r⟩
 ·refine (I.hok b u e).stay (fun c v hc q=>k c v ?_ q) (fun _ q=>q) fun _ _ q=>q
  rcases hc with z | z
  ·rw [z]; exact nit b u e
  ·exact nit c _ z
theorem a8.tok (I:a8 X pins σ H s) (t:Nat):a8 X pins σ H { s with toks:=t }:=I.un (h':=s.heap) (t':=t) Un.refl I.hok
theorem a8.kept {t':Nat} (I:a8 X pins σ H s) (k:∀ b u,s.heap.get? b=some u->h'.get? b=some u):a8 X pins σ H { s with heap:=h',toks:=t' }:=I.un (Un.kept k) (I.hok.kept k)
theorem a8.laid {a:Addr}{o:HO}{t':Nat} (I:a8 X pins σ H s) (k:∀ b u,s.heap.get? b=some u->h'.get? b=some u) (hp:s.heap.objs.size<=a) (new:bP X.prog X.w (upd H a o) h' a o) :
  a8 X pins σ (upd H a o) { s with heap:=h',toks:=t' }:=I.un (Un.laid k hp (I.hok.fresh hp)) (I.hok.laid k hp new)
theorem a8.write {x e:Addr}{o:HO}{t':Nat} (I:a8 X pins σ H s) (mu:lV (H x)) (he:e=x ∨ H e=some (.own x)) (k:∀ b u,b ≠ e->s.heap.get? b=some u->h'.get? b=some u) (heo:∃ u,h'.get? e=some u)
  (new:bP X.prog X.w (upd H x o) h' x o):a8 X pins σ (upd H x o) { s with heap:=h',toks:=t' }:=I.un (Un.write mu he k heo) (I.hok.write mu he k heo new)
theorem a8.weak {σ':List (Option V)} (I:a8 X pins σ H s) (hl:σ'.length=σ.length) (w:∀ (i:Nat) v,σ'[i]? = some (some v)->σ[i]? = some (some v)):a8 X pins σ' H s:=
 ⟨I.ok,I.os,I.bare,I.base,let ⟨m,hn,hl'⟩:=I.loc; ⟨m,hn,fun i x v e1 e2 e3=>hl' i x v e1 (w i v e2) e3⟩,I.cell,I.free,I.freeC,I.pin,I.hok,hl.trans I.len⟩
theorem a8.pins_of {pins':List (Addr × Obj)} (I:a8 X pins σ H s) (h:∀ p ∈ pins',s.heap.get? p.1=some p.2/\H p.1=none/\p.1 ≠ X.env.locals/\p.1 ∉ X.fs/\∀ v,p.2.data ≠ .cell v):a8 X pins' σ H s:=
 ⟨I.ok,I.os,I.bare,I.base,I.loc,I.cell,I.free,I.freeC,fun p hp=>(aU2.mp hp).elim (fun z=>I.pin p (List.mem_append_left _ z)) (h p),I.hok,I.len⟩
theorem rJ {N:List Str} (hN:N.Nodup) {i j:Nat}{x:Str} (a:N[i]? = some x) (b:N[j]? = some x):i=j:=by
 obtain ⟨h1,e1⟩:=aR4.mp a
 obtain ⟨h2,e2⟩:=aR4.mp b
 exact (List.getElem_inj hN).mp (e1.trans e2.symm)
theorem w4 {M:Model}{A:Around}{E:Value->Shared->Prop}{i:Nat}{x:Str}{v:V}{u:Value}{Q:Unit->Shared->Prop} (I:a8 X pins σ H s) (hN:X.N.Nodup) (hi:X.N[i]? = some x) (hx:i4 X.env.scope x) (r:aQ v u)
  (h:∀ s',a8 X pins (σ.set i (some v)) H s'->(∃ a,Heap.SameBut a s.heap s'.heap/\(a=X.env.locals ∨ X.env.cells.lookup x=some a))->Q () s') (hf:X.fn x=true ∨ X.env.scope.names.lookup x=some .local:=by first | exact .inl rfl | exact .inr rfl | assumption):wpAny M A (storeName X.env x u) Q E s:=by
 obtain ⟨m,hn,hl⟩:=id I.loc
 have hcls:(X.env.scope.kind == .class || (X.env.scope.kind == .module && X.env.locals != X.env.globals))=false:=by rw [I.ok.kind]; rfl
 have hiσ:i < σ.length:=by rw [I.len]; exact (aR4.mp hi).1
 have cne:=I.cne
 have tracked:∀ {a:Addr}{h':Heap},(∃ o,s.heap.get? a=some o/\H a=none)->Heap.SameBut a s.heap h'->bN X.prog X.w H h':=fun {a h'} ha hs b ob e=>by
  obtain ⟨_,_,hfree⟩:=ha
  refine (I.hok b ob e).stay (fun c w' hc q=>(hs.2 c ?_).trans q) (fun _ q=>q) fun _ _ q=>q
  rintro rfl
  rcases hc with rfl | hc
  ·rw [hfree] at e; cases e
  ·rw [hfree] at hc; cases hc
 rcases hx with hk | hk
 ·refine wpAny_storeName_local hk hn (fun h' hn' hs=>?_) hcls
  obtain ⟨oL,_,_,hoL,_⟩:=id hn
  refine h _ ⟨I.ok,I.os,I.bare,⟨fun b o e n hb hx=>?_,fun b o e n hb hx=>?_,I.base.free,fun b o e hx=>?_,I.base.tups,I.base.frzs,I.base.tbls⟩,⟨_,hn',fun j y v' e1 e2 e3=>?_⟩,fun y c e=>?_,I.free,I.freeC,fun p hp=>?_,tracked ⟨oL,hoL,I.free⟩ hs,by simpa using I.len⟩ ⟨_,hs,.inl rfl⟩
  ·exact (hs.2 b (aT3 (aR9 (aR8 e) I.ok.above))).trans (I.base.keep b o e n hb hx)
  ·obtain ⟨sl,e1⟩:=I.base.slot b o e n hb hx
   exact⟨sl,(hs.2 b (aT3 (aR9 (aR8 e) I.ok.above))).trans e1⟩
  ·obtain ⟨o',e1⟩:=I.base.there b o e hx
   exact⟨o',(hs.2 b (aT3 (aR9 (aR8 e) I.ok.above))).trans e1⟩
  ·by_cases hj:j=i
   ·subst hj
    rw [hi] at e1; cases e1
    rw [aW7 hiσ] at e2
    cases e2
    exact⟨u,r,.inl ⟨hk,by simp⟩⟩
   ·rw [aS7 (Ne.symm hj)] at e2
    obtain ⟨u',r',q⟩:=hl j y v' e1 e2 e3
    refine⟨u',r',?_⟩
    rcases q with ⟨k,e⟩ | ⟨k,c,e,z⟩
    ·refine .inl ⟨k,?_⟩
     have:y ≠ x:=fun e=>hj (rJ hN e1 (e ▸ hi))
     simp [this,e]
    ·exact .inr ⟨k,c,e,z.sameBut hs (cne y c e)⟩
  ·obtain ⟨w',z⟩:=I.cell y c e
   exact⟨w',z.sameBut hs (cne y c e)⟩
  ·obtain ⟨e,n,ne,nf,d⟩:=I.pin p hp
   exact⟨(hs.2 p.1 ne).trans e,n,ne,nf,d⟩
 ·have hfn:X.fn x=true:=by
   rcases hf with z | z
   ·exact z
   ·rw [z] at hk; cases hk
  obtain ⟨c,hc⟩:=I.ok.has x (.inl hk)
  obtain ⟨w',z⟩:=I.cell x c hc
  refine wpAny_storeName_cell I.ok.kind hk hc z (fun h' hc' hs=>?_)
  obtain ⟨oc,hoc,hocd⟩:=id z
  refine h { s with heap:=h' } ⟨I.ok,I.os,I.bare,⟨fun b o e n hb hx=>?_,fun b o e n hb hx=>?_,I.base.free,fun b o e hx=>?_,I.base.tups,I.base.frzs,I.base.tbls⟩,⟨m,hn.sameBut hs (Ne.symm (cne x c hc)),fun j y v' e1 e2 e3=>?_⟩,fun y c' e=>?_,I.free,I.freeC,fun p hp=>?_,tracked ⟨oc,hoc,I.freeC x c hc⟩ hs,by simpa using I.len⟩ ⟨c,hs,.inr hc⟩
  ·exact (hs.2 b (aT3 (aR9 (aR8 e) (I.ok.cab x c hfn hc)))).trans (I.base.keep b o e n hb hx)
  ·obtain ⟨sl,e1⟩:=I.base.slot b o e n hb hx
   exact⟨sl,(hs.2 b (aT3 (aR9 (aR8 e) (I.ok.cab x c hfn hc)))).trans e1⟩
  ·obtain ⟨o',e1⟩:=I.base.there b o e hx
   exact⟨o',(hs.2 b (aT3 (aR9 (aR8 e) (I.ok.cab x c hfn hc)))).trans e1⟩
  ·by_cases hj:j=i
   ·subst hj
    rw [hi] at e1; cases e1
    rw [aW7 hiσ] at e2
    cases e2
    exact⟨u,r,.inr ⟨.inl hk,c,hc,hc'⟩⟩
   ·rw [aS7 (Ne.symm hj)] at e2
    obtain ⟨u',r',q⟩:=hl j y v' e1 e2 e3
    refine⟨u',r',?_⟩
    rcases q with q | ⟨k,c',e,z'⟩
    ·exact .inl q
    ·refine .inr ⟨k,c',e,z'.sameBut hs ?_⟩
     rintro rfl
     exact hj (rJ hN e1 (I.ok.inj _ _ _ e hc ▸ hi))
  ·by_cases hcc:c'=c
   ·subst hcc; exact⟨_,hc'⟩
   ·obtain ⟨w2,z2⟩:=I.cell y c' e
    exact⟨w2,z2.sameBut hs hcc⟩
  ·obtain ⟨e,n,ne,nf,d⟩:=I.pin p hp
   refine⟨(hs.2 p.1 ?_).trans e,n,ne,nf,d⟩
   intro q
   rw [q,hoc] at e
   have q':oc=p.2:=aT2 e
   exact d w' (by rw [<- q']; exact hocd)
theorem rK {M:Model}{A:Around}{E:Value->Shared->Prop}{i:Nat}{x:Str}{v:V}{u:Value}{Q:Unit->Shared->Prop} (I:a8 X pins σ H s) (hN:X.N.Nodup) (hi:X.N[i]? = some x) (hx:i4 X.env.scope x) (r:aQ v u)
  (h:∀ s',a8 X pins (σ.set i (some v)) H s'->Q () s') (hf:X.fn x=true ∨ X.env.scope.names.lookup x=some .local:=by first | exact .inl rfl | exact .inr rfl | assumption):wpAny M A (storeName X.env x u) Q E s:=
 w4 I hN hi hx r (fun s' I' _=>h s' I') hf
theorem a8.call' {s':Shared}{ch:List Addr} (I:a8 X pins σ H s) (ho:s'.os=s.os) (u:Un (bI X.stack) ch H H' s.heap s'.heap) (hok:bN X.prog X.w H' s'.heap) (hg:AllBare s'.gens)
  (hch:∀ b ∈ ch,(b ∈ X.ex ∨ X.s₀.heap.objs.size<=b)/\b ≠ X.env.locals/\(∀ x c,X.env.cells.lookup x=some c->c ≠ b)/\∀ p ∈ X.pn ++ pins,p.1 ≠ b):a8 X pins σ H' s':=by
 obtain ⟨h',g',d',t',o'⟩:=s'
 have e:o'=s.os:=ho
 subst e
 exact I.call (g':=g') (t':=t') (d':=d') u hok hg hch
end
abbrev XK:=Value->Option Addr->Hp->Prop
abbrev St:=List (Option V)
abbrev VK:=V->Hp->Prop
abbrev TE:=St->Hp->VK->Prop
abbrev TT:=St->Hp->(Bool->Hp->Prop)->Prop
abbrev TA:=St->Hp->(List V->Hp->Prop)->Prop
structure cE where
 nx:St->Hp->Prop
 rt:VK
 bk:St->Hp->Prop:=fun _ _=>False
 ct:St->Hp->Prop:=fun _ _=>False
abbrev TS:=cE->St->Hp->Prop
def EP (X:Cx) (pins:List (Addr × Obj)) (σ:St) (Q:VK) (u:Value) (s':Shared):Prop:=∃ v H',a8 X pins σ H' s'/\aQ v u/\Q v H'
def TP (X:Cx) (pins:List (Addr × Obj)) (σ:St) (Q:Bool->Hp->Prop) (b:Bool) (s':Shared):Prop:=∃ H',a8 X pins σ H' s'/\Q b H'
def AP (X:Cx) (pins:List (Addr × Obj)) (σ:St) (Q:List V->Hp->Prop) (us:List Value) (s':Shared):Prop:=∃ vs H',a8 X pins σ H' s'/\aK vs us/\Q vs H'
def SP (X:Cx) (pins:List (Addr × Obj)) (D:cE) (f:Flow) (s':Shared):Prop:=
 match f with
 | .next=>∃ σ' H',a8 X pins σ' H' s'/\D.nx σ' H'
 | .brk=>∃ σ' H',a8 X pins σ' H' s'/\D.bk σ' H'
 | .cont=>∃ σ' H',a8 X pins σ' H' s'/\D.ct σ' H'
 | .ret u=>∃ v σ' H',a8 X pins σ' H' s'/\aQ v u/\D.rt v H'
def PE (X:Cx) (e:Expr) (t:TE):Prop:=
 ∀ (pins:List (Addr × Obj)) (s:Shared) (σ:St) (H:Hp) (Q:VK),a8 X pins σ H s->t σ H Q->wpAny (model X.prog X.w) X.A (eval e X.env) (EP X pins σ Q) X.xe s
def PT (X:Cx) (e:Expr) (t:TT):Prop:=
 ∀ (pins:List (Addr × Obj)) (s:Shared) (σ:St) (H:Hp) (Q:Bool->Hp->Prop),a8 X pins σ H s->t σ H Q->wpAny (model X.prog X.w) X.A (isTrue e X.env (eval e X.env)) (TP X pins σ Q) X.xe s
def PW (X:Cx) (e:Expr) (t:TT):Prop:=
 ∀ (whole:Sem Value) (pins:List (Addr × Obj)) (s:Shared) (σ:St) (H:Hp) (Q:Bool->Hp->Prop),a8 X pins σ H s->t σ H Q->wpAny (model X.prog X.w) X.A (isTrue e X.env whole) (TP X pins σ Q) X.xe s
theorem PW.pt {X:Cx}{e:Expr}{t:TT} (h:PW X e t):PT X e t:=h _
def PA (X:Cx) (es:List Expr) (t:TA):Prop:=
 ∀ (pos:Pos) (pins:List (Addr × Obj)) (s:Shared) (σ:St) (H:Hp) (Q:List V->Hp->Prop),a8 X pins σ H s->t σ H Q->wpAny (model X.prog X.w) X.A (spliced (backTo pos (starEach es X.env))) (AP X pins σ Q) X.xe s
def PS (X:Cx) (st:Stmt) (t:TS):Prop:=
 ∀ (pins:List (Addr × Obj)) (s:Shared) (σ:St) (H:Hp) (D:cE),a8 X pins σ H s->t D σ H->wpAny (model X.prog X.w) X.A (exec st X.env) (SP X pins D) X.xe s
def cY (X:Cx) (st:List Stmt) (t:TS):Prop:=
 ∀ (pins:List (Addr × Obj)) (s:Shared) (σ:St) (H:Hp) (D:cE),a8 X pins σ H s->t D σ H->wpAny (model X.prog X.w) X.A (execs st X.env) (SP X pins D) X.xe s
theorem aL {α:Type}{t:Sem α}{Q Q':α->Shared->Prop}{M:Model}{A:Around}{E:Value->Shared->Prop}{s:Shared} (h:wpAny M A t Q E s) (hQ:∀ a s,Q a s->Q' a s):wpAny M A t Q' E s:=aX3 h hQ fun _ _ x=>x
section
variable {X : Cx}
theorem bin {a b:Expr}{ta tb:TE} (ha:PE X a ta) (hb:PE X b tb) {pins:List (Addr × Obj)}{s:Shared}{σ:St}{H:Hp}{R:V->V->Hp->Prop} (I:a8 X pins σ H s) (h:ta σ H fun x H1=>tb σ H1 fun y H2=>R x y H2)
  {α:Type}{Q:α->Shared->Prop}{f:Value->Value->Sem α}
  (hf:∀ v u s2 x y H2,a8 X pins σ H2 s2->aQ x v->aQ y u->R x y H2->wpAny (model X.prog X.w) X.A (f v u) Q X.xe s2) :
  wpAny (model X.prog X.w) X.A (eval a X.env) (fun v s₁=>wpAny (model X.prog X.w) X.A (eval b X.env) (fun u s₂=>wpAny (model X.prog X.w) X.A (f v u) Q X.xe s₂) X.xe s₁) X.xe s:=by
 refine aL (ha pins s σ H _ I h) fun v s1 ⟨x,H1,I1,r1,q1⟩=>?_
 refine aL (hb pins s1 σ H1 _ I1 q1) fun u s2 ⟨y,H2,I2,r2,q2⟩=>?_
 exact hf v u s2 x y H2 I2 r1 r2 q2
def eZ (i:Nat):TE:=fun σ H Q=>∃ v,σ[i]? = some (some v)/\Q v H
def tC (v:V):TE:=fun _ H Q=>Q v H
theorem fP {i:Nat}{x:Str}{pos:Pos} (hN:X.N[i]? = some x) (hv:dX X.env.scope x) (hd:(x == ("__debug__" : Str))=false:=by decide) (hcd:(x == ("__classdict__" : Str))=false:=by decide):PE X (.Name x pos) (eZ i):=by
 intro pins s σ H Q I h
 obtain ⟨v,e,h⟩:=h
 obtain ⟨m,hn,hl⟩:=I.loc
 obtain ⟨u,r,l⟩:=hl i x v hN e hv
 have fin:EP X pins σ Q u s:=⟨v,H,I,r,h⟩
 rcases l with ⟨hk,hm⟩ | ⟨hk,c,hc,hcell⟩
 ·exact wpAny_Name (wpAny_loadName_local I.ok.kind hk hn hm fin) hd
 ·rcases hk with hk | hk
  ·exact wpAny_Name (wpAny_loadName_cell I.ok.kind hk hc hcell fin) hd
  ·exact wpAny_Name (wpAny_loadName_free I.ok.kind hk hc hcell fin hcd) hd
theorem lX {i j pos}:PE X (.Constant (.int i) j pos) (tC (.int i)):=fun _ _ _ H _ I h=>wpAny_Constant_int ⟨.int i,H,I.tok _,⟨_,rfl⟩,h⟩
theorem X3 {b j pos}:PE X (.Constant (.bool b) j pos) (tC (.bl b)):=fun _ _ _ H _ I h=>Constant_bool ⟨.bl b,H,I,rfl,h⟩
theorem X4 {j pos}:PE X (.Constant .none j pos) (tC .non):=fun _ _ _ H _ I h=>Constant_none ⟨.non,H,I,rfl,h⟩
theorem X5 {x j pos}:PE X (.Constant (.str x) j pos) (tC (.str x)):=fun _ _ _ H _ I h=>Calls.Constant_str ⟨.str x,H,I.tok _,⟨_,rfl⟩,h⟩
def Gl (X:Cx) (x:Str):Prop:=X.env.kindOf x=some .globalImplicit
theorem lY {E:Value->Shared->Prop}{pins:List (Addr × Obj)}{s:Shared}{σ:St}{H:Hp}{x:Str}{u:Value}{pos:Pos}{Q:Value->Shared->Prop} (I:a8 X pins σ H s) (hg:Gl X x) (hm:X.mg x=some u) (h:Q u s)
  (hd:(x == ("__debug__" : Str))=false:=by decide):wpAny (model X.prog X.w) X.A (eval (.Name x pos) X.env) Q E s:=
 Calls.Name_function_global I.ok.kind hg (Calls.loadGlobal_global (by rw [I.ok.glob]; exact I.mod.glob.keeps I.bk) hm h) hd
theorem i5 {E:Value->Shared->Prop}{pins:List (Addr × Obj)}{s:Shared}{σ:St}{H:Hp}{x:Str}{u:Value}{pos:Pos}{Q:Value->Shared->Prop} (I:a8 X pins σ H s) (hg:Gl X x) (hm:X.mg x=none) (hv:bootBuiltins x=some u) (h:Q u s)
  (hn:x ≠ "__name__":=by decide) (hd:(x == ("__debug__" : Str))=false:=by decide):wpAny (model X.prog X.w) X.A (eval (.Name x pos) X.env) Q E s:=by
 obtain ⟨mb,h1,h2⟩:=I.mod.blt
 exact Calls.Name_function_global I.ok.kind hg (Calls.loadGlobal_builtin (by rw [I.ok.glob]; exact I.mod.glob.keeps I.bk) hm (by rw [I.ok.blt]; exact h1.keeps I.bk) ((h2 x hn).trans hv) h) hd
theorem w6 {x:Str}{v:V}{u:Value}{pos:Pos} (hg:Gl X x) (hm:X.mg x=some u) (r:aQ v u) (hd:(x == ("__debug__" : Str))=false:=by decide):PE X (.Name x pos) (tC v):=
 fun _ _ _ H _ I h=>lY I hg hm ⟨v,H,I,r,h⟩ hd
theorem X6 {x:Str}{v:V}{u:Value}{pos:Pos} (hg:Gl X x) (hm:X.mg x=none) (hv:bootBuiltins x=some u) (r:aQ v u) (hn:x ≠ "__name__":=by decide) (hd:(x == ("__debug__" : Str))=false:=by decide):PE X (.Name x pos) (tC v):=
 fun _ _ _ H _ I h=>i5 I hg hm hv ⟨v,H,I,r,h⟩ hn hd
variable {a b : Expr} {ta tb : TE} {pos : Pos}
def PC (X:Cx) (op:CmpOp) (a b:Expr) (t:TE):Prop:=
 ∀ (pins:List (Addr × Obj)) (s:Shared) (σ:St) (H:Hp) (Q:VK),a8 X pins σ H s->t σ H Q->
  wpAny (model X.prog X.w) X.A (eval a X.env) (fun v s₁=>wpAny (model X.prog X.w) X.A (eval b X.env) (fun u s₂=>wpAny (model X.prog X.w) X.A (compareOp op v u) (EP X pins σ Q) X.xe s₂) X.xe s₁) X.xe s
def tB (t:TE):TT:=fun σ H Q=>t σ H fun x H1=>∃ c,x = .bl c/\Q c H1
theorem X7 {op:CmpOp}{t:TE} (h:PC X op a b t) (h1:behindInMarks op b=false:=by first | exact nobehind _ (by decide) (by decide) | rfl):PE X (.Compare a [op] [b] pos) t:=fun pins s σ H Q I hw=>wpAny_Compare1 (h pins s σ H Q I hw) h1
theorem w9 {op:CmpOp}{t:TE} (h:PC X op a b t) (h1:behindInMarks op b=false:=by first | exact nobehind _ (by decide) (by decide) | rfl):PT X (.Compare a [op] [b] pos) (tB t):=by
 intro pins s σ H Q I hw
 refine wpAny_isTrue_Compare1 (aL (h pins s σ H _ I hw) fun v s1 h1=>aL h1 fun u s2 h2=>aL h2 fun c s3 ⟨x,H1,I1,r1,q1⟩=>?_) h1
 obtain ⟨d,rfl,q⟩:=q1
 cases r1
 exact bd1 ⟨H1,I1,q⟩
theorem X8 {e:Expr}{t:TE} (h:PE X e t) (he:∀ whole,isTrue e X.env whole=(do let v <- whole; standAt e.pos; holding [v] (truthy v)):=by intro _; rfl):PT X e (tB t):=by
 intro pins s σ H Q I hw
 refine isTrue_plain (aL (h pins s σ H _ I hw) fun v s1 ⟨x,H1,I1,r1,q1⟩=>?_) (he _)
 obtain ⟨d,rfl,q⟩:=q1
 cases r1
 exact bd1 ⟨H1,I1,q⟩
variable {tA tB' : TT} {cQ : List Expr}
def wA (t u:TT):TT:=fun σ H Q=>t σ H fun c H1=>if c=true then u σ H1 Q else Q false H1
def wB (t u:TT):TT:=fun σ H Q=>t σ H fun c H1=>if c=true then Q true H1 else u σ H1 Q
def wC (t:TT):TT:=fun σ H Q=>t σ H fun c H1=>Q (!c) H1
theorem X9 (ha:PT X a tA):PW X (.BoolOp .And [a] pos) tA:=by
 intro wh pins s σ H Q I h
 refine isTrue_and (aL (ha pins s σ H Q I h) fun c s1 e=>?_)
 cases c with
 | true=>exact isTrue_and_nil e
 | false=>exact e
theorem Y0 (ha:PT X a tA):PW X (.BoolOp .Or [a] pos) tA:=by
 intro wh pins s σ H Q I h
 refine isTrue_or (aL (ha pins s σ H Q I h) fun c s1 e=>?_)
 cases c with
 | false=>exact isTrue_or_nil e
 | true=>exact e
theorem Y1 (ha:PT X a tA) (hb:PW X (.BoolOp .And (b :: cQ) pos) tB'):PW X (.BoolOp .And (a :: b :: cQ) pos) (wA tA tB'):=by
 intro wh pins s σ H Q I h
 refine isTrue_and (aL (ha pins s σ H _ I h) fun c s1 ⟨H1,I1,q1⟩=>?_)
 cases c with
 | true=>exact hb wh pins s1 σ H1 Q I1 q1
 | false=>exact⟨H1,I1,q1⟩
theorem Y2 (ha:PT X a tA) (hb:PW X (.BoolOp .Or (b :: cQ) pos) tB'):PW X (.BoolOp .Or (a :: b :: cQ) pos) (wB tA tB'):=by
 intro wh pins s σ H Q I h
 refine isTrue_or (aL (ha pins s σ H _ I h) fun c s1 ⟨H1,I1,q1⟩=>?_)
 cases c with
 | true=>exact⟨H1,I1,q1⟩
 | false=>exact hb wh pins s1 σ H1 Q I1 q1
theorem Y3 (ha:PT X a tA):PT X (.UnaryOp .Not a pos) (wC tA):=by
 intro pins s σ H Q I h
 exact isTrue_not (ha pins s σ H (fun c H1=>Q (!c) H1) I h)
def wD (ta tb:TE):TE:=fun σ H Q=>ta σ H fun x H1=>∃ c,x = .bl c/\if c=true then tb σ H1 Q else Q (.bl false) H1
theorem Y4 {op}{t:TE} (h:PE X a t):PE X (.BoolOp op [a] pos) t:=fun pins s σ H Q I hw=>BoolOp_one (h pins s σ H Q I hw)
theorem Y5 (ha:PE X a ta) (hb:PE X (.BoolOp .And (b :: cQ) pos) tb):PE X (.BoolOp .And (a :: b :: cQ) pos) (wD ta tb):=by
 intro pins s σ H Q I h
 refine BoolOp_and (aL (ha pins s σ H _ I h) fun v s1 ⟨x,H1,I1,r1,q1⟩=>?_)
 obtain ⟨c,rfl,q1⟩:=q1
 cases r1
 refine bd1 ?_
 cases c with
 | true=>exact hb pins s1 σ H1 Q I1 q1
 | false=>exact⟨.bl false,H1,I1,rfl,q1⟩
end
def aM (K:PySem.W.Frag) (H:Hp) (a:Addr) (xs:List V):Prop:=
 Rd H a (.lst xs) ∨
  ∃ (o:Obj) (its:Array Value) (n:Nat),K.lookup a=some o/\o.cls = .type "list"/\o.dict=none/\o.data = .seq its n/\its.size<=sizeLine/\aK xs its.toList
def aJ (K:PySem.W.Frag) (H:Hp) (a:Addr) (xs:List V):Prop:=
 Rd H a (.tup xs) ∨
  ∃ (o:Obj) (its:Array Value) (n:Nat),K.lookup a=some o/\o.cls = .type "tuple"/\o.data = .seq its n/\its.size<=sizeLine/\aK xs its.toList
def Y6:Value->Option V
 | .none=>some .non
 | .bool b=>some (.bl b)
 | .int i _=>some (.int i)
 | .str x _=>some (.str x)
 | .bytes b _=>some (.byt b)
 | .float b _=>some (.flt b)
 | .ref a=>some (.ref a)
 | .type n=>some (.ty n)
 | _=>none
theorem aQ.abs {x:V}{u:Value} (r:aQ x u):Y6 u=some x:=by
 cases x with
 | non=>cases r; rfl
 | bl _=>cases r; rfl
 | int _=>obtain ⟨t,rfl⟩:=r; rfl
 | str _=>obtain ⟨t,rfl⟩:=r; rfl
 | byt _=>obtain ⟨t,rfl⟩:=r; rfl
 | flt _=>obtain ⟨t,rfl⟩:=r; rfl
 | ref _=>cases r; rfl
 | ty _=>cases r; rfl
theorem aQ.inj {x y:V}{u:Value} (r:aQ x u) (q:aQ y u):x=y:=aT2 (r.abs.symm.trans q.abs)
theorem aK.inj:∀ {xs ys:List V}{us:List Value},aK xs us->aK ys us->xs=ys
 | _,_,_,.nil,.nil=>rfl
 | _,_,_,.cons r t,.cons r' t'=>by rw [r.inj r',aK.inj t t']
section
variable {X : Cx} {pins : List (Addr × Obj)} {σ : St} {H : Hp} {s : Shared} {a : Addr} {xs ys : List V}
theorem aM.of {K:PySem.W.Frag} (h:H a=some (.lst xs)):aM K H a xs:=.inl (.inl h)
theorem aJ.of {K:PySem.W.Frag} (h:H a=some (.tup xs)):aJ K H a xs:=.inl (.inl h)
theorem a8.list (I:a8 X pins σ H s) (h:aM X.K H a xs):∃ its:List Value,aK xs its/\PlainL s.heap a its.toArray/\xs.length<=sizeLine:=by
 rcases h with h | ⟨o,its,n,hk,hc,hd,hs,hz,r⟩
 ·obtain ⟨z,its,n,r,e⟩:=h.ok I.hok
  exact⟨its,r,⟨_,n,e,rfl,rfl,rfl⟩,z⟩
 ·refine⟨its.toList,r,⟨o,n,I.kIn a o hk,hc,hd,by simpa using hs⟩,?_⟩
  have e:=r.length
  simp only [aU3] at e
  omega
theorem a8.tuple (I:a8 X pins σ H s) (h:aJ X.K H a xs):∃ its:List Value,aK xs its/\IsTup s.heap a its.toArray/\xs.length<=sizeLine:=by
 rcases h with h | ⟨o,its,n,hk,hc,hs,hz,r⟩
 ·obtain ⟨z,its,r,p⟩:=h.ok I.hok
  exact⟨its,r,p,z⟩
 ·refine⟨its.toList,r,⟨o,I.kIn a o hk,hc,n,by simpa using hs⟩,?_⟩
  have e:=r.length
  simp only [aU3] at e
  omega
theorem a8.list_inj (I:a8 X pins σ H s) (h:aM X.K H a xs) (h':aM X.K H a ys):xs=ys:=by
 obtain ⟨its,r,⟨o,n,e,_,_,d⟩,_⟩:=I.list h
 obtain ⟨its',r',⟨o',n',e',_,_,d'⟩,_⟩:=I.list h'
 rw [e] at e'; cases e'
 rw [d] at d'
 injection d' with d1 _
 have:its=its':=by simpa using congrArg Array.toList d1
 subst this
 exact r.inj r'
theorem a8.tuple_inj (I:a8 X pins σ H s) (h:aJ X.K H a xs) (h':aJ X.K H a ys):xs=ys:=by
 obtain ⟨its,r,⟨o,e,_,n,d⟩,_⟩:=I.tuple h
 obtain ⟨its',r',⟨o',e',_,n',d'⟩,_⟩:=I.tuple h'
 rw [e] at e'; cases e'
 rw [d] at d'
 injection d' with d1 _
 have:its=its':=by simpa using congrArg Array.toList d1
 subst this
 exact r.inj r'
end
abbrev Cx.wish (X:Cx) (E:Value->Shared->Prop):Cx:={ X with xe:=E }
abbrev Cx.nox (X:Cx):Cx:=X.wish fun _ _=>False
theorem Cx.Ok.wish {X:Cx} (ok:X.Ok) (E:Value->Shared->Prop):(X.wish E).Ok:=
 ⟨ok.mod,ok.kind,ok.glob,ok.blt,ok.above,ok.inj,ok.has,ok.cab,ok.hd,ok.frames,ok.stk,ok.exf,ok.bs,ok.bsz,ok.noex,ok.exfs,ok.funs,ok.frf⟩
theorem Cx.Ok.unwish {X:Cx}{E:Value->Shared->Prop} (ok:(X.wish E).Ok):X.Ok:=
 ⟨ok.mod,ok.kind,ok.glob,ok.blt,ok.above,ok.inj,ok.has,ok.cab,ok.hd,ok.frames,ok.stk,ok.exf,ok.bs,ok.bsz,ok.noex,ok.exfs,ok.funs,ok.frf⟩
section
variable {X : Cx} {pins : List (Addr × Obj)} {σ : St} {H : Hp} {s : Shared} {E : Value → Shared → Prop}
theorem a8.wish (I:a8 X pins σ H s) (E:Value->Shared->Prop):a8 (X.wish E) pins σ H s:=⟨I.ok.wish E,I.os,I.bare,I.base,I.loc,I.cell,I.free,I.freeC,I.pin,I.hok,I.len⟩
theorem a8.unwish (I:a8 (X.wish E) pins σ H s):a8 X pins σ H s:=⟨I.ok.unwish,I.os,I.bare,I.base,I.loc,I.cell,I.free,I.freeC,I.pin,I.hok,I.len⟩
theorem SP.unwish {D:cE}{f:Flow}{s':Shared} (h:SP (X.wish E) pins D f s'):SP X pins D f s':=by
 cases f with
 | next=>obtain ⟨σ',H',I,q⟩:=h; exact⟨σ',H',I.unwish,q⟩
 | brk=>obtain ⟨σ',H',I,q⟩:=h; exact⟨σ',H',I.unwish,q⟩
 | cont=>obtain ⟨σ',H',I,q⟩:=h; exact⟨σ',H',I.unwish,q⟩
 | ret u=>obtain ⟨v,σ',H',I,r,q⟩:=h; exact⟨v,σ',H',I.unwish,r,q⟩
theorem cY.nox {st:List Stmt}{t:TS} (h:cY X.nox st t):cY X st t:=fun pins s σ H D I hw=>
 aX3 (h pins s σ H D (I.wish _) hw) (fun _ _ q=>q.unwish) fun _ _ z=>False.elim z
end
section
variable {X : Cx} {st : Stmt} {cQ : List Stmt} {t u : TS} {e : Expr} {te : TE} {pos : Pos}
def wE:TS:=fun D σ H=>D.nx σ H
def wF (t u:TS):TS:=fun D σ H=>t { D with nx:=u D } σ H
theorem Y7:cY X [] wE:=fun _ _ σ H _ I h=>bc8 ⟨σ,H,I,h⟩
theorem o7 (h1:PS X st t) (h2:cY X cQ u):cY X (st :: cQ) (wF t u):=by
 intro pins s σ H D I h
 refine wpAny_execs_cons (aL (h1 pins s σ H { D with nx:=u D } I h) fun f s1 q=>?_)
 cases f with
 | next=>
  obtain ⟨σ',H',I',q⟩:=q
  exact h2 pins s1 σ' H' D I' q
 | ret v=>exact q
 | brk=>exact q
 | cont=>exact q
theorem lZ (h1:PS X st t):cY X [st] t:=by
 intro pins s σ H D I h
 refine wpAny_execs_cons (aL (h1 pins s σ H D I h) fun f s1 q=>?_)
 cases f with
 | next=>exact bc8 q
 | ret v=>exact q
 | brk=>exact q
 | cont=>exact q
theorem a8.quiet {pins:List (Addr × Obj)}{σ:St}{H:Hp}{s:Shared} (I:a8 X pins σ H s):interactive X.env=false:=by simp [interactive,I.ok.kind]
def kN (te:TE):TS:=fun D σ H=>te σ H fun _ H1=>D.nx σ H1
theorem jG (he:PE X e te) (hs:swapsWith e none pos.line X.env=pure false:=by rfl):PS X (.Expr e pos) (kN te):=by
 intro pins s σ H D I h
 exact wpAny_Expr_any (aL (he pins s σ H _ I h) fun v s1 ⟨x,H1,I1,r1,q1⟩=>⟨σ,H1,I1,q1⟩) I.quiet hs
def rL (te:TE):TS:=fun D σ H=>te σ H D.rt
theorem m3 (he:PE X e te):PS X (.Return (some e) pos) (rL te):=by
 intro pins s σ H D I h
 exact wpAny_Return_some (aL (he pins s σ H _ I h) fun v s1 ⟨x,H1,I1,r1,q1⟩=>⟨x,σ,H1,I1,r1,q1⟩)
def wG (c:TT) (t u:TS):TS:=fun D σ H=>c σ H fun b H1=>if b=true then t D σ H1 else u D σ H1
theorem Y8 {c:Expr}{a b:List Stmt}{tc:TT} (hc:PT X c tc) (ha:cY X a t) (hb:cY X b u):PS X (.If c a b pos) (wG tc t u):=by
 intro pins s σ H D I h
 refine wpAny_If (aL (hc pins s σ H _ I h) fun d s1 ⟨H1,I1,q1⟩=>?_)
 cases d with
 | true=>exact ha pins s1 σ H1 D I1 q1
 | false=>exact hb pins s1 σ H1 D I1 q1
end
abbrev TG:=V->St->Hp->(St->Hp->Prop)->Prop
abbrev jH:=List V->St->Hp->(St->Hp->Prop)->Prop
def PG (X:Cx) (target:Expr) (t:TG):Prop:=
 ∀ (pins:List (Addr × Obj)) (s:Shared) (σ:St) (H:Hp) (v:V) (u:Value) (Q:St->Hp->Prop),a8 X pins σ H s->aQ v u->t v σ H Q->
  wpAny (model X.prog X.w) X.A (assign target X.env u) (fun _ s'=>∃ σ' H',a8 X pins σ' H' s'/\Q σ' H') X.xe s
def o8 (X:Cx) (ts:List Expr) (t:jH):Prop:=
 ∀ (pins:List (Addr × Obj)) (s:Shared) (σ:St) (H:Hp) (vs:List V) (us:List Value) (Q:St->Hp->Prop),a8 X pins σ H s->aK vs us->t vs σ H Q->
  wpAny (model X.prog X.w) X.A (assignInOrder ((assignEach ts X.env).map (·.2)) us) (fun _ s'=>∃ σ' H',a8 X pins σ' H' s'/\Q σ' H') X.xe s
abbrev rM:=V->V->V->Hp->(Hp->Prop)->Prop
def wH (X:Cx) (t:rM):Prop:=
 ∀ (pins:List (Addr × Obj)) (s:Shared) (σ:St) (H:Hp) (o i v:V) (ov iv u:Value) (Q:Hp->Prop),a8 X pins σ H s->aQ o ov->aQ i iv->aQ v u->t o i v H Q->
  wpAny (model X.prog X.w) X.A (setItem ov iv u) (fun _ s'=>∃ H',a8 X pins σ H' s'/\Q H') X.xe s
section
variable {X : Cx} {pos : Pos}
def cR (i:Nat):TG:=fun v σ H Q=>Q (σ.set i (some v)) H
theorem fA {i:Nat}{x:Str} (hN:X.N.Nodup) (hi:X.N[i]? = some x) (hx:i4 X.env.scope x) (hf:X.fn x=true ∨ X.env.scope.names.lookup x=some .local:=by first | exact .inl rfl | exact .inr rfl | assumption):PG X (.Name x pos) (cR i):=by
 intro pins s σ H v u Q I r h
 exact wpAny_assign_Name (rK I hN hi hx r (fun s' I'=>⟨_,H,I',h⟩) hf)
def jI:jH:=fun vs σ H Q=>vs = []/\Q σ H
def fB (t:TG) (u:jH):jH:=fun vs σ H Q=>∃ v r,vs=v :: r/\t v σ H fun σ' H'=>u r σ' H' Q
theorem m5:o8 X [] jI:=by
 intro pins s σ H vs us Q I r h
 obtain ⟨e,h⟩:=h
 subst e
 cases r
 exact assignInOrder_nil ⟨σ,H,I,h⟩
theorem gO {e:Expr}{es:List Expr}{t:TG}{u:jH} (h1:PG X e t) (h2:o8 X es u)
  (hs:(assignEach (e :: es) X.env).map (·.2)=assign e X.env :: (assignEach es X.env).map (·.2):=by rfl):o8 X (e :: es) (fB t u):=by
 intro pins s σ H vs us Q I r h
 obtain ⟨v,vr,e1,h⟩:=h
 subst e1
 cases r with
 | cons r rr=>
  rw [hs]
  refine assignInOrder_cons (aL (h1 pins s σ H _ _ _ I r h) fun _ s1 ⟨σ1,H1,I1,q1⟩=>?_)
  exact h2 pins s1 σ1 H1 _ _ Q I1 rr q1
def jJ (K:PySem.W.Frag) (n:Nat) (t:jH):TG:=fun v σ H Q=>∃ a xs,v = .ref a/\aJ K H a xs/\xs.length=n/\t xs σ H Q
theorem m6 {es:List Expr}{k:Nat}{t:jH}{n:Nat} (hc:X.calm=true) (h:o8 X es t)
  (hn:(assignEach es X.env).length=n:=by rfl) (hst:(assignEach es X.env).findIdx? (·.1)=none:=by rfl):PG X (.Tuple es k pos) (jJ X.K n t):=by
 intro pins s σ H v u Q I r hw
 obtain ⟨a,xs,e1,hq,hl,hw⟩:=hw
 subst e1
 cases r
 obtain ⟨its,rv,ht,hz⟩:=I.tuple hq
 refine assign_Tuple_tuple (I.ok.hd hc) ht (by simp [hn,<- hl,rv.length]) hst fun h' hx=>?_
 have I1:a8 X pins σ H { s with heap:=h' }:=I.kept (t':=s.toks) fun b o e=>hx b o (aT3 (aR8 e)) e
 exact h pins _ σ H xs _ Q I1 (by simpa using rv) hw
def rN (to ti:TE) (t:rM):TG:=fun v σ H Q=>to σ H fun o H1=>ti σ H1 fun i H2=>t o i v H2 fun H3=>Q σ H3
theorem Y9 {o i:Expr}{to ti:TE}{t:rM} (ho:PE X o to) (hi:PE X i ti) (hs:wH X t)
  (ha:∀ v,assign (.Subscript o i pos) X.env v=(do
   let ov <- holding [v] (eval o X.env)
   let iv <- holding [v,ov] (eval i X.env)
   standAt pos
   holding [v,ov,iv] (setItem ov iv v)
   release [v,ov,iv] []):=by intro _; rfl):PG X (.Subscript o i pos) (rN to ti t):=by
 intro pins s σ H v u Q I r h
 rw [ha]
 refine aQ5 (aY5 (aL (ho pins s σ H _ I h) fun ov s1 ⟨x,H1,I1,r1,q1⟩=>?_))
 refine aQ5 (aY5 (aL (hi pins s1 σ H1 _ I1 q1) fun iv s2 ⟨y,H2,I2,r2,q2⟩=>?_))
 refine aQ5 (wpAny_standAt (aQ5 (aY5 (aL (hs pins s2 σ H2 x y v ov iv u _ I2 r1 r2 r q2) fun _ s3 ⟨H3,I3,q3⟩=>?_))))
 exact wpAny_release ⟨σ,H3,I3,q3⟩
def kO (te:TE) (g:TG):TS:=fun D σ H=>te σ H fun x H1=>g x σ H1 D.nx
theorem Z0 {tg e:Expr}{te:TE}{g:TG} (he:PE X e te) (hg:PG X tg g) (hs:swapsWithSole [tg] e pos.line X.env=pure false:=by rfl) (hw:swappedStores [tg] e X.env=pure none:=by rfl)
  (h1:(assignEach [tg] X.env).map (·.2) = [assign tg X.env]:=by rfl):PS X (.Assign [tg] e pos) (kO te g):=by
 intro pins s σ H D I h
 refine wpAny_Assign_stores (aL (he pins s σ H _ I h) fun v s1 ⟨x,H1,I1,r1,q1⟩=>?_) hs hw
 rw [h1]
 exact aL (hg pins s1 σ H1 x v _ I1 r1 q1) fun _ s2 q=>q
theorem wI {i:Nat}{x:Str}{e:Expr}{te:TE}{pos':Pos} (hN:X.N.Nodup) (hi:X.N[i]? = some x) (hx:i4 X.env.scope x) (he:PE X e te) (hs:swapsWith e (some (.Name x pos')) pos.line X.env=pure false:=by rfl) (hf:X.fn x=true ∨ X.env.scope.names.lookup x=some .local:=by first | exact .inl rfl | exact .inr rfl | assumption) :
  PS X (.Assign [.Name x pos'] e pos) (kO te (cR i)):=by
 intro pins s σ H D I h
 refine wpAny_Assign_Name (aL (he pins s σ H _ I h) fun v s1 ⟨y,H1,I1,r1,q1⟩=>?_) hs
 exact rK I1 hN hi hx r1 (fun s2 I2=>⟨_,H1,I2,q1⟩) hf
end
section
variable {X : Cx} {pos : Pos}
def wJ (c:TT) (tb:TS):TS:=fun D σ H=>∃ W:Nat->St->Hp->Prop,(∃ m,W m σ H)/\∀ m σ H,W m σ H->
 c σ H fun b H1=>if b=true then ∃ N:St->Hp->Prop,(∀ σ' H',N σ' H'->∃ m',m' < m/\W m' σ' H')/\tb { D with nx:=N,ct:=N,bk:=D.nx } σ H1 else D.nx σ H1
theorem Z1 {c:Expr}{body:List Stmt}{tc:TT}{tb:TS} (hp:PassesOwn (model X.prog X.w) X.A X.env X.xe) (hc:PT X c tc) (hb:cY X body tb):PS X (.While c body [] pos) (wJ tc tb):=by
 intro pins s σ H D I h
 obtain ⟨W,⟨m0,w0⟩,turn⟩:=h
 refine wpAny_While (codeAny_whileLoop (fun n s'=>∃ σ' H',a8 X pins σ' H' s'/\W n σ' H') ?_ m0 ⟨σ,H,I,w0⟩)
 rintro n s1 ⟨σ1,H1,I1,w1⟩
 refine bc9 hp (aL (hc pins s1 σ1 H1 _ I1 (turn n σ1 H1 w1)) fun b s2 ⟨H2,I2,q2⟩=>?_)
 cases b with
 | true=>
  obtain ⟨N,hN,q2⟩:=q2
  rw [if_pos rfl]
  refine bc9 hp (aL (hb pins s2 σ1 H2 _ I2 q2) fun f s3 q3=>?_)
  cases f with
  | next=>
   obtain ⟨σ3,H3,I3,n3⟩:=q3
   obtain ⟨m',hm,w3⟩:=hN σ3 H3 n3
   exact⟨m',hm,σ3,H3,I3,w3⟩
  | cont=>
   obtain ⟨σ3,H3,I3,n3⟩:=q3
   obtain ⟨m',hm,w3⟩:=hN σ3 H3 n3
   exact⟨m',hm,σ3,H3,I3,w3⟩
  | brk=>exact q3
  | ret v=>exact q3
 | false=>
  rw [if_neg aS6]
  exact bc8 ⟨σ1,H2,I2,q2⟩
end
structure It where
 go:Nat->Hp->Prop
 yld:Nat->Hp->V->Hp->Prop
 stop:Nat->Hp->Prop
def fQ (X:Cx) (pins:List (Addr × Obj)) (H:Hp) (b:Addr):Prop:=
 H b=none/\b ≠ X.env.locals/\b ∉ X.fs/\(b ∈ X.ex ∨ X.s₀.heap.objs.size<=b)/\(∀ x c,X.env.cells.lookup x=some c->c ≠ b)/\∀ p ∈ X.pn ++ pins,p.1 ≠ b
theorem a8.fpOk {X:Cx}{pins:List (Addr × Obj)}{σ:St}{H H':Hp}{s:Shared}{b:Addr} (I:a8 X pins σ H s) (hb:s.heap.objs.size<=b) (hn:H' b=none):fQ X pins H' b:=by
 refine⟨hn,aX9 (aR9 I.lt hb),I.nofs hb,.inr (aT4 I.sz hb),fun x c e z=>?_,fun p hp z=>?_⟩
 ·obtain ⟨v,q⟩:=I.cell x c e
  exact absurd (aR9 q.lt (by rw [z]; exact hb)) (aW1 _)
 ·exact absurd (aR9 (aR8 (I.pin p hp).1) (by rw [z]; exact hb)) (aW1 _)
structure gP (P:Program) (w:World) (K:PySem.W.Frag) (tg:Expr) (J:It) (fp:List Addr) (it:Addr) (tn:Nat->Heap->Prop):Prop where
 mem:it ∈ fp
 obj:∀ i h,tn i h->∀ b ∈ fp,∃ o,h.get? b=some o/\∀ v,o.data ≠ .cell v
 keep:∀ i h h',tn i h->(∀ b ∈ fp,∀ o,h.get? b=some o->h'.get? b=some o)->tn i h'
 item:∀ (X:Cx),X.prog=P->X.w=w->X.K=K->X.calm=true->∀ (i:Nat) (pins:List (Addr × Obj)) (s:Shared) (σ:St) (H:Hp) (E:Value->Shared->Prop),a8 X pins σ H s->(∀ b ∈ fp,fQ X pins H b)->tn i s.heap->J.go i H->
  wpAny (model P w) X.A (pyNext (.ref it)) (fun r s1=>∃ u,r=some u/\
   wpAny (model P w) X.A (letOwnedTupleGo tg (.ref it) u) (fun _ s2=>∃ x H',a8 X pins σ H' s2/\aQ x u/\J.yld i H x H'/\tn (i+1) s2.heap/\∀ b ∈ fp,H' b=none) E s1) E s
 done:∀ (X:Cx),X.prog=P->X.w=w->X.K=K->X.calm=true->∀ (i:Nat) (pins:List (Addr × Obj)) (s:Shared) (σ:St) (H:Hp) (E:Value->Shared->Prop),a8 X pins σ H s->(∀ b ∈ fp,fQ X pins H b)->tn i s.heap->J.stop i H->
  wpAny (model P w) X.A (pyNext (.ref it)) (fun r s1=>r=none/\a8 X pins σ H s1) E s
 self:∀ (A:Around) (i:Nat) (s:Shared) (Q:Value->Shared->Prop) (E:Value->Shared->Prop),tn i s.heap->Q (.ref it) s->wpAny (model P w) A (pyIter (.ref it)) Q E s
abbrev TI:=St->Hp->(It->Hp->Prop)->Prop
def wK (X:Cx) (pins:List (Addr × Obj)) (σ:St) (tg:Expr) (R:It->Hp->Prop) (itv:Value) (s2:Shared):Prop:=
 ∃ (it:Addr) (fp:List Addr) (tn:Nat->Heap->Prop) (J:It) (H':Hp),itv = .ref it/\a8 X pins σ H' s2/\gP X.prog X.w X.K tg J fp it tn/\tn 0 s2.heap/\(∀ b ∈ fp,fQ X pins H' b)/\R J H'
def PI (X:Cx) (tg iter:Expr) (wi:TI):Prop:=
 ∀ (pins:List (Addr × Obj)) (s:Shared) (σ:St) (H:Hp) (R:It->Hp->Prop),a8 X pins σ H s->wi σ H R->
  wpAny (model X.prog X.w) X.A (eval iter X.env) (fun v s1=>wpAny (model X.prog X.w) X.A (pyIter v) (wK X pins σ tg R) X.xe s1) X.xe s
theorem rO {M:Model}{A:Around}{E:Value->Shared->Prop}{s:Shared}{tg:Expr}{it:Addr}{u:Value}{o:Obj}{n:String}{vs:Array Value}{Q:Unit->Shared->Prop} (ho:s.heap.get? it=some o) (hc:o.cls = .type n) (hd:o.data = .fields vs)
    (hn : ["enumerate","zip","dict_itemiterator","dict_reverseitemiterator","odict_iterator","itertools.zip_longest","itertools.pairwise"].contains n=false) (hQ:Q () s):wpAny M A (letOwnedTupleGo tg (.ref it) u) Q E s:=by
  unfold letOwnedTupleGo
  cases tg <;> first
    | exact aQ9 hQ
    | (cases u <;> first
        | exact aQ9 hQ
        | (refine aQ5 (wpAny_load ho ?_)
           rw [hc,hd]
           show wpAny M A (if (["enumerate","zip","dict_itemiterator","dict_reverseitemiterator","odict_iterator","itertools.zip_longest","itertools.pairwise"].contains n && vs[0]? == some (rawInt _))=true then _ else _) Q E s
           rw [if_neg (by intro h; rw [hn,Bool.false_and] at h; cases h)]
           exact aQ9 hQ))
def kQ (K:PySem.W.Frag) (a:Addr):It:=
 ⟨fun i H=>∃ xs x,aM K H a xs/\xs[i]? = some x,fun i H x H'=>H'=H/\∀ xs,aM K H a xs->xs[i]? = some x,fun i H=>∃ xs,aM K H a xs/\xs.length<=i⟩
def iQ (K:PySem.W.Frag) (a:Addr):It:=
 ⟨fun i H=>∃ xs x,aJ K H a xs/\xs[i]? = some x,fun i H x H'=>H'=H/\∀ xs,aJ K H a xs->xs[i]? = some x,fun i H=>∃ xs,aJ K H a xs/\xs.length<=i⟩
def m7 (lo:Int) (n:Nat):It:=⟨fun i _=>i < n,fun i H x H'=>H'=H/\x = .int (lo+i),fun i _=>n<=i⟩
theorem Z2 {P:Program}{w:World}{K:PySem.W.Frag}{tg:Expr} (a it:Addr):gP P w K tg (kQ K a) [it] it (fun i h=>h.IsListIter it a i) where
 mem:=by simp
 obj:=fun i h st b hb=>by
  have e:b=it:=by simpa using hb
  subst e
  obtain ⟨o,e,c,d⟩:=st
  exact⟨o,e,fun v z=>by rw [d] at z; cases z⟩
 keep:=fun i h h' st k=>st.at fun o e=>k it (by simp) o e
 item:=by
  intro X hP hw hK hc i pins s σ H E I hf st hg
  subst hP hw hK
  obtain ⟨xs,x,hq,hx⟩:=hg
  obtain ⟨its,rv,p,hz⟩:=I.list hq
  obtain ⟨u,hu,ru⟩:=rv.get hx
  obtain ⟨f0,f1,f2,f3,f4,f5⟩:=hf it (by simp)
  refine wpAny_pyNext_list_item st p.isList (x:=u) (by simpa using hu) fun h' st' sb=>?_
  have I1:a8 X pins σ H { s with heap:=h' }:=I.turned (t':=s.toks) (fun b o hb e=>(sb.2 b hb).trans e) f0 f1 f3 f4 f5
  obtain ⟨o,e,c,d⟩:=id st'
  exact⟨u,rfl,rO (s:={ s with heap:=h' }) e c d (by decide) ⟨x,H,I1,ru,⟨rfl,fun ys hy=>by rw [I.list_inj hy hq]; exact hx⟩,st',fun b hb=>(hf b hb).1⟩⟩
 done:=by
  intro X hP hw hK hc i pins s σ H E I hf st hg
  subst hP hw hK
  obtain ⟨xs,hq,hx⟩:=hg
  obtain ⟨its,rv,p,hz⟩:=I.list hq
  obtain ⟨f0,f1,f2,f3,f4,f5⟩:=hf it (by simp)
  have hl:=rv.length
  exact wpAny_pyNext_list_end (I.ok.hd hc) st p.isList (by simp; omega) fun h' eb=>⟨rfl,I.turned (t':=s.toks) (fun b o hb e=>eb b o hb e) f0 f1 f3 f4 f5⟩
 self:=fun _ _ _ _ _ st h=>wpAny_pyIter_listiter st h
theorem wL {P:Program}{w:World}{K:PySem.W.Frag}{tg:Expr} (a it:Addr):gP P w K tg (iQ K a) [it] it (fun i h=>h.IsTupleIter it a i) where
 mem:=by simp
 obj:=fun i h st b hb=>by
  have e:b=it:=by simpa using hb
  subst e
  obtain ⟨o,e,c,d⟩:=st
  exact⟨o,e,fun v z=>by rw [d] at z; cases z⟩
 keep:=fun i h h' st k=>st.at fun o e=>k it (by simp) o e
 item:=by
  intro X hP hw hK hc i pins s σ H E I hf st hg
  subst hP hw hK
  obtain ⟨xs,x,hq,hx⟩:=hg
  obtain ⟨its,rv,p,hz⟩:=I.tuple hq
  obtain ⟨u,hu,ru⟩:=rv.get hx
  obtain ⟨f0,f1,f2,f3,f4,f5⟩:=hf it (by simp)
  refine wpAny_pyNext_tuple_item st (show s.heap.IsTuple a its.toArray from p) (x:=u) (by simpa using hu) fun h' st' sb=>?_
  have I1:a8 X pins σ H { s with heap:=h' }:=I.turned (t':=s.toks) (fun b o hb e=>(sb.2 b hb).trans e) f0 f1 f3 f4 f5
  obtain ⟨o,e,c,d⟩:=id st'
  exact⟨u,rfl,rO (s:={ s with heap:=h' }) e c d (by decide) ⟨x,H,I1,ru,⟨rfl,fun ys hy=>by rw [I.tuple_inj hy hq]; exact hx⟩,st',fun b hb=>(hf b hb).1⟩⟩
 done:=by
  intro X hP hw hK hc i pins s σ H E I hf st hg
  subst hP hw hK
  obtain ⟨xs,hq,hx⟩:=hg
  obtain ⟨its,rv,p,hz⟩:=I.tuple hq
  obtain ⟨f0,f1,f2,f3,f4,f5⟩:=hf it (by simp)
  have hl:=rv.length
  exact wpAny_pyNext_tuple_end (I.ok.hd hc) st (show s.heap.IsTuple a its.toArray from p) (by simp; omega) fun h' eb=>⟨rfl,I.turned (t':=s.toks) (fun b o hb e=>eb b o hb e) f0 f1 f3 f4 f5⟩
 self:=fun _ _ _ _ _ st h=>wpAny_pyIter_tupleiter st h
theorem Z3 {P:Program}{w:World}{K:PySem.W.Frag}{tg:Expr} (it:Addr) (lo:Int) (n:Nat):gP P w K tg (m7 lo n) [it] it (fun i h=>IsRangeIter h it (lo+(i:Nat) * 1) ((n:Int) - (i:Nat)) 1) where
 mem:=by simp
 obj:=fun i h st b hb=>by
  have e:b=it:=by simpa using hb
  subst e
  exact⟨_,st,fun v z=>by
   have z':Data.fields _=Data.cell v:=z
   cases z'⟩
 keep:=fun i h h' st k=>k it (by simp) _ st
 item:=by
  intro X hP hw hK hc i pins s σ H E I hf st hg
  subst hP hw hK
  obtain ⟨f0,f1,f2,f3,f4,f5⟩:=hf it (by simp)
  have W:=Walks.range (prog:=X.prog) (w:=X.w) (I.ok.hd hc) it lo 1 n
  refine W.item i s _ _ hg st fun v h' tk hv st' kk=>?_
  obtain ⟨t,rfl⟩:=hv
  have I1:a8 X pins σ H { s with heap:=h',toks:=tk }:=I.turned (fun b o hb e=>kk b o (by simpa using hb) e) f0 f1 f3 f4 f5
  refine⟨_,rfl,rO (s:={ s with heap:=h',toks:=tk }) (n:="range_iterator") st' rfl rfl (by decide) ⟨.int (lo+i),H,I1,⟨t,?_⟩,⟨rfl,rfl⟩,st',fun b hb=>(hf b hb).1⟩⟩
  rw [Int.mul_one]
 done:=by
  intro X hP hw hK hc i pins s σ H E I hf st hg
  subst hP hw hK
  obtain ⟨f0,f1,f2,f3,f4,f5⟩:=hf it (by simp)
  exact wpAny_pyNext_range_end (I.ok.hd hc) st (by have:n<=i:=hg; omega) fun h' eb=>⟨rfl,I.turned (t':=s.toks) (fun b o hb e=>eb b o hb e) f0 f1 f3 f4 f5⟩
 self:=fun _ _ _ _ _ st h=>wpAny_pyIter_rangeiter st h
section
variable {X : Cx} {tg : Expr}
def Z4 (K:PySem.W.Frag) (tl:TE):TI:=fun σ H R=>tl σ H fun x H1=>∃ a,x = .ref a/\(∃ xs,aJ K H1 a xs)/\R (iQ K a) H1
theorem wM {l:Expr}{tl:TE} (hl:PE X l tl):PI X tg l (Z4 X.K tl):=by
 intro pins s σ H R I h
 refine aL (hl pins s σ H _ I h) fun v s1 ⟨x,H1,I1,r1,q1⟩=>?_
 obtain ⟨a,e,⟨xs,hq⟩,q⟩:=q1
 subst e
 cases r1
 obtain ⟨its,rv,p,hz⟩:=I1.tuple hq
 refine bc3 (show s1.heap.IsTuple a its.toArray from p) ?_
 refine⟨s1.heap.objs.size,[s1.heap.objs.size],_,_,H1,rfl,I1.kept (t':=s1.toks) fun b o e=>aQ6 _ e,wL a _,⟨_,aS1 _ rfl,rfl,rfl⟩,fun b hb=>?_,q⟩
 have e:b=s1.heap.objs.size:=by simpa using hb
 subst e
 exact I1.fpOk (aR0 _) (I1.hok.fresh (aR0 _))
theorem wN {pins:List (Addr × Obj)}{σ:St}{H:Hp}{s:Shared}{R:It->Hp->Prop}{E:Value->Shared->Prop}{lo hi:Int}{t u v:Tok}{tk:Nat} (I:a8 X pins σ H s) (h1 : -(2 ^ 62)<=lo) (h2:lo < 2 ^ 62) (h3 : -(2 ^ 62)<=hi) (h4:hi < 2 ^ 62)
  (q:R (m7 lo (hi - lo).toNat) H):wpAny (model X.prog X.w) X.A (pyIter (.ref s.heap.objs.size)) (wK X pins σ tg R) E { s with heap:=s.heap.push { cls:=.type "range",data:=.fields #[.int lo t,.int hi u,.int 1 v] },toks:=tk }:=by
 refine wpAny_pyIter_range (IsRange.new ..) (small_one h1 h2 h3 h4) ?_
 have I1:a8 X pins σ H { s with heap:=s.heap.push { cls:=.type "range",data:=.fields #[.int lo t,.int hi u,.int 1 v] },toks:=tk }:=I.kept fun b o e=>aQ6 _ e
 refine⟨(s.heap.push { cls:=.type "range",data:=.fields #[.int lo t,.int hi u,.int 1 v] }).objs.size,[(s.heap.push { cls:=.type "range",data:=.fields #[.int lo t,.int hi u,.int 1 v] }).objs.size],_,_,H,rfl,
  I1.kept (t':=tk) fun b o e=>aQ6 _ e,Z3 _ lo (hi - lo).toNat,?_,fun b hb=>?_,q⟩
 ·have e1:lo+((0:Nat):Int) * 1=lo:=by simp
  have e2:(((hi - lo).toNat:Nat):Int) - ((0:Nat):Int)=Builtin.Range.rangeSize lo hi 1:=by rw [rangeSize_one]; split <;> omega
  show IsRangeIter _ _ (lo+((0:Nat):Int) * 1) ((((hi - lo).toNat:Nat):Int) - ((0:Nat):Int)) 1
  rw [e1,e2]
  exact aS1 _ rfl
 ·have e:b=(s.heap.push { cls:=.type "range",data:=.fields #[.int lo t,.int hi u,.int 1 v] }).objs.size:=by simpa using hb
  subst e
  exact I1.fpOk (aR0 _) (I1.hok.fresh (aR0 _))
def wO (ta:TA):TI:=fun σ H R=>ta σ H fun vs H1=>∃ j:Int,vs = [.int j]/\-(2 ^ 62)<=j/\j < 2 ^ 62/\R (m7 0 j.toNat) H1
def wP (ta:TA):TI:=fun σ H R=>ta σ H fun vs H1=>∃ i j:Int,vs = [.int i,.int j]/\(-(2 ^ 62)<=i/\i < 2 ^ 62/\-(2 ^ 62)<=j/\j < 2 ^ 62)/\R (m7 i (j - i).toNat) H1
theorem Z5 {a:Expr}{ta:TA}{p pos:Pos} (hg:Gl X "range") (hm:X.mg "range" = none) (ha:PA X [a] ta) (hs:starEach [a] X.env = [(false,eval a X.env)]:=by rfl):PI X tg (.Call (.Name "range" p) [a] [] pos) (wO ta):=by
 intro pins s σ H R I h
 refine Call_ (i5 I hg hm boot_range (aX1 (aL (ha pos pins s σ H _ I h) fun us s1 ⟨vs,H1,I1,r1,q1⟩=>?_) hs rfl))
 obtain ⟨j,e,q1,q2,q⟩:=q1
 subst e
 cases r1 with
 | cons r rr=>
  cases rr
  obtain ⟨t,rfl⟩:=r
  exact call_range_1 (wN I1 (by omega) (by omega) q1 q2 (by simpa using q))
theorem Z6 {a b:Expr}{ta:TA}{p pos:Pos} (hg:Gl X "range") (hm:X.mg "range" = none) (ha:PA X [a,b] ta) (hs:starEach [a,b] X.env = [(false,eval a X.env),(false,eval b X.env)]:=by rfl) (hs2:starEach [b] X.env = [(false,eval b X.env)]:=by rfl) :
  PI X tg (.Call (.Name "range" p) [a,b] [] pos) (wP ta):=by
 intro pins s σ H R I h
 refine Call_ (i5 I hg hm boot_range (aX1 (aL (ha pos pins s σ H _ I h) fun us s1 ⟨vs,H1,I1,r1,q1⟩=>?_) (by rw [hs,hs2]) (by rw [hs2]; rfl)))
 obtain ⟨i,j,e,⟨q1,q2,q3,q4⟩,q⟩:=q1
 subst e
 cases r1 with
 | cons r rr=>
  cases rr with
  | cons r' rr=>
   cases rr
   obtain ⟨t,rfl⟩:=r
   obtain ⟨t',rfl⟩:=r'
   exact call_range_2 (wN I1 q1 q2 q3 q4 q)
def wQ (wi:TI) (g:TG) (tb:TS):TS:=fun D σ H=>wi σ H fun J H1=>∃ W:Nat->Nat->St->Hp->Prop,(∃ m,W 0 m σ H1)/\∀ i m σ H,W i m σ H->
 (J.stop i H/\D.nx σ H) ∨ (J.go i H/\∃ N:St->Hp->Prop,(∀ σ' H',N σ' H'->∃ m',m' < m/\W (i+1) m' σ' H')/\∀ x H',J.yld i H x H'->g x σ H' fun σ2 H2=>tb { D with nx:=N,ct:=N,bk:=D.nx } σ2 H2)
def m8 (fp:List Addr) (h:Heap):List (Addr × Obj):=fp.filterMap fun b=>(h.get? b).map fun o=>(b,o)
theorem o9 {fp:List Addr}{h:Heap}{b:Addr}{o:Obj} (hb:b ∈ fp) (e:h.get? b=some o):(b,o) ∈ m8 fp h:=List.mem_filterMap.mpr ⟨b,hb,by rw [e]; rfl⟩
theorem Z7 {fp:List Addr}{h:Heap}{p:Addr × Obj} (hp:p ∈ m8 fp h):p.1 ∈ fp/\h.get? p.1=some p.2:=by
 obtain ⟨b,hb,e⟩:=List.mem_filterMap.mp hp
 cases q:h.get? b with
 | none=>rw [q] at e; cases e
 | some o=>
  rw [q] at e
  have e':(b,o)=p:=aT2 e
  subst e'
  exact⟨hb,q⟩
theorem a8.pinned {pins:List (Addr × Obj)}{σ:St}{H:Hp}{s:Shared}{fp:List Addr} (I:a8 X pins σ H s) (hf:∀ b ∈ fp,fQ X pins H b) (ho:∀ b ∈ fp,∃ o,s.heap.get? b=some o/\∀ v,o.data ≠ .cell v):a8 X (pins ++ m8 fp s.heap) σ H s:=
 I.pins_of fun p hp=>(aU2.mp hp).elim (fun z=>I.pin p (aU7 _ z)) fun z=>by
  obtain ⟨hb,e⟩:=Z7 z
  obtain ⟨f0,f1,f2,_⟩:=hf p.1 hb
  obtain ⟨o,e',d⟩:=ho p.1 hb
  rw [e] at e'; cases e'
  exact⟨e,f0,f1,f2,d⟩
theorem a8.unpinned {pins pl:List (Addr × Obj)}{σ:St}{H:Hp}{s:Shared} (I:a8 X (pins ++ pl) σ H s):a8 X pins σ H s:=I.pins_of fun p hp=>I.pin p (aU7 _ (List.mem_append_left _ hp))
theorem wR {iter:Expr}{body:List Stmt}{wi:TI}{g:TG}{tb:TS}{pos:Pos} (hp:PassesOwn (model X.prog X.w) X.A X.env X.xe) (hc:X.calm=true) (hi:PI X tg iter wi) (hg:PG X tg g) (hb:cY X body tb)
  (hs:∀ x,foldedSetIterable iter X.env x=pure x:=by intro _; rfl):PS X (.For tg iter body [] pos) (wQ wi g tb):=by
 intro pins s σ H D I h
 refine wpAny_For (aL (hi pins s σ H _ I h) fun v s1 h1=>aL h1 fun itv s2 h2=>?_) hs
 obtain ⟨it,fp,tn,J,H2,e,I2,T,st2,f2,W,⟨m0,w0⟩,turn⟩:=h2
 subst e
 have stat:∀ {H':Hp},(∀ b ∈ fp,H' b=none)->∀ b ∈ fp,fQ X pins H' b:=fun hn b hb=>⟨hn b hb,(f2 b hb).2⟩
 refine codeAny_forLoop_any (fun n s'=>∃ i σ' H',a8 X pins σ' H' s'/\tn i s'.heap/\(∀ b ∈ fp,H' b=none)/\W i n σ' H') ?_ m0 ⟨0,σ,H2,I2,st2,fun b hb=>(f2 b hb).1,w0⟩
 rintro n s3 ⟨i,σ3,H3,I3,st3,fr3,w3⟩
 rcases turn i n σ3 H3 w3 with ⟨stop,qn⟩ | ⟨go,N,hN,step⟩
 ·refine bc9 hp (aL (T.done X rfl rfl rfl hc i pins s3 σ3 H3 X.xe I3 (stat fr3) st3 stop) fun r s4 ⟨hr,I4⟩=>?_)
  subst hr
  exact bc8 ⟨σ3,H3,I4,qn⟩
 ·refine bc9 hp (aL (T.item X rfl rfl rfl hc i pins s3 σ3 H3 X.xe I3 (stat fr3) st3 go) fun r s4 ⟨u,hr,h4⟩=>?_)
  subst hr
  refine bc9 hp (aL h4 fun _ s5 ⟨x,H5,I5,r5,y5,st5,fr5⟩=>?_)
  have I5':=I5.pinned (stat fr5) (T.obj _ _ st5)
  refine bc9 hp (aL (hg _ s5 σ3 H5 x u _ I5' r5 (step x H5 y5)) fun _ s6 ⟨σ6,H6,I6,q6⟩=>?_)
  refine bc9 hp (aL (hb _ s6 σ6 H6 _ I6 q6) fun f s7 q7=>?_)
  have again:∀ {σ7:St}{H7:Hp},a8 X (pins ++ m8 fp s5.heap) σ7 H7 s7->N σ7 H7->∃ m,m < n/\∃ i σ' H',a8 X pins σ' H' s7/\tn i s7.heap/\(∀ b ∈ fp,H' b=none)/\W i m σ' H':=fun {σ7 H7} I7 n7=>by
   obtain ⟨m',hm,w7⟩:=hN σ7 H7 n7
   refine⟨m',hm,i+1,σ7,H7,I7.unpinned,T.keep _ _ _ st5 fun b hb o e=>(I7.pin (b,o) (aU7 _ (aU7 _ (o9 hb e)))).1,fun b hb=>?_,w7⟩
   obtain ⟨o,e,d⟩:=T.obj _ _ st5 b hb
   exact (I7.pin (b,o) (aU7 _ (aU7 _ (o9 hb e)))).2.1
  cases f with
  | next=>obtain ⟨σ7,H7,I7,n7⟩:=q7; exact again I7 n7
  | cont=>obtain ⟨σ7,H7,I7,n7⟩:=q7; exact again I7 n7
  | brk=>obtain ⟨σ7,H7,I7,q7⟩:=q7; exact⟨σ7,H7,I7.unpinned,q7⟩
  | ret v=>obtain ⟨x7,σ7,H7,I7,r7,q7⟩:=q7; exact⟨x7,σ7,H7,I7.unpinned,r7,q7⟩
end
theorem aQ1 {K:PySem.W.Frag}{a:Addr}{xs:List V}{g:TG}{tb:TS}{D:cE}{σ:St}{H:Hp} (Pv:Nat->St->Hp->Prop) (h0:Pv 0 σ H) (hl:∀ i σ H,i<=xs.length->Pv i σ H->aM K H a xs)
  (hs:∀ i x σ H,xs[i]? = some x->Pv i σ H->g x σ H fun σ2 H2=>tb { D with nx:=Pv (i+1),ct:=Pv (i+1),bk:=D.nx } σ2 H2) (hd:∀ σ H,Pv xs.length σ H->D.nx σ H) :
  ∃ W:Nat->Nat->St->Hp->Prop,(∃ m,W 0 m σ H)/\∀ i m σ H,W i m σ H->
   ((kQ K a).stop i H/\D.nx σ H) ∨ ((kQ K a).go i H/\∃ N:St->Hp->Prop,(∀ σ' H',N σ' H'->∃ m',m' < m/\W (i+1) m' σ' H')/\∀ x H',(kQ K a).yld i H x H'->g x σ H' fun σ2 H2=>tb { D with nx:=N,ct:=N,bk:=D.nx } σ2 H2):=by
 refine⟨fun i m σ H=>m=xs.length - i/\i<=xs.length/\Pv i σ H,⟨xs.length,by simp,aT7 _,h0⟩,?_⟩
 rintro i m σ H ⟨rfl,hi,p⟩
 have q:=hl i σ H hi p
 by_cases hlt:i < xs.length
 ·refine .inr ⟨⟨xs,xs[i],q,by simp [hlt]⟩,Pv (i+1),fun σ' H' p'=>⟨xs.length - (i+1),by omega,rfl,hlt,p'⟩,fun x H' y=>?_⟩
  obtain ⟨e,y⟩:=y
  subst e
  exact hs i x σ _ (y xs q) p
 ·have e:i=xs.length:=by omega
  subst e
  exact .inl ⟨⟨xs,q,aR0 _⟩,hd σ H p⟩
theorem Z8 {K:PySem.W.Frag}{a:Addr}{xs:List V}{g:TG}{tb:TS}{D:cE}{σ:St}{H:Hp} (Pv:Nat->St->Hp->Prop) (h0:Pv 0 σ H) (hl:∀ i σ H,i<=xs.length->Pv i σ H->aJ K H a xs)
  (hs:∀ i x σ H,xs[i]? = some x->Pv i σ H->g x σ H fun σ2 H2=>tb { D with nx:=Pv (i+1),ct:=Pv (i+1),bk:=D.nx } σ2 H2) (hd:∀ σ H,Pv xs.length σ H->D.nx σ H) :
  ∃ W:Nat->Nat->St->Hp->Prop,(∃ m,W 0 m σ H)/\∀ i m σ H,W i m σ H->
   ((iQ K a).stop i H/\D.nx σ H) ∨ ((iQ K a).go i H/\∃ N:St->Hp->Prop,(∀ σ' H',N σ' H'->∃ m',m' < m/\W (i+1) m' σ' H')/\∀ x H',(iQ K a).yld i H x H'->g x σ H' fun σ2 H2=>tb { D with nx:=N,ct:=N,bk:=D.nx } σ2 H2):=by
 refine⟨fun i m σ H=>m=xs.length - i/\i<=xs.length/\Pv i σ H,⟨xs.length,by simp,aT7 _,h0⟩,?_⟩
 rintro i m σ H ⟨rfl,hi,p⟩
 have q:=hl i σ H hi p
 by_cases hlt:i < xs.length
 ·refine .inr ⟨⟨xs,xs[i],q,by simp [hlt]⟩,Pv (i+1),fun σ' H' p'=>⟨xs.length - (i+1),by omega,rfl,hlt,p'⟩,fun x H' y=>?_⟩
  obtain ⟨e,y⟩:=y
  subst e
  exact hs i x σ _ (y xs q) p
 ·have e:i=xs.length:=by omega
  subst e
  exact .inl ⟨⟨xs,q,aR0 _⟩,hd σ H p⟩
abbrev R2:=V->V->Hp->VK->Prop
def bR (X:Cx) (f:Value->Value->Sem Value) (r:R2):Prop:=
 ∀ (pins:List (Addr × Obj)) (s:Shared) (σ:St) (H:Hp) (x y:V) (v u:Value) (Q:VK),a8 X pins σ H s->aQ x v->aQ y u->r x y H Q->
  wpAny (model X.prog X.w) X.A (f v u) (EP X pins σ Q) X.xe s
def rP (X:Cx) (f:Value->Sem Value) (r:V->Hp->VK->Prop):Prop:=
 ∀ (pins:List (Addr × Obj)) (s:Shared) (σ:St) (H:Hp) (x:V) (v:Value) (Q:VK),a8 X pins σ H s->aQ x v->r x H Q->
  wpAny (model X.prog X.w) X.A (f v) (EP X pins σ Q) X.xe s
def cJ (X:Cx) (f:Value) (r:List V->Hp->VK->Prop):Prop:=
 ∀ (pins:List (Addr × Obj)) (s:Shared) (σ:St) (H:Hp) (xs:List V) (us:List Value) (Q:VK),a8 X pins σ H s->aK xs us->r xs H Q->
  wpAny (model X.prog X.w) X.A (call f us) (EP X pins σ Q) X.xe s
def Z9 (X:Cx) (r:V->Hp->(Bool->Hp->Prop)->Prop):Prop:=
 ∀ (pins:List (Addr × Obj)) (s:Shared) (σ:St) (H:Hp) (x:V) (v:Value) (Q:Bool->Hp->Prop),a8 X pins σ H s->aQ x v->r x H Q->
  wpAny (model X.prog X.w) X.A (truthy v) (TP X pins σ Q) X.xe s
def m9 (r:R2) (ta tb:TE):TE:=fun σ H Q=>ta σ H fun x H1=>tb σ H1 fun y H2=>r x y H2 Q
def tUn (r:V->Hp->VK->Prop) (ta:TE):TE:=fun σ H Q=>ta σ H fun x H1=>r x H1 Q
def rI (C:Int->Int->Prop) (g:Int->Int->V):R2:=fun x y H Q=>∃ i j,x = .int i/\y = .int j/\C i j/\Q (g i j) H
def i6 (g:Int->Int->V):R2:=fun x y H Q=>∃ i j,x = .int i/\y = .int j/\Q (g i j) H
def rU (g:Int->V):V->Hp->VK->Prop:=fun x H Q=>∃ i,x = .int i/\Q (g i) H
section
variable {X : Cx} {a b c : Expr} {ta tb tc : TE} {pos : Pos}
theorem rQ (ha:PE X a ta) (hb:PE X b tb) {pins:List (Addr × Obj)}{s:Shared}{σ:St}{H:Hp}{R:V->V->Hp->Prop} (I:a8 X pins σ H s)
  (h:ta σ H fun x H1=>tb σ H1 fun y H2=>R x y H2) {Q:Value->Shared->Prop}{f:Value->Value->Sem Value}
  (hf:∀ v u s2 x y H2,a8 X pins σ H2 s2->aQ x v->aQ y u->R x y H2->wpAny (model X.prog X.w) X.A (f v u) Q X.xe s2) :
  wpAny (model X.prog X.w) X.A (eval a X.env) (fun v s₁=>wpAny (model X.prog X.w) X.A (eval b X.env) (fun u s₂=>wpAny (model X.prog X.w) X.A (f v u) Q X.xe s₂) X.xe s₁) X.xe s:=by
 refine aL (ha pins s σ H _ I h) fun v s1 ⟨x,H1,I1,r1,q1⟩=>?_
 refine aL (hb pins s1 σ H1 _ I1 q1) fun u s2 ⟨y,H2,I2,r2,q2⟩=>?_
 exact hf v u s2 x y H2 I2 r1 r2 q2
theorem aa0 {op:Operator}{r:R2} (ho:bR X (binaryOp op) r) (ha:PE X a ta) (hb:PE X b tb):PE X (.BinOp a op b pos) (m9 r ta tb):=by
 intro pins s σ H Q I h
 exact wpAny_BinOp (rQ ha hb I h fun v u s2 x y H2 I2 rx ry q=>ho pins s2 σ H2 x y v u Q I2 rx ry q)
theorem aa1 {op:UnaryOp}{r:V->Hp->VK->Prop} (ho:rP X (unaryOp op) r) (ha:PE X a ta):PE X (.UnaryOp op a pos) (tUn r ta):=by
 intro pins s σ H Q I h
 exact UnaryOp_ (aL (ha pins s σ H _ I h) fun v s1 ⟨x,H1,I1,r1,q1⟩=>ho pins s1 σ H1 x v Q I1 r1 q1)
theorem oA {f:Value->Value->Sem Value}{C:Int->Int->Prop}{g:Int->Int->Int}
  (rule:∀ (i j:Int) (t u:Tok) (s:Shared) (Q:Value->Shared->Prop) (E:Value->Shared->Prop),C i j->Q (.int (g i j) s.toks) { s with toks:=s.toks+1 }->wpAny (model X.prog X.w) X.A (f (.int i t) (.int j u)) Q E s) :
  bR X f (rI C fun i j=>.int (g i j)):=by
 intro pins s σ H x y v u Q I rx ry h
 obtain ⟨i,j,rfl,rfl,hc,q⟩:=h
 obtain ⟨t,rfl⟩:=rx
 obtain ⟨t',rfl⟩:=ry
 exact rule i j t t' s _ _ hc ⟨.int (g i j),H,I.tok _,⟨_,rfl⟩,q⟩
theorem wS {f:Value->Value->Sem Value}{g:Int->Int->Int}
  (rule:∀ (i j:Int) (t u:Tok) (s:Shared) (Q:Value->Shared->Prop) (E:Value->Shared->Prop),Q (.int (g i j) s.toks) { s with toks:=s.toks+1 }->wpAny (model X.prog X.w) X.A (f (.int i t) (.int j u)) Q E s) :
  bR X f (i6 fun i j=>.int (g i j)):=by
 intro pins s σ H x y v u Q I rx ry h
 obtain ⟨i,j,rfl,rfl,q⟩:=h
 obtain ⟨t,rfl⟩:=rx
 obtain ⟨t',rfl⟩:=ry
 exact rule i j t t' s _ _ ⟨.int (g i j),H,I.tok _,⟨_,rfl⟩,q⟩
theorem rR {f:Value->Value->Sem Value}{g:Int->Int->Bool}
  (rule:∀ (i j:Int) (t u:Tok) (s:Shared) (Q:Value->Shared->Prop) (E:Value->Shared->Prop),Q (.bool (g i j)) s->wpAny (model X.prog X.w) X.A (f (.int i t) (.int j u)) Q E s) :
  bR X f (i6 fun i j=>.bl (g i j)):=by
 intro pins s σ H x y v u Q I rx ry h
 obtain ⟨i,j,rfl,rfl,q⟩:=h
 obtain ⟨t,rfl⟩:=rx
 obtain ⟨t',rfl⟩:=ry
 exact rule i j t t' s _ _ ⟨.bl (g i j),H,I,rfl,q⟩
def rS (i j:Int):Prop:=0 < j/\j < 1073741824
def rT (i j:Int):Prop:=0<=j/\j<=1000000/\i.natAbs < 2 ^ 64
def mB (i j:Int):Prop:=(-(2 ^ 64) < i/\i < 2 ^ 64) ∨ (-(2 ^ 64) < j/\j < 2 ^ 64)
theorem mB.ok {i j:Int} (h:mB i j):IntMulOk i j:=by
 rcases h with ⟨h1,h2⟩ | ⟨h1,h2⟩
 ·exact .of_left (intBits_le_64 h1 h2)
 ·exact .of_right (intBits_le_64 h1 h2)
theorem aa2:bR X (binaryOp .Add) (i6 fun i j=>.int (i+j)):=wS fun _ _ _ _ _ _ _ q=>add_int q
theorem aa3:bR X (binaryOp .Sub) (i6 fun i j=>.int (i - j)):=wS fun _ _ _ _ _ _ _ q=>sub_int q
theorem aa4:bR X (binaryOp .Mult) (rI mB fun i j=>.int (i * j)):=oA fun _ _ _ _ _ _ _ hc q=>mul_int q hc.ok
theorem aa5:bR X (binaryOp .FloorDiv) (rI rS fun i j=>.int (i / j)):=oA fun i j _ _ _ _ _ hc q=>by
 have h1:(0:Int) < j:=hc.1
 have h2:j < 1073741824:=hc.2
 exact floordiv_int (by omega) (by rw [Int.fdiv_eq_ediv_of_nonneg i (by omega)]; exact q) (.inl (PyProof.noPylong_small (by omega)))
theorem aa6:bR X (binaryOp .Mod) (rI (fun _ j=>0 < j) fun i j=>.int (i % j)):=oA fun i j _ _ _ _ _ hc q=>by
 have h1:(0:Int) < j:=hc
 exact mod_int' (by omega) (by rw [Int.fmod_eq_emod_of_nonneg i (by omega)]; exact q)
theorem aa7:bR X (binaryOp .Pow) (rI rT fun i j=>.int (i ^ j.toNat)):=oA fun _ _ _ _ _ _ _ hc q=>pow_int_small hc.1 hc.2.1 hc.2.2 q
theorem unI {f:Value->Sem Value}{g:Int->Int}
  (rule:∀ (i:Int) (t:Tok) (s:Shared) (Q:Value->Shared->Prop) (E:Value->Shared->Prop),Q (.int (g i) s.toks) { s with toks:=s.toks+1 }->wpAny (model X.prog X.w) X.A (f (.int i t)) Q E s) :
  rP X f (rU fun i=>.int (g i)):=by
 intro pins s σ H x v Q I rx h
 obtain ⟨i,rfl,q⟩:=h
 obtain ⟨t,rfl⟩:=rx
 exact rule i t s _ _ ⟨.int (g i),H,I.tok _,⟨_,rfl⟩,q⟩
theorem aa8:rP X (unaryOp .USub) (rU fun i=>.int (-i)):=unI fun _ _ _ _ _ q=>neg_int q
end
def wT:V->V->Bool
 | .non,.non=>true | .non,.int _=>true | .int _,.non=>true | .non,.bl _=>true | .bl _,.non=>true | .non,.str _=>true | .str _,.non=>true
 | .int _,.int _=>true | .bl _,.bl _=>true | .str _,.str _=>true | .byt _,.byt _=>true
 | .int _,.str _=>true | .str _,.int _=>true | .bl _,.str _=>true | .str _,.bl _=>true
 | _,_=>false
def wU:R2:=fun x y H Q=>wT x y=true/\Q (.bl (decide (x=y))) H
def rV:R2:=fun x y H Q=>wT x y=true/\Q (.bl (!decide (x=y))) H
theorem wV {i j:Int}:decide (V.int i=V.int j)=(i == j):=by
 rw [aY6]
 simp
theorem wW {i j:Bool}:decide (V.bl i=V.bl j)=(i == j):=by
 rw [aY6]
 simp
theorem wX {i j:Str}:decide (V.str i=V.str j)=(i == j):=by
 rw [aY6]
 simp
theorem wY {i j:Array UInt8}:decide (V.byt i=V.byt j)=(i.toList == j.toList):=by
 rw [aY6]
 cases i
 cases j
 simp
section
variable {X : Cx} {a b c : Expr} {ta tb tc : TE} {pos : Pos}
theorem bO {pins:List (Addr × Obj)}{σ:St}{H:Hp}{s:Shared}{Q:VK}{k k':Bool} (I:a8 X pins σ H s) (q:Q (.bl k) H) (e:k=k'):EP X pins σ Q (.bool k') s:=by
 subst e
 exact⟨.bl k,H,I,rfl,q⟩
theorem wZ:bR X (compareOp .Eq) wU:=by
 intro pins s σ H x y v u Q I rx ry h
 obtain ⟨hs,q⟩:=h
 cases x with
 | non=>
  cases rx
  cases y with
  | non=>cases ry; exact PySem.EqNone.eq_none_none (bO I q (by simp))
  | bl j=>cases ry; exact PySem.EqNone.eq_none_bool (bO I q (by simp))
  | int j=>obtain ⟨t',rfl⟩:=ry; exact PySem.EqNone.eq_none_int (bO I q (by simp))
  | str j=>obtain ⟨t',rfl⟩:=ry; exact PySem.EqNone.eq_none_str (bO I q (by simp))
  | _=>exact absurd (show false=true from hs) aS6
 | bl i=>
  cases rx
  cases y with
  | non=>cases ry; exact PySem.EqNone.eq_bool_none (bO I q (by simp))
  | bl j=>cases ry; exact eq_bool (bO I q wW)
  | str j=>obtain ⟨t',rfl⟩:=ry; exact PySem.EqMixed.eq_bool_str (bO I q (by simp))
  | _=>exact absurd (show false=true from hs) aS6
 | int i=>
  obtain ⟨t,rfl⟩:=rx
  cases y with
  | non=>cases ry; exact PySem.EqNone.eq_int_none (bO I q (by simp))
  | int j=>obtain ⟨t',rfl⟩:=ry; exact eq_int (bO I q wV)
  | str j=>obtain ⟨t',rfl⟩:=ry; exact PySem.EqMixed.eq_int_str (bO I q (by simp))
  | _=>exact absurd (show false=true from hs) aS6
 | str i=>
  obtain ⟨t,rfl⟩:=rx
  cases y with
  | non=>cases ry; exact PySem.EqNone.eq_str_none (bO I q (by simp))
  | bl j=>cases ry; exact PySem.EqMixed.eq_str_bool (bO I q (by simp))
  | int j=>obtain ⟨t',rfl⟩:=ry; exact PySem.EqMixed.eq_str_int (bO I q (by simp))
  | str j=>obtain ⟨t',rfl⟩:=ry; exact eq_str (bO I q wX)
  | _=>exact absurd (show false=true from hs) aS6
 | byt i=>
  obtain ⟨t,rfl⟩:=rx
  cases y with
  | byt j=>obtain ⟨t',rfl⟩:=ry; exact PySem.W.eq_bytes (bO I q wY)
  | _=>exact absurd (show false=true from hs) aS6
 | _=>cases y <;> exact absurd (show false=true from hs) aS6
theorem x0:bR X (compareOp .NotEq) rV:=by
 intro pins s σ H x y v u Q I rx ry h
 obtain ⟨hs,q⟩:=h
 cases x with
 | non=>
  cases rx
  cases y with
  | non=>cases ry; exact PySem.EqNone.ne_none_none (bO I q (by simp))
  | bl j=>cases ry; exact PySem.EqNone.ne_none_bool (bO I q (by simp))
  | int j=>obtain ⟨t',rfl⟩:=ry; exact PySem.EqNone.ne_none_int (bO I q (by simp))
  | str j=>obtain ⟨t',rfl⟩:=ry; exact PySem.EqNone.ne_none_str (bO I q (by simp))
  | _=>exact absurd (show false=true from hs) aS6
 | bl i=>
  cases rx
  cases y with
  | non=>cases ry; exact PySem.EqNone.ne_bool_none (bO I q (by simp))
  | bl j=>cases ry; exact ne_bool (bO I q (congrArg not wW))
  | str j=>obtain ⟨t',rfl⟩:=ry; exact PySem.EqMixed.ne_bool_str (bO I q (by simp))
  | _=>exact absurd (show false=true from hs) aS6
 | int i=>
  obtain ⟨t,rfl⟩:=rx
  cases y with
  | non=>cases ry; exact PySem.EqNone.ne_int_none (bO I q (by simp))
  | int j=>obtain ⟨t',rfl⟩:=ry; exact ne_int (bO I q (congrArg not wV))
  | str j=>obtain ⟨t',rfl⟩:=ry; exact PySem.EqMixed.ne_int_str (bO I q (by simp))
  | _=>exact absurd (show false=true from hs) aS6
 | str i=>
  obtain ⟨t,rfl⟩:=rx
  cases y with
  | non=>cases ry; exact PySem.EqNone.ne_str_none (bO I q (by simp))
  | bl j=>cases ry; exact PySem.EqMixed.ne_str_bool (bO I q (by simp))
  | int j=>obtain ⟨t',rfl⟩:=ry; exact PySem.EqMixed.ne_str_int (bO I q (by simp))
  | str j=>obtain ⟨t',rfl⟩:=ry; exact ne_str (bO I q (congrArg not wX))
  | _=>exact absurd (show false=true from hs) aS6
 | byt i=>
  obtain ⟨t,rfl⟩:=rx
  cases y with
  | byt j=>obtain ⟨t',rfl⟩:=ry; exact PySem.W.ne_bytes (bO I q (congrArg not wY))
  | _=>exact absurd (show false=true from hs) aS6
 | _=>cases y <;> exact absurd (show false=true from hs) aS6
theorem oB:bR X (compareOp .Lt) (i6 fun i j=>.bl (decide (i < j))):=rR fun _ _ _ _ _ _ _ q=>lt_int q
theorem aa9:bR X (compareOp .Gt) (i6 fun i j=>.bl (decide (j < i))):=rR fun _ _ _ _ _ _ _ q=>gt_int q
theorem ab0:bR X (compareOp .GtE) (i6 fun i j=>.bl (decide (j<=i))):=rR fun _ _ _ _ _ _ _ q=>ge_int q
theorem ab1:bR X (compareOp .Is) (fun x y H Q=>y = .non/\Q (.bl (decide (x = .non))) H):=by
 intro pins s σ H x y v u Q I rx ry h
 obtain ⟨rfl,q⟩:=h
 cases ry
 refine is_none_gen (bO I q ?_)
 cases x <;> first
  | (cases rx; rfl)
  | (obtain ⟨t,rfl⟩:=rx; rfl)
theorem x3:bR X (compareOp .IsNot) (fun x y H Q=>y = .non/\Q (.bl (!decide (x = .non))) H):=by
 intro pins s σ H x y v u Q I rx ry h
 obtain ⟨rfl,q⟩:=h
 cases ry
 refine isnot_none_gen (bO I q ?_)
 cases x <;> first
  | (cases rx; rfl)
  | (obtain ⟨t,rfl⟩:=rx; rfl)
theorem dY (b:Expr) {op:CmpOp} (h:op ≠ .In:=by decide) (h2:op ≠ .NotIn:=by decide):behindInMarks op b=false:=by
 have e1:(op == CmpOp.In)=false:=by cases op <;> first | rfl | exact absurd rfl h
 have e2:(op == CmpOp.NotIn)=false:=by cases op <;> first | rfl | exact absurd rfl h2
 cases b <;> simp [behindInMarks,e1,e2]
theorem rW {op:CmpOp}{r:R2} (ho:bR X (compareOp op) r) (ha:PE X a ta) (hb:PE X b tb) (hm:behindInMarks op b=false):PE X (.Compare a [op] [b] pos) (m9 r ta tb):=by
 intro pins s σ H Q I h
 exact wpAny_Compare1 (rQ ha hb I h fun v u s2 x y H2 I2 rx ry q=>ho pins s2 σ H2 x y v u Q I2 rx ry q) hm
def ab2 (t:TE):TT:=fun σ H Q=>t σ H fun x H'=>∃ k,x = .bl k/\Q k H'
theorem ab3 {op:CmpOp}{r:R2} (ho:bR X (compareOp op) r) (ha:PE X a ta) (hb:PE X b tb) (hm:behindInMarks op b=false):PT X (.Compare a [op] [b] pos) (ab2 (m9 r ta tb)):=by
 intro pins s σ H Q I h
 refine wpAny_isTrue_Compare1 (aL (ha pins s σ H _ I h) fun v s1 ⟨x,H1,I1,r1,q1⟩=>aL (hb pins s1 σ H1 _ I1 q1) fun u s2 ⟨y,H2,I2,r2,q2⟩=>
  aL (ho pins s2 σ H2 x y v u _ I2 r1 r2 q2) fun c s3 ⟨z,H3,I3,r3,k,e,q3⟩=>?_) hm
 subst e
 cases r3
 exact bd1 ⟨H3,I3,q3⟩
def rX (K:PySem.W.Frag) (x:V) (H:Hp) (k:Bool):Prop:=
 match x with
 | .non=>k=false
 | .bl b=>k=b
 | .int i=>k=(i != 0)
 | .str y=>y.length<=sizeLine/\k=((y.length:Int) != 0)
 | .byt y=>y.size<=sizeLine/\k=((y.size:Int) != 0)
 | .ref p=>(∃ xs,aM K H p xs/\k = !xs.isEmpty) ∨ (∃ xs,aJ K H p xs/\k = !xs.isEmpty) ∨ ∃ kvs,H p=some (.dK kvs)/\k = !kvs.isEmpty
 | _=>False
theorem ab4 {κ:Type}{kvs:List (κ × V)}{vs:List (κ × Value)} (r:KV kvs vs):(!vs.isEmpty) = !kvs.isEmpty:=by
 cases r <;> rfl
theorem x4 {xs:List V}{its:List Value} (r:aK xs its):(!its.toArray.isEmpty) = !xs.isEmpty:=by
 cases r <;> simp
theorem kR:(sizeLine:Nat) < 2 ^ 63:=by rw [sizeLine_eq]; decide
theorem ab5:Z9 X (fun x H Q=>∃ k,rX X.K x H k/\Q k H):=by
 intro pins s σ H x v Q I rx h
 obtain ⟨k,e,q⟩:=h
 have hl:=kR
 have hs:sizeLine=16777216:=sizeLine_eq
 cases x with
 | non=>
  cases rx
  have e':k=false:=e
  subst e'
  exact truthy_none ⟨H,I,q⟩
 | bl b=>
  cases rx
  have e':k=b:=e
  subst e'
  exact bd1 ⟨H,I,q⟩
 | int i=>
  obtain ⟨t,rfl⟩:=rx
  have e':k=(i != 0):=e
  subst e'
  exact PySem.P.truthy_int ⟨H,I,q⟩
 | str y=>
  obtain ⟨t,rfl⟩:=rx
  obtain ⟨hy,e'⟩:y.length<=sizeLine/\k=((y.length:Int) != 0):=e
  subst e'
  exact PySem.P.truthy_str (by omega) ⟨H,I.tok _,q⟩
 | byt y=>
  obtain ⟨t,rfl⟩:=rx
  obtain ⟨hy,e'⟩:y.size<=sizeLine/\k=((y.size:Int) != 0):=e
  subst e'
  exact PySem.W.truthy_bytes (by omega) ⟨H,I.tok _,q⟩
 | ref p=>
  cases rx
  have e':(∃ xs,aM X.K H p xs/\k = !xs.isEmpty) ∨ (∃ xs,aJ X.K H p xs/\k = !xs.isEmpty) ∨ ∃ kvs,H p=some (.dK kvs)/\k = !kvs.isEmpty:=e
  rcases e' with ⟨xs,hx,e'⟩ | ⟨xs,hx,e'⟩ | ⟨kvs,hx,e'⟩
  ·subst e'
   obtain ⟨its,r,pl,hz⟩:=I.list hx
   have hlen:=r.length
   exact wpAny_truthy_list pl.isList (by simp only [aQ8]; omega) ⟨H,I.tok _,by rw [x4 r]; exact q⟩
  ·subst e'
   obtain ⟨its,r,pl,hz⟩:=I.tuple hx
   have hlen:=r.length
   exact truthy_tuple pl (by simp only [aQ8]; omega) ⟨H,I.tok _,by rw [x4 r]; exact q⟩
  ·subst e'
   obtain ⟨hz,hS,vs,r,m⟩:kvs.length<=sizeLine/\(p == sysModules)=false/\∃ vs,KV kvs vs/\s.heap.DictOf (dF X.prog X.w) p vs:=I.hok p _ hx
   have hlen:kvs.length=vs.length:=Paired.length r
   exact wpAny_truthy_dict hS m (by omega) ⟨H,I.tok _,by rw [ab4 r]; exact q⟩
 | _=>exact (show False from e).elim
theorem ab6 (ha:PE X a ta) (he:∀ whole,isTrue a X.env whole=(do let v <- whole; standAt a.pos; holding [v] (truthy v))) :
  PT X a (fun σ H Q=>ta σ H fun x H'=>∃ k,rX X.K x H' k/\Q k H'):=by
 intro pins s σ H Q I h
 exact isTrue_plain (aL (ha pins s σ H _ I h) fun v s1 ⟨x,H1,I1,r1,q1⟩=>ab5 pins s1 σ H1 x v Q I1 r1 q1) (he _)
theorem ab7:bR X (binaryOp .Add) (fun x y H Q=>∃ i j,x = .str i/\y = .str j/\i.length+j.length<=sizeLine/\Q (.str (i ++ j)) H):=by
 intro pins s σ H x y v u Q I rx ry h
 obtain ⟨i,j,rfl,rfl,hz,q⟩:=h
 obtain ⟨t,rfl⟩:=rx
 obtain ⟨t',rfl⟩:=ry
 exact add_str (fun t' tk=>⟨.str (i ++ j),H,I.tok _,⟨_,rfl⟩,q⟩) hz
theorem fC {x:V}{us:List Value} (r:aK [x] us):∃ u,us = [u]/\aQ x u:=by
 cases r with
 | cons r1 r2=>cases r2; exact⟨_,rfl,r1⟩
theorem rY {x y:V}{us:List Value} (r:aK [x,y] us):∃ u w',us = [u,w']/\aQ x u/\aQ y w':=by
 cases r with
 | cons r1 r2=>
  cases r2 with
  | cons r3 r4=>cases r4; exact⟨_,_,rfl,r1,r3⟩
theorem ab8 (hc:X.calm=true):cJ X (.builtin "max") (fun xs H Q=>∃ i j,xs = [.int i,.int j]/\Q (.int (if j > i then j else i)) H):=by
 intro pins s σ H xs us Q I r h
 obtain ⟨i,j,rfl,q⟩:=h
 obtain ⟨u,w',rfl,⟨t,rfl⟩,⟨t',rfl⟩⟩:=rY r
 refine max_two_ints (I.ok.hd hc) fun h' tk k=>⟨_,H,I.kept k,?_,q⟩
 by_cases hj:j > i
 ·rw [if_pos hj,if_pos hj]; exact⟨_,rfl⟩
 ·rw [if_neg hj,if_neg hj]; exact⟨_,rfl⟩
theorem ab9 (hc:X.calm=true):cJ X (.builtin "min") (fun xs H Q=>∃ i j,xs = [.int i,.int j]/\Q (.int (if j < i then j else i)) H):=by
 intro pins s σ H xs us Q I r h
 obtain ⟨i,j,rfl,q⟩:=h
 obtain ⟨u,w',rfl,⟨t,rfl⟩,⟨t',rfl⟩⟩:=rY r
 refine min_two_ints (I.ok.hd hc) fun h' tk k=>⟨_,H,I.kept k,?_,q⟩
 by_cases hj:j < i
 ·rw [if_pos hj,if_pos hj]; exact⟨_,rfl⟩
 ·rw [if_neg hj,if_neg hj]; exact⟨_,rfl⟩
theorem ac0:cJ X (.type "int") (fun xs H Q=>(∃ i,xs = [.int i]/\Q (.int i) H) ∨ ∃ k,xs = [.bl k]/\Q (.int (if k then 1 else 0)) H):=by
 intro pins s σ H xs us Q I r h
 rcases h with ⟨i,rfl,q⟩ | ⟨k,rfl,q⟩
 ·obtain ⟨u,rfl,t,rfl⟩:=fC r
  exact call_int_int ⟨.int i,H,I,⟨_,rfl⟩,q⟩
 ·obtain ⟨u,rfl,r1⟩:=fC r
  cases r1
  exact call_int_bool ⟨.int (if k then 1 else 0),H,I.tok _,⟨_,rfl⟩,q⟩
end
theorem fO.some_of {v:V}{o:Option Value} (r:fO (some v) o):∃ u,o=some u/\aQ v u:=by
 cases o with
 | none=>exact (show False from r).elim
 | some u=>exact⟨u,rfl,r⟩
structure bY (k:Nat) (A:Around):Prop where
 hd:A.handled=none
 dp:A.depth+3 * k+5 < recursionLimit
 un:A.units+16 * k+200 < cLine
theorem bY.mono {j k:Nat}{A:Around} (r:bY k A) (h:j<=k):bY j A:=⟨r.hd,by have:=r.dp; omega,by have:=r.un; omega⟩
theorem bY.deeper {k:Nat}{A:Around} (r:bY (k+1) A) (env:Env):bY k (A.deeper env):=
 ⟨r.hd,by have:=r.dp; show A.depth+1+3 * k+5 < _; omega,by have:=r.un; show A.units+3+16 * k+200 < _; omega⟩
theorem bY.depth {k:Nat}{A:Around} (r:bY k A):A.depth < recursionLimit:=by have:=r.dp; omega
theorem bY.units {k:Nat}{A:Around} (r:bY k A):A.units+64 < cLine:=by have:=r.un; omega
def gQ:TA:=fun _ H Q=>Q [] H
def fR (ta:TE) (tr:TA):TA:=fun σ H Q=>ta σ H fun x H1=>tr σ H1 fun xs H2=>Q (x :: xs) H2
section
variable {X : Cx} {e : Expr} {es : List Expr} {te : TE} {t : TA} {pos : Pos}
theorem cZ:PA X [] gQ:=fun _ _ _ _ H Q I h=>Calls.spliced_nil ⟨[],H,I,.nil,h⟩
theorem cK (ha:PE X e te) (hr:PA X es t) (hs:starEach (e :: es) X.env=(false,eval e X.env) :: starEach es X.env:=by rfl):PA X (e :: es) (fR te t):=by
 intro pos pins s σ H Q I h
 rw [hs]
 show wpAny _ _ (spliced ((false,eval e X.env) :: backTo pos (starEach es X.env))) _ _ s
 refine Calls.spliced_cons (aL (ha pins s σ H _ I h) fun u s1 ⟨x,H1,I1,r1,q1⟩=>?_)
 exact aL (hr pos pins s1 σ H1 _ I1 q1) fun us s2 ⟨xs,H2,I2,r2,q2⟩=>⟨x :: xs,H2,I2,.cons r1 r2,q2⟩
def x5 (t:TA):TE:=fun σ H Q=>t σ H fun xs H1=>xs.length<=sizeLine/\∀ p,H1 p=none->Q (.ref p) (upd H1 p (.tup xs))
def rZ (t:TA):TE:=fun σ H Q=>t σ H fun xs H1=>xs.length<=sizeLine/\∀ p,H1 p=none->Q (.ref p) (upd H1 p (.lst xs))
theorem ac1 {x1} (h:PA X es t):PE X (.Tuple es x1 pos) (x5 t):=by
 intro pins s σ H Q I hq
 refine wpAny_Tuple_spliced (aL (h pos pins s σ H _ I hq) fun us s1 ⟨xs,H1,I1,r,z,q⟩=>⟨by rw [<- r.length]; exact z,?_⟩)
 have hf:H1 s1.heap.objs.size=none:=I1.hok.fresh (aR0 _)
 refine⟨.ref s1.heap.objs.size,upd H1 s1.heap.objs.size (.tup xs),I1.laid (t':=s1.toks) (fun b u e=>aQ6 _ e) (aR0 _) ?_,rfl,q _ hf⟩
 exact⟨z,us,r,⟨_,aS1 _ rfl,rfl,_,rfl⟩⟩
theorem sA (h:PA X es t):PE X (.List es pos) (rZ t):=by
 intro pins s σ H Q I hq
 refine wpAny_List_spliced (aL (h pos pins s σ H _ I hq) fun us s1 ⟨xs,H1,I1,r,z,q⟩=>⟨by rw [<- r.length]; exact z,?_⟩)
 have hf:H1 s1.heap.objs.size=none:=I1.hok.fresh (aR0 _)
 refine⟨.ref s1.heap.objs.size,upd H1 s1.heap.objs.size (.lst xs),I1.laid (t':=s1.toks) (fun b u e=>aQ6 _ e) (aR0 _) ?_,rfl,q _ hf⟩
 exact⟨z,us,0,r,aS1 _ rfl⟩
end
abbrev Sp:=List V->Hp->VK->XK->Prop
abbrev fS:=List Env->Hp->Shared->XK->Value->Shared->Prop
structure oC (P:Program) (w:World) (K:PySem.W.Frag) (mg:Str->Option Value) (base:Heap) (A:Around) (outer:List Env) (s:Shared) (H:Hp):Prop where
 frames:A.frames=some outer
 mod:Mod K mg base
 bs:∀ b o,base.get? b=some o->s.heap.get? b=some o/\H b=none
 bsz:base.objs.size<=s.heap.objs.size
 funs:s.heap.FunFrames base outer
 frf:∀ b ∈ bI outer,H b=none
 hok:bN P w H s.heap
 bare:AllBare s.gens
def CE (outer:List Env) (P:Program) (w:World) (H:Hp) (s:Shared) (Q:VK) (u:Value) (s':Shared):Prop:=
 ∃ v H',s'.os=s.os/\AllBare s'.gens/\Un (bI outer) [] H H' s.heap s'.heap/\bN P w H' s'.heap/\aQ v u/\Q v H'
def CR (CX:fS) (outer:List Env) (P:Program) (w:World) (H:Hp) (s:Shared) (Q:VK) (E:XK) (r:Result) (s':Shared):Prop:=
 match r with
 | .ok (.ret u)=>CE outer P w H s Q u s'
 | .ok _=>False
 | .error e=>CX outer H s E e s'
structure cL (P:Program) (w:World) (K:PySem.W.Frag) (mg:Str->Option Value) (base:Heap) (CX:fS) (k:Nat) (f:Addr) (fd:FuncData) (ps:List Str) (sp:Sp):Prop where
 len:∀ vs H Q E,sp vs H Q E->vs.length=ps.length
 run:∀ (A:Around) (outer:List Env) (s:Shared) (H:Hp) (args:Args) (us:List Value) (vs:List V) (Q:VK) (E:XK),bY k A->oC P w K mg base A outer s H->BindsTo s fd args (ps.zip us)->aK vs us->sp vs H Q E->
  codeAny (model P w) A (.call (.ref f) args) (CR CX outer P w H s Q E) s
theorem cL.imp {P:Program}{w:World}{K:PySem.W.Frag}{mg:Str->Option Value}{base:Heap}{CX:fS}{k:Nat}{f:Addr}{fd:FuncData}{ps:List Str}{sp sp':Sp} (F:cL P w K mg base CX k f fd ps sp)
  (h:∀ vs H Q E,sp' vs H Q E->sp vs H Q E):cL P w K mg base CX k f fd ps sp':=
 ⟨fun vs H Q E q=>F.len vs H Q E (h _ _ _ _ q),fun A outer s H args us vs Q E hr he hb hv hs=>F.run A outer s H args us vs Q E hr he hb hv (h _ _ _ _ hs)⟩
section
variable {X : Cx} {pins : List (Addr × Obj)} {σ : St} {H : Hp} {s s' : Shared}
theorem a8.env0 (I:a8 X pins σ H s):oC X.prog X.w X.K X.mg X.base X.A X.stack s H:=
 ⟨I.ok.frames,I.ok.mod,I.bs,aT4 I.ok.bsz I.sz,I.stack,I.stkFree,I.hok,I.bare⟩
theorem a8.after {Q:VK}{u:Value} (I:a8 X pins σ H s) (h:CE X.stack X.prog X.w H s Q u s'):EP X pins σ Q u s':=by
 obtain ⟨v,H',os,bare,un,hok,r,q⟩:=h
 obtain ⟨hh,g,d,t,os'⟩:=s'
 obtain rfl:os'=s.os:=os
 exact⟨v,H',I.call (h':=hh) (g':=g) (d':=d) (t':=t) (ch:=[]) un hok bare (fun b z=>absurd z (by simp)),r,q⟩
end
def sB (sp:Sp) (dvs:List V) (E:XK) (t:TA):TE:=fun σ H Q=>t σ H fun vs H1=>sp (vs ++ dvs) H1 Q E
def gR (K:PySem.W.Frag) (fd:FuncData) (ps:List Str) (ds:List Value):Prop:=
 ∀ (s:Shared) (us:List Value),K.In s.heap->(us ++ ds).length=ps.length->BindsTo s fd ⟨us,[]⟩ (ps.zip (us ++ ds))
theorem gR.all {K:PySem.W.Frag}{fd:FuncData}{ps:List Str} (h:∀ us:List Value,us.length=ps.length->bindArgs fd ⟨us,[]⟩=pure (ps.zip us)):gR K fd ps []:=fun s us _ hl=>by
 rw [aV4] at hl ⊢
 exact .of_eq (h us hl)
def mC (CX:fS) (X:Cx) (E:XK):Prop:=∀ (pins:List (Addr × Obj)) (σ:St) (H:Hp) (s:Shared) (e:Value) (s':Shared),a8 X pins σ H s->CX X.stack H s E e s'->X.xe e s'
section
variable {X : Cx} {CX : fS} {k : Nat} {f C : Addr} {fd : FuncData} {ps : List Str} {sp : Sp} {dvs : List V} {ds : List Value} {E : XK} {x m : Str} {p pos apos : Pos} {e o : Expr} {es : List Expr} {ta : TE} {t : TA}
theorem ac2 {pins:List (Addr × Obj)}{σ:St}{H:Hp}{s:Shared}{Q:VK}{us:List Value}{vs:List V} (F:cL X.prog X.w X.K X.mg X.base CX k f fd ps sp) (hr:bY k X.A) (hb:gR X.K fd ps ds) (hd:aK dvs ds) (hx:mC CX X E)
  (I:a8 X pins σ H s) (r:aK vs us) (h:sp (vs ++ dvs) H Q E):wpAny (model X.prog X.w) X.A (call (.ref f) us) (EP X pins σ Q) X.xe s:=by
 have r2:aK (vs ++ dvs) (us ++ ds):=r.append hd
 have hl:(us ++ ds).length=ps.length:=by rw [<- r2.length]; exact F.len _ _ _ _ h
 refine wpAny_call (codeAny_mono (F.run X.A X.stack s H ⟨us,[]⟩ (us ++ ds) (vs ++ dvs) Q E hr I.env0 (hb s us I.kIn hl) r2 h) fun r s' hq=>?_)
 cases r with
 | error e=>exact hx pins σ H s e s' I hq
 | ok fl=>
  cases fl with
  | ret u=>exact I.after hq
  | next=>exact False.elim hq
  | brk=>exact False.elim hq
  | cont=>exact False.elim hq
theorem x6 (F:cL X.prog X.w X.K X.mg X.base CX k f fd ps sp) (hr:bY k X.A) (hg:Gl X x) (hm:X.mg x=some (.ref f)) (hk:PySem.W.keepIn X.K (.ref f)=true) (hb:gR X.K fd ps ds) (hd:aK dvs ds) (hx:mC CX X E)
  (ha:PA X (e :: es) t) (hdb:(x == ("__debug__" : Str))=false:=by decide) (he:starEach (e :: es) X.env=(false,eval e X.env) :: starEach es X.env:=by rfl) (hpl:(backTo pos (starEach es X.env)).any (·.1)=false:=by rfl) :
  PE X (.Call (.Name x p) (e :: es) [] pos) (sB sp dvs E t):=by
 intro pins s σ H Q I h
 refine wpAny_Call_Name_kw (lY I hg hm ?_ hdb)
 refine PySem.W.callWith_K (h₀:=X.base) I.ok.mod.kin hk (aL (ha pos pins s σ H _ I h) fun us s1 ⟨vs,H1,I1,r,q⟩=>⟨I1.kIn,?_⟩) he hpl
 exact ac2 F hr hb hd hx I1 r q
end
def PK (X:Cx) (kws:List Keyword) (t:TA):Prop:=
 ∀ (pos:Pos) (pins:List (Addr × Obj)) (s:Shared) (σ:St) (H:Hp) (Q:List V->Hp->Prop),a8 X pins σ H s->t σ H Q->wpAny (model X.prog X.w) X.A (evalAll ((backToKw pos (keywordEach kws X.env)).map (·.2))) (AP X pins σ Q) X.xe s
structure FnScope (N P:List Str) (sc:Scope):Prop where
 kind:sc.kind = .function
 co:sc.isCoroutine=false
 gen:sc.isGenerator=false
 nd:N.Nodup
 pre:N.take P.length=P
 par:∀ x ∈ P,sc.names.lookup x=some .local ∨ sc.names.lookup x=some .cell
 nofree:∀ y ∈ sc.names,y.2 ≠ .free
theorem x8 {kindOf:Str->Option NameKind}{x:Str}:∀ {binds:List (Str × Value)}{m:Str->Option Value},(∀ v,(x,v) ∉ binds)->bindL kindOf binds m x=m x
 | [],_,_=>rfl
 | (n,v) :: r,m,h=>by
  unfold bindL
  rw [x8 fun w hw=>h w (aS2 _ hw)]
  split
  ·have:x ≠ n:=by rintro rfl; exact h v aS0
   simp [this]
  ·rfl
theorem x9 {kindOf:Str->Option NameKind}{x:Str}:∀ {binds:List (Str × Value)}{m:Str->Option Value},(∀ v,(x,v) ∉ binds)->bindC kindOf binds m x=m x
 | [],_,_=>rfl
 | (n,v) :: r,m,h=>by
  unfold bindC
  rw [x9 fun w hw=>h w (aS2 _ hw)]
  split
  ·rfl
  ·have:x ≠ n:=by rintro rfl; exact h v aS0
   simp [this]
theorem xA {kindOf:Str->Option NameKind}{x:Str}{v:Value}:∀ {P:List Str}{vs:List Value}{i:Nat}{m:Str->Option Value},P.Nodup->P[i]? = some x->vs[i]? = some v->kindOf x=some .local->
  bindL kindOf (P.zip vs) m x=some v
 | [],_,_,_,_,h,_,_=>by simp at h
 | _ :: _,[],_,_,_,_,h,_=>by simp at h
 | p :: P,w :: vs,0,m,nd,h1,h2,hk=>by
  simp at h1 h2; subst h1; subst h2
  show bindL kindOf ((p,w) :: P.zip vs) m p=_
  unfold bindL
  rw [x8 fun v hv=>(List.nodup_cons.mp nd).1 (List.of_mem_zip hv).1,if_pos hk]
  simp
 | p :: P,w :: vs,i+1,m,nd,h1,h2,hk=>by
  show bindL kindOf ((p,w) :: P.zip vs) m x=_
  unfold bindL
  exact xA (i:=i) (List.nodup_cons.mp nd).2 (by simpa using h1) (by simpa using h2) hk
theorem xB {kindOf:Str->Option NameKind}{x:Str}{v:Value}:∀ {P:List Str}{vs:List Value}{i:Nat}{m:Str->Option Value},P.Nodup->P[i]? = some x->vs[i]? = some v->kindOf x ≠ some .local->
  bindC kindOf (P.zip vs) m x=some v
 | [],_,_,_,_,h,_,_=>by simp at h
 | _ :: _,[],_,_,_,_,h,_=>by simp at h
 | p :: P,w :: vs,0,m,nd,h1,h2,hk=>by
  simp at h1 h2; subst h1; subst h2
  show bindC kindOf ((p,w) :: P.zip vs) m p=_
  unfold bindC
  rw [x9 fun v hv=>(List.nodup_cons.mp nd).1 (List.of_mem_zip hv).1,if_neg hk]
  simp
 | p :: P,w :: vs,i+1,m,nd,h1,h2,hk=>by
  show bindC kindOf ((p,w) :: P.zip vs) m x=_
  unfold bindC
  exact xB (i:=i) (List.nodup_cons.mp nd).2 (by simpa using h1) (by simpa using h2) hk
def fT (N:List Str) (vs:List V):St:=vs.map some ++ List.replicate (N.length - vs.length) none
def cS (CX:fS) (P:Program) (w:World) (K:PySem.W.Frag) (mg:Str->Option Value) (base:Heap) (N:List Str) (qual:Str) (scope:Scope) (f:Addr) (cd:Value) (A:Around) (outer:List Env) (s:Shared) (H:Hp) (E:XK):Cx where
 prog:=P
 w:=w
 K:=K
 mg:=mg
 base:=base
 A:=A.deeper (envOfC qual scope s.heap.objs.size f cd)
 N:=N
 s₀:=s
 H₀:=H
 env:=envOfC qual scope s.heap.objs.size f cd
 outer:=outer
 stack:=envOfC qual scope s.heap.objs.size f cd :: outer
 ex:=[]
 calm:=true
 fn:=fun _=>true
 pn:=[]
 xe:=fun e s'=>wpAny (model P w) (A.deeper (envOfC qual scope s.heap.objs.size f cd)) (leaving (envOfC qual scope s.heap.objs.size f cd) e) (fun _ s''=>CX outer H s E e s'') (fun e' s''=>CX outer H s E e' s'') s'
theorem xC {sc:Scope}{n:Nat}{x:Str} (h:sc.names.lookup x=some .cell):∃ c,(cellsFrom n sc.names []).lookup x=some c:=by
 have q:=PySem.W.cellsFrom_some sc.names n [] (.inl h)
 exact Option.isSome_iff_exists.mp q
theorem ac3 {CX:fS}{P:Program}{w:World}{K:PySem.W.Frag}{mg:Str->Option Value}{base:Heap}{N ps:List Str}{qual:Str}{scope:Scope}{f:Addr}{cd:Value}{A:Around}{outer:List Env}{s s1:Shared}{H:Hp}{E:XK}{us:List Value}{vs:List V}
  (S:FnScope N ps scope) (hd:A.handled=none) (e0:oC P w K mg base A outer s H) (hl:vs.length=ps.length) (r:aK vs us)
  (x:InCallC s s.heap.objs.size (bindL (envOfC qual scope s.heap.objs.size f cd).kindOf (ps.zip us) fun _=>none) (cellsFrom (s.heap.objs.size+1) scope.names []) (bindC (envOfC qual scope s.heap.objs.size f cd).kindOf (ps.zip us) fun _=>none) s1) :
  a8 (cS CX P w K mg base N qual scope f cd A outer s H E) [] (fT N vs) H s1:=by
 have hpl:ps.length<=N.length:=by have:=congrArg List.length S.pre; rw [aU5] at this; omega
 obtain ⟨h1,tk,rfl,hk⟩:=x.done
 have noA:∀ b:Addr,b ∉ (cS CX P w K mg base N qual scope f cd A outer s H E).ex:=fun b z=>absurd (show b ∈ ([]:List Addr) from z) (by simp)
 refine⟨⟨e0.mod,S.kind,rfl,rfl,aR0 _,fun y z c h1 h2=>?_,fun y hy=>?_,fun y c _ h=>?_,fun _=>hd,Around.frames_deeper e0.frames,.inr ⟨rfl,rfl⟩,fun b z=>absurd z (noA b),e0.bs,e0.bsz,fun b _ _=>noA b,fun b z=>absurd z (noA b),e0.funs,e0.frf⟩,
  rfl,e0.bare,Un.kept hk,⟨_,x.toInCall.ns,fun i y v h1 h2 h3=>?_⟩,fun y c h=>⟨_,x.cell y c h⟩,e0.hok.fresh (aR0 _),fun y c h=>?_,fun p hp=>absurd (show p ∈ ([]:List (Addr × Obj)) from hp) (by simp),e0.hok.kept hk,?_⟩
 ·exact name_of_addr x.apart (aU9 h1) (aU9 h2)
 ·have hy:scope.names.lookup y=some .cell ∨ scope.names.lookup y=some .free:=hy
  rcases hy with hy | hy
  ·exact xC hy
  ·exact absurd rfl (S.nofree _ (aU9 hy))
 ·exact aV0 (x.above y c (aU9 h))
 ·have hi:i < vs.length:=by
   unfold fT at h2
   by_cases hi:i < vs.length
   ·exact hi
   ·rw [List.getElem?_append_right (by simpa using hi)] at h2
    rw [List.getElem?_replicate] at h2
    split at h2 <;> cases h2
  have ha:vs[i]? = some v:=by
   unfold fT at h2
   rw [List.getElem?_append_left (by simpa using hi),aS5] at h2
   cases e:vs[i]? with
   | none=>rw [e] at h2; cases h2
   | some a=>rw [e] at h2; cases h2; rfl
  obtain ⟨u,hu,rv⟩:=r.get ha
  have hp:ps[i]? = some y:=by
   rw [<- S.pre,List.getElem?_take_of_lt (by omega)]; exact h1
  have ndP:ps.Nodup:=by rw [<- S.pre]; exact S.nd.sublist (List.take_sublist _ _)
  refine⟨u,rv,?_⟩
  rcases S.par y (aW8 hp) with k | k
  ·exact .inl ⟨k,xA ndP hp hu k⟩
  ·obtain ⟨c,e⟩:=xC (n:=s.heap.objs.size+1) k
   refine .inr ⟨.inl k,c,e,?_⟩
   have q:=x.cell y c e
   rw [xB ndP hp hu (by show scope.names.lookup y ≠ _; rw [k]; decide)] at q
   exact q
 ·exact e0.hok.fresh (aV0 (x.above y c (aU9 h)))
 ·unfold fT
  show _=N.length
  rw [aR3,aR1,List.length_replicate]
  omega
theorem xD {CX:fS}{P:Program}{w:World}{K:PySem.W.Frag}{mg:Str->Option Value}{base:Heap}{k:Nat}{f:Addr}{name qual:Str}{params:Arguments}{body:List Stmt}{scope:Scope}{dV kV doc pm cdv ct oc:Value}{an od:Option Addr}
  {osl:Array (Option Value)}{N ps:List Str}{sp:Sp} (lk:K.lookup f=some ⟨oc,od,.func (PySem.W.fnOf name qual params body scope dV kV doc pm an cdv ct),osl⟩) (hcd:PySem.W.codeIn K cdv qual=true) (S:FnScope N ps scope)
  (len:∀ vs H Q E,sp vs H Q E->vs.length=ps.length)
  (hbody:∀ (A:Around) (outer:List Env) (s:Shared) (H:Hp) (vs:List V) (Q:VK) (E:XK),bY k (A.deeper (envOfC qual scope s.heap.objs.size f cdv))->sp vs H Q E->
   ∃ t,cY (cS CX P w K mg base N qual scope f cdv A outer s H E) body t/\t { nx:=fun _ H'=>Q .non H',rt:=Q } (fT N vs) H) :
  cL P w K mg base CX (k+1) f (PySem.W.fnOf name qual params body scope dV kV doc pm an cdv ct) ps sp:=by
 refine⟨len,fun A outer s H args us vs Q E hr e0 hb r hsp=>?_⟩
 have hl:=len _ _ _ _ hsp
 have KX:K.In s.heap:=e0.mod.kin.keeps fun b o e=>(e0.bs b o e).1
 have lim:s.heap.NoLimit:=e0.mod.nolimit.keeps fun b o e=>(e0.bs b o e).1
 have hkind:∀ y ∈ ps.zip us,scope.names.lookup y.1=some .local ∨ (scope.names.lookup y.1=some .cell/\((cellsFrom (s.heap.objs.size+1) scope.names []).lookup y.1).isSome=true):=fun ⟨n,v⟩ hy=>by
  rcases S.par n (List.of_mem_zip hy).1 with q | q
  ·exact .inl q
  ·exact .inr ⟨q,PySem.W.cellsFrom_some _ _ _ (.inl q)⟩
 refine codeAny_call_function hr.depth (KX _ _ lk) rfl S.co S.gen rfl (PySem.W.codeRec_of KX hcd) (hb _ _ _ _ ?_)
 refine wpAny_newFunctionEnv_cells S.kind hkind fun env he s1 x=>?_
 subst he
 refine⟨lim.keeps x.toInCall.keep,codeAny_func ?_⟩
 obtain ⟨t,ht,hq⟩:=hbody A outer s H vs Q E (hr.deeper _) hsp
 have I:a8 (cS CX P w K mg base N qual scope f cdv A outer s H E) [] (fT N vs) H s1:=ac3 S hr.hd e0 hl r x
 refine aX3 (ht [] s1 (fT N vs) H _ I hq) (fun fl s' hs=>?_) fun e s' hs=>hs
 have fin:∀ {σ':St}{H':Hp}{v:V}{u:Value},a8 (cS CX P w K mg base N qual scope f cdv A outer s H E) [] σ' H' s'->aQ v u->Q v H'->CE outer P w H s Q u s':=
  fun {σ' H' v u} J rv q=>⟨v,H',J.os,J.bare,J.base,J.hok,rv,q⟩
 cases fl with
 | ret u=>
  obtain ⟨v,σ',H',J,rv,q⟩:=hs
  exact fin J rv q
 | next=>
  obtain ⟨σ',H',J,q⟩:=hs
  exact fin (v:=V.non) (u:=Value.none) J rfl q
 | brk=>
  obtain ⟨_,_,_,q⟩:=hs
  exact False.elim q
 | cont=>
  obtain ⟨_,_,_,q⟩:=hs
  exact False.elim q
section
variable {X : Cx} {x : Str} {p pos : Pos} {e : Expr} {es : List Expr} {t : TA} {id T : String} {r : List V → Hp → VK → Prop}
def sC (r:List V->Hp->VK->Prop) (t:TA):TE:=fun σ H Q=>t σ H fun vs H1=>r vs H1 Q
theorem oD (hc:cJ X (.builtin id) r) (hg:Gl X x) (hm:X.mg x=none) (hv:bootBuiltins x=some (.builtin id)) (ha:PA X (e :: es) t) (hn:x ≠ "__name__":=by decide) (hdb:(x == ("__debug__" : Str))=false:=by decide)
  (he:starEach (e :: es) X.env=(false,eval e X.env) :: starEach es X.env:=by rfl) (hpl:(backTo pos (starEach es X.env)).any (·.1)=false:=by rfl):PE X (.Call (.Name x p) (e :: es) [] pos) (sC r t):=by
 intro pins s σ H Q I h
 refine wpAny_Call_Name_kw (i5 I hg hm hv ?_ hn hdb)
 exact PyProof.Rows.callWith_builtin1 (aL (ha pos pins s σ H _ I h) fun us s1 ⟨vs,H1,I1,r1,q1⟩=>hc pins s1 σ H1 vs us Q I1 r1 q1) he hpl
theorem xE (hc:cJ X (.type T) r) (hg:Gl X x) (hm:X.mg x=none) (hv:bootBuiltins x=some (.type T)) (ha:PA X (e :: es) t) (hn:x ≠ "__name__":=by decide) (hdb:(x == ("__debug__" : Str))=false:=by decide)
  (he:starEach (e :: es) X.env=(false,eval e X.env) :: starEach es X.env:=by rfl) (hpl:(backTo pos (starEach es X.env)).any (·.1)=false:=by rfl):PE X (.Call (.Name x p) (e :: es) [] pos) (sC r t):=by
 intro pins s σ H Q I h
 refine wpAny_Call_Name_kw (i5 I hg hm hv ?_ hn hdb)
 exact aX1 (aL (ha pos pins s σ H _ I h) fun us s1 ⟨vs,H1,I1,r1,q1⟩=>hc pins s1 σ H1 vs us Q I1 r1 q1) he hpl
end
end L2
namespace HT
open PySem PyProof.Rows
def dZ:List Int->List Int->Bool
 | [],[]=>false
 | [],_ :: _=>true
 | _ :: _,[]=>false
 | x :: xs,y :: ys=>if x=y then dZ xs ys else decide (x < y)
theorem mD (x y:Int) (xs ys:List Int):dZ (x :: xs) (y :: ys)=if x=y then dZ xs ys else decide (x < y):=rfl
section
variable {prog : Program} {w : World} {A : Around} {E : Value → Shared → Prop} {s : Shared}
theorem ac4 {t b:Addr}{vs ws:List Value}{Q:Value->Shared->Prop} (ht:IsTup s.heap t vs.toArray) (hb:IsTup s.heap b ws.toArray) (hv:vs ≠ [])
  (h1:ws = []->Q (.ref t) s) (h2:ws ≠ []->Q (.ref s.heap.objs.size) { s with heap:=s.heap.push { cls:=.type "tuple",data:=.seq (vs ++ ws).toArray } })
  (hsz:vs.length+ws.length<=sizeLine):wpAny (model prog w) A (binaryOp .Add (.ref t) (.ref b)) Q E s:=by
 obtain ⟨⟨cls,dd,data,sl⟩,ho,hc,n,hd⟩:=id ht
 obtain ⟨⟨cls2,dd2,data2,sl2⟩,ho2,hc2,n2,hd2⟩:=id hb
 simp only at hc hd hc2 hd2
 subst hc hd hc2 hd2
 have e:vs.toArray ++ ws.toArray=(vs ++ ws).toArray:=by simp
 by_cases hw:ws = []
 ·exact concat_meets ⟨_,ho,rfl⟩ ⟨_,ho2,rfl⟩ noFill_tuple_add seq_tuple_add PySem.F.slot_tuple_add PySem.F.entry_tuple_add (PySem.F.args_tuple_add_2 _ _)
   (tuple_addW1 t b vs.toArray ws.toArray n n2 dd dd2 sl sl2 (by simpa using hv) (by simp [hw])) ⟨ho,ho2,h1 hw⟩
 ·refine concat_meets ⟨_,ho,rfl⟩ ⟨_,ho2,rfl⟩ noFill_tuple_add seq_tuple_add PySem.F.slot_tuple_add PySem.F.entry_tuple_add (PySem.F.args_tuple_add_2 _ _)
   (tuple_addW2 t b vs.toArray ws.toArray n n2 dd dd2 sl sl2 (by simpa using hv) (by simpa using hw) (by rw [aQ8,aQ8]; exact hsz)) ⟨ho,ho2,?_⟩
  rw [e]
  exact h2 hw
def aR (n d:Nat):Option Int->Nat
 | none=>d
 | some v=>if v < 0 then (v+(n:Int)).toNat else min v.toNat n
theorem ac5 (n d:Nat):aR n d none=d:=rfl
theorem xF (n d k:Nat):aR n d (some (k:Int))=min k n:=by
 show (if (k:Int) < 0 then ((k:Int)+(n:Int)).toNat else min (k:Int).toNat n)=min k n
 rw [if_neg (by omega),aY0]
theorem ac6 (n d:Nat) (hd:d<=n) (o:Option Int):aR n d o<=n:=by
 cases o with
 | none=>exact hd
 | some v=>
  show (if v < 0 then (v+(n:Int)).toNat else min v.toNat n)<=n
  by_cases hv:v < 0
  ·rw [if_pos hv]; omega
  ·rw [if_neg hv]; exact Nat.min_le_right _ _
theorem xG (v:Int) (n d:Nat):(if v < 0 then max (v+(n:Int)) 0 else min v (n:Int))=((aR n d (some v):Nat):Int):=by
 show (if v < 0 then max (v+(n:Int)) 0 else min v (n:Int))=(((if v < 0 then (v+(n:Int)).toNat else min v.toNat n):Nat):Int)
 by_cases hv:v < 0
 ·simp only [if_pos hv]; omega
 ·simp only [if_neg hv]; omega
theorem ac7 (lo hi:Option Int) (n:Nat):Builtin.Slice.sliceAdjust lo hi 1 (n:Int)=(((aR n 0 lo:Nat):Int),((aR n n hi:Nat):Int)):=by
 have h1 : ¬ ((1:Int) < 0):=by omega
 unfold Builtin.Slice.sliceAdjust
 simp only [h1,aX8]
 refine Prod.ext ?_ ?_
 ·cases lo with
  | none=>rfl
  | some v=>exact xG v n 0
 ·cases hi with
  | none=>rfl
  | some v=>exact xG v n n
theorem ac8 (i j:Nat):Builtin.Slice.slicePlaces (i:Int) (j:Int) 1=j - i:=by
 unfold Builtin.Slice.slicePlaces
 have h1:(1:Int) > 0:=by omega
 simp only [h1,if_true,Int.ediv_one]
 split <;> omega
theorem xH {v:Value}{o:Option Int}{Q:Option Int->Shared->Prop} (p:IsPart v o) (h:Q o s):wpAny (model prog w) A (Builtin.Slice.slicePartIndex v) Q E s:=by
 cases p with
 | none=>exact slicePart_none h
 | int i t=>exact slicePart_int h
theorem xI {sl:Addr}{vl vu:Value}{lo hi:Option Int}{n:Nat}{Q:Int × Int × Nat->Shared->Prop} (hs:s.heap.IsSliceOf sl vl vu .none) (pl:IsPart vl lo) (pu:IsPart vu hi)
  (h:Q (((aR n 0 lo:Nat):Int),1,aR n n hi - aR n 0 lo) s):wpAny (model prog w) A (Builtin.Slice.sliceApplied (.ref sl) (pure (n:Int))) Q E s:=by
 obtain ⟨os,hos,hcs,hds⟩:=id hs
 unfold Builtin.Slice.sliceApplied Builtin.Slice.sliceFields
 refine aQ5 (aQ5 (aV8 hos hds (x:=vl) rfl (aQ5 (aV8 hos hds (x:=vu) rfl (aQ5 (aV8 hos hds (x:=.none) rfl (aQ9 ?_)))))))
 refine aQ5 (slicePart_none ?_)
 show wpAny _ _ (if ((1:Int) == 0)=true then _ else _) _ _ s
 rw [if_neg (by decide)]
 refine aQ5 (xH pl (aQ5 (xH pu (aQ5 (aQ9 ?_)))))
 show wpAny _ _ (match Builtin.Slice.sliceAdjust lo hi 1 (n:Int) with | (lo,hi)=>pure (lo,(1:Int),Builtin.Slice.slicePlaces lo hi 1)) _ _ s
 rw [ac7 lo hi n]
 show wpAny _ _ (pure (((aR n 0 lo:Nat):Int),(1:Int),Builtin.Slice.slicePlaces ((aR n 0 lo:Nat):Int) ((aR n n hi:Nat):Int) 1)) _ _ s
 rw [ac8]
 exact aQ9 h
theorem ac9 (xs:Array Value) (i k:Nat):((List.range k).filterMap fun (m:Nat)=>xs[((i:Int)+(m:Int) * 1).toNat]?).toArray=((xs.toList.drop i).take k).toArray:=by
 have e:(fun (m:Nat)=>xs[((i:Int)+(m:Int) * 1).toNat]?)=fun m=>xs[i+m]?:=by
  funext m
  have:((i:Int)+(m:Int) * 1).toNat=i+m:=by omega
  rw [this]
 rw [e]
 have:=pick_run xs i k
 rw [List.filterMap_map] at this
 have e2:((fun x=>xs[x]?) ∘ fun x=>i+x)=fun m=>xs[i+m]?:=rfl
 rw [e2] at this
 rw [this]
theorem ad0 {t sl:Addr}{items:Array Value}{vl vu:Value}{lo hi:Option Int}{Q:Value->Shared->Prop} (ht:IsTup s.heap t items) (hs:s.heap.IsSliceOf sl vl vu .none) (pl:IsPart vl lo) (pu:IsPart vu hi)
  (hw : ¬ (aR items.size 0 lo=0/\aR items.size items.size hi=items.size))
  (h:Q (.ref s.heap.objs.size) { s with heap:=s.heap.push { cls:=.type "tuple",data:=.seq ((items.toList.drop (aR items.size 0 lo)).take (aR items.size items.size hi - aR items.size 0 lo)).toArray } })
  (hsz:items.size<=sizeLine):wpAny (model prog w) A (getItem (.ref t) (.ref sl)) Q E s:=by
 have htake:sizeOk (.seq ((items.toList.drop (aR items.size 0 lo)).take (aR items.size items.size hi - aR items.size 0 lo)).toArray):=by
  show ((items.toList.drop (aR items.size 0 lo)).take (aR items.size items.size hi - aR items.size 0 lo)).toArray.size<=sizeLine
  rw [aQ8,aU5,aU6,aU3]
  omega
 have hj:aR items.size items.size hi<=items.size:=ac6 _ _ (aR0 _) hi
 obtain ⟨os,hos,hcs,hds⟩:=id hs
 have hTs:s.TypeIs (.ref sl) "slice":=⟨os,hos,hcs⟩
 unfold getItem
 try with_reducible refine aY5 ?_
 first | refine aQ5 (aQ9 ?_) | skip
 refine aQ5 (wpAny_sequenceKey ht.typeIs (by decide) ?_)
 refine aQ5 (aV9 (name:=Str.ofString "__getitem__") ht.typeIs ba8
  (aW3 ba8 ht.typeIs entry_tuple_getitem ?_ (args_tuple_getitem _ _)))
 show wpAny _ _ (Builtin.Tuple.tupleItemsOf (.ref t) >>= _) _ _ s
 refine aQ5 (tupleItemsOf_ ht ?_)
 refine aQ5 (wpAny_typeOf hTs ?_)
 rw [if_pos (by decide)]
 refine aQ5 (xI hs pl pu ?_)
 have hno : ¬ ((((aR items.size 0 lo:Nat):Int) == 0 && (1:Int) == 1 && (aR items.size items.size hi - aR items.size 0 lo) == items.size)=true):=by
  intro q
  rw [aV2,aV2] at q
  have q1:((aR items.size 0 lo:Nat):Int)=0:=eq_of_beq q.1.1
  have q2:aR items.size items.size hi - aR items.size 0 lo=items.size:=eq_of_beq q.2
  exact hw ⟨by omega,by omega⟩
 show wpAny _ _ (if (((aR items.size 0 lo:Nat):Int) == 0 && (1:Int) == 1 && (aR items.size items.size hi - aR items.size 0 lo) == items.size)=true then _ else _) _ _ s
 rw [if_neg hno,ac9]
 first
  | exact aQ5 (m:=Builtin.Tuple.tupleExact _) (aX6 (aQ9 ⟨_,rfl,aQ9 h⟩) htake)
  | exact aQ5 (m:=Builtin.Tuple.tupleExact _) (aX6 (aQ5 (aQ9 (aQ9 ⟨_,rfl,aQ9 h⟩))) htake)
  | exact aQ5 (aQ5 (m:=Builtin.Tuple.tupleExact _) (aX6 (aQ9 (aQ9 ⟨_,rfl,aQ9 h⟩)) htake))
  | exact aQ5 (aQ5 (m:=Builtin.Tuple.tupleExact _) (aX6 (aQ9 ⟨_,rfl,aQ9 h⟩) htake))
end
end HT
namespace L2
open PySem PySem.Spec PyProof.Rows
abbrev TO:=St->Hp->(Option Int->Hp->Prop)->Prop
def PO (X:Cx) (e:Option Expr) (t:TO):Prop:=
 ∀ (pins:List (Addr × Obj)) (s:Shared) (σ:St) (H:Hp) (Q:Option Int->Hp->Prop),a8 X pins σ H s->t σ H Q->
  wpAny (model X.prog X.w) X.A (evalPart e X.env) (fun u s'=>∃ o H',a8 X pins σ H' s'/\IsPart u o/\Q o H') X.xe s
def ad1:TO:=fun _ H Q=>Q none H
def ad2 (t:TE):TO:=fun σ H Q=>t σ H fun x H1=>∃ i,x = .int i/\Q (some i) H1
theorem mE {ns:List Int}:∀ {us:List Value},aK (ns.map V.int) us->IntsAre us ns:=by
 induction ns with
 | nil=>intro us r; rw [List.map_nil] at r; cases r; exact .nil
 | cons n ns ih=>
  intro us r
  rw [aU8] at r
  cases r with
  | cons r1 r2=>
   obtain ⟨t,e⟩:=r1
   subst e
   exact .cons n t (ih r2)
section
variable {X : Cx} {e : Expr} {te : TE} {lo hi : Option Expr} {tl th : TO} {pos p2 : Pos}
theorem sD:PO X none ad1:=by
 intro pins s σ H Q I h
 rw [evalPart_none]
 exact aQ9 ⟨none,H,I,.none,h⟩
theorem sE (h:PE X e te):PO X (some e) (ad2 te):=by
 intro pins s σ H Q I hw
 rw [evalPart_some]
 refine aL (h pins s σ H _ I hw) fun u s1 ⟨x,H1,I1,r1,q1⟩=>?_
 obtain ⟨i,rfl,q⟩:=q1
 obtain ⟨t,rfl⟩:=r1
 exact⟨some i,H1,I1,.int i t,q⟩
def iR (X:Cx) (r:V->Option Int->Option Int->Hp->VK->Prop):Prop:=
 ∀ (pins:List (Addr × Obj)) (s:Shared) (σ:St) (H:Hp) (x:V) (v vl vu:Value) (lo hi:Option Int) (sl:Addr) (Q:VK),a8 X pins σ H s->aQ x v->s.heap.IsSliceOf sl vl vu .none->IsPart vl lo->IsPart vu hi->r x lo hi H Q->
  ∃ T id,typeLookup (.type T) "__getitem__" = pure (some (.builtin id))/\s.TypeIs v T/\wpAny (model X.prog X.w) X.A (getItem v (.ref sl)) (EP X pins σ Q) X.xe s
theorem iR.or {r r':V->Option Int->Option Int->Hp->VK->Prop} (h:iR X r) (h':iR X r'):iR X (fun x lo hi H Q=>r x lo hi H Q ∨ r' x lo hi H Q):=by
 intro pins s σ H x v vl vu lo hi sl Q I rx hs pl pu q
 rcases q with q | q
 ·exact h pins s σ H x v vl vu lo hi sl Q I rx hs pl pu q
 ·exact h' pins s σ H x v vl vu lo hi sl Q I rx hs pl pu q
def tSl (r:V->Option Int->Option Int->Hp->VK->Prop) (te:TE) (tl th:TO):TE:=fun σ H Q=>te σ H fun x H1=>tl σ H1 fun l H2=>th σ H2 fun u H3=>r x l u H3 Q
theorem sF {r:V->Option Int->Option Int->Hp->VK->Prop} (hr:iR X r) (he:PE X e te) (hl:PO X lo tl) (hu:PO X hi th):PE X (.Subscript e (.Slice lo hi none p2) pos) (tSl r te tl th):=by
 intro pins s σ H Q I h
 refine Subscript_ (aL (he pins s σ H _ I h) fun v s1 ⟨x,H1,I1,r1,q1⟩=>?_)
 refine wpAny_Slice (aL (hl pins s1 σ H1 _ I1 q1) fun vl s2 ⟨l,H2,I2,pl,q2⟩=>aL (hu pins s2 σ H2 _ I2 q2) fun vu s3 ⟨u,H3,I3,pu,q3⟩=>?_)
 rw [evalPart_none]
 refine aQ9 ?_
 have I4:a8 X pins σ H3 { s3 with heap:=s3.heap.push { cls:=.type "slice",data:=.fields #[vl,vu,.none] } }:=I3.kept (t':=s3.toks) fun b ob q=>aQ6 _ q
 obtain ⟨T,id,hT,ht,hg⟩:=hr pins { s3 with heap:=s3.heap.push { cls:=.type "slice",data:=.fields #[vl,vu,.none] } } σ H3 x v vl vu l u s3.heap.objs.size Q I4 r1 (Heap.IsSliceOf.new ..) pl pu q3
 show wpAny (model X.prog X.w) X.A (subscriptTail e (.Slice lo hi none p2) v (.ref s3.heap.objs.size)) (EP X pins σ Q) X.xe { s3 with heap:=s3.heap.push { cls:=.type "slice",data:=.fields #[vl,vu,.none] } }
 exact tail_any (ops:=[.ref s3.heap.objs.size,v]) ht hT hg (by with_unfolding_all rfl)
def dG (xs:List V) (lo hi:Option Int):List V:=(xs.drop (HT.aR xs.length 0 lo)).take (HT.aR xs.length xs.length hi - HT.aR xs.length 0 lo)
theorem xJ (xs:List V) (lo hi:Option Int):(dG xs lo hi).length<=xs.length:=by
 unfold dG
 rw [aU5,aU6]
 omega
def ad3 (K:PySem.W.Frag):V->Option Int->Option Int->Hp->VK->Prop:=fun x lo hi H Q=>∃ a xs,x = .ref a/\aJ K H a xs/\
 ¬ (HT.aR xs.length 0 lo=0/\HT.aR xs.length xs.length hi=xs.length)/\∀ p,H p=none->Q (.ref p) (upd H p (.tup (dG xs lo hi)))
theorem ad4:iR X (ad3 X.K):=by
 intro pins s σ H x v vl vu lo hi sl Q I rx hs pl pu h
 obtain ⟨a,xs,rfl,hx,hw,q⟩:=h
 cases rx
 obtain ⟨its,r,ht,hz⟩:=I.tuple hx
 have hlen:its.toArray.size=xs.length:=by rw [aQ8]; exact r.length.symm
 refine⟨"tuple",_,PyProof.Rows.slot_tuple_getitem.lookup,ht.typeIs,?_⟩
 refine HT.ad0 ht hs pl pu (by rw [hlen]; exact hw) ?_ (by rw [hlen]; exact hz)
 rw [hlen]
 refine⟨.ref s.heap.objs.size,_,I.laid (t':=s.toks) (o:=.tup (dG xs lo hi)) (fun b ob q=>aQ6 _ q) (aR0 _) ?_,rfl,q _ (I.hok.fresh (aR0 _))⟩
 exact⟨aT4 (xJ xs lo hi) hz,_,(r.drop (HT.aR xs.length 0 lo)).take (HT.aR xs.length xs.length hi - HT.aR xs.length 0 lo),IsTup.new _ _⟩
def ad5 (K:PySem.W.Frag):R2:=fun x y H Q=>∃ a b xs ys,x = .ref a/\y = .ref b/\aJ K H a xs/\aJ K H b ys/\xs ≠ []/\xs.length+ys.length<=sizeLine/\
 (ys = []->Q (.ref a) H)/\(ys ≠ []->∀ p,H p=none->Q (.ref p) (upd H p (.tup (xs ++ ys))))
theorem aK.nil_iff {xs:List V}{us:List Value} (r:aK xs us):us = [] ↔ xs = []:=by
 cases r with
 | nil=>simp
 | cons _ _=>simp
theorem ad6:bR X (binaryOp .Add) (ad5 X.K):=by
 intro pins s σ H x y v u Q I rx ry h
 obtain ⟨a,b,xs,ys,rfl,rfl,ha,hb,hx,hz,q1,q2⟩:=h
 cases rx
 cases ry
 obtain ⟨its,r1,p1,_⟩:=I.tuple ha
 obtain ⟨its2,r2,p2,_⟩:=I.tuple hb
 refine HT.ac4 p1 p2 (fun z=>hx (r1.nil_iff.mp z)) (fun z=>⟨.ref a,H,I,rfl,q1 (r2.nil_iff.mp z)⟩) (fun z=>?_) (by rw [<- r1.length,<- r2.length]; exact hz)
 refine⟨.ref s.heap.objs.size,_,I.laid (t':=s.toks) (o:=.tup (xs ++ ys)) (fun b ob q=>aQ6 _ q) (aR0 _) ?_,rfl,q2 (fun w=>z (r2.nil_iff.mpr w)) _ (I.hok.fresh (aR0 _))⟩
 exact⟨by rw [aR3]; exact hz,_,r1.append r2,IsTup.new _ _⟩
end
def gA (n:Nat) (i:Int):Option Nat:=if 0<=i then (if i < n then some i.toNat else none) else if -(n:Int)<=i then some (i+n).toNat else none
def atI {α:Type} (xs:List α) (i:Int):Option α:=(gA xs.length i).bind fun j=>xs[j]?
theorem xK {n:Nat}{i:Int}{j:Nat} (h:gA n i=some j):seqIndex? i n=some j/\j < n/\-(n:Int)<=i/\i < n:=by
 unfold gA at h
 by_cases h0:0<=i
 ·rw [if_pos h0] at h
  by_cases h1:i < n
  ·rw [if_pos h1] at h
   have e:i.toNat=j:=aT2 h
   exact⟨by rw [seqIndex_of h0 h1,e],by omega,by omega,h1⟩
  ·rw [if_neg h1] at h; cases h
 ·rw [if_neg h0] at h
  by_cases h1 : -(n:Int)<=i
  ·rw [if_pos h1] at h
   have e:(i+n).toNat=j:=aT2 h
   exact⟨by rw [seqIndex_neg (by omega) h1,e],by omega,h1,by omega⟩
  ·rw [if_neg h1] at h; cases h
theorem sG {α:Type}{xs:List α}{i:Int}{v:α} (h:atI xs i=some v):∃ j,seqIndex? i xs.length=some j/\xs[j]? = some v/\j < xs.length/\-(xs.length:Int)<=i/\i < xs.length:=by
 unfold atI at h
 cases e:gA xs.length i with
 | none=>rw [e] at h; cases h
 | some j=>
  rw [e] at h
  obtain ⟨h1,h2,h3,h4⟩:=xK e
  exact⟨j,h1,h,h2,h3,h4⟩
theorem sH {α:Type}{xs:List α}{j:Nat}{v:α} (h:xs[j]? = some v):atI xs (j:Int)=some v:=by
 have hj:j < xs.length:=(aR4.mp h).1
 have e:gA xs.length (j:Int)=some j:=by
  unfold gA
  rw [if_pos (by omega),if_pos (by omega)]; simp
 unfold atI; rw [e]; exact h
def xL (b:Expr):Prop:=∀ o i,subscripted b false o i=operate [o,i] (getItem o i)
def i7 (X:Cx) (r:R2):Prop:=
 ∀ (value slice:Expr) (pins:List (Addr × Obj)) (s:Shared) (σ:St) (H:Hp) (x y:V) (v u:Value) (Q:VK),a8 X pins σ H s->aQ x v->aQ y u->r x y H Q->
  subscripted slice false v u=operate [v,u] (getItem v u)->wpAny (model X.prog X.w) X.A (subscriptTail value slice v u) (EP X pins σ Q) X.xe s
def MtR (X:Cx) (id:String) (r:V->List V->Hp->VK->Prop):Prop:=
 ∀ (pins:List (Addr × Obj)) (s:Shared) (σ:St) (H:Hp) (x:V) (xs:List V) (v:Value) (us:List Value) (Q:VK),a8 X pins σ H s->aQ x v->aK xs us->r x xs H Q->
  wpAny (model X.prog X.w) X.A (call (.builtin id) (v :: us)) (EP X pins σ Q) X.xe s
section
variable {X : Cx} {a b : Expr} {ta tb : TE} {pos : Pos}
theorem i7.or {r r':R2} (h:i7 X r) (h':i7 X r'):i7 X (fun x y H Q=>r x y H Q ∨ r' x y H Q):=by
 intro value slice pins s σ H x y v u Q I rx ry q hs
 rcases q with q | q
 ·exact h value slice pins s σ H x y v u Q I rx ry q hs
 ·exact h' value slice pins s σ H x y v u Q I rx ry q hs
theorem mF {r:R2} (hr:i7 X r) (ha:PE X a ta) (hb:PE X b tb) (hs:xL b):PE X (.Subscript a b pos) (m9 r ta tb):=by
 intro pins s σ H Q I h
 exact Subscript_ (rQ ha hb I h fun v u s2 x y H2 I2 rx ry q=>hr a b pins s2 σ H2 x y v u Q I2 rx ry q (hs _ _))
def xM (K:PySem.W.Frag):R2:=fun x y H Q=>∃ p xs i v,x = .ref p/\y = .int i/\aM K H p xs/\atI xs i=some v/\Q v H
def xN (K:PySem.W.Frag):R2:=fun x y H Q=>∃ p xs i v,x = .ref p/\y = .int i/\aJ K H p xs/\atI xs i=some v/\Q v H
def xO:R2:=fun x y H Q=>∃ z i c,x = .str z/\y = .int i/\z.length<=sizeLine/\atI z.cps.toList i=some c/\Q (.str ⟨#[c]⟩) H
theorem sI:i7 X (xM X.K):=by
 intro value slice pins s σ H x y v u Q I rx ry h hs
 obtain ⟨p,xs,i,z,rfl,rfl,hq,he,q⟩:=h
 cases rx
 obtain ⟨t,rfl⟩:=ry
 obtain ⟨its,r,pl,hz⟩:=I.list hq
 obtain ⟨j,h1,h2,h3,h4,h5⟩:=sG he
 obtain ⟨w,ew,rw'⟩:=r.get h2
 have hl:=r.length
 have hn:=kR
 have fin:EP X pins σ Q w s:=⟨z,H,I,rw',q⟩
 by_cases h0:0<=i
 ·have hj:i.toNat=j:=by
   rw [seqIndex_of h0 h5] at h1
   exact aT2 h1
  exact item_listR pl.isList h0 (by omega) (by rw [hj]; simpa using ew) fin hs
 ·have hj:(i+(its.toArray.size:Int)).toNat=j:=by
   rw [seqIndex_neg (by omega) h4] at h1
   rw [aQ8,<- hl]
   exact aT2 h1
  exact subscriptTail_builtinR (x:=w) pl.isList.typeIs slot_list_getitem.lookup
   (wpAny_getItem_list_neg (Q:=fun r s'=>r=w/\EP X pins σ Q r s') pl.isList (by omega) (by rw [aQ8] <;> omega) (by omega) (by rw [hj]; simpa using ew) ⟨rfl,fin⟩) hs
theorem sJ:i7 X (xN X.K):=by
 intro value slice pins s σ H x y v u Q I rx ry h hs
 obtain ⟨p,xs,i,z,rfl,rfl,hq,he,q⟩:=h
 cases rx
 obtain ⟨t,rfl⟩:=ry
 obtain ⟨its,r,pl,hz⟩:=I.tuple hq
 obtain ⟨j,h1,h2,h3,h4,h5⟩:=sG he
 obtain ⟨w,ew,rw'⟩:=r.get h2
 have hl:=r.length
 have hn:=kR
 have fin:EP X pins σ Q w s:=⟨z,H,I,rw',q⟩
 exact subscriptTail_builtinR (x:=w) pl.typeIs slot_tuple_getitem.lookup
  (getItem_tuple (j:=j) (Q:=fun r s'=>r=w/\EP X pins σ Q r s') pl (by omega) (by omega) (by rw [aQ8,<- hl]; exact h1) (by simpa using ew) ⟨rfl,fin⟩) hs
theorem ad7:i7 X xO:=by
 intro value slice pins s σ H x y v u Q I rx ry h hs
 obtain ⟨z,i,c,rfl,rfl,hz,he,q⟩:=h
 obtain ⟨t,rfl⟩:=rx
 obtain ⟨t',rfl⟩:=ry
 obtain ⟨j,h1,h2,h3,h4,h5⟩:=sG he
 have hl:z.cps.toList.length=z.length:=by simp [Str.length]
 rw [hl] at h1 h4 h5
 have hn:=kR
 exact tail_any (typeIs_str s z t) slot_str_getitem.lookup (getItem_str (c:=c) (by
  have e1:decide (i < -(2 ^ 63:Int))=false:=aR5 (by omega)
  have e2:decide (i >= 2 ^ 63)=false:=aR5 (by omega)
  rw [e1,e2,Bool.or_false]) (by rw [h1]; simpa using h2) ⟨.str ⟨#[c]⟩,H,I.tok _,⟨_,rfl⟩,q⟩) hs
def xP (K:PySem.W.Frag):R2:=fun x y H Q=>xM K x y H Q ∨ xN K x y H Q ∨ xO x y H Q
theorem ad8:i7 X (xP X.K):=sI.or (sJ.or ad7)
theorem ad9 (its:List Value) (n j:Nat) (u:Value):Obj.mapSeq (·.setIfInBounds j u) { cls:=.type "list",data:=.seq its.toArray n }={ cls:=.type "list",data:=.seq (its.set j u).toArray n }:=by
 simp [Obj.mapSeq]
theorem a8.lst {pins:List (Addr × Obj)}{σ:St}{H:Hp}{s:Shared}{p:Addr}{xs:List V} (I:a8 X pins σ H s) (h:H p=some (.lst xs)) :
  ∃ (its:List Value) (n:Nat),aK xs its/\s.heap.get? p=some { cls:=.type "list",data:=.seq its.toArray n }/\xs.length<=sizeLine:=by
 obtain ⟨z,its,n,r,e⟩:=I.hok p _ h
 exact⟨its,n,r,e,z⟩
theorem a8.lstUpd {pins:List (Addr × Obj)}{σ:St}{H:Hp}{s:Shared}{p:Addr}{xs ys:List V}{its its':List Value}{n n':Nat}{f:Obj->Obj} (I:a8 X pins σ H s) (h:H p=some (.lst xs))
  (ho:s.heap.get? p=some { cls:=.type "list",data:=.seq its.toArray n }) (hf:f { cls:=.type "list",data:=.seq its.toArray n }={ cls:=.type "list",data:=.seq its'.toArray n' }) (r:aK ys its') (hz:ys.length<=sizeLine) (t:Nat) :
  a8 X pins σ (upd H p (.lst ys)) { s with heap:=s.heap.update p f,toks:=t }:=by
 have e:(s.heap.update p f).get? p=some { cls:=.type "list",data:=.seq its'.toArray n' }:=by
  rw [Heap.get?_update_self f ho (by rw [hf] <;> rfl),hf]
 refine I.write (x:=p) (e:=p) (by rw [h]; trivial) (.inl rfl) (fun b u hb q=>(Heap.get?_update_other _ _ (Ne.symm hb)).trans q) ⟨_,e⟩ ?_
 exact⟨hz,its',n',r,e⟩
def sK:V->V->V->Hp->(Hp->Prop)->Prop:=fun o i v H Q=>∃ p xs k j,o = .ref p/\i = .int k/\H p=some (.lst xs)/\gA xs.length k=some j/\Q (upd H p (.lst (xs.set j v)))
theorem ae0:wH X sK:=by
 intro pins s σ H o i v ov iv u Q I ro ri rv h
 obtain ⟨p,xs,k,j,rfl,rfl,hp,hj,q⟩:=h
 cases ro
 obtain ⟨t,rfl⟩:=ri
 obtain ⟨its,n,r,ho,hz⟩:=I.lst hp
 obtain ⟨h1,h2,h3,h4⟩:=xK hj
 have hl:=r.length
 have hn:=kR
 have I':a8 X pins σ (upd H p (.lst (xs.set j v))) { s with heap:=s.heap.update p (Obj.mapSeq (·.setIfInBounds j u)) }:=
  I.lstUpd hp ho (ad9 its n j u) (r.set rv j) (by rw [aV5]; exact hz) s.toks
 by_cases h0:0<=k
 ·have hk:k.toNat=j:=by
   rw [seqIndex_of h0 h4] at h1
   exact aT2 h1
  exact PySem.W.ki_setAt ho h0 (by omega) (by rw [aQ8,<- hl]; exact h4) (by rw [hk]; exact⟨_,I',q⟩)
 ·have hk:(k+(its.toArray.size:Int)).toNat=j:=by
   rw [seqIndex_neg (by omega) h3] at h1
   rw [aQ8,<- hl]
   exact aT2 h1
  exact PySem.W.ki_setBack ho (by omega) (by rw [aQ8,<- hl]; exact h3) (by omega) (by rw [hk]; exact⟨_,I',q⟩)
theorem ae1 (lo hi:Option Int) (n:Nat):(sliceBounds lo hi none n).1=((HT.aR n 0 lo:Nat):Int)/\(sliceBounds lo hi none n).2.1=((HT.aR n n hi:Nat):Int)/\(sliceBounds lo hi none n).2.2=1:=by
 refine⟨?_,?_,rfl⟩
 ·cases lo with
  | none=>simp [sliceBounds,HT.aR]
  | some i=>
   simp only [sliceBounds,HT.aR,Option.getD_none,show (1:Int) > 0 by decide,if_true]
   by_cases h:i < 0
   ·simp only [h,if_true] <;> omega
   ·simp only [h,aX8] <;> omega
 ·cases hi with
  | none=>simp [sliceBounds,HT.aR]
  | some i=>
   simp only [sliceBounds,HT.aR,Option.getD_none,show (1:Int) > 0 by decide,if_true]
   by_cases h:i < 0
   ·simp only [h,if_true] <;> omega
   ·simp only [h,aX8] <;> omega
theorem ae2 (its:List Value) (lo hi:Option Int):slicePick its.toArray lo hi none=((its.drop (HT.aR its.length 0 lo)).take (HT.aR its.length its.length hi - HT.aR its.length 0 lo)).toArray:=by
 obtain ⟨h1,h2,h3⟩:=ae1 lo hi its.toArray.size
 unfold slicePick
 rw [h1,h2,h3]
 simp only [sliceRange_one,pick_run,aQ8] <;> rfl
def ae3 (K:PySem.W.Frag):V->Option Int->Option Int->Hp->VK->Prop:=fun x lo hi H Q=>∃ a xs,x = .ref a/\aM K H a xs/\∀ p,H p=none->Q (.ref p) (upd H p (.lst (dG xs lo hi)))
theorem xQ:iR X (ae3 X.K):=by
 intro pins s σ H x v vl vu lo hi sl Q I rx hs pl pu h
 obtain ⟨a,xs,rfl,hx,q⟩:=h
 cases rx
 obtain ⟨its,r,ht,hz⟩:=I.list hx
 have hlen:=r.length
 refine⟨"list",_,slot_list_getitem.lookup,ht.isList.typeIs,?_⟩
 refine wpAny_getItem_list_slice ht.isList hs pl pu .none (by simp) ?_ (by rw [aQ8] <;> omega)
 rw [ae2,<- hlen]
 refine⟨.ref s.heap.objs.size,_,I.laid (t':=s.toks) (o:=.lst (dG xs lo hi)) (fun b ob q=>aQ6 _ q) (aR0 _) ?_,rfl,q _ (I.hok.fresh (aR0 _))⟩
 exact⟨aT4 (xJ xs lo hi) hz,_,0,(r.drop (HT.aR xs.length 0 lo)).take (HT.aR xs.length xs.length hi - HT.aR xs.length 0 lo),aS1 _ rfl⟩
def i8:V->Bool
 | .non=>true
 | .bl _=>true
 | .int _=>true
 | .str _=>true
 | _=>false
def gB:V->V->Bool
 | .non,.non=>true
 | .bl a,.bl b=>a == b
 | .bl a,.int b=>(if a then 1 else 0) == b
 | .int a,.bl b=>a == (if b then 1 else 0)
 | .int a,.int b=>a == b
 | .str a,.str b=>a == b
 | _,_=>false
theorem ae4 {A:Around}{s:Shared}{y x:V}{u v:Value} (ry:aQ y u) (rx:aQ x v) (fy:i8 y=true) (fx:i8 x=true):SeqAt.EqAt A s u v (gB y x):=by
 cases y with
 | non=>
  cases ry
  cases x with
  | non=>cases rx; exact SeqAt.EqAt.same _
  | bl b=>cases rx; exact SeqAt.EqAt.none_bool b
  | int b=>obtain ⟨t,rfl⟩:=rx; exact SeqAt.EqAt.none_int b t
  | str b=>obtain ⟨t,rfl⟩:=rx; exact SeqAt.EqAt.none_str b t
  | _=>exact absurd (show false=true from fx) aS6
 | bl a=>
  cases ry
  cases x with
  | non=>cases rx; exact SeqAt.EqAt.bool_none a
  | bl b=>cases rx; exact SeqAt.EqAt.bool_bool a b
  | int b=>obtain ⟨t,rfl⟩:=rx; exact SeqAt.EqAt.bool_int a b t
  | str b=>obtain ⟨t,rfl⟩:=rx; exact SeqAt.EqAt.bool_str a b t
  | _=>exact absurd (show false=true from fx) aS6
 | int a=>
  obtain ⟨t',rfl⟩:=ry
  cases x with
  | non=>cases rx; exact SeqAt.EqAt.int_none a t'
  | bl b=>cases rx; exact SeqAt.EqAt.int_bool a t' b
  | int b=>obtain ⟨t,rfl⟩:=rx; exact SeqAt.EqAt.int_int a t' b t
  | str b=>obtain ⟨t,rfl⟩:=rx; exact SeqAt.EqAt.int_str a t' b t
  | _=>exact absurd (show false=true from fx) aS6
 | str a=>
  obtain ⟨t',rfl⟩:=ry
  cases x with
  | non=>cases rx; exact SeqAt.EqAt.str_none a t'
  | bl b=>cases rx; exact SeqAt.EqAt.str_bool a t' b
  | int b=>obtain ⟨t,rfl⟩:=rx; exact SeqAt.EqAt.str_int a t' b t
  | str b=>obtain ⟨t,rfl⟩:=rx; exact SeqAt.EqAt.str_str a t' b t
  | _=>exact absurd (show false=true from fx) aS6
 | _=>exact absurd (show false=true from fy) aS6
def i9 (x:V) (u:Value):Bool:=match u with
 | .none=>gB .non x
 | .bool b=>gB (.bl b) x
 | .int i _=>gB (.int i) x
 | .str z _=>gB (.str z) x
 | _=>false
theorem xR {x y:V}{u:Value} (r:aQ y u) (f:i8 y=true):i9 x u=gB y x:=by
 cases y with
 | non=>cases r; rfl
 | bl b=>cases r; rfl
 | int i=>obtain ⟨t,rfl⟩:=r; rfl
 | str z=>obtain ⟨t,rfl⟩:=r; rfl
 | _=>exact absurd (show false=true from f) aS6
theorem sL {x:V}:∀ {xs:List V}{us:List Value},aK xs us->xs.all i8=true->us.any (i9 x)=xs.any fun y=>gB y x
 | _,_,.nil,_=>rfl
 | y :: xs,u :: us,.cons r t,f=>by
  rw [bb9,aV2] at f
  rw [List.any_cons,List.any_cons,xR r f.1,sL t f.2]
theorem sM {A:Around}{s:Shared}{x:V}{v:Value} (rx:aQ x v) (fx:i8 x=true):∀ {xs:List V}{us:List Value},aK xs us->xs.all i8=true->∀ u ∈ us,SeqAt.EqAt A s u v (i9 x u)
 | _,_,.nil,_=>fun u hu=>by cases hu
 | y :: xs,u :: us,.cons r t,f=>fun u' hu=>by
  rw [bb9,aV2] at f
  rcases aR2.mp hu with rfl | hu
  ·rw [xR r f.1]; exact ae4 r rx f.1 fx
  ·exact sM rx fx t f.2 u' hu
def mG (x:V) (xs:List V):Bool:=xs.any fun y=>gB y x
def xS (K:PySem.W.Frag) (neg:Bool):R2:=fun x y H Q=>∃ p xs,y = .ref p/\(aM K H p xs ∨ aJ K H p xs)/\i8 x=true/\xs.all i8=true/\Q (.bl (if neg then !mG x xs else mG x xs)) H
theorem ae5:bR X (compareOp .In) (xS X.K false):=by
 intro pins s σ H x y v u Q I rx ry h
 obtain ⟨p,xs,rfl,hq,fx,fs,q⟩:=h
 cases ry
 rcases hq with hq | hq
 ·obtain ⟨its,r,pl,hz⟩:=I.list hq
  refine SeqAt.in_listAt (i9 x) pl.isList (fun w hw=>sM rx fx r fs w (by simpa using hw)) ⟨.bl _,H,I,rfl,?_⟩
  rw [show its.toArray.any (i9 x)=its.any (i9 x) by simp,sL r fs]
  exact q
 ·obtain ⟨its,r,pl,hz⟩:=I.tuple hq
  refine SeqAt.in_tupleAt (i9 x) pl (fun w hw=>sM rx fx r fs w (by simpa using hw)) ⟨.bl _,H,I,rfl,?_⟩
  rw [show its.toArray.any (i9 x)=its.any (i9 x) by simp,sL r fs]
  exact q
theorem ae6:cJ X (.builtin "len") (fun xs H Q=>∃ p ys,xs = [.ref p]/\(aM X.K H p ys ∨ aJ X.K H p ys)/\Q (.int ys.length) H):=by
 intro pins s σ H xs us Q I r h
 obtain ⟨p,ys,rfl,hq,q⟩:=h
 obtain ⟨u,rfl,rx⟩:=fC r
 cases rx
 have hn:=kR
 rcases hq with hq | hq
 ·obtain ⟨its,r',pl,hz⟩:=I.list hq
  have hlen:=r'.length
  exact Calls.call_len_list pl.isList (by simp only [aQ8] <;> omega) ⟨.int ys.length,H,I.tok _,⟨s.toks+1,by rw [aQ8,hlen]⟩,q⟩
 ·obtain ⟨its,r',pl,hz⟩:=I.tuple hq
  have hlen:=r'.length
  exact len_tuple pl (by simp only [aQ8] <;> omega) ⟨.int ys.length,H,I.tok _,⟨s.toks+1,by rw [aQ8,hlen]⟩,q⟩
theorem cJ.or {f:Value}{r r':List V->Hp->VK->Prop} (h:cJ X f r) (h':cJ X f r'):cJ X f (fun xs H Q=>r xs H Q ∨ r' xs H Q):=by
 intro pins s σ H xs us Q I rs q
 rcases q with q | q
 ·exact h pins s σ H xs us Q I rs q
 ·exact h' pins s σ H xs us Q I rs q
theorem ae7:cJ X (.type "list") (fun xs H Q=>∃ p ys,xs = [.ref p]/\(aM X.K H p ys ∨ aJ X.K H p ys)/\∀ l,H l=none->Q (.ref l) (upd H l (.lst ys))):=by
 intro pins s σ H xs us Q I r h
 obtain ⟨p,ys,rfl,hq,q⟩:=h
 obtain ⟨u,rfl,rx⟩:=fC r
 cases rx
 have fin:∀ (its:List Value),aK ys its->ys.length<=sizeLine->∀ (h':Heap) (c':Nat),(∀ b o',s.heap.get? b=some o'->h'.get? b=some o')->
   h'.get? s.heap.objs.size=some { cls:=.type "list",dict:=none,data:=.seq its.toArray c',slots:=#[] }->EP X pins σ Q (.ref s.heap.objs.size) { s with heap:=h' }:=fun its r' hz h' c' kp e=>
  ⟨.ref s.heap.objs.size,_,I.laid (t':=s.toks) kp (aR0 _) (show bP X.prog X.w _ h' _ (.lst ys) from ⟨hz,its,c',r',e⟩),rfl,q _ (I.hok.fresh (aR0 _))⟩
 rcases hq with hq | hq
 ·obtain ⟨its,r',pl,hz⟩:=I.list hq
  have hlen:=r'.length
  obtain ⟨o,ho,hc,n,hd⟩:=pl.isList
  exact call_list_seq p (.inl rfl) ho hc hd (fun h' c' kp e=>fin its r' hz h' c' kp e) (by simp only [aQ8] <;> omega)
 ·obtain ⟨its,r',pl,hz⟩:=I.tuple hq
  have hlen:=r'.length
  obtain ⟨o,ho,hc,n,hd⟩:=pl
  exact call_list_seq p (.inr rfl) ho hc hd (fun h' c' kp e=>fin its r' hz h' c' kp e) (by simp only [aQ8] <;> omega)
theorem ae8:cJ X (.type "tuple") (fun xs H Q=>∃ p ys,xs = [.ref p]/\((aM X.K H p ys/\∀ l,H l=none->Q (.ref l) (upd H l (.tup ys))) ∨ (aJ X.K H p ys/\Q (.ref p) H))):=by
 intro pins s σ H xs us Q I r h
 obtain ⟨p,ys,rfl,h⟩:=h
 obtain ⟨u,rfl,rx⟩:=fC r
 cases rx
 rcases h with ⟨hq,q⟩ | ⟨hq,q⟩
 ·obtain ⟨its,r',pl,hz⟩:=I.list hq
  have hlen:=r'.length
  refine call_tuple_list pl.isList (fun h' kp=>?_) (by simp only [aQ8] <;> omega)
  have I1:a8 X pins σ H { s with heap:=h' }:=I.kept (t':=s.toks) kp
  have I2:a8 X pins σ (upd H h'.objs.size (.tup ys)) { s with heap:=h'.push { cls:=.type "tuple",data:=.seq its.toArray } }:=
   I1.laid (t':=s.toks) (fun b o e=>aQ6 _ e) (aR0 _) (show bP X.prog X.w _ _ _ (.tup ys) from ⟨hz,its,r',IsTup.new _ _⟩)
  exact⟨.ref h'.objs.size,_,I2,rfl,q _ (I1.hok.fresh (aR0 _))⟩
 ·obtain ⟨its,r',pl,hz⟩:=I.tuple hq
  exact call_tuple_same pl ⟨.ref p,H,I,rfl,q⟩
def gC (K:PySem.W.Frag) (T:String) (x:V) (H:Hp):Prop:=match x with
 | .str _=>T="str"
 | .int _=>T="int"
 | .ref p=>(T="list"/\∃ xs,aM K H p xs) ∨ (T="tuple"/\∃ o,K.lookup p=some o/\o.cls = .type "tuple"/\o.dict=none) ∨
   (T="dict"/\((∃ kvs,H p=some (.dK kvs)) ∨ ∃ kvs,H p=some (.dT kvs))) ∨ (T="set"/\∃ S n,H p=some (.set S n))
 | _=>False
theorem ae9 {pins:List (Addr × Obj)}{σ:St}{H:Hp}{s:Shared}{T:String}{x:V}{v:Value} (I:a8 X pins σ H s) (r:aQ x v) (ty:gC X.K T x H) :
  s.TypeIs v T/\∀ a,v = .ref a->∃ ob,s.heap.get? a=some ob/\ob.dict=none:=by
 cases x with
 | str z=>
  obtain ⟨t,rfl⟩:=r
  cases (show T="str" from ty)
  exact⟨typeIs_str s z t,fun _ e=>nomatch e⟩
 | int i=>
  obtain ⟨t,rfl⟩:=r
  cases (show T="int" from ty)
  exact⟨typeIs_int s i t,fun _ e=>nomatch e⟩
 | ref p=>
  cases r
  rcases ty with ⟨rfl,xs,hq⟩ | ⟨rfl,o,hk,hc,hd⟩ | ⟨rfl,hk⟩ | ⟨rfl,S,n,hk⟩
  ·obtain ⟨its,_,pl,_⟩:=I.list hq
   refine⟨pl.isList.typeIs,fun a e=>?_⟩
   cases e
   obtain ⟨o,n,e,c,hd,_⟩:=pl
   exact⟨o,e,hd⟩
  ·refine⟨⟨o,I.kIn p o hk,hc⟩,fun a e=>?_⟩
   cases e
   exact⟨o,I.kIn _ o hk,hd⟩
  ·have z:∃ o,s.heap.get? p=some o/\o.ExactDict:=by
    rcases hk with ⟨kvs,hk⟩ | ⟨kvs,hk⟩
    ·obtain ⟨_,_,_,_,o,_,_,e,ex,_⟩:=I.hok p _ hk
     exact⟨o,e,ex⟩
    ·obtain ⟨_,_,_,_,o,_,_,e,ex,_⟩:=I.hok p _ hk
     exact⟨o,e,ex⟩
   obtain ⟨o,e,ex⟩:=z
   refine⟨⟨o,e,ex.1⟩,fun a e2=>?_⟩
   cases e2
   exact⟨o,e,ex.2.1⟩
  ·obtain ⟨o,_,_,_,e,ex,_⟩:=I.hok p _ hk
   refine⟨⟨o,e,ex.1⟩,fun a e2=>?_⟩
   cases e2
   exact⟨o,e,ex.2.1⟩
 | _=>exact False.elim ty
def kS (K:PySem.W.Frag) (T:String) (r:V->List V->Hp->VK->Prop) (to:TE) (t:TA):TE:=fun σ H Q=>to σ H fun x H1=>gC K T x H1/\t σ H1 fun xs H2=>r x xs H2 Q
variable {o e : Expr} {es : List Expr} {to : TE} {t : TA} {name : Str} {apos cpos : Pos} {T id : String} {r : V → List V → Hp → VK → Prop}
theorem jK (pa:PlainAttrs T) (slot:Slot T name id) (hty:typeOf (.builtin id)=pure (.type "method_descriptor")) (hm:MtR X id r) (ho:PE X o to) (ha:PA X (e :: es) t)
  (hbase:attributeBase o name X.env (eval o X.env)=eval o X.env:=by rfl)
  (hfew:((backTo cpos (starEach (e :: es) X.env)).all (fun x=>!x.1) && (backToKw cpos (keywordEach [] X.env)).all (fun x=>x.1.isSome)
   && decide ((e :: es).length+([]:List Keyword).length+(if ([]:List Keyword).isEmpty then 0 else 1) < 30))=true:=by rfl)
  (hline:(apos.endLine == cpos.line)=true:=by rfl) (hs:starEach (e :: es) X.env=(false,eval e X.env) :: starEach es X.env:=by rfl) (hplain:(backTo cpos (starEach es X.env)).any (·.1)=false:=by rfl) :
  PE X (.Call (.Attribute o name apos) (e :: es) [] cpos) (kS X.K T r to t):=by
 intro pins s σ H Q I h
 refine wpAny_Call_method_late hbase hfew hline rfl (aL (ho pins s σ H _ I h) fun v s1 ⟨x,H1,I1,r1,ty,q1⟩=>?_)
 obtain ⟨h1,h2⟩:=ae9 I1 r1 ty
 refine⟨T,id,pa,slot,hty,h1,h2,?_⟩
 have hA:=ha cpos pins s1 σ H1 _ I1 q1
 rw [hs] at hA ⊢
 refine Calls.callWith_builtin (by show (false || (backTo cpos (starEach es X.env)).any (·.1))=false; rw [hplain] <;> rfl) (Calls.evalArgs_plain ?_)
 exact aL hA fun us s2 ⟨vs,H2,I2,r2,q2⟩=>hm pins s2 σ H2 x vs v us Q I2 r1 r2 q2
end
def oE (X:Cx) (id:String) (r:V->List V->Hp->VK->Prop):Prop:=
 ∀ (pins:List (Addr × Obj)) (s:Shared) (σ:St) (H:Hp) (x:V) (xs:List V) (v:Value) (us:List Value) (Q:VK),a8 X pins σ H s->aQ x v->aK xs us->r x xs H Q->
  wpAny (model X.prog X.w) X.A (call (.builtin id) (v :: us)) (EP X pins σ Q) X.xe s
theorem aK.one {x:V}{us:List Value} (h:aK [x] us):∃ u,us = [u]/\aQ x u:=by
 cases h with
 | cons r t=>
  cases t
  exact⟨_,rfl,r⟩
theorem aK.two {x y:V}{us:List Value} (h:aK [x,y] us):∃ u v,us = [u,v]/\aQ x u/\aQ y v:=by
 cases h with
 | cons r t=>
  cases t with
  | cons q t=>
   cases t
   exact⟨_,_,rfl,r,q⟩
theorem aK.eraseIdx:∀ {xs:List V}{us:List Value} (i:Nat),aK xs us->aK (xs.eraseIdx i) (us.eraseIdx i)
 | _,_,_,.nil=>.nil
 | _,_,0,.cons _ t=>t
 | _,_,i+1,.cons r t=>.cons r (aK.eraseIdx i t)
theorem aK.rep {xs:List V}{us:List Value} (h:aK xs us):∀ k:Nat,aK (List.replicate k xs).flatten (List.replicate k us).flatten
 | 0=>.nil
 | k+1=>by
  rw [aX2,aX2,aY1,aY1]
  exact aK.append h (aK.rep h k)
theorem xT {α:Type}:∀ (l:List α) (i:Nat),(l.eraseIdx i).length<=l.length
 | [],_=>aR0 _
 | _ :: _,0=>Nat.le_succ _
 | _ :: r,i+1=>Nat.succ_le_succ (xT r i)
theorem xU (its:List Value):∀ (k:Nat) (acc:List Value),
  List.foldl (fun x1 x2=>x1 ++ x2) acc.toArray (List.replicate k its.toArray)=(acc ++ (List.replicate k its).flatten).toArray
 | 0,acc=>by simp
 | k+1,acc=>by
  have e:acc.toArray ++ its.toArray=(acc ++ its).toArray:=by simp
  have e2:(acc ++ its) ++ (List.replicate k its).flatten=acc ++ (List.replicate (k+1) its).flatten:=by
   rw [aX2,aY1,bb5]
  rw [<- e2,<- xU its k (acc ++ its),<- e,aX2,List.foldl_cons]
section
variable {X : Cx} {pins : List (Addr × Obj)} {σ : St} {H : Hp} {s : Shared} {l b : Addr} {xs ys zs : List V}
theorem a8.lset {its its':List Value}{n:Nat}{f:Array Value->Array Value}{t':Nat} (I:a8 X pins σ H s) (hH:H l=some (.lst xs))
  (e:s.heap.get? l=some { cls:=.type "list",data:=.seq its.toArray n }) (hf:f its.toArray=its'.toArray) (hv:aK ys its') (hz:ys.length<=sizeLine) :
  a8 X pins σ (upd H l (.lst ys)) { s with heap:=s.heap.update l (Obj.mapSeq f),toks:=t' }:=by
 have q:=PySem.IsL.update e f
 rw [hf] at q
 refine I.write (x:=l) (e:=l) (by rw [hH]; exact trivial) (.inl rfl) (fun b' u hb hu=>(Heap.get?_update_other s.heap (Obj.mapSeq f) (Ne.symm hb)).trans hu) ⟨_,q⟩ ?_
 exact⟨hz,its',_,hv,q⟩
theorem a8.lnew {its:List Value}{t':Nat} (I:a8 X pins σ H s) (hv:aK ys its) (hz:ys.length<=sizeLine) :
  a8 X pins σ (upd H s.heap.objs.size (.lst ys)) { s with heap:=s.heap.push { cls:=.type "list",data:=.seq its.toArray },toks:=t' }:=
 I.laid (fun _ _ q=>aQ6 _ q) (aR0 _) ⟨hz,its,0,hv,aS1 _ rfl⟩
theorem a8.fresh (I:a8 X pins σ H s):H s.heap.objs.size=none:=I.hok.fresh (aR0 _)
theorem a8.lstM (I:a8 X pins σ H s) (hH:H l=some (.lst xs)):xs.length<=sizeLine/\∃ (its:List Value) (n:Nat),aK xs its/\xs.length=its.length/\s.heap.get? l=some { cls:=.type "list",data:=.seq its.toArray n }:=by
 obtain ⟨z,its,n,r,e⟩:=I.hok l _ hH
 exact⟨z,its,n,r,r.length,e⟩
theorem af0 {n:Nat} (h:n<=sizeLine):Builtin.List.listTooLong n=false:=by
 unfold Builtin.List.listTooLong
 exact aR5 (by omega)
end
section
variable {X : Cx}
def sN:V->List V->Hp->VK->Prop:=fun x vs H Q=>∃ l xs y,x = .ref l/\vs = [y]/\H l=some (.lst xs)/\xs.length < sizeLine/\Q .non (upd H l (.lst (xs ++ [y])))
theorem mH:oE X "list.append" sN:=by
 intro pins s σ H x vs v us Q I rx rv h
 obtain ⟨l,xs,y,rfl,rfl,hH,hz,q⟩:=h
 cases rx
 obtain ⟨u,rfl,ru⟩:=rv.one
 obtain ⟨z,its,n,r,hl,e⟩:=I.lstM hH
 refine call_meets F.slot_list_append ⟨_,e,rfl⟩ F.entry_list_append (F.args_list_append_2 _ _) (PySem.list_append l its.toArray n u (by rw [aQ8]; omega)) ⟨e,?_⟩
 refine⟨.non,_,I.lset (its':=its ++ [u]) hH e (by simp) (r.append (.cons ru .nil)) ?_,rfl,q⟩
 rw [aR3,aZ2]
 omega
def af1:V->List V->Hp->VK->Prop:=fun x vs H Q=>∃ l b xs zs,x = .ref l/\vs = [.ref b]/\H l=some (.lst xs)/\H b=some (.lst zs)/\xs.length+zs.length<=sizeLine/\Q .non (upd H l (.lst (xs ++ zs)))
theorem aQ2:oE X "list.extend" af1:=by
 intro pins s σ H x vs v us Q I rx rv h
 obtain ⟨l,b,xs,zs,rfl,rfl,hH,hB,hz,q⟩:=h
 cases rx
 obtain ⟨u,rfl,ru⟩:=rv.one
 cases ru
 obtain ⟨z,its,n,r,hl,e⟩:=I.lstM hH
 obtain ⟨z2,its2,n2,r2,hl2,e2⟩:=I.lstM hB
 have hsz:its.toArray.size+its2.toArray.size<=sizeLine:=by rw [aQ8,aQ8]; omega
 have hlong : ¬ (!its.toArray.isEmpty && Builtin.List.listTooLong (its.toArray.size+its2.toArray.size))=true:=by
  rw [af0 hsz,Bool.and_false]
  exact aS6
 refine call_meets F.slot_list_extend ⟨_,e,rfl⟩ F.entry_list_extend (F.args_list_extend_2 _ _)
  (AutoSeq1.list_extend_list_list_0 l its.toArray n b its2.toArray n2 hlong (by rw [aQ8]; omega) (by omega)) ⟨e,e2,?_⟩
 refine⟨.non,_,I.lset (its':=its ++ its2) hH e (by simp) (r.append r2) ?_,rfl,q⟩
 rw [aR3]
 omega
def sO:V->List V->Hp->VK->Prop:=fun x vs H Q=>∃ l xs i k y,x = .ref l/\vs = [.int i]/\H l=some (.lst xs)/\-(2 ^ 63)<=i/\i < 2 ^ 63/\seqIndex? i xs.length=some k/\xs[k]? = some y/\Q y (upd H l (.lst (xs.eraseIdx k)))
theorem xV:oE X "list.pop" sO:=by
 intro pins s σ H x vs v us Q I rx rv h
 obtain ⟨l,xs,i,k,y,rfl,rfl,hH,h1,h2,hk,hy,q⟩:=h
 cases rx
 obtain ⟨u,rfl,ru⟩:=rv.one
 obtain ⟨t,rfl⟩:=ru
 obtain ⟨z,its,n,r,hl,e⟩:=I.lstM hH
 obtain ⟨w,hw,rw'⟩:=r.get hy
 refine call_meets F.slot_list_pop ⟨_,e,rfl⟩ F.entry_list_pop (F.args_list_pop_2 _ _)
  (MeetsSeq.list_pop_at l its.toArray n i t k w (fitsIndex_both h1 h2) (by rw [aQ8,<- hl]; exact hk) (by rw [<- Array.getElem?_toList]; exact hw) (by rw [aQ8]; omega)) ⟨e,?_⟩
 refine⟨y,_,I.lset (its':=its.eraseIdx k) hH e ?_ (r.eraseIdx k) ?_,rw',q⟩
 ·show its.toArray.eraseIdxIfInBounds k=(its.eraseIdx k).toArray
  rw [List.eraseIdxIfInBounds_toArray]
 ·have:=xT xs k
  omega
def xW:R2:=fun x y H Q=>∃ l b xs zs,x = .ref l/\y = .ref b/\H l=some (.lst xs)/\H b=some (.lst zs)/\xs.length+zs.length<=sizeLine/\∀ p,H p=none->Q (.ref p) (upd H p (.lst (xs ++ zs)))
theorem af2:bR X (binaryOp .Add) xW:=by
 intro pins s σ H x y v u Q I rx ry h
 obtain ⟨l,b,xs,zs,rfl,rfl,hH,hB,hz,q⟩:=h
 cases rx
 cases ry
 obtain ⟨z,its,n,r,hl,e⟩:=I.lstM hH
 obtain ⟨z2,its2,n2,r2,hl2,e2⟩:=I.lstM hB
 refine PySem.P.add_list e e2 ?_ (by rw [aQ8,aQ8]; omega)
 have ea:its.toArray ++ its2.toArray=(its ++ its2).toArray:=by simp
 rw [ea]
 exact⟨.ref _,_,I.lnew (t':=s.toks) (r.append r2) (by rw [aR3]; omega),rfl,q _ I.fresh⟩
theorem af3 {α:Type} (xs:List α) (k:Nat):(List.replicate k xs).flatten.length=k * xs.length:=by
 induction k with
 | zero=>simp
 | succ k ih=>rw [aX2,aY1,aR3,ih,Nat.succ_mul,Nat.add_comm]
end
section
variable {κ : Type} [DecidableEq κ]
def e8 (kvs:List (κ × V)) (k:κ):Option V:=(kvs.find? fun kv=>decide (kv.1=k)).map (·.2)
def dA (kvs:List (κ × V)) (k:κ) (v:V):List (κ × V):=
 if (kvs.any fun kv=>decide (kv.1=k))=true then kvs.map (fun kv=>if kv.1=k then (kv.1,v) else kv) else kvs ++ [(k,v)]
theorem sP {p:κ × V}{r:List (κ × V)}{k:κ} (e:p.1=k):e8 (p :: r) k=some p.2:=by simp [e8,aZ5,e]
theorem sQ {p:κ × V}{r:List (κ × V)}{k:κ} (e : ¬ p.1=k):e8 (p :: r) k=e8 r k:=by simp [e8,aZ5,e]
theorem xX (k:κ):∀ kvs:List (κ × V),(kvs.any fun kv=>decide (kv.1=k))=(e8 kvs k).isSome
 | []=>rfl
 | p :: r=>by
  rw [List.any_cons]
  by_cases e:p.1=k
  ·simp only [sP e,aS3 e,Bool.true_or,Option.isSome_some]
  ·rw [sQ e,aR5 e,Bool.false_or]; exact xX k r
theorem sR (kvs:List (κ × V)) (k:κ) (v:V):(dA kvs k v).length<=kvs.length+1:=by
 unfold dA
 split
 ·rw [aR1]; omega
 ·rw [aR3,aT9,List.length_nil]; omega
theorem fO.isSome_eq {o:Option V}{u:Option Value} (r:fO o u):o.isSome=u.isSome:=by
 cases o with
 | none=>cases u with
  | none=>rfl
  | some _=>exact (show False from r).elim
 | some _=>cases u with
  | none=>exact (show False from r).elim
  | some _=>rfl
theorem fO.getD {o:Option V}{u:Option Value}{d:V}{d':Value} (r:fO o u) (rd:aQ d d'):aQ (o.getD d) (u.getD d'):=by
 cases o with
 | none=>cases u with
  | none=>exact rd
  | some _=>exact (show False from r).elim
 | some _=>cases u with
  | none=>exact (show False from r).elim
  | some _=>exact r
theorem KV.val {kvs:List (κ × V)}{vs:List (κ × Value)} (r:KV kvs vs) (k:κ):fO (e8 kvs k) (valueAt vs k):=by
 unfold KV at r
 induction r with
 | nil=>exact True.intro
 | @cons p q ps qs h t ih=>
  obtain ⟨h1,h2⟩:=h
  by_cases e:p.1=k
  ·have e':q.1=k:=h1.symm.trans e
   have b:valueAt (q :: qs) k=some q.2:=by simp [valueAt,aZ5,e']
   rw [sP e,b]; exact h2
  ·have e' : ¬ q.1=k:=fun z=>e (h1.trans z)
   have b:valueAt (q :: qs) k=valueAt qs k:=by simp [valueAt,aZ5,e']
   rw [sQ e,b]; exact ih
theorem KV.any {kvs:List (κ × V)}{vs:List (κ × Value)} (r:KV kvs vs) (k:κ):(kvs.any fun kv=>decide (kv.1=k))=vs.any fun kv=>decide (kv.1=k):=by
 unfold KV at r
 induction r with
 | nil=>rfl
 | cons h t ih=>rw [List.any_cons,List.any_cons,ih,h.1]
theorem KV.repl {kvs:List (κ × V)}{vs:List (κ × Value)} (r:KV kvs vs) (k:κ) {y:V}{u:Value} (ry:aQ y u) :
  KV (kvs.map fun kv=>if kv.1=k then (kv.1,y) else kv) (vs.map fun kv=>if kv.1=k then (kv.1,u) else kv):=by
 unfold KV at r ⊢
 induction r with
 | nil=>exact .nil
 | @cons p q ps qs h t ih=>
  rw [aU8,aU8]
  refine .cons ?_ ih
  obtain ⟨h1,h2⟩:=h
  by_cases e:p.1=k
  ·rw [if_pos e,if_pos (h1.symm.trans e)]; exact⟨h1,ry⟩
  ·rw [if_neg e,if_neg (fun z=>e (h1.trans z))]; exact⟨h1,h2⟩
theorem KV.put {kvs:List (κ × V)}{vs:List (κ × Value)} (r:KV kvs vs) (k:κ) {y:V}{u:Value} (ry:aQ y u):KV (dA kvs k y) (stored vs k u):=by
 unfold dA stored
 rw [r.any k]
 by_cases e:(vs.any fun kv=>decide (kv.1=k))=true
 ·rw [if_pos e,if_pos e]; exact r.repl k ry
 ·rw [if_neg e,if_neg e]; exact Paired.snoc r ⟨rfl,ry⟩
theorem KV.length {kvs:List (κ × V)}{vs:List (κ × Value)} (r:KV kvs vs):kvs.length=vs.length:=Paired.length r
end
theorem kT {P:Program}{w:World}{k:aD}{u:Value} (r:aQ (kV k) u):(dF P w).is k u=true:=by
 cases k with
 | inl i=>obtain ⟨t,e⟩:=(show ∃ t,u=Value.int i t from r); subst e; exact W0 P w i t
 | inr x=>obtain ⟨t,e⟩:=(show ∃ t,u=Value.str x t from r); subst e; exact W5 P w x t
theorem xY {P:Program}{w:World}:∀ {ks:List aD}{us:List Value},aK (ks.map kV) us->ItemsAre (dF P w) ks us
 | [],_,r=>by rw [List.map_nil] at r; cases r; exact .nil
 | k :: ks,_,r=>by
  rw [aU8] at r
  cases r with
  | cons h t=>exact .cons (kT h) (xY t)
abbrev KT (H:Hp):List (List aD × V)->List (List aD × Addr × Value)->Prop:=Paired fun p q=>p.1=q.1/\H q.2.1=some (.tup (p.1.map kV))/\aQ p.2 q.2.2
theorem KT.val {H:Hp}{kvs:List (List aD × V)}{xs:List (List aD × Addr × Value)} (r:KT H kvs xs) (k:List aD):fO (e8 kvs k) ((atKey xs k).map (·.2)):=by
 induction r with
 | nil=>exact True.intro
 | @cons p q ps qs h t ih=>
  obtain ⟨h1,_,h2⟩:=h
  by_cases e:p.1=k
  ·have e':q.1=k:=h1.symm.trans e
   have b:atKey (q :: qs) k=some q.2:=by simp [atKey,aZ5,e']
   rw [sP e,b]; exact h2
  ·have e' : ¬ q.1=k:=fun z=>e (h1.trans z)
   have b:atKey (q :: qs) k=atKey qs k:=by simp [atKey,aZ5,e']
   rw [sQ e,b]; exact ih
theorem KT.repl {H:Hp}{kvs:List (List aD × V)}{xs:List (List aD × Addr × Value)} (r:KT H kvs xs) (k:List aD) {y:V}{u:Value} (ry:aQ y u) :
  KT H (kvs.map fun kv=>if kv.1=k then (kv.1,y) else kv) (xs.map (putAt k u)):=by
 induction r with
 | nil=>exact .nil
 | @cons p q ps qs h t ih=>
  rw [aU8,aU8]
  refine .cons ?_ ih
  obtain ⟨h1,h2,h3⟩:=h
  unfold putAt
  by_cases e:p.1=k
  ·rw [if_pos e,if_pos (h1.symm.trans e)]; exact⟨h1,h2,ry⟩
  ·rw [if_neg e,if_neg (fun z=>e (h1.trans z))]; exact⟨h1,h2,h3⟩
theorem KT.put {H:Hp}{kvs:List (List aD × V)}{xs:List (List aD × Addr × Value)} (r:KT H kvs xs) (k:List aD) {b:Addr}{y:V}{u:Value} (hb:H b=some (.tup (k.map kV))) (ry:aQ y u) :
  KT H (dA kvs k y) (storedH xs k b u):=by
 have e:(kvs.any fun kv=>decide (kv.1=k))=(atKey xs k).isSome:=by
  rw [xX,(r.val k).isSome_eq,Option.isSome_map]
 unfold dA storedH
 rw [e]
 by_cases q:(atKey xs k).isSome=true
 ·rw [if_pos q,if_pos q]; exact r.repl k ry
 ·rw [if_neg q,if_neg q]; exact Paired.snoc r ⟨rfl,hb,ry⟩
theorem KT.keeps {H H':Hp}{kvs:List (List aD × V)}{xs:List (List aD × Addr × Value)} (r:KT H kvs xs) (ht:∀ b ys,H b=some (.tup ys)->H' b=some (.tup ys)):KT H' kvs xs:=
 Paired.mapP r fun _ _ z=>⟨z.1,ht _ _ z.2.1,z.2.2⟩
section
variable {P : Program} {w : World} {H : Hp} {h : Heap} {a : Addr}
theorem xZ {u:HO} (ok:bN P w H h) (e:Rd H a u):bP P w H h a u:=e.ok ok
theorem iS {kvs:List (aD × V)} (ok:bN P w H h) (e:Rd H a (.dK kvs)):kvs.length<=sizeLine/\(a == sysModules)=false/\∃ vs,KV kvs vs/\h.DictOf (dF P w) a vs:=
 show bP P w H h a (.dK kvs) from xZ ok e
theorem sS {kvs:List (aD × V)} (ok:bN P w H h) (e:H a=some (.dK kvs)):kvs.length<=sizeLine/\(a == sysModules)=false/\∃ vs,KV kvs vs/\h.DictOf (dF P w) a vs:=iS ok (.inl e)
theorem kU {ks:List aD} (ok:bN P w H h) (e:H a=some (.tup (ks.map kV))):(tupleKind (dF P w)).is h ks a:=by
 obtain ⟨_,its,r,o,h1,h2,n,h3⟩:=(show bP P w H h a (.tup (ks.map kV)) from ok a _ e)
 exact⟨o,its.toArray,n,h1,h2,h3,by simpa using xY r⟩
theorem jL {kvs:List (List aD × V)} (ok:bN P w H h) (e:Rd H a (.dT kvs)):kvs.length<=sizeLine/\(a == sysModules)=false/\
  ∃ xs,KT H kvs xs/\h.DictOfH (tupleKind (dF P w)) a xs:=by
 obtain ⟨z,y,xs,r,o,es,ep,h1,h2,h3,h4,h5⟩:=(show bP P w H h a (.dT kvs) from xZ ok e)
 refine⟨z,y,xs,r,o,es,ep,h1,h2,h3,h4,fun x hx=>?_,h5⟩
 have all:∀ {l:List (List aD × V)}{m:List (List aD × Addr × Value)},KT H l m->∀ x ∈ m,(tupleKind (dF P w)).is h x.1 x.2.1:=by
  intro l m q
  induction q with
  | nil=>intro x hx; exact nomatch hx
  | @cons p q ps qs hq t ih=>
   intro x hx
   rcases aR2.mp hx with e | hx
   ·subst e
    exact kU ok (by rw [<- hq.1]; exact hq.2.1)
   ·exact ih x hx
 exact all r x hx
theorem af4 {kvs:List (List aD × V)} (ok:bN P w H h) (e:H a=some (.dT kvs)):kvs.length<=sizeLine/\(a == sysModules)=false/\
  ∃ xs,KT H kvs xs/\h.DictOfH (tupleKind (dF P w)) a xs:=jL ok (.inl e)
end
def dN (H:Hp) (a:Addr) (y:V) (r:Option V):Prop:=
 (∃ kvs k,Rd H a (.dK kvs)/\y=kV k/\r=e8 kvs k) ∨ ∃ kvs k b,Rd H a (.dT kvs)/\y = .ref b/\H b=some (.tup (k.map kV))/\r=e8 kvs k
def iT (H:Hp) (a:Addr) (y v:V) (H':Hp):Prop:=
 (∃ kvs k,H a=some (.dK kvs)/\y=kV k/\kvs.length < sizeLine/\H'=upd H a (.dK (dA kvs k v))) ∨
 ∃ kvs k b,H a=some (.dT kvs)/\y = .ref b/\H b=some (.tup (k.map kV))/\kvs.length < sizeLine/\H'=upd H a (.dT (dA kvs k v))
theorem dN.k {H:Hp}{a:Addr}{kvs:List (aD × V)}{k:aD} (e:H a=some (.dK kvs)):dN H a (kV k) (e8 kvs k):=.inl ⟨kvs,k,.inl e,rfl,rfl⟩
theorem dN.t {H:Hp}{a b:Addr}{kvs:List (List aD × V)}{k:List aD} (e:H a=some (.dT kvs)) (eb:H b=some (.tup (k.map kV))):dN H a (.ref b) (e8 kvs k):=.inr ⟨kvs,k,b,.inl e,rfl,eb,rfl⟩
theorem iT.k {H:Hp}{a:Addr}{kvs:List (aD × V)}{k:aD}{v:V} (e:H a=some (.dK kvs)) (hl:kvs.length < sizeLine):iT H a (kV k) v (upd H a (.dK (dA kvs k v))):=.inl ⟨kvs,k,e,rfl,hl,rfl⟩
theorem iT.t {H:Hp}{a b:Addr}{kvs:List (List aD × V)}{k:List aD}{v:V} (e:H a=some (.dT kvs)) (eb:H b=some (.tup (k.map kV))) (hl:kvs.length < sizeLine) :
  iT H a (.ref b) v (upd H a (.dT (dA kvs k v))):=.inr ⟨kvs,k,b,e,rfl,eb,hl,rfl⟩
section
variable {X : Cx} {pins : List (Addr × Obj)} {σ : St} {H : Hp} {s : Shared} {a : Addr} {y v : V} {u r : Value} {o : Option V} {A : Around} {E : Value → Shared → Prop}
theorem a8.big (I:a8 X pins σ H s):sysModules < s.heap.objs.size:=by
 have h:mainGlobals < s.heap.objs.size:=(I.mod.glob.keeps I.bk).lt
 exact Nat.lt_trans (by decide) h
theorem af5 {Q:Value->Shared->Prop} (hu:A.units+1 < cLine) (I:a8 X pins σ H s) (g:dN H a y (some v)) (ry:aQ y u) (h:∀ w' s',a8 X pins σ H s'->aQ v w'->Q w' s') :
  wpAny (model X.prog X.w) A (getItem (.ref a) u) Q E s:=by
 rcases g with ⟨kvs,k,e,ey,l⟩ | ⟨kvs,k,b,e,ey,eb,l⟩
 ·subst ey
  obtain ⟨z,hd,vs,rel,dd⟩:=iS I.hok e
  obtain ⟨w',hw,rw'⟩:=fO.some_of (v:=v) (o:=valueAt vs k) (by rw [l]; exact rel.val k)
  exact wpAny_getItem_of (kT ry) dd.mapOf hw (h w' _ (I.tok _) rw')
 ·subst ey
  cases (show u=Value.ref b from ry)
  obtain ⟨z,hd,xs,rel,dd⟩:=jL I.hok e
  obtain ⟨w',hw,rw'⟩:=fO.some_of (v:=v) (o:=(atKey xs k).map (·.2)) (by rw [l]; exact rel.val k)
  obtain ⟨p,hp,hp2⟩:=Option.map_eq_some_iff.mp hw
  refine wpAny_getItem_heap (tupleKind_room_in1 hu) (kU I.hok eb) dd hp ?_
  rw [hp2]
  exact h w' _ (I.tok _) rw'
theorem af6 {Q:Value->Shared->Prop} (hu:A.units+1 < cLine) (I:a8 X pins σ H s) (g:dN H a y o) (ry:aQ y u) (h:∀ s',a8 X pins σ H s'->Q (.bool o.isSome) s') :
  wpAny (model X.prog X.w) A (compareOp .In u (.ref a)) Q E s:=by
 rcases g with ⟨kvs,k,e,ey,l⟩ | ⟨kvs,k,b,e,ey,eb,l⟩
 ·subst ey
  obtain ⟨z,hd,vs,rel,dd⟩:=iS I.hok e
  refine wpAny_in_of (kT ry) hd dd.mapOf ?_
  rw [<- (rel.val k).isSome_eq,<- l]
  exact h _ (I.tok _)
 ·subst ey
  cases (show u=Value.ref b from ry)
  obtain ⟨z,hd,xs,rel,dd⟩:=jL I.hok e
  refine wpAny_in_heap (tupleKind_room_in1 hu) (kU I.hok eb) hd dd ?_
  have q:=(rel.val k).isSome_eq
  rw [Option.isSome_map] at q
  rw [<- q,<- l]
  exact h _ (I.tok _)
theorem af7 {Q:Value->Shared->Prop} (hu:A.units+1 < cLine) (I:a8 X pins σ H s) (g:dN H a y o) (ry:aQ y u) (h:∀ s',a8 X pins σ H s'->Q (.bool (!o.isSome)) s') :
  wpAny (model X.prog X.w) A (compareOp .NotIn u (.ref a)) Q E s:=by
 rcases g with ⟨kvs,k,e,ey,l⟩ | ⟨kvs,k,b,e,ey,eb,l⟩
 ·subst ey
  obtain ⟨z,hd,vs,rel,dd⟩:=iS I.hok e
  refine wpAny_notIn_of (kT ry) hd dd.mapOf ?_
  rw [<- (rel.val k).isSome_eq,<- l]
  exact h _ (I.tok _)
 ·subst ey
  cases (show u=Value.ref b from ry)
  obtain ⟨z,hd,xs,rel,dd⟩:=jL I.hok e
  refine wpAny_notIn_heap (tupleKind_room_in1 hu) (kU I.hok eb) hd dd ?_
  have q:=(rel.val k).isSome_eq
  rw [Option.isSome_map] at q
  rw [<- q,<- l]
  exact h _ (I.tok _)
theorem sT {h':Heap}{t':Nat}{ob:HO} (I:a8 X pins σ H s) (mu:lV (H a)) (hs:Heap.SameBut a s.heap h') (he:∃ q,h'.get? a=some q) (new:bP X.prog X.w (upd H a ob) h' a ob) :
  a8 X pins σ (upd H a ob) { s with heap:=h',toks:=t' }:=
 I.write (x:=a) (e:=a) mu (.inl rfl) (fun b q hb z=>(hs.2 b hb).trans z) he new
theorem y6 {P:Program}{w:World}{H':Hp}{h':Heap}{kvs:List (aD × V)}{vs:List (aD × Value)} (z:kvs.length<=sizeLine) (hd:(a == sysModules)=false) (rel:KV kvs vs) (dd:h'.DictOf (dF P w) a vs) :
  bP P w H' h' a (.dK kvs):=⟨z,hd,vs,rel,dd⟩
theorem af8 {H':Hp}{Q:Unit->Shared->Prop} (hu:A.units+1 < cLine) (I:a8 X pins σ H s) (g:iT H a y v H') (ry:aQ y u) (rv:aQ v r) (h:∀ s',a8 X pins σ H' s'->Q () s') :
  wpAny (model X.prog X.w) A (setItem (.ref a) u r) Q E s:=by
 rcases g with ⟨kvs,k,e,ey,l,eH⟩ | ⟨kvs,k,b,e,ey,eb,l,eH⟩
 ·subst ey eH
  obtain ⟨z,hd,vs,rel,dd⟩:=sS I.hok e
  have hz:vs.length<=sizeLine:=by rw [<- rel.length]; exact z
  have hl:(dA kvs k v).length<=sizeLine:=by have:=sR kvs k v; omega
  refine wpAny_setItem_pairs (hsz:=hz) (kT ry) dd fun h' dd' hs=>h _ ?_
  have he:∃ q,h'.get? a=some q:=let ⟨q,_,_,hq,_⟩:=dd'; ⟨q,hq⟩
  exact sT I (by rw [e]; exact True.intro) hs he (y6 hl hd (rel.put k rv) dd')
 ·subst ey eH
  cases (show u=Value.ref b from ry)
  obtain ⟨z,hd,xs,rel,dd⟩:=af4 I.hok e
  have hz:xs.length<=sizeLine:=by rw [<- Paired.length rel]; exact z
  have hl:(dA kvs k v).length<=sizeLine:=by have:=sR kvs k v; omega
  refine wpAny_setItem_heap (hsz:=hz) (tupleKind_room_in1 hu) (kU I.hok eb) dd fun h' dd' hs=>h _ ?_
  obtain ⟨q,es,ep,hq,h2,h3,h4,_,h5⟩:=dd'
  refine sT I (by rw [e]; exact True.intro) hs ⟨q,hq⟩ ⟨hl,hd,_,(rel.put k eb rv).keeps fun c ys ec=>?_,q,es,ep,hq,h2,h3,h4,h5⟩
  rw [aP (W6 ec e (fun z=>nomatch z))]
  exact ec
end
section
variable {X : Cx} {pins : List (Addr × Obj)} {σ : St} {H : Hp} {s : Shared} {a : Addr} {kvs : List (aD × V)} {k : aD} {u : Value} {A : Around} {E : Value → Shared → Prop}
theorem af9 {Q:Value->Shared->Prop} (I:a8 X pins σ H s) (e:Rd H a (.dK kvs)) (h:∀ t s',a8 X pins σ H s'->Q (.int kvs.length t) s'):wpAny (model X.prog X.w) A (call (.builtin "len") [.ref a]) Q E s:=by
 obtain ⟨z,hd,vs,rel,dd⟩:=iS I.hok e
 refine call_len_dict hd dd (by rw [<- rel.length]; rw [sizeLine_eq] at z; omega) ?_
 rw [<- rel.length]
 exact h _ _ (I.tok _)
end
def sU (i:Expr):Prop:=∀ ov iv,subscripted i false ov iv=operate [ov,iv] (getItem ov iv)
theorem ag0 {prog:Program}{w:World}{A:Around}{E:Value->Shared->Prop}{s:Shared}{env:Env}{value slice:Expr}{pos:Pos}{T id:String}{Q:Value->Shared->Prop}
  (hl:typeLookup (.type T) "__getitem__" = pure (some (.builtin id))) (hs:sU slice)
  (h:wpAny (model prog w) A (eval value env) (fun o s₁=>wpAny (model prog w) A (eval slice env) (fun i s₂=>s₂.TypeIs o T/\wpAny (model prog w) A (getItem o i) Q E s₂) E s₁) E s) :
  wpAny (model prog w) A (eval (.Subscript value slice pos) env) Q E s:=by
 refine Subscript_ (aX3 h (fun o s₁ h₁=>aX3 h₁ (fun i s₂ h₂=>?_) fun _ _ x=>x) fun _ _ x=>x)
 obtain ⟨hT,h₂⟩:=h₂
 unfold subscriptTail
 refine aQ5 ?_
 rw [getitemInPython_of_ne hT.not_modules]
 refine aQ5 (wpAny_specialOf hT hl ?_)
 have fin:wpAny (model prog w) A (subscripted slice false o i) (fun r s₃=>wpAny (model prog w) A (letTemporaryGo value o r >>= fun _=>pure r) Q E s₃) E s₂:=by
  rw [hs o i]
  exact wpAny_operating (aX3 h₂ (fun r s₃ h₃=>aQ5 (wpAny_letTemporaryGo (aQ9 h₃))) fun _ _ x=>x)
 first
  | exact aQ9 (aQ5 fin)
  | exact aQ5 (aQ9 (aQ5 fin))
  | exact aQ5 fin
theorem ag1 {X:Cx}{pins:List (Addr × Obj)}{σ:St}{H:Hp}{s:Shared}{a:Addr}{y:V}{o:Option V} (I:a8 X pins σ H s) (g:dN H a y o):s.TypeIs (.ref a) "dict":=by
 rcases g with ⟨kvs,k,e,_,_⟩ | ⟨kvs,k,b,e,_,_,_⟩
 ·obtain ⟨_,_,vs,_,dd⟩:=iS I.hok e
  exact dd.typeIs
 ·obtain ⟨_,_,xs,_,dd⟩:=jL I.hok e
  exact dd.typeIs
def y9 (td ty:TE):TE:=fun σ H Q=>td σ H fun x H1=>ty σ H1 fun y H2=>∃ a v,x = .ref a/\dN H2 a y (some v)/\Q v H2
def yA (ty td:TE):TE:=fun σ H Q=>ty σ H fun y H1=>td σ H1 fun x H2=>∃ a o,x = .ref a/\dN H2 a y o/\Q (.bl o.isSome) H2
def yB (ty td:TE):TE:=fun σ H Q=>ty σ H fun y H1=>td σ H1 fun x H2=>∃ a o,x = .ref a/\dN H2 a y o/\Q (.bl (!o.isSome)) H2
def sV (td ty tv:TE):TS:=fun D σ H=>tv σ H fun v H1=>td σ H1 fun x H2=>ty σ H2 fun y H3=>∃ a H4,x = .ref a/\iT H3 a y v H4/\D.nx σ H4
section
variable {X : Cx} {o i e value : Expr} {pos pos' tpos : Pos} {td ty tv : TE}
theorem ag2 (hu:X.A.units+1 < cLine) (ho:PE X o td) (hi:PE X i ty) (hs:sU i):PE X (.Subscript o i pos) (y9 td ty):=by
 intro pins s σ H Q I h
 refine ag0 PySem.F.slot_dict_getitem.lookup hs (aL (ho pins s σ H _ I h) fun u s1 ⟨x,H1,I1,rx,q1⟩=>aL (hi pins s1 σ H1 _ I1 q1) fun iv s2 ⟨y,H2,I2,ry,a,v,ex,g,q2⟩=>?_)
 subst ex
 obtain rfl:u=Value.ref a:=rx
 exact⟨ag1 I2 g,af5 hu I2 g ry fun w' s3 I3 rw'=>⟨v,H2,I3,rw',q2⟩⟩
theorem ag3 (hu:X.A.units+1 < cLine) (hi:PE X i ty) (ho:PE X o td):PC X .In i o (yA ty td):=by
 intro pins s σ H Q I h
 refine aL (hi pins s σ H _ I h) fun iv s1 ⟨y,H1,I1,ry,q1⟩=>aL (ho pins s1 σ H1 _ I1 q1) fun u s2 ⟨x,H2,I2,rx,a,ov,ex,g,q2⟩=>?_
 subst ex
 obtain rfl:u=Value.ref a:=rx
 exact af6 hu I2 g ry fun s3 I3=>⟨.bl ov.isSome,H2,I3,rfl,q2⟩
theorem yC (hu:X.A.units+1 < cLine) (hi:PE X i ty) (ho:PE X o td):PC X .NotIn i o (yB ty td):=by
 intro pins s σ H Q I h
 refine aL (hi pins s σ H _ I h) fun iv s1 ⟨y,H1,I1,ry,q1⟩=>aL (ho pins s1 σ H1 _ I1 q1) fun u s2 ⟨x,H2,I2,rx,a,ov,ex,g,q2⟩=>?_
 subst ex
 obtain rfl:u=Value.ref a:=rx
 exact af7 hu I2 g ry fun s3 I3=>⟨.bl (!ov.isSome),H2,I3,rfl,q2⟩
theorem yD (hu:X.A.units+1 < cLine) (ho:PE X o td) (hi:PE X i ty) (hv:PE X value tv) (hs:swapsWith value (some (.Subscript o i pos')) pos.line X.env=pure false) :
  PS X (.Assign [.Subscript o i pos'] value pos) (sV td ty tv):=by
 intro pins s σ H D I h
 refine wpAny_Assign_Subscript (aL (hv pins s σ H _ I h) fun r s1 ⟨v,H1,I1,rv,q1⟩=>aL (ho pins s1 σ H1 _ I1 q1) fun u s2 ⟨x,H2,I2,rx,q2⟩=>aL (hi pins s2 σ H2 _ I2 q2) fun iv s3 ⟨y,H3,I3,ry,a,H4,ex,g,q3⟩=>?_) hs
 subst ex
 obtain rfl:u=Value.ref a:=rx
 exact af8 hu I3 g ry rv fun s4 I4=>⟨σ,H4,I4,q3⟩
end
theorem ag4 {P:Program}{w:World}{H:Hp} (h:Heap) (hb:sysModules < h.objs.size):bP P w H (h.push { cls:=.type "dict",data:=.dict #[] }) h.objs.size (.dK []):=
 ⟨aT7 _,ba7.mpr (Ne.symm (aT3 hb)),[],.nil,Heap.DictOf.new h⟩
theorem ag5 {P:Program}{w:World}{H:Hp} (h:Heap) (hb:sysModules < h.objs.size):bP P w H (h.push { cls:=.type "dict",data:=.dict #[] }) h.objs.size (.dT []):=
 ⟨aT7 _,ba7.mpr (Ne.symm (aT3 hb)),[],.nil,_,#[],0,aS1 _ rfl,⟨rfl,rfl,rfl⟩,rfl,rfl,List.nodup_nil⟩
def yE:TE:=fun _ H Q=>∀ p,H p=none->Q (.ref p) (upd H p (.dK []))
def yF:TE:=fun _ H Q=>∀ p,H p=none->Q (.ref p) (upd H p (.dT []))
section
variable {X : Cx} {pos : Pos}
theorem ag6:PE X (.Dict [] [] pos) yE:=fun pins s σ H Q I h=>
 wpAny_Dict_empty ⟨.ref s.heap.objs.size,_,I.laid (a:=s.heap.objs.size) (o:=.dK []) (t':=s.toks) (fun _ _ q=>aQ6 _ q) (aR0 _) (ag4 s.heap I.big),rfl,h _ (I.hok.fresh (aR0 _))⟩
theorem ag7:PE X (.Dict [] [] pos) yF:=fun pins s σ H Q I h=>
 wpAny_Dict_empty ⟨.ref s.heap.objs.size,_,I.laid (a:=s.heap.objs.size) (o:=.dT []) (t':=s.toks) (fun _ _ q=>aQ6 _ q) (aR0 _) (ag5 s.heap I.big),rfl,h _ (I.hok.fresh (aR0 _))⟩
end
def jM (kvs more:List (aD × V)):List (aD × V):=more.foldl (fun acc kv=>dA acc kv.1 kv.2) kvs
theorem KV.merge:∀ {more:List (aD × V)}{rs:List (aD × Value)}{kvs:List (aD × V)}{vs:List (aD × Value)},KV more rs->KV kvs vs->KV (jM kvs more) (merged vs rs):=by
 intro more rs kvs vs r
 unfold KV at r
 induction r generalizing kvs vs with
 | nil=>intro q; exact q
 | @cons p q ps qs h t ih=>
  intro r0
  have e:KV (dA kvs p.1 p.2) (stored vs q.1 q.2):=by
   have:=r0.put p.1 h.2
   rw [<- h.1]; exact this
  exact ih e
theorem yG:∀ (more kvs:List (aD × V)),(jM kvs more).length<=kvs.length+more.length
 | [],kvs=>by show kvs.length<=kvs.length+0; omega
 | p :: r,kvs=>by
  have h1:=yG r (dA kvs p.1 p.2)
  have h2:=sR kvs p.1 p.2
  show (jM (dA kvs p.1 p.2) r).length<=_
  rw [aT9]; omega
structure M1 (X:Cx) (o:Expr) (m:Str) (apos:Pos) (e:Expr) (cpos:Pos):Prop where
 base:attributeBase o m X.env (eval o X.env)=eval o X.env
 few:((backTo cpos (starEach [e] X.env)).all (fun x=>!x.1) && (backToKw cpos (keywordEach [] X.env)).all (fun x=>x.1.isSome)
  && decide (([e]:List Expr).length+([]:List Keyword).length+(if ([]:List Keyword).isEmpty then 0 else 1) < 30))=true
 line:(apos.endLine == cpos.line)=true
 trees:backTo cpos (starEach [e] X.env) = [(false,eval e X.env)]
structure M2 (X:Cx) (o:Expr) (m:Str) (apos:Pos) (e f:Expr) (cpos:Pos):Prop where
 base:attributeBase o m X.env (eval o X.env)=eval o X.env
 few:((backTo cpos (starEach [e,f] X.env)).all (fun x=>!x.1) && (backToKw cpos (keywordEach [] X.env)).all (fun x=>x.1.isSome)
  && decide (([e,f]:List Expr).length+([]:List Keyword).length+(if ([]:List Keyword).isEmpty then 0 else 1) < 30))=true
 line:(apos.endLine == cpos.line)=true
 trees:backTo cpos (starEach [e,f] X.env) = [(false,eval e X.env),(false,eval f X.env)]
def sW (H:Hp) (a:Addr):Prop:=(∃ kvs,Rd H a (.dK kvs)) ∨ ∃ kvs,Rd H a (.dT kvs)
theorem yH {X:Cx}{pins:List (Addr × Obj)}{σ:St}{H:Hp}{s:Shared}{a:Addr} (I:a8 X pins σ H s) (d:sW H a) :
  s.TypeIs (.ref a) "dict"/\(∀ b,Value.ref a = .ref b->∃ ob,s.heap.get? b=some ob/\ob.dict=none)/\(a == sysModules)=false:=by
 rcases d with ⟨kvs,e⟩ | ⟨kvs,e⟩
 ·obtain ⟨_,hd,vs,_,dd⟩:=iS I.hok e
  refine⟨dd.typeIs,fun b q=>?_,hd⟩
  cases q
  obtain ⟨ob,_,_,h1,h2,_⟩:=dd
  exact⟨ob,h1,h2.2.1⟩
 ·obtain ⟨_,hd,xs,_,dd⟩:=jL I.hok e
  refine⟨dd.typeIs,fun b q=>?_,hd⟩
  cases q
  obtain ⟨ob,_,_,h1,h2,_⟩:=dd
  exact⟨ob,h1,h2.2.1⟩
section
variable {X : Cx} {pins : List (Addr × Obj)} {σ : St} {H : Hp} {s : Shared} {a : Addr} {y d : V} {u r : Value} {o : Option V} {A : Around} {E : Value → Shared → Prop}
theorem ag8 {Q:Value->Shared->Prop} (hu:A.units+1 < cLine) (I:a8 X pins σ H s) (g:dN H a y o) (ry:aQ y u) (rd:aQ d r) (h:∀ w' s',a8 X pins σ H s'->aQ (o.getD d) w'->Q w' s') :
  wpAny (model X.prog X.w) A (call (.builtin "dict.get") [.ref a,u,r]) Q E s:=by
 rcases g with ⟨kvs,k,e,ey,l⟩ | ⟨kvs,k,b,e,ey,eb,l⟩
 ·subst ey
  obtain ⟨z,hd,vs,rel,dd⟩:=iS I.hok e
  refine call_meetsIn PySem.F.slot_dict_get dd.typeIs PySem.F.entry_dict_get (PySem.F.args_dict_get_3 _ _ _) (meets_dict_get_default (dF X.prog X.w) a (kT ry) hd r) ⟨_,dd.mapOf,h _ _ (I.tok _) ?_⟩
  rw [l]
  exact (rel.val k).getD rd
 ·subst ey
  cases (show u=Value.ref b from ry)
  obtain ⟨z,hd,xs,rel,dd⟩:=jL I.hok e
  refine call_meetsIn PySem.F.slot_dict_get dd.typeIs PySem.F.entry_dict_get (PySem.F.args_dict_get_3 _ _ _) (meetsH_dict_get_default (tupleKind (dF X.prog X.w)) a b hd r) ⟨tupleKind_room_in1 hu,k,xs,kU I.hok eb,dd,h _ _ (I.tok _) ?_⟩
  rw [l]
  exact (rel.val k).getD rd
end
def yI (td ty tx:TE):TE:=fun σ H Q=>td σ H fun x H1=>∃ a,x = .ref a/\sW H1 a/\ty σ H1 fun y H2=>tx σ H2 fun z H3=>∃ o,dN H3 a y o/\Q (o.getD z) H3
section
variable {X : Cx} {o e f : Expr} {apos cpos : Pos} {td ty tx : TE}
theorem ag9 (hu:X.A.units+1 < cLine) (ho:PE X o td) (he:PE X e ty) (hf:PE X f tx) (m:M2 X o "get" apos e f cpos):PE X (.Call (.Attribute o "get" apos) [e,f] [] cpos) (yI td ty tx):=by
 intro pins s σ H Q I h
 refine wpAny_Call_method m.base m.few m.line PySem.F.plainAttrs_dict PySem.F.slot_dict_get PySem.F.type_dict_get (aL (ho pins s σ H _ I h) fun u s1 ⟨x,H1,I1,rx,a,ex,d,q1⟩=>?_)
 subst ex
 obtain rfl:u=Value.ref a:=rx
 obtain ⟨t1,t2,_⟩:=yH I1 d
 refine⟨t1,t2,?_⟩
 rw [m.trees]
 refine Calls.callWith_builtin rfl (Calls.evalArgs_plain (Calls.spliced_cons (aL (he pins s1 σ H1 _ I1 q1) fun iv s2 ⟨y,H2,I2,ry,q2⟩=>
  Calls.spliced_cons (aL (hf pins s2 σ H2 _ I2 q2) fun fv s3 ⟨z,H3,I3,rz,ov,g,q3⟩=>Calls.spliced_nil ?_))))
 exact ag8 hu I3 g ry rz fun w' s4 I4 rw'=>⟨_,H3,I4,rw',q3⟩
end
end L2
namespace Att
open PySem PySem.W PySem.Calls PyProof.Rows
theorem ah0 {P:Params}{h:Heap}:∀ (ns:List Int) (vs:List Value),WellAll P h vs (ns.map WData.int)->IntsAre vs ns:=by
 intro ns
 induction ns with
 | nil=>
  intro vs w
  rw [List.map_nil] at w
  cases w
  exact .nil
 | cons n ns ih=>
  intro vs w
  rw [aU8] at w
  cases w with
  | cons a b=>
   cases a
   exact .cons _ _ (ih _ b)
theorem yJ {l:OpenLaw}{n:Nat} (hn:l.most=some n) {P:Params}{h:Heap}{args:List WData}{vals:List Value}
  (hpre:l.row.toRowW.claim.pre args=true) (hwl:WellAll P h vals args) :
  ∃ a vs ns,vals = [Value.ref a]/\args = [WData.list (ns.map WData.int)]/\h.get? a=some { cls:=.type "list",data:=.seq vs.toArray }/\IntsAre vs ns/\ns.length<=n:=by
 have hsh:WShape.hasAll [] args [.list .int]=true:=(pre_splitW hpre).1
 have hc:l.pre.holds [] { args:=args }=true:=(pre_splitW hpre).2
 obtain ⟨d,r,rfl,h1,h2⟩:=hasAllW_cons hsh
 obtain rfl:=hasAllW_nil h2
 obtain ⟨xs,rfl,h3⟩:=hasW_list h1
 obtain ⟨ns,rfl⟩:=items_int h3
 have hlen:ns.length<=n:=by
  unfold OpenLaw.pre at hc
  have h4:(WTm.not (.lt (.lit (.int (n:Int))) (.len (.arg 0)))).holds [] { args:=[.list (ns.map .int)] }=true:=by
   have h4:=(holds_andW hc).1
   rw [hn] at h4
   exact h4
  have h5:=condW_of h4 (w_not (w_lt w_lit (w_len_list (w_arg rfl))))
  rw [aR1] at h5
  refine bc0 fun q=>?_
  have q':(n:Int) < ((ns.length:Nat):Int):=by omega
  first
   | (rw [aS3 q'] at h5; exact absurd h5 (by decide))
   | (simp at h5; omega)
 cases hwl with
 | cons w1 w2=>
  cases w2
  cases w1 with
  | list ho hall=>exact⟨_,_,ns,rfl,rfl,ho,ah0 ns _ hall,hlen⟩
theorem yK (l:OpenLaw) (args:List WData):l.row.toRowW.claim.post args (.bool true) args=true:=
 postW_of (r:=l.row.toRowW) (X:=(true == true))
  (show WShape.has [] (.bool true) .bool=true by first | rfl | decide | simp [WShape.has,WShape.arms,WShape.armsAll])
  (show (WTm.eq .res (.lit (.bool true))).value [] { args:=args,res:=some (.bool true),after:=args }=some (.bool (true == true)) from w_eq_bool (w_res rfl) w_lit) rfl
theorem aQ3 {l:OpenLaw}{n:Nat}{q:Program}{loose:List Str}{XP:(Str->Option Value)->Heap->Prop}{YP:World->Heap->Prop}{d:DefRec}{x:Str}
  (hn:l.most=some n) (hdf:d.params.defaults = [])
  (hbind:∀ pm cd doc v:Value,bindArgs (docDef d.name d.params d.body d.scope pm cd doc) ⟨[v],[]⟩=pure [(x,v)])
  (hx:d.scope.names.lookup x=some .local ∨ d.scope.names.lookup x=some .cell)
  (hk:d.scope.kind = .function) (hco:d.scope.isCoroutine=false) (hgen:d.scope.isGenerator=false)
  (body:∀ (w:World) (s₀ s₁ s:Shared) (mg mb:Str->Option Value) (fa:Addr) (o:Obj) (pm cd doc:Value) (a:Addr) (vs:List Value) (ns:List Int),
   Ground q loose [] XP w s₀ mg mb s₁.heap->YP w s₁.heap->
   s₁.heap.get? fa=some o->o.data = .func (docDef d.name d.params d.body d.scope pm cd doc)->s₁.heap.CodeRec cd d.name->mg d.name=some (.ref fa)->
   s₁.heap.get? a=some { cls:=.type "list",data:=.seq vs.toArray }->IntsAre vs ns->ns.length<=n->
   s.gens = #[]->s.os=s₁.os->
   Fr s₁.heap s₁.heap.objs.size s.heap (bindL (envOfC d.name d.scope s₁.heap.objs.size fa cd).kindOf [(x,.ref a)] fun _=>none)->
   Cl s₁.heap.objs.size (cellsFrom (s₁.heap.objs.size+1) d.scope.names []) s.heap (bindC (envOfC d.name d.scope s₁.heap.objs.size fa cd).kindOf [(x,.ref a)] fun _=>none)->
   wpAny (model l.prog w) (callerA.deeper (envOfC d.name d.scope s₁.heap.objs.size fa cd)) (execs d.body (envOfC d.name d.scope s₁.heap.objs.size fa cd))
    (fun f s'=>f = .ret (.bool true)/\OldK s₁.heap s'.heap/\s'.os=s₁.os/\AllBare s'.gens) (fun _ _=>False) s) :
  WalkO q loose XP YP l.row.toRowW d [] (fun f vs=>PySem.call f vs):=by
 intro w s₀ s₁ mg mb G Y fa o pm cd doc dV kV ho hd hcd hD hmg hg args vals as hpre hlay hrd hwl hlo
 obtain rfl:dV = .none:=Dflts.none hD hdf
 obtain rfl:kV = .none:=Dflts.noKw hD
 obtain ⟨a,vs,ns,rfl,rfl,hobj,hints,hlen⟩:=yJ hn hpre hwl
 refine enter_call ?_
 refine call_cells_ret (o:=o) (by rw [depth_caller]; decide) ho (fd_plain hd) G.T.nolimit hcd (hbind pm cd doc (.ref a)) (fun y hy=>?_) (fun h₁ tk F X=>?_) hco hgen hk
 ·obtain rfl:y=(x,Value.ref a):=aS4.mp hy
  rcases hx with e | e
  ·exact .inl e
  ·exact .inr ⟨e,cellsFrom_some _ _ _ (.inl e)⟩
 ·refine aX3 (body w s₀ s₁ { s₁ with heap:=h₁,toks:=tk } mg mb fa o pm cd doc a vs ns G Y ho (fd_plain hd) hcd hmg hobj hints hlen hg rfl F X) (fun f s' hq=>?_) (fun _ _ hq=>hq)
  obtain ⟨rfl,h2,h3,h4⟩:=hq
  exact⟨.inl ⟨.bool true,.bool true,[],rfl,fun _=>rfl,.bool true,yK l _,fun _=>⟨List.Pairwise.nil,fun _ hm=>(nomatch hm)⟩⟩,h2,h3,h4⟩
theorem ah1 {l:OpenLaw}{n:Nat}{q:Program}{loose:List Str}{XP:(Str->Option Value)->Heap->Prop}{YP:World->Heap->Prop}{d:DefRec}
  (hn:l.most=some n) (hdf:d.params.defaults = [])
  (call:∀ (w:World) (s₀ s₁:Shared) (mg mb:Str->Option Value) (fa:Addr) (o:Obj) (pm cd doc:Value) (a:Addr) (vs:List Value) (ns:List Int),
   Ground q loose [] XP w s₀ mg mb s₁.heap->YP w s₁.heap->
   s₁.heap.get? fa=some o->o.data = .func (docDef d.name d.params d.body d.scope pm cd doc)->s₁.heap.CodeRec cd d.name->mg d.name=some (.ref fa)->
   s₁.heap.get? a=some { cls:=.type "list",data:=.seq vs.toArray }->IntsAre vs ns->ns.length<=n->s₁.gens = #[]->
   codeAny (model l.prog w) callerA (.call (.ref fa) ⟨[.ref a],[]⟩) (fun r s'=>r = .ok (.ret (.bool true))/\OldK s₁.heap s'.heap/\s'.os=s₁.os/\AllBare s'.gens) s₁) :
  WalkO q loose XP YP l.row.toRowW d [] (fun f vs=>PySem.call f vs):=by
 intro w s₀ s₁ mg mb G Y fa o pm cd doc dV kV ho hd hcd hD hmg hg args vals as hpre hlay hrd hwl hlo
 obtain rfl:dV = .none:=Dflts.none hD hdf
 obtain rfl:kV = .none:=Dflts.noKw hD
 obtain ⟨a,vs,ns,rfl,rfl,hobj,hints,hlen⟩:=yJ hn hpre hwl
 refine enter_call (codeAny_mono (call w s₀ s₁ mg mb fa o pm cd doc a vs ns G Y ho (fd_plain hd) hcd hmg hobj hints hlen hg) fun r s' hq=>?_)
 obtain ⟨rfl,h2,h3,h4⟩:=hq
 exact⟨.inl ⟨.bool true,.bool true,[],rfl,fun _=>rfl,.bool true,yK l _,fun _=>⟨List.Pairwise.nil,fun _ hm=>(nomatch hm)⟩⟩,h2,h3,h4⟩
end Att
namespace L2
open PySem PySem.Spec PyProof.Rows
theorem mI:∀ {vs:List Value}{ns:List Int},IntsAre vs ns->aK (ns.map V.int) vs
 | _,_,.nil=>.nil
 | _,_,.cons n t h=>.cons ⟨t,rfl⟩ (mI h)
def oF (H:Hp):Prop:=∀ b,H b=none ∨ ∃ o xs,H b=some (.frz o (.lst xs))
theorem ah2 {P:Program}{w:World}{K:PySem.W.Frag}{mg mb:Str->Option Value}{CX:fS}{k:Nat}{fa a:Addr}{fd:FuncData}{x:Str}{sp:Sp}{s₁:Shared}{vs:List Value}{ns:List Int}
  (KX:K.In s₁.heap) (hns:s₁.heap.Ns mainGlobals mg) (hb:s₁.heap.Ns builtinsNs mb) (hbb:∀ x:Str,x ≠ "__name__"->mb x=bootBuiltins x) (hlim:s₁.heap.NoLimit) (hg:s₁.gens = #[])
  (ha:s₁.heap.get? a=some { cls:=.type "list",data:=.seq vs.toArray }) (hi:IntsAre vs ns) (hl:ns.length<=sizeLine) (hr:bY k callerA)
  (F:∀ base:Heap,K.In base->base.Ns mainGlobals mg->cL P w K mg base CX k fa fd [x] sp) (hbind:∀ (s:Shared) (u:Value),BindsTo s fd ⟨[u],[]⟩ [(x,u)])
  (hsp:∀ H:Hp,oF H->aM K H a (ns.map V.int)->sp [.ref a] H (fun v _=>v = .bl true) fun _ _ _=>False)
  (hCX:∀ H e s',CX [] H s₁ (fun _ _ _=>False) e s'->False) :
  codeAny (model P w) callerA (.call (.ref fa) ⟨[.ref a],[]⟩) (fun r s'=>r = .ok (.ret (.bool true))/\OldK s₁.heap s'.heap/\s'.os=s₁.os/\AllBare s'.gens) s₁:=by
 have rv:=mI hi
 have lenV:=hi.length
 have core:∀ H:Hp,oF H->aM K H a (ns.map V.int)->bN P w H s₁.heap->(∀ b,H b ≠ none->b=a)->(H a ≠ none->K.lookup a=none)->
   codeAny (model P w) callerA (.call (.ref fa) ⟨[.ref a],[]⟩) (fun r s'=>r = .ok (.ret (.bool true))/\OldK s₁.heap s'.heap/\s'.os=s₁.os/\AllBare s'.gens) s₁:=by
  intro H hO hS hok hA hK
  have base_of:∀ {b:Addr}{o:Obj},s₁.heap.get? b=some o->H b=none->(i3 s₁.heap H).get? b=some o:=fun e n=>W8 e n
  have noA:∀ {b:Addr}{o:Obj}{es:Array DictEntry}{ep:Nat},s₁.heap.get? b=some o->o.data = .dict es ep->H b=none:=fun {b o es ep} e d=>by
   cases q:H b with
   | none=>rfl
   | some u=>
    have e':b=a:=hA b (by rw [q]; simp)
    subst e'
    rw [ha] at e; cases e
    have d':Data.seq vs.toArray _=Data.dict es ep:=d
    cases d'
  have nsK:∀ {b:Addr}{m:Str->Option Value},s₁.heap.Ns b m->(i3 s₁.heap H).Ns b m:=fun {b m} ⟨o,es,ep,e,d,r⟩=>⟨o,es,ep,base_of e (noA e d),d,r⟩
  have hKb:K.In (i3 s₁.heap H):=fun b o e=>base_of (KX b o e) (by
   cases q:H b with
   | none=>rfl
   | some u=>
    have e':b=a:=hA b (by rw [q]; simp)
    subst e'
    rw [hK (by rw [q]; simp)] at e; cases e)
  have hM:Mod K mg (i3 s₁.heap H):=⟨hKb,nsK hns,⟨mb,nsK hb,hbb⟩,let ⟨mc,h1,h2⟩:=hlim; ⟨mc,nsK h1,h2⟩⟩
  have e0:oC P w K mg (i3 s₁.heap H) callerA [] s₁ H:=⟨rfl,hM,fun b o e=>W9 e,Nat.le_of_eq (W7 _ _),trivial,fun b hb=>absurd (show b ∈ ([]:List Addr) from hb) (by simp),hok,.of_eq hg⟩
  refine codeAny_mono ((F _ hKb (nsK hns)).run callerA [] s₁ H ⟨[.ref a],[]⟩ [.ref a] [.ref a] _ _ hr e0 (hbind s₁ (.ref a)) (.cons rfl .nil) (hsp H hO hS)) fun r s' h=>?_
  cases r with
  | error e=>exact (hCX H e s' h).elim
  | ok fl=>
   cases fl with
   | next=>exact False.elim h
   | brk=>exact False.elim h
   | cont=>exact False.elim h
   | ret u=>
    obtain ⟨v,H',os,bare,un,hok',r',q⟩:=h
    have q':v = .bl true:=q
    subst q'
    obtain rfl:u=Value.bool true:=r'
    refine⟨rfl,OldK.of_keep fun b o e=>?_,os,bare⟩
    cases q:H b with
    | none=>exact un.keep b o e q (by intro z; exact absurd (show b ∈ ([]:List Addr) from z) (by simp)) (by simp)
    | some u=>
     rcases hO b with z | ⟨ob,xs,z⟩
     ·rw [q] at z; cases z
     ·have z2:=un.frzs b ob _ z
      obtain ⟨e1,_⟩:=hok b _ z
      obtain ⟨e2,_⟩:=hok' b _ z2
      rw [e] at e1; cases e1
      exact e2
 cases hk:K.lookup a with
 | some o=>
  have e:=KX a o hk
  rw [ha] at e
  cases e
  refine core (fun _=>none) (fun _=>.inl rfl) (.inr ⟨_,vs.toArray,_,hk,rfl,rfl,rfl,by rw [aQ8,lenV]; exact hl,by simpa using rv⟩) (fun b u z=>by have z':(none:Option HO)=some u:=z; cases z') (fun b z=>absurd rfl z) fun z=>absurd rfl z
 | none=>
  refine core (fun b=>if b=a then some (.frz { cls:=.type "list",data:=.seq vs.toArray } (.lst (ns.map V.int))) else none) (fun b=>?_) (.inl (.inr ⟨{ cls:=.type "list",data:=.seq vs.toArray },if_pos rfl⟩)) (fun b u z=>?_) (fun b z=>?_) fun _=>hk
  ·by_cases hb:b=a
   ·exact .inr ⟨_,_,if_pos hb⟩
   ·exact .inl (if_neg hb)
  ·by_cases hb:b=a
   ·have z':=(if_pos hb).symm.trans z
    cases z'
    subst hb
    exact⟨ha,by rw [aR1]; exact hl,vs,_,rv,ha⟩
   ·have z':=(if_neg hb).symm.trans z
    cases z'
  ·by_cases hb:b=a
   ·exact hb
   ·exact absurd (if_neg hb) z
theorem ah3 {l:PySem.W.OpenLaw}{n k:Nat}{q:Program}{loose:List Str}{XP:(Str->Option Value)->Heap->Prop}{YP:World->Heap->Prop}{d:DefRec}{K:Params->PySem.W.Frag}{CX:World->fS}{sp:World->Sp}{x:Str}
  (hn:l.most=some n) (hn2:n<=sizeLine) (hdf:d.params.defaults = []) (hr:bY k callerA)
  (hY:∀ (w:World) (h:Heap),YP w h->(K w.params).In h)
  (F:∀ (w:World) (mg:Str->Option Value) (fa:Addr) (h:Heap),(K w.params).In h->h.Ns mainGlobals mg->mg d.name=some (.ref fa)->
   ∃ fd:FuncData,(∀ (s:Shared) (u:Value),BindsTo s fd ⟨[u],[]⟩ [(x,u)])/\
    ∀ base:Heap,(K w.params).In base->base.Ns mainGlobals mg->cL l.prog w (K w.params) mg base (CX w) k fa fd [x] (sp w))
  (hsp:∀ (w:World) (H:Hp) (a:Addr) (ns:List Int),ns.length<=n->oF H->aM (K w.params) H a (ns.map V.int)->sp w [.ref a] H (fun v _=>v = .bl true) fun _ _ _=>False)
  (hCX:∀ (w:World) (H:Hp) (s:Shared) (e:Value) (s':Shared),CX w [] H s (fun _ _ _=>False) e s'->False) :
  PySem.W.WalkO q loose XP YP l.row.toRowW d [] (fun f vs=>PySem.call f vs):=by
 refine Att.ah1 hn hdf fun w s₀ s₁ mg mb fa o pm cd doc a vs ns G Y ho hd hcd hmg hobj hints hlen hg=>?_
 have KX:=hY w _ Y
 obtain ⟨fd,hb,hF⟩:=F w mg fa _ KX G.T.g hmg
 exact ah2 KX G.T.g G.T.b G.T.builtins G.T.nolimit hg hobj hints (aT4 hlen hn2) hr hF hb (fun H hO hS=>hsp w H a ns hlen hO hS) fun H e s'=>hCX w H s₁ e s'
def iA (s:Stmt):Arguments:=match s with
 | .FunctionDef _ a _ _ _ _ _ _ _ _=>a
 | _=>{ posonlyargs:=[],args:=[],vararg:=none,kwonlyargs:=[],kw_defaults:=[],kwarg:=none,defaults:=[] }
def dO (s:Stmt):List Stmt:=match s with
 | .FunctionDef _ _ b _ _ _ _ _ _ _=>b
 | _=>[]
def aT (s:Stmt):Scope:=match s with
 | .FunctionDef _ _ _ _ _ _ sc _ _ _=>sc
 | _=>{ kind:=.function,names:=[],isGenerator:=false,isCoroutine:=false }
abbrev dC:fS:=fun _ _ _ _ _ _=>False
abbrev E0:XK:=fun _ _ _=>False
theorem ah4 {X:Cx}:mC dC X E0:=fun _ _ _ _ _ _ _ h=>h.elim
structure e9 (K:PySem.W.Frag) (x qual:Str) (st:Stmt) (f:Addr) (fd:FuncData):Prop where
 ex:∃ (oc:Value) (od:Option Addr) (kV doc pm:Value) (an:Option Addr) (cdv ct:Value) (osl:Array (Option Value)),
  fd=PySem.W.fnOf x qual (iA st) (dO st) (aT st) .none kV doc pm an cdv ct/\K.lookup f=some ⟨oc,od,.func fd,osl⟩/\PySem.W.codeIn K cdv qual=true
 kp:PySem.W.keepIn K (.ref f)=true
section
variable {P : Program} {w : World} {K : PySem.W.Frag} {mg : Str → Option Value} {base : Heap}
theorem e9.ok {x qual:Str}{st:Stmt}{f:Addr}{fd:FuncData}{N ps:List Str}{k:Nat}{sp:Sp} (F:e9 K x qual st f fd) (S:FnScope N ps (aT st)) (len:∀ vs H Q E,sp vs H Q E->vs.length=ps.length)
  (hbody:∀ (cdv:Value) (A:Around) (outer:List Env) (s:Shared) (H:Hp) (vs:List V) (Q:VK) (E:XK),bY k (A.deeper (envOfC qual (aT st) s.heap.objs.size f cdv))->sp vs H Q E->
   ∃ t,cY (cS dC P w K mg base N qual (aT st) f cdv A outer s H E).nox (dO st) t/\t { nx:=fun _ H'=>Q .non H',rt:=Q } (fT N vs) H):cL P w K mg base dC (k+1) f fd ps sp:=by
 obtain ⟨oc,od,kV,doc,pm,an,cdv,ct,osl,rfl,lk,hcd⟩:=F.ex
 refine xD lk hcd S len fun A outer s H vs Q E hr hsp=>?_
 obtain ⟨t,h,q⟩:=hbody cdv A outer s H vs Q E hr hsp
 exact⟨t,h.nox,q⟩
theorem e9.binds {x qual:Str}{st:Stmt}{f:Addr}{fd:FuncData}{ps:List Str} (F:e9 K x qual st f fd)
  (h:∀ (kV doc pm:Value) (an:Option Addr) (cdv ct:Value) (us:List Value),us.length=ps.length->bindArgs (PySem.W.fnOf x qual (iA st) (dO st) (aT st) .none kV doc pm an cdv ct) ⟨us,[]⟩=pure (ps.zip us)):gR K fd ps []:=by
 obtain ⟨oc,od,kV,doc,pm,an,cdv,ct,osl,rfl,lk,hcd⟩:=F.ex
 exact .all (h kV doc pm an cdv ct)
theorem ah5 {x qual:Str}{st:Stmt}{f:Addr}{oc:Value}{od an:Option Addr}{osl:Array (Option Value)}{kV doc pm cdv ct:Value} (l:K.lookup f=some ⟨oc,od,.func (PySem.W.fnOf x qual (iA st) (dO st) (aT st) .none kV doc pm an cdv ct),osl⟩)
  (c:PySem.W.codeIn K cdv qual=true) (k:PySem.W.keepIn K (.ref f)=true):e9 K x qual st f (PySem.W.fnOf x qual (iA st) (dO st) (aT st) .none kV doc pm an cdv ct):=⟨⟨oc,od,kV,doc,pm,an,cdv,ct,osl,rfl,l,c⟩,k⟩
end
theorem jN {A:Around}{k:Nat} (hr:bY k A):A.units+1 < cLine:=Nat.lt_of_le_of_lt (Nat.add_le_add_left (by decide:1<=64) _) hr.units
theorem mJ {n:Nat} (h:n<=1000):n < sizeLine:=Nat.lt_of_le_of_lt h (by decide)
section
variable {X : Cx}
theorem pv (i:Nat) {x:Str}{pos:Pos} (hN:X.N[i]? = some x:=by rfl) (hv:dX X.env.scope x:=by first | exact Or.inl rfl | exact Or.inr (Or.inl rfl) | exact Or.inr (Or.inr rfl)) (hd:(x == ("__debug__" : Str))=false:=by decide)
  (hcd:(x == ("__classdict__" : Str))=false:=by decide):PE X (.Name x pos) (eZ i):=fP hN hv hd hcd
theorem ah6:cJ X (.builtin "len") (fun xs H Q=>∃ a kvs,xs = [V.ref a]/\H a=some (.dK kvs)/\Q (.int kvs.length) H):=by
 intro pins s σ H xs us Q I r h
 obtain ⟨a,kvs,rfl,ha,q⟩:=h
 obtain ⟨u,rfl,ru⟩:=fC r
 cases ru
 exact af9 I (.inl ha) fun t s' I'=>⟨.int kvs.length,H,I',⟨t,rfl⟩,q⟩
end
theorem aV {A B:Prop} (h:B):if false=true then A else B:=by
 rw [if_neg aS6]
 exact h
theorem aX {A B:Prop} (h:A):if true=true then A else B:=by
 rw [if_pos rfl]
 exact h
def aC (H H':Hp):Prop:=∀ b o,H b=some o->H' b=some o
theorem aC.refl (H:Hp):aC H H:=fun _ _ h=>h
theorem aC.trans {H H1 H2:Hp} (a:aC H H1) (b:aC H1 H2):aC H H2:=fun c o h=>b c o (a c o h)
theorem aC.free {H H':Hp} (e:aC H H') {l:Addr} (h:H' l=Option.none):H l=Option.none:=by
 cases q:H l with
 | none=>rfl
 | some o=>
  rw [e l o q] at h
  cases h
theorem aC.seq {K:PySem.W.Frag}{H H':Hp}{a:Addr}{xs:List V} (e:aC H H') (h:aM K H a xs):aM K H' a xs:=by
 rcases h with (h | ⟨o,h⟩) | h
 ·exact .inl (.inl (e _ _ h))
 ·exact .inl (.inr ⟨o,e _ _ h⟩)
 ·exact .inr h
def dH (cells:List (Str × Addr)):List (Str × NameKind)->List (Str × Addr)->List (Str × Addr)
 | [],cs=>cs
 | (n,k) :: r,cs=>dH cells r (if k == .free then (n,(cells.lookup n).getD 0) :: cs else cs)
theorem sX {env:Env}:∀ (ns:List (Str × NameKind)) (cs:List (Str × Addr)),(∀ x ∈ ns,x.2 = .free->∃ c,env.cells.lookup x.1=some c)->
  (forIn ns cs (fun (x:Str × NameKind) r=>(match x with
   | (name,kind)=>if (kind == .free)=true then (do let y <- cellOf env name; pure (ForInStep.yield ((name,y) :: r))) else pure (ForInStep.yield r)):_->_->Sem _))=(pure (dH env.cells ns cs):Sem (List (Str × Addr)))
 | [],cs,_=>by rw [List.forIn_nil]; rfl
 | (n,k) :: r,cs,h=>by
  rw [List.forIn_cons]
  have hr:∀ x ∈ r,x.2 = .free->∃ c,env.cells.lookup x.1=some c:=fun x hx=>h x (aS2 _ hx)
  cases hk:(k == NameKind.free) with
  | true=>
   have e:k = .free:=by simpa using hk
   obtain ⟨c,hc⟩:=h (n,k) aS0 e
   simp only [hk,if_true]
   have e1:cellOf env n=pure c:=by unfold cellOf; rw [hc]
   rw [e1]
   show ((pure c >>= fun y=>pure (ForInStep.yield ((n,y) :: cs))) >>= _:Sem _)=_
   rw [pure_bind,pure_bind]
   have:=sX (env:=env) r ((n,c) :: cs) hr
   refine this.trans ?_
   unfold dH
   simp only [hk,if_true,hc,Option.getD_some]
   cases r <;> rfl
  | false=>
   simp only [hk,aS9,aX8]
   rw [pure_bind]
   have:=sX (env:=env) r cs hr
   refine this.trans ?_
   conv=>rhs; unfold dH
   simp only [hk,aS9,aX8]
theorem sY {scope:Scope}{env:Env} (h:∀ x ∈ scope.names,x.2 = .free->∃ c,env.cells.lookup x.1=some c):closureFor scope env=pure (dH env.cells scope.names []):=by
 have e:=sX (env:=env) scope.names [] h
 unfold closureFor
 rw [show (pure (dH env.cells scope.names []):Sem (List (Str × Addr)))=(pure (dH env.cells scope.names []) >>= pure) by rw [pure_bind]]
 rw [<- e]
theorem oG {cells:List (Str × Addr)}:∀ (ns:List (Str × NameKind)) (cs:List (Str × Addr)) {x:Str}{c:Addr},(∀ y ∈ ns,y.2 = .free->∃ c,cells.lookup y.1=some c)->
  (∀ x c,cs.lookup x=some c->cells.lookup x=some c)->(dH cells ns cs).lookup x=some c->cells.lookup x=some c
 | [],cs,x,c,_,hc,h=>hc x c h
 | (n,k) :: r,cs,x,c,hn,hc,h=>by
  unfold dH at h
  have hr:∀ y ∈ r,y.2 = .free->∃ c,cells.lookup y.1=some c:=fun y hy=>hn y (aS2 _ hy)
  cases hk:(k == NameKind.free) with
  | false=>
   simp only [hk,aS9,aX8] at h
   exact oG r cs hr hc h
  | true=>
   simp only [hk,if_true] at h
   refine oG r _ hr (fun y d e=>?_) h
   obtain ⟨c0,h0⟩:=hn (n,k) aS0 (by simpa using hk)
   have h0:cells.lookup n=some c0:=h0
   rw [h0] at e
   rw [aW5] at e
   by_cases hyn:y=n
   ·subst hyn
    simp only [aX4,Option.getD_some] at e
    rw [h0]; exact e
   ·have:(y == n)=false:=ba7.mpr hyn
    simp only [this] at e
    exact hc y d e
theorem sZ {cells:List (Str × Addr)}:∀ (ns:List (Str × NameKind)) (cs:List (Str × Addr)) {x:Str},((x,NameKind.free) ∈ ns ∨ ∃ c,cs.lookup x=some c)->∃ c,(dH cells ns cs).lookup x=some c
 | [],cs,x,h=>by
  rcases h with h | h
  ·simp at h
  ·exact h
 | (n,k) :: r,cs,x,h=>by
  unfold dH
  refine sZ r _ ?_
  rcases h with h | ⟨c,h⟩
  ·rcases aR2.mp h with e | e
   ·cases e
    exact .inr ⟨_,by simp [aW5]; rfl⟩
   ·exact .inl e
  ·right
   cases hk:(k == NameKind.free) with
   | false=>exact⟨c,by simpa [hk] using h⟩
   | true=>
    simp only [if_true]
    rw [aW5]
    by_cases hxn:(x == n)=true
    ·simp only [hxn]; exact⟨_,rfl⟩
    ·simp only [ba3.mpr hxn]; exact⟨c,h⟩
theorem oH {env:Env}:∀ {names:List (Str × NameKind)}{x:Str}{k:NameKind},(names.map fun (n,k)=>if (k == NameKind.free && env.scope.kind == .function && env.kindOf n == some .cell) then (n,NameKind.cell) else (n,k)).lookup x=some k->
  names.lookup x=some k ∨ (names.lookup x=some .free/\k = .cell)
 | [],_,_,h=>by simp at h
 | (n,q) :: r,x,k,h=>by
  have ih:=@oH env r x k
  rw [aU8] at h
  by_cases hx:(x == n)=true
  ·have e:x=n:=by simpa using hx
   subst e
   by_cases hc:(q == NameKind.free && env.scope.kind == .function && env.kindOf x == some .cell)=true
   ·simp only [hc,if_true,aW5,aX4] at h
    have hq:q = .free:=by simp at hc; exact hc.1.1
    exact .inr ⟨by simp [aW5,hq],(aT2 h).symm⟩
   ·simp only [hc,aS9,aX8,aW5,aX4] at h
    exact .inl (by simp [aW5]; exact aT2 h)
  ·have hx':(x == n)=false:=ba3.mpr hx
   have h':(r.map fun (n,k)=>if (k == NameKind.free && env.scope.kind == .function && env.kindOf n == some .cell) then (n,NameKind.cell) else (n,k)).lookup x=some k:=by
    by_cases hc:(q == NameKind.free && env.scope.kind == .function && env.kindOf n == some .cell)=true
    ·simp only [hc,if_true,aW5,hx'] at h; exact h
    ·simp only [hc,aS9,aX8,aW5,hx'] at h; exact h
   simp only [aW5,hx']
   exact ih h'
def eN (fr:List (Option Nat)) (σ:St):St:=fr.map fun o=>o.bind fun j=>(σ[j]?).join
def Wk (σ₁ σ₂:St):Prop:=σ₁.length=σ₂.length/\∀ (i:Nat) v,σ₁[i]? = some (some v)->σ₂[i]? = some (some v)
theorem Wk.refl (σ:St):Wk σ σ:=⟨rfl,fun _ _ h=>h⟩
theorem Wk.set {σ τ:St}{i:Nat}{v:V} (h:Wk σ τ) (hi:σ[i]? = some none):Wk σ (τ.set i (some v)):=by
 refine⟨by rw [aV5]; exact h.1,fun j w e=>?_⟩
 by_cases hj:j=i
 ·subst hj; rw [hi] at e; cases e
 ·rw [aS7 (Ne.symm hj)]; exact h.2 j w e
theorem iB:∀ (ns:List (Str × NameKind)) (n:Nat) (cs:List (Str × Addr)),cellsFrom n ns cs=cellsFrom n ns [] ++ cs
 | [],_,_=>rfl
 | (x,k) :: r,n,cs=>by
  unfold cellsFrom
  split
  ·rw [iB r (n+1) ((x,n) :: cs),iB r (n+1) [(x,n)]]; simp
  ·exact iB r n cs
theorem t0:∀ (ns:List (Str × NameKind)) (n:Nat) {x:Str}{c:Addr},(x,c) ∈ cellsFrom n ns []->(x,NameKind.cell) ∈ ns
 | [],_,_,_,h=>by simp [cellsFrom] at h
 | (y,k) :: r,n,x,c,h=>by
  unfold cellsFrom at h
  split at h
  ·rename_i hk
   rw [iB] at h
   rcases aU2.mp h with z | z
   ·exact aS2 _ (t0 r _ z)
   ·rw [aS4] at z
    cases z
    have:k = .cell:=by simpa using hk
    rw [this]; exact aS0
  ·exact aS2 _ (t0 r _ h)
theorem oI:∀ (ns:List (Str × NameKind)) (n:Nat) {x:Str},(x,NameKind.cell) ∈ ns->∃ c,(x,c) ∈ cellsFrom n ns []
 | (y,k) :: r,n,x,h=>by
  unfold cellsFrom
  rcases aR2.mp h with z | z
  ·cases z
   rw [if_pos (by rfl),iB]
   exact⟨n,aU7 _ (by simp)⟩
  ·split
   ·obtain ⟨c,hc⟩:=oI r (n+1) z
    rw [iB]
    exact⟨c,List.mem_append_left _ hc⟩
   ·exact oI r n z
theorem t4 {α:Type}:∀ {l:List (Str × α)}{x:Str}{c:α},(x,c) ∈ l->∃ d,l.lookup x=some d
 | (y,v) :: r,x,c,h=>by
  rw [aW5]
  cases hb:x == y with
  | true=>exact⟨v,rfl⟩
  | false=>
   rcases aR2.mp h with z | z
   ·cases z; simp at hb
   ·exact t4 z
theorem oJ {α:Type}{x:Str}:∀ (l r:List (Str × α)),(l ++ r).lookup x=(match l.lookup x with | some v=>some v | none=>r.lookup x)
 | [],_=>rfl
 | (y,v) :: l,r=>by
  rw [List.cons_append,aW5,aW5]
  cases hb:x == y with
  | true=>rfl
  | false=>exact oJ l r
def fU (X:Cx) (scope:Scope) (C:Addr):List (Str × Addr):=cellsFrom (C+1) scope.names (dH X.env.cells scope.names [])
theorem jO {X:Cx}{scope:Scope}{C:Addr}{x:Str}{c:Addr} (h:(fU X scope C).lookup x=some c) :
  (x,c) ∈ cellsFrom (C+1) scope.names [] ∨ ((∀ d,(x,d) ∉ cellsFrom (C+1) scope.names [])/\(dH X.env.cells scope.names []).lookup x=some c):=by
 unfold fU at h
 rw [iB,oJ] at h
 cases e:(cellsFrom (C+1) scope.names []).lookup x with
 | some v=>rw [e] at h; cases h; exact .inl (aU9 e)
 | none=>
  rw [e] at h
  refine .inr ⟨fun d hd=>?_,h⟩
  obtain ⟨d',z⟩:=t4 hd
  rw [e] at z; cases z
theorem ah7 {X:Cx}{scope:Scope}{C:Addr}{x:Str}{c:Addr} (hn:(x,NameKind.cell) ∉ scope.names) (h:(dH X.env.cells scope.names []).lookup x=some c):(fU X scope C).lookup x=some c:=by
 unfold fU
 rw [iB,oJ]
 cases e:(cellsFrom (C+1) scope.names []).lookup x with
 | some v=>exact absurd (t0 _ _ (aU9 e)) hn
 | none=>exact h
theorem yL {X:Cx}{scope:Scope}{C:Addr}{x:Str} (h:(x,NameKind.cell) ∈ scope.names ∨ ∃ c,(dH X.env.cells scope.names []).lookup x=some c):∃ c,(fU X scope C).lookup x=some c:=by
 unfold fU
 rw [iB,oJ]
 cases e:(cellsFrom (C+1) scope.names []).lookup x with
 | some v=>exact⟨v,rfl⟩
 | none=>
  rcases h with h | h
  ·obtain ⟨c,hc⟩:=oI scope.names (C+1) h
   obtain ⟨d,hd⟩:=t4 hc
   rw [e] at hd; cases hd
  ·exact h
def bL (X:Cx) (scope:Scope) (N:List Str) (s:Shared) (H:Hp) (C:Addr) (fp:List Addr) (E:Value->Shared->Prop):Cx:=
 { X with N:=N,s₀:=s,H₀:=H,env:=compEnvC scope (fU X scope C) C X.env,outer:=X.stack,ex:=fp,fn:=fun x=>scope.names.lookup x == some .cell,pn:=[],xe:=E }
structure cV (X:Cx) (scope:Scope) (N:List Str) (fr:List (Option Nat)):Prop where
 kind:scope.kind = .function
 own:∀ y ∈ scope.names,y.2 = .cell->scope.names.lookup y.1=some .cell
 names:∀ y ∈ scope.names,y.2 = .local->scope.names.lookup y.1=some .local
 free:∀ y ∈ scope.names,y.2 = .free->X.env.scope.names.lookup y.1=some .cell ∨ X.env.scope.names.lookup y.1=some .free
 len:fr.length=N.length
 from_:∀ (i j:Nat),fr[i]? = some (some j)->∃ x,N[i]? = some x/\X.N[j]? = some x/\scope.names.lookup x=some .free
section
variable {X : Cx} {pins : List (Addr × Obj)} {σ : St} {H : Hp} {s : Shared} {scope : Scope} {N : List Str} {fr : List (Option Nat)}
theorem cV.cells (S:cV X scope N fr) (I:a8 X pins σ H s):∀ y ∈ scope.names,y.2 = .free->∃ c,X.env.cells.lookup y.1=some c:=fun y hy hk=>I.ok.has y.1 (S.free y hy hk)
theorem ah8 {C D:Addr}{fp:List Addr}{E:Value->Shared->Prop}{h1:Heap}{tk:Nat}{m:Str->Option Value} (S:cV X scope N fr) (I:a8 X pins σ H s)
  (hf:∀ b ∈ fp,fQ X pins H b) (hfl:∀ b ∈ fp,b < s.heap.objs.size) (hD:s.heap.objs.size<=D) (hC:s.heap.objs.size<=C) (hDC:D < C)
  (old:∀ b o,s.heap.get? b=some o->h1.get? b=some o) (hns:h1.Ns C m) (hacc:h1.get? D=some { cls:=.type "list",data:=.seq #[] 0 }) (hco:CellsOk h1 (C+1) (cellsFrom (C+1) scope.names [])) :
  a8 (bL X scope N s H C fp E) [] (eN fr σ) (upd H D (.lst [])) { s with heap:=h1,toks:=tk }:=by
 have hHD:H D=none:=I.hok.fresh hD
 have cl:=S.cells I
 have cs:∀ {x:Str}{c:Addr},(dH X.env.cells scope.names []).lookup x=some c->X.env.cells.lookup x=some c:=fun {x c} h=>oG scope.names [] cl (fun _ _ z=>by simp at z) h
 have clt:∀ {x:Str}{c:Addr},X.env.cells.lookup x=some c->c < s.heap.objs.size:=fun {x c} h=>by obtain ⟨v,z⟩:=I.cell x c h; exact z.lt
 have nge:∀ {x:Str}{c:Addr},(x,c) ∈ cellsFrom (C+1) scope.names []->C < c:=fun {x c} h=>(hco.empty x c h).2
 refine⟨⟨I.ok.mod,?_,I.ok.glob,I.ok.blt,hC,?_,?_,?_,I.ok.hd,I.ok.frames,.inl rfl,?_,I.bs,aT4 I.ok.bsz I.sz,?_,?_,I.stack,I.stkFree⟩,rfl,I.bare,Un.laid old hD hHD,⟨m,hns,?_⟩,?_,?_,?_,fun p hp=>absurd (show p ∈ ([]:List (Addr × Obj)) from hp) (by simp),?_,?_⟩
 ·exact S.kind
 ·intro x y c h1 h2
  rcases jO h1 with a | ⟨_,a⟩ <;> rcases jO h2 with b | ⟨_,b⟩
  ·exact name_of_addr hco.apart a b
  ·exact absurd (aR9 (Nat.lt_trans (nge a) (clt (cs b))) hC) (aW1 _)
  ·exact absurd (aR9 (Nat.lt_trans (nge b) (clt (cs a))) hC) (aW1 _)
  ·exact I.ok.inj x y c (cs a) (cs b)
 ·intro x hx
  have hx:(relabel scope X.env).names.lookup x=some .cell ∨ (relabel scope X.env).names.lookup x=some .free:=hx
  have fin:(x,NameKind.free) ∈ scope.names->∃ c,(fU X scope C).lookup x=some c:=fun z=>yL (.inr (sZ scope.names [] (.inl z)))
  rcases hx with hx | hx
  ·rcases oH hx with z | z
   ·exact yL (.inl (aU9 z))
   ·exact fin (aU9 z.1)
  ·rcases oH hx with z | z
   ·exact fin (aU9 z)
   ·exact absurd z.2 (by decide)
 ·intro x c hx h
  have hx:(scope.names.lookup x == some NameKind.cell)=true:=hx
  have hx:scope.names.lookup x=some .cell:=by simpa using hx
  rcases jO h with a | ⟨a,_⟩
  ·exact aT4 hC (aV0 (nge a))
  ·obtain ⟨d,hd⟩:=oI scope.names (C+1) (aU9 hx)
   exact absurd hd (a d)
 ·intro b hb
  refine⟨aT3 (aR9 (hfl b hb) hC),fun x c e=>?_⟩
  rcases jO e with a | ⟨_,a⟩
  ·exact aX9 (Nat.lt_trans (aR9 (hfl b hb) hC) (nge a))
  ·exact (hf b hb).2.2.2.2.1 x c (cs a)
 ·intro b o e hb
  rcases (hf b hb).2.2.2.1 with z | z
  ·exact I.ok.noex b o e z
  ·exact absurd (aR9 (aR8 e) (aT4 I.ok.bsz z)) (aW1 _)
 ·intro b hb z
  rcases aR2.mp (I.stkSub b z) with e | e
  ·exact (hf b hb).2.1 e
  ·exact (hf b hb).2.2.1 e
 ·intro i x v e1 e2 e3
  have e2:(fr.map fun o=>o.bind fun j=>(σ[j]?).join)[i]? = some (some v):=e2
  rw [aS5] at e2
  cases ef:fr[i]? with
  | none=>rw [ef] at e2; cases e2
  | some o=>
   rw [ef] at e2
   cases o with
   | none=>cases e2
   | some j=>
    have e2:some ((σ[j]?).join)=some (some v):=e2
    have ej:σ[j]? = some (some v):=by
     cases q:σ[j]? with
     | none=>rw [q] at e2; cases e2
     | some w=>rw [q] at e2; cases w with
      | none=>cases e2
      | some w=>cases e2; rfl
    obtain ⟨y,a1,a2,a4⟩:=S.from_ i j ef
    have e1:N[i]? = some x:=e1
    rw [e1] at a1
    cases a1
    have a3:(x,NameKind.free) ∈ scope.names:=aU9 a4
    have vis:dX X.env.scope x:=(S.free _ a3 rfl).elim (fun z=>.inr (.inl z)) fun z=>.inr (.inr z)
    obtain ⟨m0,hn0,hl0⟩:=I.loc
    obtain ⟨u,r,l⟩:=hl0 j x v a2 ej vis
    refine⟨u,r,.inr ⟨?_,?_⟩⟩
    ·have e3:(relabel scope X.env).names.lookup x=some .local ∨ (relabel scope X.env).names.lookup x=some .cell ∨ (relabel scope X.env).names.lookup x=some .free:=e3
     rcases e3 with z | z | z
     ·rcases oH z with y | y
      ·rw [a4] at y; cases y
      ·exact absurd y.2 (by decide)
     ·exact .inl z
     ·exact .inr z
    ·obtain ⟨c,hc⟩:=sZ (cells:=X.env.cells) scope.names [] (x:=x) (.inl a3)
     refine⟨c,ah7 (fun z=>by have:=S.own _ z rfl; rw [a4] at this; cases this) hc,?_⟩
     have hc':=cs hc
     have S1:=S.free (x,.free) a3 rfl
     rcases l with ⟨k,_⟩ | ⟨_,c2,hc2,z⟩
     ·have k:X.env.scope.names.lookup x=some .local:=k
      rcases S1 with q | q <;> (have q:X.env.scope.names.lookup x=_:=q; rw [k] at q; cases q)
     ·rw [hc'] at hc2; cases hc2
      obtain ⟨oc,ho,hd⟩:=z
      exact⟨oc,old c oc ho,hd⟩
 ·intro x c e
  rcases jO e with a | ⟨_,a⟩
  ·exact⟨_,(hco.empty x c a).1⟩
  ·obtain ⟨v,oc,ho,hd⟩:=I.cell x c (cs a)
   exact⟨v,oc,old c oc ho,hd⟩
 ·show upd H D (.lst []) C=none
  rw [aP (aX9 hDC)]; exact I.hok.fresh hC
 ·intro x c e
  show upd H D (.lst []) c=none
  rcases jO e with a | ⟨_,a⟩
  ·rw [aP (aX9 (Nat.lt_trans hDC (nge a)))]; exact I.hok.fresh (aT4 hC (aV0 (nge a)))
  ·have q:=cs a
   rw [aP (aT3 (aR9 (clt q) hD))]
   exact I.freeC x c q
 ·exact I.hok.laid old hD ⟨aT7 _,[],0,.nil,hacc⟩
 ·show (eN fr σ).length=N.length
  unfold eN; rw [aR1]; exact S.len
end
def iU (X:Cx) (ifs:List Expr) (t:TT):Prop:=
 ∀ (pins:List (Addr × Obj)) (s:Shared) (σ:St) (H:Hp) (Q:Bool->Hp->Prop),a8 X pins σ H s->t σ H Q->
  wpAny (model X.prog X.w) X.A (forIn ifs true fun c r=>if r=true then do let ok <- isTrue c X.env (eval c X.env); pure (ForInStep.yield ok) else pure (ForInStep.yield r)) (TP X pins σ Q) X.xe s
def t5:TT:=fun _ H Q=>Q true H
theorem oK {X:Cx}:iU X [] t5:=fun _ _ _ H _ I h=>wpAny_tests_nil ⟨H,I,h⟩
theorem yM {X:Cx}{c:Expr}{t:TT} (h:PT X c t):iU X [c] t:=fun pins s σ H Q I hq=>wpAny_tests_one (h pins s σ H Q I hq)
section
variable {prog : Program} {w : World} {A : Around}
def t6 (prog:Program) (w:World) (A:Around) (elt tg:Expr) (ifs:List Expr) (it acc:Value) (env:Env) (lost:Value->Shared->Prop) (stop next:Shared->Prop) (s:Shared):Prop:=
 let M:=model prog w
 let tests:Sem Bool:=forIn ifs true fun c r=>if r=true then do let ok <- isTrue c env (eval c env); pure (ForInStep.yield ok) else pure (ForInStep.yield r)
 let put:Shared->Prop:=wpAny M A (eval elt env) (fun x=>wpAny M A (call (.builtin "list.append") [acc,x]) (fun _=>next) lost) lost
 let taken:Value->Shared->Prop:=fun v=>wpAny M A (letOwnedTupleGo tg it v) (fun _=>wpAny M A (assign tg env v) (fun _=>wpAny M A tests (fun ok s'=>if ok=true then put s' else next s') lost) lost) lost
 wpAny M A (pyNext it) (fun r s'=>match r with
  | none=>stop s'
  | some v=>taken v s') lost s
theorem ah9 {R:Result->Shared->Prop}{s:Shared}{elt tg iter:Expr}{ifs:List Expr}{scope:Scope}{pos:Pos}{it acc:Value}{env:Env} (I:Nat->Shared->Prop)
  (turn:∀ n s,I n s->t6 prog w A elt tg ifs it acc env (notedBy (model prog w) A env fun e=>R (.error e)) (R (.ok .next)) (fun s'=>∃ m,m < n/\I m s') s) (n:Nat) (h:I n s) :
  codeAny (model prog w) A (.compLoop (.ListComp elt [⟨tg,iter,ifs,0⟩] scope pos) 0 it acc env) R s:=by
 apply codeAny_loop rfl I _ n h
 intro k s1 h1
 change wpAny _ A ((compTurn _ 0 it acc env).onRaise (fun x=>do noteFrame x env; theTreesLotGoes x)) _ _ s1
 apply wpAny_noted
 rw [compTurn_list]
 have t:=turn k s1 h1
 unfold t6 at t
 apply aQ5
 apply wpAny_standAt
 apply aQ5
 refine aX3 t (fun r s2 h2=>?_) fun _ _ z=>z
 cases r with
 | none=>exact aQ9 h2
 | some v=>
  apply aQ5
  refine aX3 h2 (fun _ s3 h3=>?_) fun _ _ z=>z
  apply aQ5
  refine aX3 h3 (fun _ s4 h4=>?_) fun _ _ z=>z
  apply aQ5
  refine aX3 h4 (fun ok s5 h5=>?_) fun _ _ z=>z
  cases ok with
  | false=>exact aQ9 ⟨rfl,h5⟩
  | true=>
   apply aQ5
   apply aQ5
   refine aX3 h5 (fun x s6 h6=>?_) fun _ _ z=>z
   apply aQ5
   exact aX3 h6 (fun _ s7 h7=>aQ9 (aQ9 ⟨rfl,h7⟩)) fun _ _ z=>z
end
def mK (g:TG) (tc:TT) (te:TE) (σ0:St) (J:It) (D:Addr) (Q:VK) (W:Nat->Nat->List V->Hp->Prop):Prop:=
 ∀ i m acc H',W i m acc H'->H' D=some (.lst acc)/\((J.stop i H'/\Q (.ref D) H') ∨ (J.go i H'/\∀ x H2,J.yld i H' x H2->g x σ0 H2 fun σ2 H3=>Wk σ0 σ2/\tc σ2 H3 fun b H4=>
  if b=true then te σ2 H4 fun v H5=>H5 D=some (.lst acc)/\acc.length < sizeLine/\∃ m',m' < m/\W (i+1) m' (acc ++ [v]) (upd H5 D (.lst (acc ++ [v]))) else ∃ m',m' < m/\W (i+1) m' acc H4))
def yN (wi:TI) (fr:List (Option Nat)) (g:TG) (tc:TT) (te:TE):TE:=fun σ H Q=>wi σ H fun J H1=>∀ D,H1 D=none->
 ∃ W:Nat->Nat->List V->Hp->Prop,(∃ m,W 0 m [] (upd H1 D (.lst [])))/\mK g tc te (eN fr σ) J D Q W
section
variable {M : Model} {A : Around} {E : Value → Shared → Prop} {s : Shared}
theorem ai0 {scope:Scope}{globals:Addr}{cl:List (Str × Addr)}{qual:Str}{func:Option Addr}{code:Value}{builtins:Addr}{outer:Env}{Q:Env->Shared->Prop}
  (hQ:∀ h',h'.Ns s.heap.objs.size (fun _=>none)->(∀ b o,s.heap.get? b=some o->h'.get? b=some o)->CellsOk h' (s.heap.objs.size+1) (cellsFrom (s.heap.objs.size+1) scope.names [])->
   Q (newEnv scope s.heap.objs.size globals (cellsFrom (s.heap.objs.size+1) scope.names cl) qual func code (some outer) builtins) { s with heap:=h' }) :
  wpAny M A (newFunctionEnv scope globals cl [] qual func code (some outer) builtins) Q E s:=by
 simp only [newFunctionEnv,Option.isSome_some,if_true]
 refine aQ5 (wpAny_alloc ?_)
 refine aQ5 (wpAny_layCells _ (fun name kind cells=>by cases hkc:kind == NameKind.cell <;> simp [hkc]) _ _ _ _ ?_)
 have ok:=cellsFrom_ok scope.names (s.heap.push { cls:=.type "dict",data:=.dict #[] }) (s.heap.objs.size+1) [] ⟨fun _ _ hm=>(nomatch hm),List.Pairwise.nil⟩ (by rw [ba4]; exact aR0 _)
 rw [ba4] at ok
 rw [show ({ s with heap:=s.heap.push { cls:=.type "dict",data:=.dict #[] } }:Shared).heap.objs.size=s.heap.objs.size+1 from ba4 ..]
 rw [List.forIn_nil]
 refine aQ5 (aQ9 (aQ9 (hQ _ ((Heap.Ns.new s.heap (.type "dict")).keeps (pushCells_keeps _ _)) (fun b o e=>pushCells_keeps _ _ b o (aQ6 _ e)) ok)))
end
section
variable {X : Cx} {pins : List (Addr × Obj)} {σ : St} {H : Hp} {s : Shared} {scope : Scope} {N : List Str} {fr : List (Option Nat)} {tg iter elt : Expr} {ifs : List Expr} {pos : Pos} {wi : TI} {g : TG} {tc : TT} {te : TE}
structure mL (X:Cx) (scope:Scope) (N:List Str) (tg:Expr) (ifs:List Expr) (elt:Expr) (s:Shared) (H:Hp) (g:TG) (tc:TT) (te:TE):Prop where
 tg:∀ (C:Addr) (fp:List Addr),PG (bL X scope N s H C fp fun _ _=>False) tg g
 ifs:∀ (C:Addr) (fp:List Addr),iU (bL X scope N s H C fp fun _ _=>False) ifs tc
 elt:∀ (C:Addr) (fp:List Addr),PE (bL X scope N s H C fp fun _ _=>False) elt te
structure oM (X:Cx) (scope:Scope) (N:List Str) (tg:Expr) (ifs:List Expr) (elt:Expr) (g:TG) (tc:TT) (te:TE):Prop where
 tg:∀ (s:Shared) (H:Hp) (C:Addr) (fp:List Addr),PG (bL X scope N s H C fp fun _ _=>False) tg g
 ifs:∀ (s:Shared) (H:Hp) (C:Addr) (fp:List Addr),iU (bL X scope N s H C fp fun _ _=>False) ifs tc
 elt:∀ (s:Shared) (H:Hp) (C:Addr) (fp:List Addr),PE (bL X scope N s H C fp fun _ _=>False) elt te
theorem oM.at (B:oM X scope N tg ifs elt g tc te) (s:Shared) (H:Hp):mL X scope N tg ifs elt s H g tc te:=⟨B.tg s H,B.ifs s H,B.elt s H⟩
theorem ai1 {C:Addr}{fp:List Addr}{E:Value->Shared->Prop}{pins':List (Addr × Obj)}{σ':St}{H':Hp}{s':Shared} (I:a8 X pins σ H s) (hf:∀ b ∈ fp,fQ X pins H b) (I':a8 (bL X scope N s H C fp E) pins' σ' H' s'):a8 X pins σ H' s':=
 I.call' (ch:=fp) I'.os I'.base I'.hok I'.bare fun b hb=>⟨(hf b hb).2.2.2.1,(hf b hb).2.1,(hf b hb).2.2.2.2.1,(hf b hb).2.2.2.2.2⟩
theorem t7 {Rr:Value->Addr->Result->Shared->Prop}{J:It}{fp:List Addr}{it:Addr}{tn:Nat->Heap->Prop}{Q:VK}
  (hc:X.calm=true) (S:cV X scope N fr) (B:mL X scope N tg ifs elt s H g tc te) (I:a8 X pins σ H s) (T:gP X.prog X.w X.K tg J fp it tn) (hst:tn 0 s.heap) (hf:∀ b ∈ fp,fQ X pins H b)
  (h:∀ D,H D=none->∃ W:Nat->Nat->List V->Hp->Prop,(∃ m,W 0 m [] (upd H D (.lst [])))/\mK g tc te (eN fr σ) J D Q W)
  (hend:∀ (D C:Addr) (s':Shared) (H':Hp) (m:Str->Option Value),s.heap.objs.size<=C->s.heap.objs.size<=D->a8 X pins σ H' s'->s'.heap.Ns C m->H' C=none->Q (.ref D) H'->Rr (.ref D) C (.ok .next) s') :
  wpAny (model X.prog X.w) X.A (newList []) (fun acc s₃=>wpAny (model X.prog X.w) X.A (newFunctionEnv scope X.env.globals (dH X.env.cells scope.names []) [] X.env.qual none .none (some X.env)) (fun cenv s₄=>
   codeAny (model X.prog X.w) X.A (.compStart (.ListComp elt [⟨tg,iter,ifs,0⟩] scope pos) 0 (.ref it) acc { cenv with scope:=relabel scope X.env }) (Rr acc cenv.locals) s₄) X.xe s₃) X.xe s:=by
 refine aX6 (ai0 (fun h₁ hns₁ keep₁ hco₁=>?_))
 dsimp only at hns₁ keep₁ hco₁ ⊢
 generalize hH2:s.heap.push { cls:=.type "list",dict:=none,data:=.seq ([]:List Value).toArray }=H2 at hns₁ keep₁ hco₁ ⊢
 have hC:H2.objs.size=s.heap.objs.size+1:=by rw [<- hH2,ba4]
 have hDC:s.heap.objs.size < H2.objs.size:=by rw [hC]; exact Nat.lt_succ_self _
 have hCle:s.heap.objs.size<=H2.objs.size:=by rw [hC]; exact Nat.le_succ _
 have old:∀ b o,s.heap.get? b=some o->h₁.get? b=some o:=fun b o e=>keep₁ b o (hH2 ▸ aQ6 _ e)
 have hacc:h₁.get? s.heap.objs.size=some { cls:=.type "list",data:=.seq #[] 0 }:=keep₁ _ _ (hH2 ▸ aS1 _ rfl)
 have hfl:∀ b ∈ fp,b < s.heap.objs.size:=fun b hb=>by obtain ⟨o,e,_⟩:=T.obj _ _ hst b hb; exact aR8 e
 obtain ⟨W,⟨m0,w0⟩,turn⟩:=h s.heap.objs.size (I.hok.fresh (aR0 _))
 have st1:tn 0 h₁:=T.keep _ _ _ hst fun b _ o e=>old b o e
 have fr0:∀ b ∈ fp,upd H s.heap.objs.size (.lst []) b=none:=fun b hb=>by rw [aP (aT3 (hfl b hb))]; exact (hf b hb).1
 have stat:∀ {H':Hp},(∀ b ∈ fp,H' b=none)->∀ b ∈ fp,fQ (bL X scope N s H H2.objs.size fp fun _ _=>False) [] H' b:=fun {H'} hn b hb=>by
  have f:=hf b hb
  refine⟨hn b hb,aT3 (aR9 (hfl b hb) hCle),fun z=>?_,.inl hb,fun x c e=>(jO e).elim (fun z=>aX9 (Nat.lt_trans (aR9 (hfl b hb) hCle) (hco₁.empty x c z).2)) fun z=>f.2.2.2.2.1 x c (oG scope.names [] (S.cells I) (fun _ _ z=>by simp at z) z.2),fun p hp=>absurd (show p ∈ ([]:List (Addr × Obj)) from hp) (by simp)⟩
  rcases aR2.mp (I.stkSub b z) with e | e
  ·exact f.2.1 e
  ·exact f.2.2.1 e
 generalize hX:bL X scope N s H H2.objs.size fp (fun _ _=>False)=Y at stat
 have I0:a8 Y [] (eN fr σ) (upd H s.heap.objs.size (.lst [])) { s with heap:=h₁ }:=hX ▸ ah8 S I hf hfl (aR0 _) hCle hDC old hns₁ hacc hco₁
 have bt:PG Y tg g:=hX ▸ B.tg H2.objs.size fp
 have bi:iU Y ifs tc:=hX ▸ B.ifs H2.objs.size fp
 have be:PE Y elt te:=hX ▸ B.elt H2.objs.size fp
 have eP:Y.prog=X.prog:=by rw [<- hX]; rfl
 have ew:Y.w=X.w:=by rw [<- hX]; rfl
 have eK:Y.K=X.K:=by rw [<- hX]; rfl
 have eA:Y.A=X.A:=by rw [<- hX]; rfl
 have eE:Y.env=compEnvC scope (fU X scope H2.objs.size) H2.objs.size X.env:=by rw [<- hX]; rfl
 have eX:Y.xe=fun _ _=>False:=by rw [<- hX]; rfl
 have ec:Y.calm=true:=by rw [<- hX]; exact hc
 have never:∀ {E:Value->Shared->Prop} (e:Value) (s':Shared),Y.xe e s'->E e s':=fun {E} e s' z=>by rw [eX] at z; exact z.elim
 have out:∀ {pins' σ' H' s'},a8 Y pins' σ' H' s'->a8 X pins σ H' s':=fun {_ _ _ _} I'=>ai1 (C:=H2.objs.size) (E:=fun _ _=>False) (scope:=scope) (N:=N) I hf (hX ▸ I')
 have loop:codeAny (model X.prog X.w) X.A (.compLoop (.ListComp elt [⟨tg,iter,ifs,0⟩] scope pos) 0 (.ref it) (.ref s.heap.objs.size) (compEnvC scope (fU X scope H2.objs.size) H2.objs.size X.env))
   (Rr (.ref s.heap.objs.size) H2.objs.size) { s with heap:=h₁ }:=by
  refine ah9 (fun n s'=>∃ i acc H',a8 Y [] (eN fr σ) H' s'/\tn i s'.heap/\(∀ b ∈ fp,H' b=none)/\W i n acc H') ?_ m0 ⟨0,[],_,I0,st1,fr0,w0⟩
  rintro n s3 ⟨i,acc,H3,I3,st3,fr3,w3⟩
  unfold t6
  dsimp only
  obtain ⟨hD3,step⟩:=turn i n acc H3 w3
  rcases step with ⟨stop,qn⟩ | ⟨go,step⟩
  ·have z:=T.done Y eP ew eK ec i [] s3 _ H3 (notedBy (model X.prog X.w) X.A (compEnvC scope (fU X scope H2.objs.size) H2.objs.size X.env) fun e s'=>Rr (.ref s.heap.objs.size) H2.objs.size (.error e) s') I3 (stat fr3) st3 stop
   rw [eA] at z
   refine aL z fun r s4 ⟨hr,I4⟩=>?_
   subst hr
   obtain ⟨m4,hn4,_⟩:=I4.loc
   rw [eE] at hn4
   have f4:=I4.free
   rw [eE] at f4
   exact hend _ _ s4 H3 m4 hCle (aR0 _) (out I4) hn4 f4 qn
  ·have z:=T.item Y eP ew eK ec i [] s3 _ H3 (notedBy (model X.prog X.w) X.A (compEnvC scope (fU X scope H2.objs.size) H2.objs.size X.env) fun e s'=>Rr (.ref s.heap.objs.size) H2.objs.size (.error e) s') I3 (stat fr3) st3 go
   rw [eA] at z
   refine aL z fun r s4 ⟨u,hr,h4⟩=>?_
   subst hr
   refine aL h4 fun _ s5 ⟨x,H5,I5,r5,y5,st5,fr5⟩=>?_
   have I5':=I5.pinned (stat fr5) (T.obj _ _ st5)
   have q1:=bt _ s5 _ H5 x u _ I5' r5 (step x H5 y5)
   rw [eP,ew,eA,eE] at q1
   refine aX3 q1 (fun _ s6 ⟨σ6,H6,I6,wk,q6⟩=>?_) never
   have q2:=bi _ s6 σ6 H6 _ I6 q6
   rw [eP,ew,eA,eE] at q2
   refine aX3 q2 (fun b s7 ⟨H7,I7,q7⟩=>?_) never
   have again:∀ {H8:Hp}{s8:Shared}{acc':List V},a8 Y ([] ++ m8 fp s5.heap) σ6 H8 s8->(∃ m',m' < n/\W (i+1) m' acc' H8)->∃ m,m < n/\∃ i acc H',a8 Y [] (eN fr σ) H' s8/\tn i s8.heap/\(∀ b ∈ fp,H' b=none)/\W i m acc H':=fun {H8 s8 acc'} I8 n8=>by
    obtain ⟨m',hm,w8⟩:=n8
    refine⟨m',hm,i+1,acc',H8,(I8.unpinned).weak wk.1 wk.2,T.keep _ _ _ st5 fun b hb o e=>(I8.pin (b,o) (aU7 _ (aU7 _ (o9 hb e)))).1,fun b hb=>?_,w8⟩
    obtain ⟨o,e,d⟩:=T.obj _ _ st5 b hb
    exact (I8.pin (b,o) (aU7 _ (aU7 _ (o9 hb e)))).2.1
   cases b with
   | false=>
    rw [if_neg aS6] at q7 ⊢
    exact again I7 q7
   | true=>
    rw [if_pos rfl] at q7 ⊢
    have q3:=be _ s7 σ6 H7 _ I7 q7
    rw [eP,ew,eA,eE] at q3
    refine aX3 q3 (fun v s8 ⟨y,H8,I8,r8,hD8,hz8,q8⟩=>?_) never
    have q4:=mH _ s8 σ6 H8 (.ref s.heap.objs.size) [y] (.ref s.heap.objs.size) [v] (fun _ H9=>∃ m',m' < n/\W (i+1) m' (acc ++ [y]) H9) I8 rfl (.cons r8 .nil) ⟨_,_,_,rfl,rfl,hD8,hz8,q8⟩
    rw [eP,ew,eA] at q4
    exact aX3 q4 (fun _ s9 ⟨_,H9,I9,_,q9⟩=>again I9 q9) never
 exact codeAny_compStart_list loop (T.self _ 0 _ _ _ st1 loop)
end
section
variable {X : Cx} {scope : Scope} {N : List Str} {fr : List (Option Nat)} {tg iter elt : Expr} {ifs : List Expr} {pos : Pos} {wi : TI} {g : TG} {tc : TT} {te : TE}
theorem a8.drop {pins:List (Addr × Obj)}{σ:St}{H H':Hp}{s s':Shared}{C:Addr}{h':Heap} (I0:a8 X pins σ H s) (hC:s.heap.objs.size<=C) {σ':St} (I:a8 X pins σ' H' s') (hn:H' C=none) (sb:Heap.SameBut C s'.heap h'):a8 X pins σ' H' { s' with heap:=h' }:=by
 refine I.turned (t':=s'.toks) (it:=C) (fun b o hb e=>(sb.2 b hb).trans e) hn (aX9 (aR9 I0.lt hC)) (.inr (aT4 I0.sz hC)) (fun x c e z=>?_) fun p hp z=>?_
 ·obtain ⟨v,q⟩:=I0.cell x c e
  exact absurd (aR9 q.lt (by rw [z]; exact hC)) (aW1 _)
 ·exact absurd (aR9 (aR8 (I0.pin p hp).1) (by rw [z]; exact hC)) (aW1 _)
theorem yO (hc:X.calm=true) (S:cV X scope N fr) (hi:PI X tg iter wi) (B:oM X scope N tg ifs elt g tc te)
  (hs:∀ x,foldedSetIterable iter X.env x=pure x:=by intro _; rfl):PE X (.ListComp elt [⟨tg,iter,ifs,0⟩] scope pos) (yN wi fr g tc te):=by
 intro pins s σ H Q I h
 rw [eval_ListComp]
 refine wpAny_comprehension_free (use:=none) rfl hs (sY (S.cells I)) S.kind S.names (aL (hi pins s σ H _ I h) fun v s1 h1=>aL h1 fun itv s2 h2=>?_)
 obtain ⟨it,fp,tn,J,H2,e,I2,T,st2,f2,hW⟩:=h2
 subst e
 refine t7 (Rr:=fun acc C=>compPost (model X.prog X.w) X.A X.xe none (EP X pins σ Q) acc C) hc S (B.at _ _) I2 T st2 f2 hW ?_
 intro D C s' H' m hC hD I' hns hHC q
 exact⟨m,hns,fun h' sb=>⟨.ref D,H',I2.drop hC I' hHC sb,rfl,q⟩⟩
theorem ai2 {i:Nat}{x:Str}{px spos:Pos} (hc:X.calm=true) (S:cV X scope N fr) (hi:PI X tg iter wi) (B:oM X scope N tg ifs elt g tc te) (hN:X.N.Nodup) (hix:X.N[i]? = some x) (hx:X.env.scope.names.lookup x=some .local)
  (hsw:swapsWith (.ListComp elt [⟨tg,iter,ifs,0⟩] scope pos) (some (.Name x px)) spos.line X.env=pure true) (hs:∀ x,foldedSetIterable iter X.env x=pure x:=by intro _; rfl) :
  PS X (.Assign [.Name x px] (.ListComp elt [⟨tg,iter,ifs,0⟩] scope pos) spos) (kO (yN wi fr g tc te) (cR i)):=by
 intro pins s σ H D I h
 rw [exec_Assign_Name_used _ _ _ _ hsw]
 refine aQ5 (wpAny_standAt (aQ5 ?_))
 show wpAny _ _ (do let _ <- comprehension (.ListComp elt [⟨tg,iter,ifs,0⟩] scope pos) scope X.env _ (newList []) false (eval iter X.env) (some (assign (.Name x px) X.env))) _ _ s
 refine aQ5 (aX3 (wpAny_comprehension_free (Q:=fun _ s'=>SP X pins D .next s') (use:=some (assign (.Name x px) X.env)) rfl hs (sY (S.cells I)) S.kind S.names (aL (hi pins s σ H _ I h) fun v s1 h1=>aL h1 fun itv s2 h2=>?_))
  (fun _ s' hq=>aQ9 (aQ9 hq)) fun _ _ e=>e)
 obtain ⟨it,fp,tn,J,H2,e,I2,T,st2,f2,hW⟩:=h2
 subst e
 refine t7 (Rr:=fun acc C=>compPost (model X.prog X.w) X.A X.xe (some (assign (.Name x px) X.env)) (fun _ s'=>SP X pins D .next s') acc C) hc S (B.at _ _) I2 T st2 f2 hW ?_
 intro D' C s' H' m hC hD I' hns hHC q
 refine wpAny_assign_Name (w4 I' hN hix (.inl hx) (v:=.ref D') rfl (fun s'' I'' sb=>?_) (.inr hx))
 obtain ⟨a,sb,ha⟩:=sb
 have hCa:C ≠ a:=by
  rcases ha with z | z
  ·rw [z]; exact aX9 (aR9 I2.lt hC)
  ·intro e; subst e
   obtain ⟨v,q⟩:=I2.cell x _ z
   exact absurd (aR9 q.lt hC) (aW1 _)
 exact⟨m,hns.sameBut sb hCa,fun h' sb'=>⟨_,H',I2.drop hC I'' hHC sb',q⟩⟩
variable {gh : Hp → TG} {tch : Hp → TT} {teh : Hp → TE}
def yP (wi:TI) (fr:List (Option Nat)) (gh:Hp->TG) (tch:Hp->TT) (teh:Hp->TE):TE:=fun σ H Q=>wi σ H fun J H1=>∀ D,H1 D=none->
 ∃ W:Nat->Nat->List V->Hp->Prop,(∃ m,W 0 m [] (upd H1 D (.lst [])))/\mK (gh H1) (tch H1) (teh H1) (eN fr σ) J D Q W
theorem oN (hc:X.calm=true) (S:cV X scope N fr) (hi:PI X tg iter wi) (B:∀ (s:Shared) (H:Hp),mL X scope N tg ifs elt s H (gh H) (tch H) (teh H))
  (hs:∀ x,foldedSetIterable iter X.env x=pure x:=by intro _; rfl):PE X (.ListComp elt [⟨tg,iter,ifs,0⟩] scope pos) (yP wi fr gh tch teh):=by
 intro pins s σ H Q I h
 rw [eval_ListComp]
 refine wpAny_comprehension_free (use:=none) rfl hs (sY (S.cells I)) S.kind S.names (aL (hi pins s σ H _ I h) fun v s1 h1=>aL h1 fun itv s2 h2=>?_)
 obtain ⟨it,fp,tn,J,H2,e,I2,T,st2,f2,hW⟩:=h2
 subst e
 refine t7 (Rr:=fun acc C=>compPost (model X.prog X.w) X.A X.xe none (EP X pins σ Q) acc C) hc S (B _ _) I2 T st2 f2 hW ?_
 intro D C s' H' m hC hD I' hns hHC q
 exact⟨m,hns,fun h' sb=>⟨.ref D,H',I2.drop hC I' hHC sb,rfl,q⟩⟩
end
theorem b7 {H:Hp}{p:Addr} (h:H p=none) (o:HO):aC H (upd H p o):=fun b u q=>by rw [aP (bX q h)]; exact q
theorem aC.tup {K:PySem.W.Frag}{H H':Hp}{a:Addr}{xs:List V} (e:aC H H') (h:aJ K H a xs):aJ K H' a xs:=by
 rcases h with (h | ⟨o,h⟩) | h
 ·exact .inl (.inl (e _ _ h))
 ·exact .inl (.inr ⟨o,e _ _ h⟩)
 ·exact .inr h
structure yQ (H:Hp) (J:It) (xs:List V):Prop where
 go:∀ i H',aC H H'->i < xs.length->J.go i H'
 yld:∀ i H' x H2,aC H H'->J.yld i H' x H2->i < xs.length->xs[i]? = some x/\H2=H'
 stop:∀ H',aC H H'->J.stop xs.length H'
theorem ai3 {K:PySem.W.Frag}{H:Hp}{a:Addr}{xs:List V} (h:aJ K H a xs):yQ H (iQ K a) xs:=
 ⟨fun i H' e hi=>⟨xs,xs[i],e.tup h,by simp [hi]⟩,fun i H' x H2 e y hi=>⟨y.2 xs (e.tup h),y.1⟩,fun H' e=>⟨xs,e.tup h,aR0 _⟩⟩
def iC (lo:Int) (n:Nat):List V:=(List.range n).map fun (i:Nat)=>V.int (lo+(i:Int))
theorem t8 (lo:Int) (n:Nat):(iC lo n).length=n:=by unfold iC; rw [aR1,ba5]
def CW (H1:Hp) (D:Addr) (n:Nat) (Pv:Nat->List V->Hp->Prop):Nat->Nat->List V->Hp->Prop:=fun i m acc H'=>m=n - i/\i<=n/\acc.length<=i/\aC H1 H'/\H' D=some (.lst acc)/\Pv i acc H'
def t9 (H1:Hp) (D:Addr) (n:Nat) (Pv:Nat->List V->Hp->Prop) (i:Nat) (acc:List V) (v:V) (H5:Hp):Prop:=H5 D=some (.lst acc)/\acc.length < sizeLine/\∃ m',m' < n - i/\CW H1 D n Pv (i+1) m' (acc ++ [v]) (upd H5 D (.lst (acc ++ [v])))
def yR (H1:Hp) (D:Addr) (n:Nat) (Pv:Nat->List V->Hp->Prop) (i:Nat) (acc:List V) (H4:Hp):Prop:=∃ m',m' < n - i/\CW H1 D n Pv (i+1) m' acc H4
structure oO (H1:Hp) (D:Addr) (n i:Nat) (acc:List V) (H':Hp):Prop where
 lt:i < n
 few:acc.length<=i
 sz:n<=sizeLine
 same:aC H1 H'
 new:H1 D=none
 acc:H' D=some (.lst acc)
theorem oO.yes {H1:Hp}{D:Addr}{n i:Nat}{acc:List V}{H' H5:Hp}{Pv:Nat->List V->Hp->Prop}{v:V} (c:oO H1 D n i acc H') (s:aC H' H5) (p:Pv (i+1) (acc ++ [v]) (upd H5 D (.lst (acc ++ [v])))):t9 H1 D n Pv i acc v H5:=by
 refine⟨s _ _ c.acc,Nat.lt_of_le_of_lt c.few (aR9 c.lt c.sz),_,?_,rfl,c.lt,?_,fun b o e=>?_,b8,p⟩
 ·have:=c.lt; omega
 ·rw [aR3,aZ2]; exact Nat.succ_le_succ c.few
 ·rw [aP (bX e c.new)]; exact s _ _ (c.same _ _ e)
theorem ai4 {H1:Hp}{J:It}{xs:List V}{g:TG}{tc:TT}{te:TE}{σ0:St}{Q:VK} (O:yQ H1 J xs) (Pv:Nat->List V->Hp->Prop) (hn:xs.length<=sizeLine)
  (h0:∀ D,H1 D=none->Pv 0 [] (upd H1 D (.lst [])))
  (hs:∀ i x acc D H',xs[i]? = some x->oO H1 D xs.length i acc H'->Pv i acc H'->g x σ0 H' fun σ2 H3=>Wk σ0 σ2/\tc σ2 H3 fun b H4=>
   if b=true then te σ2 H4 fun v H5=>t9 H1 D xs.length Pv i acc v H5 else yR H1 D xs.length Pv i acc H4)
  (hd:∀ D acc H',H1 D=none->aC H1 H'->H' D=some (.lst acc)->acc.length<=xs.length->Pv xs.length acc H'->Q (.ref D) H') :
  ∀ D,H1 D=none->∃ W:Nat->Nat->List V->Hp->Prop,(∃ m,W 0 m [] (upd H1 D (.lst [])))/\mK g tc te σ0 J D Q W:=by
 intro D hD
 refine⟨CW H1 D xs.length Pv,⟨xs.length,rfl,aT7 _,aR0 _,b7 hD _,b8,h0 D hD⟩,?_⟩
 rintro i m acc H' ⟨rfl,hi,ha,sm,hDa,p⟩
 refine⟨hDa,?_⟩
 by_cases hlt:i < xs.length
 ·refine .inr ⟨O.go i H' sm hlt,fun x H2 y=>?_⟩
  obtain ⟨hx,e⟩:=O.yld i H' x H2 sm y hlt
  subst e
  exact hs i x acc D H2 hx ⟨hlt,ha,hn,sm,hD,hDa⟩ p
 ·have e:i=xs.length:=by omega
  subst e
  exact .inl ⟨O.stop H' sm,hd D acc H' hD sm hDa ha p⟩
end L2
namespace Srt
open PySem PySem.W PyProof.Rows
abbrev G (p:Array Nat) (i:Nat):Nat:=p.getD i 0
theorem mM {p q:Array Nat}{i j:Nat} (h:p[i]? = q[j]?):G p i=G q j:=by
 unfold G; rw [ba0,ba0,h]
theorem tD {p:Array Nat}{i j:Nat} (hj:j<=p.size) (k:Nat):G (kas_rev p i j) k=if i<=k/\k < j then G p (i+j - 1 - k) else G p k:=by
 have e:=getElem?_mirror_all (i:=i) hj k
 unfold kas_rev
 by_cases h1:i<=k/\k < j
 ·rw [if_pos h1] at e ⊢; exact mM e
 ·rw [if_neg h1] at e ⊢; exact mM e
theorem ai5 {p:Array Nat}{src d:Nat} (hs:src < p.size) (hd:d<=src) (k:Nat):G (bubble p src d) k=if k=src - d then G p src else if src - d < k/\k<=src then G p (k - 1) else G p k:=by
 have e:=getElem?_bubble hs d hd k
 by_cases h1:k=src - d
 ·rw [if_pos h1] at e ⊢; exact mM e
 ·rw [if_neg h1] at e ⊢
  by_cases h2:src - d < k/\k<=src
  ·rw [if_pos h2] at e ⊢; exact mM e
  ·rw [if_neg h2] at e ⊢; exact mM e
def PP (n:Nat) (p:Array Nat):Prop:=p.toList.Perm (List.range n)
theorem PP.size {n:Nat}{p:Array Nat} (h:PP n p):p.size=n:=by
 have:=h.length_eq
 rw [ba5] at this
 simpa using this
theorem PP.lt {n:Nat}{p:Array Nat} (h:PP n p) {k:Nat} (hk:k < n):G p k < n:=by
 have hs:=h.size
 have hk':k < p.toList.length:=by simpa [hs] using hk
 have e:G p k=p.toList[k]:=by
  unfold G; rw [ba0]; simp [hs,hk]
 have m:p.toList[k] ∈ p.toList:=aZ8 hk'
 rw [e]
 exact bc1.mp (h.mem_iff.mp m)
theorem PP.of {n:Nat}{p q:Array Nat} (h:PP n p) (e:q.Perm p):PP n q:=(Array.perm_iff_toList_perm.mp e).trans h
theorem PP.rev {n:Nat}{p:Array Nat} (h:PP n p) (i j:Nat):PP n (kas_rev p i j):=h.of (mirror_perm _ _ _ _)
theorem PP.bub {n:Nat}{p:Array Nat} (h:PP n p) (i j:Nat):PP n (bubble p i j):=h.of (bubble_perm _ _ _)
structure yS (c:Nat->Nat->Bool):Prop where
 asym:∀ {i j},c i j=true->c j i=false
 ntr:∀ {i j k},c i j=false->c j k=false->c i k=false
section
variable {c : Nat → Nat → Bool} (O : yS c)
def Le (c:Nat->Nat->Bool) (i j:Nat):Prop:=c j i=false
include O
theorem le_refl (i:Nat):Le c i i:=by
 unfold Le
 cases h:c i i with
 | false=>rfl
 | true=>have:=O.asym h; rw [h] at this; exact this
theorem le_trans {i j k:Nat} (h1:Le c i j) (h2:Le c j k):Le c i k:=O.ntr h2 h1
theorem oP {i j:Nat} (h:c i j=true):Le c i j:=O.asym h
omit O
def eO (c:Nat->Nat->Bool) (p:Array Nat) (n:Nat):Prop:=∀ a b,a<=b->b < n->Le c (G p a) (G p b)
def iV (c:Nat->Nat->Bool) (p:Array Nat) (n:Nat):Prop:=∀ a b,a<=b->b < n->Le c (G p b) (G p a)
include O
theorem ai6 {p:Array Nat}{n:Nat} (h:eO c p n) (h1:1<=n) (hl:Le c (G p (n - 1)) (G p n)):eO c p (n+1):=fun a b hab hb=>by
 by_cases hbn:b < n
 ·exact h a b hab hbn
 ·have e:b=n:=by omega
  subst e
  by_cases han:a=b
  ·subst han; exact le_refl O _
  ·exact le_trans O (h a (b - 1) (by omega) (by omega)) hl
theorem oQ {p:Array Nat}{n:Nat} (h:iV c p n) (h1:1<=n) (hl:Le c (G p n) (G p (n - 1))):iV c p (n+1):=fun a b hab hb=>by
 by_cases hbn:b < n
 ·exact h a b hab hbn
 ·have e:b=n:=by omega
  subst e
  by_cases han:a=b
  ·subst han; exact le_refl O _
  ·exact le_trans O hl (h a (b - 1) (by omega) (by omega))
omit O
def bS {α:Type} (n:Nat) (c:Nat->Nat->Bool) (R:α->Prop):KasT α->Prop
 | .ret a=>R a
 | .ask i j k=>i < n/\j < n/\bS n c R (k (c i j))
theorem bS.mono {α:Type}{n:Nat}{R R':α->Prop} (h:∀ a,R a->R' a):∀ (t:KasT α),bS n c R t->bS n c R' t
 | .ret a,q=>h a q
 | .ask i j k,q=>⟨q.1,q.2.1,bS.mono h (k (c i j)) q.2.2⟩
theorem bS.bind {α β:Type}{n:Nat}{R:α->Prop}{R':β->Prop}{f:α->KasT β} (h:∀ a,R a->bS n c R' (f a)):∀ (t:KasT α),bS n c R t->bS n c R' (t.bind f)
 | .ret a,q=>h a q
 | .ask i j k,q=>⟨q.1,q.2.1,bS.bind h (k (c i j)) q.2.2⟩
theorem bS.run {α:Type}{n:Nat}{R:α->Prop}{I:Shared->Prop}{cmp:Nat->Nat->(Bool->Shared->Prop)->Shared->Prop}{Q:α->Shared->Prop}
  (hc:∀ i j C s,i < n->j < n->I s->(∀ s',I s'->C (c i j) s')->cmp i j C s) (hQ:∀ a s,R a->I s->Q a s):∀ (t:KasT α) (s:Shared),I s->bS n c R t->t.kasWp cmp Q s
 | .ret a,s,hI,q=>hQ a s q hI
 | .ask i j k,s,hI,q=>hc i j _ s q.1 q.2.1 hI fun s' hI'=>bS.run hc hQ (k (c i j)) s' hI' q.2.2
include O
theorem tE {n:Nat}{p:Array Nat} (hp:PP n p):∀ (f m:Nat),1<=m->m+f<=n->eO c p m->bS n c (fun r=>m<=r/\r<=m+f/\eO c p r/\(r < m+f->c (G p r) (G p (r - 1))=true)) (kas_asc p f m)
 | 0,m,_,_,h=>⟨aR0 _,aR0 _,h,fun z=>absurd z (aW1 _)⟩
 | f+1,m,h1,h2,h=>by
  refine⟨hp.lt (by omega),hp.lt (by omega),?_⟩
  by_cases hc:c (p.getD m 0) (p.getD (m - 1) 0)=true
  ·simp only [hc,if_true]
   exact⟨aR0 _,by omega,h,fun _=>hc⟩
  ·have hc':c (p.getD m 0) (p.getD (m - 1) 0)=false:=ba3.mpr hc
   simp only [hc',aS9,aX8]
   refine bS.mono (fun r q=>⟨by omega,by omega,q.2.2.1,fun z=>q.2.2.2 (by omega)⟩) _ (tE hp f (m+1) (by omega) (by omega) (ai6 O h h1 hc'))
omit O
def jP (c:Nat->Nat->Bool) (i j:Nat):Prop:=Le c i j/\Le c j i
include O
theorem tF {p q:Array Nat}{n:Nat} (h:iV c p n) (e:∀ k,k < n->jP c (G q k) (G p k)):iV c q n:=fun a b hab hb=>
 le_trans O (e b hb).1 (le_trans O (h a b hab hb) (e a (by omega)).2)
theorem yT {n m i:Nat}{p:Array Nat} (hp:PP n p) (hm:m<=n) (h:∀ a,i<=a->a < m->jP c (G p a) (G p (m - 1))):∀ k,jP c (G (kas_rev p i m) k) (G p k):=fun k=>by
 rw [tD (by rw [hp.size]; exact hm)]
 by_cases hk:i<=k/\k < m
 ·rw [if_pos hk]
  have h1:=h (i+m - 1 - k) (by omega) (by omega)
  have h2:=h k hk.1 hk.2
  exact⟨le_trans O h1.1 h2.2,le_trans O h2.1 h1.2⟩
 ·rw [if_neg hk]; exact⟨le_refl O _,le_refl O _⟩
omit O
def DI (c:Nat->Nat->Bool) (n:Nat) (p:Array Nat) (m q:Nat):Prop:=PP n p/\1<=m/\m<=n/\iV c p m/\q+1<=m/\∀ a,m - (q+1)<=a->a < m->jP c (G p a) (G p (m - 1))
include O
theorem yU {n m q:Nat}{p:Array Nat} (h:DI c n p m q):PP n (kas_rev p (m - (q+1)) m)/\∀ k,jP c (G (kas_rev p (m - (q+1)) m) k) (G p k):=
 ⟨h.1.rev _ _,yT O h.1 h.2.2.1 h.2.2.2.2.2⟩
theorem oR {n:Nat}:∀ (f:Nat) (p:Array Nat) (m q:Nat),m+f<=n->DI c n p m q->bS n c (fun r=>DI c n r.1 r.2.1 r.2.2) (kas_desc f p m q)
 | 0,p,m,q,_,h=>h
 | f+1,p,m,q,hf,h=>by
  have hp:=h.1
  have h1:=h.2.1
  refine⟨hp.lt (by omega),hp.lt (by omega),?_⟩
  by_cases hc:c (p.getD m 0) (p.getD (m - 1) 0)=true
  ·simp only [hc,if_true]
   have dn:iV c p (m+1):=oQ O h.2.2.2.1 h1 (oP O hc)
   by_cases hq:q > 0
   ·simp only [hq,if_true]
    obtain ⟨pr,er⟩:=yU O h
    refine oR f _ (m+1) 0 (by omega) ⟨pr,by omega,by omega,tF O dn fun k _=>er k,by omega,fun a h1 h2=>?_⟩
    have e:a=m+1 - 1:=by omega
    rw [e]; exact⟨le_refl O _,le_refl O _⟩
   ·simp only [hq,aX8]
    refine oR f p (m+1) 0 (by omega) ⟨hp,by omega,by omega,dn,by omega,fun a h1 h2=>?_⟩
    have e:a=m+1 - 1:=by omega
    rw [e]; exact⟨le_refl O _,le_refl O _⟩
  ·have hc':c (p.getD m 0) (p.getD (m - 1) 0)=false:=ba3.mpr hc
   simp only [hc',aS9,aX8]
   refine⟨hp.lt (by omega),hp.lt (by omega),?_⟩
   by_cases hd:c (p.getD (m - 1) 0) (p.getD m 0)=true
   ·simp only [hd,if_true]
    exact h
   ·have hd':c (p.getD (m - 1) 0) (p.getD m 0)=false:=ba3.mpr hd
    simp only [hd',aS9,aX8]
    have ee:jP c (G p (m - 1)) (G p m):=⟨hc',hd'⟩
    refine oR f p (m+1) (q+1) (by omega) ⟨hp,by omega,by omega,oQ O h.2.2.2.1 h1 ee.2,by have:=h.2.2.2.2.1; omega,fun a h1 h2=>?_⟩
    rw [Nat.add_sub_cancel]
    by_cases ha:a=m
    ·rw [ha]; exact⟨le_refl O _,le_refl O _⟩
    ·have z:=h.2.2.2.2.2 a (by omega) (by omega)
     exact⟨le_trans O z.1 ee.1,le_trans O ee.2 z.2⟩
omit O
def CI (c:Nat->Nat->Bool) (n:Nat) (r:Nat × Array Nat):Prop:=PP n r.2/\1<=r.1/\r.1<=n/\eO c r.2 r.1
include O
theorem yV {n m:Nat}{p:Array Nat} (hp:PP n p) (h1:1<=m) (hm:m<=n) (h:iV c p m):bS n c (CI c n) (kas_tail3 m n p):=by
 have ha:eO c (kas_rev p 0 m) m:=fun a b hab hb=>by
  rw [tD (by rw [hp.size]; exact hm),tD (by rw [hp.size]; exact hm),if_pos ⟨aT7 _,by omega⟩,if_pos ⟨aT7 _,hb⟩]
  exact h _ _ (by omega) (by omega)
 refine bS.bind (R:=fun r=>m<=r/\r<=m+(n - m)/\eO c (kas_rev p 0 m) r/\_) (fun r q=>?_) _ (tE O (hp.rev 0 m) (n - m) m h1 (by omega) ha)
 exact⟨hp.rev _ _,by have:=q.1; omega,by have:=q.2.1; omega,q.2.2.1⟩
theorem yW {n m:Nat}{p:Array Nat} (hp:PP n p) (h1:1<=m) (hm:m+1<=n) (h:iV c p (m+1)):bS n c (CI c n) (kas_descPart m n p):=by
 refine bS.bind (R:=fun r=>DI c n r.1 r.2.1 r.2.2) (fun r q=>?_) _ (oR O (n - (m+1)) p (m+1) 0 (by omega) ⟨hp,by omega,hm,h,by omega,fun a h1 h2=>?_⟩)
 ·by_cases hq:r.2.2 > 0
  ·rw [if_pos hq]
   obtain ⟨pr,er⟩:=yU O q
   exact yV O pr q.2.1 q.2.2.1 (tF O q.2.2.2.1 fun k _=>er k)
  ·rw [if_neg hq]
   exact yV O q.1 q.2.1 q.2.2.1 q.2.2.2.1
 ·have e:a=m+1 - 1:=by omega
  rw [e]; exact⟨le_refl O _,le_refl O _⟩
theorem ai7 {n:Nat}{p:Array Nat} (hp:PP n p) (hn:1<=n):bS n c (CI c n) (kas_count n p):=by
 have a1:eO c p 1:=fun a b hab hb=>by
  have e1:a=0:=by omega
  have e2:b=0:=by omega
  rw [e1,e2]; exact le_refl O _
 refine bS.bind (R:=fun r=>1<=r/\r<=1+(n - 1)/\eO c p r/\(r < 1+(n - 1)->c (G p r) (G p (r - 1))=true)) (fun m q=>?_) _ (tE O hp (n - 1) 1 (aR0 _) (by omega) a1)
 obtain ⟨q1,q2,q3,q4⟩:=q
 by_cases hm:(m == n)=true
 ·rw [if_pos hm]
  exact⟨hp,q1,by omega,q3⟩
 ·rw [if_neg hm]
  have hne:m ≠ n:=by simpa using hm
  have hc:=q4 (by omega)
  by_cases h1:m > 1
  ·rw [if_pos h1]
   refine⟨hp.lt (by omega),hp.lt (by omega),?_⟩
   by_cases hd:c (p.getD 0 0) (p.getD (m - 1) 0)=true
   ·simp only [hd,if_true]
    exact⟨hp,q1,by omega,q3⟩
   ·have hd':c (p.getD 0 0) (p.getD (m - 1) 0)=false:=ba3.mpr hd
    simp only [hd',aS9,aX8]
    have eq:∀ a,0<=a->a < m->jP c (G p a) (G p (m - 1)):=fun a _ ha=>⟨q3 a (m - 1) (by omega) (by omega),le_trans O hd' (q3 0 a (aT7 _) ha)⟩
    have er:=yT O hp (by omega:m<=n) eq
    refine yW O (hp.rev 0 m) q1 (by omega) (tF O (p:=p) ?_ fun k _=>er k)
    refine oQ O (fun a b hab hb=>?_) q1 (oP O hc)
    exact le_trans O (eq b (aT7 _) hb).1 (eq a (aT7 _) (by omega)).2
  ·rw [if_neg h1]
   have e:m=1:=by omega
   subst e
   refine yW O hp (aR0 _) (by omega) (oQ O (fun a b hab hb=>?_) (aR0 _) (oP O hc))
   have e1:a=0:=by omega
   have e2:b=0:=by omega
   rw [e1,e2]; exact le_refl O _
theorem tG {n k:Nat}{p:Array Nat} (hp:PP n p) (hk:k < n) (ha:eO c p k):∀ (f l r:Nat),l<=r->r<=k->r - l<=f->(∀ a,a < l->Le c (G p a) (G p k))->(∀ a,r<=a->a < k->Le c (G p k) (G p a))->
  bS n c (fun l=>l<=k/\(∀ a,a < l->Le c (G p a) (G p k))/\∀ a,l<=a->a < k->Le c (G p k) (G p a)) (kas_place p k f l r)
 | 0,l,r,h1,h2,h3,hl,hr=>⟨by omega,hl,fun a h4 h5=>hr a (by omega) h5⟩
 | f+1,l,r,h1,h2,h3,hl,hr=>by
  unfold kas_place
  by_cases hlr:l >= r
  ·rw [if_pos hlr]
   exact⟨by omega,hl,fun a h4 h5=>hr a (by omega) h5⟩
  ·rw [if_neg hlr]
   refine⟨hp.lt hk,hp.lt (by omega),?_⟩
   by_cases hc:c (p.getD k 0) (p.getD ((l+r) / 2) 0)=true
   ·simp only [hc,if_true]
    exact tG hp hk ha f l ((l+r) / 2) (by omega) (by omega) (by omega) hl fun a h4 h5=>le_trans O (oP O hc) (ha _ _ h4 h5)
   ·have hc':c (p.getD k 0) (p.getD ((l+r) / 2) 0)=false:=ba3.mpr hc
    simp only [hc',aS9,aX8]
    exact tG hp hk ha f ((l+r) / 2+1) r (by omega) h2 (by omega) (fun a h4=>le_trans O (ha a ((l+r) / 2) (by omega) (by omega)) hc') hr
theorem yX {n:Nat}:∀ (f:Nat) (p:Array Nat) (k:Nat),PP n p->k+f<=n->eO c p k->bS n c (fun q=>PP n q/\eO c q (k+f)) (kas_bin f p k)
 | 0,p,k,hp,_,h=>⟨hp,h⟩
 | f+1,p,k,hp,hk,h=>by
  refine bS.bind (R:=fun l=>l<=k/\(∀ a,a < l->Le c (G p a) (G p k))/\∀ a,l<=a->a < k->Le c (G p k) (G p a)) (fun l q=>?_) _ (tG O hp (by omega) h k 0 k (aT7 _) (aR0 _) (by omega) (fun a z=>absurd z (Nat.not_lt_zero _)) fun a h1 h2=>absurd h2 (by omega))
  obtain ⟨q1,q2,q3⟩:=q
  have e:∀ a,G (bubble p k (k - l)) a=if a=l then G p k else if l < a/\a<=k then G p (a - 1) else G p a:=fun a=>by
   rw [ai5 (by rw [hp.size]; omega) (by omega),show k - (k - l)=l by omega]
  refine bS.mono (fun r z=>⟨z.1,by rw [show k+(f+1)=k+1+f by omega]; exact z.2⟩) _ (yX f _ (k+1) (hp.bub _ _) (by omega) fun a b hab hb=>?_)
  rw [e,e]
  by_cases ha:a=l
  ·rw [if_pos ha]
   by_cases hb':b=l
   ·rw [if_pos hb']; exact le_refl O _
   ·rw [if_neg hb',if_pos (by omega)]; exact q3 _ (by omega) (by omega)
  ·rw [if_neg ha]
   by_cases ha2:l < a/\a<=k
   ·rw [if_pos ha2,if_neg (by omega),if_pos (by omega)]
    exact h _ _ (by omega) (by omega)
   ·rw [if_neg ha2]
    by_cases hb':b=l
    ·rw [if_pos hb']; exact q2 a (by omega)
    ·rw [if_neg hb']
     by_cases hb2:l < b/\b<=k
     ·rw [if_pos hb2]; exact h _ _ (by omega) (by omega)
     ·rw [if_neg hb2]; exact h _ _ hab (by omega)
theorem ai8 {n:Nat} (hn:1<=n):bS n c (fun q=>PP n q/\eO c q n) (kas_sort n):=by
 have hp:PP n (List.toArray (List.range n)):=by unfold PP; simp
 refine bS.bind (R:=CI c n) (fun r q=>?_) _ (ai7 O hp hn)
 obtain ⟨q1,q2,q3,q4⟩:=q
 by_cases h:r.1 < n
 ·rw [if_pos h]
  have e:max r.1 1=r.1:=by omega
  rw [e]
  exact bS.mono (fun p z=>⟨z.1,by rw [show r.1+(n - r.1)=n by omega] at z; exact z.2⟩) _ (yX O (n - r.1) r.2 r.1 q1 (by omega) q4)
 ·rw [if_neg h]
  have e:r.1=n:=by omega
  exact⟨q1,by rw [e] at q4; exact q4⟩
end
end Srt
namespace L2
open PySem PySem.Spec PyProof.Rows
theorem bP.there {P:Program}{w:World}{H:Hp}{h:Heap}{a:Addr}{o:HO} (x:bP P w H h a o):∃ u,h.get? a=some u:=by
 cases o with
 | lst xs=>obtain ⟨_,_,_,_,e⟩:=x; exact⟨_,e⟩
 | tup xs=>obtain ⟨_,_,_,o,e,_⟩:=x; exact⟨_,e⟩
 | dK kvs=>obtain ⟨_,_,_,_,o,_,_,e,_⟩:=x; exact⟨_,e⟩
 | dT kvs=>obtain ⟨_,_,_,_,o,_,_,e,_⟩:=x; exact⟨_,e⟩
 | set S n=>obtain ⟨o,_,_,_,e,_⟩:=x; exact⟨_,e⟩
 | ins C dx fs=>obtain ⟨_,_,_,e,_⟩:=x; exact⟨_,e⟩
 | own y=>exact x
 | xd fs=>obtain ⟨_,⟨_,_,_,e,_⟩,_⟩:=x; exact⟨_,e⟩
 | rng lo hi=>obtain ⟨_,_,_,e⟩:=x; exact⟨_,e⟩
 | frz ob u=>obtain ⟨e,_⟩:=x; exact⟨_,e⟩
 | tbl ps=>exact⟨_,(show h.get? a=some _ from x)⟩
 | met f y=>exact⟨_,(show h.get? a=some _ from x)⟩
 | ext φ=>obtain ⟨_,z,_⟩:=x; exact z
section
variable {X : Cx} {pins : List (Addr × Obj)} {σ : St} {H : Hp} {s : Shared} {h' : Heap} {a : Addr} {o : HO} {t' : Nat}
theorem a8.laidF (I:a8 X pins σ H s) (hn:s.heap.get? a=none) (k:∀ b u,b ≠ X.env.locals->s.heap.get? b=some u->h'.get? b=some u) (ns:∀ m,s.heap.Ns X.env.locals m->h'.Ns X.env.locals m)
  (new:bP X.prog X.w (upd H a o) h' a o):H a=none/\a8 X pins σ (upd H a o) { s with heap:=h',toks:=t' }:=by
 have hHn:H a=none:=by
  cases q:H a with
  | none=>rfl
  | some u=>obtain ⟨z,e⟩:=(I.hok a u q).there; rw [hn] at e; cases e
 have ne:∀ b u,s.heap.get? b=some u->b ≠ a:=fun b u e z=>by rw [z,hn] at e; cases e
 have hL:=I.free
 refine⟨hHn,I.step (g':=s.gens) (d':=s.drawn) (ch:=[]) (fun _ z=>nomatch z) (fun b o' h1 _ _ e _=>k b o' h1 e) (fun b o' h1 _ _ e _=>⟨o'.slots,k b o' h1 e⟩) (fun b o' _ e n=>by rw [aP (ne b o' e)]; exact n) (fun b o' _ e=>?_)
  (fun b xs q=>by rw [aP (bX q hHn)]; exact q) (fun b u xs q=>by rw [aP (bX q hHn)]; exact q) (fun b ps q=>⟨#[],by rw [aP (bX q hHn),q]; simp⟩) ns (fun b u q=>?_) I.bare⟩
 ·by_cases hb:b=X.env.locals
  ·obtain ⟨m,hm,_⟩:=I.loc
   obtain ⟨o2,_,_,e2,_⟩:=ns m hm
   exact⟨o2,by rw [hb]; exact e2⟩
  ·exact⟨o',k b o' hb e⟩
 ·by_cases hb:b=a
  ·subst hb; rw [b8] at q; cases q; exact new
  ·rw [aP hb] at q
   refine (I.hok b u q).stay (fun c v hc e=>k c v ?_ e) (fun c e=>by rw [aP (bX e hHn)]; exact e) fun c xs e=>by rw [aP (bX e hHn)]; exact e
   rcases hc with z | z
   ·rw [z]; intro y; rw [y,hL] at q; cases q
   ·intro y; rw [y,hL] at z; cases z
theorem a8.newsAll (I:a8 X pins σ H s) {news:List (Addr × Obj)}{m:Str->Option Value} (hs:∀ p ∈ lW X.base s.heap X.env.locals,p ∈ news) (F:Fr X.base X.env.locals h' m) (N:News X.base X.env.locals h' news) :
  ∀ b o,b ≠ X.env.locals->s.heap.get? b=some o->h'.get? b=some o:=fun b o h1 e=>by
 cases q:X.base.get? b with
 | some u=>
  have:=I.bk b u q
  rw [e] at this; cases this
  exact F.keep b _ q
 | none=>exact (N (b,o) (hs _ (vZ h1 q e))).1
end
theorem ai9 {α:Type}{d:α} (l:List α) {p:List Nat} (h:p.Perm (List.range l.length)):(p.map fun i=>l.getD i d).Perm l:=by
 have e:(List.range l.length).map (fun i=>l.getD i d)=l:=by
  apply List.ext_getElem
  ·simp
  ·intro i h1 h2
   simp at h1
   simp [h1]
 have:=h.map fun i=>l.getD i d
 rw [e] at this
 exact this
theorem tH:∀ {xs:List V}{us:List Value} (i:Nat),i < xs.length->aK xs us->aQ (xs.getD i .non) (us.getD i Value.none)
 | _,_,_,h,.nil=>by simp at h
 | _,_,0,_,.cons r _=>by simpa using r
 | _,_,i+1,h,.cons _ t=>by
  have:=tH i (by simpa using h) t
  simpa using this
theorem yY {xs:List V}{us:List Value} (r:aK xs us):∀ {p:List Nat},(∀ i ∈ p,i < xs.length)->aK (p.map fun i=>xs.getD i .non) (p.map fun i=>us.getD i Value.none)
 | [],_=>.nil
 | i :: p,h=>.cons (tH i (h i aS0) r) (yY r fun j hj=>h j (aS2 _ hj))
theorem tI {α:Type}:∀ l:List α,(l.zip l).map (·.2)=l
 | []=>rfl
 | a :: l=>by
  show a :: ((l.zip l).map (·.2))=a :: l
  rw [tI l]
theorem aj0 {prog:Program}{w:World}{A:Around}{E:Value->Shared->Prop}{s:Shared}{a:Addr}{vs:List Value}{n:Nat}{P:PySem.Fin->Shared->Prop} (e:s.heap.get? a=some (seqObj "list" vs.toArray n)) (few:vs.length < 2)
  (q:P (.done (.ret .none)) { s with heap:=sortedHeap s.heap a vs vs.toArray }):wpAny (model prog w) A (Builtin.«list.sort» ⟨[.ref a],[]⟩) P E s:=by
 have big:vs.length<=sizeLine:=aT4 (aV0 few) (by decide)
 have la:=aR8 e
 have c:vs.toArray.size < 2:=by simpa using few
 have same:(arrOf (SortSt.mk' general' (vs.toArray.zip vs.toArray) #[] 7 none)).map (·.2)=vs.toArray:=by
  change (vs.toArray.zip vs.toArray).map (·.2)=vs.toArray
  apply Array.ext'
  simpa using tI vs
 obtain ⟨k,ek⟩:∃ k,(s.heap.update a (Obj.mapSeq fun _=>#[])).get? a=some (seqObj "list" #[] k):=⟨_,get?_update_seq e fun _=>#[]⟩
 have there:(((s.heap.update a (Obj.mapSeq fun _=>#[])).push (seqObj "tuple" vs.toArray 0)).push (seqObj "list" #[] 0)).get? a=some (seqObj "list" #[] k):=
  aQ6 _ (aQ6 _ ek)
 rw [list_sort_plain]
 apply aQ5
 apply listItems_at e rfl
 apply aQ5
 refine listUpdate_at e rfl ?_ (by simpa using big) (aT7 _)
 apply aQ5
 apply seqEpoch_at ek rfl
 apply aQ5
 refine wpAny_newTuple ?_ big
 apply aQ5
 refine wpAny_newList ?_ (aT7 _)
 apply aY5
 simp only [c,if_true,StateT.run_pure]
 apply aQ5
 apply aQ9
 apply aQ5
 apply aQ9
 apply aQ5
 apply seqEpoch_at there rfl
 apply aQ5
 refine listUpdate_at there rfl ?_ (aT7 _) (by rw [same,aQ8]; exact Nat.le_succ_of_le big)
 rw [same]
 simp only [bne_self_eq_false,aS9,aX8]
 exact aQ9 q
theorem aj1 {prog:Program}{w:World}{A:Around}{E:Value->Shared->Prop}{s:Shared}{l:Addr}{vs:List Value}{Q:Value->Shared->Prop} (hl:s.heap.IsList l vs.toArray) (few:vs.length < 2)
  (q:Q (.ref (s.heap.objs.size+1)) { s with heap:=sortedAll s.heap vs vs.toArray }):wpAny (model prog w) A (call (.builtin "sorted") [.ref l]) Q E s:=by
 have big:vs.length<=sizeLine:=aT4 (aV0 few) (by decide)
 apply Calls.call_function_entry kind_sorted plain_sorted entry_sorted (args_sorted1 _)
 simp only [Builtin.«sorted»]
 apply aQ5 (m:=checkCount "sorted" 1 1 _)
 apply aQ9
 apply aQ5
 refine collect_list hl ?_ big
 apply aQ5
 refine wpAny_newList ?_ big
 have one:((s.heap.push (seqObj "list" #[] 0)).update s.heap.objs.size (Obj.mapSeq (· ++ vs.toArray))).objs.size=s.heap.objs.size+1:=(Heap.size_update _ _ _).trans (size_push' _ _)
 have at1:(((s.heap.push (seqObj "list" #[] 0)).update s.heap.objs.size (Obj.mapSeq (· ++ vs.toArray))).push (seqObj "list" vs.toArray 0)).get? (s.heap.objs.size+1)=some (seqObj "list" vs.toArray 0):=one ▸ aS1 _ rfl
 change wpAny _ _ _ _ _ { s with heap:=((s.heap.push (seqObj "list" #[] 0)).update s.heap.objs.size (Obj.mapSeq (· ++ vs.toArray))).push (seqObj "list" vs.toArray 0) }
 rw [one]
 apply aQ5
 apply aY5
 refine aW3 slot_list_sort ⟨_,at1,rfl⟩ entry_list_sort ?_ (args_list_sort _)
 refine aj0 at1 few ⟨_,rfl,?_⟩
 exact aQ9 ⟨_,rfl,q⟩
def yZ (K:PySem.W.Frag):List V->Hp->VK->Prop:=fun xs H Q=>∃ a ns,xs = [.ref a]/\aM K H a (ns.map V.int)/\ns.length < 64/\∀ l (ms:List Int),H l=none->ms.Perm ns->ms.Pairwise (· <= ·)->Q (.ref l) (upd H l (.lst (ms.map V.int)))
theorem z9 {X:Cx}:cJ X (.builtin "sorted") (yZ X.K):=by
 intro pins s σ H xs us Q I r h
 obtain ⟨a,ns,rfl,hs,h64,q⟩:=h
 obtain ⟨u,rfl,ru⟩:=fC r
 cases ru
 obtain ⟨its,rv,p,hz⟩:=I.list hs
 have hl:=rv.length
 rw [aR1] at hl
 refine sorted_ints p.isList (mE rv) (by omega) fun out ns' a1 a2 a3=>?_
 obtain ⟨e,he⟩:=sortedAll_at s.heap its out
 have hn:s.heap.objs.size<=s.heap.objs.size+1:=Nat.le_succ _
 have hlen:ns'.length=ns.length:=a2.length_eq
 refine⟨.ref (s.heap.objs.size+1),upd H (s.heap.objs.size+1) (.lst (ns'.map V.int)),I.laid (t':=s.toks) (fun _ _=>sortedAll_old) hn ⟨?_,out.toList,e,mI a1,by simpa using he⟩,rfl,q _ ns' (I.hok.fresh hn) a2 a3⟩
 rw [aR1,hlen]
 exact aV0 (mJ (by omega))
theorem zA:∀ {a b:List Int},HT.dZ a b=true->HT.dZ b a=false
 | [],[],h=>by cases h
 | [],_ :: _,_=>rfl
 | _ :: _,[],h=>by cases h
 | x :: xs,y :: ys,h=>by
  rw [HT.mD] at h ⊢
  by_cases e:x=y
  ·rw [if_pos e] at h; rw [if_pos e.symm]; exact zA h
  ·rw [if_neg e] at h; rw [if_neg (Ne.symm e)]
   have:=of_decide_eq_true h
   exact aR5 (by omega)
theorem zB:∀ {a b c:List Int},HT.dZ a b=false->HT.dZ b c=false->HT.dZ a c=false
 | [],[],c,_,h=>h
 | [],_ :: _,_,h,_=>by cases h
 | _ :: _,[],[],_,_=>rfl
 | _ :: _,[],_ :: _,_,h=>by cases h
 | _ :: _,_ :: _,[],_,_=>rfl
 | x :: xs,y :: ys,z :: zs,h1,h2=>by
  rw [HT.mD] at h1 h2 ⊢
  by_cases e1:x=y
  ·rw [if_pos e1] at h1
   by_cases e2:y=z
   ·rw [if_pos e2] at h2; rw [if_pos (e1.trans e2)]; exact zB h1 h2
   ·rw [if_neg e2] at h2; rw [if_neg (by rw [e1]; exact e2)]; rw [e1]; exact h2
  ·rw [if_neg e1] at h1
   have k1:=bc5 h1
   by_cases e2:y=z
   ·rw [<- e2,if_neg e1]; exact h1
   ·rw [if_neg e2] at h2
    have k2:=bc5 h2
    rw [if_neg (by omega)]
    exact aR5 (by omega)
def zC (H:Hp):V->List Int
 | .ref b=>match H b with
  | some (.tup xs)=>xs.map fun x=>match x with
   | .int i=>i
   | _=>0
  | _=>[]
 | _=>[]
section
variable {prog : Program} {w : World} {A : Around} {s : Shared} {Q : Bool → Shared → Prop}
theorem zD:∀ {us ws:List Value}{xs ys:List Int} (i:Nat),IntsAre us xs->IntsAre ws ys->Q (HT.dZ xs ys) s->PySem.W.KatLex prog w A true (decide (us.length < ws.length)) Q (us.zip ws) i s
 | _,_,_,_,_,.nil,.nil,h=>h
 | _,_,_,_,_,.nil,.cons _ _ _,h=>h
 | _,_,_,_,_,.cons _ _ _,.nil,h=>h
 | _,_,_,_,i,.cons (vs:=us) x t hx,.cons (vs:=ws) y u hy,h=>by
  refine PySem.W.kat_cons (wpAny_eqBool_int ?_)
  rw [HT.mD] at h
  by_cases e:x=y
  ·rw [if_pos e] at h
   have eb:(x == y)=true:=by simpa using e
   rw [eb]
   refine PySem.W.kat_yes ?_
   have e2:decide ((Value.int x t :: us).length < (Value.int y u :: ws).length)=decide (us.length < ws.length):=by simp
   rw [e2]
   exact zD (i+1) hx hy h
  ·rw [if_neg e] at h
   have eb:(x == y)=false:=by simpa using e
   rw [eb]
   refine PySem.W.kat_no ?_
   cases hi:(true && i == 0) with
   | true=>exact PySem.W.kat_lt_int h
   | false=>exact PySem.W.kat_one _ _ (lt_int h)
end
def zE (K:PySem.W.Frag):List V->Hp->VK->Prop:=fun xs H Q=>∃ (a:Addr) (ys:List V) (key:V->List Int),xs = [.ref a]/\aM K H a ys/\ys.length < 64/\(∀ y ∈ ys,∃ b,y = .ref b/\aJ K H b ((key y).map V.int)/\key y ≠ [])/\
 ∀ l (zs:List V),H l=none->zs.Perm ys->zs.Pairwise (fun u v=>HT.dZ (key v) (key u)=false)->Q (.ref l) (upd H l (.lst zs))
theorem aj2 {c:Nat->Nat->Bool}{R:V->V->Prop}{ys:List V}{p:Array Nat}{n:Nat} (hp:Srt.PP n p) (ha:Srt.eO c p n) (hR:∀ i j,Srt.Le c i j->R (ys.getD i .non) (ys.getD j .non)) :
  (p.toList.map fun i=>ys.getD i .non).Pairwise R:=by
 rw [bd3,aY9]
 intro i j hi hj hij
 have hs:=hp.size
 have h1:i < n:=by rw [<- hs]; simpa using hi
 have h2:j < n:=by rw [<- hs]; simpa using hj
 have q:=ha i j (aV0 hij) h2
 have e:∀ k (hk:k < p.toList.length),Srt.G p k=p.toList[k]:=fun k hk=>by
  have hk':k < p.size:=by simpa using hk
  unfold Srt.G; rw [ba0]; simp [hk']
 rw [e i hi,e j hj] at q
 exact hR _ _ q
theorem aj3 {X:Cx}:cJ X (.builtin "sorted") (zE X.K):=by
 intro pins s σ H xs us Q I r h
 obtain ⟨a,ys,key,rfl,hs,h64,hk,q⟩:=h
 obtain ⟨u,rfl,ru⟩:=fC r
 cases ru
 obtain ⟨its,rv,p,hz⟩:=I.list hs
 have hl:=rv.length
 by_cases h2:its.length < 2
 ·
  refine aj1 p.isList h2 ?_
  obtain ⟨e,he⟩:=sortedAll_at s.heap its its.toArray
  have hn:s.heap.objs.size<=s.heap.objs.size+1:=Nat.le_succ _
  refine⟨.ref (s.heap.objs.size+1),upd H (s.heap.objs.size+1) (.lst ys),I.laid (t':=s.toks) (fun _ _=>sortedAll_old) hn ⟨hz,its,e,rv,he⟩,rfl,q _ ys (I.hok.fresh hn) (List.Perm.refl _) ?_⟩
  match ys,hl with
  | [],_=>exact List.Pairwise.nil
  | [_],_=>exact aW0 _ _
  | _ :: _ :: _,hl=>simp at hl; omega
 ·obtain ⟨m,F⟩:=I.fr
  have hL:∀ {b:Addr}{k:List Int},aJ X.K H b (k.map V.int)->b ≠ X.env.locals:=fun {b k} z e=>by
   obtain ⟨its',_,⟨ob,e1,c1,_⟩,_⟩:=I.tuple z
   obtain ⟨m',⟨o',es',ep',e2,d2,_⟩,_⟩:=I.loc
   rcases z with (z | ⟨_,z⟩) | ⟨o3,its3,n3,z3,zc,zd,_⟩
   ·rw [e,I.free] at z; cases z
   ·rw [e,I.free] at z; cases z
   ·have:=I.kIn b o3 z3
    rw [e,e2] at this
    cases this
    rw [d2] at zd; cases zd
  refine PySem.W.kat_sorted F (X1 (g:=X.base) (h:=s.heap) (L:=X.env.locals)) p.isList (by omega) (by omega) fun D e1 h' F' N' hD=>?_
  have keep:=I.newsAll (fun p hp=>aS2 _ hp) F' N'
  have look:∀ i,i < ys.length->∃ (b:Addr) (ob:Obj) (us:List Value) (n:Nat),its.getD i Value.none = .ref b/\h'.get? b=some ob/\ob.cls = .type "tuple"/\ob.data = .seq us.toArray n/\IntsAre us (key (ys.getD i .non))/\key (ys.getD i .non) ≠ []:=fun i hi=>by
   have hy:ys.getD i .non ∈ ys:=by
    rw [aR7,aQ7 hi]; exact aZ8 hi
   obtain ⟨b,eb,sq,ne⟩:=hk _ hy
   have rr:=tH i hi rv
   rw [eb] at rr
   have rr:its.getD i Value.none = .ref b:=rr
   obtain ⟨us,ru,⟨ob,e1,c1,n1,d1⟩,_⟩:=I.tuple sq
   exact⟨b,ob,us,n1,rr,keep b ob (hL sq) e1,c1,d1,mE ru,ne⟩
  have firsts:∀ {xs:List V}{vs:List Value},aK xs vs->(∀ y ∈ xs,∃ b,y = .ref b/\aJ X.K H b ((key y).map V.int)/\key y ≠ [])->∃ fs:List Value,PySem.W.KatTups h' vs fs/\fs.length=vs.length/\∀ v ∈ fs,∃ i t,v=Value.int i t:=by
   intro xs vs r
   induction r with
   | nil=>intro _; exact⟨[],PySem.W.KatTups.nil,rfl,fun _ z=>nomatch z⟩
   | @cons x v xs vs rx rt ih=>
    intro hh
    obtain ⟨fs,t1,t2,t3⟩:=ih fun y hy=>hh y (aS2 _ hy)
    obtain ⟨b,eb,sq,ne⟩:=hh x aS0
    subst eb
    cases rx
    obtain ⟨us,ru,⟨ob,e1,c1,n1,d1⟩,_⟩:=I.tuple sq
    have ia:=mE ru
    generalize key (V.ref b)=kk at ia ne
    cases ia with
    | nil=>exact absurd rfl ne
    | @cons n t vs0 ns0 ht=>
     exact⟨Value.int n t :: fs,PySem.W.KatTups.cons (keep b ob (hL sq) e1) c1 d1 (by simp) t1,by simp [t2],fun v hv=>(aR2.mp hv).elim (fun z=>⟨n,t,z⟩) (t3 v)⟩
  obtain ⟨fs,t1,t2,t3⟩:=firsts rv hk
  refine PySem.W.kat_kind (T:=.type "int") t1 (by omega) (fun v hv=>?_) (by decide) ?_
  ·obtain ⟨i,t,rfl⟩:=t3 v hv
   exact PySem.W.Looks.now
  let c:Nat->Nat->Bool:=fun i j=>HT.dZ (key (ys.getD i .non)) (key (ys.getD j .non))
  have O:Srt.yS c:=⟨fun h=>zA h,fun h1 h2=>zB h1 h2⟩
  have ok:=Srt.ai8 (n:=its.length) O (by omega)
  refine Srt.bS.run (I:=fun s'=>s'={ s with heap:=h' }) (fun i j C s' hi hj hI hC=>?_) (fun pa s' hR hI=>?_) _ _ rfl ok
  ·subst hI
   obtain ⟨b1,o1,u1,n1,g1,g2,_,g4,g5,_⟩:=look i (by omega)
   obtain ⟨b2,o2,u2,n2,k1,k2,_,k4,k5,_⟩:=look j (by omega)
   show wpAny _ _ (keyLt' (tuples' (Value.type "int" != Value.type "tuple")) (its.getD i Value.none) (its.getD j Value.none)) _ _ _
   rw [g1,k1]
   have eT:(Value.type "int" != Value.type "tuple")=true:=by decide
   rw [eT]
   refine PySem.W.kat_lt g2 g4 k2 k4 ?_
   have:=zD (prog:=X.prog) (w:=X.w) (A:=X.A.in1.in1) (s:={ s with heap:=h' }) (Q:=C) 0 g5 k5 (hC _ rfl)
   simpa using this
  ·subst hI
   obtain ⟨hp,hasc⟩:=hR
   refine PySem.W.KasFin.intro F' N' (PySem.W.UpdF.head fun p hp=>aT3 (hD p hp)) fun h2 cc F2 N2=>?_
   have keep2:=I.newsAll (fun p hp=>aS2 _ hp) F2 N2
   have hDn:s.heap.get? D=none:=by
    cases z:s.heap.get? D with
    | none=>rfl
    | some o=>
     obtain ⟨_,n1,n2⟩:=N2 (D,_) aS0
     exact absurd (hD _ (vZ n1 n2 z)) (aW1 _)
   have hpl:∀ i ∈ pa.toList,i < ys.length:=fun i hi=>by
    have:=bc1.mp (hp.mem_iff.mp hi); omega
   have hp':pa.toList.Perm (List.range ys.length):=by rw [hl]; exact hp
   have pm:=ai9 (d:=V.non) ys hp'
   obtain ⟨hDo,hDL,hDb⟩:=N2 (D,_) aS0
   obtain ⟨hHD,I2⟩:=I.laidF (t':=s.toks) (a:=D) (o:=.lst (pa.toList.map fun i=>ys.getD i .non)) hDn keep2 (fun m' hm'=>by
     have e:m'=m:=funext fun nm=>Heap.Ns.agree hm' F.ns nm
     rw [e]; exact F2.ns) ⟨by rw [pm.length_eq]; exact hz,_,cc,yY rv hpl,hDo⟩
   exact⟨.ref D,_,I2,rfl,q D _ hHD pm (aj2 hp hasc fun i j hle=>hle)⟩
end L2
namespace Raw
open PySem PySem.W PySem.Calls PyProof.Rows
def fD (h:Heap) (d:Addr) (es:Array DictEntry) (ep:Nat):Prop:=∃ o,h.get? d=some o/\o.ExactDict/\o.data = .dict es ep
theorem fD.ty {s:Shared}{d:Addr}{es:Array DictEntry}{ep:Nat} (x:fD s.heap d es ep):s.TypeIs (.ref d) "dict":=x.elim fun o y=>⟨o,y.1,y.2.1.1⟩
theorem fD.lt {h:Heap}{d:Addr}{es:Array DictEntry}{ep:Nat} (x:fD h d es ep):d < h.objs.size:=x.elim fun _ y=>aR8 y.1
theorem fD.keep {h h':Heap}{d:Addr}{es:Array DictEntry}{ep:Nat} (x:fD h d es ep) (k:∀ o,h.get? d=some o->h'.get? d=some o):fD h' d es ep:=x.elim fun o y=>⟨o,k o y.1,y.2⟩
section
variable {prog : Program} {w : World} {A : Around} {E : Value → Shared → Prop} {s : Shared} {d it : Addr} {es : Array DictEntry} {ep i : Nat}
theorem made (far:(d == sysModules)=false) (x:fD s.heap d es ep) {Q:Value->Shared->Prop}
  (q:Q (.ref s.heap.objs.size) { s with heap:=s.heap.push { cls:=.type "dict_keyiterator",data:=.fields #[.ref d,.int 0 0,.int es.size 0,.int ep 0] } }):wpAny (model prog w) A (pyIter (.ref d)) Q E s:=by
 have T:=x.ty
 obtain ⟨o,e1,e2,e3⟩:=x
 apply wpAny_pyIter_slot T PySem.F.slot_dict_iter
 apply aW3 PySem.F.slot_dict_iter T PySem.F.entry_dict_iter _ (PySem.F.args_dict_iter_1 _)
 simp only [Builtin.«dict.__iter__»,Builtin.Dict.dictSlotNone]
 apply aQ5
 apply aQ5
 apply wpAny_notOrdered_dict T
 apply aQ9
 change wpAny _ _ (Builtin.Dict.showsAll d >>= _) _ _ s
 have far':Builtin.Dict.showsAll d=pure ():=by
  unfold Builtin.Dict.showsAll
  simp only [far,aS9,aX8]
 rw [far',pure_bind]
 apply aQ5
 apply wpAny_dictEntries e1 e3
 apply aQ5
 apply wpAny_dictEpoch e1 e3
 apply aQ5
 refine aX6 (aQ9 ?_)
 refine⟨.ref s.heap.objs.size,rfl,"dict_keyiterator",_,⟨_,aS1 _ rfl,rfl⟩,PySem.F.slot_dict_keyiterator_next.lookup,?_⟩
 simpa only [rawInt] using q
theorem turn (hh:A.handled=none) (hi:s.heap.IsKeyIter it d i es.size ep) (x:fD s.heap d es ep) {Q:Option Value->Shared->Prop}
  (yes:∀ (lt:i < es.size) h',h'.IsKeyIter it d (i+1) es.size ep->Heap.SameBut it s.heap h'->Q (some es[i].key) { s with heap:=h' })
  (no:es.size<=i->∀ h',Heap.ExtBut it s.heap h'->Q none { s with heap:=h' }):wpAny (model prog w) A (pyNext (.ref it)) Q E s:=by
 have T:=hi.typeIs
 obtain ⟨oi,f1,f2,f3⟩:=hi
 obtain ⟨o,e1,e2,e3⟩:=x
 have slot:=PySem.F.slot_dict_keyiterator_next
 have plain:Builtin.Dict_items.ownsTuple "dict_keyiterator" = false:=by decide
 have isref:(Value.ref d == Value.none)=false:=rfl
 have nn : ¬ (i:Int) < 0:=by omega
 unfold pyNext
 apply aQ5
 apply wpAny_attempt
 apply aV9 (name:=Str.ofString "__next__") T slot
 apply aW3 slot T PySem.F.entry_dict_keyiterator_next _ (PySem.F.args_dict_keyiterator_next_1 _)
 apply aQ5
 apply aQ9
 apply aQ5
 apply aQ5
 apply aQ5
 first
  | apply wpAny_typeNameOfWhole_keyiter T
  | apply wpAny_typeNameOf_keyiter T
 apply aQ9
 apply aQ5
 apply wpAny_fieldsOf f1 f3
 simp only [plain,aS9,aX8]
 change wpAny _ _ (if (Value.ref d == Value.none)=true then _ else _) _ _ s
 have adr:Builtin.Dict_items.addrOf (Value.ref d)=pure d:=rfl
 simp only [isref,aS9,aX8,adr,pure_bind]
 apply aQ5
 apply wpAny_dictEntries e1 e3
 simp only [bne_self_eq_false,aS9,aX8]
 apply aQ5
 apply wpAny_dictEpoch e1 e3
 simp only [bne_self_eq_false,aS9,aX8]
 apply aQ9
 simp only [nn,aX8,aY0]
 by_cases lt:i < es.size
 ·simp only [Array.getElem?_eq_getElem lt]
  apply aQ5
  apply aQ5
  first
   | apply wpAny_typeNameOfWhole_keyiter T
   | apply wpAny_typeNameOf_keyiter T
  apply aQ9
  apply aQ5
  apply wpAny_isOneOf_keyiter T
  change wpAny _ _ (setField (.ref it) 1 (rawInt ((i:Int)+1)) >>= _) _ _ s
  apply aQ5
  refine wpAny_setField f1 f3 (by simp) ?_
  have again:(s.heap.update it (Obj.mapFields (·.setIfInBounds 1 (rawInt ((i:Int)+1))))).IsKeyIter it d (i+1) es.size ep:=by
   refine⟨_,Heap.get?_update_self _ f1 (Obj.isFreed_of_fields (Obj.data_mapFields f3 _)),?_,?_⟩
   ·rw [Obj.cls_mapFields]; exact f2
   ·rw [Obj.data_mapFields f3]; simp [rawInt]
  apply aQ5
  apply aY5
  apply aQ5
  refine wpAny_isOneOf_keyiter (s:={ s with heap:=s.heap.update it (Obj.mapFields (·.setIfInBounds 1 (rawInt ((i:Int)+1)))) }) again.typeIs ?_
  change wpAny _ _ (pure es[i].key) _ _ _
  apply aQ9
  apply aQ9
  exact⟨es[i].key,rfl,aQ9 (yes lt _ again (bb7 ..))⟩
 ·have ge:es.size<=i:=bc0 lt
  simp only [Array.getElem?_eq_none ge]
  apply aQ5
  apply aQ5
  first
   | apply wpAny_typeNameOfWhole_keyiter T
   | apply wpAny_typeNameOf_keyiter T
  apply aQ9
  change wpAny _ _ (setField (.ref it) 0 .none >>= _) _ _ s
  apply aQ5
  refine wpAny_setField f1 f3 (by simp) ?_
  apply aQ5
  simp only [newExc,newTuple]
  apply aQ5
  refine aX6 ?_ (by size_fits)
  apply aQ5
  refine wpAny_of_eq (a:=Value.none) (by first | rfl | (simp only [firstArgMember]; rfl)) ?_
  refine aX6 ?_ (by size_fits)
  unfold raiseNew
  apply aQ5
  apply wpAny_handled
  have quiet:A.in1.handled=none:=hh
  rw [quiet]
  refine wpAny_throw ?_
  apply aQ5
  refine wpAny_isInstance (T:="StopIteration") (b:=true) ⟨_,aS1 _ rfl,rfl⟩ isSubtype_stop ?_
  exact aQ9 (no ge _ (((bb7 ..).extBut.push _).push _))
theorem aj4 (hh:A.handled=none) (ne:d ≠ it):Walks prog w A it [it,d] [it] es.size (fun i v=>∃ lt:i < es.size,es[i].key=v) (fun i h=>h.IsKeyIter it d i es.size ep/\fD h d es ep) where
 sub:=by intro b hb; rw [aS4.mp hb]; exact aS0
 frame:=by
  intro i h h' st hk
  exact⟨st.1.at (hk it aS0),st.2.keep (hk d (aS2 _ aS0))⟩
 item:=by
  intro i s Q E lt st hQ
  refine turn hh st.1 st.2 (fun lt' h' again sb=>?_) fun ge=>absurd lt (Nat.not_lt.mpr ge)
  exact hQ _ h' s.toks ⟨lt',rfl⟩ ⟨again,st.2.keep fun o e=>sb.extBut d o ne e⟩ fun b o hb e=>sb.extBut b o (fun z=>hb (aS4.mpr z)) e
 done:=by
  intro s Q E st hQ
  refine turn hh st.1 st.2 (fun lt=>absurd lt (aW1 _)) fun _ h' eb=>?_
  exact hQ h' s.toks fun b o hb e=>eb b o (fun z=>hb (aS4.mpr z)) e
 self:=by intro i s Q E st hQ; exact wpAny_pyIter_keyiter st.1 hQ
theorem zF (far:(d == sysModules)=false):KdlSrc prog w "dict" d d es.size (fun i v=>∃ lt:i < es.size,es[i].key=v) (fun h=>fD h d es ep) where
 type:=fun _ x=>x.ty
 there:=fun _ x=>⟨x.lt,x.lt⟩
 keep:=fun _ _ x k=>x.keep (k d (.inl rfl))
 notList:=by decide
 notTuple:=by decide
 hint:=fun _ _ _ _ x q=>kdl_hint_dict x.ty q
 iter:=fun _ _ hh x=>⟨_,_,fun _ _ q=>made far x q,aj4 hh (aT3 x.lt),⟨_,aS1 _ rfl,rfl,rfl⟩,x.keep fun o e=>aQ6 _ e⟩
end
end Raw
namespace L2
open PySem PySem.Spec PyProof.Rows
section
variable {X : Cx} {pins : List (Addr × Obj)} {σ : St} {H : Hp} {s : Shared} {a : Addr}
def oS (H:Hp) (y:V) (k:List aD):Prop:=∃ q,y = .ref q/\H q=some (.tup (k.map kV))
theorem aj5 {kvs:List (aD × V)} (I:a8 X pins σ H s) (h:H a=some (.dK kvs)):∃ es ep,Raw.fD s.heap a es ep/\(a == sysModules)=false/\aK (kvs.map fun p=>kV p.1) (es.toList.map (·.key))/\kvs.length<=sizeLine:=by
 obtain ⟨z,far,vs,rel,o,es,ep,e1,e2,e3,kk,pr,nd⟩:=(show bP X.prog X.w H s.heap a (.dK kvs) from I.hok a _ h)
 refine⟨es,ep,⟨o,e1,e2,e3⟩,far,?_,z⟩
 clear z far e1 e2 e3 kk nd h
 generalize es.toList=l at pr
 induction pr generalizing kvs with
 | nil=>cases rel; exact .nil
 | @cons e k es' kvs' h1 h2 _ ih=>
  cases rel with
  | @cons p q ps qs r rs=>
   refine .cons ?_ (ih rs)
   obtain ⟨r1,_⟩:=r
   show aQ (kV p.1) e.key
   rw [r1]
   rcases gN h1 with ⟨n,t,e4,e5⟩ | ⟨x,t,e4,e5⟩
   ·rw [e4,e5]; exact⟨t,rfl⟩
   ·rw [e4,e5]; exact⟨t,rfl⟩
theorem aj6 {kvs:List (List aD × V)} (I:a8 X pins σ H s) (h:H a=some (.dT kvs)):∃ es ep ys,Raw.fD s.heap a es ep/\(a == sysModules)=false/\Paired (oS H) ys (kvs.map (·.1))/\aK ys (es.toList.map (·.key))/\kvs.length<=sizeLine:=by
 obtain ⟨z,far,xs,rel,o,es,ep,e1,e2,e3,e4,nd⟩:=(show bP X.prog X.w H s.heap a (.dT kvs) from I.hok a _ h)
 refine⟨es,ep,xs.map fun q=>V.ref q.2.1,⟨o,e1,e2,e3⟩,far,?_,?_,z⟩
 ·clear e4 nd h z
  induction rel with
  | nil=>exact .nil
  | cons r rs ih=>exact .cons ⟨_,rfl,r.2.1⟩ ih
 ·rw [e4]
  clear rel e4 nd
  induction xs with
  | nil=>exact .nil
  | cons q qs ih=>exact .cons rfl ih
theorem zG {es:Array DictEntry}{acc:Array Value} (h:ItemsOf (fun i v=>∃ lt:i < es.size,es[i].key=v) acc es.size):acc.toList=es.toList.map (·.key):=by
 apply List.ext_getElem?
 intro j
 have h1:=h.1
 by_cases hj:j < es.size
 ·have hj':j < acc.size:=by rw [h1]; exact hj
  obtain ⟨_,e⟩:=h.2 j acc[j] (by simp [hj'])
  rw [aS5]
  simp [hj,hj',e]
 ·have hj' : ¬ j < acc.size:=by rw [h1]; exact hj
  rw [aS5]
  simp [bc0 hj,bc0 hj']
theorem aj7 (hc:X.calm=true):cJ X (.type "list") (fun xs H Q=>∃ a kvs,xs = [.ref a]/\H a=some (.dT kvs)/\∀ l ys,H l=none->Paired (oS H) ys (kvs.map (·.1))->Q (.ref l) (upd H l (.lst ys))):=by
 intro pins s σ H xs us Q I r h
 obtain ⟨a,kvs,rfl,ha,q⟩:=h
 obtain ⟨u,rfl,ru⟩:=fC r
 cases ru
 obtain ⟨es,ep,ys,rd,far,pk,vk,z⟩:=aj6 I ha
 have hl:=vk.length
 have hl2:=pk.length
 rw [aR1] at hl hl2
 have hsz:es.toList.length=es.size:=aU3
 refine PySem.W.kdl_call (Raw.zF far) (I.ok.hd hc) rd (by omega) fun h' tk acc c kp e it=>?_
 refine⟨.ref s.heap.objs.size,_,I.laid (t':=tk) kp (aR0 _) (show bP X.prog X.w _ h' _ (.lst ys) from ⟨by omega,acc.toList,c,by rw [zG it]; exact vk,by simpa using e⟩),rfl,q _ ys (I.hok.fresh (aR0 _)) pk⟩
end
def zH (outer:List (Str × NameKind)) (XN:List Str) (names:List (Str × NameKind)) (N:List Str) (fr:List (Option Nat)):Bool:=
 names.all (fun y=>!(y.2 == .cell) || names.lookup y.1 == some .cell) && names.all (fun y=>!(y.2 == .local) || names.lookup y.1 == some .local) &&
 names.all (fun y=>!(y.2 == .free) || (outer.lookup y.1 == some .cell || outer.lookup y.1 == some .free)) && fr.length == N.length &&
 (fr.zip N).all (fun p=>match p.1 with
  | none=>true
  | some j=>XN[j]? == some p.2 && names.lookup p.2 == some .free)
theorem cV.of {X:Cx}{scope:Scope}{N:List Str}{fr:List (Option Nat)} (hk:scope.kind = .function) (h:zH X.env.scope.names X.N scope.names N fr=true):cV X scope N fr:=by
 unfold zH at h
 simp only [aV2] at h
 obtain ⟨⟨⟨⟨h1,h2⟩,h3⟩,h4⟩,h5⟩:=h
 refine⟨hk,fun y hy e=>?_,fun y hy e=>?_,fun y hy e=>?_,by simpa using h4,fun i j e=>?_⟩
 ·have:=aY7.mp h1 y hy
  rw [e] at this; simpa using this
 ·have:=aY7.mp h2 y hy
  rw [e] at this; simpa using this
 ·have:=aY7.mp h3 y hy
  rw [e] at this; simpa using this
 ·have hl:fr.length=N.length:=by simpa using h4
  have hi:i < fr.length:=(aR4.mp e).1
  have m:(some j,N[i]'(by omega)) ∈ fr.zip N:=by
   have:(fr.zip N)[i]? = some (some j,N[i]'(by omega)):=by
    rw [List.getElem?_zip_eq_some]
    exact⟨e,by simp⟩
   exact aW8 this
  have:=aY7.mp h5 _ m
  simp only [aV2,beq_iff_eq] at this
  exact⟨N[i]'(by omega),by simp,this.1,this.2⟩
theorem wk0 {n:Option V}{r:St}{v:V}:Wk (none :: r) (some v :: r):=(Wk.refl (none :: r)).set (i:=0) rfl
def kW (H:Hp) (ys:List V) (ls:List (Int × Int)):Prop:=Paired (fun y l=>∃ b,y = .ref b/\H b=some (.tup [.int l.1,.int l.2])) ys ls
structure zI (H:Hp) (v:V) (ws:List Int) (ls:List (Int × Int)):Prop where
 at_:∃ a p q ys,v = .ref a/\H a=some (.tup [.ref p,.ref q])/\H p=some (.tup (ws.map V.int))/\H q=some (.tup ys)/\kW H ys ls
theorem kW.get {H:Hp}:∀ {ys:List V}{ls:List (Int × Int)}{i:Nat}{y:V},kW H ys ls->ys[i]? = some y->∃ l b,ls[i]? = some l/\y = .ref b/\H b=some (.tup [.int l.1,.int l.2])
 | _,_,_,_,.nil,e=>by simp at e
 | _,_,0,_,.cons (b:=l) ⟨b,h1,h2⟩ _,e=>by simp at e; subst e; exact⟨l,b,rfl,h1,h2⟩
 | _,_,i+1,_,.cons _ t,e=>by
  obtain ⟨l,b,h1,h2⟩:=kW.get (i:=i) t (by simpa using e)
  exact⟨l,b,by simpa using h1,h2⟩
def cC (ls:List (Int × Int)) (k:Int):List Int:=ls.flatMap fun l=>(if l.1=k then [l.2] else []) ++ (if l.2=k then [l.1] else [])
theorem aj8 (ls:List (Int × Int)) (l:Int × Int) (k:Int):cC (ls ++ [l]) k=cC ls k ++ ((if l.1=k then [l.2] else []) ++ (if l.2=k then [l.1] else [])):=by
 unfold cC; rw [List.flatMap_append]; simp
theorem aj9 {ls:List (Int × Int)}{i:Nat}{l:Int × Int} (h:ls[i]? = some l) (k:Int):cC (ls.take (i+1)) k=cC (ls.take i) k ++ ((if l.1=k then [l.2] else []) ++ (if l.2=k then [l.1] else [])):=by
 rw [ba6,h]; exact aj8 _ _ _
structure iD (H H':Hp) (r:Addr) (bs:List Addr) (f:Nat->List Int):Prop where
 new:H r=none
 news:∀ b ∈ bs,H b=none/\b ≠ r
 nd:bs.Nodup
 row:H' r=some (.lst (bs.map V.ref))
 rows:∀ (k:Nat) (b:Addr),bs[k]? = some b->H' b=some (.lst ((f k).map V.int))
 same:aC H H'
theorem iD.congr {H H':Hp}{r:Addr}{bs:List Addr}{f g:Nat->List Int} (h:iD H H' r bs f) (e:∀ k,k < bs.length->f k=g k):iD H H' r bs g:=
 ⟨h.new,h.news,h.nd,h.row,fun k b hb=>by rw [<- e k (aR4.mp hb).1]; exact h.rows k b hb,h.same⟩
theorem iD.app {H H':Hp}{r:Addr}{bs:List Addr}{f:Nat->List Int} (h:iD H H' r bs f) {k:Nat}{b:Addr} (hb:bs[k]? = some b) (x:Int) :
  iD H (upd H' b (.lst ((f k).map V.int ++ [V.int x]))) r bs (fun j=>if j=k then f j ++ [x] else f j):=by
 have hm:b ∈ bs:=aW8 hb
 refine⟨h.new,h.news,h.nd,by rw [aP (Ne.symm (h.news b hm).2)]; exact h.row,fun j c hc=>?_,fun c o e=>by rw [aP (bX e (h.news b hm).1)]; exact h.same c o e⟩
 by_cases hj:j=k
 ·subst hj
  rw [hb] at hc; cases hc
  rw [b8,if_pos rfl]; simp
 ·rw [if_neg hj]
  have ne:c ≠ b:=fun z=>by
   subst z
   obtain ⟨i1,e1⟩:=aR4.mp hb
   obtain ⟨i2,e2⟩:=aR4.mp hc
   refine hj (Nat.le_antisymm (bc0 fun z=>?_) (bc0 fun z=>?_))
   ·exact aY9.mp h.nd _ _ i1 i2 z (e1.trans e2.symm)
   ·exact aY9.mp h.nd _ _ i2 i1 z (e2.trans e1.symm)
  rw [aP ne]; exact h.rows j c hc
theorem tJ (ls:List (Int × Int)) (k:Int):(cC ls k).length<=2 * ls.length:=by
 induction ls with
 | nil=>exact aR0 _
 | cons l r ih=>
  have e:cC (l :: r) k=((if l.1=k then [l.2] else []) ++ (if l.2=k then [l.1] else [])) ++ cC r k:=rfl
  rw [e,aR3,aR3,aT9]
  have h1:(if l.1=k then [l.2] else []).length<=1:=by split <;> simp
  have h2:(if l.2=k then [l.1] else []).length<=1:=by split <;> simp
  omega
theorem jQ {α:Type}{xs:List α}{i:Int}{v:α} (h0:0<=i) (h:xs[i.toNat]? = some v):atI xs i=some v:=by
 have:=sH h
 rwa [show ((i.toNat:Nat):Int)=i by omega] at this
theorem gD {n:Nat} (h:n<=16000000):n < sizeLine:=by rw [sizeLine_eq]; omega
theorem oT {σ:St}{H:Hp}{A B:Hp->Prop} (h:A H):t5 σ H fun b H4=>if b=true then A H4 else B H4:=by
 show if true=true then A H else B H
 rw [if_pos rfl]; exact h
theorem jR {K:PySem.W.Frag}{H:Hp}{p:Addr}{xs:List V} (h:aM K H p xs):gC K "list" (.ref p) H:=.inl ⟨rfl,xs,h⟩
def mO (H:Hp) (y:V):Int × Int:=match zC H y with
 | [a,b]=>(a,b)
 | _=>(0,0)
theorem oU {H:Hp}:∀ {zs:List V},(∀ y ∈ zs,∃ b,y = .ref b/\H b=some (.tup [.int (mO H y).1,.int (mO H y).2])/\zC H y = [(mO H y).1,(mO H y).2])->kW H zs (zs.map (mO H))
 | [],_=>.nil
 | y :: zs,h=>by
  obtain ⟨b,e,hb,_⟩:=h y aS0
  exact .cons ⟨b,e,hb⟩ (oU fun z hz=>h z (aS2 _ hz))
end L2
namespace Zp
open PySem PyProof.Rows
section
variable {prog : Program} {w : World} {A : Around} {E : Value → Shared → Prop} {s : Shared}
theorem zJ {it t:Addr}{i:Nat}{items:Array Value}{x:Value}{Q:Value->Shared->Prop} (hi:s.heap.IsTupleIter it t i) (ht:s.heap.IsTuple t items) (hx:items[i]? = some x)
  (q:∀ h',h'.IsTupleIter it t (i+1)->Heap.SameBut it s.heap h'->Q x { s with heap:=h' }):wpAny (model prog w) A (Builtin.SmallTypes.nextOf (.ref it)) Q E s:=by
 have T:=hi.typeIs
 obtain ⟨o,e1,e2,e3⟩:=hi
 obtain ⟨u,f1,_,k,f3⟩:=ht
 have slot:=PySem.F.slot_tuple_iterator_next
 have isref:(Value.ref t == Value.none)=false:=rfl
 unfold Builtin.SmallTypes.nextOf
 apply aQ5
 apply aV9 (name:=Str.ofString "__next__") T slot
 apply aW3 slot T PySem.F.entry_tuple_iterator_next _ (PySem.F.args_tuple_iterator_next_1 _)
 change wpAny _ _ (field (.ref it) 0 >>= _) _ _ s
 apply aQ5
 refine aV8 e1 e3 (x:=.ref t) rfl ?_
 change wpAny _ _ (if (Value.ref t == Value.none)=true then _ else _) _ _ s
 simp only [isref,aS9,aX8]
 change wpAny _ _ (field (.ref it) 1 >>= _) _ _ s
 apply aQ5
 refine aV8 e1 e3 (x:=.int i 0) rfl ?_
 change wpAny _ _ (seqItems? (.ref t) >>= _) _ _ s
 apply aQ5
 apply bc6 f1 f3
 simp only [aY0,hx]
 apply aQ5
 refine wpAny_setField e1 e3 (by simp) ?_
 apply aQ9
 refine⟨x,rfl,aQ9 (q _ ⟨_,Heap.get?_update_self _ e1 (Obj.isFreed_of_fields (Obj.data_mapFields e3 _)),?_,?_⟩ (bb7 ..))⟩
 ·rw [Obj.cls_mapFields]; exact e2
 ·rw [Obj.data_mapFields e3]; simp [rawInt]
theorem zK {it t:Addr}{i:Nat}{items:Array Value}{Q:Value->Shared->Prop} (hh:A.handled=none) (hi:s.heap.IsTupleIter it t i) (ht:s.heap.IsTuple t items) (hx:items[i]? = none)
  (q:∀ h' e,Heap.ExtBut it s.heap h'->(∃ o,h'.get? e=some o/\o.cls = .type "StopIteration")->E (.ref e) { s with heap:=h' }):wpAny (model prog w) A (Builtin.SmallTypes.nextOf (.ref it)) Q E s:=by
 have T:=hi.typeIs
 obtain ⟨o,e1,e2,e3⟩:=hi
 obtain ⟨u,f1,_,k,f3⟩:=ht
 have slot:=PySem.F.slot_tuple_iterator_next
 have isref:(Value.ref t == Value.none)=false:=rfl
 unfold Builtin.SmallTypes.nextOf
 apply aQ5
 apply aV9 (name:=Str.ofString "__next__") T slot
 apply aW3 slot T PySem.F.entry_tuple_iterator_next _ (PySem.F.args_tuple_iterator_next_1 _)
 change wpAny _ _ (field (.ref it) 0 >>= _) _ _ s
 apply aQ5
 refine aV8 e1 e3 (x:=.ref t) rfl ?_
 change wpAny _ _ (if (Value.ref t == Value.none)=true then _ else _) _ _ s
 simp only [isref,aS9,aX8]
 change wpAny _ _ (field (.ref it) 1 >>= _) _ _ s
 apply aQ5
 refine aV8 e1 e3 (x:=.int i 0) rfl ?_
 change wpAny _ _ (seqItems? (.ref t) >>= _) _ _ s
 apply aQ5
 apply bc6 f1 f3
 simp only [aY0,hx]
 apply aQ5
 apply wpAny_rule
 apply aQ5
 refine wpAny_setField e1 e3 (by simp) ?_
 apply aQ5
 simp only [newExc,newTuple]
 apply aQ5
 refine aX6 ?_ (by size_fits)
 apply aQ5
 refine wpAny_of_eq (a:=Value.none) (by first | rfl | (simp only [firstArgMember]; rfl)) ?_
 refine aX6 ?_ (by size_fits)
 unfold raiseNew
 apply aQ5
 apply wpAny_handled
 have quiet:A.in1.handled=none:=hh
 rw [quiet]
 refine wpAny_throw ?_
 exact q _ _ (((bb7 ..).extBut.push _).push _) ⟨_,aS1 _ rfl,rfl⟩
theorem ak0 (hh:A.handled=none) (it t:Addr) (ne:t ≠ it) (items:Array Value):Draws prog w A it [it,t] items.size (fun i v=>items[i]? = some v) (fun i h=>h.IsTupleIter it t i/\h.IsTuple t items) where
 live:=fun _ _ st=>st.1.elim fun o y=>⟨o,y.1⟩
 frame:=fun _ _ _ st k=>⟨st.1.at fun o e=>k it aS0 o e,st.2.elim fun o y=>⟨o,k t (aS2 _ aS0) o y.1,y.2⟩⟩
 item:=fun i s Q E lt st q=>zJ st.1 st.2 (Array.getElem?_eq_getElem lt) fun h' again sb=>q _ h' s.toks (Array.getElem?_eq_getElem lt) ⟨again,st.2.elim fun o y=>⟨o,sb.extBut t o ne y.1,y.2⟩⟩ sb
 done:=fun s Q E st q=>zK hh st.1 st.2 (Array.getElem?_eq_none (aR0 _)) q
end
structure Ap (z TI TO i1 i2:Addr) (fp1 fp2:List Addr):Prop where
 TIz:TI ≠ z
 TOz:TO ≠ z
 TITO:TI ≠ TO
 z1:z ∉ fp1
 z2:z ∉ fp2
 o1:TO ∉ fp1
 o2:TO ∉ fp2
 t1:TI ∉ fp1
 t2:TI ∉ fp2
 m1:i1 ∈ fp1
 m2:i2 ∈ fp2
 n1:i1 ∉ fp2
 n2:i2 ∉ fp1
structure tK (z TI TO i1 i2:Addr) (St1 St2:Nat->Heap->Prop) (f0:Value) (i j:Nat) (h:Heap):Prop where
 zz:IsZip h z TI TO f0
 ti:IsPair h TI (.ref i1) (.ref i2)
 to_:∃ a b,IsPair h TO a b
 s1:St1 i h
 s2:St2 j h
section
variable {prog : Program} {w : World} {A : Around} {E : Value → Shared → Prop} {s : Shared} {z TI TO i1 i2 : Addr} {fp1 fp2 : List Addr} {n1 n2 : Nat} {P1 P2 : Nat → Value → Prop} {St1 St2 : Nat → Heap → Prop}
theorem kX (ap:Ap z TI TO i1 i2 fp1 fp2) {b:Addr} (h:b ∉ fp1):b ≠ i1:=fun e=>h (e ▸ ap.m1)
theorem oV (ap:Ap z TI TO i1 i2 fp1 fp2) {b:Addr} (h:b ∉ fp2):b ≠ i2:=fun e=>h (e ▸ ap.m2)
theorem item (D1:Draws prog w A.in1 i1 fp1 n1 P1 St1) (D2:Draws prog w A.in1 i2 fp2 n2 P2 St2) (ap:Ap z TI TO i1 i2 fp1 fp2) {i:Nat} (l1:i < n1) (l2:i < n2) (st:tK z TI TO i1 i2 St1 St2 .none i i s.heap) {Q:Option Value->Shared->Prop}
  (q:∀ x y h' tk,P1 i x->P2 i y->tK z TI TO i1 i2 St1 St2 (rawInt s.heap.objs.size) (i+1) (i+1) h'->IsPair h' s.heap.objs.size x y->(∀ c o,c ≠ z->c ≠ TO->c ≠ i1->c ≠ i2->s.heap.get? c=some o->h'.get? c=some o)->
   h'.objs.size=s.heap.objs.size+1->Q (some (.ref s.heap.objs.size)) { s with heap:=h',toks:=tk }):wpAny (model prog w) A (pyNext (.ref z)) Q E s:=by
 obtain ⟨hz,hti,⟨a,b,hto⟩,h1,h2⟩:=st
 have T:s.TypeIs (.ref z) "zip":=⟨_,hz,rfl⟩
 have slot:=PySem.F.slot_zip_next
 unfold pyNext
 apply aQ5
 apply wpAny_attempt
 apply aV9 (name:=Str.ofString "__next__") T slot
 apply aW3 slot T PySem.F.entry_zip_next _ (PySem.F.args_zip_next_1 _)
 change wpAny _ _ (field (.ref z) 2 >>= _) _ _ _
 apply aQ5
 refine aV8 hz rfl (x:=.bool false) rfl ?_
 change wpAny _ _ (field (.ref z) 3 >>= _) _ _ _
 apply aQ5
 refine aV8 hz rfl (x:=.ref TI) rfl ?_
 apply aQ5
 apply bc6 hti rfl
 change wpAny _ _ (Builtin.SmallTypes.ownedTupleIsFree (.ref z) >>= _) _ _ _
 apply aQ5
 unfold Builtin.SmallTypes.ownedTupleIsFree
 apply aQ5
 refine aV8 hz rfl (x:=.none) rfl (aQ9 ?_)
 simp only [if_true]
 apply aQ5
 apply wpAny_rule
 apply aQ5
 refine aV8 hz rfl (x:=.ref TO) rfl ?_
 apply aQ5
 refine aW9 hz (by simp) fun g1 hz1 sb1=>?_
 have k1:∀ c o,c ≠ z->s.heap.get? c=some o->g1.get? c=some o:=fun c o c1 e=>sb1.extBut c o c1 e
 apply aQ5
 simp only [List.zipIdx_cons,List.zipIdx_nil,List.forIn_cons,List.forIn_nil]
 apply aQ5
 apply aQ5
 apply wpAny_onRaise
 change wpAny _ _ (Builtin.SmallTypes.nextOf (.ref i1) >>= _) _ _ _
 apply aQ5
 refine D1.item i { s with heap:=g1 } _ _ l1 (D1.frame _ _ _ h1 fun c hc o e=>k1 c o (fun y=>ap.z1 (y ▸ hc)) e) fun x g2 tk2 px st1 sb2=>aQ9 ?_
 have k2:∀ c o,c ≠ z->c ≠ i1->s.heap.get? c=some o->g2.get? c=some o:=fun c o c1 c2 e=>sb2.extBut c o c2 (k1 c o c1 e)
 have to2:IsPair g2 TO a b:=k2 _ _ ap.TOz (kX ap ap.o1) hto
 apply aQ5
 apply bc6 to2 rfl
 apply aQ5
 refine wpAny_updateSeq_pair to2 fun g3 to3 sb3=>?_
 have to3:IsPair g3 TO x b:=to3
 apply aQ5
 apply wpAny_letGo
 apply aQ9
 apply aQ5
 apply aQ5
 apply wpAny_onRaise
 change wpAny _ _ (Builtin.SmallTypes.nextOf (.ref i2) >>= _) _ _ _
 apply aQ5
 have k3:∀ c o,c ≠ z->c ≠ i1->c ≠ TO->s.heap.get? c=some o->g3.get? c=some o:=fun c o c1 c2 c3 e=>sb3.extBut c o c3 (k2 c o c1 c2 e)
 refine D2.item i { s with heap:=g3,toks:=tk2 } _ _ l2 (D2.frame _ _ _ h2 fun c hc o e=>k3 c o (fun y=>ap.z2 (y ▸ hc)) (fun y=>ap.n1 (y ▸ hc)) (fun y=>ap.o2 (y ▸ hc)) e) fun y g4 tk4 py st2 sb4=>aQ9 ?_
 have to4:IsPair g4 TO x b:=sb4.extBut _ _ (oV ap ap.o2) to3
 apply aQ5
 apply bc6 to4 rfl
 apply aQ5
 refine wpAny_updateSeq_pair to4 fun g5 to5 sb5=>?_
 have to5:IsPair g5 TO x y:=to5
 apply aQ5
 apply wpAny_letGo
 apply aQ9
 apply aQ9
 apply aQ5
 apply bc6 to5 rfl
 apply aQ5
 refine wpAny_newTuple ?_ (by show 2<=sizeLine; decide)
 have size:g5.objs.size=s.heap.objs.size:=by rw [sb5.1,sb4.1,sb3.1,sb2.1,sb1.1]
 have k5:∀ c o,c ≠ z->c ≠ TO->c ≠ i1->c ≠ i2->s.heap.get? c=some o->g5.get? c=some o:=fun c o c1 c2 c3 c4 e=>sb5.extBut c o c2 (sb4.extBut c o c4 (k3 c o c1 c3 c2 e))
 have z5:IsZip g5 z TI TO .ellipsis:=sb5.extBut _ _ (Ne.symm ap.TOz) (sb4.extBut _ _ (oV ap ap.z2) (sb3.extBut _ _ (Ne.symm ap.TOz) (sb2.extBut _ _ (kX ap ap.z1) hz1)))
 change wpAny _ _ (Builtin.SmallTypes.ownedTupleHandOut (.ref z) (.ref g5.objs.size) >>= _) _ _ _
 apply aQ5
 unfold Builtin.SmallTypes.ownedTupleHandOut
 apply aQ5
 have z6:IsZip (g5.push { cls:=.type "tuple",data:=.seq #[x,y] }) z TI TO .ellipsis:=aQ6 _ z5
 refine aW9 z6 (by simp) fun g7 z7 sb7=>?_
 have z7:IsZip g7 z TI TO (rawInt g5.objs.size):=z7
 refine aW9 z7 (by simp) fun g8 z8 sb8=>?_
 have z8:IsZip g8 z TI TO (rawInt g5.objs.size):=z8
 have zlt:z < g5.objs.size:=aR8 z5
 have up:∀ c o,c ≠ z->g5.get? c=some o->g8.get? c=some o:=fun c o c1 e=>sb8.extBut c o c1 (sb7.extBut c o c1 (aQ6 _ e))
 have p8:IsPair g8 g5.objs.size x y:=sb8.extBut _ _ (aX9 zlt) (sb7.extBut _ _ (aX9 zlt) (aS1 _ rfl))
 have s8:g8.objs.size=g5.objs.size+1:=by rw [sb8.1,sb7.1,ba4]
 have f1:St1 (i+1) g8:=D1.frame _ _ _ st1 fun c hc o e=>up c o (fun y=>ap.z1 (y ▸ hc)) (sb5.extBut c o (fun y=>ap.o1 (y ▸ hc)) (sb4.extBut c o (fun y=>ap.n2 (y ▸ hc)) (sb3.extBut c o (fun y=>ap.o1 (y ▸ hc)) e)))
 have f2:St2 (i+1) g8:=D2.frame _ _ _ st2 fun c hc o e=>up c o (fun y=>ap.z2 (y ▸ hc)) (sb5.extBut c o (fun y=>ap.o2 (y ▸ hc)) e)
 have ti8:IsPair g8 TI (.ref i1) (.ref i2):=up _ _ ap.TIz (k5 _ _ ap.TIz ap.TITO (kX ap ap.t1) (oV ap ap.t2) hti)
 rw [size] at z8 p8 s8
 apply aQ9
 refine⟨_,rfl,aQ9 ?_⟩
 change Q (some (.ref g5.objs.size)) _
 rw [size]
 exact q x y g8 tk4 px py ⟨z8,ti8,⟨x,y,up _ _ ap.TOz to5⟩,f1,f2⟩ p8 (fun c o c1 c2 c3 c4 e=>up c o c1 (k5 c o c1 c2 c3 c4 e)) s8
theorem fin (D1:Draws prog w A.in1 i1 fp1 n1 P1 St1) (D2:Draws prog w A.in1 i2 fp2 n2 P2 St2) (ap:Ap z TI TO i1 i2 fp1 fp2) {i:Nat} (le:i=n1 ∨ (i < n1/\i=n2)) (st:tK z TI TO i1 i2 St1 St2 .none i i s.heap) {Q:Option Value->Shared->Prop}
  (q:∀ h' tk,(∀ c o,c ≠ z->c ≠ TO->c ≠ i1->c ≠ i2->s.heap.get? c=some o->h'.get? c=some o)->Q none { s with heap:=h',toks:=tk }):wpAny (model prog w) A (pyNext (.ref z)) Q E s:=by
 obtain ⟨hz,hti,⟨a,b,hto⟩,h1,h2⟩:=st
 have T:s.TypeIs (.ref z) "zip":=⟨_,hz,rfl⟩
 have slot:=PySem.F.slot_zip_next
 unfold pyNext
 apply aQ5
 apply wpAny_attempt
 apply aV9 (name:=Str.ofString "__next__") T slot
 apply aW3 slot T PySem.F.entry_zip_next _ (PySem.F.args_zip_next_1 _)
 change wpAny _ _ (field (.ref z) 2 >>= _) _ _ _
 apply aQ5
 refine aV8 hz rfl (x:=.bool false) rfl ?_
 change wpAny _ _ (field (.ref z) 3 >>= _) _ _ _
 apply aQ5
 refine aV8 hz rfl (x:=.ref TI) rfl ?_
 apply aQ5
 apply bc6 hti rfl
 change wpAny _ _ (Builtin.SmallTypes.ownedTupleIsFree (.ref z) >>= _) _ _ _
 apply aQ5
 unfold Builtin.SmallTypes.ownedTupleIsFree
 apply aQ5
 refine aV8 hz rfl (x:=.none) rfl (aQ9 ?_)
 simp only [if_true]
 apply aQ5
 apply wpAny_rule
 apply aQ5
 refine aV8 hz rfl (x:=.ref TO) rfl ?_
 apply aQ5
 refine aW9 hz (by simp) fun g1 hz1 sb1=>?_
 have k1:∀ c o,c ≠ z->s.heap.get? c=some o->g1.get? c=some o:=fun c o c1 e=>sb1.extBut c o c1 e
 apply aQ5
 simp only [List.zipIdx_cons,List.zipIdx_nil,List.forIn_cons,List.forIn_nil]
 apply aQ5
 apply aQ5
 apply wpAny_onRaise
 change wpAny _ _ (Builtin.SmallTypes.nextOf (.ref i1) >>= _) _ _ _
 apply aQ5
 have z1:IsZip g1 z TI TO .ellipsis:=hz1
 rcases le with rfl | ⟨lt,rfl⟩
 ·refine D1.done { s with heap:=g1 } _ _ (D1.frame _ _ _ h1 fun c hc o e=>k1 c o (fun y=>ap.z1 (y ▸ hc)) e) fun g2 e eb ex=>?_
  have z2:IsZip g2 z TI TO .ellipsis:=eb _ _ (kX ap ap.z1) z1
  refine aW9 z2 (by simp) fun g3 z3 sb3=>?_
  obtain ⟨oe,eo,co⟩:=ex
  have ne:e ≠ z:=fun y=>by
   rw [y,z2] at eo
   have:=aT2 eo
   rw [<- this] at co; exact absurd (show Value.type "zip" = Value.type "StopIteration" from co) (by decide)
  apply aQ5
  refine wpAny_isInstance (T:="StopIteration") (b:=true) ⟨oe,sb3.extBut _ _ ne eo,co⟩ isSubtype_stop ?_
  exact aQ9 (q g3 s.toks fun c o c1 _ c3 _ e=>sb3.extBut c o c1 (eb c o c3 (k1 c o c1 e)))
 ·refine D1.item i { s with heap:=g1 } _ _ lt (D1.frame _ _ _ h1 fun c hc o e=>k1 c o (fun y=>ap.z1 (y ▸ hc)) e) fun x g2 tk2 px st1 sb2=>aQ9 ?_
  have k2:∀ c o,c ≠ z->c ≠ i1->s.heap.get? c=some o->g2.get? c=some o:=fun c o c1 c2 e=>sb2.extBut c o c2 (k1 c o c1 e)
  have to2:IsPair g2 TO a b:=k2 _ _ ap.TOz (kX ap ap.o1) hto
  apply aQ5
  apply bc6 to2 rfl
  apply aQ5
  refine wpAny_updateSeq_pair to2 fun g3 to3 sb3=>?_
  apply aQ5
  apply wpAny_letGo
  apply aQ9
  apply aQ5
  apply aQ5
  apply wpAny_onRaise
  change wpAny _ _ (Builtin.SmallTypes.nextOf (.ref i2) >>= _) _ _ _
  apply aQ5
  have k3:∀ c o,c ≠ z->c ≠ i1->c ≠ TO->s.heap.get? c=some o->g3.get? c=some o:=fun c o c1 c2 c3 e=>sb3.extBut c o c3 (k2 c o c1 c2 e)
  refine D2.done { s with heap:=g3,toks:=tk2 } _ _ (D2.frame _ _ _ h2 fun c hc o e=>k3 c o (fun y=>ap.z2 (y ▸ hc)) (fun y=>ap.n1 (y ▸ hc)) (fun y=>ap.o2 (y ▸ hc)) e) fun g4 e eb ex=>?_
  have z4:IsZip g4 z TI TO .ellipsis:=eb _ _ (oV ap ap.z2) (sb3.extBut _ _ (Ne.symm ap.TOz) (sb2.extBut _ _ (kX ap ap.z1) z1))
  refine aW9 z4 (by simp) fun g5 z5 sb5=>?_
  obtain ⟨oe,eo,co⟩:=ex
  have ne:e ≠ z:=fun y=>by
   rw [y,z4] at eo
   have:=aT2 eo
   rw [<- this] at co; exact absurd (show Value.type "zip" = Value.type "StopIteration" from co) (by decide)
  apply aQ5
  refine wpAny_isInstance (T:="StopIteration") (b:=true) ⟨oe,sb5.extBut _ _ ne eo,co⟩ isSubtype_stop ?_
  exact aQ9 (q g5 tk2 fun c o c1 c2 c3 c4 e=>sb5.extBut c o c1 (eb c o c4 (k3 c o c1 c3 c2 e)))
end
def fE (h:Heap) (t u:Addr):Heap:=
 ((((h.push { cls:=.type "tuple_iterator",data:=.fields #[.ref t,.int 0 0] }).push { cls:=.type "tuple_iterator",data:=.fields #[.ref u,.int 0 0] }).push { cls:=.type "tuple",data:=.seq #[.ref h.objs.size,.ref (h.objs.size+1)] }).push
  { cls:=.type "tuple",data:=.seq #[.none,.none] }).push { cls:=.type "zip",data:=.fields #[.none,.bool false,.bool false,.ref (h.objs.size+2),.ref (h.objs.size+3)] }
theorem ak1 (t u:Addr) (xs ys:Array Value):Meets (Builtin.«zip.__new__» ⟨[.type "zip",.ref t,.ref u],[]⟩) (fun _ R s=>s.heap.IsTuple t xs/\s.heap.IsTuple u ys/\R (.ok (.ret (.ref (s.heap.objs.size+4)))) { s with heap:=fE s.heap t u }):=
 .of_wp fun prog w A R s h=>by
  obtain ⟨hp,g,d,tk,os⟩:=s
  obtain ⟨ht,hu,h⟩:=h
  have sub:=sub_zip
  have a1:Heap.IsTuple (Shared.heap ⟨hp,g,d,tk,os⟩) t xs:=ht
  have a2:Heap.IsTuple (Shared.heap ⟨hp.push { cls:=.type "tuple_iterator",data:=.fields #[.ref t,.int 0 0] },g,d,tk,os⟩) u ys:=hu.elim fun o y=>⟨o,aQ6 _ y.1,y.2⟩
  wp_walk using bc3 a1,bc3 a2
  have e:∀ (o:Obj) (k:Heap),(k.push o).objs.size=k.objs.size+1:=fun o k=>ba4 ..
  refine⟨_,rfl,?_⟩
  simp only [fE,e] at h ⊢
  exact h
section
variable {prog : Program} {w : World} {A : Around} {E : Value → Shared → Prop} {s : Shared}
theorem ak2 {t u:Addr}{xs ys:Array Value}{Q:Value->Shared->Prop} (ht:s.heap.IsTuple t xs) (hu:s.heap.IsTuple u ys)
  (q:∀ h',IsZip h' (s.heap.objs.size+4) (s.heap.objs.size+2) (s.heap.objs.size+3) .none->IsPair h' (s.heap.objs.size+2) (.ref s.heap.objs.size) (.ref (s.heap.objs.size+1))->
   IsPair h' (s.heap.objs.size+3) .none .none->h'.IsTupleIter s.heap.objs.size t 0->h'.IsTupleIter (s.heap.objs.size+1) u 0->(∀ c o,s.heap.get? c=some o->h'.get? c=some o)->Q (.ref (s.heap.objs.size+4)) { s with heap:=h' }) :
  wpAny (model prog w) A (call (.type "zip") [.ref t,.ref u]) Q E s:=by
 refine callType_new PySem.F.called_zip (by decide) (PySem.F.typeCall_zip_2 _ _) (PySem.F.newCall_zip_2 _ _) (fun obj=>PySem.F.args_object_init_3 obj _ _) PySem.F.entry_zip_new (ak1 t u xs ys) ⟨ht,hu,?_⟩
 have e:∀ (o:Obj) (k:Heap),(k.push o).objs.size=k.objs.size+1:=fun o k=>ba4 ..
 have p0:∀ (k:Heap) (o:Obj) (m:Nat),o.isFreed=false->m=k.objs.size->(k.push o).get? m=some o:=fun k o m f z=>by rw [z]; exact aS1 _ f
 have g0:(fE s.heap t u).get? s.heap.objs.size=some { cls:=.type "tuple_iterator",data:=.fields #[.ref t,.int 0 0] }:=by
  unfold fE
  exact aQ6 _ (aQ6 _ (aQ6 _ (aQ6 _ (p0 _ _ _ rfl rfl))))
 have g1:(fE s.heap t u).get? (s.heap.objs.size+1)=some { cls:=.type "tuple_iterator",data:=.fields #[.ref u,.int 0 0] }:=by
  unfold fE
  exact aQ6 _ (aQ6 _ (aQ6 _ (p0 _ _ _ rfl (by simp only [e]))))
 have g2:(fE s.heap t u).get? (s.heap.objs.size+2)=some { cls:=.type "tuple",data:=.seq #[.ref s.heap.objs.size,.ref (s.heap.objs.size+1)] }:=by
  unfold fE
  exact aQ6 _ (aQ6 _ (p0 _ _ _ rfl (by simp only [e])))
 have g3:(fE s.heap t u).get? (s.heap.objs.size+3)=some { cls:=.type "tuple",data:=.seq #[.none,.none] }:=by
  unfold fE
  exact aQ6 _ (p0 _ _ _ rfl (by simp only [e]))
 have g4:(fE s.heap t u).get? (s.heap.objs.size+4)=some { cls:=.type "zip",data:=.fields #[.none,.bool false,.bool false,.ref (s.heap.objs.size+2),.ref (s.heap.objs.size+3)] }:=by
  unfold fE
  exact p0 _ _ _ rfl (by simp only [e])
 refine⟨⟨_,g4,rfl⟩,q _ g4 g2 g3 ⟨_,g0,rfl,rfl⟩ ⟨_,g1,rfl,rfl⟩ fun c o z=>?_⟩
 unfold fE
 exact aQ6 _ (aQ6 _ (aQ6 _ (aQ6 _ (aQ6 _ z))))
end
end Zp
namespace L2
open PySem PySem.Spec PyProof.Rows
def tL (K:PySem.W.Frag) (a b:Addr):It:=
  ⟨fun i H=>∃ xs ys x y,aJ K H a xs/\aJ K H b ys/\xs[i]? = some x/\ys[i]? = some y,
   fun i H v H'=>∃ T x y,H T=none/\v = .ref T/\H'=upd H T (.tup [x,y])/\∀ xs ys,aJ K H a xs->aJ K H b ys->xs[i]? = some x/\ys[i]? = some y,
   fun i H=>∃ xs ys,aJ K H a xs/\aJ K H b ys/\(i=xs.length ∨ (i < xs.length/\i=ys.length))⟩
def Sq (t:Bool) (K:PySem.W.Frag) (H:Hp) (a:Addr) (xs:List V):Prop:=match t with
 | true=>aJ K H a xs
 | false=>aM K H a xs
def fF (t:Bool) (h:Heap) (i a:Addr) (n:Nat):Prop:=match t with
 | true=>h.IsTupleIter i a n
 | false=>h.IsListIter i a n
def zL (t:Bool) (h:Heap) (a:Addr) (xs:Array Value):Prop:=match t with
 | true=>h.IsTuple a xs
 | false=>h.IsList a xs
theorem fF.at {h h':Heap}{i a:Addr}{n:Nat}:∀ {t:Bool},fF t h i a n->(∀ o,h.get? i=some o->h'.get? i=some o)->fF t h' i a n
 | true,x,k=>Heap.IsTupleIter.at x k
 | false,x,k=>Heap.IsListIter.at x k
theorem fF.ob {h:Heap}{i a:Addr}{n:Nat}:∀ {t:Bool},fF t h i a n->∃ o,h.get? i=some o/\∀ v,o.data ≠ .cell v
 | true,⟨o,f,_,d⟩=>⟨o,f,fun v q=>by rw [d] at q; cases q⟩
 | false,⟨o,f,_,d⟩=>⟨o,f,fun v q=>by rw [d] at q; cases q⟩
theorem fF.draws {prog:Program}{w:World}{A:Around}:∀ (t:Bool) (hh:A.handled=none) (it a:Addr) (ne:a ≠ it) (items:Array Value),Draws prog w A it [it,a] items.size (fun i v=>items[i]? = some v) (fun i h=>fF t h it a i/\zL t h a items)
 | true,hh,it,a,ne,items=>Zp.ak0 hh it a ne items
 | false,hh,it,a,ne,items=>Draws.list hh it a ne items
section
variable {X : Cx} {pins : List (Addr × Obj)} {σ : St} {H : Hp} {s : Shared} {a : Addr} {xs ys : List V}
theorem Sq.get (I:a8 X pins σ H s):∀ {t:Bool},Sq t X.K H a xs->∃ us,aK xs us/\zL t s.heap a us.toArray
 | true,h=>by obtain ⟨us,r,p,_⟩:=I.tuple h; exact⟨us,r,p⟩
 | false,h=>by obtain ⟨us,r,p,_⟩:=I.list h; exact⟨us,r,p.isList⟩
theorem Sq.inj (I:a8 X pins σ H s):∀ {t:Bool},Sq t X.K H a xs->Sq t X.K H a ys->xs=ys
 | true,h,g=>I.tuple_inj h g
 | false,h,g=>I.list_inj h g
theorem Sq.off (I:a8 X pins σ H s) (he:H a=none) (hb:X.base.get? a=none):∀ {t:Bool},Sq t X.K H a xs->False
 | true,h=>by
  rcases h with (h | ⟨_,h⟩) | ⟨o,_,_,h,_⟩
  ·rw [he] at h; cases h
  ·rw [he] at h; cases h
  ·have:=I.ok.mod.kin a o h
   rw [hb] at this; cases this
 | false,h=>by
  rcases h with (h | ⟨_,h⟩) | ⟨o,_,_,h,_⟩
  ·rw [he] at h; cases h
  ·rw [he] at h; cases h
  ·have:=I.ok.mod.kin a o h
   rw [hb] at this; cases this
end
def ak3 (t1 t2:Bool) (K:PySem.W.Frag) (a b:Addr):It:=
  ⟨fun i H=>∃ xs ys x y,Sq t1 K H a xs/\Sq t2 K H b ys/\xs[i]? = some x/\ys[i]? = some y,
   fun i H v H'=>∃ T x y,H T=none/\v = .ref T/\H'=upd H T (.tup [x,y])/\∀ xs ys,Sq t1 K H a xs->Sq t2 K H b ys->xs[i]? = some x/\ys[i]? = some y,
   fun i H=>∃ xs ys,Sq t1 K H a xs/\Sq t2 K H b ys/\(i=xs.length ∨ (i < xs.length/\i=ys.length))⟩
structure tM (t1 t2:Bool) (z TI TO i1 i2 a b:Addr) (i:Nat) (h:Heap):Prop where
 zz:IsZip h z TI TO .none
 ti:IsPair h TI (.ref i1) (.ref i2)
 to_:∃ x y,IsPair h TO x y
 s1:fF t1 h i1 a i
 s2:fF t2 h i2 b i
theorem zM (t1 t2:Bool) {P:Program}{w:World}{K:PySem.W.Frag}{elts:List Expr}{k:Nat}{pos:Pos} (a b z TI TO i1 i2:Addr) (d : [z,TI,TO,i1,i2].Nodup) :
  gP P w K (.Tuple elts k pos) (ak3 t1 t2 K a b) [z,TI,TO,i1,i2] z (tM t1 t2 z TI TO i1 i2 a b):=by
 have nd:z ≠ TI/\z ≠ TO/\z ≠ i1/\z ≠ i2/\TI ≠ TO/\TI ≠ i1/\TI ≠ i2/\TO ≠ i1/\TO ≠ i2/\i1 ≠ i2:=by
  simp only [List.nodup_cons,aR2,aR6,aU1,not_or] at d
  obtain ⟨⟨a1,a2,a3,a4⟩,⟨b1,b2,b3⟩,⟨c1,c2⟩,e1,_⟩:=d
  exact⟨a1,a2,a3,a4,b1,b2,b3,c1,c2,e1⟩
 obtain ⟨n1,n2,n3,n4,n5,n6,n7,n8,n9,n10⟩:=nd
 have offBase:∀ {X:Cx}{pins:List (Addr × Obj)}{σ:St}{H:Hp}{s:Shared},a8 X pins σ H s->(∀ c ∈ [z,TI,TO,i1,i2],fQ X pins H c)->∀ c ∈ [z,TI,TO,i1,i2],X.base.get? c=none:=by
  intro X pins σ H s I hf c hc
  cases q:X.base.get? c with
  | none=>rfl
  | some o=>
   rcases (hf c hc).2.2.2.1 with h | h
   ·exact absurd h (I.ok.noex c o q)
   ·exact absurd (aR9 (aR8 q) (aT4 I.ok.bsz h)) (aW1 _)
 have off:∀ {t:Bool}{X:Cx}{pins:List (Addr × Obj)}{σ:St}{H:Hp}{s:Shared}{c:Addr}{zs:List V},a8 X pins σ H s->(∀ c ∈ [z,TI,TO,i1,i2],fQ X pins H c)->Sq t X.K H c zs->c ∉ [z,TI,TO,i1,i2]:=by
  intro t X pins σ H s c zs I hf hc hm
  exact Sq.off I (hf c hm).1 (offBase I hf c hm) hc
 have ap:∀ {c e:Addr},c ∉ [z,TI,TO,i1,i2]->e ∉ [z,TI,TO,i1,i2]->Zp.Ap z TI TO i1 i2 [i1,c] [i2,e]:=fun {c e} hc he=>by
  simp only [aR2,aR6,aU1,not_or] at hc he
  obtain ⟨c1,c2,c3,c4,c5⟩:=hc
  obtain ⟨e1,e2,e3,e4,e5⟩:=he
  have two:∀ {q u v:Addr},q ≠ u->q ≠ v->q ∉ [u,v]:=fun {q u v} h1 h2 hm=>by
   simp only [aR2,aR6,aU1] at hm
   exact hm.elim h1 h2
  exact⟨n1.symm,n2.symm,n5,two n3 (Ne.symm c1),two n4 (Ne.symm e1),two n8 (Ne.symm c3),two n9 (Ne.symm e3),two n6 (Ne.symm c2),two n7 (Ne.symm e2),aS0,aS0,two n10 (Ne.symm e4),two n10.symm (Ne.symm c5)⟩
 refine⟨by simp,fun i h st c hc=>?_,fun i h h' st kp=>?_,?_,?_,fun A i s Q E st q=>wpAny_pyIter_zip st.zz q⟩
 ·simp only [aR2,aR6,aU1] at hc
  obtain ⟨x,y,to⟩:=st.to_
  rcases hc with rfl | rfl | rfl | rfl | rfl
  ·exact⟨_,st.zz,fun v q=>by cases q⟩
  ·exact⟨_,st.ti,fun v q=>by cases q⟩
  ·exact⟨_,to,fun v q=>by cases q⟩
  ·exact st.s1.ob
  ·exact st.s2.ob
 ·obtain ⟨x,y,to⟩:=st.to_
  exact⟨kp z (by simp) _ st.zz,kp TI (by simp) _ st.ti,⟨x,y,kp TO (by simp) _ to⟩,st.s1.at fun o e=>kp i1 (by simp) o e,st.s2.at fun o e=>kp i2 (by simp) o e⟩
 ·
  intro X hP hw hK hc i pins s σ H E I hf st hg
  subst hP hw hK
  obtain ⟨xs,ys,x,y,ha,hb,hx,hy⟩:=hg
  obtain ⟨us,ru,pu⟩:=Sq.get I ha
  obtain ⟨vs,rv,pv'⟩:=Sq.get I hb
  obtain ⟨ux,eux,rux⟩:=ru.get hx
  obtain ⟨vy,evy,rvy⟩:=rv.get hy
  have fa:=off I hf ha
  have fb:=off I hf hb
  have hh:X.A.in1.handled=none:=I.ok.hd hc
  have l1:i < us.toArray.size:=by simpa using (aR4.mp eux).1
  have l2:i < vs.toArray.size:=by simpa using (aR4.mp evy).1
  have fa':a ≠ i1:=fun q=>fa (by rw [q]; simp)
  have fb':b ≠ i2:=fun q=>fb (by rw [q]; simp)
  have D1:=fF.draws t1 (prog:=X.prog) (w:=X.w) hh i1 a fa' us.toArray
  have D2:=fF.draws t2 (prog:=X.prog) (w:=X.w) hh i2 b fb' vs.toArray
  refine Zp.item D1 D2 (ap fa fb) l1 l2 ⟨st.zz,st.ti,st.to_,⟨st.s1,pu⟩,⟨st.s2,pv'⟩⟩ fun p q h' tk hp hq st' pr kp sz=>⟨_,rfl,?_⟩
  obtain rfl:p=ux:=by
   have:us.toArray[i]? = some ux:=by simpa using eux
   rw [this] at hp; exact (aT2 hp).symm
  obtain rfl:q=vy:=by
   have:vs.toArray[i]? = some vy:=by simpa using evy
   rw [this] at hq; exact (aT2 hq).symm
  refine wpAny_letOwnedTupleGo_zip (s:={ s with heap:=h',toks:=tk }) st'.zz fun g zz sb=>?_
  have hzl:z < s.heap.objs.size:=aR8 st.zz
  have up:∀ c o,c ≠ z->c ≠ TO->c ≠ i1->c ≠ i2->s.heap.get? c=some o->g.get? c=some o:=fun c o c1 c2 c3 c4 e=>sb.extBut c o c1 (kp c o c1 c2 c3 c4 e)
  have hT:H s.heap.objs.size=none:=I.hok.fresh (aR0 _)
  have prG:IsPair g s.heap.objs.size p q:=sb.extBut _ _ (aX9 hzl) pr
  have fpn:∀ c u,H c=some u->c ∉ [z,TI,TO,i1,i2]:=fun c u e hm=>by rw [(hf c hm).1] at e; cases e
  have upH:∀ c o u,H c=some u->s.heap.get? c=some o->g.get? c=some o:=fun c o u e z=>by
   have:=fpn c u e
   simp only [aR2,aR6,aU1,not_or] at this
   exact up c o this.1 this.2.2.1 this.2.2.2.1 this.2.2.2.2 z
  have ns:∀ m,s.heap.Ns X.env.locals m->g.Ns X.env.locals m:=fun m hm=>by
   obtain ⟨o,es,ep,e1,e2⟩:=hm
   exact⟨o,es,ep,up _ o (Ne.symm (hf z (by simp)).2.1) (Ne.symm (hf TO (by simp)).2.1) (Ne.symm (hf i1 (by simp)).2.1) (Ne.symm (hf i2 (by simp)).2.1) e1,e2⟩
  have I2:a8 X pins σ (upd H s.heap.objs.size (.tup [x,y])) { s with heap:=g,toks:=tk }:=by
   refine I.step (g':=s.gens) (d':=s.drawn) (ch:=[z,TO,i1,i2]) (fun c hc'=>?_) (fun c o _ _ hc' e _=>?_) (fun c o _ _ hc' e _=>⟨o.slots,?_⟩) (fun c o _ e n=>?_) (fun c o hc' e=>⟨o,?_⟩)
    (fun c zs e=>by rw [aP (bX e hT)]; exact e) (fun c u zs e=>by rw [aP (bX e hT)]; exact e) (fun c ps e=>⟨#[],by rw [aP (bX e hT),e]; simp⟩) ns (fun c u e=>?_) I.bare
   ·have hm:c ∈ [z,TI,TO,i1,i2]:=by
     simp only [aR2,aR6,aU1] at hc' ⊢
     rcases hc' with h | h | h | h <;> simp [h]
    exact⟨(hf c hm).2.2.2.1,(hf c hm).2.1,(hf c hm).2.2.2.2.1,(hf c hm).2.2.2.2.2⟩
   ·simp only [aR2,aR6,aU1,not_or] at hc'
    exact up c o hc'.1 hc'.2.1 hc'.2.2.1 hc'.2.2.2 e
   ·simp only [aR2,aR6,aU1,not_or] at hc'
    exact up c o hc'.1 hc'.2.1 hc'.2.2.1 hc'.2.2.2 e
   ·rw [aP (aT3 (aR8 e))]; exact n
   ·simp only [aR2,aR6,aU1,not_or] at hc'
    exact up c o hc'.1 hc'.2.1 hc'.2.2.1 hc'.2.2.2 e
   ·by_cases hcT:c=s.heap.objs.size
    ·subst hcT
     rw [b8] at e; cases e
     exact⟨by show 2<=sizeLine; decide,[p,q],.cons rux (.cons rvy .nil),⟨_,prG,rfl,_,rfl⟩⟩
    ·rw [aP hcT] at e
     refine (I.hok c u e).stay (fun c' o' hc2 q'=>?_) (fun c' q'=>by rw [aP (bX q' hT)]; exact q') fun c' zs q'=>by rw [aP (bX q' hT)]; exact q'
     rcases hc2 with rfl | hc2
     ·exact upH _ _ _ e q'
     ·exact upH _ _ _ hc2 q'
  obtain ⟨x',y',to'⟩:=st'.to_
  refine⟨.ref s.heap.objs.size,_,I2,rfl,⟨_,x,y,hT,rfl,rfl,fun xs' ys' ha' hb'=>?_⟩,⟨zz,sb.extBut _ _ n1.symm st'.ti,⟨x',y',sb.extBut _ _ n2.symm to'⟩,st'.s1.1.at fun o e=>sb.extBut _ o n3.symm e,st'.s2.1.at fun o e=>sb.extBut _ o n4.symm e⟩,fun c hc'=>?_⟩
  ·rw [Sq.inj I ha' ha,Sq.inj I hb' hb]; exact⟨hx,hy⟩
  ·obtain ⟨o,e,_⟩:∃ o,s.heap.get? c=some o/\True:=by
    simp only [aR2,aR6,aU1] at hc'
    obtain ⟨x2,y2,to2⟩:=st.to_
    obtain ⟨o1,f1,_⟩:=st.s1.ob
    obtain ⟨o2,f2,_⟩:=st.s2.ob
    rcases hc' with rfl | rfl | rfl | rfl | rfl
    ·exact⟨_,st.zz,trivial⟩
    ·exact⟨_,st.ti,trivial⟩
    ·exact⟨_,to2,trivial⟩
    ·exact⟨_,f1,trivial⟩
    ·exact⟨_,f2,trivial⟩
   rw [aP (aT3 (aR8 e))]; exact (hf c hc').1
 ·
  intro X hP hw hK hc i pins s σ H E I hf st hg
  subst hP hw hK
  obtain ⟨xs,ys,ha,hb,hi⟩:=hg
  obtain ⟨us,ru,pu⟩:=Sq.get I ha
  obtain ⟨vs,rv,pv'⟩:=Sq.get I hb
  have fa:=off I hf ha
  have fb:=off I hf hb
  have hh:X.A.in1.handled=none:=I.ok.hd hc
  have fa':a ≠ i1:=fun q=>fa (by rw [q]; simp)
  have fb':b ≠ i2:=fun q=>fb (by rw [q]; simp)
  have D1:=fF.draws t1 (prog:=X.prog) (w:=X.w) hh i1 a fa' us.toArray
  have D2:=fF.draws t2 (prog:=X.prog) (w:=X.w) hh i2 b fb' vs.toArray
  have e1:=ru.length
  have e2:=rv.length
  refine Zp.fin D1 D2 (ap fa fb) (by simp only [aQ8]; omega) ⟨st.zz,st.ti,st.to_,⟨st.s1,pu⟩,⟨st.s2,pv'⟩⟩ fun g tk kp=>⟨rfl,?_⟩
  have fpn:∀ c u,H c=some u->c ∉ [z,TI,TO,i1,i2]:=fun c u e hm=>by rw [(hf c hm).1] at e; cases e
  have upH:∀ c o u,H c=some u->s.heap.get? c=some o->g.get? c=some o:=fun c o u e z=>by
   have:=fpn c u e
   simp only [aR2,aR6,aU1,not_or] at this
   exact kp c o this.1 this.2.2.1 this.2.2.2.1 this.2.2.2.2 z
  have ns:∀ m,s.heap.Ns X.env.locals m->g.Ns X.env.locals m:=fun m hm=>by
   obtain ⟨o,es,ep,e1,e2⟩:=hm
   exact⟨o,es,ep,kp _ o (Ne.symm (hf z (by simp)).2.1) (Ne.symm (hf TO (by simp)).2.1) (Ne.symm (hf i1 (by simp)).2.1) (Ne.symm (hf i2 (by simp)).2.1) e1,e2⟩
  refine I.step (g':=s.gens) (d':=s.drawn) (ch:=[z,TO,i1,i2]) (fun c hc'=>?_) (fun c o _ _ hc' e _=>?_) (fun c o _ _ hc' e _=>⟨o.slots,?_⟩) (fun c o _ e n=>n) (fun c o hc' e=>⟨o,?_⟩)
   (fun c zs e=>e) (fun c u zs e=>e) (fun c ps e=>⟨#[],by rw [e]; simp⟩) ns (fun c u e=>?_) I.bare
  ·have hm:c ∈ [z,TI,TO,i1,i2]:=by
    simp only [aR2,aR6,aU1] at hc' ⊢
    rcases hc' with h | h | h | h <;> simp [h]
   exact⟨(hf c hm).2.2.2.1,(hf c hm).2.1,(hf c hm).2.2.2.2.1,(hf c hm).2.2.2.2.2⟩
  ·simp only [aR2,aR6,aU1,not_or] at hc'
   exact kp c o hc'.1 hc'.2.1 hc'.2.2.1 hc'.2.2.2 e
  ·simp only [aR2,aR6,aU1,not_or] at hc'
   exact kp c o hc'.1 hc'.2.1 hc'.2.2.1 hc'.2.2.2 e
  ·simp only [aR2,aR6,aU1,not_or] at hc'
   exact kp c o hc'.1 hc'.2.1 hc'.2.2.1 hc'.2.2.2 e
  ·refine (I.hok c u e).stay (fun c' o' hc2 q'=>?_) (fun _ q'=>q') fun _ _ q'=>q'
   rcases hc2 with rfl | hc2
   ·exact upH _ _ _ e q'
   ·exact upH _ _ _ hc2 q'
abbrev ak4:=tM true true
theorem ak5 {P:Program}{w:World}{K:PySem.W.Frag}{elts:List Expr}{k:Nat}{pos:Pos} (a b z TI TO i1 i2:Addr) (d : [z,TI,TO,i1,i2].Nodup) :
  gP P w K (.Tuple elts k pos) (tL K a b) [z,TI,TO,i1,i2] z (ak4 z TI TO i1 i2 a b):=zM true true a b z TI TO i1 i2 d
section
variable {X : Cx}
def ak6 (K:PySem.W.Frag) (ta:TA):TI:=fun σ H R=>ta σ H fun vs H1=>∃ a b xs ys,vs = [.ref a,.ref b]/\aJ K H1 a xs/\aJ K H1 b ys/\R (tL K a b) H1
theorem ak7 {elts:List Expr}{kt:Nat}{pt:Pos}{a b:Expr}{ta:TA}{p pos:Pos} (hg:Gl X "zip") (hm:X.mg "zip" = none) (ha:PA X [a,b] ta) (hs:starEach [a,b] X.env = [(false,eval a X.env),(false,eval b X.env)]:=by rfl) (hs2:starEach [b] X.env = [(false,eval b X.env)]:=by rfl) :
  PI X (.Tuple elts kt pt) (.Call (.Name "zip" p) [a,b] [] pos) (ak6 X.K ta):=by
 intro pins s σ H R I h
 refine Call_ (i5 I hg hm PyProof.Rows.boot_zip (aX1 (aL (ha pos pins s σ H _ I h) fun us s1 ⟨vs,H1,I1,r1,q1⟩=>?_) (by rw [hs,hs2]) (by rw [hs2]; rfl)))
 obtain ⟨a',b',xs,ys,e,h1,h2,q⟩:=q1
 subst e
 cases r1 with
 | cons r rr=>
  cases rr with
  | cons r' rr=>
   cases rr
   cases r
   cases r'
   obtain ⟨us,_,p1,_⟩:=I1.tuple h1
   obtain ⟨ws,_,p2,_⟩:=I1.tuple h2
   refine Zp.ak2 p1 p2 fun h' z ti to s1' s2' kp=>wpAny_pyIter_zip z ?_
   have fresh:∀ k,H1 (s1.heap.objs.size+k)=none:=fun k=>I1.hok.fresh (aW6 _ _)
   refine⟨s1.heap.objs.size+4,[s1.heap.objs.size+4,s1.heap.objs.size+2,s1.heap.objs.size+3,s1.heap.objs.size,s1.heap.objs.size+1],_,_,H1,rfl,I1.kept (t':=s1.toks) kp,
    ak5 a' b' _ _ _ _ _ (by simp),⟨z,ti,⟨_,_,to⟩,s1',s2'⟩,fun c hc=>?_,q⟩
   simp only [aR2,aR6,aU1] at hc
   rcases hc with rfl | rfl | rfl | rfl | rfl
   ·exact I1.fpOk (aW6 _ _) (fresh 4)
   ·exact I1.fpOk (aW6 _ _) (fresh 2)
   ·exact I1.fpOk (aW6 _ _) (fresh 3)
   ·exact I1.fpOk (aR0 _) (fresh 0)
   ·exact I1.fpOk (aW6 _ _) (fresh 1)
theorem tN (hc:X.calm=true):cJ X (.builtin "all") (fun xs H Q=>∃ (a:Addr) (bs:List Bool),xs = [.ref a]/\aM X.K H a (bs.map V.bl)/\Q (.bl (bs.all id)) H):=by
 intro pins s σ H xs us Q I r h
 obtain ⟨a,bs,rfl,hq,q⟩:=h
 obtain ⟨u,rfl,ru⟩:=fC r
 cases ru
 obtain ⟨its,rv,p,hz⟩:=I.list hq
 have hl:=rv.length
 rw [aR1] at hl
 have hlt:a < s.heap.objs.size:=by obtain ⟨o,e,_⟩:=p.isList; exact aR8 e
 refine call_all_walk (wpAny_pyIter_list p.isList ?_)
 have hh:X.A.in1.handled=none:=I.ok.hd hc
 refine⟨s.heap.objs.size,_,_,_,_,_,fun i=>bs.getD i false,rfl,Walks.list hh s.heap.objs.size a (aT3 hlt) its.toArray,⟨⟨_,aS1 _ rfl,rfl,rfl⟩,p.isList.push _⟩,?_,fun h' tk kp=>?_⟩
 ·intro i v s' Q' E' hP hQ'
  have hi:its[i]? = some v:=by simpa using hP
  have hil:i < bs.length:=by rw [hl]; exact (aR4.mp hi).1
  obtain ⟨u,e1,e2⟩:=rv.get (i:=i) (x:=.bl bs[i]) (by simp [hil])
  rw [hi] at e1; cases e1
  cases e2
  have:bs.getD i false=bs[i]:=by rw [aR7,aQ7 hil]; rfl
  have hQ2:Q' (bs.getD i false) s':=hQ'
  rw [this] at hQ2
  exact bd1 hQ2
 ·have all_eq:(List.range its.toArray.size).all (fun i=>bs.getD i false)=bs.all id:=by
   rw [aQ8,<- hl]
   clear q rv hz hl hq hlt p hh kp
   induction bs with
   | nil=>rfl
   | cons b r ih=>
    rw [aT9,List.range_succ_eq_map,bb9,List.all_map,bb9,<- ih]
    rfl
  rw [all_eq]
  refine⟨.bl (bs.all id),H,I.kept (t':=tk) (h':=h') fun b o e=>kp b o (fun z=>?_) (aQ6 _ e),rfl,q⟩
  rw [aS4.mp z] at e
  exact absurd (aR8 e) (aW1 _)
end
structure tO (H:Hp) (J:It) (n:Nat) (R:Nat->V->Hp->Prop):Prop where
 go:∀ i H',aC H H'->i < n->J.go i H'
 yld:∀ i H' x H2,aC H H'->J.yld i H' x H2->i < n->aC H' H2/\R i x H2
 stop:∀ H',aC H H'->J.stop n H'
theorem tP {H1:Hp}{J:It}{n:Nat}{R:Nat->V->Hp->Prop}{g:TG}{tc:TT}{te:TE}{σ0:St}{Q:VK} (O:tO H1 J n R) (Pv:Nat->List V->Hp->Prop) (hn:n<=sizeLine)
  (h0:∀ D,H1 D=none->Pv 0 [] (upd H1 D (.lst [])))
  (mono:∀ i acc H' H2,aC H' H2->Pv i acc H'->Pv i acc H2)
  (hs:∀ i x acc D H',i < n->R i x H'->oO H1 D n i acc H'->Pv i acc H'->g x σ0 H' fun σ2 H3=>Wk σ0 σ2/\tc σ2 H3 fun b H4=>
   if b=true then te σ2 H4 fun v H5=>t9 H1 D n Pv i acc v H5 else yR H1 D n Pv i acc H4)
  (hd:∀ D acc H',H1 D=none->aC H1 H'->H' D=some (.lst acc)->acc.length<=n->Pv n acc H'->Q (.ref D) H') :
  ∀ D,H1 D=none->∃ W:Nat->Nat->List V->Hp->Prop,(∃ m,W 0 m [] (upd H1 D (.lst [])))/\mK g tc te σ0 J D Q W:=by
 intro D hD
 refine⟨CW H1 D n Pv,⟨n,rfl,aT7 _,aR0 _,b7 hD _,b8,h0 D hD⟩,?_⟩
 rintro i m acc H' ⟨rfl,hi,ha,sm,hDa,p⟩
 refine⟨hDa,?_⟩
 by_cases hlt:i < n
 ·refine .inr ⟨O.go i H' sm hlt,fun x H2 y=>?_⟩
  obtain ⟨s2,r2⟩:=O.yld i H' x H2 sm y hlt
  exact hs i x acc D H2 hlt r2 ⟨hlt,ha,hn,sm.trans s2,hD,s2 _ _ hDa⟩ (mono i acc H' H2 s2 p)
 ·have e:i=n:=by omega
  subst e
  exact .inl ⟨O.stop H' sm,hd D acc H' hD sm hDa ha p⟩
theorem zN {K:PySem.W.Frag}{H:Hp}{a b:Addr}{xs ys:List V} (ha:aJ K H a xs) (hb:aJ K H b ys) (hl:ys.length<=xs.length) :
  tO H (tL K a b) ys.length (fun i v H2=>∃ T x y,v = .ref T/\H2 T=some (.tup [x,y])/\xs[i]? = some x/\ys[i]? = some y):=by
 refine⟨fun i H' sm hi=>⟨xs,ys,xs[i]'(by omega),ys[i],sm.tup ha,sm.tup hb,by simp,by simp⟩,fun i H' v H2 sm y hi=>?_,fun H' sm=>⟨xs,ys,sm.tup ha,sm.tup hb,by omega⟩⟩
 obtain ⟨T,x,y',hT,hv,e,hxy⟩:=y
 subst e
 obtain ⟨h1,h2⟩:=hxy xs ys (sm.tup ha) (sm.tup hb)
 exact⟨b7 hT _,T,x,y',hv,b8,h1,h2⟩
end L2
namespace HT
open PySem PyProof.Rows
section
variable {prog : Program} {w : World} {A : Around} {E : Value → Shared → Prop} {s : Shared}
theorem ak8 {t sl:Addr}{items:Array Value}{vl vu:Value}{lo hi:Option Int}{Q:Value->Shared->Prop} (ht:IsTup s.heap t items) (hs:s.heap.IsSliceOf sl vl vu .none) (pl:IsPart vl lo) (pu:IsPart vu hi)
  (h1:aR items.size 0 lo=0) (h2:aR items.size items.size hi=items.size) (h:Q (.ref t) s):wpAny (model prog w) A (getItem (.ref t) (.ref sl)) Q E s:=by
 obtain ⟨o,e1,e2,e3⟩:=id hs
 have T:s.TypeIs (.ref sl) "slice":=⟨o,e1,e2⟩
 unfold getItem
 try with_reducible refine aY5 ?_
 first | refine aQ5 (aQ9 ?_) | skip
 apply aQ5
 apply wpAny_sequenceKey ht.typeIs (by decide)
 apply aQ5
 apply aV9 (name:=Str.ofString "__getitem__") ht.typeIs ba8
 apply aW3 ba8 ht.typeIs entry_tuple_getitem _ (args_tuple_getitem _ _)
 change wpAny _ _ (Builtin.Tuple.tupleItemsOf (.ref t) >>= _) _ _ s
 apply aQ5
 apply tupleItemsOf_ ht
 apply aQ5
 apply wpAny_typeOf T
 rw [if_pos (by decide)]
 apply aQ5
 apply xI hs pl pu
 rw [h1,h2]
 have yes:((((0:Nat):Int) == 0 && (1:Int) == 1 && (items.size - 0) == items.size)=true):=by simp
 change wpAny _ _ (if ((((0:Nat):Int) == 0 && (1:Int) == 1 && (items.size - 0) == items.size)=true) then _ else _) _ _ s
 rw [if_pos yes]
 apply aQ5
 unfold Builtin.Tuple.tupleIsExact
 apply aQ5
 apply wpAny_typeOf ht.typeIs
 apply aQ9
 change wpAny _ _ (rule "tuple.getitem.whole" >>= fun _=>ret (Value.ref t)) _ _ s
 apply aQ5
 apply wpAny_rule
 exact aQ9 ⟨_,rfl,aQ9 h⟩
end
end HT
namespace L2
open PySem PySem.Spec PyProof.Rows
section
variable {X : Cx}
def ak9 (K:PySem.W.Frag):V->Option Int->Option Int->Hp->VK->Prop:=fun x lo hi H Q=>∃ a xs,x = .ref a/\aJ K H a xs/\(∀ p,H p=none->Q (.ref p) (upd H p (.tup (dG xs lo hi))))/\(dG xs lo hi=xs->Q (.ref a) H)
theorem zO:iR X (ak9 X.K):=by
 intro pins s σ H x v vl vu lo hi sl Q I rx hs pl pu h
 obtain ⟨a,xs,ex,hx,q1,q2⟩:=h
 by_cases hw:HT.aR xs.length 0 lo=0/\HT.aR xs.length xs.length hi=xs.length
 ·subst ex
  cases rx
  obtain ⟨its,r,ht,hz⟩:=I.tuple hx
  have hlen:its.toArray.size=xs.length:=by rw [aQ8]; exact r.length.symm
  refine⟨"tuple",_,PyProof.Rows.slot_tuple_getitem.lookup,ht.typeIs,?_⟩
  refine HT.ak8 ht hs pl pu (by rw [hlen]; exact hw.1) (by rw [hlen]; exact hw.2) ⟨.ref a,H,I,rfl,q2 ?_⟩
  unfold dG
  rw [hw.1,hw.2]
  simp
 ·exact ad4 pins s σ H x v vl vu lo hi sl Q I rx hs pl pu ⟨a,xs,ex,hx,hw,q1⟩
end
theorem tQ (xs:List V):dG xs (some 1) none=xs.drop 1:=by
 unfold dG
 have e1:HT.aR xs.length 0 (some 1)=min 1 xs.length:=HT.xF xs.length 0 1
 have e2:HT.aR xs.length xs.length none=xs.length:=rfl
 rw [e1,e2]
 cases xs with
 | nil=>rfl
 | cons x r=>
  have:min 1 (x :: r).length=1:=by simp
  rw [this]
  simp
def tR (K:PySem.W.Frag) (a b:Addr):It:=
  ⟨fun i H=>∃ xs ys x y,aM K H a xs/\aM K H b ys/\xs[i]? = some x/\ys[i]? = some y,
   fun i H v H'=>∃ T x y,H T=none/\v = .ref T/\H'=upd H T (.tup [x,y])/\∀ xs ys,aM K H a xs->aM K H b ys->xs[i]? = some x/\ys[i]? = some y,
   fun i H=>∃ xs ys,aM K H a xs/\aM K H b ys/\(i=xs.length ∨ (i < xs.length/\i=ys.length))⟩
abbrev al0:=tM false false
theorem al1 {P:Program}{w:World}{K:PySem.W.Frag}{elts:List Expr}{k:Nat}{pos:Pos} (a b z TI TO i1 i2:Addr) (d : [z,TI,TO,i1,i2].Nodup) :
  gP P w K (.Tuple elts k pos) (tR K a b) [z,TI,TO,i1,i2] z (al0 z TI TO i1 i2 a b):=zM false false a b z TI TO i1 i2 d
section
variable {X : Cx}
def al2 (K:PySem.W.Frag) (ta:TA):TI:=fun σ H R=>ta σ H fun vs H1=>∃ a b xs ys,vs = [.ref a,.ref b]/\aM K H1 a xs/\aM K H1 b ys/\R (tR K a b) H1
theorem al3 {elts:List Expr}{kt:Nat}{pt:Pos}{a b:Expr}{ta:TA}{p pos:Pos} (hg:Gl X "zip") (hm:X.mg "zip" = none) (ha:PA X [a,b] ta) (hs:starEach [a,b] X.env = [(false,eval a X.env),(false,eval b X.env)]:=by rfl) (hs2:starEach [b] X.env = [(false,eval b X.env)]:=by rfl) :
  PI X (.Tuple elts kt pt) (.Call (.Name "zip" p) [a,b] [] pos) (al2 X.K ta):=by
 intro pins s σ H R I h
 refine Call_ (i5 I hg hm PyProof.Rows.boot_zip (aX1 (aL (ha pos pins s σ H _ I h) fun us s1 ⟨vs,H1,I1,r1,q1⟩=>?_) (by rw [hs,hs2]) (by rw [hs2]; rfl)))
 obtain ⟨a',b',xs,ys,e,h1,h2,q⟩:=q1
 subst e
 cases r1 with
 | cons r rr=>
  cases rr with
  | cons r' rr=>
   cases rr
   cases r
   cases r'
   obtain ⟨us,_,p1,_⟩:=I1.list h1
   obtain ⟨ws,_,p2,_⟩:=I1.list h2
   refine call_zip_2 p1.isList p2.isList fun h' z ti to s1' s2' _ kp=>wpAny_pyIter_zip z ?_
   have fresh:∀ k,H1 (s1.heap.objs.size+k)=none:=fun k=>I1.hok.fresh (aW6 _ _)
   refine⟨s1.heap.objs.size+4,[s1.heap.objs.size+4,s1.heap.objs.size+2,s1.heap.objs.size+3,s1.heap.objs.size,s1.heap.objs.size+1],_,_,H1,rfl,I1.kept (t':=s1.toks) kp,
    al1 a' b' _ _ _ _ _ (by simp),⟨z,ti,⟨_,_,to⟩,s1',s2'⟩,fun c hc=>?_,q⟩
   simp only [aR2,aR6,aU1] at hc
   rcases hc with rfl | rfl | rfl | rfl | rfl
   ·exact I1.fpOk (aW6 _ _) (fresh 4)
   ·exact I1.fpOk (aW6 _ _) (fresh 2)
   ·exact I1.fpOk (aW6 _ _) (fresh 3)
   ·exact I1.fpOk (aR0 _) (fresh 0)
   ·exact I1.fpOk (aW6 _ _) (fresh 1)
end
theorem al4 {K:PySem.W.Frag}{H:Hp}{a b:Addr}{xs ys:List V} (ha:aM K H a xs) (hb:aM K H b ys) (hl:ys.length<=xs.length) :
  tO H (tR K a b) ys.length (fun i v H2=>∃ T x y,v = .ref T/\H2 T=some (.tup [x,y])/\xs[i]? = some x/\ys[i]? = some y):=by
 refine⟨fun i H' sm hi=>⟨xs,ys,xs[i]'(by omega),ys[i],sm.seq ha,sm.seq hb,by simp,by simp⟩,fun i H' v H2 sm y hi=>?_,fun H' sm=>⟨xs,ys,sm.seq ha,sm.seq hb,by omega⟩⟩
 obtain ⟨T,x,y',hT,hv,e,hxy⟩:=y
 subst e
 obtain ⟨h1,h2⟩:=hxy xs ys (sm.seq ha) (sm.seq hb)
 exact⟨b7 hT _,T,x,y',hv,b8,h1,h2⟩
section
variable {X : Cx} {pins : List (Addr × Obj)} {σ : St} {H : Hp} {s : Shared} {a b : Addr} {A : Around} {E : Value → Shared → Prop}
theorem al5 {kvs more:List (aD × V)}{Q:Value->Shared->Prop} (I:a8 X pins σ H s) (ea:H a=some (.dK kvs)) (eb:H b=some (.dK more)) (hne:a ≠ b) (hl:kvs.length+more.length<=sizeLine)
  (h:∀ s',a8 X pins σ (upd H a (.dK (jM kvs more))) s'->Q .none s'):wpAny (model X.prog X.w) A (call (.builtin "dict.update") [.ref a,.ref b]) Q E s:=by
 obtain ⟨z,hd,vs,rel,dd⟩:=sS I.hok ea
 obtain ⟨z2,hd2,rs,rel2,dd2⟩:=sS I.hok eb
 have l1:=rel.length
 have l2:=rel2.length
 refine call_meetsIn PySem.F.slot_dict_update dd.typeIs PySem.F.entry_dict_update (PySem.F.args_dict_update_2 _ _) (meets_dict_update (dF X.prog X.w) a b hne hd2) ⟨vs,rs,dd,dd2,by omega,fun h' dd' _ hs=>h _ ?_⟩
 have he:∃ q,h'.get? a=some q:=let ⟨q,_,_,hq,_⟩:=dd'; ⟨q,hq⟩
 refine sT I (by rw [ea]; exact True.intro) hs he (y6 ?_ hd (rel2.merge rel) dd')
 have:=yG more kvs
 omega
end
def zP (td ty:TE):TE:=fun σ H Q=>td σ H fun x H1=>∃ a,x = .ref a/\sW H1 a/\ty σ H1 fun y H2=>∃ (b:Addr) (kvs more:List (aD × V)),y = .ref b/\a ≠ b/\H2 a=some (.dK kvs)/\H2 b=some (.dK more)/\kvs.length+more.length<=sizeLine/\Q .non (upd H2 a (.dK (jM kvs more)))
section
variable {X : Cx} {o e : Expr} {apos cpos : Pos} {td ty : TE}
theorem al6 (ho:PE X o td) (he:PE X e ty) (m:M1 X o "update" apos e cpos):PE X (.Call (.Attribute o "update" apos) [e] [] cpos) (zP td ty):=by
 intro pins s σ H Q I h
 refine wpAny_Call_method m.base m.few m.line PySem.F.plainAttrs_dict PySem.F.slot_dict_update PySem.F.type_dict_update (aL (ho pins s σ H _ I h) fun u s1 ⟨x,H1,I1,rx,a,ex,d,q1⟩=>?_)
 subst ex
 obtain rfl:u=Value.ref a:=rx
 obtain ⟨t1,t2,_⟩:=yH I1 d
 refine⟨t1,t2,?_⟩
 rw [m.trees]
 refine Calls.callWith_builtin rfl (Calls.evalArgs_plain (Calls.spliced_cons (aL (he pins s1 σ H1 _ I1 q1) fun iv s2 ⟨y,H2,I2,ry,b,kvs,more,ey,ne,ea,eb,l,q2⟩=>Calls.spliced_nil ?_)))
 subst ey
 obtain rfl:iv=Value.ref b:=ry
 exact al5 I2 ea eb ne l fun s3 I3=>⟨.non,_,I3,rfl,q2⟩
end
end L2
namespace PP
open PySem L2
inductive PV where
 | non | bl (b:Bool) | int (i:Int) | str (x:Str) | tup (xs:List PV) | lst (xs:List PV)
 | dK (kvs:List (aD × PV)) | dT (kvs:List (List aD × PV)) | scr (ns:List Int) | kt (xs:List PV) | exc (c:Str)
mutual
def flat:PV->Bool
 | .tup xs=>flats xs
 | .lst _=>false
 | .dK _=>false
 | .dT _=>false
 | .non=>true
 | .bl _=>true
 | .int _=>true
 | .str _=>true
 | .scr _=>true
 | .kt xs=>flats xs
 | .exc _=>true
def flats:List PV->Bool
 | []=>true
 | x :: r=>flat x && flats r
end
def iE (K:PySem.W.Frag) (H:Hp) (a:Addr) (ns:List Int):Prop:=(∃ o,H a=some (.frz o (.lst (ns.map V.int)))) ∨
  ∃ (o:Obj) (its:Array Value) (n:Nat),K.lookup a=some o/\o.cls = .type "list"/\o.dict=none/\o.data = .seq its n/\its.size<=sizeLine/\aK (ns.map V.int) its.toList
def iF (K:PySem.W.Frag) (a:Addr) (us:List V):Prop:=∃ (o:Obj) (its:Array Value) (n:Nat),K.lookup a=some o/\o.cls = .type "tuple"/\o.data = .seq its n/\its.size<=sizeLine/\aK us its.toList
mutual
inductive aI (K:PySem.W.Frag) (M:Addr->Prop) (H:Hp):V->PV->Prop
 | non:aI K M H .non .non
 | bl (b:Bool):aI K M H (.bl b) (.bl b)
 | int (i:Int):aI K M H (.int i) (.int i)
 | str (x:Str):aI K M H (.str x) (.str x)
 | tup {a:Addr}{us:List V}{xs:List PV}:H a=some (.tup us)->Reps K M H us xs->aI K M H (.ref a) (.tup xs)
 | lst {a:Addr}{us:List V}{xs:List PV}:M a->H a=some (.lst us)->Reps K M H us xs->aI K M H (.ref a) (.lst xs)
 | dK {a:Addr}{kvs:List (aD × V)}{ps:List (aD × PV)}:M a->H a=some (.dK kvs)->kvs.map (·.1)=ps.map (·.1)->Reps K M H (kvs.map (·.2)) (ps.map (·.2))->aI K M H (.ref a) (.dK ps)
 | dT {a:Addr}{kvs:List (List aD × V)}{ps:List (List aD × PV)}:M a->H a=some (.dT kvs)->kvs.map (·.1)=ps.map (·.1)->Reps K M H (kvs.map (·.2)) (ps.map (·.2))->aI K M H (.ref a) (.dT ps)
 | scr {a:Addr}{ns:List Int}:iE K H a ns->aI K M H (.ref a) (.scr ns)
 | kt {a:Addr}{us:List V}{xs:List PV}:iF K a us->Reps K M H us xs->aI K M H (.ref a) (.kt xs)
 | exc {a C:Addr}{o:Obj}{c:Str}:H a=some (.frz o (.own a))->PySem.W.nsIn K mainGlobals c=some (some (.ref C))->o.cls = .ref C->aI K M H (.ref a) (.exc c)
inductive Reps (K:PySem.W.Frag) (M:Addr->Prop) (H:Hp):List V->List PV->Prop
 | nil:Reps K M H [] []
 | cons {v:V}{x:PV}{vs:List V}{xs:List PV}:aI K M H v x->Reps K M H vs xs->Reps K M H (v :: vs) (x :: xs)
end
structure fV (M M':Addr->Prop) (H H':Hp):Prop where
 lst:∀ a us,M a->H a=some (.lst us)->M' a/\H' a=some (.lst us)
 dK:∀ a kvs,M a->H a=some (.dK kvs)->M' a/\H' a=some (.dK kvs)
 dT:∀ a kvs,M a->H a=some (.dT kvs)->M' a/\H' a=some (.dT kvs)
 tup:∀ a us,H a=some (.tup us)->H' a=some (.tup us)
 frz:∀ a o u,H a=some (.frz o u)->H' a=some (.frz o u)
theorem iE.keep {K:PySem.W.Frag}{H H':Hp}{a:Addr}{ns:List Int} (k:∀ a o u,H a=some (.frz o u)->H' a=some (.frz o u)) (h:iE K H a ns):iE K H' a ns:=
 h.elim (fun ⟨o,e⟩=>.inl ⟨o,k _ _ _ e⟩) .inr
mutual
theorem aI.keep {K:PySem.W.Frag}{M M':Addr->Prop}{H H':Hp} (k:fV M M' H H'):∀ {v:V}{x:PV},aI K M H v x->aI K M' H' v x
 | _,_,.non=>.non
 | _,_,.bl b=>.bl b
 | _,_,.int i=>.int i
 | _,_,.str x=>.str x
 | _,_,.tup h r=>.tup (k.tup _ _ h) (Reps.keep k r)
 | _,_,.lst m h r=>.lst (k.lst _ _ m h).1 (k.lst _ _ m h).2 (Reps.keep k r)
 | _,_,.dK m h e r=>.dK (k.dK _ _ m h).1 (k.dK _ _ m h).2 e (Reps.keep k r)
 | _,_,.dT m h e r=>.dT (k.dT _ _ m h).1 (k.dT _ _ m h).2 e (Reps.keep k r)
 | _,_,.scr h=>.scr (h.keep k.frz)
 | _,_,.kt h r=>.kt h (Reps.keep k r)
 | _,_,.exc h e c=>.exc (k.frz _ _ _ h) e c
theorem Reps.keep {K:PySem.W.Frag}{M M':Addr->Prop}{H H':Hp} (k:fV M M' H H'):∀ {vs:List V}{xs:List PV},Reps K M H vs xs->Reps K M' H' vs xs
 | _,_,.nil=>.nil
 | _,_,.cons r t=>.cons (aI.keep k r) (Reps.keep k t)
end
mutual
theorem aI.flat {K:PySem.W.Frag}{M M':Addr->Prop}{H:Hp}{v:V}{x:PV} (f:flat x=true) (r:aI K M H v x):aI K M' H v x:=by
 cases r with
 | non=>exact .non
 | bl b=>exact .bl b
 | int i=>exact .int i
 | str x=>exact .str x
 | tup h r=>exact .tup h (Reps.flat (by unfold PP.flat at f; exact f) r)
 | lst m h r=>unfold PP.flat at f; cases f
 | dK m h e r=>unfold PP.flat at f; cases f
 | dT m h e r=>unfold PP.flat at f; cases f
 | scr h=>exact .scr h
 | kt h r=>exact .kt h (Reps.flat (by unfold PP.flat at f; exact f) r)
 | exc h e c=>exact .exc h e c
theorem Reps.flat {K:PySem.W.Frag}{M M':Addr->Prop}{H:Hp}{vs:List V}{xs:List PV} (f:flats xs=true) (r:Reps K M H vs xs):Reps K M' H vs xs:=by
 cases r with
 | nil=>exact .nil
 | cons r t=>
  unfold PP.flats at f
  rw [aV2] at f
  exact .cons (aI.flat f.1 r) (Reps.flat f.2 t)
end
theorem fV.same {M M':Addr->Prop}{H H':Hp} (s:aC H H') (m:∀ a,M a->M' a):fV M M' H H':=
 ⟨fun a _ h e=>⟨m a h,s _ _ e⟩,fun a _ h e=>⟨m a h,s _ _ e⟩,fun a _ h e=>⟨m a h,s _ _ e⟩,fun _ _ e=>s _ _ e,fun _ _ _ e=>s _ _ e⟩
theorem aI.same {K:PySem.W.Frag}{M M':Addr->Prop}{H H':Hp}{v:V}{x:PV} (r:aI K M H v x) (s:aC H H') (m:∀ a,M a->M' a):aI K M' H' v x:=r.keep (.same s m)
theorem Reps.same {K:PySem.W.Frag}{M M':Addr->Prop}{H H':Hp}{v:List V}{x:List PV} (r:Reps K M H v x) (s:aC H H') (m:∀ a,M a->M' a):Reps K M' H' v x:=r.keep (.same s m)
def gE:HO->Bool
 | .lst _=>true
 | .dK _=>true
 | .dT _=>true
 | _=>false
theorem fV.upd {M M':Addr->Prop}{H:Hp}{a:Addr}{o o':HO} (h:H a=some o') (mu:gE o'=true) (m:∀ b,M b->b ≠ a/\M' b):fV M M' H (upd H a o):=
 ⟨fun b _ hb e=>⟨(m b hb).2,by rw [aP (m b hb).1]; exact e⟩,fun b _ hb e=>⟨(m b hb).2,by rw [aP (m b hb).1]; exact e⟩,fun b _ hb e=>⟨(m b hb).2,by rw [aP (m b hb).1]; exact e⟩,
  fun b _ e=>by rw [aP (fun z=>by rw [z,h] at e; cases e; cases mu)]; exact e,
  fun b _ _ e=>by rw [aP (fun z=>by rw [z,h] at e; cases e; cases mu)]; exact e⟩
theorem Reps.length {K:PySem.W.Frag}{M:Addr->Prop}{H:Hp}:∀ {vs:List V}{xs:List PV},Reps K M H vs xs->vs.length=xs.length
 | _,_,.nil=>rfl
 | _,_,.cons _ t=>congrArg (· + 1) t.length
theorem Reps.get {K:PySem.W.Frag}{M:Addr->Prop}{H:Hp}:∀ {vs:List V}{xs:List PV}{i:Nat}{v:V},Reps K M H vs xs->vs[i]? = some v->∃ x,xs[i]? = some x/\aI K M H v x
 | _,_,_,_,.nil,e=>by simp at e
 | _,_,0,_,.cons r _,e=>by simp at e; subst e; exact⟨_,rfl,r⟩
 | _,_,i+1,v,.cons _ t,e=>by
  rw [aY2] at e
  obtain ⟨x,h1,h2⟩:=t.get e
  exact⟨x,by rw [aY2]; exact h1,h2⟩
theorem Reps.at {K:PySem.W.Frag}{M:Addr->Prop}{H:Hp}:∀ {vs:List V}{xs:List PV}{i:Nat}{x:PV},Reps K M H vs xs->xs[i]? = some x->∃ v,vs[i]? = some v/\aI K M H v x
 | _,_,_,_,.nil,e=>by simp at e
 | _,_,0,_,.cons r _,e=>by simp at e; subst e; exact⟨_,rfl,r⟩
 | _,_,i+1,v,.cons _ t,e=>by
  rw [aY2] at e
  obtain ⟨x,h1,h2⟩:=t.at e
  exact⟨x,by rw [aY2]; exact h1,h2⟩
theorem Reps.append {K:PySem.W.Frag}{M:Addr->Prop}{H:Hp}:∀ {vs:List V}{xs:List PV}{us:List V}{ys:List PV},Reps K M H vs xs->Reps K M H us ys->Reps K M H (vs ++ us) (xs ++ ys)
 | _,_,_,_,.nil,s=>s
 | _,_,_,_,.cons r t,s=>.cons r (t.append s)
theorem Reps.set {K:PySem.W.Frag}{M:Addr->Prop}{H:Hp}{v:V}{x:PV} (q:aI K M H v x):∀ (i:Nat) {vs:List V}{xs:List PV},Reps K M H vs xs->Reps K M H (vs.set i v) (xs.set i x)
 | _,_,_,.nil=>.nil
 | 0,_,_,.cons r t=>.cons q t
 | i+1,_,_,.cons r t=>.cons r (Reps.set q i t)
theorem Reps.take {K:PySem.W.Frag}{M:Addr->Prop}{H:Hp}:∀ (n:Nat) {vs:List V}{xs:List PV},Reps K M H vs xs->Reps K M H (vs.take n) (xs.take n)
 | 0,_,_,_=>by simp; exact .nil
 | _+1,_,_,.nil=>.nil
 | n+1,_,_,.cons r t=>.cons r (Reps.take n t)
theorem Reps.drop {K:PySem.W.Frag}{M:Addr->Prop}{H:Hp}:∀ (n:Nat) {vs:List V}{xs:List PV},Reps K M H vs xs->Reps K M H (vs.drop n) (xs.drop n)
 | 0,_,_,r=>r
 | _+1,_,_,.nil=>.nil
 | n+1,_,_,.cons _ t=>Reps.drop n t
theorem Reps.eraseIdx {K:PySem.W.Frag}{M:Addr->Prop}{H:Hp}:∀ (n:Nat) {vs:List V}{xs:List PV},Reps K M H vs xs->Reps K M H (vs.eraseIdx n) (xs.eraseIdx n)
 | _,_,_,.nil=>.nil
 | 0,_,_,.cons _ t=>t
 | n+1,_,_,.cons r t=>.cons r (Reps.eraseIdx n t)
abbrev intz (ns:List Int):List PV:=ns.map PV.int
theorem Reps.intz {K:PySem.W.Frag}{M:Addr->Prop}{H:Hp}:∀ (ns:List Int),Reps K M H (ns.map V.int) (intz ns)
 | []=>.nil
 | n :: r=>.cons (.int n) (Reps.intz r)
theorem Reps.ofInts {K:PySem.W.Frag}{M:Addr->Prop}{H:Hp}:∀ {ns:List Int}{us:List V},Reps K M H us (PP.intz ns)->us=ns.map V.int
 | [],_,.nil=>rfl
 | n :: r,_,.cons q t=>by
  cases q
  rw [Reps.ofInts t]; rfl
theorem c7:∀ (ns:List Int),flats (intz ns)=true
 | []=>rfl
 | n :: r=>by show (flat (.int n) && flats (intz r))=true; rw [c7 r]; rfl
inductive Tg | rd | sh | nw | fr
inductive Slot | sh (g:Bool) (x:PV) | own (x:PV)
def Slot.val:Slot->PV
 | .sh _ x=>x
 | .own x=>x
def Slot.tag:Slot->Tg
 | .sh true _=>.nw
 | .sh false _=>.sh
 | .own _=>.rd
abbrev bE:=List (Option Slot)
def Ms (H0:Hp) (W:Addr->Prop):Bool->Addr->Prop
 | false,a=>¬ W a
 | true,a=>¬ W a/\H0 a=none
def Mg (H0:Hp) (W:Addr->Prop) (Hs:Hp):Tg->Addr->Prop
 | .rd,_=>True
 | .sh,a=>¬ W a
 | .nw,a=>¬ W a/\H0 a=none
 | .fr,a=>Hs a=none
def gF (K:PySem.W.Frag) (M:Addr->Prop) (H:Hp) (a:Addr):PV->Prop
 | .lst xs=>∃ us,H a=some (.lst us)/\Reps K M H us xs
 | .dK ps=>∃ kvs,H a=some (.dK kvs)/\kvs.map (·.1)=ps.map (·.1)/\Reps K M H (kvs.map (·.2)) (ps.map (·.2))
 | .dT ps=>∃ kvs,H a=some (.dT kvs)/\kvs.map (·.1)=ps.map (·.1)/\Reps K M H (kvs.map (·.2)) (ps.map (·.2))
 | _=>False
def zQ (K:PySem.W.Frag) (H0:Hp) (W:Addr->Prop) (H:Hp) (v:V):Slot->Prop
 | .sh g x=>aI K (Ms H0 W g) H v x
 | .own x=>∃ a,v = .ref a/\W a/\gF K (Ms H0 W true) H a x
structure PX (K:PySem.W.Frag) (H0:Hp) (W:Addr->Prop) (σ:St) (ρ:bE) (H:Hp):Prop where
 len:ρ.length=σ.length
 same:aC H0 H
 wm:∀ a,W a->H0 a=none/\∃ o,H a=some o/\gE o=true
 sl:∀ (i:Nat) (m:Slot),ρ[i]? = some (some m)->∃ v,σ[i]? = some (some v)/\zQ K H0 W H v m
 dis:∀ (i j:Nat) (x y:PV) (a:Addr),ρ[i]? = some (some (.own x))->ρ[j]? = some (some (.own y))->σ[i]? = some (some (.ref a))->σ[j]? = some (some (.ref a))->i=j
theorem gF.keep {K:PySem.W.Frag}{M M':Addr->Prop}{H H':Hp}{a:Addr} (k:fV M M' H H') (ha:∀ o,H a=some o->H' a=some o):∀ {x:PV},gF K M H a x->gF K M' H' a x
 | .lst _,⟨us,e,r⟩=>⟨us,ha _ e,r.keep k⟩
 | .dK _,⟨us,e,q,r⟩=>⟨us,ha _ e,q,r.keep k⟩
 | .dT _,⟨us,e,q,r⟩=>⟨us,ha _ e,q,r.keep k⟩
theorem gF.at {K:PySem.W.Frag}{M:Addr->Prop}{H:Hp}{a:Addr}:∀ {x:PV},gF K M H a x->∃ o,H a=some o/\gE o=true
 | .lst _,⟨us,e,r⟩=>⟨_,e,rfl⟩
 | .dK _,⟨us,e,q,r⟩=>⟨_,e,rfl⟩
 | .dT _,⟨us,e,q,r⟩=>⟨_,e,rfl⟩
theorem gF.rep {K:PySem.W.Frag}{M M':Addr->Prop}{H:Hp}{a:Addr} (m:∀ b,M b->M' b) (ha:M' a):∀ {x:PV},gF K M H a x->aI K M' H (.ref a) x
 | .lst _,⟨us,e,r⟩=>.lst ha e (r.same (aC.refl _) m)
 | .dK _,⟨us,e,q,r⟩=>.dK ha e q (r.same (aC.refl _) m)
 | .dT _,⟨us,e,q,r⟩=>.dT ha e q (r.same (aC.refl _) m)
section
variable {K : PySem.W.Frag} {H0 : Hp} {W W' : Addr → Prop} {σ : St} {ρ : bE} {H H' : Hp}
theorem PX.mono (p:PX K H0 W σ ρ H) (s:aC H H'):PX K H0 W σ ρ H':=by
 refine⟨p.len,p.same.trans s,fun a h=>⟨(p.wm a h).1,let ⟨o,e,m⟩:=(p.wm a h).2; ⟨o,s _ _ e,m⟩⟩,fun i m h=>?_,p.dis⟩
 obtain ⟨v,e,r⟩:=p.sl i m h
 refine⟨v,e,?_⟩
 cases m with
 | sh g x=>exact aI.same r s fun _ z=>z
 | own x=>
  obtain ⟨a,e1,e2,r⟩:=r
  exact⟨a,e1,e2,r.keep (.same s fun _ z=>z) fun _ z=>s _ _ z⟩
theorem PX.new (p:PX K H0 W σ ρ H) {a:Addr} (h:H a=none) : ¬ W a/\H0 a=none:=
 ⟨fun z=>(by obtain ⟨_,o,e,_⟩:=p.wm a z; rw [h] at e; cases e),p.same.free h⟩
theorem Mg.back {g:Tg}{H1:Hp} (s:aC H H1) {a:Addr} (h:Mg H0 W H1 g a):Mg H0 W H g a:=by
 cases g with
 | fr=>exact s.free h
 | rd=>exact h
 | sh=>exact h
 | nw=>exact h
end
abbrev PK:=PV->Tg->Prop
abbrev aF:=bE->PK->Prop
abbrev c8:=bE->(Bool->Prop)->Prop
abbrev cG:=bE->(List (PV × Tg)->Prop)->Prop
inductive fW (K:PySem.W.Frag) (H0:Hp) (W:Addr->Prop) (Hs H:Hp):List V->List (PV × Tg)->Prop
 | nil:fW K H0 W Hs H [] []
 | cons {v:V}{x:PV}{g:Tg}{vs:List V}{xs:List (PV × Tg)}:aI K (Mg H0 W Hs g) H v x->fW K H0 W Hs H vs xs->fW K H0 W Hs H (v :: vs) ((x,g) :: xs)
def oW (K:PySem.W.Frag) (H0:Hp) (W:Addr->Prop) (H:Hp) (Q:PK) (Q':VK):Prop:=∀ v H' x g,aC H H'->aI K (Mg H0 W H g) H' v x->Q x g->Q' v H'
def LE (X:Cx) (t:aF):TE:=fun σ H Q'=>∃ (W:Addr->Prop) (ρ:bE) (Q:PK),PX X.K X.H₀ W σ ρ H/\t ρ Q/\oW X.K X.H₀ W H Q Q'
def LT (X:Cx) (t:c8):TT:=fun σ H Q'=>∃ (W:Addr->Prop) (ρ:bE) (Q:Bool->Prop),PX X.K X.H₀ W σ ρ H/\t ρ Q/\∀ b H',aC H H'->Q b->Q' b H'
def LA (X:Cx) (t:cG):TA:=fun σ H Q'=>∃ (W:Addr->Prop) (ρ:bE) (Q:List (PV × Tg)->Prop),PX X.K X.H₀ W σ ρ H/\t ρ Q/\∀ vs H' xs,aC H H'->fW X.K X.H₀ W H H' vs xs->Q xs->Q' vs H'
theorem fW.same {K:PySem.W.Frag}{H0:Hp}{W:Addr->Prop}{Hs Hs' H H':Hp} (s:aC H H') (b:aC Hs' Hs):∀ {vs:List V}{xs:List (PV × Tg)},fW K H0 W Hs H vs xs->fW K H0 W Hs' H' vs xs
 | _,_,.nil=>.nil
 | _,_,.cons r t=>.cons (r.same s fun _ z=>Mg.back b z) (t.same s b)
theorem fW.any {K:PySem.W.Frag}{H0:Hp}{W:Addr->Prop}{Hs H:Hp}:∀ {vs:List V}{xs:List (PV × Tg)},fW K H0 W Hs H vs xs->Reps K (fun _=>True) H vs (xs.map (·.1))
 | _,_,.nil=>.nil
 | _,_,.cons r t=>.cons (r.same (aC.refl _) fun _ _=>trivial) t.any
def Nw:Tg->PV->Prop
 | .fr,_=>True
 | .nw,_=>True
 | _,x=>flat x=true
def mP (xs:List (PV × Tg)):Prop:=∀ p ∈ xs,Nw p.2 p.1
section
variable {K : PySem.W.Frag} {H0 Hs H : Hp} {W : Addr → Prop} {σ : St} {ρ : bE}
theorem Nw.rep {g:Tg}{x:PV}{v:V} (px:PX K H0 W σ ρ Hs) (n:Nw g x) (r:aI K (Mg H0 W Hs g) H v x):aI K (Ms H0 W true) H v x:=by
 cases g with
 | fr=>exact r.same (aC.refl _) fun a z=>px.new z
 | nw=>exact r.same (aC.refl _) fun a z=>z
 | sh=>exact r.flat n
 | rd=>exact r.flat n
theorem mP.reps {vs:List V}:∀ {xs:List (PV × Tg)}{vs:List V},PX K H0 W σ ρ Hs->mP xs->fW K H0 W Hs H vs xs->Reps K (Ms H0 W true) H vs (xs.map (·.1))
 | _,_,px,n,.nil=>.nil
 | _,_,px,n,.cons r t=>.cons (Nw.rep px (n _ aS0) r) (mP.reps (vs:=vs) px (fun p hp=>n p (aS2 _ hp)) t)
theorem zR {v:V}{m:Slot} (r:zQ K H0 W H v m):aI K (Mg H0 W Hs m.tag) H v m.val:=by
 cases m with
 | sh g x=>
  cases g with
  | true=>exact aI.same r (aC.refl _) fun _ z=>z
  | false=>exact aI.same r (aC.refl _) fun _ z=>z
 | own x=>
  obtain ⟨a,rfl,_,r⟩:=r
  exact r.rep (fun _ _=>trivial) trivial
end
section
variable {X : Cx} {σ : St} {H : Hp} {Q' : VK} {ta tb : aF}
def a5 (i:Nat):aF:=fun ρ Q=>∃ m,ρ[i]? = some (some m)/\Q m.val m.tag
def qC (x:PV):aF:=fun _ Q=>Q x .fr
theorem al7 {i:Nat} (h:LE X (a5 i) σ H Q'):eZ i σ H Q':=by
 obtain ⟨W,ρ,Q,px,⟨m,e,q⟩,k⟩:=h
 obtain ⟨v,ev,r⟩:=px.sl i m e
 exact⟨v,ev,k v H _ _ (aC.refl _) (zR r) q⟩
theorem mQ {x:PV}{v:V} (hr:∀ M,aI X.K M H v x) (h:LE X (qC x) σ H Q'):tC v σ H Q':=by
 obtain ⟨W,ρ,Q,px,q,k⟩:=h
 exact k v H _ _ (aC.refl _) (hr _) q
def cT (X:Cx) (R:PV->Tg->PV->Tg->PK->Prop) (r:R2):Prop:=∀ (W:Addr->Prop) (Hs H:Hp) (u v:V) (x y:PV) (g g':Tg) (Q:PK) (Q':VK),aC Hs H->
 (∀ a,Hs a=none->¬ W a/\X.H₀ a=none)->aI X.K (Mg X.H₀ W Hs g) H u x->aI X.K (Mg X.H₀ W Hs g') H v y->R x g y g' Q->(∀ w H' z gz,aC H H'->aI X.K (Mg X.H₀ W Hs gz) H' w z->Q z gz->Q' w H')->r u v H Q'
def q2 (R:PV->Tg->PV->Tg->PK->Prop) (ta tb:aF):aF:=fun ρ Q=>ta ρ fun x g=>tb ρ fun y g'=>R x g y g' Q
theorem oX {R:PV->Tg->PV->Tg->PK->Prop}{r:R2} (c:cT X R r) (h:LE X (q2 R ta tb) σ H Q'):m9 r (LE X ta) (LE X tb) σ H Q':=by
 obtain ⟨W,ρ,Q,px,q,k⟩:=h
 refine⟨W,ρ,_,px,q,fun u H1 x g s1 r1 q1=>⟨W,ρ,_,px.mono s1,q1,fun v H2 y g' s2 r2 q2=>?_⟩⟩
 exact c W H H2 u v x y g g' Q Q' (s1.trans s2) (fun a z=>px.new z) (r1.same s2 fun _ z=>z) (r2.same (aC.refl _) fun _ z=>Mg.back s1 z) q2 fun w H' z gz s3 r3 q3=>k w H' z gz ((s1.trans s2).trans s3) r3 q3
def RI (C:Int->Int->Prop) (f:Int->Int->PV):PV->Tg->PV->Tg->PK->Prop:=fun x _ y _ Q=>∃ i j,x = .int i/\y = .int j/\C i j/\Q (f i j) .fr
def fG (f:Int->Int->PV):PV->Tg->PV->Tg->PK->Prop:=fun x _ y _ Q=>∃ i j,x = .int i/\y = .int j/\Q (f i j) .fr
theorem oY {C:Int->Int->Prop}{f:Int->Int->Int}:cT X (RI C fun i j=>.int (f i j)) (rI C fun i j=>.int (f i j)):=by
 rintro W Hs H u v x y g g' Q Q' s n r1 r2 ⟨i,j,rfl,rfl,c,q⟩ k
 cases r1; cases r2
 exact⟨i,j,rfl,rfl,c,k _ _ _ _ (aC.refl _) (.int _) q⟩
theorem zS {f:Int->Int->Int}:cT X (fG fun i j=>.int (f i j)) (i6 fun i j=>.int (f i j)):=by
 rintro W Hs H u v x y g g' Q Q' s n r1 r2 ⟨i,j,rfl,rfl,q⟩ k
 cases r1; cases r2
 exact⟨i,j,rfl,rfl,k _ _ _ _ (aC.refl _) (.int _) q⟩
theorem oZ {f:Int->Int->Bool}:cT X (fG fun i j=>.bl (f i j)) (i6 fun i j=>.bl (f i j)):=by
 rintro W Hs H u v x y g g' Q Q' s n r1 r2 ⟨i,j,rfl,rfl,q⟩ k
 cases r1; cases r2
 exact⟨i,j,rfl,rfl,k _ _ _ _ (aC.refl _) (.bl _) q⟩
def jS (neg:Bool):PV->Tg->PV->Tg->PK->Prop:=fun x _ y _ Q=>(∃ i j,x = .int i/\y = .int j/\Q (.bl (if neg=true then !decide (i=j) else decide (i=j))) .fr) ∨ (∃ i j,x = .bl i/\y = .bl j/\Q (.bl (if neg=true then !decide (i=j) else decide (i=j))) .fr)
theorem zT (i j:Int):decide (V.int i=V.int j)=decide (i=j):=by
 rw [aY6,bb6,bb6]; exact⟨fun z=>V.int.inj z,fun z=>congrArg V.int z⟩
theorem zU (i j:Bool):decide (V.bl i=V.bl j)=decide (i=j):=by
 rw [aY6,bb6,bb6]; exact⟨fun z=>V.bl.inj z,fun z=>congrArg V.bl z⟩
theorem zV:cT X (jS false) wU:=by
 rintro W Hs H u v x y g g' Q Q' s n r1 r2 (⟨i,j,rfl,rfl,q⟩ | ⟨i,j,rfl,rfl,q⟩) k
 ·cases r1; cases r2
  exact⟨rfl,by rw [zT]; exact k _ _ _ _ (aC.refl _) (.bl _) q⟩
 ·cases r1; cases r2
  exact⟨rfl,by rw [zU]; exact k _ _ _ _ (aC.refl _) (.bl _) q⟩
theorem al8:cT X (jS true) rV:=by
 rintro W Hs H u v x y g g' Q Q' s n r1 r2 (⟨i,j,rfl,rfl,q⟩ | ⟨i,j,rfl,rfl,q⟩) k
 ·cases r1; cases r2
  exact⟨rfl,by rw [zT]; exact k _ _ _ _ (aC.refl _) (.bl _) q⟩
 ·cases r1; cases r2
  exact⟨rfl,by rw [zU]; exact k _ _ _ _ (aC.refl _) (.bl _) q⟩
def aS (t:aF):c8:=fun ρ Q=>t ρ fun x _=>∃ b,x = .bl b/\Q b
theorem p5 {t:aF}{Q':Bool->Hp->Prop} (h:LT X (aS t) σ H Q'):LE X t σ H fun x H'=>∃ k,x = .bl k/\Q' k H':=by
 obtain ⟨W,ρ,Q,px,q,k⟩:=h
 refine⟨W,ρ,_,px,q,?_⟩
 rintro v H1 x g s r ⟨b,rfl,q⟩
 cases r
 exact⟨b,rfl,k _ _ s q⟩
def jT (t u:c8):c8:=fun ρ Q=>t ρ fun c=>if c=true then u ρ Q else Q false
def kY (t u:c8):c8:=fun ρ Q=>t ρ fun c=>if c=true then Q true else u ρ Q
def jU (t:c8):c8:=fun ρ Q=>t ρ fun c=>Q (!c)
variable {t u : c8} {Qb : Bool → Hp → Prop}
theorem al9 (h:LT X (jT t u) σ H Qb):wA (LT X t) (LT X u) σ H Qb:=by
 obtain ⟨W,ρ,Q,px,q,k⟩:=h
 refine⟨W,ρ,_,px,q,fun b H1 s1 q1=>?_⟩
 cases b with
 | true=>exact aX ⟨W,ρ,Q,px.mono s1,by simpa using q1,fun b H2 s2 q2=>k _ _ (s1.trans s2) q2⟩
 | false=>exact aV (k _ _ s1 (by simpa using q1))
theorem am0 (h:LT X (kY t u) σ H Qb):wB (LT X t) (LT X u) σ H Qb:=by
 obtain ⟨W,ρ,Q,px,q,k⟩:=h
 refine⟨W,ρ,_,px,q,fun b H1 s1 q1=>?_⟩
 cases b with
 | false=>exact aV ⟨W,ρ,Q,px.mono s1,by simpa using q1,fun b H2 s2 q2=>k _ _ (s1.trans s2) q2⟩
 | true=>exact aX (k _ _ s1 (by simpa using q1))
theorem am1 (h:LT X (jU t) σ H Qb):wC (LT X t) σ H Qb:=by
 obtain ⟨W,ρ,Q,px,q,k⟩:=h
 exact⟨W,ρ,_,px,q,fun b H1 s1 q1=>k _ _ s1 q1⟩
def jV (ta tb:aF):aF:=fun ρ Q=>ta ρ fun x _=>∃ c,x = .bl c/\if c=true then tb ρ Q else Q (.bl false) .fr
theorem oW.back {K:PySem.W.Frag}{H0:Hp}{W:Addr->Prop}{H H1:Hp}{Q:PK} (k:oW K H0 W H Q Q') (s:aC H H1):oW K H0 W H1 Q Q':=fun v H' x g s' r q=>k v H' x g (s.trans s') (r.same (aC.refl _) fun _ z=>Mg.back s z) q
theorem am2 (h:LE X (jV ta tb) σ H Q'):wD (LE X ta) (LE X tb) σ H Q':=by
 obtain ⟨W,ρ,Q,px,q,k⟩:=h
 refine⟨W,ρ,_,px,q,?_⟩
 rintro v H1 x g s1 r ⟨c,rfl,q⟩
 cases r
 refine⟨c,rfl,?_⟩
 cases c with
 | true=>exact aX ⟨W,ρ,Q,px.mono s1,by simpa using q,k.back s1⟩
 | false=>exact aV (k _ _ _ _ s1 (.bl _) (by simpa using q))
def a9:cG:=fun _ Q=>Q []
def a6 (te:aF) (tr:cG):cG:=fun ρ Q=>te ρ fun x g=>tr ρ fun xs=>Q ((x,g) :: xs)
variable {Qa : List V → Hp → Prop} {tr : cG}
theorem am3 (h:LA X a9 σ H Qa):gQ σ H Qa:=by
 obtain ⟨W,ρ,Q,px,q,k⟩:=h
 exact k _ _ _ (aC.refl _) .nil q
theorem am4 (h:LA X (a6 ta tr) σ H Qa):fR (LE X ta) (LA X tr) σ H Qa:=by
 obtain ⟨W,ρ,Q,px,q,k⟩:=h
 refine⟨W,ρ,_,px,q,fun v H1 x g s1 r1 q1=>⟨W,ρ,_,px.mono s1,q1,fun vs H2 xs s2 r2 q2=>?_⟩⟩
 exact k _ _ _ (s1.trans s2) (.cons (r1.same s2 fun _ z=>z) (r2.same (aC.refl _) s1)) q2
def cD (t:cG):aF:=fun ρ Q=>t ρ fun xs=>xs.length<=1000/\flats (xs.map (·.1))=true/\Q (.tup (xs.map (·.1))) .fr
def cH (t:cG):aF:=fun ρ Q=>t ρ fun xs=>xs.length<=1000/\flats (xs.map (·.1))=true/\Q (.lst (xs.map (·.1))) .fr
theorem fW.length {K:PySem.W.Frag}{H0:Hp}{W:Addr->Prop}{Hs H:Hp}:∀ {vs:List V}{xs:List (PV × Tg)},fW K H0 W Hs H vs xs->vs.length=xs.length
 | _,_,.nil=>rfl
 | _,_,.cons _ t=>congrArg (· + 1) t.length
theorem mR {n:Nat} (h:n<=1000):n<=sizeLine:=aV0 (mJ h)
theorem am5 (h:LE X (cD tr) σ H Q'):x5 (LA X tr) σ H Q':=by
 obtain ⟨W,ρ,Q,px,q,k⟩:=h
 refine⟨W,ρ,_,px,q,?_⟩
 rintro vs H1 xs s1 r ⟨hl,n,q⟩
 refine⟨by rw [r.length]; exact mR hl,fun p hp=>k _ _ _ .fr (s1.trans (b7 hp _)) (.tup b8 ?_) q⟩
 exact (r.any.flat n).same (b7 hp _) fun _ z=>z
theorem am6 (h:LE X (cH tr) σ H Q'):rZ (LA X tr) σ H Q':=by
 obtain ⟨W,ρ,Q,px,q,k⟩:=h
 refine⟨W,ρ,_,px,q,?_⟩
 rintro vs H1 xs s1 r ⟨hl,n,q⟩
 refine⟨by rw [r.length]; exact mR hl,fun p hp=>k _ _ _ .fr (s1.trans (b7 hp _)) (.lst (s1.free hp) b8 ?_) q⟩
 exact (r.any.flat n).same (b7 hp _) fun _ z=>z
def eB (X:Cx) (R:List PV->(PV->Prop)->Prop) (r:List V->Hp->VK->Prop):Prop:=∀ (H:Hp) (vs:List V) (xs:List PV) (Q:PV->Prop) (Q':VK),Reps X.K (fun _=>True) H vs xs->R xs Q->
 (∀ w H' z,aC H H'->aI X.K (fun a=>H a=none) H' w z->Q z->Q' w H')->r vs H Q'
def aE (R:List PV->(PV->Prop)->Prop) (t:cG):aF:=fun ρ Q=>t ρ fun xs=>R (xs.map (·.1)) fun z=>Q z .fr
theorem zW {R:List PV->(PV->Prop)->Prop}{r:List V->Hp->VK->Prop} (c:eB X R r) (h:LE X (aE R tr) σ H Q'):sC r (LA X tr) σ H Q':=by
 obtain ⟨W,ρ,Q,px,q,k⟩:=h
 refine⟨W,ρ,_,px,q,fun vs H1 xs s1 r1 q1=>c H1 vs _ _ Q' r1.any q1 fun w H' z s2 r2 q2=>k w H' z .fr (s1.trans s2) (r2.same (aC.refl _) fun _ z=>s1.free z) q2⟩
end
structure iW where
 nx:bE->Prop
 rt:PV->Prop
 bk:bE->Prop:=fun _=>False
 ct:bE->Prop:=fun _=>False
abbrev aO:=iW->bE->Prop
def Ev (W:Addr->Prop) (H:Hp) (W':Addr->Prop) (H':Hp):Prop:=∀ b o,H b=some o->¬ W b->H' b=some o/\¬ W' b
theorem Ev.trans {W W1 W2:Addr->Prop}{H H1 H2:Hp} (a:Ev W H W1 H1) (b:Ev W1 H1 W2 H2):Ev W H W2 H2:=fun c o h n=>let ⟨h1,n1⟩:=a c o h n; b c o h1 n1
theorem Ev.same {W:Addr->Prop}{H H':Hp} (s:aC H H'):Ev W H W H':=fun c o h n=>⟨s _ _ h,n⟩
theorem Ev.refl (W:Addr->Prop) (H:Hp):Ev W H W H:=Ev.same (aC.refl _)
structure mS (X:Cx) (W:Addr->Prop) (H:Hp) (D':iW) (D:cE):Prop where
 nx:∀ W' σ' H' ρ',Ev W H W' H'->PX X.K X.H₀ W' σ' ρ' H'->D'.nx ρ'->D.nx σ' H'
 rt:∀ v H' x,aC X.H₀ H'->aI X.K (fun a=>X.H₀ a=none) H' v x->D'.rt x->D.rt v H'
 bk:∀ W' σ' H' ρ',Ev W H W' H'->PX X.K X.H₀ W' σ' ρ' H'->D'.bk ρ'->D.bk σ' H'
 ct:∀ W' σ' H' ρ',Ev W H W' H'->PX X.K X.H₀ W' σ' ρ' H'->D'.ct ρ'->D.ct σ' H'
theorem mS.step {X:Cx}{W W1:Addr->Prop}{H H1:Hp}{D':iW}{D:cE} (k:mS X W H D' D) (e:Ev W H W1 H1):mS X W1 H1 D' D:=
 ⟨fun W' σ' H' ρ' e'=>k.nx W' σ' H' ρ' (e.trans e'),k.rt,fun W' σ' H' ρ' e'=>k.bk W' σ' H' ρ' (e.trans e'),fun W' σ' H' ρ' e'=>k.ct W' σ' H' ρ' (e.trans e')⟩
def LS (X:Cx) (t:aO):TS:=fun D σ H=>∃ (W:Addr->Prop) (ρ:bE) (D':iW),PX X.K X.H₀ W σ ρ H/\t D' ρ/\mS X W H D' D
theorem fH {α:Type}{l:List α}{i j:Nat}{a b:α} (h:(l.set i a)[j]? = some b):(j=i/\i < l.length/\b=a) ∨ (j ≠ i/\l[j]? = some b):=by
 by_cases e:j=i
 ·subst e
  have hl:j < (l.set j a).length:=(aR4.mp h).1
  rw [aV5] at hl
  rw [aW7 hl] at h
  exact .inl ⟨rfl,hl,(aT2 h).symm⟩
 ·rw [aS7 (Ne.symm e)] at h
  exact .inr ⟨e,h⟩
section
variable {K : PySem.W.Frag} {H0 : Hp} {W W' : Addr → Prop} {σ : St} {ρ : bE} {H H' Hs : Hp}
theorem PX.setSh {i:Nat}{v:V}{g:Bool}{x:PV} (p:PX K H0 W σ ρ H) (r:aI K (Ms H0 W g) H v x):PX K H0 W (σ.set i (some v)) (ρ.set i (some (.sh g x))) H:=by
 refine⟨by rw [aV5,aV5]; exact p.len,p.same,p.wm,fun j m h=>?_,fun j k y z a h1 h2 h3 h4=>?_⟩
 ·rcases fH h with ⟨rfl,hl,e⟩ | ⟨hne,h⟩
  ·cases e
   rw [p.len] at hl
   exact⟨v,aW7 hl,r⟩
  ·obtain ⟨u,e,q⟩:=p.sl j m h
   exact⟨u,by rw [aS7 (Ne.symm hne)]; exact e,q⟩
 ·rcases fH h1 with ⟨_,_,e⟩ | ⟨n1,h1⟩
  ·cases e
  ·rcases fH h2 with ⟨_,_,e⟩ | ⟨n2,h2⟩
   ·cases e
   ·rw [aS7 (Ne.symm n1)] at h3
    rw [aS7 (Ne.symm n2)] at h4
    exact p.dis j k y z a h1 h2 h3 h4
theorem PX.setNone {i:Nat}{o:Option V} (p:PX K H0 W σ ρ H):PX K H0 W (σ.set i o) (ρ.set i none) H:=by
 refine⟨by rw [aV5,aV5]; exact p.len,p.same,p.wm,fun j m h=>?_,fun j k y z a h1 h2 h3 h4=>?_⟩
 ·rcases fH h with ⟨rfl,hl,e⟩ | ⟨hne,h⟩
  ·cases e
  ·obtain ⟨u,e,q⟩:=p.sl j m h
   exact⟨u,by rw [aS7 (Ne.symm hne)]; exact e,q⟩
 ·rcases fH h1 with ⟨_,_,e⟩ | ⟨n1,h1⟩
  ·cases e
  ·rcases fH h2 with ⟨_,_,e⟩ | ⟨n2,h2⟩
   ·cases e
   ·rw [aS7 (Ne.symm n1)] at h3
    rw [aS7 (Ne.symm n2)] at h4
    exact p.dis j k y z a h1 h2 h3 h4
def kZ (W:Addr->Prop) (a:Addr):Addr->Prop:=fun b=>W b ∨ b=a
theorem tS {g:Bool}{a b:Addr} (n:b ≠ a) (h:Ms H0 W g b):Ms H0 (kZ W a) g b:=by
 cases g with
 | true=>exact⟨fun z=>z.elim h.1 n,h.2⟩
 | false=>exact fun z=>z.elim h n
theorem PX.setOwn {i:Nat}{a:Addr}{x:PV} (p:PX K H0 W σ ρ Hs) (s:aC Hs H) (ha:Hs a=none) (r:gF K (Ms H0 (kZ W a) true) H a x):PX K H0 (kZ W a) (σ.set i (some (.ref a))) (ρ.set i (some (.own x))) H:=by
 have old:∀ b o,Hs b=some o->b ≠ a:=fun b o e z=>by rw [z,ha] at e; cases e
 have kp:∀ g,fV (Ms H0 W g) (Ms H0 (kZ W a) g) Hs H:=fun g=>⟨fun b _ m e=>⟨tS (old _ _ e) m,s _ _ e⟩,fun b _ m e=>⟨tS (old _ _ e) m,s _ _ e⟩,fun b _ m e=>⟨tS (old _ _ e) m,s _ _ e⟩,fun _ _ e=>s _ _ e,fun _ _ _ e=>s _ _ e⟩
 have wa : ¬ W a:=(p.new ha).1
 refine⟨by rw [aV5,aV5]; exact p.len,p.same.trans s,fun b z=>?_,fun j m h=>?_,fun j k y z b h1 h2 h3 h4=>?_⟩
 ·rcases z with z | rfl
  ·obtain ⟨h1,o,h2,h3⟩:=p.wm b z
   exact⟨h1,o,s _ _ h2,h3⟩
  ·exact⟨(p.new ha).2,r.at⟩
 ·rcases fH h with ⟨rfl,hl,e⟩ | ⟨hne,h⟩
  ·cases e
   rw [p.len] at hl
   exact⟨_,aW7 hl,a,rfl,.inr rfl,r⟩
  ·obtain ⟨u,e,q⟩:=p.sl j m h
   refine⟨u,by rw [aS7 (Ne.symm hne)]; exact e,?_⟩
   cases m with
   | sh g y=>exact aI.keep (kp g) q
   | own y=>
    obtain ⟨b,e1,e2,q⟩:=q
    exact⟨b,e1,.inl e2,q.keep (kp true) fun o z=>s _ _ z⟩
 ·have ne:∀ {j:Nat}{y:PV},ρ[j]? = some (some (.own y))->σ[j]? ≠ some (some (.ref a)):=fun {j y} h1 h2=>by
   obtain ⟨u,e,c,e1,e2,_⟩:=p.sl j _ h1
   rw [h2] at e
   cases e
   cases e1
   exact wa e2
  rcases fH h1 with ⟨e1,l1,_⟩ | ⟨n1,h1⟩
  ·rcases fH h2 with ⟨e2,_,_⟩ | ⟨n2,h2⟩
   ·rw [e1,e2]
   ·rw [e1,aW7 (by rw [<- p.len]; exact l1)] at h3
    rw [aS7 (Ne.symm n2)] at h4
    cases h3
    exact absurd h4 (ne h2)
  ·rw [aS7 (Ne.symm n1)] at h3
   rcases fH h2 with ⟨e2,l2,_⟩ | ⟨n2,h2⟩
   ·rw [e2,aW7 (by rw [<- p.len]; exact l2)] at h4
    cases h4
    exact absurd h3 (ne h1)
   ·rw [aS7 (Ne.symm n2)] at h4
    exact p.dis j k y z b h1 h2 h3 h4
theorem Ev.own {a:Addr} (s:aC Hs H) (ha:Hs a=none):Ev W Hs (kZ W a) H:=fun b o e n=>⟨s _ _ e,fun z=>z.elim n fun z=>by rw [z,ha] at e; cases e⟩
theorem gS {g:Bool}{a b:Addr} (wa:W a) (h:Ms H0 W g b):b ≠ a:=by
 cases g with
 | true=>exact fun z=>h.1 (by rw [z]; exact wa)
 | false=>exact fun z=>h (by rw [z]; exact wa)
theorem PX.updOwn {i:Nat}{a:Addr}{x y:PV}{o:HO} (p:PX K H0 W σ ρ H) (hi:ρ[i]? = some (some (.own x))) (ha:σ[i]? = some (some (.ref a))) (wa:W a) (mu:gE o=true) (r:gF K (Ms H0 W true) (upd H a o) a y) :
  PX K H0 W σ (ρ.set i (some (.own y))) (upd H a o):=by
 obtain ⟨w0,o',e',mu'⟩:=p.wm a wa
 have kp:∀ g,fV (Ms H0 W g) (Ms H0 W g) H (upd H a o):=fun g=>.upd e' mu' fun b m=>⟨gS wa m,m⟩
 refine⟨by rw [aV5]; exact p.len,fun b u e=>by rw [aP (fun z=>by rw [z,w0] at e; cases e)]; exact p.same _ _ e,fun b z=>?_,fun j m h=>?_,fun j k y' z b h1 h2 h3 h4=>?_⟩
 ·by_cases e:b=a
  ·subst e; exact⟨w0,o,b8,mu⟩
  ·obtain ⟨h1,o2,h2,h3⟩:=p.wm b z
   exact⟨h1,o2,by rw [aP e]; exact h2,h3⟩
 ·rcases fH h with ⟨rfl,hl,e⟩ | ⟨hne,h⟩
  ·cases e
   exact⟨_,ha,a,rfl,wa,r⟩
  ·obtain ⟨u,e,q⟩:=p.sl j m h
   refine⟨u,e,?_⟩
   cases m with
   | sh g y=>exact aI.keep (kp g) q
   | own y=>
    obtain ⟨b,e1,e2,q⟩:=q
    have hb:b ≠ a:=fun z=>by
     subst e1
     rw [z] at e
     exact hne (p.dis j i _ _ a h hi e ha)
    exact⟨b,e1,e2,q.keep (kp true) fun o z=>by rw [aP hb]; exact z⟩
 ·have g1:∃ y,ρ[j]? = some (some (.own y)):=by
   rcases fH h1 with ⟨e,_,_⟩ | ⟨_,h⟩
   ·exact⟨x,by rw [e]; exact hi⟩
   ·exact⟨_,h⟩
  have g2:∃ y,ρ[k]? = some (some (.own y)):=by
   rcases fH h2 with ⟨e,_,_⟩ | ⟨_,h⟩
   ·exact⟨x,by rw [e]; exact hi⟩
   ·exact⟨_,h⟩
  obtain ⟨y1,g1⟩:=g1
  obtain ⟨y2,g2⟩:=g2
  exact p.dis j k y1 y2 b g1 g2 h3 h4
theorem Ev.upd {a:Addr}{o:HO} (wa:W a):Ev W H W (upd H a o):=fun b u e n=>⟨by rw [aP (fun z=>n (by rw [z]; exact wa))]; exact e,n⟩
end
section
variable {X : Cx} {σ : St} {H : Hp} {D : cE} {te : aF} {t u : aO}
def bM:aO:=fun D ρ=>D.nx ρ
def aG (t u:aO):aO:=fun D ρ=>t { D with nx:=u D } ρ
theorem am7 (h:LS X bM D σ H):wE D σ H:=by
 obtain ⟨W,ρ,D',px,q,k⟩:=h
 exact k.nx W σ H ρ (Ev.refl _ _) px q
theorem am8 (h:LS X (aG t u) D σ H):wF (LS X t) (LS X u) D σ H:=by
 obtain ⟨W,ρ,D',px,q,k⟩:=h
 exact⟨W,ρ,_,px,q,fun W' σ' H' ρ' e px' q'=>⟨W',ρ',D',px',q',k.step e⟩,k.rt,k.bk,k.ct⟩
def zX:Tg->PV->Bool
 | .fr,_=>true
 | .nw,_=>true
 | _,x=>flat x
def p6:Tg->PV->Prop
 | .rd,x=>flat x=true
 | _,_=>True
theorem am9 {K:PySem.W.Frag}{H0 Hs H:Hp}{W:Addr->Prop}{σ:St}{ρ:bE}{g:Tg}{x:PV}{v:V} (px:PX K H0 W σ ρ Hs) (n:p6 g x) (r:aI K (Mg H0 W Hs g) H v x):aI K (Ms H0 W (zX g x)) H v x:=by
 cases g with
 | fr=>exact Nw.rep (g:=.fr) px trivial r
 | nw=>exact Nw.rep (g:=.nw) px trivial r
 | sh=>
  show aI K (Ms H0 W (flat x)) H v x
  cases e:flat x with
  | true=>exact r.flat e
  | false=>exact r.same (aC.refl _) fun _ z=>z
 | rd=>exact r.flat n
def aY (i:Nat) (te:aF):aO:=fun D ρ=>te ρ fun x g=>p6 g x/\D.nx (ρ.set i (some (.sh (zX g x) x)))
theorem an0 {i:Nat} (h:LS X (aY i te) D σ H):kO (LE X te) (cR i) D σ H:=by
 obtain ⟨W,ρ,D',px,q,k⟩:=h
 refine⟨W,ρ,_,px,q,?_⟩
 rintro v H1 x g s r ⟨n,q⟩
 exact k.nx W _ H1 _ (Ev.same s) ((px.mono s).setSh (am9 px n r)) q
def zY:PV->Bool
 | .lst xs=>flats xs
 | .dK ps=>flats (ps.map (·.2))
 | .dT ps=>flats (ps.map (·.2))
 | _=>false
theorem an1 {K:PySem.W.Frag}{M:Addr->Prop}{H:Hp}{v:V}{x:PV} (r:aI K M H v x) (o:zY x=true):∃ a,v = .ref a/\M a/\∀ M',gF K M' H a x:=by
 cases r with
 | lst m e r=>exact⟨_,rfl,m,fun _=>⟨_,e,r.flat o⟩⟩
 | dK m e q r=>exact⟨_,rfl,m,fun _=>⟨_,e,q,r.flat o⟩⟩
 | dT m e q r=>exact⟨_,rfl,m,fun _=>⟨_,e,q,r.flat o⟩⟩
 | _=>cases o
def cW (i:Nat) (te:aF):aO:=fun D ρ=>te ρ fun x g=>g = .fr/\zY x=true/\D.nx (ρ.set i (some (.own x)))
theorem an2 {i:Nat} (h:LS X (cW i te) D σ H):kO (LE X te) (cR i) D σ H:=by
 obtain ⟨W,ρ,D',px,q,k⟩:=h
 refine⟨W,ρ,_,px,q,?_⟩
 rintro v H1 x g s r ⟨rfl,o,q⟩
 obtain ⟨a,rfl,m,w⟩:=an1 r o
 exact k.nx _ _ H1 _ (Ev.own s m) (px.setOwn s m (w _)) q
def b4 (te:aF):aO:=fun D ρ=>te ρ fun x g=>Nw g x/\D.rt x
theorem an3 (h:LS X (b4 te) D σ H):rL (LE X te) D σ H:=by
 obtain ⟨W,ρ,D',px,q,k⟩:=h
 refine⟨W,ρ,_,px,q,?_⟩
 rintro v H1 x g s r ⟨n,q⟩
 exact k.rt v H1 x (px.same.trans s) ((Nw.rep px n r).same (aC.refl _) fun _ z=>z.2) q
def Slot.nw:Slot->Prop
 | .own _=>True
 | .sh true _=>True
 | .sh false x=>flat x=true
def gT (i:Nat):aO:=fun D ρ=>∃ m,ρ[i]? = some (some m)/\m.nw/\D.rt m.val
theorem an4 {i:Nat} (h:LS X (gT i) D σ H):rL (eZ i) D σ H:=by
 obtain ⟨W,ρ,D',px,⟨m,hi,n,q⟩,k⟩:=h
 obtain ⟨v,ev,r⟩:=px.sl i _ hi
 refine⟨v,ev,k.rt v H _ px.same ?_ q⟩
 cases m with
 | own x=>
  obtain ⟨a,rfl,wa,r⟩:=r
  exact r.rep (fun _ z=>z.2) (px.wm a wa).1
 | sh g x=>
  cases g with
  | true=>exact aI.same r (aC.refl _) fun _ z=>z.2
  | false=>exact aI.flat n r
def bG (c:c8) (t u:aO):aO:=fun D ρ=>c ρ fun b=>if b=true then t D ρ else u D ρ
theorem an5 {c:c8} (h:LS X (bG c t u) D σ H):wG (LT X c) (LS X t) (LS X u) D σ H:=by
 obtain ⟨W,ρ,D',px,q,k⟩:=h
 refine⟨W,ρ,_,px,q,fun b H1 s q1=>?_⟩
 cases b with
 | true=>exact aX ⟨W,ρ,D',px.mono s,by simpa using q1,k.step (Ev.same s)⟩
 | false=>exact aV ⟨W,ρ,D',px.mono s,by simpa using q1,k.step (Ev.same s)⟩
def p9 (c:c8) (tb:aO):aO:=fun D ρ=>∃ I:Nat->bE->Prop,(∃ m,I m ρ)/\∀ m ρ',I m ρ'->c ρ' fun b=>if b=true then tb { D with nx:=fun ρ2=>∃ m',m' < m/\I m' ρ2,ct:=fun ρ2=>∃ m',m' < m/\I m' ρ2,bk:=D.nx } ρ' else D.nx ρ'
theorem an6 {c:c8}{tb:aO} (h:LS X (p9 c tb) D σ H):wJ (LT X c) (LS X tb) D σ H:=by
 obtain ⟨W,ρ,D',px,⟨I,⟨m0,i0⟩,turn⟩,k⟩:=h
 refine⟨fun m σ2 H2=>∃ W2 ρ2,PX X.K X.H₀ W2 σ2 ρ2 H2/\Ev W H W2 H2/\I m ρ2,⟨m0,W,ρ,px,Ev.refl _ _,i0⟩,?_⟩
 rintro m σ2 H2 ⟨W2,ρ2,px2,e2,i2⟩
 refine⟨W2,ρ2,_,px2,turn m ρ2 i2,fun b H3 s3 q3=>?_⟩
 cases b with
 | true=>
  refine aX ⟨fun σ4 H4=>∃ W4 ρ4,PX X.K X.H₀ W4 σ4 ρ4 H4/\Ev W H W4 H4/\∃ m',m' < m/\I m' ρ4,fun σ4 H4 ⟨W4,ρ4,a,b,m',c,d⟩=>⟨m',c,W4,ρ4,a,b,d⟩,W2,ρ2,_,px2.mono s3,by simpa using q3,?_⟩
  have e3:Ev W H W2 H3:=e2.trans (Ev.same s3)
  exact⟨fun W' σ' H' ρ' e p q=>⟨W',ρ',p,e3.trans e,q⟩,k.rt,fun W' σ' H' ρ' e p q=>k.nx W' σ' H' ρ' (e3.trans e) p q,fun W' σ' H' ρ' e p q=>⟨W',ρ',p,e3.trans e,q⟩⟩
 | false=>exact aV (k.nx W2 σ2 H3 ρ2 (e2.trans (Ev.same s3)) (px2.mono s3) (by simpa using q3))
end
theorem lim {n:Nat} (h:n<=16000000):n<=sizeLine:=aV0 (gD h)
theorem aI.sqT {K:PySem.W.Frag}{M:Addr->Prop}{H:Hp}{v:V}{xs:List PV} (r:aI K M H v (.tup xs)):∃ a us,v = .ref a/\H a=some (.tup us)/\Reps K M H us xs:=by
 cases r with
 | tup e r=>exact⟨_,_,rfl,e,r⟩
theorem aI.sqL {K:PySem.W.Frag}{M:Addr->Prop}{H:Hp}{v:V}{xs:List PV} (r:aI K M H v (.lst xs)):∃ a us,v = .ref a/\M a/\H a=some (.lst us)/\Reps K M H us xs:=by
 cases r with
 | lst m e r=>exact⟨_,_,rfl,m,e,r⟩
theorem iE.sqL {K:PySem.W.Frag}{H:Hp}{a:Addr}{ns:List Int} (h:iE K H a ns):aM K H a (ns.map V.int):=h.elim (fun z=>.inl (.inr z)) .inr
def iG:PV->Option (List PV)
 | .tup xs=>some xs
 | .lst xs=>some xs
 | .scr ns=>some (intz ns)
 | .kt xs=>some xs
 | _=>none
theorem aI.seq {K:PySem.W.Frag}{M:Addr->Prop}{H:Hp}{v:V}{x:PV}{xs:List PV} (r:aI K M H v x) (e:iG x=some xs):∃ a us,v = .ref a/\(aM K H a us ∨ aJ K H a us)/\Reps K M H us xs:=by
 cases r with
 | tup h r=>cases e; exact⟨_,_,rfl,.inr (aJ.of h),r⟩
 | lst m h r=>cases e; exact⟨_,_,rfl,.inl (aM.of h),r⟩
 | scr h=>cases e; exact⟨_,_,rfl,.inl h.sqL,Reps.intz _⟩
 | kt h r=>cases e; exact⟨_,_,rfl,.inr (.inr h),r⟩
 | _=>cases e
section
variable {X : Cx} {σ : St} {H : Hp} {D : cE} {te ti to : aF} {t u : aO} {Q' : VK}
theorem _root_.PP.PX.updL {K:PySem.W.Frag}{H0:Hp}{W:Addr->Prop}{σ:St}{ρ:bE}{H:Hp}{i:Nat}{a:Addr}{x:PV}{us:List V}{ys:List PV} (p:PX K H0 W σ ρ H) (hi:ρ[i]? = some (some (.own x))) (ha:σ[i]? = some (some (.ref a))) (wa:W a) (r:Reps K (Ms H0 W true) (upd H a (.lst us)) us ys) :
  PX K H0 W σ (ρ.set i (some (.own (.lst ys)))) (upd H a (.lst us)):=p.updOwn hi ha wa rfl (y:=.lst ys) ⟨us,b8,r⟩
def gG (i:Nat) (te:aF):aO:=fun D ρ=>∃ xs,ρ[i]? = some (some (.own (.lst xs)))/\te ρ fun x g=>Nw g x/\xs.length < 16000000/\D.nx (ρ.set i (some (.own (.lst (xs ++ [x])))))
theorem an7 {i:Nat} (h:LS X (gG i te) D σ H):kN (kS X.K "list" sN (eZ i) (fR (LE X te) gQ)) D σ H:=by
 obtain ⟨W,ρ,D',px,⟨xs,hi,q⟩,k⟩:=h
 obtain ⟨v,ev,a,rfl,wa,us,ea,r⟩:=px.sl i _ hi
 refine⟨_,ev,jR (aM.of ea),W,ρ,_,px,q,?_⟩
 rintro w H1 x g s rx ⟨n,hl,q⟩
 have ea1:=s _ _ ea
 refine⟨a,us,w,rfl,rfl,ea1,gD (by rw [r.length]; omega),?_⟩
 refine k.nx W σ _ _ ((Ev.same s).trans (Ev.upd wa)) ((px.mono s).updL hi ev wa ?_) q
 exact ((r.same s fun _ z=>z).append (.cons (Nw.rep px n rx) .nil)).keep (.upd ea1 rfl fun b m=>⟨gS wa m,m⟩)
def mT (i:Nat) (tk te:aF):aO:=fun D ρ=>te ρ fun x g=>∃ xs,ρ[i]? = some (some (.own (.lst xs)))/\tk ρ fun y _=>∃ n j,y = .int n/\gA xs.length n=some j/\Nw g x/\D.nx (ρ.set i (some (.own (.lst (xs.set j x)))))
theorem an8 {i:Nat}{tk:aF} (h:LS X (mT i tk te) D σ H):kO (LE X te) (rN (eZ i) (LE X tk) sK) D σ H:=by
 obtain ⟨W,ρ,D',px,q,k⟩:=h
 refine⟨W,ρ,_,px,q,?_⟩
 rintro w H1 x g s rx ⟨xs,hi,q1⟩
 obtain ⟨v,ev,a,rfl,wa,us,ea,r⟩:=(px.mono s).sl i _ hi
 refine⟨_,ev,W,ρ,_,px.mono s,q1,?_⟩
 rintro kv H2 y gy s2 ry ⟨n,j,rfl,hj,nw,q2⟩
 cases ry
 have ea2:=s2 _ _ ea
 refine⟨a,us,n,j,rfl,rfl,ea2,by rw [r.length]; exact hj,?_⟩
 refine k.nx W σ _ _ ((Ev.same (s.trans s2)).trans (Ev.upd wa)) ((px.mono (s.trans s2)).updL hi ev wa ?_) q2
 exact (Reps.set ((Nw.rep px nw rx).same s2 fun _ z=>z) j (r.same s2 fun _ z=>z)).keep (.upd ea2 rfl fun b m=>⟨gS wa m,m⟩)
theorem zZ {m n:Nat} (h:m < n):seqIndex? (m:Int) n=some m:=by
 have:=seqIndex_of (k:=(m:Int)) (n:=n) (by omega) (by omega)
 rw [this]; rfl
def tT (i j:Nat) (tk:aF):aO:=fun D ρ=>∃ ys xs,i ≠ j/\ρ[i]? = some (some (.own (.lst ys)))/\ρ[j]? = some (some (.own (.lst xs)))/\tk ρ fun n _=>∃ (m:Nat) (y:PV),n = .int m/\xs.length<=16000000/\ys.length < 16000000/\xs[m]? = some y/\
 D.nx ((ρ.set j (some (.own (.lst (xs.eraseIdx m))))).set i (some (.own (.lst (ys ++ [y])))))
theorem an9 {i j:Nat}{tk:aF} (h:LS X (tT i j tk) D σ H):kN (kS X.K "list" sN (eZ i) (fR (kS X.K "list" sO (eZ j) (fR (LE X tk) gQ)) gQ)) D σ H:=by
 obtain ⟨W,ρ,D',px,⟨ys,xs,hij,hi,hj,q⟩,k⟩:=h
 obtain ⟨v,ev,a,rfl,wa,us,ea,r⟩:=px.sl i _ hi
 obtain ⟨v2,ev2,b,rfl,wb,vs,eb,rb⟩:=px.sl j _ hj
 have hab:a ≠ b:=fun z=>by subst z; exact hij (px.dis i j _ _ a hi hj ev ev2)
 refine⟨_,ev,jR (aM.of ea),_,ev2,jR (aM.of eb),W,ρ,_,px,q,?_⟩
 rintro w H1 n g s rn ⟨m,y,rfl,hl,hl2,hm,q⟩
 cases rn
 have ea1:=s _ _ ea
 have eb1:=s _ _ eb
 have r1:=rb.same (M':=Ms X.H₀ W true) s fun _ z=>z
 have r0:=r.same (M':=Ms X.H₀ W true) s fun _ z=>z
 obtain ⟨w,hw,ry⟩:=r1.at hm
 have lm:m < vs.length:=(aR4.mp hw).1
 have lr:=rb.length
 refine⟨b,vs,m,m,w,rfl,rfl,eb1,by omega,by omega,zZ lm,hw,?_⟩
 have kp:fV (Ms X.H₀ W true) (Ms X.H₀ W true) H1 (upd H1 b (.lst (vs.eraseIdx m))):=.upd eb1 rfl fun b m=>⟨gS wb m,m⟩
 have ea2:upd H1 b (.lst (vs.eraseIdx m)) a=some (.lst us):=by rw [aP hab]; exact ea1
 refine⟨a,us,w,rfl,rfl,ea2,gD (by rw [r.length]; omega),?_⟩
 have px2:=(px.mono s).updL hj ev2 wb ((r1.eraseIdx m).keep kp)
 have hi2:(ρ.set j (some (Slot.own (.lst (xs.eraseIdx m)))))[i]? = some (some (.own (.lst ys))):=by rw [aS7 (Ne.symm hij)]; exact hi
 have kp2:fV (Ms X.H₀ W true) (Ms X.H₀ W true) (upd H1 b (.lst (vs.eraseIdx m))) (upd (upd H1 b (.lst (vs.eraseIdx m))) a (.lst (us ++ [w]))):=.upd ea2 rfl fun b m=>⟨gS wa m,m⟩
 exact k.nx W _ _ _ (((Ev.same s).trans (Ev.upd wb)).trans (Ev.upd wa)) (px2.updL hi2 ev wa (((r0.keep kp).append (.cons (ry.keep kp) .nil)).keep kp2)) q
end
theorem Reps.atI {K:PySem.W.Frag}{M:Addr->Prop}{H:Hp}{us:List V}{xs:List PV}{i:Int}{z:PV} (r:Reps K M H us xs) (h:L2.atI xs i=some z):∃ v,L2.atI us i=some v/\aI K M H v z:=by
 unfold L2.atI at h ⊢
 rw [r.length]
 cases e:gA xs.length i with
 | none=>rw [e] at h; cases h
 | some j=>rw [e] at h; exact r.at h
section
variable {X : Cx} {σ : St} {H : Hp} {Q' : VK} {ta tb te : aF} {tr : cG}
def tU:PV->Tg->PV->Tg->PK->Prop:=fun x g y _ Q=>∃ xs i z,iG x=some xs/\y = .int i/\L2.atI xs i=some z/\Q z g
theorem ao0:cT X tU (xP X.K):=by
 rintro W Hs H u v x y g g' Q Q' s n r1 r2 ⟨xs,i,z,e,rfl,hz,q⟩ k
 cases r2
 obtain ⟨a,us,rfl,hs,r⟩:=r1.seq e
 obtain ⟨v,hv,rv⟩:=r.atI hz
 rcases hs with hs | hs
 ·exact .inl ⟨a,us,i,v,rfl,rfl,hs,hv,k v H z g (aC.refl _) rv q⟩
 ·exact .inr (.inl ⟨a,us,i,v,rfl,rfl,hs,hv,k v H z g (aC.refl _) rv q⟩)
def A0:PV->Option Nat
 | .tup xs=>some xs.length
 | .lst xs=>some xs.length
 | .scr ns=>some ns.length
 | .dK ps=>some ps.length
 | .kt xs=>some xs.length
 | _=>none
def eQ:List PV->(PV->Prop)->Prop:=fun xs Q=>∃ x n,xs = [x]/\A0 x=some n/\Q (.int n)
theorem Reps.one {K:PySem.W.Frag}{M:Addr->Prop}{H:Hp}{vs:List V}{x:PV} (r:Reps K M H vs [x]):∃ v,vs = [v]/\aI K M H v x:=by
 cases r with
 | cons r t=>cases t; exact⟨_,rfl,r⟩
theorem Reps.two {K:PySem.W.Frag}{M:Addr->Prop}{H:Hp}{vs:List V}{x y:PV} (r:Reps K M H vs [x,y]):∃ v w,vs = [v,w]/\aI K M H v x/\aI K M H w y:=by
 cases r with
 | cons r t=>
  obtain ⟨w,rfl,q⟩:=t.one
  exact⟨_,_,rfl,r,q⟩
theorem ao1:eB X eQ (fun xs H Q=>(∃ p ys,xs = [.ref p]/\(aM X.K H p ys ∨ aJ X.K H p ys)/\Q (.int ys.length) H) ∨ ∃ a kvs,xs = [V.ref a]/\H a=some (.dK kvs)/\Q (.int kvs.length) H):=by
 rintro H vs xs Q Q' r ⟨x,n,rfl,e,q⟩ k
 obtain ⟨v,rfl,r1⟩:=r.one
 have fin:∀ {m:Nat},m=n->Q' (.int m) H:=fun {m} z=>by rw [z]; exact k _ _ _ (aC.refl _) (.int _) q
 cases r1 with
 | tup h r2=>cases e; exact .inl ⟨_,_,rfl,.inr (aJ.of h),fin r2.length⟩
 | lst m h r2=>cases e; exact .inl ⟨_,_,rfl,.inl (aM.of h),fin r2.length⟩
 | scr h=>cases e; exact .inl ⟨_,_,rfl,.inl h.sqL,fin (by rw [aR1])⟩
 | kt h r2=>cases e; exact .inl ⟨_,_,rfl,.inr (.inr h),fin r2.length⟩
 | dK m h e' r=>
  cases e
  refine .inr ⟨_,_,rfl,h,fin ?_⟩
  have:=congrArg List.length e'
  rw [aR1,aR1] at this
  exact this
 | _=>cases e
def seqT:PV->Option (List PV)
 | .kt _=>none
 | x=>iG x
def A1:List PV->(PV->Prop)->Prop:=fun xs Q=>∃ x ys,xs = [x]/\seqT x=some ys/\flats ys=true/\Q (.tup ys)
def pA:List PV->(PV->Prop)->Prop:=fun xs Q=>∃ x ys,xs = [x]/\iG x=some ys/\flats ys=true/\Q (.lst ys)
theorem ao2:eB X (fun xs Q=>A1 xs Q/\∀ ns,xs ≠ [.scr ns]) (fun xs H Q=>∃ p ys,xs = [.ref p]/\((aM X.K H p ys/\∀ l,H l=none->Q (.ref l) (upd H l (.tup ys))) ∨ (aJ X.K H p ys/\Q (.ref p) H))):=by
 rintro H vs xs Q Q' r ⟨⟨x,ys,rfl,e,f,q⟩,nsc⟩ k
 obtain ⟨v,rfl,r1⟩:=r.one
 cases r1 with
 | tup h r2=>cases e; exact⟨_,_,rfl,.inr ⟨aJ.of h,k _ _ _ (aC.refl _) (.tup h (r2.flat f)) q⟩⟩
 | lst m h r2=>cases e; exact⟨_,_,rfl,.inl ⟨aM.of h,fun l hl=>k _ _ _ (b7 hl _) (.tup b8 ((r2.flat f).same (b7 hl _) fun _ z=>z)) q⟩⟩
 | scr h=>exact absurd rfl (nsc _)
 | _=>cases e
theorem ao3:eB X pA (fun xs H Q=>∃ p ys,xs = [.ref p]/\(aM X.K H p ys ∨ aJ X.K H p ys)/\∀ l,H l=none->Q (.ref l) (upd H l (.lst ys))):=by
 rintro H vs xs Q Q' r ⟨x,ys,rfl,e,f,q⟩ k
 obtain ⟨v,rfl,r1⟩:=r.one
 obtain ⟨a,us,rfl,hs,r2⟩:=r1.seq e
 exact⟨_,_,rfl,hs,fun l hl=>k _ _ _ (b7 hl _) (.lst hl b8 ((r2.flat f).same (b7 hl _) fun _ z=>z)) q⟩
def tV:List PV->(PV->Prop)->Prop:=fun xs Q=>∃ ns,xs = [.lst (intz ns)]/\ns.length < 64/\∀ ms:List Int,ms.Perm ns->ms.Pairwise (· <= ·)->Q (.lst (intz ms))
theorem ao4:eB X tV (yZ X.K):=by
 rintro H vs xs Q Q' r ⟨ns,rfl,hl,q⟩ k
 obtain ⟨v,rfl,r1⟩:=r.one
 obtain ⟨a,us,rfl,_,h,r2⟩:=r1.sqL
 obtain rfl:=r2.ofInts
 exact⟨a,ns,rfl,aM.of h,hl,fun l ms hl' p o=>k _ _ _ (b7 hl' _) (.lst hl' b8 (Reps.intz ms)) (q ms p o)⟩
def pB:List PV->(PV->Prop)->Prop:=fun xs Q=>∃ bs:List Bool,xs = [.lst (bs.map PV.bl)]/\Q (.bl (bs.all id))
theorem Reps.ofBls {K:PySem.W.Frag}{M:Addr->Prop}{H:Hp}:∀ {ns:List Bool}{us:List V},Reps K M H us (ns.map PV.bl)->us=ns.map V.bl
 | [],_,.nil=>rfl
 | n :: r,_,.cons q t=>by
  cases q
  rw [Reps.ofBls t]; rfl
theorem ao5:eB X pB (fun xs H Q=>∃ (a:Addr) (bs:List Bool),xs = [.ref a]/\aM X.K H a (bs.map V.bl)/\Q (.bl (bs.all id)) H):=by
 rintro H vs xs Q Q' r ⟨bs,rfl,q⟩ k
 obtain ⟨v,rfl,r1⟩:=r.one
 obtain ⟨a,us,rfl,_,h,r2⟩:=r1.sqL
 obtain rfl:=r2.ofBls
 exact⟨a,bs,rfl,aM.of h,k _ _ _ (aC.refl _) (.bl _) q⟩
def mU:List PV->(PV->Prop)->Prop:=fun xs Q=>∃ i j,xs = [.int i,.int j]/\Q (.int (if j < i then j else i))
def mV:List PV->(PV->Prop)->Prop:=fun xs Q=>∃ i j,xs = [.int i,.int j]/\Q (.int (if j > i then j else i))
theorem ao6:eB X mU (fun xs H Q=>∃ i j,xs = [.int i,.int j]/\Q (.int (if j < i then j else i)) H):=by
 rintro H vs xs Q Q' r ⟨i,j,rfl,q⟩ k
 obtain ⟨v,w,rfl,r1,r2⟩:=r.two
 cases r1; cases r2
 exact⟨i,j,rfl,k _ _ _ (aC.refl _) (.int _) q⟩
theorem ao7:eB X mV (fun xs H Q=>∃ i j,xs = [.int i,.int j]/\Q (.int (if j > i then j else i)) H):=by
 rintro H vs xs Q Q' r ⟨i,j,rfl,q⟩ k
 obtain ⟨v,w,rfl,r1,r2⟩:=r.two
 cases r1; cases r2
 exact⟨i,j,rfl,k _ _ _ (aC.refl _) (.int _) q⟩
abbrev bJ:=List PV->(PV->Prop)->Prop
def mW (K:PySem.W.Frag) (p:bJ):Sp:=fun vs H Q _=>∃ xs Qp,Reps K (fun _=>True) H vs xs/\p xs Qp/\∀ v H' x,aC H H'->aI K (fun a=>H a=none) H' v x->Qp x->Q v H'
theorem ao8 {p:bJ}{E:XK} (h:LE X (aE p tr) σ H Q'):sB (mW X.K p) [] E (LA X tr) σ H Q':=by
 obtain ⟨W,ρ,Q,px,q,k⟩:=h
 refine⟨W,ρ,_,px,q,fun vs H1 xs s1 r1 q1=>⟨_,_,by rw [aV4]; exact r1.any,q1,fun v H' x s2 r2 q2=>k v H' x .fr (s1.trans s2) (r2.same (aC.refl _) fun _ z=>s1.free z) q2⟩⟩
def ao9:PV->Option Bool
 | .non=>some false
 | .bl b=>some b
 | .int i=>some (i != 0)
 | .tup xs=>some (!xs.isEmpty)
 | .lst xs=>some (!xs.isEmpty)
 | .dK ps=>some (!ps.isEmpty)
 | _=>none
def pC (t:aF):c8:=fun ρ Q=>t ρ fun x _=>∃ b,ao9 x=some b/\Q b
theorem tW {α β:Type}:∀ {l:List α}{m:List β},l.length=m.length->l.isEmpty=m.isEmpty
 | [],[],_=>rfl
 | _ :: _,_ :: _,_=>rfl
theorem ap0 {t:aF}{Qb:Bool->Hp->Prop} (h:LT X (pC t) σ H Qb):LE X t σ H fun x H'=>∃ k,rX X.K x H' k/\Qb k H':=by
 obtain ⟨W,ρ,Q,px,q,k⟩:=h
 refine⟨W,ρ,_,px,q,?_⟩
 rintro v H1 x g s r ⟨b,e,q⟩
 refine⟨b,?_,k _ _ s q⟩
 cases r with
 | non=>cases e; rfl
 | bl b=>cases e; rfl
 | int i=>cases e; rfl
 | str x=>cases e
 | tup h r=>cases e; exact .inr (.inl ⟨_,aJ.of h,by rw [tW r.length]⟩)
 | lst m h r=>cases e; exact .inl ⟨_,aM.of h,by rw [tW r.length]⟩
 | dK m h e' r=>
  cases e
  refine .inr (.inr ⟨_,h,?_⟩)
  have:=congrArg List.length e'
  rw [aR1,aR1] at this
  rw [tW this]
 | dT m h e' r=>cases e
 | scr h=>cases e
 | kt h r=>cases e
 | exc h e' c=>cases e
def iX:PV->Bool
 | .non=>true
 | _=>false
def jW (neg:Bool):PV->Tg->PV->Tg->PK->Prop:=fun x _ y _ Q=>y = .non/\Q (.bl (if neg=true then !iX x else iX x)) .fr
theorem A2 {K:PySem.W.Frag}{M:Addr->Prop}{H:Hp}{v:V}{x:PV} (r:aI K M H v x):decide (v = .non)=iX x:=by
 cases r <;> rfl
theorem ap1:cT X (jW false) (fun x y H Q=>y = .non/\Q (.bl (decide (x = .non))) H):=by
 rintro W Hs H u v x y g g' Q Q' s n r1 r2 ⟨rfl,q⟩ k
 cases r2
 exact⟨rfl,by rw [A2 r1]; exact k _ _ _ _ (aC.refl _) (.bl _) q⟩
theorem A3:cT X (jW true) (fun x y H Q=>y = .non/\Q (.bl (!decide (x = .non))) H):=by
 rintro W Hs H u v x y g g' Q Q' s n r1 r2 ⟨rfl,q⟩ k
 cases r2
 exact⟨rfl,by rw [A2 r1]; exact k _ _ _ _ (aC.refl _) (.bl _) q⟩
end
structure l0 (K:PySem.W.Frag) (H0:Hp) (W:Addr->Prop) (g:Bool) (H1:Hp) (J:It) (xs:List PV):Prop where
 go:∀ W' H' i,Ev W H1 W' H'->i < xs.length->J.go i H'
 yld:∀ W' H' i v H2,Ev W H1 W' H'->J.yld i H' v H2->i < xs.length->aC H' H2/\∃ x,xs[i]? = some x/\aI K (Ms H0 W' g) H2 v x
 stop:∀ W' H',Ev W H1 W' H'->J.stop xs.length H'
abbrev eC:=bE->(List PV->Bool->Prop)->Prop
def LI (X:Cx) (t:eC):TI:=fun σ H R=>∃ (W:Addr->Prop) (ρ:bE) (Q:List PV->Bool->Prop),PX X.K X.H₀ W σ ρ H/\t ρ Q/\∀ J H1 xs g,aC H H1->l0 X.K X.H₀ W g H1 J xs->Q xs g->R J H1
theorem Ev.keep {H0:Hp}{W W':Addr->Prop}{H H':Hp}{g:Bool} (e:Ev W H W' H') (tw:∀ a,W a->∃ o,H a=some o/\gE o=true):fV (Ms H0 W g) (Ms H0 W' g) H H':=by
 have m:∀ {a:Addr}{o:HO},Ms H0 W g a->H a=some o->Ms H0 W' g a/\H' a=some o:=fun {a o} z h=>by
  cases g with
  | true=>
   obtain ⟨h1,h2⟩:=e a _ h z.1
   exact⟨⟨h2,z.2⟩,h1⟩
  | false=>
   obtain ⟨h1,h2⟩:=e a _ h z
   exact⟨h2,h1⟩
 refine⟨fun a _ z h=>m z h,fun a _ z h=>m z h,fun a _ z h=>m z h,fun a _ h=>(e a _ h fun z=>?_).1,fun a _ _ h=>(e a _ h fun z=>?_).1⟩
 ·obtain ⟨o,h',mu⟩:=tw a z; rw [h] at h'; cases h'; cases mu
 ·obtain ⟨o,h',mu⟩:=tw a z; rw [h] at h'; cases h'; cases mu
section
variable {X : Cx} {σ : St} {H : Hp} {te : aF} {tr : cG} {R : It → Hp → Prop}
def A4 (K:PySem.W.Frag) (tl:TE):TI:=fun σ H R=>tl σ H fun x H1=>∃ a,x = .ref a/\((∃ xs,aM K H1 a xs/\R (kQ K a) H1) ∨ (∃ xs,aJ K H1 a xs/\R (iQ K a) H1))
def pD:Tg->List PV->Bool
 | .fr,_=>true
 | .nw,_=>true
 | _,xs=>flats xs
def eR (te:aF):eC:=fun ρ Q=>te ρ fun x g=>∃ xs,iG x=some xs/\(g = .rd->flat x=true)/\Q xs (pD g xs)
theorem A5 {K:PySem.W.Frag}{H0:Hp}{W:Addr->Prop}{g:Bool}{H1:Hp}{a:Addr}{us:List V}{xs:List PV} (tw:∀ a,W a->∃ o,H1 a=some o/\gE o=true) (ha:∀ W' H',Ev W H1 W' H'->aM K H' a us) (r:Reps K (Ms H0 W g) H1 us xs):l0 K H0 W g H1 (kQ K a) xs:=by
 have lr:=r.length
 refine⟨fun W' H' i e hi=>⟨us,us[i]'(by omega),ha W' H' e,by simp⟩,fun W' H' i v H2 e y hi=>?_,fun W' H' e=>⟨us,ha W' H' e,by omega⟩⟩
 obtain ⟨rfl,y⟩:=y
 obtain ⟨x,hx,rx⟩:=r.get (y us (ha W' _ e))
 exact⟨aC.refl _,x,hx,rx.keep (e.keep tw)⟩
theorem A6 {K:PySem.W.Frag}{H0:Hp}{W:Addr->Prop}{g:Bool}{H1:Hp}{a:Addr}{us:List V}{xs:List PV} (tw:∀ a,W a->∃ o,H1 a=some o/\gE o=true) (ha:∀ W' H',Ev W H1 W' H'->aJ K H' a us) (r:Reps K (Ms H0 W g) H1 us xs):l0 K H0 W g H1 (iQ K a) xs:=by
 have lr:=r.length
 refine⟨fun W' H' i e hi=>⟨us,us[i]'(by omega),ha W' H' e,by simp⟩,fun W' H' i v H2 e y hi=>?_,fun W' H' e=>⟨us,ha W' H' e,by omega⟩⟩
 obtain ⟨rfl,y⟩:=y
 obtain ⟨x,hx,rx⟩:=r.get (y us (ha W' _ e))
 exact⟨aC.refl _,x,hx,rx.keep (e.keep tw)⟩
theorem l8 {K:PySem.W.Frag}{H0 Hs H:Hp}{W:Addr->Prop}{σ:St}{ρ:bE}{g:Tg}{us:List V}{xs:List PV} (px:PX K H0 W σ ρ Hs) (hg:g = .rd->flats xs=true) (r:Reps K (Mg H0 W Hs g) H us xs):Reps K (Ms H0 W (pD g xs)) H us xs:=by
 cases g with
 | fr=>exact r.same (aC.refl _) fun _ z=>px.new z
 | nw=>exact r.same (aC.refl _) fun _ z=>z
 | sh=>
  show Reps K (Ms H0 W (flats xs)) H us xs
  cases e:flats xs with
  | true=>exact r.flat e
  | false=>exact r.same (aC.refl _) fun _ z=>z
 | rd=>exact r.flat (hg rfl)
theorem ap2 (h:LI X (eR te) σ H R):A4 X.K (LE X te) σ H R:=by
 obtain ⟨W,ρ,Q,px,q,k⟩:=h
 refine⟨W,ρ,_,px,q,?_⟩
 rintro v H1 x g s r ⟨xs,e,hg,q⟩
 have px1:=px.mono s
 have tw:∀ a,W a->∃ o,H1 a=some o/\gE o=true:=fun a z=>(px1.wm a z).2
 cases r with
 | tup h r=>
  cases e
  refine⟨_,rfl,.inr ⟨_,aJ.of h,k _ _ _ _ s (A6 tw (fun W' H' e=>aJ.of (e _ _ h fun z=>?_).1) (l8 px (fun z=>by have:=hg z; unfold flat at this; exact this) r)) q⟩⟩
  obtain ⟨o,h',mu⟩:=tw _ z; rw [h] at h'; cases h'; cases mu
 | @lst a us xs' m h r=>
  cases e
  have wa : ¬ W a:=by
   cases g with
   | fr=>exact (px.new m).1
   | nw=>exact m.1
   | sh=>exact m
   | rd=>have:=hg rfl; unfold flat at this; cases this
  exact⟨_,rfl,.inl ⟨_,aM.of h,k _ _ _ _ s (A5 tw (fun W' H' e=>aM.of (e _ _ h wa).1) (l8 px (fun z=>by have:=hg z; unfold flat at this; cases this) r)) q⟩⟩
 | scr h=>
  cases e
  refine⟨_,rfl,.inl ⟨_,h.sqL,k _ _ _ _ s (A5 tw (fun W' H' e=>(iE.keep (fun a o u hz=>(e _ _ hz fun z=>?_).1) h).sqL) (l8 (g:=g) px (fun z=>c7 _) (Reps.intz _))) q⟩⟩
  obtain ⟨o,h',mu⟩:=tw _ z; rw [hz] at h'; cases h'; cases mu
 | kt h r=>
  cases e
  exact⟨_,rfl,.inr ⟨_,.inr h,k _ _ _ _ s (A6 tw (fun W' H' e=>.inr h) (l8 px (fun z=>by have:=hg z; unfold flat at this; exact this) r)) q⟩⟩
 | _=>cases e
def dP (lo:Int) (n:Nat):List PV:=(List.range n).map fun (i:Nat)=>PV.int (lo+(i:Int))
theorem eS (lo:Int) (n:Nat):(dP lo n).length=n:=by unfold dP; rw [aR1,ba5]
theorem A7 {lo:Int}{n i:Nat} (h:i < n):(dP lo n)[i]? = some (.int (lo+i)):=by unfold dP; rw [aS5,List.getElem?_range h]; rfl
def fX (te:aF):eC:=fun ρ Q=>te ρ fun x _=>∃ j:Int,x = .int j/\-1000000<=j/\j<=1000000/\Q (dP 0 j.toNat) true
def mX (ta tb:aF):eC:=fun ρ Q=>ta ρ fun x _=>tb ρ fun y _=>∃ i j:Int,x = .int i/\y = .int j/\(-1000000<=i/\i<=1000000/\-1000000<=j/\j<=1000000)/\Q (dP i (j - i).toNat) true
theorem A8 {K:PySem.W.Frag}{H0:Hp}{W:Addr->Prop}{H1:Hp} (lo:Int) (n:Nat):l0 K H0 W true H1 (m7 lo n) (dP lo n):=by
 refine⟨fun W' H' i e hi=>by rw [eS] at hi; exact hi,fun W' H' i v H2 e y hi=>?_,fun W' H' e=>by show n<=(dP lo n).length; rw [eS]; exact aR0 _⟩
 rw [eS] at hi
 obtain ⟨rfl,rfl⟩:=y
 exact⟨aC.refl _,_,A7 hi,.int _⟩
theorem ap3 (h:LI X (fX te) σ H R):wO (fR (LE X te) gQ) σ H R:=by
 obtain ⟨W,ρ,Q,px,q,k⟩:=h
 refine⟨W,ρ,_,px,q,?_⟩
 rintro v H1 x g s r ⟨j,rfl,h1,h2,q⟩
 cases r
 exact⟨j,rfl,by omega,by omega,k _ _ _ _ s (A8 0 j.toNat) q⟩
theorem ap4 {ta tb:aF} (h:LI X (mX ta tb) σ H R):wP (fR (LE X ta) (fR (LE X tb) gQ)) σ H R:=by
 obtain ⟨W,ρ,Q,px,q,k⟩:=h
 refine⟨W,ρ,_,px,q,fun v H1 x g s r q=>⟨W,ρ,_,px.mono s,q,?_⟩⟩
 rintro w H2 y g' s2 r2 ⟨i,j,rfl,rfl,h,q⟩
 cases r; cases r2
 exact⟨i,j,rfl,by omega,k _ _ _ _ (s.trans s2) (A8 i (j - i).toNat) q⟩
end
abbrev iY:=PV->Bool->bE->(bE->Prop)->Prop
def mY (K:PySem.W.Frag) (own:Nat->Prop) (p:iY) (t:TG):Prop:=∀ (H0:Hp) (W:Addr->Prop) (σ:St) (ρ:bE) (H:Hp) (v:V) (x:PV) (g:Bool) (Q:bE->Prop) (Q':St->Hp->Prop),
 PX K H0 W σ ρ H->aI K (Ms H0 W g) H v x->p x g ρ Q->(∀ σ' ρ',PX K H0 W σ' ρ' H->(∀ i,¬ own i->σ'[i]? = σ[i]?)->σ'.length=σ.length->Q ρ'->Q' σ' H)->t v σ H Q'
def bZ (i:Nat):iY:=fun x g ρ Q=>Q (ρ.set i (some (.sh (g || flat x) x)))
theorem pE {K:PySem.W.Frag}{H0 H:Hp}{W:Addr->Prop}{v:V}{x:PV}{g:Bool} (r:aI K (Ms H0 W g) H v x):aI K (Ms H0 W (g || flat x)) H v x:=by
 cases g with
 | true=>exact r
 | false=>
  show aI K (Ms H0 W (flat x)) H v x
  cases e:flat x with
  | true=>exact r.flat e
  | false=>exact r
theorem tX (K:PySem.W.Frag) (i:Nat):mY K (· = i) (bZ i) (cR i):=by
 intro H0 W σ ρ H v x g Q Q' px r q k
 exact k _ _ (px.setSh (pE r)) (fun j hj=>by rw [aS7 (Ne.symm hj)]) (aV5 ..) q
def jX (i j:Nat):iY:=fun x g ρ Q=>∃ y z,x = .tup [y,z]/\Q ((ρ.set i (some (.sh (g || flat y) y))).set j (some (.sh (g || flat z) z)))
theorem tY (K:PySem.W.Frag) (i j:Nat):mY K (fun k=>k=i ∨ k=j) (jX i j) (jJ K 2 (fB (cR i) (fB (cR j) jI))):=by
 intro H0 W σ ρ H v x g Q Q' px r q k
 obtain ⟨y,z,rfl,q⟩:=q
 obtain ⟨a,us,rfl,h,r⟩:=r.sqT
 obtain ⟨u1,u2,rfl,r1,r2⟩:=r.two
 refine⟨a,_,rfl,aJ.of h,rfl,u1,_,rfl,u2,_,rfl,rfl,k _ _ ((px.setSh (pE r1)).setSh (pE r2)) (fun k hk=>?_) (by rw [aV5,aV5]) q⟩
 rw [aS7 (fun e=>hk (.inr e.symm)),aS7 (fun e=>hk (.inl e.symm))]
section
variable {X : Cx} {σ : St} {H : Hp} {D : cE}
def cN (ti:eC) (p:iY) (tb:aO):aO:=fun D ρ=>ti ρ fun xs g=>∃ I:Nat->bE->Prop,I 0 ρ/\(∀ i x ρ',xs[i]? = some x->I i ρ'->p x g ρ' fun ρ2=>tb { D with nx:=I (i+1),ct:=I (i+1),bk:=D.nx } ρ2)/\∀ ρ',I xs.length ρ'->D.nx ρ'
theorem ap5 {ti:eC}{p:iY}{g:TG}{tb:aO}{own:Nat->Prop} (hg:mY X.K own p g) (h:LS X (cN ti p tb) D σ H):wQ (LI X ti) g (LS X tb) D σ H:=by
 obtain ⟨W,ρ,D',px,q,k⟩:=h
 refine⟨W,ρ,_,px,q,?_⟩
 rintro J H1 xs gb s it ⟨I,i0,turn,fin⟩
 refine⟨fun i m σ2 H2=>m=xs.length - i/\i<=xs.length/\∃ W2 ρ2,PX X.K X.H₀ W2 σ2 ρ2 H2/\Ev W H1 W2 H2/\I i ρ2,⟨xs.length,by omega,aT7 _,W,ρ,px.mono s,Ev.refl _ _,i0⟩,?_⟩
 rintro i m σ2 H2 ⟨rfl,hi,W2,ρ2,px2,e2,i2⟩
 have e0:Ev W H W2 H2:=(Ev.same s).trans e2
 by_cases hlt:i < xs.length
 ·refine .inr ⟨it.go W2 H2 i e2 hlt,fun σ3 H3=>∃ W3 ρ3,PX X.K X.H₀ W3 σ3 ρ3 H3/\Ev W H1 W3 H3/\I (i+1) ρ3,fun σ3 H3 ⟨W3,ρ3,a,b,c⟩=>⟨xs.length - (i+1),by omega,rfl,hlt,W3,ρ3,a,b,c⟩,fun v H3 y=>?_⟩
  obtain ⟨s3,x,hx,rx⟩:=it.yld W2 H2 i v H3 e2 y hlt
  refine hg X.H₀ W2 σ2 ρ2 H3 v x gb _ _ (px2.mono s3) rx (turn i x ρ2 hx i2) fun σ4 ρ4 px4 _ _ q4=>?_
  have e3:Ev W H1 W2 H3:=e2.trans (Ev.same s3)
  have e3':Ev W H W2 H3:=e0.trans (Ev.same s3)
  exact⟨W2,ρ4,_,px4,q4,fun W' σ' H' ρ' e p q=>⟨W',ρ',p,e3.trans e,q⟩,k.rt,fun W' σ' H' ρ' e p q=>k.nx W' σ' H' ρ' (e3'.trans e) p q,fun W' σ' H' ρ' e p q=>⟨W',ρ',p,e3.trans e,q⟩⟩
 ·have e:i=xs.length:=by omega
  subst e
  exact .inl ⟨it.stop W2 H2 e2,k.nx W2 σ2 H2 ρ2 e0 px2 (fin ρ2 i2)⟩
end
def l9 (fr:List (Option Nat)) (ρ:bE):bE:=fr.map fun o=>o.bind fun j=>(ρ[j]?).join.map fun m=>Slot.sh false m.val
def jY (D:Addr):Addr->Prop:=fun a=>a=D
theorem ap6 {K:PySem.W.Frag}{H0:Hp}{W:Addr->Prop}{σ:St}{ρ:bE}{H1 H':Hp}{D:Addr}{acc:List V}{fr:List (Option Nat)} (px:PX K H0 W σ ρ H1) (hD:H1 D=none) (s:aC H1 H') (ha:H' D=some (.lst acc)) :
  PX K H1 (jY D) (eN fr σ) (l9 fr ρ) H':=by
 have old:∀ {a:Addr}{o:HO},H1 a=some o->a ≠ D:=fun {a o} e z=>by rw [z,hD] at e; cases e
 refine⟨by unfold eN l9; rw [aR1,aR1],s,fun a z=>by cases z; exact⟨hD,_,ha,rfl⟩,fun i m h=>?_,fun i j x y a h1=>?_⟩
 ·unfold l9 at h
  rw [aS5] at h
  cases ef:fr[i]? with
  | none=>rw [ef] at h; cases h
  | some o=>
   rw [ef] at h
   cases o with
   | none=>cases h
   | some j=>
    have h:some ((ρ[j]?).join.map fun m=>Slot.sh false m.val)=some (some m):=h
    cases er:ρ[j]? with
    | none=>rw [er] at h; cases h
    | some o=>
     rw [er] at h
     cases o with
     | none=>cases h
     | some m0=>
      cases h
      obtain ⟨v,ev,r⟩:=px.sl j m0 er
      refine⟨v,?_,?_⟩
      ·unfold eN
       rw [aS5,ef]
       show some ((σ[j]?).join)=_
       rw [ev]; rfl
      ·have r':aI K (fun _=>True) H1 v m0.val:=(zR (Hs:=H1) r).same (aC.refl _) fun _ _=>trivial
       exact r'.keep ⟨fun a _ _ e=>⟨old e,s _ _ e⟩,fun a _ _ e=>⟨old e,s _ _ e⟩,fun a _ _ e=>⟨old e,s _ _ e⟩,fun _ _ e=>s _ _ e,fun _ _ _ e=>s _ _ e⟩
 ·unfold l9 at h1
  rw [aS5] at h1
  cases ef:fr[i]? with
  | none=>rw [ef] at h1; cases h1
  | some o=>
   rw [ef] at h1
   cases o with
   | none=>cases h1
   | some j=>
    have h1:some ((ρ[j]?).join.map fun m=>Slot.sh false m.val)=some (some (Slot.own x)):=h1
    cases er:ρ[j]? with
    | none=>rw [er] at h1; cases h1
    | some o=>
     rw [er] at h1
     cases o with
     | none=>cases h1
     | some m0=>cases h1
section
variable {X : Cx} {σ : St} {H : Hp} {Q' : VK}
abbrev _root_.L2.Cx.frm (X:Cx) (H1:Hp):Cx:={ X with H₀:=H1 }
def eU (ti:eC) (fr:List (Option Nat)) (p:iY) (tc:c8) (te:aF):aF:=fun ρ Q=>ti ρ fun xs g=>xs.length<=16000000/\∃ I:Nat->List PV->Prop,I 0 []/\
 (∀ i x acc,xs[i]? = some x->I i acc->p x false (l9 fr ρ) fun ρ2=>tc ρ2 fun b=>if b=true then te ρ2 fun y gy=>Nw gy y/\I (i+1) (acc ++ [y]) else I (i+1) acc)/\∀ acc,I xs.length acc->Q (.lst acc) .fr
theorem pF {ti:eC}{fr:List (Option Nat)}{p:iY}{g:TG}{tc:c8}{te:aF}{own:Nat->Prop} (hg:mY X.K own p g) (ho:∀ i,own i->fr[i]? = some none) (h:LE X (eU ti fr p tc te) σ H Q') :
  yP (LI X ti) fr (fun _=>g) (fun H1=>LT (X.frm H1) tc) (fun H1=>LE (X.frm H1) te) σ H Q':=by
 obtain ⟨W,ρ,Q,px,q,k⟩:=h
 refine⟨W,ρ,_,px,q,?_⟩
 rintro J H1 xs gb s it ⟨hl,I,i0,turn,fin⟩ D hD
 have px1:=px.mono s
 refine⟨fun i m acc H'=>m=xs.length - i/\i<=xs.length/\aC H1 H'/\H' D=some (.lst acc)/\∃ ys,Reps X.K (Ms H1 (jY D) true) H' acc ys/\ys.length<=i/\I i ys,⟨xs.length,by omega,aT7 _,b7 hD _,b8,[],.nil,aR0 _,i0⟩,?_⟩
 rintro i m acc H' ⟨rfl,hi,sm,ha,ys,ry,hy,iy⟩
 refine⟨ha,?_⟩
 have ev:Ev W H1 (kZ W D) H':=Ev.own sm hD
 by_cases hlt:i < xs.length
 ·refine .inr ⟨it.go _ H' i ev hlt,fun v H2 y=>?_⟩
  obtain ⟨s2,x,hx,rx⟩:=it.yld _ H' i v H2 ev y hlt
  have ha2:=s2 _ _ ha
  have pxb:PX X.K H1 (jY D) (eN fr σ) (l9 fr ρ) H2:=ap6 px1 hD (sm.trans s2) ha2
  have rx':aI X.K (Ms H1 (jY D) false) H2 v x:=rx.same (aC.refl _) fun a z=>by
   cases gb with
   | true=>exact fun e=>z.1 (.inr e)
   | false=>exact fun e=>z (.inr e)
  refine hg H1 (jY D) _ _ H2 v x false _ _ pxb rx' (turn i x ys hx iy) fun σ2 ρ2 px2 hown hlen q2=>⟨⟨hlen.symm,fun j w e=>?_⟩,?_⟩
  ·by_cases oj:own j
   ·have:=ho j oj
    unfold eN at e
    rw [aS5,this] at e
    cases e
   ·rw [hown j oj]; exact e
  ·refine⟨jY D,ρ2,_,px2,q2,fun b H4 s4 q4=>?_⟩
   have ha4:=s4 _ _ ha2
   have sm4:=(sm.trans s2).trans s4
   cases b with
   | false=>
    refine aV ⟨xs.length - (i+1),by omega,rfl,hlt,sm4,ha4,ys,ry.same (s2.trans s4) fun _ z=>z,by omega,by simpa using q4⟩
   | true=>
    refine aX ⟨jY D,ρ2,_,px2.mono s4,by simpa using q4,?_⟩
    rintro w H5 y gy s5 ryy ⟨nw,q5⟩
    have ha5:=s5 _ _ ha4
    have lr:=ry.length
    refine⟨ha5,gD (by omega),xs.length - (i+1),by omega,rfl,hlt,fun b o e=>?_,b8,ys ++ [y],?_,by rw [aR3,aZ2]; omega,q5⟩
    ·rw [aP (fun z=>by rw [z,hD] at e; cases e)]
     exact s5 _ _ (sm4 _ _ e)
    ·exact ((ry.same ((s2.trans s4).trans s5) fun _ z=>z).append (.cons (Nw.rep (px2.mono s4) nw ryy) .nil)).keep (.upd ha5 rfl fun b m=>⟨m.1,m⟩)
 ·have e:i=xs.length:=by omega
  subst e
  refine .inl ⟨it.stop _ H' ev,k _ H' _ .fr (s.trans sm) (.lst (s.free hD) ha (ry.same (aC.refl _) fun _ z=>s.free z.2)) (fin ys iy)⟩
def gU:c8:=fun _ Q=>Q true
theorem ap7 {Qb:Bool->Hp->Prop} (h:LT X gU σ H Qb):t5 σ H Qb:=by
 obtain ⟨W,ρ,Q,px,q,k⟩:=h
 exact k _ _ (aC.refl _) q
end
section
variable {κ : Type} [DecidableEq κ]
def bA (ps:List (κ × PV)) (k:κ):Option PV:=(ps.find? fun p=>decide (p.1=k)).map (·.2)
def cI (ps:List (κ × PV)) (k:κ) (x:PV):List (κ × PV):=if (ps.any fun p=>decide (p.1=k))=true then ps.map (fun p=>if p.1=k then (p.1,x) else p) else ps ++ [(k,x)]
variable {K : PySem.W.Frag} {M : Addr → Prop} {H : Hp}
theorem mZ (k:κ):∀ {kvs:List (κ × V)}{ps:List (κ × PV)},kvs.map (·.1)=ps.map (·.1)->Reps K M H (kvs.map (·.2)) (ps.map (·.2))->(bA ps k=none->e8 kvs k=none)/\∀ x,bA ps k=some x->∃ v,e8 kvs k=some v/\aI K M H v x
 | [],[],_,_=>⟨fun _=>rfl,fun x h=>by cases h⟩
 | [],_ :: _,e,_=>by cases e
 | _ :: _,[],e,_=>by cases e
 | (k1,v) :: kvs,(k2,x) :: ps,e,r=>by
  injection e with e1 e2
  have e1:k1=k2:=e1
  subst e1
  cases r with
  | cons r t=>
   obtain ⟨h1,h2⟩:=mZ k e2 t
   unfold bA e8 at h1 h2 ⊢
   by_cases e:k1=k
   ·simp only [aZ5,e,decide_true,Option.map_some]
    exact⟨fun z=>(by cases z),fun y z=>(by cases z; exact⟨v,rfl,r⟩)⟩
   ·simp only [aZ5,e,decide_false]
    exact⟨h1,h2⟩
theorem ap8 (k:κ) {kvs:List (κ × V)}{ps:List (κ × PV)} (e:kvs.map (·.1)=ps.map (·.1)):(kvs.any fun p=>decide (p.1=k))=ps.any fun p=>decide (p.1=k):=by
 have h1:(kvs.any fun p=>decide (p.1=k))=(kvs.map (·.1)).any fun z=>decide (z=k):=by rw [List.any_map]; rfl
 have h2:(ps.any fun p=>decide (p.1=k))=(ps.map (·.1)).any fun z=>decide (z=k):=by rw [List.any_map]; rfl
 rw [h1,h2,e]
theorem A9 (k:κ) {w:V}{y:PV} (q:aI K M H w y):∀ {kvs:List (κ × V)}{ps:List (κ × PV)},kvs.map (·.1)=ps.map (·.1)->Reps K M H (kvs.map (·.2)) (ps.map (·.2))->
  (kvs.map fun kv=>if kv.1=k then (kv.1,w) else kv).map (·.1)=(ps.map fun kv=>if kv.1=k then (kv.1,y) else kv).map (·.1)/\Reps K M H ((kvs.map fun kv=>if kv.1=k then (kv.1,w) else kv).map (·.2)) ((ps.map fun kv=>if kv.1=k then (kv.1,y) else kv).map (·.2))
 | [],[],_,_=>⟨rfl,.nil⟩
 | [],_ :: _,e,_=>by cases e
 | _ :: _,[],e,_=>by cases e
 | (k1,v) :: kvs,(k2,x) :: ps,e,r=>by
  injection e with e1 e2
  have e1:k1=k2:=e1
  subst e1
  cases r with
  | cons r t=>
   obtain ⟨h1,h2⟩:=A9 k q e2 t
   by_cases e:k1=k
   ·simp only [aU8,e,if_true]
    exact⟨by rw [h1],.cons q h2⟩
   ·simp only [aU8,e,aX8]
    exact⟨by rw [h1],.cons r h2⟩
theorem tZ (k:κ) {w:V}{y:PV} (q:aI K M H w y) {kvs:List (κ × V)}{ps:List (κ × PV)} (e:kvs.map (·.1)=ps.map (·.1)) (r:Reps K M H (kvs.map (·.2)) (ps.map (·.2))) :
  (dA kvs k w).map (·.1)=(cI ps k y).map (·.1)/\Reps K M H ((dA kvs k w).map (·.2)) ((cI ps k y).map (·.2)):=by
 unfold dA cI
 rw [ap8 k e]
 split
 ·exact A9 k q e r
 ·rw [aT8,aT8,aT8,aT8,e]
  exact⟨rfl,r.append (.cons q .nil)⟩
end
def kP:aD->PV
 | .inl i=>.int i
 | .inr x=>.str x
theorem u3 {K:PySem.W.Frag}{M:Addr->Prop}{H:Hp}{v:V}{k:aD} (r:aI K M H v (kP k)):v=kV k:=by
 cases k with
 | inl i=>cases r; rfl
 | inr x=>cases r; rfl
theorem u4 {K:PySem.W.Frag}{M:Addr->Prop}{H:Hp}:∀ {ks:List aD}{us:List V},Reps K M H us (ks.map kP)->us=ks.map kV
 | [],_,.nil=>rfl
 | k :: r,_,.cons q t=>by rw [u3 q,u4 t]; rfl
def u5 (x y:PV) (o:Option PV):Prop:=(∃ ps k,x = .dK ps/\y=kP k/\o=bA ps k) ∨ (∃ ps k,x = .dT ps/\y = .tup (k.map kP)/\o=bA ps k)
theorem pG {K:PySem.W.Frag}{M M2:Addr->Prop}{H:Hp}{v w:V}{x y:PV}{o:Option PV} (h:u5 x y o) (rx:aI K M H v x) (ry:aI K M2 H w y):∃ a o',v = .ref a/\dN H a w o'/\(o=none->o'=none)/\∀ z,o=some z->∃ u,o'=some u/\aI K M H u z:=by
 rcases h with ⟨ps,k,rfl,rfl,rfl⟩ | ⟨ps,k,rfl,rfl,rfl⟩
 ·obtain rfl:=u3 ry
  cases rx with
  | dK m h e r=>exact⟨_,_,rfl,dN.k h,(mZ k e r).1,(mZ k e r).2⟩
 ·obtain ⟨b,us,rfl,hb,rb⟩:=ry.sqT
  obtain rfl:=u4 rb
  cases rx with
  | dT m h e r=>exact⟨_,_,rfl,dN.t h hb,(mZ k e r).1,(mZ k e r).2⟩
section
variable {X : Cx} {σ : St} {H : Hp} {D : cE} {tk td te : aF} {Q' : VK}
def iZ (neg:Bool) (tk td:aF):aF:=fun ρ Q=>tk ρ fun y _=>td ρ fun x _=>∃ o,u5 x y o/\Q (.bl (if neg=true then !o.isSome else o.isSome)) .fr
theorem B0 {α β:Type}{o:Option α}{o':Option β}{P:β->α->Prop} (h1:o=none->o'=none) (h2:∀ z,o=some z->∃ u,o'=some u/\P u z):o'.isSome=o.isSome:=by
 cases o with
 | none=>rw [h1 rfl]; rfl
 | some z=>obtain ⟨u,e,_⟩:=h2 z rfl; rw [e]; rfl
theorem ap9 (h:LE X (iZ false tk td) σ H Q'):yA (LE X tk) (LE X td) σ H Q':=by
 obtain ⟨W,ρ,Q,px,q,k⟩:=h
 refine⟨W,ρ,_,px,q,fun w H1 y g s r q=>⟨W,ρ,_,px.mono s,q,?_⟩⟩
 rintro v H2 x g' s2 r2 ⟨o,ak,q⟩
 obtain ⟨a,o',rfl,dg,h1,h2⟩:=pG ak r2 (r.same s2 fun _ z=>z)
 refine⟨a,o',rfl,dg,?_⟩
 rw [B0 h1 h2]
 exact k _ _ _ .fr (s.trans s2) (.bl _) q
theorem B1 (h:LE X (iZ true tk td) σ H Q'):yB (LE X tk) (LE X td) σ H Q':=by
 obtain ⟨W,ρ,Q,px,q,k⟩:=h
 refine⟨W,ρ,_,px,q,fun w H1 y g s r q=>⟨W,ρ,_,px.mono s,q,?_⟩⟩
 rintro v H2 x g' s2 r2 ⟨o,ak,q⟩
 obtain ⟨a,o',rfl,dg,h1,h2⟩:=pG ak r2 (r.same s2 fun _ z=>z)
 refine⟨a,o',rfl,dg,?_⟩
 rw [B0 h1 h2]
 exact k _ _ _ .fr (s.trans s2) (.bl _) q
def pH (td tk:aF):aF:=fun ρ Q=>td ρ fun x g=>tk ρ fun y _=>∃ z,u5 x y (some z)/\Q z g
theorem aq0 (h:LE X (pH td tk) σ H Q'):y9 (LE X td) (LE X tk) σ H Q':=by
 obtain ⟨W,ρ,Q,px,q,k⟩:=h
 refine⟨W,ρ,_,px,q,fun v H1 x g s r q=>⟨W,ρ,_,px.mono s,q,?_⟩⟩
 rintro w H2 y g' s2 r2 ⟨z,ak,q⟩
 obtain ⟨a,o',rfl,dg,h1,h2⟩:=pG ak (r.same s2 fun _ z=>z) r2
 obtain ⟨u,rfl,ru⟩:=h2 z rfl
 exact⟨a,u,rfl,dg,k _ _ _ g (s.trans s2) ru q⟩
theorem PX.updD {K:PySem.W.Frag}{H0:Hp}{W:Addr->Prop}{σ:St}{ρ:bE}{H:Hp}{i:Nat}{a:Addr}{x:PV}{kvs:List (aD × V)}{ps:List (aD × PV)} (p:PX K H0 W σ ρ H) (hi:ρ[i]? = some (some (.own x))) (ha:σ[i]? = some (some (.ref a))) (wa:W a)
  (r:kvs.map (·.1)=ps.map (·.1)/\Reps K (Ms H0 W true) (upd H a (.dK kvs)) (kvs.map (·.2)) (ps.map (·.2))):PX K H0 W σ (ρ.set i (some (.own (.dK ps)))) (upd H a (.dK kvs)):=p.updOwn hi ha wa rfl (y:=.dK ps) ⟨kvs,b8,r⟩
theorem PX.updT {K:PySem.W.Frag}{H0:Hp}{W:Addr->Prop}{σ:St}{ρ:bE}{H:Hp}{i:Nat}{a:Addr}{x:PV}{kvs:List (List aD × V)}{ps:List (List aD × PV)} (p:PX K H0 W σ ρ H) (hi:ρ[i]? = some (some (.own x))) (ha:σ[i]? = some (some (.ref a))) (wa:W a)
  (r:kvs.map (·.1)=ps.map (·.1)/\Reps K (Ms H0 W true) (upd H a (.dT kvs)) (kvs.map (·.2)) (ps.map (·.2))):PX K H0 W σ (ρ.set i (some (.own (.dT ps)))) (upd H a (.dT kvs)):=p.updOwn hi ha wa rfl (y:=.dT ps) ⟨kvs,b8,r⟩
theorem pI {κ α β:Type}{l:List (κ × α)}{m:List (κ × β)} (e:l.map (·.1)=m.map (·.1)):l.length=m.length:=by
 have:=congrArg List.length e
 rw [aR1,aR1] at this
 exact this
def nC (i:Nat) (tk te:aF):aO:=fun D ρ=>te ρ fun z g=>∃ ps,ρ[i]? = some (some (.own (.dK ps)))/\tk ρ fun y _=>∃ k,y=kP k/\Nw g z/\ps.length < 16000000/\D.nx (ρ.set i (some (.own (.dK (cI ps k z)))))
def pJ (i:Nat) (tk te:aF):aO:=fun D ρ=>te ρ fun z g=>∃ ps,ρ[i]? = some (some (.own (.dT ps)))/\tk ρ fun y _=>∃ k,y = .tup (k.map kP)/\Nw g z/\ps.length < 16000000/\D.nx (ρ.set i (some (.own (.dT (cI ps k z)))))
theorem aq1 {i:Nat} (h:LS X (nC i tk te) D σ H):sV (eZ i) (LE X tk) (LE X te) D σ H:=by
 obtain ⟨W,ρ,D',px,q,k⟩:=h
 refine⟨W,ρ,_,px,q,?_⟩
 rintro w H1 z g s rz ⟨ps,hi,q⟩
 obtain ⟨v,ev,a,rfl,wa,kvs,ea,e1,r⟩:=(px.mono s).sl i _ hi
 refine⟨_,ev,W,ρ,_,px.mono s,q,?_⟩
 rintro kv H2 y g' s2 ry ⟨kk,rfl,nw,hl,q⟩
 obtain rfl:=u3 ry
 have ea2:=s2 _ _ ea
 refine⟨a,_,rfl,iT.k ea2 (gD (by rw [pI e1]; omega)),?_⟩
 refine k.nx W σ _ _ ((Ev.same (s.trans s2)).trans (Ev.upd wa)) ((px.mono (s.trans s2)).updD hi ev wa ?_) q
 obtain ⟨h1,h2⟩:=tZ kk ((Nw.rep px nw rz).same s2 fun _ z=>z) e1 (r.same s2 fun _ z=>z)
 exact⟨h1,h2.keep (.upd ea2 rfl fun b m=>⟨gS wa m,m⟩)⟩
theorem aq2 {i:Nat} (h:LS X (pJ i tk te) D σ H):sV (eZ i) (LE X tk) (LE X te) D σ H:=by
 obtain ⟨W,ρ,D',px,q,k⟩:=h
 refine⟨W,ρ,_,px,q,?_⟩
 rintro w H1 z g s rz ⟨ps,hi,q⟩
 obtain ⟨v,ev,a,rfl,wa,kvs,ea,e1,r⟩:=(px.mono s).sl i _ hi
 refine⟨_,ev,W,ρ,_,px.mono s,q,?_⟩
 rintro kv H2 y g' s2 ry ⟨kk,rfl,nw,hl,q⟩
 obtain ⟨b,us,rfl,hb,rb⟩:=ry.sqT
 obtain rfl:=u4 rb
 have ea2:=s2 _ _ ea
 refine⟨a,_,rfl,iT.t ea2 hb (gD (by rw [pI e1]; omega)),?_⟩
 refine k.nx W σ _ _ ((Ev.same (s.trans s2)).trans (Ev.upd wa)) ((px.mono (s.trans s2)).updT hi ev wa ?_) q
 obtain ⟨h1,h2⟩:=tZ kk ((Nw.rep px nw rz).same s2 fun _ z=>z) e1 (r.same s2 fun _ z=>z)
 exact⟨h1,h2.keep (.upd ea2 rfl fun b m=>⟨gS wa m,m⟩)⟩
theorem aq3 (h:LE X (qC (.dK [])) σ H Q'):yE σ H Q':=by
 obtain ⟨W,ρ,Q,px,q,k⟩:=h
 exact fun p hp=>k _ _ _ .fr (b7 hp _) (.dK hp b8 rfl .nil) q
theorem aq4 (h:LE X (qC (.dT [])) σ H Q'):yF σ H Q':=by
 obtain ⟨W,ρ,Q,px,q,k⟩:=h
 exact fun p hp=>k _ _ _ .fr (b7 hp _) (.dT hp b8 rfl .nil) q
def gH (ps more:List (aD × PV)):List (aD × PV):=more.foldl (fun acc kv=>cI acc kv.1 kv.2) ps
theorem B2 {K:PySem.W.Frag}{M:Addr->Prop}{H:Hp}:∀ {more:List (aD × V)}{mp:List (aD × PV)}{kvs:List (aD × V)}{ps:List (aD × PV)},more.map (·.1)=mp.map (·.1)->Reps K M H (more.map (·.2)) (mp.map (·.2))->kvs.map (·.1)=ps.map (·.1)->Reps K M H (kvs.map (·.2)) (ps.map (·.2))->
  (jM kvs more).map (·.1)=(gH ps mp).map (·.1)/\Reps K M H ((jM kvs more).map (·.2)) ((gH ps mp).map (·.2))
 | [],[],_,_,_,_,e,r=>⟨e,r⟩
 | [],_ :: _,_,_,e,_,_,_=>by cases e
 | _ :: _,[],_,_,e,_,_,_=>by cases e
 | (k1,v) :: more,(k2,x) :: mp,kvs,ps,e,r,e',r'=>by
  injection e with e1 e2
  have e1:k1=k2:=e1
  subst e1
  cases r with
  | cons q t=>
   obtain ⟨h1,h2⟩:=tZ k1 q e' r'
   exact B2 (more:=more) (mp:=mp) e2 t h1 h2
def u6 (i:Nat) (te:aF):aO:=fun D ρ=>∃ ps,ρ[i]? = some (some (.own (.dK ps)))/\te ρ fun y g=>∃ mp,y = .dK mp/\(g = .fr ∨ (g = .nw/\False))/\ps.length+mp.length<=16000000/\D.nx (ρ.set i (some (.own (.dK (gH ps mp)))))
theorem aq5 {i:Nat} (h:LS X (u6 i te) D σ H):kN (zP (eZ i) (LE X te)) D σ H:=by
 obtain ⟨W,ρ,D',px,⟨ps,hi,q⟩,k⟩:=h
 obtain ⟨v,ev,a,rfl,wa,kvs,ea,e1,r⟩:=px.sl i _ hi
 refine⟨_,ev,a,rfl,.inl ⟨kvs,.inl ea⟩,W,ρ,_,px,q,?_⟩
 rintro w H1 y g s ry ⟨mp,rfl,hg,hl,q⟩
 rcases hg with rfl | ⟨_,z⟩
 ·cases ry with
  | @dK b more _ m hb e2 rb=>
   have hab:a ≠ b:=fun z=>by subst z; rw [show H a=none from m] at ea; cases ea
   have ea1:=s _ _ ea
   refine⟨b,kvs,more,rfl,hab,ea1,hb,lim (by rw [pI e1,pI e2]; exact hl),?_⟩
   refine k.nx W σ _ _ ((Ev.same s).trans (Ev.upd wa)) ((px.mono s).updD hi ev wa ?_) q
   obtain ⟨h1,h2⟩:=B2 e2 (rb.same (M':=Ms X.H₀ W true) (aC.refl _) fun _ z=>px.new z) e1 (r.same s fun _ z=>z)
   exact⟨h1,h2.keep (.upd ea1 rfl fun b m=>⟨gS wa m,m⟩)⟩
 ·exact z.elim
end
def cF:Nat->PV->PV->Bool
 | _,.non,.non=>true
 | _,.bl a,.bl b=>a == b
 | _,.int a,.int b=>a == b
 | _,.str a,.str b=>a == b
 | n+1,.tup xs,.tup ys=>(xs.zip ys).all (fun p=>cF n p.1 p.2) && xs.length == ys.length
 | n+1,.lst xs,.lst ys=>(xs.zip ys).all (fun p=>cF n p.1 p.2) && xs.length == ys.length
 | n+1,.kt xs,.kt ys=>(xs.zip ys).all (fun p=>cF n p.1 p.2) && xs.length == ys.length
 | _,_,_=>false
def dI:Nat->PV->PV->Bool
 | _,.non,.non=>true
 | _,.bl _,.bl _=>true
 | _,.int _,.int _=>true
 | _,.str _,.str _=>true
 | _,.non,.int _=>true
 | _,.int _,.non=>true
 | n+1,.tup xs,.tup ys=>(xs.zip ys).all (fun p=>dI n p.1 p.2)
 | n+1,.lst xs,.lst ys=>(xs.zip ys).all (fun p=>dI n p.1 p.2)
 | n+1,.kt xs,.kt ys=>(xs.zip ys).all (fun p=>dI n p.1 p.2)
 | _+1,.non,.tup _=>true
 | _+1,.tup _,.non=>true
 | _,_,_=>false
theorem aq6 (n:Nat) (a b:Int):cF n (.int a) (.int b)=(a == b):=by cases n <;> rfl
theorem B3 (n:Nat):∀ (a b:List Int),((((intz a).zip (intz b)).all fun p=>cF n p.1 p.2) && (intz a).length == (intz b).length)=decide (a=b)
 | [],[]=>rfl
 | [],_ :: _=>by simp
 | _ :: _,[]=>by simp
 | x :: a,y :: b=>by
  have ih:=B3 n a b
  simp only [aU8,List.zip_cons_cons,bb9,aT9,aq6] at ih ⊢
  by_cases e:x=y
  ·subst e
   have:((intz a).length+1 == (intz b).length+1)=((intz a).length == (intz b).length):=by simp
   rw [this,aX4,Bool.true_and,ih]
   simp
  ·have:(x == y)=false:=ba7.mpr e
   rw [this,Bool.false_and,Bool.false_and]
   simp [e]
theorem aq7 (n:Nat) (a b:List Int):cF (n+1) (.lst (intz a)) (.lst (intz b))=decide (a=b):=B3 n a b
theorem B4 (n:Nat):∀ (a b:List Int),(((intz a).zip (intz b)).all fun p=>dI n p.1 p.2)=true
 | [],_=>by simp
 | _ :: _,[]=>by simp
 | x :: a,y :: b=>by
  simp only [aU8,List.zip_cons_cons,bb9,B4 n a b,Bool.and_true]
  cases n <;> rfl
theorem aq8 (n:Nat) (a b:List Int):dI (n+1) (.lst (intz a)) (.lst (intz b))=true:=B4 n a b
def iH (ta:aF):aF:=fun ρ Q=>ta ρ fun x _=>∃ i,x = .int i/\Q (.int (-i)) .fr
def pK (neg:Bool):PV->Tg->PV->Tg->PK->Prop:=fun x _ y _ Q=>∃ i ns,x = .int i/\iG y=some (intz ns)/\Q (.bl (if neg=true then !decide (i ∈ ns) else decide (i ∈ ns))) .fr
def u7 (n:Nat) (neg:Bool):PV->Tg->PV->Tg->PK->Prop:=fun x _ y _ Q=>((∃ xs ys,x = .tup xs/\y = .tup ys) ∨ (∃ xs ys,x = .lst xs/\y = .lst ys))/\dI (n+1) x y=true/\Q (.bl (if neg=true then !cF (n+1) x y else cF (n+1) x y)) .fr
def u8 (n:Nat) (neg:Bool):PV->Tg->PV->Tg->PK->Prop:=fun x _ y _ Q=>(∃ xs ys,x = .kt xs/\y = .kt ys)/\dI (n+1) x y=true/\Q (.bl (if neg=true then !cF (n+1) x y else cF (n+1) x y)) .fr
abbrev lA:=bE->(Option Int->Prop)->Prop
def eD (xs:List PV) (lo hi:Option Int):List PV:=(xs.drop (HT.aR xs.length 0 lo)).take (HT.aR xs.length xs.length hi - HT.aR xs.length 0 lo)
def aq9:PV->List PV->PV
 | .tup _,ys=>.tup ys
 | .kt _,ys=>.tup ys
 | _,ys=>.lst ys
def fI:lA:=fun _ Q=>Q none
def fJ (te:aF):lA:=fun ρ Q=>te ρ fun x _=>∃ i,x = .int i/\Q (some i)
def fK (te:aF) (tl th:lA):aF:=fun ρ Q=>te ρ fun x _=>tl ρ fun lo=>th ρ fun hi=>∃ xs,seqT x=some xs/\flats xs=true/\Q (aq9 x (eD xs lo hi)) .fr
def eV (N:List Str) (xs:List PV):bE:=xs.map (fun x=>some (.sh (flat x) x)) ++ List.replicate (N.length - xs.length) none
abbrev eF (ta tb:aF):aF:=q2 (fG fun i j=>.int (i+j)) ta tb
abbrev jZ (ta tb:aF):aF:=q2 (fG fun i j=>.int (i - j)) ta tb
abbrev gV (ta tb:aF):aF:=q2 (RI mB fun i j=>.int (i * j)) ta tb
abbrev bB (ta tb:aF):aF:=q2 (RI rS fun i j=>.int (i / j)) ta tb
abbrev aU (ta tb:aF):aF:=q2 (RI (fun _ j=>0 < j) fun i j=>.int (i % j)) ta tb
abbrev u9 (ta tb:aF):aF:=q2 (RI rT fun i j=>.int (i ^ j.toNat)) ta tb
abbrev iI (ta tb:aF):aF:=q2 (fG fun i j=>.bl (decide (i < j))) ta tb
abbrev nD (ta tb:aF):aF:=q2 (fG fun i j=>.bl (decide (j < i))) ta tb
abbrev B5 (ta tb:aF):aF:=q2 (fG fun i j=>.bl (decide (j<=i))) ta tb
abbrev dB (ta tb:aF):aF:=q2 (jS false) ta tb
abbrev pL (ta tb:aF):aF:=q2 (jS true) ta tb
abbrev ar0 (ta tb:aF):aF:=q2 (jW false) ta tb
abbrev pM (ta tb:aF):aF:=q2 (jW true) ta tb
abbrev bK (ta tb:aF):aF:=q2 tU ta tb
def dJ:List PV->(PV->Prop)->Prop:=fun xs Q=>A1 xs Q/\∀ ns,xs ≠ [.scr ns]
def QE (X:Cx) (e:Expr) (t:aF):Prop:=PE X e (LE X t)
def QT (X:Cx) (e:Expr) (t:c8):Prop:=PT X e (LT X t)
def QW (X:Cx) (e:Expr) (t:c8):Prop:=PW X e (LT X t)
def QA (X:Cx) (es:List Expr) (t:cG):Prop:=PA X es (LA X t)
def QS (X:Cx) (st:Stmt) (t:aO):Prop:=PS X st (LS X t)
def dQ (X:Cx) (st:List Stmt) (t:aO):Prop:=cY X st (LS X t)
def QI (X:Cx) (tg iter:Expr) (t:eC):Prop:=PI X tg iter (LI X t)
section
variable {X : Cx}
theorem bT {e:Expr}{t t':TE} (h:PE X e t) (m:∀ σ H Q,t' σ H Q->t σ H Q):PE X e t':=fun pins s σ H Q I q=>h pins s σ H Q I (m σ H Q q)
theorem lB {e:Expr}{t t':TT} (h:PT X e t) (m:∀ σ H Q,t' σ H Q->t σ H Q):PT X e t':=fun pins s σ H Q I q=>h pins s σ H Q I (m σ H Q q)
theorem B6 {e:Expr}{t t':TT} (h:PW X e t) (m:∀ σ H Q,t' σ H Q->t σ H Q):PW X e t':=fun wh pins s σ H Q I q=>h wh pins s σ H Q I (m σ H Q q)
theorem B7 {e:List Expr}{t t':TA} (h:PA X e t) (m:∀ σ H Q,t' σ H Q->t σ H Q):PA X e t':=fun pos pins s σ H Q I q=>h pos pins s σ H Q I (m σ H Q q)
theorem dL {e:Stmt}{t t':TS} (h:PS X e t) (m:∀ D σ H,t' D σ H->t D σ H):PS X e t':=fun pins s σ H D I q=>h pins s σ H D I (m D σ H q)
theorem uA {e:List Stmt}{t t':TS} (h:cY X e t) (m:∀ D σ H,t' D σ H->t D σ H):cY X e t':=fun pins s σ H D I q=>h pins s σ H D I (m D σ H q)
theorem pN {tg e:Expr}{t t':TI} (h:PI X tg e t) (m:∀ σ H R,t' σ H R->t σ H R):PI X tg e t':=fun pins s σ H R I q=>h pins s σ H R I (m σ H R q)
variable {a b c e o : Expr} {es cQ : List Expr} {ta tb te to tk : aF} {tr : cG} {tA tB' tc : c8} {pos p2 px : Pos} {st : Stmt} {sts : List Stmt} {t u : aO}
theorem qv (i:Nat) {x:Str}{pos:Pos} (hN:X.N[i]? = some x:=by rfl) (hv:dX X.env.scope x:=by first | exact Or.inl rfl | exact Or.inr (Or.inl rfl) | exact Or.inr (Or.inr rfl)) (hd:(x == ("__debug__" : Str))=false:=by decide)
  (hcd:(x == ("__classdict__" : Str))=false:=by decide):QE X (.Name x pos) (a5 i):=bT (fP hN hv hd hcd) fun _ _ _=>al7
theorem aB {i j}:QE X (.Constant (.int i) j pos) (qC (.int i)):=bT lX fun _ _ _=>mQ fun _=>.int i
theorem gW {i j}:QE X (.Constant (.bool i) j pos) (qC (.bl i)):=bT X3 fun _ _ _=>mQ fun _=>.bl i
theorem j3 {j}:QE X (.Constant .none j pos) (qC .non):=bT X4 fun _ _ _=>mQ fun _=>.non
theorem eW {i j}:QE X (.Constant (.str i) j pos) (qC (.str i)):=bT X5 fun _ _ _=>mQ fun _=>.str i
theorem gI {op:Operator}{R:PV->Tg->PV->Tg->PK->Prop}{r:R2} (ho:bR X (binaryOp op) r) (cv:cT X R r) (ha:QE X a ta) (hb:QE X b tb):QE X (.BinOp a op b pos) (q2 R ta tb):=bT (aa0 ho ha hb) fun _ _ _=>oX cv
theorem fL (ha:QE X a ta) (hb:QE X b tb):QE X (.BinOp a .Add b pos) (q2 (fG fun i j=>.int (i+j)) ta tb):=gI aa2 zS ha hb
theorem nE (ha:QE X a ta) (hb:QE X b tb):QE X (.BinOp a .Sub b pos) (q2 (fG fun i j=>.int (i - j)) ta tb):=gI aa3 zS ha hb
theorem iJ (ha:QE X a ta) (hb:QE X b tb):QE X (.BinOp a .Mult b pos) (q2 (RI mB fun i j=>.int (i * j)) ta tb):=gI aa4 oY ha hb
theorem bU (ha:QE X a ta) (hb:QE X b tb):QE X (.BinOp a .FloorDiv b pos) (q2 (RI rS fun i j=>.int (i / j)) ta tb):=gI aa5 oY ha hb
theorem b5 (ha:QE X a ta) (hb:QE X b tb):QE X (.BinOp a .Mod b pos) (q2 (RI (fun _ j=>0 < j) fun i j=>.int (i % j)) ta tb):=gI aa6 oY ha hb
theorem uB (ha:QE X a ta) (hb:QE X b tb):QE X (.BinOp a .Pow b pos) (q2 (RI rT fun i j=>.int (i ^ j.toNat)) ta tb):=gI aa7 oY ha hb
theorem k6 {op:CmpOp}{R:PV->Tg->PV->Tg->PK->Prop}{r:R2} (ho:bR X (compareOp op) r) (cv:cT X R r) (ha:QE X a ta) (hb:QE X b tb) (hm:behindInMarks op b=false):QE X (.Compare a [op] [b] pos) (q2 R ta tb):=bT (rW ho ha hb hm) fun _ _ _=>oX cv
theorem k7 {op:CmpOp}{R:PV->Tg->PV->Tg->PK->Prop}{r:R2} (ho:bR X (compareOp op) r) (cv:cT X R r) (ha:QE X a ta) (hb:QE X b tb) (hm:behindInMarks op b=false):QT X (.Compare a [op] [b] pos) (aS (q2 R ta tb)):=lB (ab3 ho ha hb hm) fun _ _ _ h=>oX cv (p5 h)
theorem uC (ha:QE X a ta) (hb:QE X b tb):QE X (.Compare a [.Lt] [b] pos) (q2 (fG fun i j=>.bl (decide (i < j))) ta tb):=k6 oB oZ ha hb (dY _)
theorem B8 (ha:QE X a ta) (hb:QE X b tb):QE X (.Compare a [.GtE] [b] pos) (q2 (fG fun i j=>.bl (decide (j<=i))) ta tb):=k6 ab0 oZ ha hb (dY _)
theorem ar1 (ha:QE X a ta) (hb:QE X b tb):QE X (.Compare a [.Eq] [b] pos) (q2 (jS false) ta tb):=k6 wZ zV ha hb (dY _)
theorem ar2 (ha:QE X a ta) (hb:QE X b tb):QE X (.Compare a [.IsNot] [b] pos) (q2 (jW true) ta tb):=k6 x3 A3 ha hb (dY _)
theorem nF (ha:QE X a ta) (hb:QE X b tb):QT X (.Compare a [.Lt] [b] pos) (aS (q2 (fG fun i j=>.bl (decide (i < j))) ta tb)):=k7 oB oZ ha hb (dY _)
theorem pO (ha:QE X a ta) (hb:QE X b tb):QT X (.Compare a [.Gt] [b] pos) (aS (q2 (fG fun i j=>.bl (decide (j < i))) ta tb)):=k7 aa9 oZ ha hb (dY _)
theorem dM (ha:QE X a ta) (hb:QE X b tb):QT X (.Compare a [.Eq] [b] pos) (aS (q2 (jS false) ta tb)):=k7 wZ zV ha hb (dY _)
theorem uD (ha:QE X a ta) (hb:QE X b tb):QT X (.Compare a [.NotEq] [b] pos) (aS (q2 (jS true) ta tb)):=k7 x0 al8 ha hb (dY _)
theorem ar3 (ha:QE X a ta) (hb:QE X b tb):QT X (.Compare a [.Is] [b] pos) (aS (q2 (jW false) ta tb)):=k7 ab1 ap1 ha hb (dY _)
theorem uE (ha:QE X a ta) (hb:QE X b tb):QT X (.Compare a [.IsNot] [b] pos) (aS (q2 (jW true) ta tb)):=k7 x3 A3 ha hb (dY _)
theorem ar4 (hu:X.A.units+1 < cLine) (hk:QE X a tk) (hd:QE X b te) (hm:behindInMarks .In b=false:=by rfl):QT X (.Compare a [.In] [b] pos) (aS (iZ false tk te)):=lB (w9 (ag3 hu hk hd) hm) fun _ _ _ h=>ap9 (p5 h)
theorem ar5 (hu:X.A.units+1 < cLine) (hk:QE X a tk) (hd:QE X b te) (hm:behindInMarks .NotIn b=false:=by rfl):QT X (.Compare a [.NotIn] [b] pos) (aS (iZ true tk te)):=lB (w9 (yC hu hk hd) hm) fun _ _ _ h=>B1 (p5 h)
theorem ar6 (hu:X.A.units+1 < cLine) (hk:QE X a tk) (hd:QE X b te) (hm:behindInMarks .NotIn b=false:=by rfl):QE X (.Compare a [.NotIn] [b] pos) (iZ true tk te):=bT (X7 (yC hu hk hd) hm) fun _ _ _ h=>B1 h
theorem k8 (h:QE X e te) (he:∀ whole,isTrue e X.env whole=(do let v <- whole; standAt e.pos; holding [v] (truthy v)):=by intro _; rfl):QT X e (aS te):=lB (X8 h he) fun _ _ _ h=>p5 h
theorem B9 (h:QE X e te) (he:∀ whole,isTrue e X.env whole=(do let v <- whole; standAt e.pos; holding [v] (truthy v)):=by intro _; rfl):QT X e (pC te):=lB (ab6 h he) fun _ _ _ h=>ap0 h
theorem pP (ha:QT X a tA):QW X (.BoolOp .And [a] pos) tA:=X9 ha
theorem uF (ha:QT X a tA):QW X (.BoolOp .Or [a] pos) tA:=Y0 ha
theorem pQ (ha:QT X a tA) (hb:QW X (.BoolOp .And (b :: cQ) pos) tB'):QW X (.BoolOp .And (a :: b :: cQ) pos) (jT tA tB'):=B6 (Y1 ha hb) fun _ _ _=>al9
theorem pR (ha:QT X a tA) (hb:QW X (.BoolOp .Or (b :: cQ) pos) tB'):QW X (.BoolOp .Or (a :: b :: cQ) pos) (kY tA tB'):=B6 (Y2 ha hb) fun _ _ _=>am0
theorem k9 (h:QW X e tA):QT X e tA:=PW.pt h
theorem nG (ha:QT X a tA):QT X (.UnaryOp .Not a pos) (jU tA):=lB (Y3 ha) fun _ _ _=>am1
theorem nH {op} (h:QE X a ta):QE X (.BoolOp op [a] pos) ta:=Y4 h
theorem nI (ha:QE X a ta) (hb:QE X (.BoolOp .And (b :: cQ) pos) tb):QE X (.BoolOp .And (a :: b :: cQ) pos) (jV ta tb):=bT (Y5 ha hb) fun _ _ _=>am2
theorem aA:QA X [] a9:=B7 cZ fun _ _ _=>am3
theorem a7 (ha:QE X e te) (hr:QA X es tr) (hs:starEach (e :: es) X.env=(false,eval e X.env) :: starEach es X.env:=by rfl):QA X (e :: es) (a6 te tr):=B7 (cK ha hr hs) fun _ _ _=>am4
theorem cO {x1} (h:QA X es tr):QE X (.Tuple es x1 pos) (cD tr):=bT (ac1 h) fun _ _ _=>am5
theorem dD (h:QA X es tr):QE X (.List es pos) (cH tr):=bT (sA h) fun _ _ _=>am6
theorem bV (ha:QE X a ta) (hb:QE X b tb) (hs:xL b:=by exact fun _ _=>rfl):QE X (.Subscript a b pos) (q2 tU ta tb):=bT (mF ad8 ha hb hs) fun _ _ _=>oX ao0
theorem C0 (hu:X.A.units+1 < cLine) (ha:QE X a ta) (hb:QE X b tb) (hs:sU b:=by exact fun _ _=>rfl):QE X (.Subscript a b pos) (pH ta tb):=bT (ag2 hu ha hb hs) fun _ _ _=>aq0
theorem C1:QE X (.Dict [] [] pos) (qC (.dK [])):=bT ag6 fun _ _ _=>aq3
theorem ar7:QE X (.Dict [] [] pos) (qC (.dT [])):=bT ag7 fun _ _ _=>aq4
theorem j4 {x:Str}{id:String}{R:List PV->(PV->Prop)->Prop}{r:List V->Hp->VK->Prop} (hc:cJ X (.builtin id) r) (cv:eB X R r) (hg:Gl X x) (hm:X.mg x=none) (hv:bootBuiltins x=some (.builtin id)) (ha:QA X (e :: es) tr) (hn:x ≠ "__name__":=by decide) (hdb:(x == ("__debug__" : Str))=false:=by decide)
  (he:starEach (e :: es) X.env=(false,eval e X.env) :: starEach es X.env:=by rfl) (hpl:(backTo pos (starEach es X.env)).any (·.1)=false:=by rfl):QE X (.Call (.Name x p2) (e :: es) [] pos) (aE R tr):=bT (oD hc hg hm hv ha hn hdb he hpl) fun _ _ _=>zW cv
theorem pS {x:Str}{T:String}{R:List PV->(PV->Prop)->Prop}{r:List V->Hp->VK->Prop} (hc:cJ X (.type T) r) (cv:eB X R r) (hg:Gl X x) (hm:X.mg x=none) (hv:bootBuiltins x=some (.type T)) (ha:QA X (e :: es) tr) (hn:x ≠ "__name__":=by decide) (hdb:(x == ("__debug__" : Str))=false:=by decide)
  (he:starEach (e :: es) X.env=(false,eval e X.env) :: starEach es X.env:=by rfl) (hpl:(backTo pos (starEach es X.env)).any (·.1)=false:=by rfl):QE X (.Call (.Name x p2) (e :: es) [] pos) (aE R tr):=bT (xE hc hg hm hv ha hn hdb he hpl) fun _ _ _=>zW cv
theorem c9:dQ X [] bM:=uA Y7 fun _ _ _=>am7
theorem aH (h1:QS X st t) (h2:dQ X sts u):dQ X (st :: sts) (aG t u):=uA (o7 h1 h2) fun _ _ _=>am8
theorem aN (h1:QS X st t):dQ X [st] t:=lZ h1
theorem b9 {i:Nat}{x:Str} (hN:X.N.Nodup) (he:QE X e te) (hi:X.N[i]? = some x:=by rfl) (hx:i4 X.env.scope x:=by first | exact Or.inl rfl | exact Or.inr rfl) (hs:swapsWith e (some (.Name x p2)) pos.line X.env=pure false:=by rfl) (hf:X.fn x=true ∨ X.env.scope.names.lookup x=some .local:=by first | exact .inl rfl | exact .inr rfl) :
  QS X (.Assign [.Name x p2] e pos) (aY i te):=dL (wI hN hi hx he hs hf) fun _ _ _=>an0
theorem dR {i:Nat}{x:Str} (hN:X.N.Nodup) (he:QE X e te) (hi:X.N[i]? = some x:=by rfl) (hx:i4 X.env.scope x:=by first | exact Or.inl rfl | exact Or.inr rfl) (hs:swapsWith e (some (.Name x p2)) pos.line X.env=pure false:=by rfl) (hf:X.fn x=true ∨ X.env.scope.names.lookup x=some .local:=by first | exact .inl rfl | exact .inr rfl) :
  QS X (.Assign [.Name x p2] e pos) (cW i te):=dL (wI hN hi hx he hs hf) fun _ _ _=>an2
theorem bC (he:QE X e te):QS X (.Return (some e) pos) (b4 te):=dL (m3 he) fun _ _ _=>an3
theorem lC (i:Nat) {x:Str} (hN:X.N[i]? = some x:=by rfl) (hv:dX X.env.scope x:=by first | exact Or.inl rfl | exact Or.inr (Or.inl rfl) | exact Or.inr (Or.inr rfl)) (hd:(x == ("__debug__" : Str))=false:=by decide) (hcd:(x == ("__classdict__" : Str))=false:=by decide) :
  QS X (.Return (some (.Name x p2)) pos) (gT i):=dL (m3 (fP hN hv hd hcd)) fun _ _ _=>an4
theorem bQ {sa sb:List Stmt} (hc:QT X c tc) (ha:dQ X sa t) (hb:dQ X sb u):QS X (.If c sa sb pos) (bG tc t u):=dL (Y8 hc ha hb) fun _ _ _=>an5
theorem C2 {body:List Stmt} (hp:PassesOwn (model X.prog X.w) X.A X.env X.xe) (hc:QT X c tc) (hb:dQ X body t):QS X (.While c body [] pos) (p9 tc t):=dL (Z1 hp hc hb) fun _ _ _=>an6
theorem j5 (i:Nat) {x:Str}{apos cpos xpos:Pos} (he:QE X e te) (hN:X.N[i]? = some x:=by rfl) (hv:dX X.env.scope x:=by first | exact Or.inl rfl | exact Or.inr (Or.inl rfl) | exact Or.inr (Or.inr rfl)) (hd:(x == ("__debug__" : Str))=false:=by decide) (hcd:(x == ("__classdict__" : Str))=false:=by decide)
  (hbase:attributeBase (.Name x xpos) "append" X.env (eval (.Name x xpos) X.env)=eval (.Name x xpos) X.env:=by rfl)
  (hfew:((backTo cpos (starEach [e] X.env)).all (fun x=>!x.1) && (backToKw cpos (keywordEach [] X.env)).all (fun x=>x.1.isSome) && decide (([e]:List Expr).length+([]:List Keyword).length+(if ([]:List Keyword).isEmpty then 0 else 1) < 30))=true:=by rfl)
  (hline:(apos.endLine == cpos.line)=true:=by rfl) (hs:starEach [e] X.env=(false,eval e X.env) :: starEach [] X.env:=by rfl) (hplain:(backTo cpos (starEach [] X.env)).any (·.1)=false:=by rfl)
  (hsw:swapsWith (.Call (.Attribute (.Name x xpos) "append" apos) [e] [] cpos) none pos.line X.env=pure false:=by rfl) :
  QS X (.Expr (.Call (.Attribute (.Name x xpos) "append" apos) [e] [] cpos) pos) (gG i te):=
 dL (jG (jK aY3 PySem.F.slot_list_append PySem.F.type_list_append mH (fP hN hv hd hcd) (cK he cZ hs) hbase hfew hline hs hplain) hsw) fun _ _ _=>an7
theorem uG {i:Nat}{x:Str}{xpos tpos:Pos} (hu:X.A.units+1 < cLine) (hk:QE X a tk) (he:QE X e te) (hN:X.N[i]? = some x:=by rfl) (hv:dX X.env.scope x:=by first | exact Or.inl rfl | exact Or.inr (Or.inl rfl) | exact Or.inr (Or.inr rfl)) (hd:(x == ("__debug__" : Str))=false:=by decide) (hcd:(x == ("__classdict__" : Str))=false:=by decide)
  (hs:swapsWith e (some (.Subscript (.Name x xpos) a tpos)) pos.line X.env=pure false:=by rfl):QS X (.Assign [.Subscript (.Name x xpos) a tpos] e pos) (nC i tk te):=dL (yD hu (fP hN hv hd hcd) hk he hs) fun _ _ _=>aq1
theorem ar8 {i:Nat}{x:Str}{xpos tpos:Pos} (hu:X.A.units+1 < cLine) (hk:QE X a tk) (he:QE X e te) (hN:X.N[i]? = some x:=by rfl) (hv:dX X.env.scope x:=by first | exact Or.inl rfl | exact Or.inr (Or.inl rfl) | exact Or.inr (Or.inr rfl)) (hd:(x == ("__debug__" : Str))=false:=by decide) (hcd:(x == ("__classdict__" : Str))=false:=by decide)
  (hs:swapsWith e (some (.Subscript (.Name x xpos) a tpos)) pos.line X.env=pure false:=by rfl):QS X (.Assign [.Subscript (.Name x xpos) a tpos] e pos) (pJ i tk te):=dL (yD hu (fP hN hv hd hcd) hk he hs) fun _ _ _=>aq2
theorem ar9 {tg l:Expr}{tl:TE} (hl:PE X l tl):PI X tg l (A4 X.K tl):=by
 intro pins s σ H R I h
 refine aL (hl pins s σ H _ I h) fun v s1 ⟨x,H1,I1,r1,q1⟩=>?_
 obtain ⟨a,e,q⟩:=q1
 subst e
 cases r1
 rcases q with ⟨xs,hq,q⟩ | ⟨xs,hq,q⟩
 ·obtain ⟨its,rv,p,hz⟩:=I1.list hq
  refine wpAny_pyIter_list p.isList ?_
  refine⟨s1.heap.objs.size,[s1.heap.objs.size],_,_,H1,rfl,I1.kept (t':=s1.toks) fun b o e=>aQ6 _ e,Z2 a _,⟨_,aS1 _ rfl,rfl,rfl⟩,fun b hb=>?_,q⟩
  have e:b=s1.heap.objs.size:=by simpa using hb
  subst e
  exact I1.fpOk (aR0 _) (I1.hok.fresh (aR0 _))
 ·obtain ⟨its,rv,p,hz⟩:=I1.tuple hq
  refine bc3 (show s1.heap.IsTuple a its.toArray from p) ?_
  refine⟨s1.heap.objs.size,[s1.heap.objs.size],_,_,H1,rfl,I1.kept (t':=s1.toks) fun b o e=>aQ6 _ e,wL a _,⟨_,aS1 _ rfl,rfl,rfl⟩,fun b hb=>?_,q⟩
  have e:b=s1.heap.objs.size:=by simpa using hb
  subst e
  exact I1.fpOk (aR0 _) (I1.hok.fresh (aR0 _))
theorem gJ {tg l:Expr} (hl:QE X l te):QI X tg l (eR te):=pN (ar9 hl) fun _ _ _=>ap2
theorem iK {tg:Expr} (hg:Gl X "range") (hm:X.mg "range" = none) (ha:QE X a ta) (hs:starEach [a] X.env = [(false,eval a X.env)]:=by rfl):QI X tg (.Call (.Name "range" p2) [a] [] pos) (fX ta):=pN (Z5 hg hm (cK ha cZ hs) hs) fun _ _ _=>ap3
theorem uH {tg:Expr} (hg:Gl X "range") (hm:X.mg "range" = none) (ha:QE X a ta) (hb:QE X b tb) (hs:starEach [a,b] X.env = [(false,eval a X.env),(false,eval b X.env)]:=by rfl) (hs2:starEach [b] X.env = [(false,eval b X.env)]:=by rfl) :
  QI X tg (.Call (.Name "range" p2) [a,b] [] pos) (mX ta tb):=pN (Z6 hg hm (cK ha (cK hb cZ hs2) (by rw [hs,hs2])) hs hs2) fun _ _ _=>ap4
theorem C3 {tg:Expr}{body:List Stmt}{ti:eC}{p:iY}{g:TG}{own:Nat->Prop} (hp:PassesOwn (model X.prog X.w) X.A X.env X.xe) (hc:X.calm=true) (hi:QI X tg e ti) (hg:PG X tg g) (ht:mY X.K own p g) (hb:dQ X body t)
  (hs:∀ x,foldedSetIterable e X.env x=pure x:=by intro _; rfl):QS X (.For tg e body [] pos) (cN ti p t):=dL (wR hp hc hi hg hb hs) fun _ _ _=>ap5 ht
end
section
variable {X : Cx} {pins : List (Addr × Obj)} {σ : St} {H : Hp} {s : Shared} {K : PySem.W.Frag} {M M' : Addr → Prop}
theorem iF.inj {a:Addr}{us ws:List V} (h:iF K a us) (h':iF K a ws):us=ws:=by
 obtain ⟨o,its,n,e1,_,e2,_,v⟩:=h
 obtain ⟨o',its',n',e1',_,e2',_,v'⟩:=h'
 rw [e1] at e1'; cases e1'
 rw [e2] at e2'; cases e2'
 exact v.inj v'
theorem Reps.self_of {n:Nat} (ih:∀ {v:V}{x y:PV},aI K M H v x->aI K M' H v y->dI n x y=true->cF n x y=true):∀ {vs:List V}{xs ys:List PV},Reps K M H vs xs->Reps K M' H vs ys->((xs.zip ys).all fun p=>dI n p.1 p.2)=true->(((xs.zip ys).all fun p=>cF n p.1 p.2) && xs.length == ys.length)=true
 | _,_,_,.nil,.nil,_=>rfl
 | _,_,_,.cons r t,.cons r' t',o=>by
  simp only [List.zip_cons_cons,bb9,aV2] at o
  have h1:=ih r r' o.1
  have h2:=Reps.self_of ih t t' o.2
  simp only [List.zip_cons_cons,bb9,h1,Bool.true_and,aT9] at h2 ⊢
  rw [<- h2]
  congr 1
  simp
theorem aI.self:∀ (n:Nat) {v:V}{x y:PV},aI K M H v x->aI K M' H v y->dI n x y=true->cF n x y=true:=by
 intro n
 induction n with
 | zero=>
  intro v x y r r' o
  cases r with
  | non=>cases r'; rfl
  | bl b=>cases r'; exact aX4 b
  | int i=>cases r'; exact aX4 i
  | str z=>cases r'; exact aX4 z
  | _=>cases o
 | succ n ih=>
  intro v x y r r' o
  cases r with
  | non=>cases r'; rfl
  | bl b=>cases r'; exact aX4 b
  | int i=>cases r'; exact aX4 i
  | str z=>cases r'; exact aX4 z
  | tup h rr=>
   cases r' with
   | tup h' rr'=>rw [h] at h'; cases h'; exact Reps.self_of ih rr rr' o
   | _=>cases o
  | lst _ h rr=>
   cases r' with
   | lst _ h' rr'=>rw [h] at h'; cases h'; exact Reps.self_of ih rr rr' o
   | _=>cases o
  | kt h rr=>
   cases r' with
   | kt h' rr'=>cases iF.inj h h'; exact Reps.self_of ih rr rr' o
   | _=>cases o
  | _=>cases o
theorem Reps.self (n:Nat) {vs:List V}{xs ys:List PV} (r:Reps K M H vs xs) (r':Reps K M' H vs ys) (o:((xs.zip ys).all fun p=>dI n p.1 p.2)=true):(((xs.zip ys).all fun p=>cF n p.1 p.2) && xs.length == ys.length)=true:=Reps.self_of (aI.self n) r r' o
theorem lD (n:Nat) (xs ys:List PV):(List.range (min xs.length ys.length)).all (fun j=>cF n (xs.getD j .non) (ys.getD j .non))=(xs.zip ys).all fun p=>cF n p.1 p.2:=by
 rw [aY6]
 simp only [aY7,bc1]
 constructor
 ·intro h p hp
  obtain ⟨j,hj,e⟩:=List.getElem_of_mem hp
  have hj':j < min xs.length ys.length:=by simpa using hj
  have:=h j hj'
  rw [List.getElem_zip] at e
  subst e
  have h1:j < xs.length:=by omega
  have h2:j < ys.length:=by omega
  simpa [aR7,h1,h2] using this
 ·intro h j hj
  have h1:j < xs.length:=by omega
  have h2:j < ys.length:=by omega
  have hz:j < (xs.zip ys).length:=by simp; omega
  have:=h _ (aZ8 hz)
  rw [List.getElem_zip] at this
  simpa [aR7,h1,h2] using this
theorem as0 (I:a8 X pins σ H s):∀ (n:Nat) {A:Around}{v w:V}{x y:PV}{a b:Value},A.units+n < cLine->aI X.K M H v x->aI X.K M' H w y->aQ v a->aQ w b->dI n x y=true->SeqAt.EqAt A s a b (cF n x y):=by
 intro n
 induction n with
 | zero=>
  intro A v w x y a b hu rx ry ra rb o
  cases rx with
  | non=>
   cases ra
   cases ry with
   | non=>cases rb; exact SeqAt.EqAt.same _
   | int i=>obtain ⟨t',rfl⟩:=rb; exact SeqAt.EqAt.none_int _ _
   | _=>cases o
  | bl i=>
   cases ra
   cases ry with
   | bl j=>cases rb; exact SeqAt.EqAt.bool_bool _ _
   | _=>cases o
  | int i=>
   obtain ⟨t,rfl⟩:=ra
   cases ry with
   | int j=>obtain ⟨t',rfl⟩:=rb; exact SeqAt.EqAt.int_int _ _ _ _
   | non=>cases rb; exact SeqAt.EqAt.int_none _ _
   | _=>cases o
  | str i=>
   obtain ⟨t,rfl⟩:=ra
   cases ry with
   | str j=>obtain ⟨t',rfl⟩:=rb; exact SeqAt.EqAt.str_str _ _ _ _
   | _=>cases o
  | _=>cases o
 | succ n ih=>
  intro A v w x y a b hu rx ry ra rb o
  have items:∀ {us ws:List V}{xs ys:List PV}{its its2:List Value},Reps X.K M H us xs->Reps X.K M' H ws ys->aK us its->aK ws its2->((xs.zip ys).all fun p=>dI n p.1 p.2)=true->
    ∀ j (h1:j < its.toArray.size) (h2:j < its2.toArray.size),SeqAt.EqAt A.in1 s its.toArray[j] its2.toArray[j] (cF n (xs.getD j .non) (ys.getD j .non)):=fun {us ws xs ys its its2} r1 r2 v1 v2 ok j h1 h2=>by
   have l1:=v1.length
   have l2:=v2.length
   have m1:=r1.length
   have m2:=r2.length
   have k1:j < its.length:=by simpa using h1
   have k2:j < its2.length:=by simpa using h2
   have j1:j < us.length:=by omega
   have j2:j < ws.length:=by omega
   have i1:j < xs.length:=by omega
   have i2:j < ys.length:=by omega
   obtain ⟨u,hu',ru⟩:=v1.get (aQ7 j1)
   obtain ⟨u2,hu2',ru2⟩:=v2.get (aQ7 j2)
   obtain ⟨x,hx,rx⟩:=r1.get (aQ7 j1)
   obtain ⟨y,hy,ry⟩:=r2.get (aQ7 j2)
   have e1:its.toArray[j]=u:=by
    rw [aQ7 k1] at hu'
    simpa using hu'
   have e2:its2.toArray[j]=u2:=by
    rw [aQ7 k2] at hu2'
    simpa using hu2'
   have ok':dI n x y=true:=by
    rw [aY7] at ok
    have hz:j < (xs.zip ys).length:=by simp; omega
    have:=ok _ (aZ8 hz)
    rw [List.getElem_zip] at this
    rw [aQ7 i1] at hx
    rw [aQ7 i2] at hy
    cases hx; cases hy
    exact this
   rw [e1,e2]
   have g1:xs.getD j .non=x:=by rw [aR7,hx]; rfl
   have g2:ys.getD j .non=y:=by rw [aR7,hy]; rfl
   rw [g1,g2]
   exact ih (by show A.units+1+n < cLine; omega) rx ry ru ru2 ok'
  have huA:A.units < cLine:=by omega
  cases rx with
  | @kt p us xs h1 r1=>
   obtain ⟨its,v1,p1,_⟩:=I.tuple (.inr h1)
   cases (show a=Value.ref p from ra)
   cases ry with
   | @kt p2 ws ys h2 r2=>
    obtain ⟨its2,v2,p2',_⟩:=I.tuple (.inr h2)
    cases (show b=Value.ref p2 from rb)
    by_cases e:p=p2
    ·subst e
     have:=aI.self (K:=X.K) (M:=M) (M':=M') (n+1) (.kt h1 r1) (.kt h2 r2) o
     rw [this]
     exact SeqAt.EqAt.same _
    ·have:=SeqAt.RcAt.tuples p1 p2' huA (items r1 r2 v1 v2 o)
     refine .of_refs e ?_
     have l1:=v1.length
     have l2:=v2.length
     have m1:=r1.length
     have m2:=r2.length
     rw [aQ8,aQ8,<- l1,<- l2,m1,m2,lD] at this
     exact this
   | _=>cases o
  | @tup p us xs h1 r1=>
   obtain ⟨its,v1,p1,_⟩:=I.tuple (aJ.of (K:=X.K) h1)
   cases (show a=Value.ref p from ra)
   cases ry with
   | @tup p2 ws ys h2 r2=>
    obtain ⟨its2,v2,p2',_⟩:=I.tuple (aJ.of (K:=X.K) h2)
    cases (show b=Value.ref p2 from rb)
    by_cases e:p=p2
    ·subst e
     have:=aI.self (K:=X.K) (M:=M) (M':=M') (n+1) (.tup h1 r1) (.tup h2 r2) o
     rw [this]
     exact SeqAt.EqAt.same _
    ·have:=SeqAt.RcAt.tuples p1 p2' huA (items r1 r2 v1 v2 o)
     refine .of_refs e ?_
     have l1:=v1.length
     have l2:=v2.length
     have m1:=r1.length
     have m2:=r2.length
     rw [aQ8,aQ8,<- l1,<- l2,m1,m2,lD] at this
     exact this
   | non=>cases rb; exact SeqAt.EqAt.tuple_none p1 huA
   | _=>cases o
  | @lst p us xs _ h1 r1=>
   obtain ⟨its,v1,p1,_⟩:=I.list (aM.of (K:=X.K) h1)
   cases (show a=Value.ref p from ra)
   cases ry with
   | @lst p2 ws ys _ h2 r2=>
    obtain ⟨its2,v2,p2',_⟩:=I.list (aM.of (K:=X.K) h2)
    cases (show b=Value.ref p2 from rb)
    have l1:=v1.length
    have l2:=v2.length
    have m1:=r1.length
    have m2:=r2.length
    by_cases e:p=p2
    ·subst e
     rw [h1] at h2; cases h2
     have:=Reps.self n r1 r2 o
     show SeqAt.EqAt A s _ _ ((xs.zip ys).all (fun p=>cF n p.1 p.2) && xs.length == ys.length)
     rw [this]
     exact SeqAt.EqAt.same _
    ·refine .of_refs e ?_
     by_cases hl:xs.length=ys.length
     ·have:=SeqAt.RcAt.lists p1.isList p2'.isList (by rw [aQ8,aQ8]; omega) huA (items r1 r2 v1 v2 o)
      have hm:min xs.length ys.length=its.length:=by omega
      rw [aQ8,<- hm,lD] at this
      show SeqAt.RcAt A s _ _ ((xs.zip ys).all (fun p=>cF n p.1 p.2) && xs.length == ys.length)
      rw [show (xs.length == ys.length)=true by simpa using hl,Bool.and_true]
      exact this
     ·have:=SeqAt.RcAt.lists_lengths (A:=A) p1.isList p2'.isList (by rw [aQ8,aQ8]; simp; omega) huA
      show SeqAt.RcAt A s _ _ ((xs.zip ys).all (fun p=>cF n p.1 p.2) && xs.length == ys.length)
      rw [show (xs.length == ys.length)=false by simpa using hl,Bool.and_false]
      exact this
   | _=>cases o
  | non=>
   cases ra
   cases ry with
   | non=>cases rb; exact SeqAt.EqAt.same _
   | int i=>obtain ⟨t',rfl⟩:=rb; exact SeqAt.EqAt.none_int _ _
   | @tup p2 ws ys h2 r2=>
    obtain ⟨its2,v2,p2',_⟩:=I.tuple (aJ.of (K:=X.K) h2)
    cases (show b=Value.ref p2 from rb)
    exact SeqAt.EqAt.none_tuple p2' huA
   | _=>cases o
  | bl i=>
   cases ra
   cases ry with
   | bl j=>cases rb; exact SeqAt.EqAt.bool_bool _ _
   | _=>cases o
  | int i=>
   obtain ⟨t,rfl⟩:=ra
   cases ry with
   | int j=>obtain ⟨t',rfl⟩:=rb; exact SeqAt.EqAt.int_int _ _ _ _
   | non=>cases rb; exact SeqAt.EqAt.int_none _ _
   | _=>cases o
  | str i=>
   obtain ⟨t,rfl⟩:=ra
   cases ry with
   | str j=>obtain ⟨t',rfl⟩:=rb; exact SeqAt.EqAt.str_str _ _ _ _
   | _=>cases o
  | _=>cases o
end
structure Bt (mg:Str->Option Value):Prop where
 len:mg "len" = none
 range:mg "range" = none
 tuple:mg "tuple" = none
 list:mg "list" = none
 sorted:mg "sorted" = none
 all:mg "all" = none
 any:mg "any" = none
 zip:mg "zip" = none
 min:mg "min" = none
 max:mg "max" = none
 sum:mg "sum" = none
 isinst:mg "isinstance" = none
 int:mg "int" = none
 bool:mg "bool" = none
 enum:mg "enumerate" = none
section
variable {X : Cx} {a b c e o : Expr} {es cQ : List Expr} {ta tb te to tk : aF} {tr : cG} {tA tB' tc : c8} {pos p2 px : Pos} {st : Stmt} {sts : List Stmt} {t u : aO}
theorem fY (B:Bt X.mg) (ha:QA X [e] tr) (hg:Gl X "len":=by rfl) (he:starEach [e] X.env=(false,eval e X.env) :: starEach [] X.env:=by rfl) (hpl:(backTo pos (starEach [] X.env)).any (·.1)=false:=by rfl):QE X (.Call (.Name "len" p2) [e] [] pos) (aE eQ tr):=
 j4 (ae6.or ah6) ao1 hg B.len PySem.boot_len ha (he:=he) (hpl:=hpl)
theorem fM (B:Bt X.mg) (ha:QA X [e] tr) (hg:Gl X "tuple":=by rfl) (he:starEach [e] X.env=(false,eval e X.env) :: starEach [] X.env:=by rfl) (hpl:(backTo pos (starEach [] X.env)).any (·.1)=false:=by rfl):QE X (.Call (.Name "tuple" p2) [e] [] pos) (aE dJ tr):=
 pS ae8 ao2 hg B.tuple PyProof.Rows.boot_tuple ha (he:=he) (hpl:=hpl)
theorem C4 (B:Bt X.mg) (ha:QA X [e] tr) (hg:Gl X "list":=by rfl) (he:starEach [e] X.env=(false,eval e X.env) :: starEach [] X.env:=by rfl) (hpl:(backTo pos (starEach [] X.env)).any (·.1)=false:=by rfl):QE X (.Call (.Name "list" p2) [e] [] pos) (aE pA tr):=
 pS ae7 ao3 hg B.list PyProof.Rows.boot_list ha (he:=he) (hpl:=hpl)
theorem as1 (B:Bt X.mg) (ha:QA X [e] tr) (hg:Gl X "sorted":=by rfl) (he:starEach [e] X.env=(false,eval e X.env) :: starEach [] X.env:=by rfl) (hpl:(backTo pos (starEach [] X.env)).any (·.1)=false:=by rfl):QE X (.Call (.Name "sorted" p2) [e] [] pos) (aE tV tr):=
 j4 z9 ao4 hg B.sorted PyProof.Rows.boot_sorted ha (he:=he) (hpl:=hpl)
theorem C5 (B:Bt X.mg) (hc:X.calm=true) (ha:QA X [e] tr) (hg:Gl X "all":=by rfl) (he:starEach [e] X.env=(false,eval e X.env) :: starEach [] X.env:=by rfl) (hpl:(backTo pos (starEach [] X.env)).any (·.1)=false:=by rfl):QE X (.Call (.Name "all" p2) [e] [] pos) (aE pB tr):=
 j4 (tN hc) ao5 hg B.all PyProof.Rows.boot_all ha (he:=he) (hpl:=hpl)
theorem C6 (B:Bt X.mg) (hc:X.calm=true) (ha:QA X [a,b] tr) (hg:Gl X "min":=by rfl) (he:starEach [a,b] X.env=(false,eval a X.env) :: starEach [b] X.env:=by rfl) (hpl:(backTo pos (starEach [b] X.env)).any (·.1)=false:=by rfl):QE X (.Call (.Name "min" p2) [a,b] [] pos) (aE mU tr):=
 j4 (ab9 hc) ao6 hg B.min PyProof.Rows.boot_min ha (he:=he) (hpl:=hpl)
theorem C7 (B:Bt X.mg) (hc:X.calm=true) (ha:QA X [a,b] tr) (hg:Gl X "max":=by rfl) (he:starEach [a,b] X.env=(false,eval a X.env) :: starEach [b] X.env:=by rfl) (hpl:(backTo pos (starEach [b] X.env)).any (·.1)=false:=by rfl):QE X (.Call (.Name "max" p2) [a,b] [] pos) (aE mV tr):=
 j4 (ab8 hc) ao7 hg B.max PyProof.Rows.boot_max ha (he:=he) (hpl:=hpl)
theorem pT (ha:QE X a ta):QE X (.UnaryOp .USub a pos) (iH ta):=bT (aa1 aa8 ha) fun σ H Q' h=>by
 obtain ⟨W,ρ,Q,px,q,k⟩:=h
 refine⟨W,ρ,_,px,q,?_⟩
 rintro v H1 x g s r ⟨i,rfl,q⟩
 cases r
 exact⟨i,rfl,k _ _ _ .fr s (.int _) q⟩
theorem C8 (x:Int):∀ (xs:List Int),mG (.int x) (xs.map V.int)=decide (x ∈ xs)
 | []=>by simp [mG]
 | y :: r=>by
  have ih:=C8 x r
  unfold mG at ih ⊢
  rw [aU8,List.any_cons,ih]
  by_cases e:y=x
  ·subst e; simp [gB]
  ·have:gB (.int y) (.int x)=false:=by simpa [gB] using e
   rw [this,Bool.false_or,aY6]
   simp [Ne.symm e]
theorem C9:∀ (xs:List Int),(xs.map V.int).all i8=true
 | []=>rfl
 | _ :: r=>by rw [aU8,bb9,C9 r]; rfl
theorem as2 (neg:Bool):cT X (pK neg) (xS X.K neg):=by
 rintro W Hs H u v x y g g' Q Q' s n r1 r2 ⟨i,ns,rfl,e,q⟩ k
 cases r1
 obtain ⟨a,us,rfl,hs,r⟩:=r2.seq e
 obtain rfl:=r.ofInts
 refine⟨a,_,rfl,hs,rfl,C9 ns,?_⟩
 have:=k _ _ _ .fr (aC.refl _) (.bl _) q
 rw [C8]
 cases neg <;> exact this
theorem E1 (ha:QE X a ta) (hb:QE X b tb) (hm:behindInMarks .In b=false:=by rfl):QE X (.Compare a [.In] [b] pos) (q2 (pK false) ta tb):=k6 ae5 (as2 false) ha hb hm
theorem aI.kt_ {K:PySem.W.Frag}{M:Addr->Prop}{H:Hp}{v:V}{xs:List PV} (r:aI K M H v (.kt xs)):∃ a us,v = .ref a/\iF K a us/\Reps K M H us xs:=by
 cases r with
 | kt h r=>exact⟨_,_,rfl,h,r⟩
def uI (K:PySem.W.Frag) (n:Nat) (neg:Bool):R2:=fun v w H Q=>∃ x y,aI K (fun _=>True) H v x/\aI K (fun _=>True) H w y/\((∃ xs ys,x = .tup xs/\y = .tup ys) ∨ (∃ xs ys,x = .lst xs/\y = .lst ys) ∨ (∃ xs ys,x = .kt xs/\y = .kt ys))/\dI (n+1) x y=true/\Q (.bl (if neg=true then !cF (n+1) x y else cF (n+1) x y)) H
theorem uJ {pins:List (Addr × Obj)}{σ:St}{H:Hp}{s:Shared}{M M':Addr->Prop} (I:a8 X pins σ H s) {n:Nat}{A:Around} (hu:A.units+(n+1) < cLine) {us ws:List V}{xs ys:List PV}{its its2:List Value} (r1:Reps X.K M H us xs) (r2:Reps X.K M' H ws ys) (v1:aK us its) (v2:aK ws its2)
  (ok:((xs.zip ys).all fun p=>dI n p.1 p.2)=true):∀ j (h1:j < its.toArray.size) (h2:j < its2.toArray.size),SeqAt.EqAt A.in1 s its.toArray[j] its2.toArray[j] (cF n (xs.getD j .non) (ys.getD j .non)):=by
 intro j h1 h2
 have l1:=v1.length
 have l2:=v2.length
 have m1:=r1.length
 have m2:=r2.length
 have k1:j < its.length:=by simpa using h1
 have k2:j < its2.length:=by simpa using h2
 have j1:j < us.length:=by omega
 have j2:j < ws.length:=by omega
 have i1:j < xs.length:=by omega
 have i2:j < ys.length:=by omega
 obtain ⟨u,hu',ru⟩:=v1.get (aQ7 j1)
 obtain ⟨u2,hu2',ru2⟩:=v2.get (aQ7 j2)
 obtain ⟨x,hx,rx⟩:=r1.get (aQ7 j1)
 obtain ⟨y,hy,ry⟩:=r2.get (aQ7 j2)
 have e1:its.toArray[j]=u:=by
  rw [aQ7 k1] at hu'
  simpa using hu'
 have e2:its2.toArray[j]=u2:=by
  rw [aQ7 k2] at hu2'
  simpa using hu2'
 have ok':dI n x y=true:=by
  rw [aY7] at ok
  have hz:j < (xs.zip ys).length:=by simp; omega
  have:=ok _ (aZ8 hz)
  rw [List.getElem_zip] at this
  rw [aQ7 i1] at hx
  rw [aQ7 i2] at hy
  cases hx; cases hy
  exact this
 rw [e1,e2]
 have g1:xs.getD j .non=x:=by rw [aR7,hx]; rfl
 have g2:ys.getD j .non=y:=by rw [aR7,hy]; rfl
 rw [g1,g2]
 exact as0 I n (by show A.units+1+n < cLine; omega) rx ry ru ru2 ok'
theorem E2 (n:Nat) (hu:X.A.units+(n+1) < cLine):bR X (compareOp .Eq) (uI X.K n false):=by
 intro pins s σ H v w a b Q I ra rb h
 obtain ⟨x,y,rx,ry,kd,o,q⟩:=h
 have hu0:X.A.units < cLine:=by omega
 rcases kd with ⟨xs,ys,rfl,rfl⟩ | ⟨xs,ys,rfl,rfl⟩ | ⟨xs,ys,rfl,rfl⟩
 ·obtain ⟨p,us,rfl,h1,r1⟩:=rx.sqT
  obtain ⟨p2,ws,rfl,h2,r2⟩:=ry.sqT
  cases ra; cases rb
  obtain ⟨its,v1,p1,_⟩:=I.tuple (aJ.of (K:=X.K) h1)
  obtain ⟨its2,v2,p2',_⟩:=I.tuple (aJ.of (K:=X.K) h2)
  have l1:=v1.length
  have l2:=v2.length
  have m1:=r1.length
  have m2:=r2.length
  have:=SeqAt.RcAt.tuples p1 p2' hu0 (uJ I hu r1 r2 v1 v2 o)
  rw [aQ8,aQ8,<- l1,<- l2,m1,m2,lD] at this
  exact this _ _ _ _ ⟨.bl _,H,I,rfl,q⟩
 ·obtain ⟨p,us,rfl,_,h1,r1⟩:=rx.sqL
  obtain ⟨p2,ws,rfl,_,h2,r2⟩:=ry.sqL
  cases ra; cases rb
  obtain ⟨its,v1,p1,_⟩:=I.list (aM.of (K:=X.K) h1)
  obtain ⟨its2,v2,p2',_⟩:=I.list (aM.of (K:=X.K) h2)
  have l1:=v1.length
  have l2:=v2.length
  have m1:=r1.length
  have m2:=r2.length
  have q:Q (.bl ((xs.zip ys).all (fun p=>cF n p.1 p.2) && xs.length == ys.length)) H:=q
  by_cases hl:xs.length=ys.length
  ·have:=SeqAt.RcAt.lists p1.isList p2'.isList (by rw [aQ8,aQ8]; omega) hu0 (uJ I hu r1 r2 v1 v2 o)
   have hm:min xs.length ys.length=its.length:=by omega
   rw [aQ8,<- hm,lD] at this
   rw [show (xs.length == ys.length)=true by simpa using hl,Bool.and_true] at q
   exact this _ _ _ _ ⟨.bl _,H,I,rfl,q⟩
  ·have:=SeqAt.RcAt.lists_lengths (A:=X.A) p1.isList p2'.isList (by rw [aQ8,aQ8]; simp; omega) hu0
   rw [show (xs.length == ys.length)=false by simpa using hl,Bool.and_false] at q
   exact this _ _ _ _ ⟨.bl _,H,I,rfl,q⟩
 ·obtain ⟨p,us,rfl,h1,r1⟩:=rx.kt_
  obtain ⟨p2,ws,rfl,h2,r2⟩:=ry.kt_
  cases ra; cases rb
  obtain ⟨its,v1,p1,_⟩:=I.tuple (.inr h1)
  obtain ⟨its2,v2,p2',_⟩:=I.tuple (.inr h2)
  have l1:=v1.length
  have l2:=v2.length
  have m1:=r1.length
  have m2:=r2.length
  have:=SeqAt.RcAt.tuples p1 p2' hu0 (uJ I hu r1 r2 v1 v2 o)
  rw [aQ8,aQ8,<- l1,<- l2,m1,m2,lD] at this
  exact this _ _ _ _ ⟨.bl _,H,I,rfl,q⟩
theorem as3 {n:Nat}{neg:Bool}:cT X (u7 n neg) (uI X.K n neg):=by
 rintro W Hs H u v x y g g' Q Q' s n r1 r2 ⟨kd,o,q⟩ k
 exact⟨x,y,r1.same (aC.refl _) fun _ _=>trivial,r2.same (aC.refl _) fun _ _=>trivial,kd.elim .inl fun z=>.inr (.inl z),o,k _ _ _ .fr (aC.refl _) (.bl _) q⟩
theorem as4 {n:Nat}{neg:Bool}:cT X (u8 n neg) (uI X.K n neg):=by
 rintro W Hs H u v x y g g' Q Q' s n r1 r2 ⟨kd,o,q⟩ k
 exact⟨x,y,r1.same (aC.refl _) fun _ _=>trivial,r2.same (aC.refl _) fun _ _=>trivial,.inr (.inr kd),o,k _ _ _ .fr (aC.refl _) (.bl _) q⟩
theorem as5 (hu:X.A.units+3 < cLine) (ha:QE X a ta) (hb:QE X b tb):QE X (.Compare a [.Eq] [b] pos) (q2 (u8 2 false) ta tb):=k6 (E2 2 hu) as4 ha hb (dY _)
theorem as6 (hu:X.A.units+3 < cLine) (ha:QE X a ta) (hb:QE X b tb):QE X (.Compare a [.Eq] [b] pos) (q2 (u7 2 false) ta tb):=k6 (E2 2 hu) as3 ha hb (dY _)
end
end PP
namespace PP
open PySem L2 PyProof.Rows
def LO (X:Cx) (t:lA):TO:=fun σ H Q'=>∃ (W:Addr->Prop) (ρ:bE) (Q:Option Int->Prop),PX X.K X.H₀ W σ ρ H/\t ρ Q/\∀ o H',aC H H'->Q o->Q' o H'
def QO (X:Cx) (e:Option Expr) (t:lA):Prop:=PO X e (LO X t)
theorem Reps.cut {K:PySem.W.Frag}{M:Addr->Prop}{H:Hp}{us:List V}{xs:List PV} (r:Reps K M H us xs) (lo hi:Option Int):Reps K M H (dG us lo hi) (eD xs lo hi):=by
 unfold dG eD
 rw [r.length]
 exact (r.drop _).take _
section
variable {X : Cx} {a b c e o : Expr} {es cQ : List Expr} {ta tb te to tk : aF} {tr : cG} {tA tB' tc : c8} {pos p2 px : Pos} {st : Stmt} {sts : List Stmt} {t u : aO}
theorem j6:QO X none fI:=fun pins s σ H Q I h=>sD pins s σ H Q I (by
 obtain ⟨W,ρ,Q1,px,q,k⟩:=h
 exact k _ _ (aC.refl _) q)
theorem j7 (h:QE X e te):QO X (some e) (fJ te):=fun pins s σ H Q I hq=>sE h pins s σ H Q I (by
 obtain ⟨W,ρ,Q1,px,q,k⟩:=hq
 refine⟨W,ρ,_,px,q,?_⟩
 rintro v H1 x g s r ⟨i,rfl,q⟩
 cases r
 exact⟨i,rfl,k _ _ s q⟩)
theorem j8 {lo hi:Option Expr}{tl th:lA}{sp:Pos} (he:QE X e te) (hl:QO X lo tl) (hh:QO X hi th):QE X (.Subscript e (.Slice lo hi none sp) pos) (fK te tl th):=bT (sF (xQ.or zO) he hl hh) fun σ H Q' h=>by
 obtain ⟨W,ρ,Q,px,q,k⟩:=h
 refine⟨W,ρ,_,px,q,fun v H1 x g s1 r1 q1=>⟨W,ρ,_,px.mono s1,q1,fun lo H2 s2 q2=>⟨W,ρ,_,px.mono (s1.trans s2),q2,?_⟩⟩⟩
 rintro hi H3 s3 ⟨xs,e,f,q3⟩
 have S:=(s1.trans s2).trans s3
 have r3:=r1.same (M':=Mg X.H₀ W H g) (s2.trans s3) fun _ z=>z
 cases r3 with
 | tup h r=>
  cases e
  refine .inr ⟨_,_,rfl,aJ.of h,fun p hp=>k _ _ _ .fr (S.trans (b7 hp _)) (.tup b8 (((r.flat f).cut lo hi).same (b7 hp _) fun _ z=>z)) q3,fun ec=>k _ _ _ .fr S (.tup h ?_) q3⟩
  have:=(r.flat (M':=Mg X.H₀ W H .fr) f).cut lo hi
  rw [ec] at this
  exact this
 | lst m h r=>
  cases e
  exact .inl ⟨_,_,rfl,aM.of h,fun p hp=>k _ _ _ .fr (S.trans (b7 hp _)) (.lst (S.free hp) b8 (((r.flat f).cut lo hi).same (b7 hp _) fun _ z=>z)) q3⟩
 | scr h=>
  cases e
  exact .inl ⟨_,_,rfl,h.sqL,fun p hp=>k _ _ _ .fr (S.trans (b7 hp _)) (.lst (S.free hp) b8 (((Reps.intz _).cut lo hi).same (b7 hp _) fun _ z=>z)) q3⟩
 | _=>cases e
structure Df (P:Program) (w:World) (K:PySem.W.Frag) (mg:Str->Option Value) (base:Heap) (k:Nat) (x:Str) (ps:List Str) (p:bJ):Prop where
 ex:∃ f fd,cL P w K mg base dC k f fd ps (mW K p)/\gR K fd ps []/\PySem.W.keepIn K (.ref f)=true/\mg x=some (.ref f)
theorem aZ {k j:Nat}{x:Str}{ps:List Str}{p:bJ} (d:Df X.prog X.w X.K X.mg X.base k x ps p) (hr:bY j X.A) (ha:QA X (e :: es) tr) (hkj:k<=j:=by decide) (hg:Gl X x:=by rfl) (hdb:(x == ("__debug__" : Str))=false:=by decide)
  (he:starEach (e :: es) X.env=(false,eval e X.env) :: starEach es X.env:=by rfl) (hpl:(backTo pos (starEach es X.env)).any (·.1)=false:=by rfl):QE X (.Call (.Name x p2) (e :: es) [] pos) (aE p tr):=by
 obtain ⟨f,fd,F,b,kp,m⟩:=d.ex
 exact bT (x6 F (hr.mono hkj) hg m kp b .nil ah4 ha hdb he hpl) fun _ _ _=>ao8
theorem uK {K:PySem.W.Frag}{H:Hp}{N:List Str}{vs:List V}{xs:List PV} (r:Reps K (fun _=>True) H vs xs):PX K H (fun _=>False) (L2.fT N vs) (eV N xs) H:=by
 have lr:=r.length
 have own:∀ {i:Nat}{m:Slot},(eV N xs)[i]? = some (some m)->∃ x,xs[i]? = some x/\m = .sh (flat x) x:=fun {i m} h=>by
  unfold eV at h
  by_cases hi:i < xs.length
  ·rw [List.getElem?_append_left (by simpa using hi),aS5] at h
   rw [aQ7 hi] at h ⊢
   cases h
   exact⟨_,rfl,rfl⟩
  ·rw [List.getElem?_append_right (by simpa using hi),List.getElem?_replicate] at h
   split at h <;> cases h
 refine⟨by unfold L2.fT eV; simp [lr],aC.refl _,fun a z=>z.elim,fun i m h=>?_,fun i j x y a h1=>?_⟩
 ·obtain ⟨x,hx,rfl⟩:=own h
  obtain ⟨v,hv,rx⟩:=r.at hx
  refine⟨v,?_,pE (g:=false) (rx.same (aC.refl _) fun _ _ z=>z)⟩
  have hi:i < vs.length:=(aR4.mp hv).1
  unfold L2.fT
  rw [List.getElem?_append_left (by simpa using hi),aS5,hv]; rfl
 ·obtain ⟨x,_,e⟩:=own h1
  cases e
theorem Df.of {P:Program}{w:World}{K:PySem.W.Frag}{mg:Str->Option Value}{base:Heap}{k:Nat}{x:Str}{ps N:List Str}{p:bJ}{st:Stmt}{f:Addr}{fd:FuncData} (F:e9 K x x st f fd) (m:mg x=some (.ref f)) (S:FnScope N ps (aT st))
  (hb:∀ (kV doc pm:Value) (an:Option Addr) (cdv ct:Value) (us:List Value),us.length=ps.length->bindArgs (PySem.W.fnOf x x (iA st) (dO st) (aT st) .none kV doc pm an cdv ct) ⟨us,[]⟩=pure (ps.zip us))
  (len:∀ xs Q,p xs Q->xs.length=ps.length)
  (body:∀ (cdv:Value) (A:Around) (outer:List Env) (s:Shared) (H:Hp) (E:XK),bY k (A.deeper (envOfC x (aT st) s.heap.objs.size f cdv))->
   ∃ t,dQ (cS dC P w K mg base N x (aT st) f cdv A outer s H E).nox (dO st) t/\∀ xs Q,p xs Q->t { nx:=fun _=>Q .non,rt:=Q } (eV N xs)):Df P w K mg base (k+1) x ps p:=by
 refine⟨f,fd,F.ok S (fun vs H Q E h=>?_) (fun cdv A outer s H vs Q E hr h=>?_),F.binds hb,F.kp,m⟩
 ·obtain ⟨xs,Qp,r,q,_⟩:=h
  rw [r.length]; exact len xs Qp q
 ·obtain ⟨xs,Qp,r,q,k⟩:=h
  obtain ⟨t,ht,hq⟩:=body cdv A outer s H E hr
  refine⟨_,ht,fun _=>False,eV N xs,_,uK r,hq xs Qp q,?_,?_,?_,?_⟩
  ·exact fun W' σ' H' ρ' e px q=>k _ _ _ px.same .non q
  ·exact fun v H' x s r q=>k _ _ _ s r q
  ·exact fun W' σ' H' ρ' e px q=>q
  ·exact fun W' σ' H' ρ' e px q=>q
theorem eG (i:Nat) {x:Str}{tp:Pos}{body:List Stmt}{ti:eC} (hN:X.N.Nodup) (hi:QI X (.Name x tp) e ti) (hb:dQ X body t) (hx:X.N[i]? = some x:=by rfl) (hl:i4 X.env.scope x:=by first | exact Or.inl rfl | exact Or.inr rfl) (hf:X.fn x=true ∨ X.env.scope.names.lookup x=some .local:=by first | exact .inl rfl | exact .inr rfl)
  (hp:PassesOwn (model X.prog X.w) X.A X.env X.xe:=by exact PassesOwn.never) (hc:X.calm=true:=by rfl) (hs:∀ x,foldedSetIterable e X.env x=pure x:=by intro _; rfl):QS X (.For (.Name x tp) e body [] pos) (cN ti (bZ i) t):=
 C3 hp hc hi (fA hN hx hl hf) (tX _ i) hb hs
theorem as7 (i j:Nat) {x y:Str}{tp xp yp:Pos}{kt:Nat}{body:List Stmt}{ti:eC} (hN:X.N.Nodup) (hi:QI X (.Tuple [.Name x xp,.Name y yp] kt tp) e ti) (hb:dQ X body t) (hx:X.N[i]? = some x:=by rfl) (hy:X.N[j]? = some y:=by rfl) (hlx:i4 X.env.scope x:=by first | exact Or.inl rfl | exact Or.inr rfl) (hly:i4 X.env.scope y:=by first | exact Or.inl rfl | exact Or.inr rfl)
  (hfx:X.fn x=true ∨ X.env.scope.names.lookup x=some .local:=by first | exact .inl rfl | exact .inr rfl) (hfy:X.fn y=true ∨ X.env.scope.names.lookup y=some .local:=by first | exact .inl rfl | exact .inr rfl)
  (hp:PassesOwn (model X.prog X.w) X.A X.env X.xe:=by exact PassesOwn.never) (hc:X.calm=true:=by rfl) (hs:∀ x,foldedSetIterable e X.env x=pure x:=by intro _; rfl):QS X (.For (.Tuple [.Name x xp,.Name y yp] kt tp) e body [] pos) (cN ti (jX i j) t):=
 C3 hp hc hi (m6 hc (gO (fA hN hx hlx hfx) (gO (fA hN hy hly hfy) m5))) (tY _ i j) hb hs
abbrev cM:Value->Shared->Prop:=fun _ _=>False
section
variable {scope : Scope} {N : List Str} {fr : List (Option Nat)} {x y : Str} {tp xp yp : Pos} {kt : Nat} {iter elt : Expr} {ti : eC}
theorem E3 {ifs:List Expr}{tcs:c8} (he:∀ (s:Shared) (H:Hp) (C:Addr) (fp:List Addr),QE (bL X scope N s H C fp cM) elt te) (hi:∀ (s:Shared) (H:Hp) (C:Addr) (fp:List Addr),iU (bL X scope N s H C fp cM) ifs (LT (bL X scope N s H C fp cM) tcs))
  (hN:N.Nodup) (h0:N[0]? = some x) (hl:∀ (s:Shared) (H:Hp) (C:Addr) (fp:List Addr),(bL X scope N s H C fp cM).env.scope.names.lookup x=some .local) (s:Shared) (H:Hp) :
  mL X scope N (.Name x tp) ifs elt s H (cR 0) (LT (X.frm H) tcs) (LE (X.frm H) te):=
 ⟨fun C fp=>fA (X:=bL X scope N s H C fp cM) hN h0 (.inl (hl s H C fp)) (.inr (hl s H C fp)),fun C fp=>hi s H C fp,fun C fp=>he s H C fp⟩
theorem E4 {Y:Cx}:iU Y [] (LT Y gU):=fun pins s σ H Q I h=>oK pins s σ H Q I (ap7 h)
theorem uL (hi:QI X (.Name x tp) iter ti) (he:∀ (s:Shared) (H:Hp) (C:Addr) (fp:List Addr),QE (bL X scope N s H C fp cM) elt te)
  (hc:X.calm=true:=by rfl) (S:cV X scope N fr:=by exact cV.of rfl rfl) (hN:N.Nodup:=by decide +kernel) (h0:N[0]? = some x:=by rfl) (hl:∀ (s:Shared) (H:Hp) (C:Addr) (fp:List Addr),(bL X scope N s H C fp cM).env.scope.names.lookup x=some .local:=by intro _ _ _ _; rfl) (hf:fr[0]? = some none:=by rfl)
  (hs:∀ x,foldedSetIterable iter X.env x=pure x:=by intro _; rfl):QE X (.ListComp elt [⟨.Name x tp,iter,[],0⟩] scope pos) (eU ti fr (bZ 0) gU te):=
 bT (oN (gh:=fun _=>cR 0) (tch:=fun H=>LT (X.frm H) gU) (teh:=fun H=>LE (X.frm H) te) hc S hi (E3 he (fun _ _ _ _=>E4) hN h0 hl) hs) fun _ _ _=>pF (tX _ 0) (fun i e=>by subst e; exact hf)
theorem pU {c:Expr}{tcs:c8} (hi:QI X (.Name x tp) iter ti) (ht:∀ (s:Shared) (H:Hp) (C:Addr) (fp:List Addr),QT (bL X scope N s H C fp cM) c tcs) (he:∀ (s:Shared) (H:Hp) (C:Addr) (fp:List Addr),QE (bL X scope N s H C fp cM) elt te)
  (hc:X.calm=true:=by rfl) (S:cV X scope N fr:=by exact cV.of rfl rfl) (hN:N.Nodup:=by decide +kernel) (h0:N[0]? = some x:=by rfl) (hl:∀ (s:Shared) (H:Hp) (C:Addr) (fp:List Addr),(bL X scope N s H C fp cM).env.scope.names.lookup x=some .local:=by intro _ _ _ _; rfl) (hf:fr[0]? = some none:=by rfl)
  (hs:∀ x,foldedSetIterable iter X.env x=pure x:=by intro _; rfl):QE X (.ListComp elt [⟨.Name x tp,iter,[c],0⟩] scope pos) (eU ti fr (bZ 0) tcs te):=
 bT (oN (gh:=fun _=>cR 0) (tch:=fun H=>LT (X.frm H) tcs) (teh:=fun H=>LE (X.frm H) te) hc S hi (E3 he (fun s H C fp=>yM (ht s H C fp)) hN h0 hl) hs) fun _ _ _=>pF (tX _ 0) (fun i e=>by subst e; exact hf)
end
theorem as8 (i:Nat) {x:Str}{apos cpos xpos:Pos} (he:QE X e te) (hm:M1 X (.Name x xpos) "update" apos e cpos:=by exact⟨rfl,rfl,rfl,rfl⟩) (hN:X.N[i]? = some x:=by rfl) (hv:dX X.env.scope x:=by first | exact Or.inl rfl | exact Or.inr (Or.inl rfl) | exact Or.inr (Or.inr rfl)) (hd:(x == ("__debug__" : Str))=false:=by decide) (hcd:(x == ("__classdict__" : Str))=false:=by decide)
  (hsw:swapsWith (.Call (.Attribute (.Name x xpos) "update" apos) [e] [] cpos) none pos.line X.env=pure false:=by rfl):QS X (.Expr (.Call (.Attribute (.Name x xpos) "update" apos) [e] [] cpos) pos) (u6 i te):=
 dL (jG (al6 (fP hN hv hd hcd) he hm) hsw) fun _ _ _=>aq5
theorem E5 {i:Nat}{x:Str}{xpos tpos:Pos} (hk:QE X a tk) (he:QE X e te) (hN:X.N[i]? = some x:=by rfl) (hv:dX X.env.scope x:=by first | exact Or.inl rfl | exact Or.inr (Or.inl rfl) | exact Or.inr (Or.inr rfl)) (hd:(x == ("__debug__" : Str))=false:=by decide) (hcd:(x == ("__classdict__" : Str))=false:=by decide)
  (hp:∀ (tx:TE) (tg:TE),PE X (.Name x xpos) tx->PE X a tg->PG X (.Subscript (.Name x xpos) a tpos) (rN tx tg sK):=by intro _ _ h1 h2; exact Y9 h1 h2 ae0)
  (hs:swapsWithSole [.Subscript (.Name x xpos) a tpos] e pos.line X.env=pure false:=by rfl) (hw:swappedStores [.Subscript (.Name x xpos) a tpos] e X.env=pure none:=by rfl) :
  QS X (.Assign [.Subscript (.Name x xpos) a tpos] e pos) (mT i tk te):=dL (Z0 he (hp _ _ (fP hN hv hd hcd) hk) hs hw) fun _ _ _=>an8
end
end PP
namespace SO
open PySem PyProof.Rows
variable {rk : Keyed → Int}
structure SB (κ:SortKind) (a0:Array Keyed) (pd:Array (Nat × Nat × Nat)) (st:SortSt):Prop where
 pm:(arrOf st).Perm a0
 kd:kindOf st=κ
 ok:failedOf st=none
 pd:pendingOf st=pd
section
variable {κ : SortKind} {a0 : Array Keyed} {pd : Array (Nat × Nat × Nat)} {st : SortSt} {prog : Program} {w : World} {A : Around} {E : Value → Shared → Prop} {s : Shared} {Ok : Keyed → Prop}
abbrev DS:=Option (Option Nat) × Nat × Nat
end
def E6:Bool->Keyed->Array Keyed->Nat->Nat->Nat->StateT SortSt Sem (Option Nat):=sortPriv% PySem.Builtin.gallop
def as9:Nat->StateT SortSt Sem Unit:=sortPriv% PySem.Builtin.setMinGallop
abbrev LS:=Option (Array Keyed) × Array Keyed × Nat × Nat × Nat × Nat × Nat
abbrev LO:=Option (Array Keyed) × Array Keyed × Nat × Nat × Nat
variable {rk : Keyed → Int} {xs ys o : List Keyed} {i j : Nat}
abbrev LH:=Option (Array Keyed) × Nat × Nat × Array Keyed × Nat × Nat × Nat
def E7 (x y o:Array Keyed) (i j mg p q:Nat):StateT SortSt Sem (ForInStep LH):=do
 let v <- elem' x (i - 1)
 if (i - 1 == 0)=true then pure (.done (some (x.extract 0 (i - 1) ++ y.extract 0 j ++ (o.push v).reverse),i - 1,j,o.push v,mg,p,q))
 else if (decide (p < 7) && decide (q < 7))=true then pure (.done (none,i - 1,j,o.push v,mg,p,q)) else pure (.yield (none,i - 1,j,o.push v,mg,p,q))
def E8 (x y o:Array Keyed) (i j mg p q:Nat):StateT SortSt Sem (ForInStep LH):=do
 let v <- elem' y (j - 1)
 if (j - 1 == 1)=true then pure (.done (some (y.extract 0 (j - 1) ++ x.extract 0 i ++ (o.push v).reverse),i,j - 1,o.push v,mg,p,q)) else do
  let u <- elem' x (i - 1)
  match <- E6 true u y 0 (j - 1) (j - 1 - 1) with
  | some z=>
   if j - 1 - z > 0 then
    if (z == 1)=true then pure (.done (some (y.extract 0 z ++ x.extract 0 i ++ (o.push v ++ (y.extract z (j - 1)).reverse).reverse),i,z,o.push v ++ (y.extract z (j - 1)).reverse,mg,p,j - 1 - z))
    else if (z == 0)=true then pure (.done (some (x.extract 0 i ++ y.extract 0 z ++ (o.push v ++ (y.extract z (j - 1)).reverse).reverse),i,z,o.push v ++ (y.extract z (j - 1)).reverse,mg,p,j - 1 - z))
    else E7 x y (o.push v ++ (y.extract z (j - 1)).reverse) i z mg p (j - 1 - z)
   else E7 x y (o.push v) i (j - 1) mg p (j - 1 - z)
  | _=>pure (.done (some (x.extract 0 i ++ y.extract 0 (j - 1) ++ (o.push v).reverse),i,j - 1,o.push v,mg,p,q))
def E9 (x y o:Array Keyed) (i j mg p q:Nat):StateT SortSt Sem (ForInStep LH):=do
 as9 mg
 let v <- elem' y (j - 1)
 match <- E6 false v x 0 i (i - 1) with
 | some z=>
  if i - z > 0 then
   if (z == 0)=true then pure (.done (some (x.extract 0 z ++ y.extract 0 j ++ (o ++ (x.extract z i).reverse).reverse),z,j,o ++ (x.extract z i).reverse,mg,i - z,q))
   else E8 x y (o ++ (x.extract z i).reverse) z j mg (i - z) q
  else E8 x y o i j mg (i - z) q
 | _=>pure (.done (some (x.extract 0 i ++ y.extract 0 j ++ o.reverse),i,j,o,mg,p,q))
def uM (x y o:Array Keyed) (i j mg p q:Nat):StateT SortSt Sem LH:=forIn [0:x.size+y.size] ((none,i,j,o,mg,p,q):LH) fun _ r=>
 if r.2.2.2.2.1 > 1 then E9 x y r.2.2.2.1 r.2.1 r.2.2.1 (r.2.2.2.2.1 - 1) r.2.2.2.2.2.1 r.2.2.2.2.2.2 else E9 x y r.2.2.2.1 r.2.1 r.2.2.1 r.2.2.2.2.1 r.2.2.2.2.2.1 r.2.2.2.2.2.2
variable {rk : Keyed → Int} {xs ys o : List Keyed} {i j : Nat}
variable {rk : Keyed → Int}
def Ch:Nat->List (Nat × Nat)->Nat->Prop
 | a,[],b=>a=b
 | a,(p,n) :: r,b=>p=a/\0 < n/\Ch (a+n) r b
variable {rk : Keyed → Int} {κ : SortKind} {a0 : Array Keyed} {pd : Array (Nat × Nat × Nat)} {st : SortSt} {prog : Program} {w : World} {A : Around} {E : Value → Shared → Prop} {s : Shared} {Ok : Keyed → Prop}
end SO
namespace L2
open PySem PySem.Spec PyProof.Rows
theorem bP.at {P:Program}{w:World}{H:Hp}{h:Heap}{a:Addr}{o:HO} (x:bP P w H h a o):∃ ob,h.get? a=some ob:=by
 cases o with
 | lst xs=>obtain ⟨_,_,_,_,e⟩:=x; exact⟨_,e⟩
 | tup xs=>obtain ⟨_,_,_,_,e,_⟩:=x; exact⟨_,e⟩
 | dK kvs=>obtain ⟨_,_,_,_,_,_,_,e,_⟩:=x; exact⟨_,e⟩
 | dT kvs=>obtain ⟨_,_,_,_,_,_,_,e,_⟩:=x; exact⟨_,e⟩
 | set S n=>obtain ⟨_,_,_,_,e,_⟩:=x; exact⟨_,e⟩
 | ins C dx fs=>obtain ⟨_,_,_,e,_⟩:=x; exact⟨_,e⟩
 | own y=>exact x
 | xd fs=>obtain ⟨_,⟨_,_,_,e,_⟩,_⟩:=x; exact⟨_,e⟩
 | rng lo hi=>obtain ⟨_,_,_,e⟩:=x; exact⟨_,e⟩
 | frz ob u=>obtain ⟨e,_⟩:=x; exact⟨_,e⟩
 | tbl ps=>exact⟨_,x⟩
 | met f y=>exact⟨_,x⟩
 | ext φ=>exact x.2.1
structure kA (P:Program) (w:World) (outer:List Env) (H:Hp) (s:Shared) (H':Hp) (B:Heap) (a C:Addr) (s':Shared):Prop where
 os:s'.os=s.os
 bare:AllBare s'.gens
 un:Un (bI outer) [] H H' s.heap s'.heap
 hok:bN P w H' s'.heap
 fly:∃ a0,Heap.FlyingW B outer a (.ref C) a0 s'.heap
 b0:∀ b o,s.heap.get? b=some o->b ∉ bI outer->∃ o',B.get? b=some o'
 b1:∀ b o,s.heap.get? b=some o->H b=none->b ∉ bI outer->B.get? b=some o
 b2:∀ b u o,H' b=some u->s'.heap.get? b=some o->B.get? b=some o
def dE (P:Program) (w:World):fS:=fun outer H s E e s'=>∃ (H':Hp) (B:Heap) (a C:Addr),e = .ref a/\kA P w outer H s H' B a C s'/\E (.ref C) none H'
section
variable {P : Program} {w : World} {outer : List Env} {H H' : Hp} {s s' : Shared} {B h2 : Heap} {a C : Addr}
theorem kA.fresh (f:kA P w outer H s H' B a C s'):H' a=none:=by
 cases q:H' a with
 | none=>rfl
 | some u=>
  obtain ⟨ob,e⟩:=(f.hok a u q).at
  have z:=f.b2 a u ob q e
  obtain ⟨_,_,n,_⟩:=f.fly
  rw [n] at z; cases z
theorem kA.hok2 (f:kA P w outer H s H' B a C s') (k:B.StaysIn h2):bN P w H' h2:=fun b u e=>
 (f.hok b u e).stay (fun c v hc q=>by
  rcases hc with z | z
  ·subst z; exact k _ _ (f.b2 _ _ _ e q)
  ·exact k _ _ (f.b2 _ _ _ z q)) (fun _ q=>q) fun _ _ q=>q
end
section
variable {P : Program} {w : World} {K : PySem.W.Frag} {mg : Str → Option Value} {base : Heap} {N : List Str} {qual : Str} {scope : Scope} {f : Addr} {cd : Value} {A : Around} {outer : List Env} {s₀ : Shared} {H₀ : Hp} {E₀ E₁ : XK}
theorem pV {pins:List (Addr × Obj)}{σ:St}{H:Hp}{s:Shared} (I:a8 (cS (dE P w) P w K mg base N qual scope f cd A outer s₀ H₀ E₀) pins σ H s) {b:Addr}{o:Obj} (e:s₀.heap.get? b=some o) (n:b ∉ bI outer) :
  b ∉ bI (envOfC qual scope s₀.heap.objs.size f cd :: outer):=fun z=>by
 rcases aR2.mp (I.stkSub b z) with y | y
 ·have l:=aR8 e
  have y:b=s₀.heap.objs.size:=y
  exact absurd l (by rw [y]; exact aW1 _)
 ·exact n y
theorem at0 (hE:∀ c d H',E₁ c d H'->E₀ c d H'):mC (dE P w) (cS (dE P w) P w K mg base N qual scope f cd A outer s₀ H₀ E₀) E₁:=by
 intro pins σ H s e s' I hx
 obtain ⟨H',B,a,C,e1,fl,q⟩:=hx
 subst e1
 have I':=I.call' fl.os fl.un fl.hok fl.bare (ch:=[]) (fun b z=>absurd z (by simp))
 obtain ⟨a0,fly⟩:=fl.fly
 refine wpAny_leaves_onW I.ok.frames rfl fly fun h' fly' up=>?_
 have slot:∀ b o,s₀.heap.get? b=some o->b ∈ bI outer->∃ sl,h'.get? b=some { o with slots:=sl }:=fun b o e hb=>by
  obtain ⟨sl,e1⟩:=I'.base.slot b o e (I.ok.frf b hb) hb (fun z=>nomatch z)
  obtain ⟨_,o2,e2,nf⟩:=I.ok.funs.mem hb
  rw [show (cS (dE P w) P w K mg base N qual scope f cd A outer s₀ H₀ E₀).s₀=s₀ from rfl,e] at e2
  cases e2
  obtain ⟨sl',e3⟩:=up b _ e1 nf
  exact⟨sl',e3⟩
 have old:∀ b o,s₀.heap.get? b=some o->H₀ b=none->b ∉ bI outer->B.get? b=some o:=fun b o e n hb=>
  fl.b1 b o (I.base.keep b o e n hb (fun z=>nomatch z)) (I.base.free b o e n (fun z=>nomatch z)) (pV I e hb)
 have old0:∀ b o,s₀.heap.get? b=some o->b ∉ bI outer->∃ o',B.get? b=some o':=fun b o e hb=>by
  obtain ⟨o1,e1⟩:=I.base.there b o e (fun z=>nomatch z)
  exact fl.b0 b o1 e1 (pV I e hb)
 refine⟨H',B,a,C,rfl,⟨I'.os,I'.bare,⟨fun b o e n hb _=>fly'.1 _ _ (old b o e n hb),fun b o e n hb _=>slot b o e hb,fun b o e n hx=>I'.base.free b o e n hx,fun b o e _=>?_,I'.base.tups,I'.base.frzs,I'.base.tbls⟩,fl.hok2 fly'.1,⟨a0,fly'⟩,old0,old,fun b u o e h=>?_⟩,hE _ _ _ q⟩
 ·by_cases hb:b ∈ bI outer
  ·obtain ⟨sl,e1⟩:=slot b o e hb
   exact⟨_,e1⟩
  ·obtain ⟨o',e1⟩:=old0 b o e hb
   exact⟨o',fly'.1 _ _ e1⟩
 ·obtain ⟨ob,e1⟩:=(fl.hok b u e).at
  have e2:=fl.b2 b u ob e e1
  have e3:=fly'.1 _ _ e2
  have h:h'.get? b=some o:=h
  rw [h] at e3; cases e3; exact e2
theorem at2 {pins:List (Addr × Obj)}{σ:St}{H:Hp}{s:Shared}{h':Heap}{e C:Addr}{args:List Value} (I:a8 (cS (dE P w) P w K mg base N qual scope f cd A outer s₀ H₀ E₀) pins σ H s) (mx:Heap.MadeExcOf s.heap h' e (.ref C) args) (q:E₀ (.ref C) none H) :
  (cS (dE P w) P w K mg base N qual scope f cd A outer s₀ H₀ E₀).xe (.ref e) { s with heap:=h' }:=by
 have tr:∀ b u,H b=some u->b ∉ bI (envOfC qual scope s₀.heap.objs.size f cd :: outer):=fun b u z n=>by
  rw [I.stkFree b n] at z; cases z
 have inB:∀ b o,s.heap.get? b=some o->b ∉ bI (envOfC qual scope s₀.heap.objs.size f cd :: outer)->(PySem.W.hideAll s.heap (bI (envOfC qual scope s₀.heap.objs.size f cd :: outer))).get? b=some o:=fun b o z n=>PySem.W.hideAll_get _ z n
 refine wpAny_leaves_madeW (base:=PySem.W.hideAll s.heap (bI (envOfC qual scope s₀.heap.objs.size f cd :: outer))) I.ok.frames rfl (fun b o z=>PySem.W.of_hideAll _ z) (PySem.W.funFrames_hide I.stack fun env he b hb=>List.mem_filterMap.mpr ⟨env,he,hb⟩) mx fun h'' t fly _ _ up=>?_
 have slot:∀ b o,s₀.heap.get? b=some o->b ∈ bI outer->∃ sl,h''.get? b=some { o with slots:=sl }:=fun b o e hb=>by
  obtain ⟨sl,e1⟩:=I.base.slot b o e (I.ok.frf b hb) hb (fun z=>nomatch z)
  obtain ⟨_,o2,e2,nf⟩:=I.ok.funs.mem hb
  rw [show (cS (dE P w) P w K mg base N qual scope f cd A outer s₀ H₀ E₀).s₀=s₀ from rfl,e] at e2
  cases e2
  obtain ⟨sl',e3⟩:=up b _ (mx.keeps _ _ e1) nf
  exact⟨sl',e3⟩
 have old:∀ b o,s₀.heap.get? b=some o->H₀ b=none->b ∉ bI outer->(PySem.W.hideAll s.heap (bI (envOfC qual scope s₀.heap.objs.size f cd :: outer))).get? b=some o:=fun b o e n hb=>
  inB b o (I.base.keep b o e n hb (fun z=>nomatch z)) (pV I e hb)
 have old0:∀ b o,s₀.heap.get? b=some o->b ∉ bI outer->∃ o',(PySem.W.hideAll s.heap (bI (envOfC qual scope s₀.heap.objs.size f cd :: outer))).get? b=some o':=fun b o e hb=>by
  obtain ⟨o1,e1⟩:=I.base.there b o e (fun z=>nomatch z)
  exact⟨o1,inB b o1 e1 (pV I e hb)⟩
 refine⟨H,_,e,C,rfl,⟨I.os,I.bare,⟨fun b o e n hb _=>fly.1 _ _ (old b o e n hb),fun b o e n hb _=>slot b o e hb,fun b o e n hx=>I.base.free b o e n hx,fun b o e _=>?_,I.base.tups,I.base.frzs,I.base.tbls⟩,fun b u z=>?_,⟨_,fly⟩,old0,old,fun b u o z h=>?_⟩,q⟩
 ·by_cases hb:b ∈ bI outer
  ·obtain ⟨sl,e1⟩:=slot b o e hb
   exact⟨_,e1⟩
  ·obtain ⟨o',e1⟩:=old0 b o e hb
   exact⟨o',fly.1 _ _ e1⟩
 ·refine (I.hok b u z).stay (fun c v hc y=>?_) (fun _ y=>y) fun _ _ y=>y
  rcases hc with z' | z'
  ·subst z'; exact fly.1 _ _ (inB _ _ y (tr _ _ z))
  ·exact fly.1 _ _ (inB _ _ y (tr _ _ z'))
 ·obtain ⟨ob,e1⟩:=(I.hok b u z).at
  have e2:=inB b ob e1 (tr b u z)
  have e3:=fly.1 _ _ e2
  have h:h''.get? b=some o:=h
  rw [h] at e3; cases e3; exact e2
end
structure lE (X:Cx) (E:XK):Prop where
 pass:mC (dE X.prog X.w) X E
 made:∀ (pins:List (Addr × Obj)) (σ:St) (H:Hp) (s:Shared) (h':Heap) (e C:Addr) (args:List Value),a8 X pins σ H s->Heap.MadeExcOf s.heap h' e (.ref C) args->E (.ref C) none H->X.xe (.ref e) { s with heap:=h' }
 own:PassesOwn (model X.prog X.w) X.A X.env X.xe
theorem at5 {P:Program}{w:World}{K:PySem.W.Frag}{mg:Str->Option Value}{base:Heap}{N:List Str}{qual:Str}{scope:Scope}{f:Addr}{cd:Value}{A:Around}{outer:List Env}{s₀:Shared}{H₀:Hp}{E₀ E₁:XK} (hE:∀ c d H',E₁ c d H'->E₀ c d H') :
  lE (cS (dE P w) P w K mg base N qual scope f cd A outer s₀ H₀ E₀) E₁:=
 ⟨at0 hE,fun _ _ _ _ _ _ _ _ I mx q=>at2 I mx (hE _ _ _ q),PassesOwn.leaving⟩
def F0 (E:XK) (C:Addr) (t:TA):TS:=fun _ σ H=>t σ H fun vs H1=>vs.length<=sizeLine/\E (.ref C) none H1
theorem at6 {X:Cx}{E:XK}{x:Str}{C:Addr}{bm:List Value}{B newId initId:String}{np cpos pos:Pos}{e:Expr}{es:List Expr}{t:TA} (hX:lE X E) (hc:X.calm=true) (O:OwnCls x C bm newId X.mg X.base) (FB:ExcBaseFacts B newId initId bm) (ha:PA X (e :: es) t) (hg:Gl X x)
  (hd:(x == ("__debug__" : Str))=false:=by decide) (he:starEach (e :: es) X.env=(false,eval e X.env) :: starEach es X.env:=by rfl) (hpl:(backTo cpos (starEach es X.env)).any (·.1)=false:=by rfl) :
  PS X (.Raise (some (.Call (.Name x np) (e :: es) [] cpos)) none pos) (F0 E C t):=by
 intro pins s σ H D I h
 obtain ⟨tl,Na,nm,qn,bs,hx,sn,sub,ab,col,dd,k0,k1,k2,k3,k5,mN,hC,hN,hni,T⟩:=O.obj
 refine wpAny_Raise_call_subT (nm:=nm) (q:=qn) (N:=Na) (bs:=bs) (bm:=tl) (hdct:=hx) (sn:=sn) (sub:=sub) (ab:=ab) (col:=col) (dd:=dd) (k0:=k0) (k1:=k1) (k2:=k2) (k3:=k3) (k5:=k5) FB (C:=C) (mN:=mN) (T.hasType FB.hasBase) (I.ok.hd hc) (by rw [he]; show (false || (backTo cpos (starEach es X.env)).any (·.1))=false; rw [hpl]; rfl) hni (lY I hg O.bound ⟨rfl,?_⟩ hd)
 have h1:=ha cpos pins s σ H _ I h
 rw [he] at h1 ⊢
 refine Calls.evalArgs_plain (aX3 h1 (fun us s2 h2=>?_) fun _ _ y=>y)
 obtain ⟨vs,H2,I2,r,hl,q⟩:=h2
 have r:aK vs us:=r
 exact⟨rfl,by show us.length<=sizeLine; rw [<- r.length]; exact hl,I2.bk _ _ hC,hN.keeps I2.bk,T.keeps I2.bk,fun h' e' mx=>hX.made pins σ H2 s2 h' e' C _ I2 mx q⟩
theorem e9.okX {P:Program}{w:World}{K:PySem.W.Frag}{mg:Str->Option Value}{base:Heap}{x qual:Str}{st:Stmt}{f:Addr}{fd:FuncData}{N ps:List Str}{k:Nat}{sp:Sp} (F:e9 K x qual st f fd) (S:FnScope N ps (aT st)) (len:∀ vs H Q E,sp vs H Q E->vs.length=ps.length)
  (hbody:∀ (cdv:Value) (A:Around) (outer:List Env) (s:Shared) (H:Hp) (vs:List V) (Q:VK) (E:XK),bY k (A.deeper (envOfC qual (aT st) s.heap.objs.size f cdv))->sp vs H Q E->
   ∃ t,cY (cS (dE P w) P w K mg base N qual (aT st) f cdv A outer s H E) (dO st) t/\t { nx:=fun _ H'=>Q .non H',rt:=Q } (fT N vs) H):cL P w K mg base (dE P w) (k+1) f fd ps sp:=by
 obtain ⟨oc,od,kV,doc,pm,an,cdv,ct,osl,rfl,lk,hcd⟩:=F.ex
 exact xD lk hcd S len fun A outer s H vs Q E hr hsp=>hbody cdv A outer s H vs Q E hr hsp
section
variable {X : Cx} {pins : List (Addr × Obj)} {σ : St} {H H1 H' : Hp} {s s1 s' : Shared} {B h2 : Heap} {a C : Addr}
theorem F1 {oe:Obj} (I:a8 X pins σ H1 s1) (fl:kA X.prog X.w X.stack H1 s1 H' B a C s') (st:B.StaysIn h2) (up:s'.heap.UpToSlots h2) (he:h2.get? a=some oe) :
  a8 X pins σ (upd H' a (.frz oe (.own a))) { s' with heap:=h2 }:=by
 obtain ⟨a0,fly⟩:=fl.fly
 have na:B.get? a=none:=fly.2.1
 have nf:a ∉ bI X.stack:=fun z=>by
  obtain ⟨_,o,e,d⟩:=fly.2.2.1.mem z
  obtain ⟨o2,vs,e2,_,d2,_⟩:=fly.first
  rw [e] at e2; cases e2
  exact d vs d2
 have nb:∀ b o,s1.heap.get? b=some o->b ≠ a:=fun b o e z=>by
  subst z
  obtain ⟨o',e'⟩:=fl.b0 _ o e nf
  rw [na] at e'; cases e'
 have nt:∀ b u,H' b=some u->b ≠ a:=fun b u e z=>by
  subst z; rw [fl.fresh] at e; cases e
 have off:∀ b,b ≠ X.env.locals->b ∉ X.fs->b ∉ bI X.stack:=fun b n1 n2 z=>(aR2.mp (I.stkSub b z)).elim n1 n2
 have slot:∀ b o,s1.heap.get? b=some o->b ∈ bI X.stack->∃ sl,h2.get? b=some { o with slots:=sl }:=fun b o e hb=>by
  obtain ⟨sl,e1⟩:=fl.un.any e (I.stkFree b hb) (fun z=>nomatch z)
  obtain ⟨_,o2,e2,d⟩:=I.stack.mem hb
  rw [e] at e2; cases e2
  obtain ⟨sl',e3⟩:=up b _ e1 d
  exact⟨sl',e3⟩
 have ns:∀ m,s1.heap.Ns X.env.locals m->h2.Ns X.env.locals m:=fun m hm=>by
  obtain ⟨o,es,ep,e,r⟩:=hm
  obtain ⟨sl,e1⟩:=fl.un.any e I.free (fun z=>nomatch z)
  exact up.ns ⟨_,es,ep,e1,r⟩
 have hok:bN X.prog X.w (upd H' a (.frz oe (.own a))) h2:=fun b u e=>by
  by_cases hb:b=a
  ·subst hb; rw [b8] at e; cases e; exact⟨he,_,he⟩
  ·rw [aP hb] at e
   exact (fl.hok2 st b u e).stay (fun _ _ _ q=>q) (fun c q=>by rw [aP (nt c _ q)]; exact q) fun c xs q=>by rw [aP (nt c _ q)]; exact q
 have bare:=fl.bare
 have un:=fl.un
 have b0:=fl.b0
 have b1:=fl.b1
 have os:=fl.os
 clear fl fly up
 obtain ⟨hh,g,d,t,os'⟩:=s'
 obtain rfl:os'=s1.os:=os
 show a8 X pins σ _ { s1 with heap:=h2,gens:=g,drawn:=d,toks:=t }
 refine I.step (h':=h2) (g':=g) (d':=d) (t':=t) (ch:=[]) (fun _ z=>nomatch z) (fun b o n1 n2 _ e n=>st _ _ (b1 b o e n (off b n1 n2))) (fun b o n1 hb _ e n=>?_) (fun b o _ e n=>by rw [aP (nb b o e)]; exact un.free b o e n (fun z=>nomatch z)) (fun b o _ e=>?_)
  (fun b xs q=>by rw [aP (nt b _ (un.tups b xs q))]; exact un.tups b xs q) (fun b o u q=>by rw [aP (nt b _ (un.frzs b o u q))]; exact un.frzs b o u q) (fun b ps q=>by
   obtain ⟨more,q'⟩:=un.tbls b ps q
   exact⟨more,by rw [aP (nt b _ q')]; exact q'⟩) ns hok bare
 ·by_cases hs:b ∈ bI X.stack
  ·exact slot b o e hs
  ·exact⟨o.slots,st _ _ (b1 b o e n hs)⟩
 ·by_cases hb:b ∈ bI X.stack
  ·obtain ⟨sl,e1⟩:=slot b o e hb
   exact⟨_,e1⟩
  ·obtain ⟨o',e1⟩:=b0 b o e hb
   exact⟨o',st _ _ e1⟩
abbrev Cx.suite (X:Cx) (a:Addr):Cx:={ X with A:=X.A.mark (some (.ref a)),calm:=false,xe:=fun _ _=>False }
theorem Cx.Ok.suite {X:Cx} (ok:X.Ok) (a:Addr):(X.suite a).Ok:=
 ⟨ok.mod,ok.kind,ok.glob,ok.blt,ok.above,ok.inj,ok.has,ok.cab,fun z=>Bool.noConfusion z,ok.frames,ok.stk,ok.exf,ok.bs,ok.bsz,ok.noex,ok.exfs,ok.funs,ok.frf⟩
theorem a8.suite (I:a8 X pins σ H s) (a:Addr):a8 (X.suite a) pins σ H s:=⟨I.ok.suite a,I.os,I.bare,I.base,I.loc,I.cell,I.free,I.freeC,I.pin,I.hok,I.len⟩
theorem a8.unsuite (I:a8 (X.suite a) pins σ H s) (ok:X.Ok):a8 X pins σ H s:=⟨ok,I.os,I.bare,I.base,I.loc,I.cell,I.free,I.freeC,I.pin,I.hok,I.len⟩
theorem pW {M:Model}{A:Around}{E:Value->Shared->Prop}{i:Nat}{x:Str}{pos:Pos}{Q:Unit->Shared->Prop} (I:a8 X pins σ H s) (hN:X.N.Nodup) (hi:X.N[i]? = some x) (hk:X.env.scope.names.lookup x=some .local)
  (h:∀ s',a8 X pins (σ.set i none) H s'->Q () s'):wpAny M A (do bindName X.env x .none; unbindBehindTheSuite X.env x pos) Q E s:=by
 obtain ⟨m,hn,hl⟩:=id I.loc
 obtain ⟨oL,_,_,hoL,_⟩:=id hn
 have ab:∀ b o,X.s₀.heap.get? b=some o->b ≠ X.env.locals:=fun b o e=>aT3 (aR9 (aR8 e) I.ok.above)
 refine wpAny_nameGoes_keeps hk hn (by rw [I.ok.kind]; rfl) fun h' v hn' hs=>?_
 refine h _ ⟨I.ok,I.os,I.bare,⟨fun b o e n hb hx=>(hs.2 b (ab b o e)).trans (I.base.keep b o e n hb hx),fun b o e n hb hx=>?_,I.base.free,fun b o e hx=>?_,I.base.tups,I.base.frzs,I.base.tbls⟩,⟨_,hn',fun j y v' e1 e2 e3=>?_⟩,fun y c e=>?_,I.free,I.freeC,fun p hp=>?_,fun b u e=>?_,by simpa using I.len⟩
 ·obtain ⟨sl,e1⟩:=I.base.slot b o e n hb hx
  exact⟨sl,(hs.2 b (ab b o e)).trans e1⟩
 ·obtain ⟨o',e1⟩:=I.base.there b o e hx
  exact⟨o',(hs.2 b (ab b o e)).trans e1⟩
 ·by_cases hj:j=i
  ·subst hj
   have hjl:j < σ.length:=by rw [I.len]; exact (aR4.mp hi).1
   rw [aW7 hjl] at e2
   cases e2
  ·rw [aS7 (Ne.symm hj)] at e2
   obtain ⟨u',r',q⟩:=hl j y v' e1 e2 e3
   refine⟨u',r',?_⟩
   rcases q with ⟨k,e⟩ | ⟨k,c,e,z⟩
   ·have ny:y ≠ x:=fun z=>hj (rJ hN e1 (z ▸ hi))
    exact .inl ⟨k,by simp [ny,e]⟩
   ·exact .inr ⟨k,c,e,z.sameBut hs (I.cne y c e)⟩
 ·obtain ⟨w',z⟩:=I.cell y c e
  exact⟨w',z.sameBut hs (I.cne y c e)⟩
 ·obtain ⟨e,n,ne,nf,d⟩:=I.pin p hp
  exact⟨(hs.2 p.1 ne).trans e,n,ne,nf,d⟩
 ·refine (I.hok b u e).stay (fun c v hc q=>(hs.2 c fun z=>?_).trans q) (fun _ q=>q) fun _ _ q=>q
  subst z
  rcases hc with z | z
  ·subst z; rw [I.free] at e; cases e
  ·rw [I.free] at z; cases z
theorem at7 {M:Model}{A:Around}{E:Value->Shared->Prop}{K:PySem.W.Frag}{e C D:Addr}{oe:Obj}{Q:Bool->Shared->Prop} (k:K.In s.heap) (he:s.heap.get? e=some oe) (hc:oe.cls = .ref C) (h1:(PySem.W.clsIn K D).isSome=true) (h2:PySem.W.typeIn K (.ref D)=some (.type "type"))
  (h3:PySem.W.subIn K (.ref D) (.type "BaseException")=some true) (h4:PySem.W.subIn K (.ref C) (.ref D)=some true) (hq:Q true s):wpAny M A (excMatches (.ref e) (.ref D)) Q E s:=by
 obtain ⟨h,g,d,t,os⟩:=s
 have k:K.In h:=k
 have he:h.get? e=some oe:=he
 have l1:PySem.W.Looks M h (isType (.ref D)) true:=by
  unfold PySem.W.clsIn at h1
  split at h1
  ·rename_i c' d' cd' sl' ho
   intro A' Q' E' s' kk q
   unfold isType loadHead
   exact aQ5 (wpAny_loadPart (kk _ _ (k _ _ ho)) (aQ9 q))
  ·cases h1
 have l2:PySem.W.Looks M h (typeOf (.ref D)) (.type "type"):=PySem.W.looks_typeIn k h2
 have l3:PySem.W.Looks M h (isSubtype (.ref D) (.type "BaseException")) true:=PySem.W.looks_subIn k h3
 have l4:PySem.W.Looks M h (isSubtype (.ref C) (.ref D)) true:=PySem.W.looks_subIn k h4
 have l5:PySem.W.Looks M h (typeOf (.ref e)) (.ref C):=hc ▸ (PySem.W.Looks.ld he).andThen .now
 have l6:PySem.W.Looks M h (isInstance (.ref D) (.type "tuple")) false:=l2.andThen (PySem.W.Looks.of_pure tc_notTuple)
 have l7:PySem.W.Looks M h (isExcClass (.ref D)) true:=by
  unfold isExcClass
  exact l1.andThen (by simpa using l3)
 have f:=tc_notTuple
 unfold excMatches
 repeat (first | exact hq | (with_reducible refine l2.at ?_) | (with_reducible refine l7.at ?_) | (with_reducible refine l1.at ?_) | (with_reducible refine l3.at ?_) | (with_reducible refine l5.at ?_) | (with_reducible refine l4.at ?_) | wp_step)
end
def uN (D:cE) (i:Nat):cE:={ nx:=fun σ H=>D.nx (σ.set i none) H,rt:=D.rt,bk:=fun σ H=>D.bk (σ.set i none) H,ct:=fun σ H=>D.ct (σ.set i none) H }
section
variable {X : Cx} {pins : List (Addr × Obj)} {σ : St} {H H1 H' : Hp} {s s1 s' : Shared} {B : Heap} {a C Ch : Addr} {i : Nat} {x n : Str} {np pos hpos : Pos} {b₀ : Stmt} {suite : List Stmt} {ts : TS} {D : cE} {cQ : List ExceptHandler}
structure uO (K:PySem.W.Frag) (Ch:Addr):Prop where
 c1:(PySem.W.clsIn K Ch).isSome=true
 c2:PySem.W.typeIn K (.ref Ch)=some (.type "type")
 c3:PySem.W.subIn K (.ref Ch) (.type "BaseException")=some true
theorem at8 (I:a8 X pins σ H1 s1) (fl:kA X.prog X.w X.stack H1 s1 H' B a C s') (hstk:X.stack=X.env :: X.outer/\X.env.frame=some X.env.locals) (hg:Gl X x) (hm:X.mg x=some (.ref Ch)) (ct:uO X.K Ch) (sub:PySem.W.subIn X.K (.ref C) (.ref Ch)=some true)
  (hN:X.N.Nodup) (hi:X.N[i]? = some n) (hl:X.env.scope.names.lookup n=some .local) (hs:cY (X.suite a) (b₀ :: suite) ts) (q:∀ oe:Obj,oe.cls = .ref C->ts (uN D i) (σ.set i (some (.ref a))) (upd H' a (.frz oe (.own a)))) (hd:(x == ("__debug__" : Str))=false) :
  wpAny (model X.prog X.w) X.A (noteFrame (.ref a) X.env) (fun _ s₂=>wpAny (model X.prog X.w) X.A (setFlight (.ref a) none) (fun _ s₃=>wpAny (model X.prog X.w) X.A (handleBy (.ref a) X.env (.ExceptHandler (some (.Name x np)) (some n) (b₀ :: suite) hpos :: cQ)) (SP X pins D) X.xe s₃) X.xe s₂) X.xe s':=by
 obtain ⟨a0,fly⟩:=fl.fly
 rw [hstk.1] at fly
 refine wpAny_looks_onW (outer:=X.outer) (L:=X.env.locals) (by rw [I.ok.frames,hstk.1]) hstk.2 fly fun h4 held up4=>wpAny_landsW held fun h5 fly5 up5=>?_
 obtain ⟨o5,v5,e5,c5,_⟩:=fly5.first
 have I5:=F1 I fl fly5.1 (up4.trans up5) e5
 refine wpAny_handleBy_cons (codeAny_handlers_test (lY (I5.suite a) hg hm ?_ hd)) (by intro z; cases z)
 refine at7 I5.kIn e5 c5 ct.c1 ct.c2 ct.c3 sub ?_
 show codeAny (model X.prog X.w) (X.A.mark (some (.ref a))) (.handlers (.ref a) [.ExceptHandler none (some n) (b₀ :: suite) hpos] X.env) _ _
 refine codeAny_handlers_suite_as (lands_againW fly5 fun h6 fly6 up6=>?_)
 obtain ⟨o6,v6,e6,c6,_⟩:=fly6.first
 have I6:=F1 I fl fly6.1 ((up4.trans up5).trans up6) e6
 refine rK I6 hN hi (.inl hl) (v:=.ref a) rfl (fun s7 I7=>?_) (.inr hl)
 refine aX3 (hs pins s7 _ _ (uN D i) (I7.suite a) (q o6 c6)) (fun f s8 h8=>?_) fun _ _ z=>z.elim
 show wpAny (model X.prog X.w) X.A (do bindName X.env n .none; unbindBehindTheSuite X.env n hpos) (fun _ s9=>SP X pins D f s9) X.xe s8
 cases f with
 | next=>obtain ⟨σ',H',J,q⟩:=h8; exact pW (J.unsuite I.ok) hN hi hl fun s9 J9=>⟨_,_,J9,q⟩
 | brk=>obtain ⟨σ',H',J,q⟩:=h8; exact pW (J.unsuite I.ok) hN hi hl fun s9 J9=>⟨_,_,J9,q⟩
 | cont=>obtain ⟨σ',H',J,q⟩:=h8; exact pW (J.unsuite I.ok) hN hi hl fun s9 J9=>⟨_,_,J9,q⟩
 | ret u=>obtain ⟨v,σ',H',J,r,q⟩:=h8; exact pW (J.unsuite I.ok) hN hi hl fun s9 J9=>⟨v,_,_,J9,r,q⟩
end
abbrev TB:=cE->XK->St->Hp->Prop
def XB (X:Cx) (pins:List (Addr × Obj)) (σ:St) (Ex:XK):Value->Shared->Prop:=fun e s'=>∃ H1 s1,a8 X pins σ H1 s1/\dE X.prog X.w X.stack H1 s1 Ex e s'
def PB (X:Cx) (sts:List Stmt) (t:TB):Prop:=
 ∀ (pins:List (Addr × Obj)) (s:Shared) (σ:St) (H:Hp) (D:cE) (Ex:XK),a8 X pins σ H s->t D Ex σ H->wpAny (model X.prog X.w) X.A (execs sts X.env) (SP X pins D) (XB X pins σ Ex) s
def at9 (sp:Sp) (t:TA):TB:=fun D Ex σ H=>t σ H fun vs H1=>sp vs H1 (fun _ H2=>D.nx σ H2) Ex
def au0 (c:TT) (t u:TB):TB:=fun D Ex σ H=>c σ H fun b H1=>if b=true then t D Ex σ H1 else u D Ex σ H1
section
variable {X : Cx} {k : Nat} {f Ch : Addr} {fd : FuncData} {ps : List Str} {sp : Sp} {x n : Str} {p cp pos np hpos : Pos} {e c : Expr} {es : List Expr} {t : TA} {tb ub : TB} {tc : TT} {sa sb body : List Stmt} {i : Nat} {b₀ : Stmt} {suite : List Stmt} {ts : TS}
theorem au1 (F:cL X.prog X.w X.K X.mg X.base (dE X.prog X.w) k f fd ps sp) (hr:bY k X.A) (hg:Gl X x) (hm:X.mg x=some (.ref f)) (hk:PySem.W.keepIn X.K (.ref f)=true) (hb:gR X.K fd ps []) (ha:∀ E,PA (X.wish E) (e :: es) t)
  (hdb:(x == ("__debug__" : Str))=false:=by decide) (he:starEach (e :: es) X.env=(false,eval e X.env) :: starEach es X.env:=by rfl) (hpl:(backTo cp (starEach es X.env)).any (·.1)=false:=by rfl) (hsw:swapsWith (.Call (.Name x p) (e :: es) [] cp) none pos.line X.env=pure false:=by rfl) :
  PB X [.Expr (.Call (.Name x p) (e :: es) [] cp) pos] (at9 sp t):=by
 intro pins s σ H D Ex I h
 refine wpAny_execs_cons (wpAny_Expr_any ?_ I.quiet hsw)
 refine wpAny_Call_Name_kw (lY I hg hm ?_ hdb)
 refine PySem.W.callWith_K (h₀:=X.base) I.ok.mod.kin hk (aL (ha (XB X pins σ Ex) cp pins s σ H _ (I.wish _) h) fun us s1 h1=>⟨?_,?_⟩) he hpl
 ·obtain ⟨_,_,I1,_⟩:=h1
  exact I1.kIn
 ·obtain ⟨vs,H1,I1,r,q⟩:=h1
  have I1:=I1.unwish
  have hl:us.length=ps.length:=by rw [<- r.length]; exact F.len _ _ _ _ q
  have bd:=hb s1 us I1.kIn (by rw [aV4]; exact hl)
  rw [aV4] at bd
  refine wpAny_call (codeAny_mono (F.run X.A X.stack s1 H1 ⟨us,[]⟩ us vs _ Ex hr I1.env0 bd r q) fun rs s' hq=>?_)
  cases rs with
  | error ev=>exact⟨H1,s1,I1,hq⟩
  | ok fl=>
   cases fl with
   | ret u=>
    obtain ⟨v,H2,I2,_,q2⟩:=I1.after hq
    exact bc8 ⟨σ,H2,I2,q2⟩
   | next=>exact False.elim hq
   | brk=>exact False.elim hq
   | cont=>exact False.elim hq
theorem au2 (hc:∀ E,PT (X.wish E) c tc) (ha:PB X sa tb) (hb:PB X sb ub):PB X [.If c sa sb pos] (au0 tc tb ub):=by
 intro pins s σ H D Ex I h
 refine wpAny_execs_cons (wpAny_If (aL (hc (XB X pins σ Ex) pins s σ H _ (I.wish _) h) fun d s1 h1=>?_))
 obtain ⟨H1,I1,q1⟩:=h1
 have I1:=I1.unwish
 have fin:∀ (fl:Flow) (s2:Shared),SP X pins D fl s2->(match fl with | .next=>wpAny (model X.prog X.w) X.A (execs [] X.env) (SP X pins D) (XB X pins σ Ex) s2 | fl=>SP X pins D fl s2):=fun fl s2 q=>by
  cases fl with
  | next=>exact bc8 q
  | _=>exact q
 cases d with
 | true=>exact aL (ha pins s1 σ H1 D Ex I1 q1) fin
 | false=>exact aL (hb pins s1 σ H1 D Ex I1 q1) fin
def F3 (K:PySem.W.Frag) (Ch:Addr) (i:Nat) (tb:TB) (ts:TS):TS:=fun D σ H=>
 tb D (fun c _ H'=>∀ (a C:Addr) (oe:Obj),c = .ref C->H' a=none->oe.cls = .ref C->PySem.W.subIn K (.ref C) (.ref Ch)=some true/\ts (uN D i) (σ.set i (some (.ref a))) (upd H' a (.frz oe (.own a)))) σ H
theorem au3 (hstk:X.stack=X.env :: X.outer/\X.env.frame=some X.env.locals) (hb:PB X body tb) (hg:Gl X x) (hm:X.mg x=some (.ref Ch)) (ct:uO X.K Ch) (hN:X.N.Nodup) (hi:X.N[i]? = some n) (hl:X.env.scope.names.lookup n=some .local) (hs:∀ a,cY (X.suite a) (b₀ :: suite) ts)
  (hd:(x == ("__debug__" : Str))=false:=by decide):PS X (.Try body [.ExceptHandler (some (.Name x np)) (some n) (b₀ :: suite) hpos] [] [] pos) (F3 X.K Ch i tb ts):=by
 intro pins s σ H D I h
 refine wpAny_Try_except (aX3 (hb pins s σ H D _ I h) (fun fl s1 q=>?_) (fun ev s1 q=>?_))
 ·cases fl with
  | next=>exact bc8 q
  | _=>exact q
 ·obtain ⟨H1,s2,I1,H',B,a,C,e1,fl,q⟩:=q
  subst e1
  obtain ⟨a0,fly⟩:=fl.fly
  obtain ⟨o5,_,_,c5,_⟩:=fly.first
  exact at8 I1 fl hstk hg hm ct (q a C o5 rfl fl.fresh c5).1 hN hi hl (hs a) (fun oe hc=>(q a C oe rfl fl.fresh hc).2) hd
end
end L2
namespace L2
open PySem PySem.Spec PyProof.Rows PySem.Calls Builtin Builtin.ObjectAttr Builtin.Getset_descriptor
structure gX (K:PySem.W.Frag) (D:Addr):Prop where
 cls:(PySem.W.clsIn K D).isSome=true
 ga:PySem.W.findIn K (.ref D) "__getattribute__" = some (some (.builtin "BaseException.__getattribute__"))
 gt:PySem.W.findIn K (.ref D) "__getattr__" = some none
 fc:PySem.W.findIn K (.ref D) "__class__" = some (some (.builtin "object.__class__"))
 fg:PySem.W.specialIn K (.builtin "object.__class__") "__get__" = some (some (.builtin "getset_descriptor.__get__"))
 ft:PySem.W.takesIn K (.builtin "object.__class__")=some true
 ob:PySem.W.mroIn K D (.type "object")=some true
 be:PySem.W.mroIn K D (.type "BaseException")=some true
def j9 (h:Heap) (x D:Addr):Prop:=∃ ox:Obj,h.get? x=some ox/\ox.cls = .ref D
theorem j9.type {h:Heap}{x D:Addr}{M:Model} (I:j9 h x D):PySem.W.Looks M h (typeOf (.ref x)) (.ref D):=by
 obtain ⟨ox,e,c⟩:=I
 exact c ▸ (PySem.W.Looks.ld e).andThen .now
section
variable {prog : Program} {w : World} {A : Around} {E : Value → Shared → Prop} {K : PySem.W.Frag} {x D : Addr} {h : Heap} {g : Array GenState} {d : Drawn} {t : Nat} {os : OsState}
theorem au4 {M:Model} (F:gX K D) (k:K.In h):PySem.W.Looks M h (find (.ref x) (.ref D) "__class__") (.bind (.builtin "getset_descriptor.__get__") (.builtin "object.__class__")):=by
 have L1:=PySem.W.looks_findIn (M:=M) k F.fc
 have L2:=PySem.W.looks_specialIn (M:=M) k F.fg
 have L3:=PySem.W.looks_takesIn (M:=M) k F.ft
 unfold find
 refine L1.andThen (PySem.W.Looks.andThen (a:=some (Value.builtin "getset_descriptor.__get__")) L2 ?_)
 refine PySem.W.Looks.andThen (a:=some (Value.builtin "getset_descriptor.__get__",Value.builtin "object.__class__")) ?_ (PySem.W.Looks.tag .now)
 unfold dataDescriptor?
 exact L3.andThen .now
theorem au5 {tp:Value}{R:Result->Shared->Prop} (F:gX K D) (k:K.In h) (I:j9 h x D) (hq:R (.ok (.ret (.ref D))) ⟨h,g,d,t,os⟩):codeAny (model prog w) A (.call (.builtin "getset_descriptor.__get__") ⟨[.builtin "object.__class__",.ref x,tp],[]⟩) R ⟨h,g,d,t,os⟩:=by
 have L0:=I.type (M:=model prog w)
 have L1:=PySem.W.looks_mroIn (M:=model prog w) k F.ob
 refine codeAny_call_builtin PySem.W.KF.slot_gs.plain PySem.W.KF.entry_gs (PySem.W.KF.slot_gs.check _ _ _ _ _ _ _ _ PySem.W.KF.type_class (PySem.W.KF.args_gs _ _ _) ?_)
 unfold Builtin.«getset_descriptor.__get__» descrGet; rw [PySem.W.dga_obj]
 refine aQ5 (aQ9 ?_); unfold descrGetter descrCheckInstance descrNameAndClass isInstance
 simp only [PySem.W.KF.owner_class]
 repeat lk
 refine⟨Code.quiet_builtin _ (by decide +kernel),codeAny_builtin PySem.W.KF.entry_class ?_⟩; unfold Builtin.«object.__class__» shownTypeOf
 repeat lk
 exact hq
theorem au6 {M:Model}{nameV:Value}{Q:Unit->Shared->Prop} (F:gX K D) (k:K.In h) (I:j9 h x D) (hq:Q () ⟨h,g,d,t,os⟩):wpAny M A (checkBuiltinCall "BaseException.__getattribute__" ⟨[.ref x,nameV],[]⟩) Q E ⟨h,g,d,t,os⟩:=by
 have kd:builtinKind "BaseException.__getattribute__" = some .slot:=by decide +kernel
 have sp:splitId "BaseException.__getattribute__" = some ("BaseException","__getattribute__"):=by decide +kernel
 have L:PySem.W.Looks M h (isInstance (.ref x) (.type "BaseException")) true:=(I.type (M:=M)).andThen (PySem.W.looks_mroIn k F.be)
 have ha:=PySem.F.args_bexc_ga (.ref x) nameV
 simp only [checkBuiltinCall,kd,sp]
 refine aQ5 (L.at ?_)
 repeat (any_goals (first | assumption | wp_step))
theorem au7 {tk:Tok}{Q:Fin->Shared->Prop} (F:gX K D) (k:K.In h) (I:j9 h x D) (hq:Q (.done (.ret (.ref D))) ⟨h,g,d,t,os⟩):wpAny (model prog w) A (Builtin.«object.__getattribute__» ⟨[.ref x,.str "__class__" tk],[]⟩) Q E ⟨h,g,d,t,os⟩:=by
 have L0:=I.type (M:=model prog w)
 have L1:=au4 (M:=model prog w) F k (x:=x)
 refine aQ5 (aQ9 (aQ5 (aQ9 (aQ5 (L0.at (aQ5 (L1.at ?_)))))))
 show wpAny _ _ (holding [_] (call _ _) >>= ret) _ _ _
 exact aQ5 (aY5 (wpAny_call (au5 F k I (aQ9 hq))))
theorem au8 {tk:Tok}{R:Result->Shared->Prop} (F:gX K D) (k:K.In h) (I:j9 h x D) (hq:R (.ok (.ret (.ref D))) ⟨h,g,d,t,os⟩):codeAny (model prog w) A (.call (.builtin "BaseException.__getattribute__") ⟨[.ref x,.str "__class__" tk],[]⟩) R ⟨h,g,d,t,os⟩:=
 codeAny_call_builtin PySem.F.excAttr_ValueError.ga.plain PySem.F.entry_bexc_ga (au6 F k I (au7 F k I hq))
theorem au9 {Q:Option Value->Shared->Prop} (F:gX K D) (k:K.In h) (I:j9 h x D) (hq:Q (some (.ref D)) ⟨h,g,d,t+1,os⟩):wpAny (model prog w) A (getAttr? (.ref x) "__class__") Q E ⟨h,g,d,t,os⟩:=by
 have L0:=I.type (M:=model prog w)
 have L1:=PySem.W.looks_findIn (M:=model prog w) k F.ga
 have L2:=PySem.W.looks_findIn (M:=model prog w) k F.gt
 have f3:=PySem.F.excAttr_ValueError.ga.bind (.ref x)
 unfold getAttr? getAttrBy? getAttrBy
 refine aQ5 (wpAny_mkText (aQ5 (wpAny_attempt (aY5 (aQ5 (L0.at (aQ5 (L1.at ?_))))))))
 have nx:(onTheHeap (Value.ref D) && Value.builtin "BaseException.__getattribute__" == Value.builtin "object.__getattribute__")=false:=by
  rw [show (Value.builtin "BaseException.__getattribute__" == Value.builtin "object.__getattribute__")=false by decide +kernel,Bool.and_false]
 dsimp only
 rw [if_neg (by rw [nx]; decide)]
 unfold getAttrByItsOwn hookBefore
 repeat (any_goals (first | assumption | (with_reducible refine L2.at ?_) | wp_step))
 exact au8 F k I (PySem.W.handed_on rfl (aQ9 hq))
end
theorem av0 {K:PySem.W.Frag}{x D:Addr} (F:gX K D):PySem.W.KitX K (.ref x) (.ref D) (fun h=>j9 h x D) where
 ty:=fun _ _ _ I=>I.type
 it:=fun M h k _=>by
  have z:=F.cls
  unfold PySem.W.clsIn at z
  split at z
  ·rename_i c' d' cd' sl' ho
   intro A' Q' E' s' kk q
   unfold isType loadHead
   exact aQ5 (wpAny_loadPart (kk _ _ (k _ _ ho)) (aQ9 q))
  ·cases z
 ne:=fun h tp dd its n sl k htp=>by
  have z:=F.cls
  refine ba3.mpr fun q=>?_
  obtain rfl:D=tp:=Value.ref.inj (beq_iff_eq.mp q)
  unfold PySem.W.clsIn at z
  split at z
  ·rename_i ho
   have y:=(k _ _ ho).symm.trans htp
   cases y
  ·cases z
 ca:=fun {_ _ _ _ _ s} k I q=>by
  obtain ⟨h,g,d,t,os⟩:=s
  exact au9 F k I q
end L2
namespace L2
open PySem PySem.Spec PyProof.Rows
section
variable {X : Cx}
def F4:V->List V->Hp->VK->Prop:=fun x vs H Q=>∃ l xs y,∃ k:Nat,x = .ref l/\vs = [.int k,y]/\H l=some (.lst xs)/\k<=xs.length/\xs.length < sizeLine/\Q .non (upd H l (.lst (xs.take k ++ y :: xs.drop k)))
theorem av1:oE X "list.insert" F4:=by
 intro pins s σ H x vs v us Q I rx rv h
 obtain ⟨l,xs,y,k,rfl,rfl,hH,hk,hz,q⟩:=h
 obtain ⟨u1,u2,rfl,⟨t,rfl⟩,r2⟩:=rv.two
 obtain rfl:v=Value.ref l:=rx
 obtain ⟨z,its,n,r,hl,e⟩:=I.lstM hH
 have hs:sizeLine=16777216:=sizeLine_eq
 obtain ⟨x,hx⟩:∃ x:Int,x=(k:Int):=⟨_,rfl⟩
 rw [<- hx]
 have hf : ¬(!Builtin.List.listFitsIndex x)=true:=by
  have h1:Builtin.List.listFitsIndex x=true:=by
   unfold Builtin.List.listFitsIndex
   rw [aV2]
   exact⟨aS3 (by omega),aS3 (by omega)⟩
  rw [h1]; exact aS6
 have hz2:its.toArray.size<=sizeLine:=by rw [aQ8]; omega
 refine call_meets PySem.F.slot_list_insert ⟨_,e,rfl⟩ PySem.F.entry_list_insert (PySem.F.args_list_insert_3 _ _ _) (AutoSeq1.list_insert_list_int_val_1 l its.toArray n x t u2 hf hz2) ⟨e,.non,_,?_,rfl,q⟩
 refine I.lset (its':=its.take k ++ u2 :: its.drop k) hH e ?_ ((r.take k).append (.cons r2 (r.drop k))) ?_
 ·have e1:(if x < 0 then (x+(its.toArray.size:Int)).toNat else min x.toNat its.toArray.size)=k:=by
   rw [if_neg (by omega),aQ8]
   omega
  dsimp only
  rw [e1]
  apply Array.toList_inj.mp
  simp only [Array.toList_append,Array.toList_push,Array.toList_extract,List.extract_eq_drop_take]
  simp
  rw [List.take_of_length_le (by rw [aU6]; omega)]
 ·rw [aR3,aT9,aU5,aU6]
  omega
end
end L2
namespace Core
open PySem L2 PP
def fZ (ns:List Int):Bool:=((ns.zip (ns.drop 1)).map fun p=>decide (p.1 < p.2)).all id
theorem nJ {α β:Type}{l:List α}{f:α->β}{i:Nat}{x:α} (h:l[i]? = some x):(l.take (i+1)).map f=(l.take i).map f ++ [f x]:=by
 rw [ba6,h]; simp
theorem lF:∀ {ns:List Int},fZ ns=true->ns.Pairwise (· < ·)
 | [],_=>.nil
 | [x],_=>aW0 _ _
 | x :: y :: r,h=>by
  have e:fZ (x :: y :: r)=(decide (x < y) && fZ (y :: r)):=rfl
  rw [e,aV2] at h
  have ih:=lF h.2
  refine List.pairwise_cons.mpr ⟨fun z hz=>?_,ih⟩
  rcases aR2.mp hz with rfl | hz
  ·exact of_decide_eq_true h.1
  ·exact Int.lt_trans (of_decide_eq_true h.1) (List.rel_of_pairwise_cons ih hz)
theorem F5:∀ {ns:List Int},ns.Pairwise (· < ·)->fZ ns=true
 | [],_=>rfl
 | [x],_=>rfl
 | x :: y :: r,h=>by
  have e:fZ (x :: y :: r)=(decide (x < y) && fZ (y :: r)):=rfl
  have h':=List.pairwise_cons.mp h
  rw [e,F5 h'.2,Bool.and_true]
  exact aS3 (h'.1 y aS0)
def kin (ws:List Int) (ls:List (Int × Int)) (S:List Int) (h:Int):Bool:=!decide (h ∈ S) && decide (ws.getD h.toNat 0<=(((cC ls h).filter fun x=>decide (x ∈ S)).length:Int))
def nextOf (ws:List Int) (ls:List (Int × Int)) (S:List Int):List Int:=((List.range ws.length).map fun (i:Nat)=>(i:Int)).filter (kin ws ls S)
def bD (ws:List Int) (ls:List (Int × Int)) (S:List Int):Nat->List Int
 | 0=>S
 | k+1=>bD ws ls S k ++ nextOf ws ls (bD ws ls S k)
def eI (ws:List Int) (S:List Int):Nat:=(((List.range ws.length).map fun (i:Nat)=>(i:Int)).filter fun x=>!decide (x ∈ S)).length
theorem uP {α:Type} (p q:α->Bool) (h:∀ x,q x=true->p x=false):∀ L:List α,(L.filter fun x=>!p x && !q x).length+(L.filter q).length=(L.filter fun x=>!p x).length
 | []=>rfl
 | x :: r=>by
  have ih:=uP p q h r
  cases e1:p x with
  | true=>
   have e2:q x=false:=by
    cases e:q x with
    | false=>rfl
    | true=>have:=h x e; rw [e1] at this; cases this
   simp only [List.filter_cons,e1,e2,Bool.not_true,Bool.false_and,aS9,aX8]
   exact ih
  | false=>
   cases e2:q x with
   | true=>
    simp only [List.filter_cons,e1,e2,Bool.not_true,Bool.not_false,Bool.and_false,aS9,aX8,if_true,aT9]
    omega
   | false=>
    simp only [List.filter_cons,e1,e2,Bool.not_false,Bool.and_true,aS9,aX8,if_true,aT9]
    omega
theorem uQ {ws:List Int}{ls:List (Int × Int)}{S:List Int}{x:Int} (h:kin ws ls S x=true):decide (x ∈ S)=false:=by
 unfold kin at h
 cases e:decide (x ∈ S) with
 | false=>rfl
 | true=>rw [e] at h; cases h
theorem uR (ws:List Int) (ls:List (Int × Int)) (S:List Int):eI ws (S ++ nextOf ws ls S)+(nextOf ws ls S).length=eI ws S:=by
 have e:=uP (fun x=>decide (x ∈ S)) (kin ws ls S) (fun x h=>uQ h) ((List.range ws.length).map fun (i:Nat)=>(i:Int))
 unfold eI
 rw [<- e]
 congr 2
 refine List.filter_congr fun x hx=>?_
 have:decide (x ∈ S ++ nextOf ws ls S)=(decide (x ∈ S) || kin ws ls S x):=by
  rw [aY6]
  unfold nextOf
  simp only [bb6,aU2,List.mem_filter,Bool.or_eq_true]
  exact⟨fun z=>z.elim .inl fun z=>.inr z.2,fun z=>z.elim .inl fun z=>.inr ⟨hx,z⟩⟩
 rw [this]
 cases decide (x ∈ S) <;> cases kin ws ls S x <;> rfl
theorem av2 (ws:List Int) (S:List Int):eI ws S<=ws.length:=by
 unfold eI
 refine aT4 (List.length_filter_le _ _) ?_
 rw [aR1,ba5]; exact aR0 _
theorem av3 (ws:List Int) (ls:List (Int × Int)) (S:List Int):(nextOf ws ls S).length<=ws.length:=by
 unfold nextOf
 refine aT4 (List.length_filter_le _ _) ?_
 rw [aR1,ba5]; exact aR0 _
def after (ws:List Int) (ls:List (Int × Int)) (S:List Int) (m:Nat):List (List Int):=(List.range m).map fun k=>nextOf ws ls (bD ws ls S k)
theorem F6 (ws:List Int) (ls:List (Int × Int)) (S:List Int) (m:Nat):after ws ls S (m+1)=after ws ls S m ++ [nextOf ws ls (bD ws ls S m)]:=by
 unfold after
 rw [List.range_succ,aT8]; rfl
theorem F7 (ws:List Int) (ls:List (Int × Int)) (ns:List Int):∀ k,(bD ws ls ns k).length+eI ws (bD ws ls ns k)=ns.length+eI ws ns
 | 0=>rfl
 | k+1=>by
  have ih:=F7 ws ls ns k
  have cs:=uR ws ls (bD ws ls ns k)
  show (bD ws ls ns k ++ nextOf ws ls (bD ws ls ns k)).length+eI ws (bD ws ls ns k ++ nextOf ws ls (bD ws ls ns k))=_
  rw [aR3]; omega
theorem F8 {ws ns:List Int} (hu:ns.Pairwise (· < ·)) (hin:∀ x ∈ ns,0<=x/\x < (ws.length:Int)):ns.length+eI ws ns<=ws.length:=by
 have nd:ns.Nodup:=hu.imp fun h=>Int.ne_of_lt h
 have sub:ns ⊆ ((List.range ws.length).map fun (i:Nat)=>(i:Int)).filter fun x=>decide (x ∈ ns):=fun x hx=>by
  refine List.mem_filter.mpr ⟨aV7.mpr ⟨x.toNat,bc1.mpr ?_,?_⟩,aS3 hx⟩
  ·have:=hin x hx; omega
  ·have:=hin x hx; omega
 have h1:=nd.length_le_of_subset sub
 have h2:=uP (fun _=>false) (fun x=>decide (x ∈ ns)) (fun _ _=>rfl) ((List.range ws.length).map fun (i:Nat)=>(i:Int))
 have h3:(((List.range ws.length).map fun (i:Nat)=>(i:Int)).filter fun x=>!false && !decide (x ∈ ns)).length=eI ws ns:=rfl
 have h4:(((List.range ws.length).map fun (i:Nat)=>(i:Int)).filter fun x=>!false).length<=ws.length:=by
  refine aT4 (List.length_filter_le _ _) ?_
  rw [aR1,ba5]; exact aR0 _
 rw [h3] at h2
 omega
theorem uS (ws:List Int) (ls:List (Int × Int)) (ns:List Int):∀ m,(ns :: after ws ls ns m).flatten=bD ws ls ns m
 | 0=>by simp [after,bD]
 | m+1=>by
  rw [F6,<- List.cons_append,List.flatten_append,uS ws ls ns m]
  simp [bD]
def cE (ws:List Int) (ls:List (Int × Int)) (ns:List Int) (m:Nat):Prop:=(∀ k < m,nextOf ws ls (bD ws ls ns k) ≠ [])/\nextOf ws ls (bD ws ls ns m) = []
theorem F9 (k:Int):∀ ls:List (Int × Int),(∀ l ∈ ls,l.1 ≠ l.2)->(cC ls k).length<=ls.length
 | [],_=>aR0 _
 | l :: r,h=>by
  have e:cC (l :: r) k=((if l.1=k then [l.2] else []) ++ (if l.2=k then [l.1] else [])) ++ cC r k:=rfl
  have ih:=F9 k r fun m hm=>h m (aS2 _ hm)
  have h0:=h l aS0
  rw [e,aR3,aR3,aT9]
  by_cases h1:l.1=k
  ·rw [if_pos h1,if_neg (fun z=>h0 (h1.trans z.symm))]; simp; omega
  ·rw [if_neg h1]
   by_cases h2:l.2=k
   ·rw [if_pos h2]; simp; omega
   ·rw [if_neg h2]; simp; omega
theorem G0 {ws:List Int}{ls:List (Int × Int)}{ns:List Int}:∀ (m:Nat),(∀ k < m,nextOf ws ls (bD ws ls ns k) ≠ [])->m+eI ws (bD ws ls ns m)<=ws.length
 | 0,_=>by have:=av2 ws ns; show 0+eI ws ns<=_; omega
 | m+1,h=>by
  have ih:=G0 m fun k hk=>h k (by omega)
  have cs:=uR ws ls (bD ws ls ns m)
  have:1<=(nextOf ws ls (bD ws ls ns m)).length:=by
   cases e:nextOf ws ls (bD ws ls ns m) with
   | nil=>exact absurd e (h m (by omega))
   | cons _ _=>exact Nat.succ_le_succ (aT7 _)
  show m+1+eI ws (bD ws ls ns m ++ nextOf ws ls (bD ws ls ns m))<=_
  omega
theorem iL {ns:List Int}{i:Nat}{x:PV} (h:(intz ns)[i]? = some x):∃ n,x = .int n/\ns[i]? = some n:=by
 rw [aS5] at h
 cases e:ns[i]? with
 | none=>rw [e] at h; cases h
 | some n=>rw [e] at h; exact⟨n,(aT2 h).symm,rfl⟩
theorem gY {lo:Int}{n i:Nat}{x:PV} (h:(dP lo n)[i]? = some x):x = .int (lo+i)/\i < n:=by
 have hi:i < n:=by
  have:=(aR4.mp h).1
  rwa [eS] at this
 rw [A7 hi] at h
 exact⟨(aT2 h).symm,hi⟩
def rng (n:Nat):List Int:=(List.range n).map fun (i:Nat)=>(i:Int)
theorem lG (n:Nat):(rng n).length=n:=by unfold rng; rw [aR1,ba5]
theorem av4 {n i:Nat} (h:i < n):(rng n)[i]? = some (i:Int):=by unfold rng; rw [aS5,List.getElem?_range h]; rfl
theorem pX {n:Nat}{x:Int}:x ∈ rng n ↔ 0<=x/\x < (n:Int):=by
 unfold rng
 rw [aV7]
 constructor
 ·rintro ⟨i,hi,rfl⟩
  have:=bc1.mp hi
  omega
 ·intro h
  exact⟨x.toNat,bc1.mpr (by omega),by omega⟩
theorem pY {α:Type}{l:List α}{p:α->Bool}{i:Nat}{x:α} (h:l[i]? = some x):(l.take (i+1)).filter p=(l.take i).filter p ++ (if p x=true then [x] else []):=by
 rw [ba6,h,List.filter_append]
 congr 1
 cases e:p x <;> simp [e]
theorem dS (a b:List Int):intz (a ++ b)=intz a ++ intz b:=aT8
theorem b6 (a:List Int):(intz a).length=a.length:=aR1 _
def bF (ws:List Int) (ls:List (Int × Int)):PV:=.tup [.tup (intz ws),.tup (ls.map fun l=>.tup [.int l.1,.int l.2])]
structure Wb (ws:List Int) (ls:List (Int × Int)):Prop where
 few:ws.length<=40
 most:ls.length<=1700
 links:∀ l ∈ ls,(0<=l.1/\l.1 < ws.length)/\0<=l.2/\l.2 < ws.length
def cU (x:PV) (ns:List Int):Prop:=x = .tup (intz ns) ∨ x = .lst (intz ns)
theorem cU.seq {x:PV}{ns:List Int} (h:cU x ns):iG x=some (intz ns):=by rcases h with rfl | rfl <;> rfl
theorem cU.seqT {x:PV}{ns:List Int} (h:cU x ns):seqT x=some (intz ns):=by rcases h with rfl | rfl <;> rfl
theorem lH:∀ (ls:List (Int × Int)),flats (ls.map fun l=>PV.tup [.int l.1,.int l.2])=true
 | []=>rfl
 | l :: r=>by
  show (flat (.tup [.int l.1,.int l.2]) && flats (r.map fun l=>PV.tup [.int l.1,.int l.2]))=true
  rw [lH r]; rfl
theorem av5 (ws:List Int) (ls:List (Int × Int)):flat (bF ws ls)=true:=by
 show flats [.tup (intz ws),.tup (ls.map fun l=>PV.tup [.int l.1,.int l.2])]=true
 show (flat (.tup (intz ws)) && (flat (.tup (ls.map fun l=>PV.tup [.int l.1,.int l.2])) && true))=true
 show (flats (intz ws) && (flats (ls.map fun l=>PV.tup [.int l.1,.int l.2]) && true))=true
 rw [c7,lH]; rfl
theorem kB (ns:List Int):flat (.tup (intz ns))=true:=c7 ns
def eJ:bJ:=fun xs Q=>∃ ws ls,xs = [bF ws ls]/\Q (.int ws.length)
def G1:aO:=(b4 (aE eQ (a6 (bK (a5 0) (qC (.int 0))) a9)))
abbrev cP (t:aO) (N:List Str) (p:bJ):Prop:=∀ xs Q,p xs Q->t { nx:=fun _=>Q .non,rt:=Q } (eV N xs)
theorem av6:cP G1 ["web"] eJ:=by
 rintro xs Q ⟨ws,ls,rfl,q⟩
 refine⟨_,rfl,_,_,_,rfl,rfl,rfl,_,_,rfl,rfl,trivial,?_⟩
 rw [b6]; exact q
def nK:bJ:=fun xs Q=>∃ x ns,xs = [x]/\cU x ns/\ns.length<=1000/\Q (.bl (fZ ns))
def inB (n:Nat) (x:Int):Bool:=decide (0<=x) && decide (x < (n:Int))
def pZ:bJ:=fun xs Q=>∃ ws ls n,xs = [bF ws ls,.int n]/\Q (.bl (inB ws.length n))
def G2:aO:=(b4 (jV (B5 (a5 1) (qC (.int 0))) (iI (a5 1) (aE eJ (a6 (a5 0) a9)))))
theorem av7:cP G2 ["web","number"] pZ:=by
 rintro xs Q ⟨ws,ls,n,rfl,q⟩
 refine⟨_,rfl,_,_,rfl,rfl,_,rfl,?_⟩
 unfold inB at q
 by_cases h:(0:Int)<=n
 ·rw [aS3 h] at q ⊢
  refine aX ⟨_,rfl,_,rfl,ws,ls,rfl,_,_,rfl,rfl,trivial,?_⟩
  simpa using q
 ·rw [aR5 h] at q ⊢
  exact aV ⟨trivial,by simpa using q⟩
def bW (n:Nat) (ns:List Int):Bool:=fZ ns && (ns.map (inB n)).all id
def qA:bJ:=fun xs Q=>∃ ws ls x ns,xs = [bF ws ls,x]/\cU x ns/\ns.length<=1000/\Q (.bl (bW ws.length ns))
def G3:aO:=(b4 (jV (aE nK (a6 (a5 1) a9)) (aE pB (a6 (eU (eR (a5 1)) [none,some 0] (bZ 0) gU (aE pZ (a6 (a5 1) (a6 (a5 0) a9)))) a9))))
theorem qB {x:PV}{ns:List Int} (h:cU x ns):(Slot.sh (flat x) x).tag = .rd->flat x=true:=by
 cases flat x <;> intro z <;> cases z
theorem av8:cP G3 ["web","numbers"] qA:=by
 rintro xs Q ⟨ws,ls,x,ns,rfl,hx,hl,q⟩
 refine⟨_,rfl,x,ns,rfl,hx,hl,_,rfl,?_⟩
 unfold bW at q
 cases h:fZ ns with
 | false=>rw [h] at q; exact aV ⟨trivial,q⟩
 | true=>
  rw [h] at q
  refine aX ⟨_,rfl,_,hx.seq,qB hx,by rw [b6]; omega,fun i acc=>acc=(((ns.take i).map (inB ws.length)).map PV.bl),rfl,?_,?_⟩
  ·rintro i y acc hy rfl
   obtain ⟨n,rfl,hn⟩:=iL hy
   have tk:((ns.take (i+1)).map (inB ws.length)).map PV.bl=((ns.take i).map (inB ws.length)).map PV.bl ++ [PV.bl (inB ws.length n)]:=by rw [nJ hn,aT8]; rfl
   exact⟨_,rfl,_,rfl,ws,ls,n,rfl,trivial,tk.symm⟩
  ·rintro acc rfl
   rw [b6,aV3]
   exact⟨_,rfl,trivial,by simpa using q⟩
theorem cU.noscr {x:PV}{ns:List Int} (h:cU x ns):∀ ms,([x]:List PV) ≠ [.scr ms]:=by
 rcases h with rfl | rfl <;> intro ms z <;> cases z
structure DS (ps:List (aD × PV)) (S:List Int):Prop where
 has:∀ i:Int,(bA ps (Sum.inl i:aD)).isSome=decide (i ∈ S)
 len:ps.length<=S.length
 fl:flats (ps.map (·.2))=true
theorem DS.nil:DS [] []:=⟨fun i=>rfl,aR0 _,rfl⟩
section
variable {κ : Type} [DecidableEq κ]
theorem av9 {k:κ}:bA ([]:List (κ × PV)) k=none:=rfl
theorem gK {p:κ × PV}{r:List (κ × PV)}{k:κ} (e:p.1=k):bA (p :: r) k=some p.2:=by simp [bA,aZ5,e]
theorem gL {p:κ × PV}{r:List (κ × PV)}{k:κ} (e : ¬ p.1=k):bA (p :: r) k=bA r k:=by simp [bA,aZ5,e]
theorem uT (k:κ):∀ kvs:List (κ × PV),(kvs.any fun kv=>decide (kv.1=k))=(bA kvs k).isSome
 | []=>rfl
 | p :: r=>by
  rw [List.any_cons]
  by_cases e:p.1=k
  ·simp only [gK e,aS3 e,Bool.true_or,Option.isSome_some]
  ·rw [gL e,aR5 e,Bool.false_or]; exact uT k r
theorem G4 (k j:κ) (y:PV):∀ kvs:List (κ × PV),bA (kvs.map fun kv=>if kv.1=k then (kv.1,y) else kv) j=(bA kvs j).map fun x=>if j=k then y else x
 | []=>rfl
 | p :: r=>by
  have ih:=G4 k j y r
  rw [aU8]
  by_cases h:p.1=k
  ·rw [if_pos h]
   by_cases e:p.1=j
   ·rw [gK (p:=(p.1,y)) e,gK e,Option.map_some,if_pos (e.symm.trans h)]
   ·rw [gL (p:=(p.1,y)) e,gL e,ih]
  ·rw [if_neg h]
   by_cases e:p.1=j
   ·rw [gK (p:=p) e,gK e,Option.map_some,if_neg (fun z=>h (e.trans z))]
   ·rw [gL (p:=p) e,gL e,ih]
theorem G5 (k j:κ) (y:PV):∀ kvs:List (κ × PV),bA kvs k=none->bA (kvs ++ [(k,y)]) j=if j=k then some y else bA kvs j
 | [],_=>by
  by_cases e:k=j
  ·rw [if_pos e.symm]; exact gK (p:=(k,y)) e
  ·rw [if_neg (fun z=>e z.symm)]; exact gL (p:=(k,y)) e
 | p :: r,hn=>by
  rw [List.cons_append]
  have hk : ¬ p.1=k:=fun z=>by rw [gK z] at hn; cases hn
  rw [gL hk] at hn
  have ih:=G5 k j y r hn
  by_cases e:p.1=j
  ·rw [gK e,gK e,if_neg (fun z=>hk (e.trans z))]
  ·rw [gL e,gL e,ih]
theorem G6 (kvs:List (κ × PV)) (k j:κ) (y:PV):bA (cI kvs k y) j=if j=k then some y else bA kvs j:=by
 unfold cI
 by_cases a:(kvs.any fun kv=>decide (kv.1=k))=true
 ·rw [if_pos a,G4]
  rw [uT] at a
  by_cases e:j=k
  ·obtain ⟨x,hx⟩:=Option.isSome_iff_exists.mp a
   rw [if_pos e,e,hx,Option.map_some,if_pos rfl]
  ·rw [if_neg e]
   cases bA kvs j with
   | none=>rfl
   | some x=>rw [Option.map_some,if_neg e]
 ·rw [if_neg a]
  refine G5 k j y kvs ?_
  rw [uT] at a
  cases q:bA kvs k with
  | none=>rfl
  | some x=>rw [q] at a; exact (a rfl).elim
theorem uU (kvs:List (κ × PV)) (k:κ) (v:PV):(cI kvs k v).length<=kvs.length+1:=by
 unfold cI
 split
 ·rw [aR1]; omega
 ·rw [aR3,aT9,List.length_nil]; omega
end
theorem G7:∀ (xs:List PV),flats xs=true ↔ ∀ x ∈ xs,flat x=true
 | []=>by simp [flats]
 | x :: r=>by
  unfold flats
  rw [aV2,G7 r]; simp
theorem aw0 {κ:Type} [DecidableEq κ] {ps:List (κ × PV)}{k:κ}{v:PV}{p:κ × PV} (h:p ∈ cI ps k v):p.2=v ∨ p ∈ ps:=by
 unfold cI at h
 split at h
 ·obtain ⟨q,hq,e⟩:=aV7.mp h
  split at e
  ·subst e; exact .inl rfl
  ·subst e; exact .inr hq
 ·rcases aU2.mp h with h | h
  ·exact .inr h
  ·rw [aS4.mp h]; exact .inl rfl
theorem uV {κ:Type} [DecidableEq κ] {ps:List (κ × PV)}{k:κ}{v:PV} (h:flats (ps.map (·.2))=true) (hv:flat v=true):flats ((cI ps k v).map (·.2))=true:=by
 rw [G7] at h ⊢
 intro x hx
 obtain ⟨p,hp,rfl⟩:=aV7.mp hx
 rcases aw0 hp with e | e
 ·rw [e]; exact hv
 ·exact h _ (aV7.mpr ⟨p,e,rfl⟩)
theorem DS.put {ps:List (aD × PV)}{S:List Int} (h:DS ps S) (x:Int) (v:PV) (hv:flat v=true):DS (cI ps (Sum.inl x:aD) v) (S ++ [x]):=by
 refine⟨fun i=>?_,?_,uV h.fl hv⟩
 ·rw [G6]
  by_cases e:i=x
  ·subst e; rw [if_pos rfl]; simp
  ·rw [if_neg (fun z=>e (Sum.inl.inj z)),h.has]
   simp [e]
 ·have:=uU ps (Sum.inl x:aD) v
  have:=h.len
  rw [aR3,aZ2]; omega
theorem DS.merge {S:List Int}:∀ {mp ps:List (aD × PV)}{T:List Int},DS ps S->DS mp T->DS (gH ps mp) (S ++ T):=by
 have key:∀ (mp:List (aD × PV)) {ps:List (aD × PV)} (i:Int),(bA (gH ps mp) (Sum.inl i:aD)).isSome=((bA ps (Sum.inl i:aD)).isSome || (bA mp (Sum.inl i:aD)).isSome):=fun mp=>by
  induction mp with
  | nil=>intro ps i; show (bA ps (Sum.inl i:aD)).isSome=_; rw [av9]; simp
  | cons p r ih=>
   intro ps i
   show (bA (gH (cI ps p.1 p.2) r) (Sum.inl i:aD)).isSome=_
   rw [ih,G6]
   by_cases e:(Sum.inl i:aD)=p.1
   ·rw [if_pos e,gK e.symm]; simp
   ·rw [if_neg e,gL (Ne.symm e)]
 have keyl:∀ (mp:List (aD × PV)) {ps:List (aD × PV)},(gH ps mp).length<=ps.length+mp.length:=fun mp=>by
  induction mp with
  | nil=>intro ps; exact aR0 _
  | cons p r ih=>
   intro ps
   have h1:=ih (ps:=cI ps p.1 p.2)
   have h2:=uU ps p.1 p.2
   show (gH (cI ps p.1 p.2) r).length<=_
   rw [aT9]; omega
 have keyf:∀ (mp:List (aD × PV)) {ps:List (aD × PV)},flats (ps.map (·.2))=true->flats (mp.map (·.2))=true->flats ((gH ps mp).map (·.2))=true:=fun mp=>by
  induction mp with
  | nil=>intro ps h _; exact h
  | cons p r ih=>
   intro ps h g
   have g:(flat p.2 && flats (r.map (·.2)))=true:=g
   rw [aV2] at g
   exact ih (ps:=cI ps p.1 p.2) (uV h g.1) g.2
 intro mp ps T h g
 refine⟨fun i=>?_,?_,keyf mp h.fl g.fl⟩
 ·rw [key,h.has,g.has,aY6]; simp
 ·have:=keyl mp (ps:=ps)
  have:=h.len
  have:=g.len
  rw [aR3]; omega
def kC:bJ:=fun xs Q=>∃ x ns,xs = [x]/\cU x ns/\ns.length<=1000/\∀ ps,DS ps ns->Q (.dK ps)
def G8:aO:=(aG (cW 1 (qC (.dK [])))
 (aG (cN (eR (a5 0)) (bZ 2)
  (nC 1 (a5 2) (qC (.bl true))))
 (gT 1)))
theorem aw1:cP G8 ["hearths","inside","hearth"] kC:=by
 rintro xs Q ⟨x,ns,rfl,hx,hl,q⟩
 refine⟨rfl,rfl,_,rfl,_,hx.seq,qB hx,fun i ρ=>∃ y ps,ρ = [some (.sh (flat x) x),some (.own (.dK ps)),y]/\DS ps (ns.take i),⟨none,[],rfl,DS.nil⟩,?_,?_⟩
 ·rintro i y ρ hy ⟨y0,ps,rfl,d⟩
  obtain ⟨n,rfl,hn⟩:=iL hy
  have hlen:=d.len
  rw [aU5] at hlen
  refine⟨_,rfl,_,rfl,Sum.inl n,rfl,trivial,by omega,_,_,rfl,?_⟩
  rw [ba6,hn]
  exact d.put n _ rfl
 ·rintro ρ ⟨y,ps,rfl,d⟩
  rw [b6,aV3] at d
  exact⟨_,rfl,trivial,q ps d⟩
def qD:bJ:=fun xs Q=>∃ x ns ps S,xs = [x,.dK ps]/\cU x ns/\DS ps S/\ns.length<=10000/\Q (.int ((ns.filter fun x=>decide (x ∈ S)).length:Nat))
def G9:aO:=(b4 (aE eQ (a6 (eU (eR (a5 0)) [none,some 1] (bZ 0) (aS (iZ false (a5 0) (a5 1))) (a5 0)) a9)))
theorem aw2:cP G9 ["hearths","inside"] qD:=by
 rintro xs Q ⟨x,ns,ps,S,rfl,hx,d,hl,q⟩
 refine⟨_,rfl,_,hx.seq,qB hx,by rw [b6]; omega,fun i acc=>acc=intz ((ns.take i).filter fun x=>decide (x ∈ S)),rfl,?_,?_⟩
 ·rintro i y acc hy rfl
  obtain ⟨n,rfl,hn⟩:=iL hy
  have tk:=pY (p:=fun x=>decide (x ∈ S)) hn
  refine⟨_,rfl,_,rfl,_,.inl ⟨ps,Sum.inl n,rfl,rfl,rfl⟩,_,rfl,?_⟩
  show if (bA ps (Sum.inl n:aD)).isSome=true then _ else _
  rw [d.has n]
  by_cases h:n ∈ S
  ·rw [aS3 h] at tk ⊢
   refine aX ⟨_,rfl,trivial,?_⟩
   rw [if_pos rfl] at tk
   show _=intz (List.filter _ (List.take (i+1) ns))
   rw [tk,dS]; rfl
  ·rw [aR5 h] at tk ⊢
   refine aV ?_
   rw [if_neg (by decide),aV4] at tk
   show _=intz (List.filter _ (List.take (i+1) ns))
   rw [tk]
 ·rintro acc rfl
  rw [b6,aV3]
  refine⟨_,_,rfl,rfl,trivial,?_⟩
  rw [b6]; exact q
def gZ (n:Nat) (ls:List (Int × Int)):List PV:=(List.range n).map fun (k:Nat)=>PV.lst (intz (cC ls k))
def iM:bJ:=fun xs Q=>∃ ws ls,xs = [bF ws ls]/\Wb ws ls/\Q (.lst (gZ ws.length ls))
theorem J0 {n:Nat}{ls:List (Int × Int)}{h:Int} (h0:0<=h) (h1:h < (n:Int)):atI (gZ n ls) h=some (.lst (intz (cC ls h))):=by
 refine jQ h0 ?_
 unfold gZ
 rw [aS5,List.getElem?_range (by omega)]
 show some (PV.lst (intz (cC ls ((h.toNat:Nat):Int))))=_
 rw [show ((h.toNat:Nat):Int)=h by omega]
def lI:bJ:=fun xs Q=>∃ ws ls ps S h,xs = [bF ws ls,.lst (gZ ws.length ls),.dK ps,.int h]/\Wb ws ls/\DS ps S/\0<=h/\h < (ws.length:Int)/\Q (.bl (kin ws ls S h))
def J1:aO:=(b4 (jV (iZ true (a5 3) (a5 2)) (B5 (aE qD (a6 (bK (a5 1) (a5 3)) (a6 (a5 2) a9))) (bK (bK (a5 0) (qC (.int 0))) (a5 3)))))
theorem nL {ws:List Int}{h:Int} (h0:0<=h) (h1:h < (ws.length:Int)):atI (intz ws) h=some (.int (ws.getD h.toNat 0)):=by
 refine jQ h0 ?_
 have:h.toNat < ws.length:=by omega
 rw [aS5,aR7,aQ7 this]; rfl
theorem aw3:cP J1 ["web","around","burning","hearth"] lI:=by
 rintro xs Q ⟨ws,ls,ps,S,h,rfl,wb,d,h0,h1,q⟩
 refine⟨_,rfl,_,rfl,_,.inl ⟨ps,Sum.inl h,rfl,rfl,rfl⟩,_,rfl,?_⟩
 show if (!(bA ps (Sum.inl h:aD)).isSome)=true then _ else _
 rw [d.has h]
 unfold kin at q
 by_cases hm:h ∈ S
 ·rw [aS3 hm] at q ⊢
  exact aV ⟨trivial,by simpa using q⟩
 ·rw [aR5 hm] at q ⊢
  have nl:=tJ ls h
  have:=wb.most
  refine aX ⟨_,rfl,_,rfl,_,_,_,rfl,rfl,J0 h0 h1,_,rfl,_,cC ls h,ps,S,rfl,.inr rfl,d,by omega,_,rfl,_,_,_,rfl,rfl,rfl,_,rfl,_,_,_,rfl,rfl,nL h0 h1,_,_,rfl,rfl,trivial,?_⟩
  simpa using q
def nM:bJ:=fun xs Q=>∃ ws ls ps S,xs = [bF ws ls,.lst (gZ ws.length ls),.dK ps]/\Wb ws ls/\DS ps S/\Q (.tup (intz (nextOf ws ls S)))
def J2:aO:=(b4 (aE dJ (a6 (eU (fX (aE eJ (a6 (a5 0) a9))) [none,some 0,some 1,some 2] (bZ 0) (aS (aE lI (a6 (a5 1) (a6 (a5 2) (a6 (a5 3) (a6 (a5 0) a9)))))) (a5 0)) a9)))
theorem aw4:cP J2 ["web","around","burning"] nM:=by
 rintro xs Q ⟨ws,ls,ps,S,rfl,wb,d,q⟩
 have few:=wb.few
 refine⟨_,rfl,ws,ls,rfl,_,rfl,by omega,by omega,by rw [eS]; omega,fun i acc=>acc=intz (((rng ws.length).take i).filter (kin ws ls S)),rfl,?_,?_⟩
 ·rintro i y acc hy rfl
  obtain ⟨rfl,hi⟩:=gY hy
  have hi':i < ws.length:=by omega
  have tk:=pY (p:=kin ws ls S) (av4 hi')
  have e0:(0:Int)+(i:Int)=(i:Int):=by omega
  refine⟨_,rfl,_,rfl,_,rfl,_,rfl,ws,ls,ps,S,_,rfl,wb,d,by omega,by omega,_,rfl,?_⟩
  show if kin ws ls S ((0:Int)+(i:Int))=true then _ else _
  rw [e0]
  cases h:kin ws ls S (i:Int) with
  | true=>
   refine aX ⟨_,rfl,trivial,?_⟩
   rw [h,if_pos rfl] at tk
   show _=intz (List.filter _ (List.take (i+1) _))
   rw [tk,dS]
   show _ ++ [PV.int _]=_
   rfl
  | false=>
   refine aV ?_
   rw [h,if_neg (by decide),aV4] at tk
   show _=intz (List.filter _ (List.take (i+1) _))
   rw [tk]
 ·rintro acc rfl
  rw [eS,List.take_of_length_le (by rw [lG]; omega)]
  exact⟨⟨_,_,rfl,rfl,c7 _,trivial,q⟩,fun ns z=>by cases z⟩
def tups (rs:List (List Int)):List PV:=rs.map fun r=>PV.tup (intz r)
theorem aw5 {rs:List (List Int)}{i:Nat}{x:PV} (h:(tups rs)[i]? = some x):∃ r,x = .tup (intz r)/\rs[i]? = some r:=by
 unfold tups at h
 rw [aS5] at h
 cases e:rs[i]? with
 | none=>rw [e] at h; cases h
 | some n=>rw [e] at h; exact⟨n,(aT2 h).symm,rfl⟩
theorem J3 (rs:List (List Int)):(tups rs).length=rs.length:=aR1 _
theorem J4:∀ (rs:List (List Int)),flats (tups rs)=true
 | []=>rfl
 | r :: t=>by
  show (flat (.tup (intz r)) && flats (tups t))=true
  rw [kB,J4 t]; rfl
theorem jA {n:Nat}{ns:List Int} (h:bW n ns=true):fZ ns=true/\∀ x ∈ ns,0<=x/\x < (n:Int):=by
 unfold bW at h
 rw [aV2,aY7] at h
 refine⟨h.1,fun x hx=>?_⟩
 have:=h.2 _ (aV7.mpr ⟨x,hx,rfl⟩)
 unfold inB at this
 simpa using this
theorem uW {n:Nat}{ns:List Int} (h:bW n ns=true):ns.length<=n:=by
 obtain ⟨h1,h2⟩:=jA h
 have:=F8 (ws:=List.replicate n (0:Int)) (lF h1) (by rw [List.length_replicate]; exact h2)
 rw [List.length_replicate] at this
 omega
theorem uX {ws:List Int}{ls:List (Int × Int)}{ns:List Int} (h:bW ws.length ns=true) (k:Nat):(bD ws ls ns k).length<=ws.length:=by
 have h1:=F7 ws ls ns k
 have h2:=F8 (lF (jA h).1) (jA h).2
 omega
end Core
namespace PP
open PySem L2
def nN (te:aF):aF:=fun ρ Q=>te ρ fun x _=>∃ n:Int,x = .int n/\0<=n/\n<=1000000/\Q (.lst (dP 0 n.toNat)) .fr
def uY:PV->Tg->PV->Tg->PK->Prop:=fun x _ y _ Q=>∃ xs n,x = .tup xs/\y = .int n/\flats xs=true/\xs ≠ []/\2<=n/\n<=1000000/\xs.length<=10/\Q (.tup (List.replicate n.toNat xs).flatten) .fr
abbrev aw6 (ta tb:aF):aF:=q2 uY ta tb
def lJ:List PV->(PV->Prop)->Prop:=fun xs Q=>∃ ys:List (List Int),xs = [.lst (ys.map fun r=>PV.tup (intz r))]/\ys.length < 64/\(∀ y ∈ ys,y ≠ [])/\∀ zs:List (List Int),zs.Perm ys->zs.Pairwise (fun u v=>HT.dZ v u=false)->Q (.lst (zs.map fun r=>PV.tup (intz r)))
def qE:List PV->(PV->Prop)->Prop:=fun xs Q=>∃ ps:List (List aD × PV),xs = [.dT ps]/\Q (.lst (ps.map fun p=>PV.tup (p.1.map kP)))
end PP
namespace Core
open PySem L2 PP
theorem qF (g:Tg) (n:Int):Nw g (.int n):=by cases g <;> first | exact trivial | rfl
def hG (x:PV) (ns:List Int):Prop:=x = .scr ns ∨ x = .lst (intz ns)
theorem hG.seq {x:PV}{ns:List Int} (h:hG x ns):iG x=some (intz ns):=by rcases h with rfl | rfl <;> rfl
theorem hG.len {x:PV}{ns:List Int} (h:hG x ns):A0 x=some ns.length:=by
 rcases h with rfl | rfl
 ·rfl
 ·show some (intz ns).length=_
  rw [b6]
def dU:bJ:=fun xs Q=>∃ x ns k,xs = [x,.int k]/\hG x ns/\0<=k/\Q (.int (ns.getD k.toNat 0))
def J5:aO:=(aG (bG (aS (iI (a5 1) (aE eQ (a6 (a5 0) a9)))) (b4 (bK (a5 0) (a5 1))) bM)
 (b4 (qC (.int 0))))
theorem aw7:cP J5 ["script","k"] dU:=by
 rintro xs Q ⟨x,ns,k,rfl,hx,h0,q⟩
 refine⟨_,rfl,_,rfl,_,_,rfl,hx.len,_,_,rfl,rfl,_,rfl,?_⟩
 by_cases h:k < (ns.length:Int)
 ·rw [aS3 h]
  exact aX ⟨_,rfl,_,rfl,_,_,_,hx.seq,rfl,nL h0 h,qF _ _,q⟩
 ·rw [aR5 h]
  rw [aR7,List.getElem?_eq_none (by omega)] at q
  exact aV ⟨trivial,q⟩
def eL (ls:List (Int × Int)):List PV:=ls.map fun l=>PV.tup [.int l.1,.int l.2]
theorem J6 (ls:List (Int × Int)):(eL ls).length=ls.length:=aR1 _
def jB (l m:Int × Int):Prop:=l.1 < m.1 ∨ (l.1=m.1/\l.2 < m.2)
structure hJ (n:Int) (ls:List (Int × Int)) (a b:Int):Prop where
 inn:∀ l ∈ ls,0<=l.1/\l.1 < l.2/\l.2 < n
 ord:ls.Pairwise jB
 low:∀ l ∈ ls,jB l (a,b)
theorem hJ.mono {n a b a' b':Int}{ls:List (Int × Int)} (h:hJ n ls a b) (m:a < a' ∨ (a=a'/\b<=b')):hJ n ls a' b':=
 ⟨h.inn,h.ord,fun l hl=>by have:=h.low l hl; unfold jB at *; dsimp only at *; omega⟩
theorem hJ.add {n a b:Int}{ls:List (Int × Int)} (h:hJ n ls a b) (h0:0<=a/\a < b/\b < n):hJ n (ls ++ [(a,b)]) a (b+1):=by
 refine⟨fun l hl=>?_,?_,fun l hl=>?_⟩
 ·rcases aU2.mp hl with hl | hl
  ·exact h.inn l hl
  ·rw [aS4.mp hl]; exact h0
 ·exact List.pairwise_append.mpr ⟨h.ord,aW0 _ _,fun l hl m hm=>by rw [aS4.mp hm]; exact h.low l hl⟩
 ·rcases aU2.mp hl with hl | hl
  ·have:=h.low l hl; unfold jB at *; dsimp only at *; omega
  ·rw [aS4.mp hl]; unfold jB; dsimp only; omega
structure eY (n:Int) (ws:List Int) (ls:List (Int × Int)):Prop where
 many:(ws.length:Int)=n
 inn:∀ l ∈ ls,0<=l.1/\l.1 < l.2/\l.2 < n
 most:ls.length<=63
 ord:ls.Pairwise jB
 pos:∀ w ∈ ws,0<=w
def nO:bJ:=fun xs Q=>∃ c d n m:Int,xs = [.int c,.int d,.int n,.int m]/\0<=n/\n<=8/\0 < m/\m < 1000/\∀ ws ls,eY n ws ls->Q (bF ws ls)
def J7:aO:=(aG (cW 4 (cH a9))
 (aG (cN (fX (a5 2)) (bZ 5)
  (aG (gG 4 (aU (a5 0) (a5 3)))
  (aY 0 (bB (a5 0) (a5 3)))))
 (aG (cW 6 (cH a9))
 (aG (cN (fX (a5 2)) (bZ 7)
  (cN (mX (eF (a5 7) (qC (.int 1))) (a5 2)) (bZ 8)
   (aG (bG (aS (dB (aU (a5 1) (qC (.int 2))) (qC (.int 1)))) (gG 6 (cD (a6 (a5 7) (a6 (a5 8) a9)))) bM)
   (aY 1 (bB (a5 1) (qC (.int 2)))))))
 (b4 (cD (a6 (aE dJ (a6 (a5 4) a9)) (a6 (aE dJ (a6 (a5 6) a9)) a9))))))))
abbrev si (n:Int):Option Slot:=some (.sh true (.int n))
theorem aw8 : cP J7 ["wants_cell", "links_cell", "many", "most", "wants", "k", "links", "one", "other"] nO := by
  rintro xs Q ⟨c, d, n, m, rfl, n0, n1, m0, m1, q⟩
  refine ⟨by decide, rfl, rfl, rfl, ?_⟩
  refine ⟨_, rfl, n, rfl, by omega, by omega, fun i ρ => ∃ (c' : Int) (y : Option Slot) (ws : List Int), ρ = [si c', si d, si n, si m, some (.own (.lst (intz ws))), y, none, none, none] /\ ws.length = i /\ ∀ w ∈ ws, 0 <= w, ⟨c, none, [], rfl, rfl, fun _ h => nomatch h⟩, ?_, ?_⟩
  · rintro i y ρ hy ⟨c', y0, ws, rfl, hl, hp⟩
    obtain ⟨rfl, hi⟩ := gY hy
    refine ⟨_, rfl, _, rfl, _, rfl, _, _, rfl, rfl, m0, trivial, by rw [b6]; omega, ?_⟩
    refine ⟨_, rfl, _, rfl, _, _, rfl, rfl, ⟨m0, by omega⟩, trivial, ?_⟩
    refine ⟨c' / m, si (0 + (i : Int)), ws ++ [c' % m], ?_, by rw [aR3, hl]; rfl, fun w hw => ?_⟩
    · rw [dS]; rfl
    · rcases aU2.mp hw with hw | hw
      · exact hp w hw
      · rw [aS4.mp hw]; exact aT6 _ (by omega)
  rintro ρ ⟨c', y0, ws, rfl, hl, hp⟩
  rw [eS] at hl
  refine ⟨by decide, rfl, rfl, rfl, ?_⟩
  refine ⟨_, rfl, n, rfl, by omega, by omega, fun i ρ => ∃ (d' : Int) (y z : Option Slot) (ls : List (Int × Int)), ρ = [si c', si d', si n, si m, some (.own (.lst (intz ws))), y0, some (.own (.lst (eL ls))), y, z] /\ hJ n ls i 0 /\ ls.length <= i * 7, ⟨d, none, none, [], rfl, ⟨(fun _ h => nomatch h), .nil, (fun _ h => nomatch h)⟩, aT7 _⟩, ?_, ?_⟩
  · rintro i y ρ hy ⟨d', y1, z, ls, rfl, hin, hll⟩
    obtain ⟨rfl, hi⟩ := gY hy
    refine ⟨_, rfl, _, _, rfl, rfl, _, rfl, _, _, rfl, rfl, by omega, fun j ρ => ∃ (d' : Int) (z : Option Slot) (ls : List (Int × Int)), ρ = [si c', si d', si n, si m, some (.own (.lst (intz ws))), y0, some (.own (.lst (eL ls))), si (0 + (i : Int)), z] /\ hJ n ls i (i + 1 + j) /\ ls.length <= i * 7 + j, ⟨d', z, ls, rfl, hin.mono (.inr ⟨rfl, by omega⟩), by omega⟩, ?_, ?_⟩
    · rintro j y ρ hy ⟨d2, z2, ls2, rfl, hin2, hl2⟩
      obtain ⟨rfl, hj⟩ := gY hy
      refine ⟨_, rfl, _, _, rfl, rfl, (by show (0 : Int) < 2; decide), .inl ⟨_, _, rfl, rfl, _, rfl, ?_⟩⟩
      have tail : ∀ ls3 : List (Int × Int), hJ n ls3 i (i + 1 + (j + 1 : Nat)) -> ls3.length <= i * 7 + (j + 1) -> (aY 1 (bB (a5 1) (qC (.int 2)))) { nx := fun ρ => ∃ (d' : Int) (z : Option Slot) (ls : List (Int × Int)), ρ = [si c', si d', si n, si m, some (.own (.lst (intz ws))), y0, some (.own (.lst (eL ls))), si (0 + (i : Int)), z] /\ hJ n ls i (i + 1 + (j + 1 : Nat)) /\ ls.length <= i * 7 + (j + 1), rt := Q }
          [si c', si d2, si n, si m, some (.own (.lst (intz ws))), y0, some (.own (.lst (eL ls3))), si (0 + (i : Int)), si (0 + (i : Int) + 1 + (j : Int))] := fun ls3 h3 h4 =>
        ⟨_, rfl, _, _, rfl, rfl, ⟨by decide, by decide⟩, trivial, _, _, ls3, rfl, h3, h4⟩
      by_cases h : d2 % 2 = 1
      · show if decide (d2 % 2 = 1) = true then _ else _
        rw [aS3 h]
        refine aX ⟨_, rfl, _, rfl, _, rfl, by show 2 <= 1000; decide, rfl, trivial, by rw [J6]; omega, ?_⟩
        have ad := hin2.add (by omega)
        have := tail (ls2 ++ [((i : Int), (i : Int) + 1 + (j : Int))]) (by have e : (i : Int) + 1 + ((j + 1 : Nat) : Int) = (i : Int) + 1 + (j : Int) + 1 := by omega
                                                                           rw [e]; exact ad) (by rw [aR3, aZ2]; omega)
        unfold eL at this
        rw [aT8] at this
        rw [show (0 : Int) + (i : Int) = (i : Int) by omega] at this ⊢
        exact this
      · show if decide (d2 % 2 = 1) = true then _ else _
        rw [aR5 h]
        exact aV (tail ls2 (hin2.mono (.inr ⟨rfl, by omega⟩)) (by omega))
    · rintro ρ ⟨d2, z2, ls2, rfl, hin2, hl2⟩
      rw [eS] at hl2
      exact ⟨d2, _, z2, ls2, rfl, hin2.mono (.inl (by omega)), by omega⟩
  rintro ρ ⟨d', y1, z, ls, rfl, hin, hll⟩
  rw [eS] at hll
  refine ⟨_, rfl, ⟨_, _, rfl, rfl, c7 _, _, rfl, ⟨_, _, rfl, rfl, lH _, by show 2 <= 1000; decide, ?_, trivial, q ws ls ⟨by omega, hin.inn, by omega, hin.ord, hp⟩⟩, fun ns z => by cases z⟩, fun ns z => by cases z⟩
  show (flat (.tup (intz ws)) && (flat (.tup (eL ls)) && true)) = true
  rw [kB]
  show (true && (flats (eL ls) && true)) = true
  rw [show flats (eL ls) = true from lH ls]; rfl
end Core
namespace PySem
theorem aw9:fillsNumberSlot (.type "tuple") "mul" = pure false:=
 fillsNumberSlot_seq (id:="tuple.__mul__") (r:=some (.builtin "tuple.__rmul__")) F.slot_tuple_mul.lookup (by decide +kernel) F.slot_tuple_rmul.lookup (by decide +kernel)
theorem ax0:seqRepeat? (.type "tuple")=pure (some (.builtin "tuple.__mul__")):=by
 unfold seqRepeat?
 rw [seqSlot_of (T:="tuple") (name:="__mul__") (id:="tuple.__mul__") F.slot_tuple_mul.lookup (by decide +kernel),seqSlot_of (T:="tuple") (name:="__rmul__") (id:="tuple.__rmul__") F.slot_tuple_rmul.lookup (by decide +kernel)]
 rfl
theorem ax1 (a:Int) (t:Tok) (l:Addr) (items:Array Value) (n:Nat) (dd:Option Addr) (sl:Array (Option Value)) :
  Meets (Builtin.«int.__rmul__» ⟨[.int a t,.ref l],[]⟩) (fun _ R s=>s.heap.get? l=some { cls:=.type "tuple",dict:=dd,data:=.seq items n,slots:=sl }/\R (.ok (.ret Value.notImplemented)) s):=
 .of_wp fun prog w A R s h=>by obtain ⟨hp,g,d,tk,os⟩:=s; obtain ⟨hl,h⟩:=h; wp_walk; exact⟨_,rfl,h⟩
theorem ax2 (l:Addr) (items:Array Value) (n:Nat) (dd:Option Addr) (sl:Array (Option Value)) (x:Int) (u:Tok) (h0:items.isEmpty=false) (h1:2<=x) (h2:items.size * x.toNat<=sizeLine) (h3:x<=1000000) :
  Meets (Builtin.«tuple.__mul__» ⟨[.ref l,.int x u],[]⟩) (fun _ R s=>s.heap.get? l=some { cls:=.type "tuple",dict:=dd,data:=.seq items n,slots:=sl }/\R (.ok (.ret (Value.ref s.heap.objs.size))) { s with heap:=s.heap.push { cls:=Value.type "tuple",data:=Data.seq (List.foldl (fun x1 x2=>x1 ++ x2) #[] (List.replicate x.toNat items)) } }):=
 .of_wp fun prog w A R s h=>by
  obtain ⟨hp,g,d,tk,os⟩:=s; obtain ⟨hl,h⟩:=h
  have c1:(decide (x < -(2 ^ 63)) || decide (x >= 2 ^ 63))=false:=by
   rw [Bool.or_eq_false_iff]; exact⟨aR5 (by omega),aR5 (by omega)⟩
  have c2:(items.isEmpty || x == 1)=false:=by rw [h0,Bool.false_or]; exact ba7.mpr (by omega)
  have c3:(decide (x<=0) || items.isEmpty)=false:=by rw [h0,Bool.or_false]; exact aR5 (by omega)
  have hsz:((items.size:Nat):Int) * x=((items.size * x.toNat:Nat):Int):=by rw [Int.natCast_mul]; congr 1; omega
  have hl63:(sizeLine:Nat)<=(2 ^ 63 - 1) / 8:=by decide
  have c4:decide (((items.size:Nat):Int) * x > (2 ^ 63 - 1) / 8)=false:=aR5 (by rw [hsz]; omega)
  have c5:Builtin.Tuple.tupleTooMany (((items.size:Nat):Int) * x)=false:=by
   rw [hsz]
   unfold Builtin.Tuple.tupleTooMany
   exact aR5 (by omega)
  wp_walk
  refine wpAny_ite_false (by rw [c1]; rfl) ?_
  wp_walk
  refine wpAny_ite_false (by rw [c2]; rfl) ?_
  wp_walk
  refine wpAny_ite_false (by rw [c3]; rfl) ?_
  wp_walk
  refine wpAny_ite_false c4 ?_
  wp_walk
  refine wpAny_ite_false (by rw [c5]; rfl) ?_
  wp_walk
  have f0:∀ (m:Nat) (acc:Array Value),(List.foldl (fun x1 x2=>x1 ++ x2) acc (List.replicate m items)).size=acc.size+m * items.size:=fun m=>by
   induction m with
   | zero=>intro acc; simp
   | succ m ih=>intro acc; rw [aX2,List.foldl_cons,ih,Array.size_append,Nat.succ_mul]; omega
  have c6:decide ((List.foldl (fun x1 x2=>x1 ++ x2) #[] (List.replicate x.toNat items)).size > sizeLine)=false:=aR5 (by
   rw [f0 x.toNat #[]]
   have:x.toNat * items.size=items.size * x.toNat:=Nat.mul_comm _ _
   simp only [Array.size_empty]
   omega)
  refine wpAny_ite_false c6 ?_
  wp_walk
  exact⟨_,rfl,h⟩
end PySem
namespace PP
open PySem L2 PyProof.Rows
def J8 (K:PySem.W.Frag):R2:=fun x y H Q=>∃ l k xs,x = .ref l/\y = .int k/\aJ K H l xs/\xs ≠ []/\2<=k/\k<=1000000/\xs.length * k.toNat<=sizeLine/\∀ p,H p=none->Q (.ref p) (upd H p (.tup (List.replicate k.toNat xs).flatten))
theorem ax3 {X:Cx}:bR X (binaryOp .Mult) (J8 X.K):=by
 intro pins s σ H x y v u Q I rx ry h
 obtain ⟨l,k,xs,rfl,rfl,hH,hne,h1,h2,hz,q⟩:=h
 cases rx
 obtain ⟨t,rfl⟩:=ry
 obtain ⟨its,r,p,_⟩:=I.tuple hH
 obtain ⟨⟨cls,dd,data,sl⟩,ho,hc,n,hd⟩:=id p
 simp only at hc hd
 subst hc hd
 have hl:=r.length
 have hemp:its.toArray.isEmpty=false:=by
  cases its with
  | nil=>exact absurd (r.nil_iff.mp rfl) hne
  | cons a b=>rfl
 refine wpAny_binaryOp_repeat_ref (T:="tuple") (U:="int") (by decide) ⟨_,ho,rfl⟩ (fun s'=>typeIs_int s' k t) aw9 F.fills_int_mul F.slot_int_rmul ax0 F.slot_int_index.lookup
  (call_meets F.slot_int_rmul (typeIs_int s k t) F.entry_int_rmul (F.args_int_rmul_2 _ _) (ax1 k t l its.toArray n dd sl)
   ⟨ho,rfl,⟨_,ho,rfl⟩,call_meets F.slot_tuple_mul ⟨_,ho,rfl⟩ F.entry_tuple_mul (F.args_tuple_mul_2 _ _) (ax2 l its.toArray n dd sl k t hemp h1 (by rw [aQ8,<- hl]; exact hz) h2) ⟨ho,?_⟩⟩)
 have f0:List.foldl (fun x1 x2=>x1 ++ x2) #[] (List.replicate k.toNat its.toArray)=(List.replicate k.toNat its).flatten.toArray:=by
  have:=xU its k.toNat []
  rw [List.nil_append] at this
  exact this
 rw [f0]
 refine⟨.ref s.heap.objs.size,_,I.laid (t':=s.toks) (o:=.tup (List.replicate k.toNat xs).flatten) (fun b ob q=>aQ6 _ q) (aR0 _) ?_,rfl,q _ (I.hok.fresh (aR0 _))⟩
 exact⟨by rw [af3,Nat.mul_comm]; exact hz,_,r.rep k.toNat,IsTup.new _ _⟩
theorem Reps.rep {K:PySem.W.Frag}{M:Addr->Prop}{H:Hp}{us:List V}{xs:List PV} (r:Reps K M H us xs):∀ k:Nat,Reps K M H (List.replicate k us).flatten (List.replicate k xs).flatten
 | 0=>.nil
 | k+1=>by rw [aX2,aX2,aY1,aY1]; exact r.append (Reps.rep r k)
section
variable {X : Cx} {a b e : Expr} {ta tb te : aF} {tr : cG} {pos p2 p3 pos2 : Pos}
theorem ax4:cT X uY (J8 X.K):=by
 rintro W Hs H u v x y g g' Q Q' s n r1 r2 ⟨xs,m,rfl,rfl,f,ne,h1,h2,hl,q⟩ k
 cases r2
 obtain ⟨a,us,rfl,h,r⟩:=r1.sqT
 have lr:=r.length
 refine⟨a,m,us,rfl,rfl,aJ.of h,fun z=>ne (by cases xs with | nil=>rfl | cons _ _=>rw [z] at lr; cases lr),h1,h2,lim ?_,fun p hp=>k _ _ _ .fr (b7 hp _) (.tup b8 (((r.flat f).rep m.toNat).same (b7 hp _) fun _ z=>z)) q⟩
 have h3:us.length<=10:=by omega
 have h4:m.toNat<=1000000:=by omega
 calc us.length * m.toNat<=10 * 1000000:=Nat.mul_le_mul h3 h4
  _<=16000000:=by decide
theorem ax5 (ha:QE X a ta) (hb:QE X b tb):QE X (.BinOp a .Mult b pos) (q2 uY ta tb):=gI ax3 ax4 ha hb
theorem ax6 {tA:TA} (hg:Gl X "range") (hm:X.mg "range" = none) (ha:PA X [a] tA) (hs:starEach [a] X.env = [(false,eval a X.env)]:=by rfl) :
  PE X (.Call (.Name "range" p2) [a] [] pos) (fun σ H Q=>tA σ H fun vs H1=>∃ j:Int,vs = [.int j]/\∀ r,H1 r=none->Q (.ref r) (upd H1 r (.rng 0 j))):=by
 intro pins s σ H Q I h
 refine Call_ (i5 I hg hm boot_range (aX1 (aL (ha pos pins s σ H _ I h) fun us s1 ⟨vs,H1,I1,r1,q1⟩=>?_) hs rfl))
 obtain ⟨j,e,q⟩:=q1
 subst e
 cases r1 with
 | cons r rr=>
  cases rr
  obtain ⟨t,rfl⟩:=r
  refine call_range_1 ?_
  exact⟨.ref s1.heap.objs.size,_,I1.laid (o:=.rng 0 j) (fun b ob q=>aQ6 _ q) (aR0 _) ⟨_,_,_,aS1 _ rfl⟩,rfl,q _ (I1.hok.fresh (aR0 _))⟩
theorem K0:∀ {xs:List V}{us:List Value},xs.length=us.length->(∀ (i:Nat) x u,xs[i]? = some x->us[i]? = some u->aQ x u)->aK xs us
 | [],[],_,_=>.nil
 | x :: xs,u :: us,hl,h=>.cons (h 0 x u rfl rfl) (K0 (by simpa using hl) fun i y w h1 h2=>h (i+1) y w (by rw [aY2]; exact h1) (by rw [aY2]; exact h2))
theorem ax7 {n:Nat}{acc:Array Value} (h:ItemsOf (fun i v=>∃ t,v = .int (0+(i:Int) * 1) t) acc n):aK (iC 0 n) acc.toList:=by
 obtain ⟨h1,h2⟩:=h
 refine K0 (by rw [t8]; simp [h1]) fun i x u hx hu=>?_
 have hi:i < n:=by
  have:=(aR4.mp hx).1
  rwa [t8] at this
 unfold iC at hx
 rw [aS5,List.getElem?_range hi] at hx
 cases hx
 obtain ⟨t,rfl⟩:=h2 i u (by rw [<- Array.getElem?_toList]; exact hu)
 exact⟨t,by congr 1; omega⟩
theorem ax8 (hc:X.calm=true):cJ X (.type "list") (fun xs H Q=>∃ r j,xs = [.ref r]/\H r=some (.rng 0 j)/\0<=j/\j<=1000000/\∀ l,H l=none->Q (.ref l) (upd H l (.lst (iC 0 j.toNat)))):=by
 intro pins s σ H xs us Q I r h
 obtain ⟨p,j,rfl,hq,h0,h1,q⟩:=h
 obtain ⟨u,rfl,rx⟩:=fC r
 cases rx
 obtain ⟨t,u,v,ho⟩:=(show bP X.prog X.w H s.heap p (.rng 0 j) from I.hok p _ hq)
 refine PySem.call_list_range (a:=0) (b:=j) (c:=1) (n:=j.toNat) (I.ok.hd hc) ho (small_one (by decide) (by decide) (by omega) (by omega)) (by rw [rangeSize_one]; split <;> omega) (by omega) fun h' tk acc' c' kp e it=>?_
 have vv:=ax7 it
 have eq:acc'.toList.toArray=acc':=by simp
 exact⟨.ref s.heap.objs.size,_,I.laid (t':=tk) (o:=.lst (iC 0 j.toNat)) kp (aR0 _) ⟨by rw [t8]; exact lim (by omega),acc'.toList,c',vv,by rw [eq]; exact e⟩,rfl,q _ (I.hok.fresh (aR0 _))⟩
theorem ax9 {K:PySem.W.Frag}{M:Addr->Prop}{H:Hp} (lo:Int) (n:Nat):Reps K M H (iC lo n) (dP lo n):=by
 unfold iC dP
 generalize List.range n=l
 induction l with
 | nil=>exact .nil
 | cons a r ih=>exact .cons (.int _) ih
theorem qG (B:Bt X.mg) (ha:QE X a ta) (hc:X.calm=true:=by rfl) (hg:Gl X "list":=by rfl) (hgr:Gl X "range":=by rfl) (hs:starEach [a] X.env = [(false,eval a X.env)]:=by rfl)
  (he:starEach [.Call (.Name "range" p3) [a] [] pos2] X.env=(false,eval (.Call (.Name "range" p3) [a] [] pos2) X.env) :: starEach [] X.env:=by rfl) (hpl:(backTo pos (starEach [] X.env)).any (·.1)=false:=by rfl) :
  QE X (.Call (.Name "list" p2) [.Call (.Name "range" p3) [a] [] pos2] [] pos) (nN ta):=
 bT (xE (ax8 hc) hg B.list PyProof.Rows.boot_list (cK (ax6 hgr B.range (cK ha cZ hs) hs) cZ he) (he:=he) (hpl:=hpl)) fun σ H Q' h=>by
  obtain ⟨W,ρ,Q,px,q,k⟩:=h
  refine⟨W,ρ,_,px,q,?_⟩
  rintro v H1 x g s r ⟨n,rfl,h0,h1,q⟩
  cases r
  refine⟨n,rfl,fun r hr=>⟨r,n,rfl,b8,h0,h1,fun l hl=>?_⟩⟩
  have S:aC H (upd (upd H1 r (.rng 0 n)) l (.lst (iC 0 n.toNat))):=(s.trans (b7 hr _)).trans (b7 hl _)
  exact k _ _ _ .fr S (.lst (((s.trans (b7 hr _))).free hl) b8 (ax9 0 n.toNat)) q
theorem ay0:eB X qE (fun xs H Q=>∃ a kvs,xs = [.ref a]/\H a=some (.dT kvs)/\∀ l ys,H l=none->Paired (oS H) ys (kvs.map (·.1))->Q (.ref l) (upd H l (.lst ys))):=by
 rintro H vs xs Q Q' r ⟨ps,rfl,q⟩ k
 obtain ⟨v,rfl,r1⟩:=r.one
 cases r1 with
 | @dT a kvs _ m h e r2=>
  refine⟨a,kvs,rfl,h,fun l ys hl pr=>k _ _ _ (b7 hl _) (.lst hl b8 ?_) q⟩
  have kv:∀ (k:List aD),Reps X.K (fun a=>H a=none) H (k.map kV) (k.map kP):=fun k=>by
   induction k with
   | nil=>exact .nil
   | cons a r ih=>exact .cons (by cases a <;> constructor) ih
  have go:∀ {ys:List V}{ks:List (List aD)},Paired (oS H) ys ks->Reps X.K (fun a=>H a=none) H ys (ks.map fun k=>PV.tup (k.map kP)):=fun {ys ks} pr=>by
   induction pr with
   | nil=>exact .nil
   | cons h t ih=>
    obtain ⟨q,rfl,hq⟩:=h
    exact .cons (.tup hq (kv _)) ih
  have e2:(ps.map fun p=>PV.tup (p.1.map kP))=(kvs.map (·.1)).map fun k=>PV.tup (k.map kP):=by rw [e,aY8]; rfl
  rw [e2]
  exact (go pr).same (b7 hl _) fun _ z=>z
theorem ay1 (B:Bt X.mg) (hc:X.calm=true) (ha:QA X [e] tr) (hg:Gl X "list":=by rfl) (he:starEach [e] X.env=(false,eval e X.env) :: starEach [] X.env:=by rfl) (hpl:(backTo pos (starEach [] X.env)).any (·.1)=false:=by rfl):QE X (.Call (.Name "list" p2) [e] [] pos) (aE qE tr):=
 pS (aj7 hc) ay0 hg B.list PyProof.Rows.boot_list ha (he:=he) (hpl:=hpl)
def uZ:V->Int
 | .int i=>i
 | _=>0
def kD (H:Hp):V->List Int
 | .ref a=>match H a with
  | some (.tup us)=>us.map uZ
  | _=>[]
 | _=>[]
theorem ay2 {H:Hp}{a:Addr}{ns:List Int} (h:H a=some (.tup (ns.map V.int))):kD H (.ref a)=ns:=by
 show (match H a with | some (.tup us)=>us.map uZ | _=>[])=ns
 rw [h]
 show (ns.map V.int).map uZ=ns
 rw [aY8]
 exact List.map_id _
theorem K1 {K:PySem.W.Frag}{M:Addr->Prop}{H:Hp}:∀ {us:List V}{ys:List (List Int)},Reps K M H us (ys.map fun r=>PV.tup (intz r))->us.map (kD H)=ys/\∀ u ∈ us,∃ b,u = .ref b/\H b=some (.tup ((kD H u).map V.int))
 | _,[],.nil=>⟨rfl,fun u h=>nomatch h⟩
 | _,y :: ys,.cons r t=>by
  obtain ⟨a,us,rfl,h,r1⟩:=r.sqT
  obtain rfl:=r1.ofInts
  obtain ⟨h1,h2⟩:=K1 t
  have hk:=ay2 h
  refine⟨by rw [aU8,h1,hk],fun u hu=>?_⟩
  rcases aR2.mp hu with rfl | hu
  ·exact⟨a,rfl,by rw [hk]; exact h⟩
  ·exact h2 u hu
theorem K2 {K:PySem.W.Frag}{M:Addr->Prop}{H:Hp}:∀ {us:List V},(∀ u ∈ us,∃ b,u = .ref b/\H b=some (.tup ((kD H u).map V.int)))->Reps K M H us ((us.map (kD H)).map fun r=>PV.tup (intz r))
 | [],_=>.nil
 | u :: us,h=>by
  obtain ⟨b,rfl,hb⟩:=h u aS0
  exact .cons (.tup hb (Reps.intz _)) (K2 fun v hv=>h v (aS2 _ hv))
theorem ay3:eB X lJ (zE X.K):=by
 rintro H vs xs Q Q' r ⟨ys,rfl,hl,hne,q⟩ k
 obtain ⟨v,rfl,r1⟩:=r.one
 obtain ⟨a,us,rfl,_,h,r2⟩:=r1.sqL
 obtain ⟨h1,h2⟩:=K1 r2
 have lr:=r2.length
 rw [aR1] at lr
 refine⟨a,us,kD H,rfl,aM.of h,by omega,fun y hy=>?_,fun l zs hl' pm so=>?_⟩
 ·obtain ⟨b,rfl,hb⟩:=h2 y hy
  refine⟨b,rfl,aJ.of hb,hne _ ?_⟩
  rw [<- h1]; exact aV7.mpr ⟨_,hy,rfl⟩
 ·have hz:∀ u ∈ zs,∃ b,u = .ref b/\H b=some (.tup ((kD H u).map V.int)):=fun u hu=>h2 u (pm.mem_iff.mp hu)
  refine k _ _ _ (b7 hl' _) (.lst hl' b8 ((K2 hz).same (b7 hl' _) fun _ z=>z)) (q _ ?_ ?_)
  ·rw [<- h1]; exact pm.map _
  ·rw [bd3]; exact so
theorem v0 (B:Bt X.mg) (ha:QA X [e] tr) (hg:Gl X "sorted":=by rfl) (he:starEach [e] X.env=(false,eval e X.env) :: starEach [] X.env:=by rfl) (hpl:(backTo pos (starEach [] X.env)).any (·.1)=false:=by rfl):QE X (.Call (.Name "sorted" p2) [e] [] pos) (aE lJ tr):=
 j4 aj3 ay3 hg B.sorted PyProof.Rows.boot_sorted ha (he:=he) (hpl:=hpl)
end
def K3 (K:PySem.W.Frag):Sp:=fun vs H Q _=>∃ (a:Addr) (ns:List Int),vs = [.ref a]/\(aJ K H a (ns.map V.int) ∨ aM K H a (ns.map V.int))/\ns.length<=1000/\∀ H',aC H H'->Q (.bl (Core.fZ ns)) H'
def K4:Sp:=fun vs H Q _=>∃ v ws ls,vs = [v]/\zI H v ws ls/\ws.length<=1000/\ls.length<=2000/\(∀ l ∈ ls,(0<=l.1/\l.1 < ws.length)/\0<=l.2/\l.2 < ws.length)/\
 ∀ (r:Addr) (bs:List Addr) (H':Hp),bs.length=ws.length->iD H H' r bs (fun k=>cC ls k)->Q (.ref r) H'
section
variable {P : Program} {w : World} {K : PySem.W.Frag} {mg : Str → Option Value} {base : Heap} {f : Addr} {fd : FuncData} {k : Nat}
theorem ay4 (F:cL P w K mg base dC k f fd ["things"] (K3 K)) (b:gR K fd ["things"] []) (kp:PySem.W.keepIn K (.ref f)=true) (m:mg "rises" = some (.ref f)):Df P w K mg base k "rises" ["things"] Core.nK:=by
 refine⟨f,fd,F.imp fun vs H Q E h=>?_,b,kp,m⟩
 obtain ⟨xs,Qp,r,⟨x,ns,rfl,hx,hl,q⟩,k⟩:=h
 obtain ⟨v,rfl,r1⟩:=r.one
 rcases hx with rfl | rfl
 ·obtain ⟨a,us,rfl,h,r2⟩:=r1.sqT
  obtain rfl:=r2.ofInts
  exact⟨a,ns,rfl,.inl (aJ.of h),hl,fun H' s=>k _ H' _ s (.bl _) q⟩
 ·obtain ⟨a,us,rfl,_,h,r2⟩:=r1.sqL
  obtain rfl:=r2.ofInts
  exact⟨a,ns,rfl,.inr (aM.of h),hl,fun H' s=>k _ H' _ s (.bl _) q⟩
theorem oU {M:Addr->Prop}{H:Hp}:∀ {us:List V}{ls:List (Int × Int)},Reps K M H us (ls.map fun l=>PV.tup [.int l.1,.int l.2])->kW H us ls
 | _,[],.nil=>.nil
 | _,l :: ls,.cons r t=>by
  obtain ⟨a,us,rfl,h,r1⟩:=r.sqT
  obtain ⟨u1,u2,rfl,q1,q2⟩:=r1.two
  cases q1; cases q2
  exact .cons ⟨a,rfl,h⟩ (oU t)
theorem ay5 {M:Addr->Prop}{H:Hp}{v:V}{ws:List Int}{ls:List (Int × Int)} (r:aI K M H v (Core.bF ws ls)):zI H v ws ls:=by
 obtain ⟨a,us,rfl,h,r1⟩:=aI.sqT r
 obtain ⟨u1,u2,rfl,q1,q2⟩:=r1.two
 obtain ⟨p,up,rfl,hp,rp⟩:=q1.sqT
 obtain ⟨q,uq,rfl,hq,rq⟩:=q2.sqT
 obtain rfl:=rp.ofInts
 exact⟨a,p,q,uq,rfl,h,hp,hq,oU rq⟩
theorem K5 {M:Addr->Prop}{H:Hp}:∀ {bs:List Addr}{ls:List (Int × Int)} (off:Nat),(∀ b ∈ bs,M b)->(∀ (k:Nat) b,bs[k]? = some b->H b=some (.lst ((cC ls ((off+k:Nat):Int)).map V.int)))->Reps K M H (bs.map V.ref) ((List.range' off bs.length).map fun (k:Nat)=>PV.lst (intz (cC ls k)))
 | [],_,_,_,_=>.nil
 | b :: bs,ls,off,hm,h=>by
  refine .cons (.lst (hm b aS0) (h 0 b rfl) (Reps.intz _)) (K5 (off+1) (fun c hc=>hm c (aS2 _ hc)) fun k c hk=>?_)
  have:=h (k+1) c (by rw [aY2]; exact hk)
  rw [show off+1+k=off+(k+1) by omega]; exact this
theorem ay6 (F:cL P w K mg base dC k f fd ["web"] K4) (b:gR K fd ["web"] []) (kp:PySem.W.keepIn K (.ref f)=true) (m:mg "near_lists" = some (.ref f)):Df P w K mg base k "near_lists" ["web"] Core.iM:=by
 refine⟨f,fd,F.imp fun vs H Q E h=>?_,b,kp,m⟩
 obtain ⟨xs,Qp,r,⟨ws,ls,rfl,wb,q⟩,k⟩:=h
 obtain ⟨v,rfl,r1⟩:=r.one
 have:=wb.few
 have:=wb.most
 refine⟨v,ws,ls,rfl,ay5 r1,by omega,by omega,wb.links,fun t bs H' hb R=>k _ H' _ R.same (.lst R.new R.row ?_) q⟩
 have:=K5 (K:=K) (M:=fun a=>H a=none) (H:=H') (bs:=bs) (ls:=ls) 0 (fun b hb=>(R.news b hb).1) fun k b hk=>by rw [Nat.zero_add]; exact R.rows k b hk
 rw [hb,<- List.range_eq_range'] at this
 exact this
end
end PP
namespace Core
open PySem L2 PP
theorem lK (n:Nat):dP 0 n=intz (rng n):=by
 unfold dP rng
 show _=List.map PV.int (List.map (fun (i:Nat)=>(i:Int)) (List.range n))
 rw [aY8]
 refine List.map_congr_left fun i _=>?_
 show PV.int (0+(i:Int))=PV.int (i:Int)
 rw [Int.zero_add]
theorem qH (n:Nat):(rng n).Nodup:=by
 unfold rng
 rw [List.nodup_iff_pairwise_ne,bd3]
 exact (List.nodup_range (n:=n)).imp fun h e=>h (by omega)
def two (l:Int × Int):List Int:=[l.1,l.2]
def nP (r:List Int):Int × Int:=(r.getD 0 0,r.getD 1 0)
theorem qI (ls:List (Int × Int)):eL ls=(ls.map two).map fun r=>PV.tup (intz r):=by
 unfold eL
 rw [aY8]; rfl
theorem K6 {zs:List (List Int)}{ls:List (Int × Int)} (h:zs.Perm (ls.map two)):∃ ls':List (Int × Int),zs=ls'.map two/\ls'.Perm ls:=by
 refine⟨zs.map nP,?_,?_⟩
 ·rw [aY8]
  have:∀ z ∈ zs,(two ∘ nP) z=z:=fun z hz=>by
   obtain ⟨l,_,rfl⟩:=aV7.mp (h.mem_iff.mp hz)
   rfl
  rw [List.map_congr_left this,List.map_id']
 ·have:=h.map nP
  rw [aY8] at this
  have e:ls.map (nP ∘ two)=ls:=by
   have:∀ l ∈ ls,(nP ∘ two) l=id l:=fun l _=>rfl
   rw [List.map_congr_left this,List.map_id]
  rw [e] at this
  exact this
theorem ay7 (n:Nat):(List.replicate n [PV.int 1]).flatten=intz (List.replicate n 1):=by
 induction n with
 | zero=>rfl
 | succ n ih=>rw [aX2,aY1,ih,aX2]; rfl
def qJ:bJ:=fun xs Q=>∃ c n:Int,xs = [.int c,.int n]/\9<=n/\n<=40/\∀ ws ls,eY n ws ls->Q (bF ws ls)
def K7:aO:=(aG (cW 2 (nN (a5 1)))
 (aG (cW 3 (cH a9))
 (aG (cN (fX (a5 1)) (bZ 4)
  (aG (aY 5 (aU (gV (eF (eF (aU (a5 0) (qC (.int 1000000007))) (gV (a5 4) (a5 4))) (qC (.int 1))) (qC (.int 48271))) (qC (.int 2147483647))))
  (tT 3 2 (aU (bB (aU (gV (a5 5) (a5 5)) (qC (.int 1000003))) (qC (.int 8))) (aE eQ (a6 (a5 2) a9))))))
 (aG (cW 6 (cH a9))
 (aG (cN (mX (qC (.int 1)) (a5 1)) (bZ 4)
  (gG 6 (cD (a6 (aE mU (a6 (bK (a5 3) (jZ (a5 4) (qC (.int 1)))) (a6 (bK (a5 3) (a5 4)) a9))) (a6 (aE mV (a6 (bK (a5 3) (jZ (a5 4) (qC (.int 1)))) (a6 (bK (a5 3) (a5 4)) a9))) a9)))))
 (b4 (cD (a6 (aw6 (cD (a6 (qC (.int 1)) a9)) (a5 1)) (a6 (aE dJ (a6 (aE lJ (a6 (a5 6) a9)) a9)) a9)))))))))
theorem K8 (f:Int->PV):∀ (l:List Int) (i:Nat),(l.map f).eraseIdx i=(l.eraseIdx i).map f
 | [],_=>rfl
 | _ :: _,0=>rfl
 | a :: r,i+1=>by
  show f a :: (r.map f).eraseIdx i=f a :: (r.eraseIdx i).map f
  rw [K8 f r i]
theorem ay8 {left row:List Int}{m:Nat}{y:Int} (h:left[m]? = some y):(left.eraseIdx m ++ (row ++ [y])).Perm (left ++ row):=by
 have hm:m < left.length:=(aR4.mp h).1
 have e:left=left.take m ++ y :: left.drop (m+1):=by
  have h1:=(ba9 m left).symm
  rw [List.drop_eq_getElem_cons hm] at h1
  rw [aQ7 hm] at h
  cases h
  exact h1
 rw [List.eraseIdx_eq_take_drop_succ]
 conv=>rhs; rw [e]
 rw [bb5,bb5]
 refine List.Perm.append_left _ ?_
 rw [List.cons_append,<- bb5]
 exact List.perm_append_singleton y _
theorem ay9 {ls:List (Int × Int)} (so:(ls.map two).Pairwise fun u v=>HT.dZ v u=false) (nd:ls.Nodup):ls.Pairwise jB:=by
 rw [bd3] at so
 refine (List.pairwise_and_iff.mpr ⟨so,nd⟩).imp fun {a b} h=>?_
 obtain ⟨h1,h2⟩:=h
 unfold two at h1
 rw [HT.mD] at h1
 unfold jB
 by_cases e:b.1=a.1
 ·rw [if_pos e,HT.mD] at h1
  by_cases e2:b.2=a.2
  ·exact absurd (Prod.ext e.symm e2.symm) h2
  ·rw [if_neg e2] at h1
   have:=bc5 h1
   omega
 ·rw [if_neg e] at h1
  have:=bc5 h1
  omega
theorem eY.perm {n:Int}{ws:List Int}{ls ls':List (Int × Int)} (h1:(ws.length:Int)=n) (h2:∀ l ∈ ls,0<=l.1/\l.1 < l.2/\l.2 < n) (h3:ls.length<=63) (nd:ls.Nodup) (h4:∀ w ∈ ws,0<=w) (p:ls'.Perm ls) (so:(ls'.map two).Pairwise fun u v=>HT.dZ v u=false):eY n ws ls':=
 ⟨h1,fun l hl=>h2 l (p.mem_iff.mp hl),by rw [p.length_eq]; exact h3,ay9 so (p.nodup_iff.mpr nd),h4⟩
structure qK (row:List Int) (ls:List (Int × Int)) (j:Nat):Prop where
 nd:ls.Nodup
 src:∀ l ∈ ls,∃ i,i < j/\∃ a b,row[i]? = some a/\row[i+1]? = some b/\((l.1=a/\l.2=b) ∨ (l.1=b/\l.2=a))
theorem qK.add {row:List Int}{ls:List (Int × Int)}{j:Nat}{p r:Int}{l:Int × Int} (h:qK row ls j) (nd:row.Nodup) (hp:row[j]? = some p) (hr:row[j+1]? = some r) (hl:(l.1=p/\l.2=r) ∨ (l.1=r/\l.2=p)):qK row (ls ++ [l]) (j+1):=by
 have same:∀ {i k:Nat}{a:Int},row[i]? = some a->row[k]? = some a->i=k:=fun {i k a} h1 h2=>by
  obtain ⟨i1,e1⟩:=aR4.mp h1
  obtain ⟨k1,e2⟩:=aR4.mp h2
  have pw:=aY9.mp nd
  rcases Nat.lt_trichotomy i k with h | h | h
  ·exact absurd (e1.trans e2.symm) (pw i k i1 k1 h)
  ·exact h
  ·exact absurd (e2.trans e1.symm) (pw k i k1 i1 h)
 refine⟨aZ1.mpr ⟨h.nd,aW0 _ _,fun x hx y hy e=>?_⟩,fun m hm=>?_⟩
 ·rw [aS4.mp hy] at e
  obtain ⟨i,hi,a,b,ha,hb,c⟩:=h.src x hx
  rw [e] at c
  rcases hl with ⟨l1,l2⟩ | ⟨l1,l2⟩ <;> rcases c with ⟨c1,c2⟩ | ⟨c1,c2⟩
  ·have:=same (a:=r) hr (by rw [<- l2,c2]; exact hb); omega
  ·have:=same (a:=r) hr (by rw [<- l2,c2]; exact ha); omega
  ·have:=same (a:=r) hr (by rw [<- l1,c1]; exact ha); omega
  ·have:=same (a:=r) hr (by rw [<- l1,c1]; exact hb); omega
 ·rcases aU2.mp hm with hm | hm
  ·obtain ⟨i,hi,r⟩:=h.src m hm
   exact⟨i,by omega,r⟩
  ·rw [aS4.mp hm]
   exact⟨j,by omega,p,r,hp,hr,hl⟩
theorem K9 (ws:List Int) (ls:List (Int × Int)):flats [.tup (intz ws),.tup (eL ls)]=true:=av5 ws ls
theorem az0:cP K7 ["cell","many","left","row","k","number","links"] qJ:=by
 rintro xs Q ⟨c,n,rfl,n0,n1,q⟩
 refine⟨_,rfl,n,rfl,by omega,by omega,rfl,?_,?_⟩
 ·show flats (dP 0 n.toNat)=true
  rw [lK]; exact c7 _
 rw [lK]
 refine⟨by decide,rfl,rfl,rfl,?_⟩
 refine⟨_,rfl,n,rfl,by omega,by omega,fun i ρ=>∃ (y z:Option Slot) (left row:List Int),ρ = [si c,si n,some (.own (.lst (intz left))),some (.own (.lst (intz row))),y,z,none]/\(left ++ row).Perm (rng n.toNat)/\row.length=i,
  ⟨none,none,rng n.toNat,[],rfl,by rw [aV4],rfl⟩,?_,?_⟩
 ·rintro i y ρ hy ⟨y0,z0,left,row,rfl,pm,hr⟩
  obtain ⟨rfl,hi⟩:=gY hy
  have hll:left.length+row.length=n.toNat:=by
   have:=pm.length_eq
   rw [aR3,lG] at this
   exact this
  refine⟨_,rfl,_,_,rfl,rfl,(by show (0:Int) < 1000000007; decide),_,rfl,_,rfl,_,_,rfl,rfl,.inl ⟨by omega,by omega⟩,_,_,rfl,rfl,_,_,rfl,rfl,_,_,rfl,rfl,.inr ⟨by decide,by decide⟩,_,_,rfl,rfl,(by show (0:Int) < 2147483647; decide),trivial,?_⟩
  dsimp only
  generalize hnum:((c % 1000000007+(0+(i:Int)) * (0+(i:Int))+1) * 48271) % 2147483647=num
  have b1:0<=num:=by rw [<- hnum]; exact aT6 _ (by decide)
  have b2:num < 2147483647:=by rw [<- hnum]; exact aU0 _ (by decide)
  have uM:(0:Int) < ((intz left).length:Nat):=by rw [b6]; omega
  refine⟨_,_,by decide,rfl,rfl,_,rfl,_,rfl,_,_,rfl,rfl,.inl ⟨by omega,by omega⟩,_,_,rfl,rfl,(by show (0:Int) < 1000003; decide),_,_,rfl,rfl,⟨by decide,by decide⟩,_,rfl,_,_,rfl,rfl,_,_,rfl,rfl,uM,?_⟩
  dsimp only
  generalize hv:(num * num % 1000003 / 8) % (((intz left).length:Nat):Int)=v
  have v1:0<=v:=by rw [<- hv]; exact aT6 _ (by omega)
  have v2:v < ((intz left).length:Nat):=by rw [<- hv]; exact aU0 _ uM
  have v3:v.toNat < left.length:=by rw [b6] at v2; omega
  refine⟨v.toNat,.int left[v.toNat],congrArg PV.int (by omega),by rw [b6]; omega,by rw [b6]; omega,by rw [aS5,aQ7 v3]; rfl,?_⟩
  refine⟨si (0+(i:Int)),si num,left.eraseIdx v.toNat,row ++ [left[v.toNat]],?_,(ay8 (aQ7 v3)).trans pm,by rw [aR3,hr]; rfl⟩
  have e1:(intz left).eraseIdx v.toNat=intz (left.eraseIdx v.toNat):=K8 _ _ _
  rw [dS,<- e1]; rfl
 rintro ρ ⟨y0,z0,left,row,rfl,pm,hr⟩
 rw [eS] at hr
 have hll:left.length+row.length=n.toNat:=by
  have:=pm.length_eq
  rw [aR3,lG] at this
  exact this
 have hl0:left = []:=List.length_eq_zero_iff.mp (by omega)
 subst hl0
 rw [List.nil_append] at pm
 have nd:row.Nodup:=pm.nodup_iff.mpr (qH _)
 have inn:∀ x ∈ row,0<=x/\x < n:=fun x hx=>by
  have:=pX.mp (pm.mem_iff.mp hx); omega
 refine⟨by decide,rfl,rfl,rfl,?_⟩
 refine⟨_,rfl,1,n,rfl,rfl,by omega,fun j ρ=>∃ (y:Option Slot) (ls:List (Int × Int)),ρ = [si c,si n,some (.own (.lst (intz []))),some (.own (.lst (intz row))),y,z0,some (.own (.lst (eL ls)))]/\(∀ l ∈ ls,0<=l.1/\l.1 < l.2/\l.2 < n)/\ls.length=j/\qK row ls j,
  ⟨y0,[],rfl,(fun _ h=>nomatch h),rfl,⟨.nil,fun _ h=>nomatch h⟩⟩,?_,?_⟩
 ·rintro j y ρ hy ⟨y1,ls,rfl,hin,hjl,lp⟩
  obtain ⟨rfl,hj⟩:=gY hy
  have j1:j < row.length:=by omega
  have j2:j+1 < row.length:=by omega
  have a1:atI (intz row) ((1:Int)+(j:Int) - 1)=some (.int row[j]):=by
   rw [show (1:Int)+(j:Int) - 1=(j:Int) by omega]; exact sH (by rw [aS5,aQ7 j1]; rfl)
  have a2:atI (intz row) ((1:Int)+(j:Int))=some (.int row[j+1]):=by
   rw [show (1:Int)+(j:Int)=((j+1:Nat):Int) by omega]; exact sH (by rw [aS5,aQ7 j2]; rfl)
  have hne:row[j] ≠ row[j+1]:=fun e=>by
   exact (aY9.mp nd) j (j+1) j1 j2 (by omega) e
  have m1:=inn _ (aZ8 j1)
  have m2:=inn _ (aZ8 j2)
  have g1:=aQ7 j1
  have g2:=aQ7 j2
  generalize row[j]=p at *
  generalize row[j+1]=r at *
  refine⟨_,rfl,_,rfl,_,rfl,_,_,rfl,rfl,_,_,_,rfl,rfl,a1,_,rfl,_,rfl,_,_,_,rfl,rfl,a2,_,_,rfl,_,rfl,_,rfl,_,_,rfl,rfl,_,_,_,rfl,rfl,a1,_,rfl,_,rfl,_,_,_,rfl,rfl,a2,_,_,rfl,by show 2<=1000; decide,rfl,trivial,by rw [J6]; omega,?_⟩
  refine⟨si (1+(j:Int)),ls ++ [(if r < p then r else p,if r > p then r else p)],?_,fun l hl=>?_,by rw [aR3,hjl]; rfl,lp.add nd g1 g2 ?_⟩
  ·unfold eL; rw [aT8]; rfl
  ·rcases aU2.mp hl with hl | hl
   ·exact hin l hl
   ·rw [aS4.mp hl]
    dsimp only
    split <;> split <;> omega
  ·dsimp only
   split <;> split <;> omega
 rintro ρ ⟨y1,ls,rfl,hin,hjl,lp⟩
 rw [eS] at hjl
 refine⟨by decide,rfl,_,rfl,_,_,rfl,rfl,rfl,(fun z=>nomatch z),by omega,by omega,by decide,_,rfl,ls.map two,congrArg (fun z=>[PV.lst z]) (qI ls),by rw [aR1]; omega,?_,fun zs pz so=>?_⟩
 ·intro y hy z
  obtain ⟨l,_,rfl⟩:=aV7.mp hy
  cases z
 obtain ⟨ls',rfl,pl⟩:=K6 pz
 have e1:(List.replicate n.toNat (List.map (fun (x:PV × Tg)=>x.fst) [(PV.int 1,Tg.fr)])).flatten=intz (List.replicate n.toNat 1):=ay7 _
 rw [<- qI,e1]
 refine⟨⟨_,_,rfl,rfl,lH _,by show 2<=1000; decide,K9 _ _,trivial,q _ ls' (eY.perm ?_ hin (by omega) lp.nd (fun w hw=>by rw [(List.mem_replicate.mp hw).2]; decide) pl so)⟩,fun ns z=>by cases z⟩
 rw [List.length_replicate]; omega
def nQ:bJ:=fun xs Q=>∃ x ns n wy,xs = [x,.int n,.int wy]/\hG x ns/\ns.length<=63/\0<=n/\n<=40/\∀ ws ls,eY n ws ls->Q (bF ws ls)
def L4:aO:=(aG (bG (jT (aS (dB (aU (bB (a5 2) (qC (.int 8))) (qC (.int 4))) (qC (.int 1)))) (aS (nD (a5 1) (qC (.int 8))))) (b4 (aE qJ (a6 (aE dU (a6 (a5 0) (a6 (qC (.int 0)) a9))) (a6 (a5 1) a9)))) bM)
 (aG (bG (jT (aS (dB (aU (bB (a5 2) (qC (.int 4))) (qC (.int 2))) (qC (.int 1)))) (aS (iI (a5 1) (qC (.int 9))))) (b4 (aE nO (a6 (aE dU (a6 (a5 0) (a6 (qC (.int 0)) a9))) (a6 (aE dU (a6 (a5 0) (a6 (qC (.int 1)) a9))) (a6 (a5 1) (a6 (bK (cH (a6 (qC (.int 4)) (a6 (qC (.int 3)) (a6 (qC (.int 6)) (a6 (qC (.int 61)) a9))))) (aU (a5 2) (qC (.int 4)))) a9)))))) bM)
 (aG (cW 3 (cH a9))
 (aG (cN (fX (a5 1)) (bZ 4)
  (aG (aY 5 (aE dU (a6 (a5 0) (a6 (a5 4) a9))))
  (gG 3 (bK (cH (a6 (aU (bB (a5 5) (qC (.int 5))) (qC (.int 4))) (a6 (aU (bB (a5 5) (qC (.int 5))) (qC (.int 3))) (a6 (aU (bB (a5 5) (qC (.int 5))) (qC (.int 6))) (a6 (aU (bB (a5 5) (qC (.int 5))) (qC (.int 61))) a9))))) (aU (a5 2) (qC (.int 4)))))))
 (aG (cW 6 (qC (.dT [])))
 (aG (cN (eR (a5 0)) (bZ 5)
  (bG (aS (nD (a5 1) (qC (.int 1)))) (aG (aY 7 (aU (a5 5) (a5 1)))
   (aG (aY 8 (aU (bB (aU (gV (aU (a5 5) (qC (.int 1000000007))) (qC (.int 48271))) (qC (.int 2147483647))) (qC (.int 89))) (a5 1)))
   (bG (aS (pL (a5 7) (a5 8))) (pJ 6 (cD (a6 (aE mU (a6 (a5 7) (a6 (a5 8) a9))) (a6 (aE mV (a6 (a5 7) (a6 (a5 8) a9))) a9))) (qC (.bl true))) bM))) bM))
 (b4 (cD (a6 (aE dJ (a6 (a5 3) a9)) (a6 (aE dJ (a6 (aE lJ (a6 (aE qE (a6 (a5 6) a9)) a9)) a9)) a9))))))))))
def L5:aO:=(aG (cW 3 (cH a9))
 (aG (cN (fX (a5 1)) (bZ 4)
  (aG (aY 5 (aE dU (a6 (a5 0) (a6 (a5 4) a9))))
  (gG 3 (bK (cH (a6 (aU (bB (a5 5) (qC (.int 5))) (qC (.int 4))) (a6 (aU (bB (a5 5) (qC (.int 5))) (qC (.int 3))) (a6 (aU (bB (a5 5) (qC (.int 5))) (qC (.int 6))) (a6 (aU (bB (a5 5) (qC (.int 5))) (qC (.int 61))) a9))))) (aU (a5 2) (qC (.int 4)))))))
 (aG (cW 6 (qC (.dT [])))
 (aG (cN (eR (a5 0)) (bZ 5)
  (bG (aS (nD (a5 1) (qC (.int 1)))) (aG (aY 7 (aU (a5 5) (a5 1)))
   (aG (aY 8 (aU (bB (aU (gV (aU (a5 5) (qC (.int 1000000007))) (qC (.int 48271))) (qC (.int 2147483647))) (qC (.int 89))) (a5 1)))
   (bG (aS (pL (a5 7) (a5 8))) (pJ 6 (cD (a6 (aE mU (a6 (a5 7) (a6 (a5 8) a9))) (a6 (aE mV (a6 (a5 7) (a6 (a5 8) a9))) a9))) (qC (.bl true))) bM))) bM))
 (b4 (cD (a6 (aE dJ (a6 (a5 3) a9)) (a6 (aE dJ (a6 (aE lJ (a6 (aE qE (a6 (a5 6) a9)) a9)) a9)) a9))))))))
def L6:aO:=(aG (bG (jT (aS (dB (aU (bB (a5 2) (qC (.int 4))) (qC (.int 2))) (qC (.int 1)))) (aS (iI (a5 1) (qC (.int 9))))) (b4 (aE nO (a6 (aE dU (a6 (a5 0) (a6 (qC (.int 0)) a9))) (a6 (aE dU (a6 (a5 0) (a6 (qC (.int 1)) a9))) (a6 (a5 1) (a6 (bK (cH (a6 (qC (.int 4)) (a6 (qC (.int 3)) (a6 (qC (.int 6)) (a6 (qC (.int 61)) a9))))) (aU (a5 2) (qC (.int 4)))) a9)))))) bM)
 L5)
theorem az1 {a b c d:PV}{i:Int} (h0:0<=i) (h1:i < 4):∃ z,atI [a,b,c,d] i=some z/\(z=a ∨ z=b ∨ z=c ∨ z=d):=by
 have:i=0 ∨ i=1 ∨ i=2 ∨ i=3:=by omega
 rcases this with rfl | rfl | rfl | rfl
 ·exact⟨a,rfl,.inl rfl⟩
 ·exact⟨b,rfl,.inr (.inl rfl)⟩
 ·exact⟨c,rfl,.inr (.inr (.inl rfl))⟩
 ·exact⟨d,rfl,.inr (.inr (.inr rfl))⟩
theorem qL {a b c d:Int}{i:Int} (h0:0<=i) (h1:i < 4):∃ z:Int,atI [PV.int a,PV.int b,PV.int c,PV.int d] i=some (.int z)/\(z=a ∨ z=b ∨ z=c ∨ z=d):=by
 obtain ⟨z,h,e⟩:=az1 (a:=PV.int a) (b:=PV.int b) (c:=PV.int c) (d:=PV.int d) h0 h1
 rcases e with rfl | rfl | rfl | rfl
 ·exact⟨a,h,.inl rfl⟩
 ·exact⟨b,h,.inr (.inl rfl)⟩
 ·exact⟨c,h,.inr (.inr (.inl rfl))⟩
 ·exact⟨d,h,.inr (.inr (.inr rfl))⟩
def kE (l:Int × Int):List aD:=[Sum.inl l.1,Sum.inl l.2]
structure DL (n:Int) (ps:List (List aD × PV)) (i:Nat):Prop where
 key:∀ p ∈ ps,∃ l:Int × Int,p.1=kE l/\0<=l.1/\l.1 < l.2/\l.2 < n
 len:ps.length<=i
 fl:flats (ps.map (·.2))=true
 nd:(ps.map (·.1)).Nodup
theorem az2 {κ:Type} [DecidableEq κ] {ps:List (κ × PV)} (k:κ) (v:PV) (h:(ps.map (·.1)).Nodup):((cI ps k v).map (·.1)).Nodup:=by
 unfold cI
 split
 ·rw [aY8]
  have:((fun x:κ × PV=>x.1) ∘ fun kv:κ × PV=>if kv.1=k then (kv.1,v) else kv)=fun x=>x.1:=by
   funext x
   show (if x.1=k then (x.1,v) else x).1=x.1
   split <;> rfl
  rw [this]; exact h
 ·rename_i hn
  rw [aT8]
  refine aZ1.mpr ⟨h,aW0 _ _,fun x hx y hy e=>hn ?_⟩
  obtain ⟨p,hp,rfl⟩:=aV7.mp hx
  rw [aS4.mp hy] at e
  exact List.any_eq_true.mpr ⟨p,hp,aS3 e⟩
theorem az3 {κ:Type} [DecidableEq κ] {ps:List (κ × PV)}{k:κ}{v:PV}{p:κ × PV} (h:p ∈ cI ps k v):p.1=k ∨ ∃ q ∈ ps,q.1=p.1:=by
 unfold cI at h
 split at h
 ·obtain ⟨q,hq,e⟩:=aV7.mp h
  split at e
  ·subst e; exact .inr ⟨q,hq,rfl⟩
  ·subst e; exact .inr ⟨q,hq,rfl⟩
 ·rcases aU2.mp h with h | h
  ·exact .inr ⟨p,h,rfl⟩
  ·rw [aS4.mp h]; exact .inl rfl
theorem DL.put {n:Int}{ps:List (List aD × PV)}{i:Nat} (h:DL n ps i) (l:Int × Int) (hl:0<=l.1/\l.1 < l.2/\l.2 < n):DL n (cI ps (kE l) (.bl true)) (i+1):=by
 refine⟨fun p hp=>?_,?_,uV h.fl rfl,az2 _ _ h.nd⟩
 ·rcases az3 hp with e | ⟨q,hq,e⟩
  ·exact⟨l,e,hl⟩
  ·obtain ⟨l',e',h'⟩:=h.key q hq
   exact⟨l',e ▸ e',h'⟩
 ·have:=uU ps (kE l) (.bl true)
  have:=h.len
  omega
theorem DL.links {n:Int}:∀ {ps:List (List aD × PV)},(∀ p ∈ ps,∃ l:Int × Int,p.1=kE l/\0<=l.1/\l.1 < l.2/\l.2 < n)->∃ ls:List (Int × Int),(ps.map fun p=>PV.tup (p.1.map kP))=eL ls/\(∀ l ∈ ls,0<=l.1/\l.1 < l.2/\l.2 < n)/\ls.length=ps.length/\ps.map (·.1)=ls.map kE
 | [],_=>⟨[],rfl,(fun _ h=>nomatch h),rfl,rfl⟩
 | p :: ps,h=>by
  obtain ⟨l,e,hl⟩:=h p aS0
  obtain ⟨ls,h1,h2,h3,h4⟩:=DL.links (ps:=ps) fun q hq=>h q (aS2 _ hq)
  refine⟨l :: ls,?_,fun m hm=>?_,by rw [aT9,aT9,h3],by rw [aU8,aU8,h4,e]⟩
  ·rw [aU8,h1,e]; rfl
  ·rcases aR2.mp hm with rfl | hm
   ·exact hl
   ·exact h2 m hm
theorem az4 {x:PV}{ns:List Int} (h:hG x ns):(Slot.sh (flat x) x).tag = .rd->flat x=true:=by
 cases flat x <;> intro z <;> cases z
theorem az5 {x:PV}{ns:List Int}{n wy:Int}{Q:PV->Prop} (hx:hG x ns) (hns:ns.length<=63) (n0:0<=n) (n1:n<=40) (q:∀ ws ls,eY n ws ls->Q (bF ws ls)):L6 { nx:=fun _=>Q .non,rt:=Q } [some (.sh (flat x) x),si n,si wy,none,none,none,none,none,none]:=by
 have d4:(0:Int) < 4:=by decide
 have last:L5 { nx:=fun _=>Q .non,rt:=Q } [some (.sh (flat x) x),si n,si wy,none,none,none,none,none,none]:=by
  refine⟨by decide,rfl,rfl,rfl,?_⟩
  refine⟨_,rfl,n,rfl,by omega,by omega,fun i ρ=>∃ (y z:Option Slot) (ws:List Int),ρ = [some (.sh (flat x) x),si n,si wy,some (.own (.lst (intz ws))),y,z,none,none,none]/\ws.length=i/\∀ w ∈ ws,0<=w,⟨none,none,[],rfl,rfl,fun _ h=>nomatch h⟩,?_,?_⟩
  ·rintro i y ρ hy ⟨y0,z0,ws,rfl,hl,hp⟩
   obtain ⟨rfl,hi⟩:=gY hy
   refine⟨_,rfl,_,rfl,x,ns,_,rfl,hx,by omega,trivial,?_⟩
   generalize ns.getD ((0:Int)+(i:Int)).toNat 0=cell
   obtain ⟨z,hz,hzz⟩:=qL (a:=cell / 5 % 4) (b:=cell / 5 % 3) (c:=cell / 5 % 6) (d:=cell / 5 % 61) (i:=wy % 4) (aT6 _ (by decide)) (aU0 _ d4)
   refine⟨_,rfl,_,rfl,_,_,rfl,rfl,⟨by decide,by decide⟩,_,_,rfl,rfl,d4,_,rfl,_,_,rfl,rfl,⟨by decide,by decide⟩,_,_,rfl,rfl,(by show (0:Int) < 3; decide),_,rfl,_,_,rfl,rfl,⟨by decide,by decide⟩,_,_,rfl,rfl,(by show (0:Int) < 6; decide),_,rfl,_,_,rfl,rfl,⟨by decide,by decide⟩,_,_,rfl,rfl,(by show (0:Int) < 61; decide),by show 4<=1000; decide,rfl,_,rfl,_,_,rfl,rfl,d4,_,_,_,rfl,rfl,hz,qF _ _,by rw [b6]; omega,?_⟩
   refine⟨si (0+(i:Int)),si cell,ws ++ [z],?_,by rw [aR3,hl]; rfl,fun w hw=>?_⟩
   ·rw [dS]; rfl
   ·rcases aU2.mp hw with hw | hw
    ·exact hp w hw
    ·rw [aS4.mp hw]
     rcases hzz with e | e | e | e <;> rw [e] <;> exact aT6 _ (by decide)
  rintro ρ ⟨y0,z0,ws,rfl,hl,hp⟩
  rw [eS] at hl
  refine⟨rfl,rfl,?_⟩
  refine⟨_,rfl,_,hx.seq,az4 hx,fun i ρ=>∃ (y z u:Option Slot) (ps:List (List aD × PV)),ρ = [some (.sh (flat x) x),si n,si wy,some (.own (.lst (intz ws))),y0,y,some (.own (.dT ps)),z,u]/\DL n ps i,⟨z0,none,none,[],rfl,⟨(fun _ h=>nomatch h),aR0 _,rfl,.nil⟩⟩,?_,?_⟩
  ·rintro i y ρ hy ⟨y1,z1,u1,ps,rfl,dl⟩
   obtain ⟨cell,rfl,hc⟩:=iL hy
   have hi:i < ns.length:=(aR4.mp hc).1
   generalize pD _ _=gg
   have dl1:DL n ps (i+1):=⟨dl.key,Nat.le_succ_of_le dl.len,dl.fl,dl.nd⟩
   refine⟨_,rfl,_,_,rfl,rfl,_,rfl,?_⟩
   by_cases h1:(1:Int) < n
   ·dsimp only
    rw [aS3 h1]
    have np:(0:Int) < n:=by omega
    refine aX ⟨_,rfl,_,rfl,_,_,rfl,rfl,np,trivial,?_⟩
    refine⟨_,rfl,_,_,rfl,rfl,(by show (0:Int) < 1000000007; decide),_,_,rfl,rfl,.inr ⟨by decide,by decide⟩,_,_,rfl,rfl,(by show (0:Int) < 2147483647; decide),_,_,rfl,rfl,⟨by decide,by decide⟩,_,rfl,_,_,rfl,rfl,np,trivial,?_⟩
    dsimp only
    generalize hone:cell % n=one
    generalize hoth:cell % 1000000007 * 48271 % 2147483647 / 89 % n=oth
    have o1:0<=one/\one < n:=by rw [<- hone]; exact⟨aT6 _ (by omega),aU0 _ np⟩
    have o2:0<=oth/\oth < n:=by rw [<- hoth]; exact⟨aT6 _ (by omega),aU0 _ np⟩
    refine⟨_,rfl,_,rfl,.inl ⟨_,_,rfl,rfl,_,rfl,?_⟩⟩
    by_cases h2:one=oth
    ·show if (!decide (one=oth))=true then _ else _
     rw [aS3 h2]
     exact aV ⟨some (.sh (gg || true) (.int cell)),si one,si oth,ps,rfl,dl1⟩
    ·show if (!decide (one=oth))=true then _ else _
     rw [aR5 h2]
     refine aX ⟨_,rfl,_,rfl,_,rfl,_,_,rfl,_,rfl,_,rfl,_,_,rfl,by show 2<=1000; decide,rfl,kE (if oth < one then oth else one,if oth > one then oth else one),rfl,trivial,by have:=dl.len; omega,?_⟩
     refine⟨some (.sh (gg || true) (.int cell)),si one,si oth,_,rfl,dl.put _ ?_⟩
     dsimp only
     split <;> split <;> omega
   ·dsimp only
    rw [aR5 h1]
    exact aV ⟨some (.sh (gg || true) (.int cell)),z1,u1,ps,rfl,dl1⟩
  rintro ρ ⟨y1,z1,u1,ps,rfl,dl⟩
  rw [b6] at dl
  obtain ⟨ls,e1,e2,e3,e4⟩:=DL.links dl.key
  have lnd:ls.Nodup:=by
   have:=dl.nd
   rw [e4] at this
   exact (bd3.mp this).imp fun h e=>h (congrArg kE e)
  have hlen:=dl.len
  refine⟨_,rfl,⟨_,_,rfl,rfl,c7 _,_,rfl,ps,rfl,ls.map two,?_,by rw [aR1]; omega,?_,fun zs pz so=>?_⟩,fun ns z=>by cases z⟩
  ·show [PV.lst (ps.map fun p=>PV.tup (p.1.map kP))]=_
   rw [e1,qI]
  ·intro y hy z
   obtain ⟨l,_,rfl⟩:=aV7.mp hy
   cases z
  obtain ⟨ls',rfl,pl⟩:=K6 pz
  rw [<- qI]
  exact⟨⟨_,_,rfl,rfl,lH _,by show 2<=1000; decide,K9 _ _,trivial,q ws ls' (eY.perm (by omega) e2 (by omega) lnd hp pl so)⟩,fun ns z=>by cases z⟩
 refine⟨_,rfl,_,_,rfl,rfl,⟨by decide,by decide⟩,_,_,rfl,rfl,(by show (0:Int) < 2; decide),.inl ⟨_,_,rfl,rfl,_,rfl,?_⟩⟩
 cases hc:(decide (wy / 4 % 2=1)) with
 | false=>exact aV (aV last)
 | true=>
  refine aX ⟨_,rfl,_,_,rfl,rfl,_,rfl,?_⟩
  by_cases h:n < 9
  ·dsimp only
   rw [aS3 h]
   obtain ⟨z,hz,e⟩:=qL (a:=4) (b:=3) (c:=6) (d:=61) (i:=wy % 4) (aT6 _ (by decide)) (aU0 _ d4)
   refine aX ⟨_,rfl,x,ns,0,rfl,hx,by decide,_,rfl,x,ns,1,rfl,hx,by decide,_,rfl,by show 4<=1000; decide,rfl,_,rfl,_,_,rfl,rfl,d4,_,_,_,rfl,rfl,hz,_,_,n,z,rfl,n0,by omega,by omega,by omega,fun ws ls w=>⟨trivial,q ws ls w⟩⟩
  ·dsimp only
   rw [aR5 h]; exact aV last
theorem az6:cP L4 ["flow","many","way","wants","k","cell","pairs","one","other"] nQ:=by
 rintro xs Q ⟨x,ns,n,wy,rfl,hx,hns,n0,n1,q⟩
 have d4:(0:Int) < 4:=by decide
 have mid:L6 { nx:=fun _=>Q .non,rt:=Q } [some (.sh (flat x) x),si n,si wy,none,none,none,none,none,none]:=az5 hx hns n0 n1 q
 refine⟨_,rfl,_,_,rfl,rfl,⟨by decide,by decide⟩,_,_,rfl,rfl,d4,.inl ⟨_,_,rfl,rfl,_,rfl,?_⟩⟩
 cases hc:(decide (wy / 8 % 4=1)) with
 | false=>exact aV (aV mid)
 | true=>
  refine aX ⟨_,rfl,_,_,rfl,rfl,_,rfl,?_⟩
  by_cases h:(8:Int) < n
  ·dsimp only
   rw [aS3 h]
   exact aX ⟨_,rfl,x,ns,0,rfl,hx,by decide,_,rfl,_,n,rfl,by omega,by omega,fun ws ls w=>⟨trivial,q ws ls w⟩⟩
  ·dsimp only
   rw [aR5 h]; exact aV mid
def qM:bJ:=fun xs Q=>∃ ns k,xs = [.scr ns,.int k]/\ns.length<=63/\0<=k/\∀ n ws ls,0<=n->n<=40->eY n ws ls->Q (bF ws ls)
def L7:aO:=(aG (aY 2 (aE dU (a6 (a5 0) (a6 (qC (.int 0)) a9))))
 (aG (aY 3 (aU (a5 2) (qC (.int 9))))
 (aG (bG (aS (dB (aU (bB (a5 2) (qC (.int 9))) (qC (.int 4))) (qC (.int 1)))) (aY 3 (aU (bB (a5 2) (qC (.int 36))) (qC (.int 41)))) bM)
 (b4 (aE nQ (a6 (fK (a5 0) (fJ (a5 1)) fI) (a6 (a5 3) (a6 (bB (a5 2) (qC (.int 1476))) a9))))))))
theorem v4 (ns:List Int) {k:Int} (h:0<=k):eD (intz ns) (some k) none=intz (ns.drop k.toNat):=by
 unfold eD
 have e1:HT.aR (intz ns).length 0 (some k)=min k.toNat (intz ns).length:=by
  have:=HT.xF (intz ns).length 0 k.toNat
  rw [show ((k.toNat:Nat):Int)=k by omega] at this
  exact this
 have e2:HT.aR (intz ns).length (intz ns).length none=(intz ns).length:=rfl
 rw [e1,e2,b6]
 rw [List.take_of_length_le (by rw [aU6,b6]; omega)]
 show _=List.map PV.int _
 rw [List.map_drop]
 by_cases hk:k.toNat<=ns.length
 ·rw [Nat.min_eq_left hk]
 ·rw [Nat.min_eq_right (by omega),List.drop_of_length_le (by rw [b6]; omega),List.drop_of_length_le (by rw [b6]; omega)]
theorem az7:cP L7 ["script","at","head","many"] qM:=by
 rintro xs Q ⟨ns,k,rfl,hl,k0,q⟩
 refine⟨_,rfl,_,ns,0,rfl,.inl rfl,by decide,trivial,?_⟩
 generalize ns.getD (0:Int).toNat 0=head
 refine⟨_,rfl,_,_,rfl,rfl,(by show (0:Int) < 9; decide),trivial,?_⟩
 have fin:∀ many:Int,0<=many->many<=40->(b4 (aE nQ (a6 (fK (a5 0) (fJ (a5 1)) fI) (a6 (a5 3) (a6 (bB (a5 2) (qC (.int 1476))) a9))))) { nx:=fun _=>Q .non,rt:=Q } [some (.sh true (.scr ns)),si k,si head,si many]:=fun many h0 h1=>by
  refine⟨_,rfl,_,rfl,_,rfl,_,rfl,c7 _,_,rfl,_,rfl,_,_,rfl,rfl,⟨by decide,by decide⟩,_,ns.drop k.toNat,many,_,rfl,?_,by rw [aU6]; omega,h0,h1,fun ws ls w=>⟨trivial,q many ws ls h0 h1 w⟩⟩
  show hG (.lst (eD (intz ns) (some k) none)) _
  rw [v4 ns k0]
  exact .inr rfl
 refine⟨_,rfl,_,_,rfl,rfl,⟨by decide,by decide⟩,_,_,rfl,rfl,(by show (0:Int) < 4; decide),.inl ⟨_,_,rfl,rfl,_,rfl,?_⟩⟩
 cases hc:(decide (head / 9 % 4=1)) with
 | false=>
  have a1:=aT6 head (show (9:Int) ≠ 0 by decide)
  have a2:=aU0 head (show (0:Int) < 9 by decide)
  exact aV (fin (head % 9) a1 (by omega))
 | true=>
  have a1:=aT6 (head / 36) (show (41:Int) ≠ 0 by decide)
  have a2:=aU0 (head / 36) (show (0:Int) < 41 by decide)
  exact aX ⟨_,rfl,_,_,rfl,rfl,⟨by decide,by decide⟩,_,_,rfl,rfl,(by show (0:Int) < 41; decide),trivial,fin (head / 36 % 41) a1 (by omega)⟩
structure dW (i:Int) (ms:List Int):Prop where
 up:ms.Pairwise (· < ·)
 inn:∀ x ∈ ms,0<=x/\x < i
 len:(ms.length:Int)<=i
theorem dW.nil:dW 0 []:=⟨.nil,(fun _ h=>nomatch h),Int.le_refl _⟩
theorem dW.skip {i:Nat}{ms:List Int} (h:dW (i:Int) ms):dW ((i+1:Nat):Int) ms:=⟨h.up,fun x hx=>by have:=h.inn x hx; omega,by have:=h.len; omega⟩
theorem dW.take {i:Nat}{ms:List Int} (h:dW (i:Int) ms):dW ((i+1:Nat):Int) (ms ++ [(0:Int)+(i:Int)]):=by
 refine⟨List.pairwise_append.mpr ⟨h.up,aW0 _ _,fun x hx y hy=>?_⟩,fun x hx=>?_,?_⟩
 ·rw [aS4.mp hy]; have:=h.inn x hx; omega
 ·rcases aU2.mp hx with hx | hx
  ·have:=h.inn x hx; omega
  ·rw [aS4.mp hx]; omega
 ·rw [aR3,aZ2]; have:=h.len; omega
def qN:bJ:=fun xs Q=>∃ x ns k n,xs = [x,.int k,.int n]/\hG x ns/\0<=k/\0<=n/\n<=1000/\∀ ms,dW n ms->Q (.tup (intz ms))
def L8:aO:=(aG (aY 3 (aE dU (a6 (a5 0) (a6 (a5 1) a9))))
 (aG (cW 4 (cH a9))
 (aG (bG (aS (dB (aU (a5 3) (qC (.int 2))) (qC (.int 1)))) (aG (cN (fX (a5 2)) (bZ 5)
   (aG (aY 3 (bB (a5 3) (qC (.int 2))))
   (bG (aS (dB (aU (a5 3) (qC (.int 2))) (qC (.int 1)))) (gG 4 (a5 5)) bM)))
  (b4 (aE dJ (a6 (a5 4) a9)))) bM)
 (aG (aY 3 (aU (gV (eF (aU (a5 3) (qC (.int 1000000007))) (qC (.int 1))) (qC (.int 48271))) (qC (.int 2147483647))))
 (aG (cN (fX (a5 2)) (bZ 5)
  (aG (aY 6 (aU (gV (eF (eF (a5 3) (gV (gV (qC (.int 977)) (a5 5)) (a5 5))) (a5 5)) (qC (.int 40692))) (qC (.int 2147483399))))
  (bG (aS (iI (aU (bB (aU (gV (a5 6) (a5 6)) (qC (.int 2147483399))) (qC (.int 8))) (qC (.int 7))) (eF (qC (.int 1)) (aU (bB (a5 3) (qC (.int 8))) (qC (.int 4)))))) (gG 4 (a5 5)) bM)))
 (b4 (aE dJ (a6 (a5 4) a9))))))))
theorem az8:cP L8 ["script","at","many","cell","some","hearth","number"] qN:=by
 rintro xs Q ⟨x,ns,k,n,rfl,hx,k0,n0,n1,q⟩
 refine⟨_,rfl,_,rfl,x,ns,k,rfl,hx,k0,trivial,?_⟩
 generalize ns.getD k.toNat 0=cell
 refine⟨by decide,rfl,rfl,rfl,?_⟩
 refine⟨_,rfl,_,_,rfl,rfl,(by show (0:Int) < 2; decide),.inl ⟨_,_,rfl,rfl,_,rfl,?_⟩⟩
 have ret:∀ {ρ:bE}{ms:List Int},ρ[4]? = some (some (.own (.lst (intz ms))))->dW n ms->(b4 (aE dJ (a6 (a5 4) a9))) { nx:=fun _=>Q .non,rt:=Q } ρ:=fun {ρ ms} h u=>
  ⟨_,h,⟨_,_,rfl,rfl,c7 _,trivial,q ms u⟩,fun ns z=>by cases z⟩
 cases hc:(decide (cell % 2=1)) with
 | true=>
  refine aX ⟨_,rfl,n,rfl,by omega,by omega,fun i ρ=>∃ (c:Int) (y:Option Slot) (ms:List Int),ρ = [some (.sh (flat x) x),si k,si n,si c,some (.own (.lst (intz ms))),y,none]/\dW (i:Int) ms,⟨cell,none,[],rfl,dW.nil⟩,?_,?_⟩
  ·rintro i y ρ hy ⟨c,y0,ms,rfl,u⟩
   obtain ⟨rfl,hi⟩:=gY hy
   have ul:=u.len
   refine⟨_,rfl,_,_,rfl,rfl,⟨by decide,by decide⟩,trivial,?_⟩
   refine⟨_,rfl,_,_,rfl,rfl,(by show (0:Int) < 2; decide),.inl ⟨_,_,rfl,rfl,_,rfl,?_⟩⟩
   cases hc2:(decide (c / 2 % 2=1)) with
   | true=>
    refine aX ⟨_,rfl,_,rfl,trivial,by rw [b6]; omega,c / 2,si (0+(i:Int)),ms ++ [(0:Int)+(i:Int)],?_,u.take⟩
    rw [dS]; rfl
   | false=>exact aV ⟨c / 2,si (0+(i:Int)),ms,rfl,u.skip⟩
  ·rintro ρ ⟨c,y0,ms,rfl,u⟩
   rw [eS,show ((n.toNat:Nat):Int)=n by omega] at u
   exact ret rfl u
 | false=>
  refine aV ⟨_,rfl,_,_,rfl,rfl,(by show (0:Int) < 1000000007; decide),_,_,rfl,rfl,_,_,rfl,rfl,.inr ⟨by decide,by decide⟩,_,_,rfl,rfl,(by show (0:Int) < 2147483647; decide),trivial,?_⟩
  dsimp only
  generalize hcl:(cell % 1000000007+1) * 48271 % 2147483647=cl
  refine⟨_,rfl,n,rfl,by omega,by omega,fun i ρ=>∃ (y z:Option Slot) (ms:List Int),ρ = [some (.sh (flat x) x),si k,si n,si cl,some (.own (.lst (intz ms))),y,z]/\dW (i:Int) ms,⟨none,none,[],rfl,dW.nil⟩,?_,?_⟩
  ·rintro i y ρ hy ⟨y0,z0,ms,rfl,u⟩
   obtain ⟨rfl,hi⟩:=gY hy
   have ul:=u.len
   refine⟨_,rfl,_,rfl,_,_,rfl,rfl,.inl ⟨by decide,by decide⟩,_,rfl,_,_,rfl,rfl,.inr ⟨by omega,by omega⟩,_,_,rfl,rfl,_,rfl,_,_,rfl,rfl,_,_,rfl,rfl,.inr ⟨by decide,by decide⟩,_,_,rfl,rfl,(by show (0:Int) < 2147483399; decide),trivial,?_⟩
   dsimp only
   generalize hnum:(cl+977 * (0+(i:Int)) * (0+(i:Int))+(0+(i:Int))) * 40692 % 2147483399=num
   have b1:0<=num:=by rw [<- hnum]; exact aT6 _ (by decide)
   have b2:num < 2147483399:=by rw [<- hnum]; exact aU0 _ (by decide)
   refine⟨_,rfl,_,rfl,_,_,rfl,rfl,.inl ⟨by omega,by omega⟩,_,_,rfl,rfl,(by show (0:Int) < 2147483399; decide),_,_,rfl,rfl,⟨by decide,by decide⟩,_,_,rfl,rfl,(by show (0:Int) < 7; decide),_,rfl,_,_,rfl,rfl,⟨by decide,by decide⟩,_,_,rfl,rfl,(by show (0:Int) < 4; decide),_,_,rfl,rfl,_,_,rfl,rfl,_,rfl,?_⟩
   dsimp only
   cases hc2:(decide (num * num % 2147483399 / 8 % 7 < 1+cl / 8 % 4)) with
   | true=>
    refine aX ⟨_,rfl,_,rfl,trivial,by rw [b6]; omega,si (0+(i:Int)),si num,ms ++ [(0:Int)+(i:Int)],?_,u.take⟩
    rw [dS]; rfl
   | false=>exact aV ⟨si (0+(i:Int)),si num,ms,rfl,u.skip⟩
  ·rintro ρ ⟨y0,z0,ms,rfl,u⟩
   rw [eS,show ((n.toNat:Nat):Int)=n by omega] at u
   exact ret rfl u
theorem dW.set {n:Nat}{ms:List Int} (h:dW (n:Int) ms):bW n ms=true:=by
 unfold bW
 rw [F5 h.up,Bool.true_and,aY7]
 intro b hb
 obtain ⟨x,hx,rfl⟩:=aV7.mp hb
 have:=h.inn x hx
 unfold inB
 simp [this]
def L9:bJ:=fun xs Q=>∃ ns:List Int,xs = [.scr ns]/\ns.length<=63/\Q (.bl true)
theorem eY.wb {n:Int}{ws:List Int}{ls:List (Int × Int)} (h:eY n ws ls) (hn:n<=40):Wb ws ls:=
 ⟨by have:=h.many; omega,by have:=h.most; omega,fun l hl=>by have:=h.inn l hl; have:=h.many; omega⟩
end Core
namespace PP
open PySem L2 PyProof.Rows
theorem az9 {P:Program}{w:World}{K:PySem.W.Frag}{mg:Str->Option Value}{base:Heap}{k:Nat}{x:Str}{ps N:List Str}{p:bJ}{st:Stmt}{f:Addr}{fd:FuncData} (F:e9 K x x st f fd) (S:FnScope N ps (aT st))
  (len:∀ xs Q,p xs Q->xs.length=ps.length)
  (body:∀ (cdv:Value) (A:Around) (outer:List Env) (s:Shared) (H:Hp) (E:XK),bY k (A.deeper (envOfC x (aT st) s.heap.objs.size f cdv))->
   ∃ t,dQ (cS dC P w K mg base N x (aT st) f cdv A outer s H E).nox (dO st) t/\∀ xs Q,p xs Q->t { nx:=fun _=>Q .non,rt:=Q } (eV N xs)):cL P w K mg base dC (k+1) f fd ps (mW K p):=by
 refine F.ok S (fun vs H Q E h=>?_) (fun cdv A outer s H vs Q E hr h=>?_)
 ·obtain ⟨xs,Qp,r,q,_⟩:=h
  rw [r.length]; exact len xs Qp q
 ·obtain ⟨xs,Qp,r,q,k⟩:=h
  obtain ⟨t,ht,hq⟩:=body cdv A outer s H E hr
  refine⟨_,ht,fun _=>False,eV N xs,_,uK r,hq xs Qp q,?_,?_,?_,?_⟩
  ·exact fun W' σ' H' ρ' e px q=>k _ _ _ px.same .non q
  ·exact fun v H' x s r q=>k _ _ _ s r q
  ·exact fun W' σ' H' ρ' e px q=>q
  ·exact fun W' σ' H' ρ' e px q=>q
def qO (K:PySem.W.Frag):Sp:=fun vs H Q _=>∃ (a:Addr) (ns:List Int),vs = [.ref a]/\iE K H a ns/\ns.length<=63/\∀ H',Q (.bl true) H'
theorem aA0 {P:Program}{w:World}{K:PySem.W.Frag}{mg:Str->Option Value}{base:Heap}{k:Nat}{f:Addr}{fd:FuncData} (F:cL P w K mg base dC k f fd ["script"] (mW K Core.L9)):cL P w K mg base dC k f fd ["script"] (qO K):=
 F.imp fun vs H Q E h=>by
  obtain ⟨a,ns,rfl,hs,hl,q⟩:=h
  refine⟨[.scr ns],fun z=>z = .bl true,.cons (.scr hs) .nil,⟨ns,rfl,hl,rfl⟩,?_⟩
  rintro v H' x _ r rfl
  cases r
  exact q H'
theorem aA1 {K:PySem.W.Frag}{H:Hp}{a:Addr}{ns:List Int} (hO:oF H) (h:aM K H a (ns.map V.int)):iE K H a ns:=by
 rcases h with (h | ⟨o,h⟩) | h
 ·rcases hO a with e | ⟨o,xs,e⟩ <;> (rw [h] at e; cases e)
 ·exact .inl ⟨o,h⟩
 ·exact .inr h
section
variable {X : Cx} {e : Expr} {te : aF} {pos : Pos}
theorem aA2 (i j:Nat) {x y:Str}{apos cpos xpos apos2 cpos2 ypos:Pos} (he:QE X e te) (hxN:X.N[i]? = some x:=by rfl) (hxv:dX X.env.scope x:=by first | exact Or.inl rfl | exact Or.inr (Or.inl rfl) | exact Or.inr (Or.inr rfl)) (hxd:(x == ("__debug__" : Str))=false:=by decide) (hxc:(x == ("__classdict__" : Str))=false:=by decide) (hyN:X.N[j]? = some y:=by rfl) (hyv:dX X.env.scope y:=by first | exact Or.inl rfl | exact Or.inr (Or.inl rfl) | exact Or.inr (Or.inr rfl)) (hyd:(y == ("__debug__" : Str))=false:=by decide) (hyc:(y == ("__classdict__" : Str))=false:=by decide)
  (hb1:attributeBase (.Name x xpos) "append" X.env (eval (.Name x xpos) X.env)=eval (.Name x xpos) X.env:=by rfl) (hb2:attributeBase (.Name y ypos) "pop" X.env (eval (.Name y ypos) X.env)=eval (.Name y ypos) X.env:=by rfl)
  (hfew1:((backTo cpos (starEach [.Call (.Attribute (.Name y ypos) "pop" apos2) [e] [] cpos2] X.env)).all (fun x=>!x.1) && (backToKw cpos (keywordEach [] X.env)).all (fun x=>x.1.isSome) && decide (([.Call (.Attribute (.Name y ypos) "pop" apos2) [e] [] cpos2]:List Expr).length+([]:List Keyword).length+(if ([]:List Keyword).isEmpty then 0 else 1) < 30))=true:=by rfl)
  (hfew2:((backTo cpos2 (starEach [e] X.env)).all (fun x=>!x.1) && (backToKw cpos2 (keywordEach [] X.env)).all (fun x=>x.1.isSome) && decide (([e]:List Expr).length+([]:List Keyword).length+(if ([]:List Keyword).isEmpty then 0 else 1) < 30))=true:=by rfl)
  (hl1:(apos.endLine == cpos.line)=true:=by rfl) (hl2:(apos2.endLine == cpos2.line)=true:=by rfl)
  (hs1:starEach [.Call (.Attribute (.Name y ypos) "pop" apos2) [e] [] cpos2] X.env=(false,eval (.Call (.Attribute (.Name y ypos) "pop" apos2) [e] [] cpos2) X.env) :: starEach [] X.env:=by rfl) (hs2:starEach [e] X.env=(false,eval e X.env) :: starEach [] X.env:=by rfl)
  (hp1:(backTo cpos (starEach [] X.env)).any (·.1)=false:=by rfl) (hp2:(backTo cpos2 (starEach [] X.env)).any (·.1)=false:=by rfl)
  (hsw:swapsWith (.Call (.Attribute (.Name x xpos) "append" apos) [.Call (.Attribute (.Name y ypos) "pop" apos2) [e] [] cpos2] [] cpos) none pos.line X.env=pure false:=by rfl) :
  QS X (.Expr (.Call (.Attribute (.Name x xpos) "append" apos) [.Call (.Attribute (.Name y ypos) "pop" apos2) [e] [] cpos2] [] cpos) pos) (tT i j te):=
 dL (jG (jK aY3 PySem.F.slot_list_append PySem.F.type_list_append mH (fP hxN hxv hxd hxc) (cK (jK aY3 PySem.F.slot_list_pop PySem.F.type_list_pop xV (fP hyN hyv hyd hyc) (cK he cZ hs2) hb2 hfew2 hl2 hs2 hp2) cZ hs1) hb1 hfew1 hl1 hs1 hp1) hsw) fun _ _ _=>an9
end
end PP
namespace PyProof.Rows
open PySem
section
variable {prog : Program} {w : World} {A : Around} {E : Value → Shared → Prop} {s : Shared}
theorem aA3 {l:Addr}{vs:List Value}{Q:List Value->Shared->Prop} (hl:s.heap.IsTuple l vs.toArray)
  (h:Q vs { s with heap:=(s.heap.push (seqObj "list" #[] 0)).update s.heap.objs.size (Obj.mapSeq (· ++ vs.toArray)) }) (hsz:vs.length<=sizeLine) :
  wpAny (model prog w) A (collect (.ref l)) Q E s:=by
 obtain ⟨o,ho,hc,n,hd⟩:=id hl
 unfold collect
 refine aQ5 (wpAny_runValue (codeAny_builtin entry_proto_collect' ?_))
 show wpAny _ _ (do again (.builtin "list.__iadd__" ⟨[<- newList [],.ref l],[]⟩)) _ _ s
 refine aQ5 (wpAny_newList (aQ9 ⟨Code.quiet_builtin _ (by decide +kernel),codeAny_builtin entry_list_iadd' ?_⟩))
 show wpAny _ _ (Builtin.List.listExtendWith (.ref s.heap.objs.size) (.ref l) (.ref s.heap.objs.size)) _ _ { s with heap:=s.heap.push (seqObj "list" #[] 0) }
 unfold Builtin.List.listExtendWith
 have ho':(s.heap.push (seqObj "list" #[] 0)).get? l=some o:=aQ6 _ ho
 refine aQ5 (wpAny_typeOf (T:="tuple") ⟨o,ho',hc⟩ ?_)
 have ht:(Value.type "tuple" == Value.type "tuple")=true:=by rfl
 rw [if_pos (by rw [ht]; simp)]
 refine aQ5 (listItems_at ho' hd ?_)
 refine aQ5 (listItems_at (xs:=#[]) (n:=0) (aS1 _ rfl) rfl ?_)
 rw [if_neg (by simp)]
 refine aQ5 (listUpdate_at (xs:=#[]) (n:=0) (aS1 _ rfl) rfl ?_ (aT7 _) (by show (#[] ++ vs.toArray).size<=sizeLine+1; simp only [Array.size_append,aQ8,List.length_nil]; omega))
 refine aQ9 ?_
 show wpAny (model prog w) A (do
   let o <- load s.heap.objs.size
   match o.data with
   | .seq xs _=>pure xs.toList
   | _=>unsupported "internal:collect") Q E { s with heap:=(s.heap.push (seqObj "list" #[] 0)).update s.heap.objs.size (Obj.mapSeq (· ++ vs.toArray)) }
 refine aQ5 (wpAny_load (get?_update_seq (aS1 _ rfl) _) ?_)
 show wpAny _ _ (pure ((#[]:Array Value) ++ vs.toArray).toList) Q E _
 rw [show ((#[]:Array Value) ++ vs.toArray).toList=vs by simp]
 exact aQ9 h
theorem aA4 {l:Addr}{vs:List Value}{ns:List Int}{Q:Value->Shared->Prop} (hl:s.heap.IsTuple l vs.toArray) (hI:IntsAre vs ns) (h64:vs.length < 64)
  (h:∀ (out:Array Value) (ns':List Int),IntsAre out.toList ns'->ns'.Perm ns->ns'.Pairwise (· <= ·)->Q (.ref (s.heap.objs.size+1)) { s with heap:=sortedAll s.heap vs out }) :
  wpAny (model prog w) A (call (.builtin "sorted") [.ref l]) Q E s:=by
 have hsl:vs.length<=sizeLine:=aT4 (aV0 h64) (by decide)
 refine Calls.call_function_entry kind_sorted plain_sorted entry_sorted (args_sorted1 _) ?_
 unfold Builtin.«sorted»
 refine aQ5 (m:=checkCount "sorted" 1 1 _) (aQ9 ?_)
 refine aQ5 (aA3 hl ?_ hsl)
 refine aQ5 (wpAny_newList ?_)
 have hsz:((s.heap.push (seqObj "list" #[] 0)).update s.heap.objs.size (Obj.mapSeq (· ++ vs.toArray))).objs.size=s.heap.objs.size+1:=by
  rw [Heap.size_update,size_push']
 have hoL:(((s.heap.push (seqObj "list" #[] 0)).update s.heap.objs.size (Obj.mapSeq (· ++ vs.toArray))).push (seqObj "list" vs.toArray 0)).get? (s.heap.objs.size+1)=some (seqObj "list" vs.toArray 0):=by
  rw [<- hsz]; exact aS1 _ rfl
 show wpAny _ _ _ _ _ { s with heap:=((s.heap.push (seqObj "list" #[] 0)).update s.heap.objs.size (Obj.mapSeq (· ++ vs.toArray))).push (seqObj "list" vs.toArray 0) }
 rw [hsz]
 refine aQ5 (aY5 (aW3 slot_list_sort ⟨_,hoL,rfl⟩ entry_list_sort (list_sort_tree hoL hI h64 fun out ns' a1 a2 a3=>⟨_,rfl,?_⟩) (args_list_sort _)))
 exact aQ9 ⟨_,rfl,h out ns' a1 a2 a3⟩
end
end PyProof.Rows
namespace PP
open PySem L2 PyProof.Rows
section
variable {X : Cx} {a b e : Expr} {ta tb te : aF} {tr : cG} {pos p2 : Pos}
theorem aA5:cJ X (.builtin "sorted") (fun xs H Q=>∃ a ns,xs = [.ref a]/\(aM X.K H a (ns.map V.int) ∨ aJ X.K H a (ns.map V.int))/\ns.length < 64/\∀ l (ms:List Int),H l=none->ms.Perm ns->ms.Pairwise (· <= ·)->Q (.ref l) (upd H l (.lst (ms.map V.int)))):=by
 intro pins s σ H xs us Q I r h
 obtain ⟨a,ns,rfl,hs,h64,q⟩:=h
 rcases hs with hs | hs
 ·exact z9 pins s σ H _ us Q I r ⟨a,ns,rfl,hs,h64,q⟩
 obtain ⟨u,rfl,ru⟩:=fC r
 cases ru
 obtain ⟨its,rv,p,hz⟩:=I.tuple hs
 have hl:=rv.length
 rw [aR1] at hl
 refine aA4 p (mE rv) (by omega) fun out ns' a1 a2 a3=>?_
 obtain ⟨e,he⟩:=sortedAll_at s.heap its out
 have hn:s.heap.objs.size<=s.heap.objs.size+1:=Nat.le_succ _
 have hlen:ns'.length=ns.length:=a2.length_eq
 refine⟨.ref (s.heap.objs.size+1),upd H (s.heap.objs.size+1) (.lst (ns'.map V.int)),I.laid (t':=s.toks) (fun _ _=>sortedAll_old) hn ⟨?_,out.toList,e,mI a1,by simpa using he⟩,rfl,q _ ns' (I.hok.fresh hn) a2 a3⟩
 rw [aR1,hlen]
 exact aV0 (mJ (by omega))
def v7:List PV->(PV->Prop)->Prop:=fun xs Q=>∃ x ns,xs = [x]/\iG x=some (intz ns)/\ns.length < 64/\∀ ms:List Int,ms.Perm ns->ms.Pairwise (· <= ·)->Q (.lst (intz ms))
theorem aA6:eB X v7 (fun xs H Q=>∃ a ns,xs = [.ref a]/\(aM X.K H a (ns.map V.int) ∨ aJ X.K H a (ns.map V.int))/\ns.length < 64/\∀ l (ms:List Int),H l=none->ms.Perm ns->ms.Pairwise (· <= ·)->Q (.ref l) (upd H l (.lst (ms.map V.int)))):=by
 rintro H vs xs Q Q' r ⟨x,ns,rfl,e,hl,q⟩ k
 obtain ⟨v,rfl,r1⟩:=r.one
 obtain ⟨a,us,rfl,hs,r2⟩:=r1.seq e
 obtain rfl:=r2.ofInts
 exact⟨a,ns,rfl,hs,hl,fun l ms hl' p o=>k _ _ _ (b7 hl' _) (.lst hl' b8 (Reps.intz ms)) (q ms p o)⟩
theorem aA7 (B:Bt X.mg) (ha:QA X [e] tr) (hg:Gl X "sorted":=by rfl) (he:starEach [e] X.env=(false,eval e X.env) :: starEach [] X.env:=by rfl) (hpl:(backTo pos (starEach [] X.env)).any (·.1)=false:=by rfl):QE X (.Call (.Name "sorted" p2) [e] [] pos) (aE v7 tr):=
 j4 aA5 aA6 hg B.sorted PyProof.Rows.boot_sorted ha (he:=he) (hpl:=hpl)
def v8:PV->Tg->PV->Tg->PK->Prop:=fun x _ y _ Q=>∃ xs ys,x = .lst xs/\y = .lst ys/\flats xs=true/\flats ys=true/\xs.length+ys.length<=16000000/\Q (.lst (xs ++ ys)) .fr
abbrev M0 (ta tb:aF):aF:=q2 v8 ta tb
theorem aA8:cT X v8 xW:=by
 rintro W Hs H u v x y g g' Q Q' s n r1 r2 ⟨xs,ys,rfl,rfl,f1,f2,hl,q⟩ k
 obtain ⟨a,us,rfl,_,h1,q1⟩:=r1.sqL
 obtain ⟨b,ws,rfl,_,h2,q2⟩:=r2.sqL
 have l1:=q1.length
 have l2:=q2.length
 refine⟨a,b,us,ws,rfl,rfl,h1,h2,lim (by omega),fun p hp=>k _ _ _ .fr (b7 hp _) (.lst (s.free hp) b8 (((q1.flat f1).append (q2.flat f2)).same (b7 hp _) fun _ z=>z)) q⟩
theorem aA9 (ha:QE X a ta) (hb:QE X b tb):QE X (.BinOp a .Add b pos) (M0 ta tb):=gI af2 aA8 ha hb
end
end PP
namespace L2
open PySem PySem.Spec PyProof.Rows
def v9 (K:PySem.W.Frag) (a:Addr):It:=
  ⟨fun i H=>∃ xs x,aM K H a xs/\xs[i]? = some x,
   fun i H v H'=>∃ T x,H T=none/\v = .ref T/\H'=upd H T (.tup [.int i,x])/\∀ xs,aM K H a xs->xs[i]? = some x,
   fun i H=>∃ xs,aM K H a xs/\xs.length<=i⟩
structure aB0 (e it a:Addr) (i:Nat) (h:Heap):Prop where
 ee:∃ old,IsEnum h e it i old
 s1:h.IsListIter it a i
theorem aB1 {P:Program}{w:World}{K:PySem.W.Frag}{elts:List Expr}{k:Nat}{pos:Pos} (a e it:Addr) (d:e ≠ it) :
  gP P w K (.Tuple elts k pos) (v9 K a) [e,it] e (aB0 e it a):=by
 refine⟨by simp,fun i h st c hc=>?_,fun i h h' st kp=>?_,?_,?_,fun A i s Q E st q=>?_⟩
 ·simp only [aR2,aR6,aU1] at hc
  obtain ⟨old,ee⟩:=st.ee
  obtain ⟨o1,f1,g1,d1⟩:=st.s1
  rcases hc with rfl | rfl
  ·exact⟨_,ee,fun v q=>by cases q⟩
  ·exact⟨_,f1,fun v q=>by rw [d1] at q; cases q⟩
 ·obtain ⟨old,ee⟩:=st.ee
  exact⟨⟨old,kp e (by simp) _ ee⟩,st.s1.at fun o z=>kp it (by simp) o z⟩
 ·intro X hP hw hK hc i pins s σ H E I hf st hg
  subst hP hw hK
  obtain ⟨xs,x,ha,hx⟩:=hg
  obtain ⟨us,ru,pu,lu⟩:=I.list ha
  obtain ⟨ux,eux,rux⟩:=ru.get hx
  obtain ⟨old,ee⟩:=st.ee
  refine wpAny_pyNext_enum_item ee st.s1 pu.isList (by simpa using eux) d fun h' eo it' pr sz kp=>⟨_,rfl,?_⟩
  refine wpAny_letOwnedTupleGo_enum (s:={ s with heap:=h',toks:=s.toks+1 }) eo fun g zz sb=>?_
  have hzl:e < s.heap.objs.size:=aR8 ee
  have up:∀ c o,c ≠ e->c ≠ it->s.heap.get? c=some o->g.get? c=some o:=fun c o c1 c2 z=>sb.extBut c o c1 (kp c o c1 c2 z)
  have hT:H s.heap.objs.size=none:=I.hok.fresh (aR0 _)
  have prG:g.get? s.heap.objs.size=some { cls:=.type "tuple",data:=.seq #[.int i s.toks,ux] }:=sb.extBut _ _ (aX9 hzl) pr
  have fpn:∀ c u,H c=some u->c ∉ [e,it]:=fun c u z hm=>by rw [(hf c hm).1] at z; cases z
  have upH:∀ c o u,H c=some u->s.heap.get? c=some o->g.get? c=some o:=fun c o u q z=>by
   have:=fpn c u q
   simp only [aR2,aR6,aU1,not_or] at this
   exact up c o this.1 this.2 z
  have ns:∀ m,s.heap.Ns X.env.locals m->g.Ns X.env.locals m:=fun m hm=>by
   obtain ⟨o,es,ep,e1,e2⟩:=hm
   exact⟨o,es,ep,up _ o (Ne.symm (hf e (by simp)).2.1) (Ne.symm (hf it (by simp)).2.1) e1,e2⟩
  have I2:a8 X pins σ (upd H s.heap.objs.size (.tup [.int i,x])) { s with heap:=g,toks:=s.toks+1 }:=by
   refine I.step (g':=s.gens) (d':=s.drawn) (ch:=[e,it]) (fun c hc'=>?_) (fun c o _ _ hc' z _=>?_) (fun c o _ _ hc' z _=>⟨o.slots,?_⟩) (fun c o _ z n=>?_) (fun c o hc' z=>⟨o,?_⟩)
    (fun c zs z=>by rw [aP (bX z hT)]; exact z) (fun c u zs z=>by rw [aP (bX z hT)]; exact z) (fun c ps z=>⟨#[],by rw [aP (bX z hT),z]; simp⟩) ns (fun c u z=>?_) I.bare
   ·exact⟨(hf c hc').2.2.2.1,(hf c hc').2.1,(hf c hc').2.2.2.2.1,(hf c hc').2.2.2.2.2⟩
   ·simp only [aR2,aR6,aU1,not_or] at hc'
    exact up c o hc'.1 hc'.2 z
   ·simp only [aR2,aR6,aU1,not_or] at hc'
    exact up c o hc'.1 hc'.2 z
   ·rw [aP (aT3 (aR8 z))]; exact n
   ·simp only [aR2,aR6,aU1,not_or] at hc'
    exact up c o hc'.1 hc'.2 z
   ·by_cases hcT:c=s.heap.objs.size
    ·subst hcT
     rw [b8] at z; cases z
     exact⟨by show 2<=sizeLine; decide,[.int i s.toks,ux],.cons ⟨_,rfl⟩ (.cons rux .nil),⟨_,prG,rfl,_,rfl⟩⟩
    ·rw [aP hcT] at z
     refine (I.hok c u z).stay (fun c' o' hc2 q'=>?_) (fun c' q'=>by rw [aP (bX q' hT)]; exact q') fun c' zs q'=>by rw [aP (bX q' hT)]; exact q'
     rcases hc2 with rfl | hc2
     ·exact upH _ _ _ z q'
     ·exact upH _ _ _ hc2 q'
  refine⟨.ref s.heap.objs.size,_,I2,rfl,⟨_,x,hT,rfl,rfl,fun xs' ha'=>?_⟩,⟨⟨ux,by push_cast; exact zz⟩,it'.at fun o z=>sb.extBut _ o (Ne.symm d) z⟩,fun c hc'=>?_⟩
  ·rw [I.list_inj ha' ha]; exact hx
  ·obtain ⟨o,z⟩:∃ o,s.heap.get? c=some o:=by
    simp only [aR2,aR6,aU1] at hc'
    obtain ⟨o1,f1,_⟩:=st.s1
    rcases hc' with rfl | rfl
    ·exact⟨_,ee⟩
    ·exact⟨_,f1⟩
   rw [aP (aT3 (aR8 z))]; exact (hf c hc').1
 ·intro X hP hw hK hc i pins s σ H E I hf st hg
  subst hP hw hK
  obtain ⟨xs,ha,hi⟩:=hg
  obtain ⟨us,ru,pu,lu⟩:=I.list ha
  obtain ⟨old,ee⟩:=st.ee
  have hh:X.A.handled=none:=I.ok.hd hc
  have e1:=ru.length
  refine wpAny_pyNext_enum_end hh ee st.s1 pu.isList (by rw [Array.getElem?_eq_none]; simp only [aQ8]; omega) fun g kp=>⟨rfl,?_⟩
  have fpn:∀ c u,H c=some u->c ∉ [e,it]:=fun c u z hm=>by rw [(hf c hm).1] at z; cases z
  have upH:∀ c o u,H c=some u->s.heap.get? c=some o->g.get? c=some o:=fun c o u q z=>by
   have:=fpn c u q
   simp only [aR2,aR6,aU1,not_or] at this
   exact kp c o this.2 z
  have ns:∀ m,s.heap.Ns X.env.locals m->g.Ns X.env.locals m:=fun m hm=>by
   obtain ⟨o,es,ep,e1,e2⟩:=hm
   exact⟨o,es,ep,kp _ o (Ne.symm (hf it (by simp)).2.1) e1,e2⟩
  refine I.step (g':=s.gens) (d':=s.drawn) (ch:=[it]) (fun c hc'=>?_) (fun c o _ _ hc' z _=>?_) (fun c o _ _ hc' z _=>⟨o.slots,?_⟩) (fun c o _ z n=>n) (fun c o hc' z=>⟨o,?_⟩)
   (fun c zs z=>z) (fun c u zs z=>z) (fun c ps z=>⟨#[],by rw [z]; simp⟩) ns (fun c u z=>?_) I.bare
  ·have hm:c ∈ [e,it]:=aS2 _ hc'
   exact⟨(hf c hm).2.2.2.1,(hf c hm).2.1,(hf c hm).2.2.2.2.1,(hf c hm).2.2.2.2.2⟩
  ·exact kp c o (fun y=>hc' (by rw [y]; simp)) z
  ·exact kp c o (fun y=>hc' (by rw [y]; simp)) z
  ·exact kp c o (fun y=>hc' (by rw [y]; simp)) z
  ·refine (I.hok c u z).stay (fun c' o' hc2 q'=>?_) (fun _ q'=>q') fun _ _ q'=>q'
   rcases hc2 with rfl | hc2
   ·exact upH _ _ _ z q'
   ·exact upH _ _ _ hc2 q'
 ·obtain ⟨old,ee⟩:=st.ee
  exact wpAny_pyIter_enum ee q
end L2
namespace Zp
open PySem PyProof.Rows
section
variable {prog : Program} {w : World} {A : Around} {E : Value → Shared → Prop} {s : Shared}
theorem aB2 {e it t:Addr}{i:Nat}{items:Array Value}{x old:Value}{Q:Option Value->Shared->Prop} (he:IsEnum s.heap e it i old) (hi:s.heap.IsTupleIter it t i) (ht:s.heap.IsTuple t items) (hx:items[i]? = some x) (ne:e ≠ it)
  (q:∀ h',IsEnumOut h' e it ((i:Int)+1) x s.heap.objs.size->h'.IsTupleIter it t (i+1)->h'.get? s.heap.objs.size=some { cls:=.type "tuple",data:=.seq #[.int i s.toks,x] }->h'.objs.size=s.heap.objs.size+1->
   (∀ b o,b ≠ e->b ≠ it->s.heap.get? b=some o->h'.get? b=some o)->Q (some (.ref s.heap.objs.size)) { s with heap:=h',toks:=s.toks+1 }):wpAny (model prog w) A (pyNext (.ref e)) Q E s:=by
 have T:s.TypeIs (.ref e) "enumerate":=⟨_,he,rfl⟩
 have slot:=PySem.F.slot_enumerate_next
 unfold pyNext
 apply aQ5
 apply wpAny_attempt
 apply aV9 (name:=Str.ofString "__next__") T slot
 apply aW3 slot T PySem.F.entry_enumerate_next _ (PySem.F.args_enumerate_next_1 _)
 change wpAny _ _ (field (.ref e) 2 >>= _) _ _ _
 apply aQ5
 refine aV8 he rfl (x:=.ref it) rfl ?_
 apply aQ5
 refine zJ hi ht hx fun g1 it1 sb1=>?_
 have e1:IsEnum g1 e it i old:=sb1.extBut _ _ ne he
 change wpAny _ _ (field (.ref e) 3 >>= _) _ _ _
 apply aQ5
 refine aV8 e1 rfl (x:=rawInt i) rfl ?_
 change wpAny _ _ (field (.ref e) 4 >>= _) _ _ _
 apply aQ5
 refine aV8 e1 rfl (x:=.none) rfl ?_
 change wpAny _ _ (mkInt i >>= _) _ _ _
 apply aQ5
 refine wpAny_mkInt ?_
 change wpAny _ _ (setField (.ref e) 3 (rawInt ((i:Int)+1)) >>= _) _ _ _
 apply aQ5
 refine aW9 e1 (by simp) fun g2 e2 sb2=>?_
 apply aQ5
 refine aW9 e2 (by simp) fun g3 e3 sb3=>?_
 have e3:IsEnum g3 e it ((i:Int)+1) old:=e3
 apply aQ5
 refine wpAny_newTuple ?_ (by show 2<=sizeLine; decide)
 have e4:IsEnum (g3.push { cls:=.type "tuple",data:=.seq #[.int i s.toks,x] }) e it ((i:Int)+1) old:=aQ6 _ e3
 have size:g3.objs.size=s.heap.objs.size:=by rw [sb3.1,sb2.1,sb1.1]
 change wpAny _ _ (Builtin.SmallTypes.ownedTupleIsFree (.ref e) >>= _) _ _ _
 apply aQ5
 unfold Builtin.SmallTypes.ownedTupleIsFree
 apply aQ5
 refine aV8 e4 rfl (x:=.none) rfl (aQ9 ?_)
 simp only [if_true]
 apply aQ5
 apply wpAny_rule
 apply aQ5
 refine aV8 e4 rfl (x:=old) rfl ?_
 apply aQ5
 refine aW9 e4 (by simp) fun g5 e5 sb5=>?_
 apply aQ5
 unfold Builtin.SmallTypes.ownedTupleHandOut
 apply aQ5
 refine aW9 e5 (by simp) fun g6 e6 sb6=>?_
 refine aW9 e6 (by simp) fun g7 e7 sb7=>?_
 have e7:IsEnumOut g7 e it ((i:Int)+1) x g3.objs.size:=e7
 have elt:e < g3.objs.size:=aR8 e3
 have up:∀ c o,c ≠ e->(g3.push { cls:=.type "tuple",data:=.seq #[.int i s.toks,x] }).get? c=some o->g7.get? c=some o:=fun c o c1 z=>sb7.extBut c o c1 (sb6.extBut c o c1 (sb5.extBut c o c1 z))
 have up3:∀ c o,c ≠ e->g1.get? c=some o->g7.get? c=some o:=fun c o c1 z=>up c o c1 (aQ6 _ (sb3.extBut c o c1 (sb2.extBut c o c1 z)))
 have p7:g7.get? g3.objs.size=some { cls:=.type "tuple",data:=.seq #[.int i s.toks,x] }:=up _ _ (aX9 elt) (aS1 _ rfl)
 have s7:g7.objs.size=g3.objs.size+1:=by rw [sb7.1,sb6.1,sb5.1,ba4]
 apply aQ5
 apply wpAny_letGo
 apply aQ9
 rw [size] at e7 p7 s7
 refine⟨_,rfl,aQ9 ?_⟩
 change Q (some (.ref g3.objs.size)) _
 rw [size]
 exact q g7 e7 (it1.at fun o z=>up3 it o (Ne.symm ne) z) p7 s7 fun b o b1 b2 z=>up3 b o b1 (sb1.extBut b o b2 z)
theorem aB3 {e it t:Addr}{i:Nat}{items:Array Value}{old:Value}{Q:Option Value->Shared->Prop} (hh:A.handled=none) (he:IsEnum s.heap e it i old) (hi:s.heap.IsTupleIter it t i) (ht:s.heap.IsTuple t items) (hx:items[i]? = none)
  (q:∀ h',Heap.ExtBut it s.heap h'->Q none { s with heap:=h' }):wpAny (model prog w) A (pyNext (.ref e)) Q E s:=by
 have T:s.TypeIs (.ref e) "enumerate":=⟨_,he,rfl⟩
 have slot:=PySem.F.slot_enumerate_next
 unfold pyNext
 apply aQ5
 apply wpAny_attempt
 apply aV9 (name:=Str.ofString "__next__") T slot
 apply aW3 slot T PySem.F.entry_enumerate_next _ (PySem.F.args_enumerate_next_1 _)
 change wpAny _ _ (field (.ref e) 2 >>= _) _ _ _
 apply aQ5
 refine aV8 he rfl (x:=.ref it) rfl ?_
 apply aQ5
 refine zK hh hi ht hx fun g2 ex eb exo=>?_
 obtain ⟨oe,eo,co⟩:=exo
 apply aQ5
 refine wpAny_isInstance (T:="StopIteration") (b:=true) ⟨oe,eo,co⟩ isSubtype_stop ?_
 exact aQ9 (q g2 eb)
theorem aB4 {M:Model}{A:Around}{E:Value->Shared->Prop}{s:Shared}{α:Type}{c:Prop} [Decidable c] {m n:Sem α}{Q:α->Shared->Prop} (h1:wpAny M A m Q E s) (h2:wpAny M A n Q E s):wpAny M A (if c then m else n) Q E s:=by
 split
 ·exact h1
 ·exact h2
theorem aB5 (t:Addr) (xs:Array Value):Meets (Builtin.«enumerate.__new__» ⟨[.type "enumerate",.ref t],[]⟩) (fun _ R s=>s.heap.IsTuple t xs/\R (.ok (.ret (.ref (s.heap.objs.size+1)))) { s with heap:=(s.heap.push { cls:=.type "tuple_iterator",data:=.fields #[.ref t,.int 0 0] }).push { cls:=.type "enumerate",data:=.fields #[.none,.bool false,.ref s.heap.objs.size,rawInt 0,.none,.none] } }):=
 .of_wp fun prog w A R s h=>by
  obtain ⟨hp,g,d,tk,os⟩:=s
  obtain ⟨ht,h⟩:=h
  have sub:=sub_enumerate
  have a1:Heap.IsTuple (Shared.heap ⟨hp,g,d,tk,os⟩) t xs:=ht
  wp_walk using bc3 a1
  refine wpAny_stack_any fun st=>aQ9 ?_
  refine aB4 ?_ ?_
  all_goals
   apply aQ5
   refine wpAny_of_eq (a:=(Value.ref t,none)) rfl ?_
   wp_walk using bc3 a1
   have e:∀ (o:Obj) (k:Heap),(k.push o).objs.size=k.objs.size+1:=fun o k=>ba4 ..
   refine⟨_,rfl,?_⟩
   simp only [e] at h ⊢
   exact h
theorem aB6 {t:Addr}{xs:Array Value}{Q:Value->Shared->Prop} (ht:s.heap.IsTuple t xs)
  (q:∀ h',IsEnum h' (s.heap.objs.size+1) s.heap.objs.size 0 .none->h'.IsTupleIter s.heap.objs.size t 0->h'.objs.size=s.heap.objs.size+2->(∀ c o,s.heap.get? c=some o->h'.get? c=some o)->Q (.ref (s.heap.objs.size+1)) { s with heap:=h' }) :
  wpAny (model prog w) A (call (.type "enumerate") [.ref t]) Q E s:=by
 refine callType_new PySem.F.called_enumerate (by decide) (PySem.F.typeCall_enumerate_1 _) (PySem.F.newCall_enumerate_1 _) (fun obj=>PySem.F.args_object_init_2 obj _) PySem.F.entry_enumerate_new (aB5 t xs) ⟨ht,?_⟩
 have e:∀ (o:Obj) (k:Heap),(k.push o).objs.size=k.objs.size+1:=fun o k=>ba4 ..
 have g0:((s.heap.push { cls:=.type "tuple_iterator",data:=.fields #[.ref t,.int 0 0] }).push { cls:=.type "enumerate",data:=.fields #[.none,.bool false,.ref s.heap.objs.size,rawInt 0,.none,.none] }).get? s.heap.objs.size=some { cls:=.type "tuple_iterator",data:=.fields #[.ref t,.int 0 0] }:=aQ6 _ (aS1 _ rfl)
 have g1:((s.heap.push { cls:=.type "tuple_iterator",data:=.fields #[.ref t,.int 0 0] }).push { cls:=.type "enumerate",data:=.fields #[.none,.bool false,.ref s.heap.objs.size,rawInt 0,.none,.none] }).get? (s.heap.objs.size+1)=some { cls:=.type "enumerate",data:=.fields #[.none,.bool false,.ref s.heap.objs.size,rawInt 0,.none,.none] }:=by
  have:=aS1 (h:=s.heap.push { cls:=.type "tuple_iterator",data:=.fields #[.ref t,.int 0 0] }) (o:={ cls:=.type "enumerate",data:=.fields #[.none,.bool false,.ref s.heap.objs.size,rawInt 0,.none,.none] }) rfl
  rw [e] at this; exact this
 exact⟨⟨_,g1,rfl⟩,q _ g1 ⟨_,g0,rfl,rfl⟩ (by rw [e,e]) fun c o z=>aQ6 _ (aQ6 _ z)⟩
end
end Zp
namespace L2
open PySem PySem.Spec PyProof.Rows
def vA (K:PySem.W.Frag) (a:Addr):It:=
  ⟨fun i H=>∃ xs x,aJ K H a xs/\xs[i]? = some x,
   fun i H v H'=>∃ T x,H T=none/\v = .ref T/\H'=upd H T (.tup [.int i,x])/\∀ xs,aJ K H a xs->xs[i]? = some x,
   fun i H=>∃ xs,aJ K H a xs/\xs.length<=i⟩
structure aB7 (e it a:Addr) (i:Nat) (h:Heap):Prop where
 ee:∃ old,IsEnum h e it i old
 s1:h.IsTupleIter it a i
theorem aB8 {P:Program}{w:World}{K:PySem.W.Frag}{elts:List Expr}{k:Nat}{pos:Pos} (a e it:Addr) (d:e ≠ it) :
  gP P w K (.Tuple elts k pos) (vA K a) [e,it] e (aB7 e it a):=by
 refine⟨by simp,fun i h st c hc=>?_,fun i h h' st kp=>?_,?_,?_,fun A i s Q E st q=>?_⟩
 ·simp only [aR2,aR6,aU1] at hc
  obtain ⟨old,ee⟩:=st.ee
  obtain ⟨o1,f1,g1,d1⟩:=st.s1
  rcases hc with rfl | rfl
  ·exact⟨_,ee,fun v q=>by cases q⟩
  ·exact⟨_,f1,fun v q=>by rw [d1] at q; cases q⟩
 ·obtain ⟨old,ee⟩:=st.ee
  exact⟨⟨old,kp e (by simp) _ ee⟩,st.s1.at fun o z=>kp it (by simp) o z⟩
 ·intro X hP hw hK hc i pins s σ H E I hf st hg
  subst hP hw hK
  obtain ⟨xs,x,ha,hx⟩:=hg
  obtain ⟨us,ru,pu,lu⟩:=I.tuple ha
  obtain ⟨ux,eux,rux⟩:=ru.get hx
  obtain ⟨old,ee⟩:=st.ee
  refine Zp.aB2 ee st.s1 pu (by simpa using eux) d fun h' eo it' pr sz kp=>⟨_,rfl,?_⟩
  refine wpAny_letOwnedTupleGo_enum (s:={ s with heap:=h',toks:=s.toks+1 }) eo fun g zz sb=>?_
  have hzl:e < s.heap.objs.size:=aR8 ee
  have up:∀ c o,c ≠ e->c ≠ it->s.heap.get? c=some o->g.get? c=some o:=fun c o c1 c2 z=>sb.extBut c o c1 (kp c o c1 c2 z)
  have hT:H s.heap.objs.size=none:=I.hok.fresh (aR0 _)
  have prG:g.get? s.heap.objs.size=some { cls:=.type "tuple",data:=.seq #[.int i s.toks,ux] }:=sb.extBut _ _ (aX9 hzl) pr
  have fpn:∀ c u,H c=some u->c ∉ [e,it]:=fun c u z hm=>by rw [(hf c hm).1] at z; cases z
  have upH:∀ c o u,H c=some u->s.heap.get? c=some o->g.get? c=some o:=fun c o u q z=>by
   have:=fpn c u q
   simp only [aR2,aR6,aU1,not_or] at this
   exact up c o this.1 this.2 z
  have ns:∀ m,s.heap.Ns X.env.locals m->g.Ns X.env.locals m:=fun m hm=>by
   obtain ⟨o,es,ep,e1,e2⟩:=hm
   exact⟨o,es,ep,up _ o (Ne.symm (hf e (by simp)).2.1) (Ne.symm (hf it (by simp)).2.1) e1,e2⟩
  have I2:a8 X pins σ (upd H s.heap.objs.size (.tup [.int i,x])) { s with heap:=g,toks:=s.toks+1 }:=by
   refine I.step (g':=s.gens) (d':=s.drawn) (ch:=[e,it]) (fun c hc'=>?_) (fun c o _ _ hc' z _=>?_) (fun c o _ _ hc' z _=>⟨o.slots,?_⟩) (fun c o _ z n=>?_) (fun c o hc' z=>⟨o,?_⟩)
    (fun c zs z=>by rw [aP (bX z hT)]; exact z) (fun c u zs z=>by rw [aP (bX z hT)]; exact z) (fun c ps z=>⟨#[],by rw [aP (bX z hT),z]; simp⟩) ns (fun c u z=>?_) I.bare
   ·exact⟨(hf c hc').2.2.2.1,(hf c hc').2.1,(hf c hc').2.2.2.2.1,(hf c hc').2.2.2.2.2⟩
   ·simp only [aR2,aR6,aU1,not_or] at hc'
    exact up c o hc'.1 hc'.2 z
   ·simp only [aR2,aR6,aU1,not_or] at hc'
    exact up c o hc'.1 hc'.2 z
   ·rw [aP (aT3 (aR8 z))]; exact n
   ·simp only [aR2,aR6,aU1,not_or] at hc'
    exact up c o hc'.1 hc'.2 z
   ·by_cases hcT:c=s.heap.objs.size
    ·subst hcT
     rw [b8] at z; cases z
     exact⟨by show 2<=sizeLine; decide,[.int i s.toks,ux],.cons ⟨_,rfl⟩ (.cons rux .nil),⟨_,prG,rfl,_,rfl⟩⟩
    ·rw [aP hcT] at z
     refine (I.hok c u z).stay (fun c' o' hc2 q'=>?_) (fun c' q'=>by rw [aP (bX q' hT)]; exact q') fun c' zs q'=>by rw [aP (bX q' hT)]; exact q'
     rcases hc2 with rfl | hc2
     ·exact upH _ _ _ z q'
     ·exact upH _ _ _ hc2 q'
  refine⟨.ref s.heap.objs.size,_,I2,rfl,⟨_,x,hT,rfl,rfl,fun xs' ha'=>?_⟩,⟨⟨ux,by push_cast; exact zz⟩,it'.at fun o z=>sb.extBut _ o (Ne.symm d) z⟩,fun c hc'=>?_⟩
  ·rw [I.tuple_inj ha' ha]; exact hx
  ·obtain ⟨o,z⟩:∃ o,s.heap.get? c=some o:=by
    simp only [aR2,aR6,aU1] at hc'
    obtain ⟨o1,f1,_⟩:=st.s1
    rcases hc' with rfl | rfl
    ·exact⟨_,ee⟩
    ·exact⟨_,f1⟩
   rw [aP (aT3 (aR8 z))]; exact (hf c hc').1
 ·intro X hP hw hK hc i pins s σ H E I hf st hg
  subst hP hw hK
  obtain ⟨xs,ha,hi⟩:=hg
  obtain ⟨us,ru,pu,lu⟩:=I.tuple ha
  obtain ⟨old,ee⟩:=st.ee
  have hh:X.A.handled=none:=I.ok.hd hc
  have e1:=ru.length
  refine Zp.aB3 hh ee st.s1 pu (by rw [Array.getElem?_eq_none]; simp only [aQ8]; omega) fun g kp=>⟨rfl,?_⟩
  have fpn:∀ c u,H c=some u->c ∉ [e,it]:=fun c u z hm=>by rw [(hf c hm).1] at z; cases z
  have upH:∀ c o u,H c=some u->s.heap.get? c=some o->g.get? c=some o:=fun c o u q z=>by
   have:=fpn c u q
   simp only [aR2,aR6,aU1,not_or] at this
   exact kp c o this.2 z
  have ns:∀ m,s.heap.Ns X.env.locals m->g.Ns X.env.locals m:=fun m hm=>by
   obtain ⟨o,es,ep,e1,e2⟩:=hm
   exact⟨o,es,ep,kp _ o (Ne.symm (hf it (by simp)).2.1) e1,e2⟩
  refine I.step (g':=s.gens) (d':=s.drawn) (ch:=[it]) (fun c hc'=>?_) (fun c o _ _ hc' z _=>?_) (fun c o _ _ hc' z _=>⟨o.slots,?_⟩) (fun c o _ z n=>n) (fun c o hc' z=>⟨o,?_⟩)
   (fun c zs z=>z) (fun c u zs z=>z) (fun c ps z=>⟨#[],by rw [z]; simp⟩) ns (fun c u z=>?_) I.bare
  ·have hm:c ∈ [e,it]:=aS2 _ hc'
   exact⟨(hf c hm).2.2.2.1,(hf c hm).2.1,(hf c hm).2.2.2.2.1,(hf c hm).2.2.2.2.2⟩
  ·exact kp c o (fun y=>hc' (by rw [y]; simp)) z
  ·exact kp c o (fun y=>hc' (by rw [y]; simp)) z
  ·exact kp c o (fun y=>hc' (by rw [y]; simp)) z
  ·refine (I.hok c u z).stay (fun c' o' hc2 q'=>?_) (fun _ q'=>q') fun _ _ q'=>q'
   rcases hc2 with rfl | hc2
   ·exact upH _ _ _ z q'
   ·exact upH _ _ _ hc2 q'
 ·obtain ⟨old,ee⟩:=st.ee
  exact wpAny_pyIter_enum ee q
section
variable {X : Cx}
def M3 (K:PySem.W.Frag) (ta:TA):TI:=fun σ H R=>ta σ H fun vs H1=>∃ a,vs = [.ref a]/\((∃ xs,aM K H1 a xs/\R (v9 K a) H1) ∨ (∃ xs,aJ K H1 a xs/\R (vA K a) H1))
theorem aB9 {elts:List Expr}{kt:Nat}{pt:Pos}{a:Expr}{ta:TA}{p pos:Pos} (hg:Gl X "enumerate") (hm:X.mg "enumerate" = none) (ha:PA X [a] ta) (hs:starEach [a] X.env = [(false,eval a X.env)]:=by rfl) :
  PI X (.Tuple elts kt pt) (.Call (.Name "enumerate" p) [a] [] pos) (M3 X.K ta):=by
 intro pins s σ H R I h
 refine Call_ (i5 I hg hm PyProof.Rows.boot_enumerate (aX1 (aL (ha pos pins s σ H _ I h) fun us s1 ⟨vs,H1,I1,r1,q1⟩=>?_) (by rw [hs]; rfl) (by rfl)))
 obtain ⟨a',e,q⟩:=q1
 subst e
 have fresh:∀ k,H1 (s1.heap.objs.size+k)=none:=fun k=>I1.hok.fresh (aW6 _ _)
 cases r1 with
 | cons r rr=>
  cases rr
  cases r
  rcases q with ⟨xs,h1,q⟩ | ⟨xs,h1,q⟩
  ·obtain ⟨us,_,p1,_⟩:=I1.list h1
   refine call_enumerate_list p1.isList fun h' z s1' sz kp=>wpAny_pyIter_enum z ?_
   refine⟨s1.heap.objs.size+1,[s1.heap.objs.size+1,s1.heap.objs.size],_,_,H1,rfl,I1.kept (t':=s1.toks) kp,
    aB1 a' _ _ (Nat.succ_ne_self _),⟨⟨_,z⟩,s1'⟩,fun c hc=>?_,q⟩
   simp only [aR2,aR6,aU1] at hc
   rcases hc with rfl | rfl
   ·exact I1.fpOk (aW6 _ _) (fresh 1)
   ·exact I1.fpOk (aR0 _) (fresh 0)
  ·obtain ⟨us,_,p1,_⟩:=I1.tuple h1
   refine Zp.aB6 p1 fun h' z s1' sz kp=>wpAny_pyIter_enum z ?_
   refine⟨s1.heap.objs.size+1,[s1.heap.objs.size+1,s1.heap.objs.size],_,_,H1,rfl,I1.kept (t':=s1.toks) kp,
    aB8 a' _ _ (Nat.succ_ne_self _),⟨⟨_,z⟩,s1'⟩,fun c hc=>?_,q⟩
   simp only [aR2,aR6,aU1] at hc
   rcases hc with rfl | rfl
   ·exact I1.fpOk (aW6 _ _) (fresh 1)
   ·exact I1.fpOk (aR0 _) (fresh 0)
end
end L2
namespace Zp
open PySem PyProof.Rows
theorem aC0 (t b:Addr) (xs ys:Array Value) (n n2:Nat) (dd dd2:Option Addr) (sl sl2:Array (Option Value)) (hx:xs.isEmpty=true):Meets (Builtin.«tuple.__add__» ⟨[.ref t,.ref b],[]⟩)
  (fun _ R s=>s.heap.get? t=some { cls:=.type "tuple",dict:=dd,data:=.seq xs n,slots:=sl }/\s.heap.get? b=some { cls:=.type "tuple",dict:=dd2,data:=.seq ys n2,slots:=sl2 }/\R (.ok (.ret (.ref b))) s):=
 .of_wp fun prog w A R s h=>by
  obtain ⟨h1,h2,h⟩:=h
  have sub:isSubtype (Value.type "tuple") (Value.type "tuple")=pure true:=rfl
  wp_walk
  exact⟨_,rfl,h⟩
end Zp
namespace L2
open PySem PySem.Spec PyProof.Rows
section
variable {X : Cx}
def M4 (K:PySem.W.Frag):R2:=fun x y H Q=>∃ a b xs ys,x = .ref a/\y = .ref b/\aJ K H a xs/\aJ K H b ys/\xs.length+ys.length<=sizeLine/\
 (xs = []->Q (.ref b) H)/\(xs ≠ []->ys = []->Q (.ref a) H)/\(xs ≠ []->ys ≠ []->∀ p,H p=none->Q (.ref p) (upd H p (.tup (xs ++ ys))))
theorem aC1:bR X (binaryOp .Add) (M4 X.K):=by
 intro pins s σ H x y v u Q I rx ry h
 obtain ⟨a,b,xs,ys,ex,ey,ha,hb,hz,q0,q1,q2⟩:=h
 by_cases hx:xs = []
 ·subst ex ey
  cases rx
  cases ry
  obtain ⟨its,r1,p1,_⟩:=I.tuple ha
  obtain ⟨its2,r2,p2,_⟩:=I.tuple hb
  have hi:its = []:=r1.nil_iff.mpr hx
  obtain ⟨⟨cls,dd,data,sl⟩,ho,hc,n,hd⟩:=id p1
  obtain ⟨⟨cls2,dd2,data2,sl2⟩,ho2,hc2,n2,hd2⟩:=id p2
  simp only at hc hd hc2 hd2
  subst hc hd hc2 hd2
  exact concat_meets ⟨_,ho,rfl⟩ ⟨_,ho2,rfl⟩ noFill_tuple_add seq_tuple_add PySem.F.slot_tuple_add PySem.F.entry_tuple_add (PySem.F.args_tuple_add_2 _ _)
   (Zp.aC0 a b its.toArray its2.toArray n n2 dd dd2 sl sl2 (by simp [hi])) ⟨ho,ho2,⟨.ref b,H,I,rfl,q0 hx⟩⟩
 ·exact ad6 pins s σ H x y v u Q I rx ry ⟨a,b,xs,ys,ex,ey,ha,hb,hx,hz,q1 hx,q2 hx⟩
end
end L2
namespace PP
open PySem L2 PyProof.Rows
def iN (xs:List PV):List PV:=xs.mapIdx fun i x=>PV.tup [.int (i:Int),x]
theorem vB (xs:List PV):(iN xs).length=xs.length:=by unfold iN; rw [List.length_mapIdx]
theorem M5 {xs:List PV}{i:Nat}{x:PV} (h:xs[i]? = some x):(iN xs)[i]? = some (.tup [.int (i:Int),x]):=by
 unfold iN; rw [List.getElem?_mapIdx,h]; rfl
theorem aC2 {xs:List PV}{i:Nat}{z:PV} (h:(iN xs)[i]? = some z):∃ x,xs[i]? = some x/\z = .tup [.int (i:Int),x]:=by
 unfold iN at h
 rw [List.getElem?_mapIdx] at h
 cases e:xs[i]? with
 | none=>rw [e] at h; cases h
 | some x=>rw [e] at h; exact⟨x,rfl,(aT2 h).symm⟩
def qP (te:aF):eC:=fun ρ Q=>te ρ fun x g=>∃ xs,(x = .lst xs ∨ x = .tup xs)/\(g = .rd->flat x=true)/\Q (iN xs) (pD g xs)
theorem aC3 {K:PySem.W.Frag}{H0:Hp}{W:Addr->Prop}{g:Bool}{H1:Hp}{a:Addr}{us:List V}{xs:List PV} (tw:∀ a,W a->∃ o,H1 a=some o/\gE o=true) (ha:∀ W' H',Ev W H1 W' H'->aM K H' a us) (r:Reps K (Ms H0 W g) H1 us xs):l0 K H0 W g H1 (v9 K a) (iN xs):=by
 have lr:=r.length
 have ll:=vB xs
 refine⟨fun W' H' i e hi=>⟨us,us[i]'(by omega),ha W' H' e,by simp⟩,fun W' H' i v H2 e y hi=>?_,fun W' H' e=>⟨us,ha W' H' e,by omega⟩⟩
 obtain ⟨T,x,hT,rfl,rfl,y⟩:=y
 obtain ⟨z,hz,rz⟩:=r.get (y us (ha W' _ e))
 have sm:=b7 hT (HO.tup [.int (i:Int),x])
 exact⟨sm,_,M5 hz,.tup b8 (.cons (.int _) (.cons ((rz.keep (e.keep tw)).same sm fun _ q=>q) .nil))⟩
theorem aC4 {K:PySem.W.Frag}{H0:Hp}{W:Addr->Prop}{g:Bool}{H1:Hp}{a:Addr}{us:List V}{xs:List PV} (tw:∀ a,W a->∃ o,H1 a=some o/\gE o=true) (ha:∀ W' H',Ev W H1 W' H'->aJ K H' a us) (r:Reps K (Ms H0 W g) H1 us xs):l0 K H0 W g H1 (vA K a) (iN xs):=by
 have lr:=r.length
 have ll:=vB xs
 refine⟨fun W' H' i e hi=>⟨us,us[i]'(by omega),ha W' H' e,by simp⟩,fun W' H' i v H2 e y hi=>?_,fun W' H' e=>⟨us,ha W' H' e,by omega⟩⟩
 obtain ⟨T,x,hT,rfl,rfl,y⟩:=y
 obtain ⟨z,hz,rz⟩:=r.get (y us (ha W' _ e))
 have sm:=b7 hT (HO.tup [.int (i:Int),x])
 exact⟨sm,_,M5 hz,.tup b8 (.cons (.int _) (.cons ((rz.keep (e.keep tw)).same sm fun _ q=>q) .nil))⟩
section
variable {X : Cx} {σ : L2.St} {H : Hp} {te : aF} {R : It → Hp → Prop}
theorem aC5 (h:LI X (qP te) σ H R):M3 X.K (fR (LE X te) gQ) σ H R:=by
 obtain ⟨W,ρ,Q,px,q,k⟩:=h
 refine⟨W,ρ,_,px,q,?_⟩
 rintro v H1 x g s r ⟨xs,hx,hg,q⟩
 have px1:=px.mono s
 have tw:∀ a,W a->∃ o,H1 a=some o/\gE o=true:=fun a z=>(px1.wm a z).2
 rcases hx with rfl | rfl
 ·obtain ⟨a,us,rfl,m,h,r⟩:=r.sqL
  have wa : ¬ W a:=by
   cases g with
   | fr=>exact (px.new m).1
   | nw=>exact m.1
   | sh=>exact m
   | rd=>have:=hg rfl; unfold flat at this; cases this
  exact⟨a,rfl,.inl ⟨us,aM.of h,k _ _ _ _ s (aC3 tw (fun W' H' e=>aM.of (e _ _ h wa).1) (l8 px (fun z=>by have:=hg z; unfold flat at this; cases this) r)) q⟩⟩
 ·obtain ⟨a,us,rfl,h,r⟩:=r.sqT
  refine⟨a,rfl,.inr ⟨us,aJ.of h,k _ _ _ _ s (aC4 tw (fun W' H' e=>aJ.of (e _ _ h fun z=>?_).1) (l8 px (fun z=>by have:=hg z; unfold flat at this; exact this) r)) q⟩⟩
  obtain ⟨o,h',mu⟩:=tw _ z; rw [h] at h'; cases h'; cases mu
theorem M6 {elts:List Expr}{kt:Nat}{pt p2 pos:Pos}{a:Expr}{ta:aF} (hg:Gl X "enumerate") (hm:X.mg "enumerate" = none) (ha:QE X a ta) (hs:starEach [a] X.env = [(false,eval a X.env)]:=by rfl):QI X (.Tuple elts kt pt) (.Call (.Name "enumerate" p2) [a] [] pos) (qP ta):=
 pN (aB9 hg hm (cK ha cZ hs) hs) fun _ _ _=>aC5
end
section
variable {X : Cx} {e : Expr} {te : aF} {pos p2 : Pos} {scope : Scope} {N : List Str} {fr : List (Option Nat)} {x y : Str} {tp xp yp : Pos} {kt : Nat} {iter elt : Expr} {ti : eC}
abbrev nR (x y:Str) (xp yp:Pos) (kt:Nat) (tp:Pos):Expr:=.Tuple [.Name x xp,.Name y yp] kt tp
theorem M7 {ifs:List Expr}{tcs:c8} (hc:X.calm=true) (he:∀ (s:Shared) (H:Hp) (C:Addr) (fp:List Addr),QE (bL X scope N s H C fp cM) elt te) (hi:∀ (s:Shared) (H:Hp) (C:Addr) (fp:List Addr),iU (bL X scope N s H C fp cM) ifs (LT (bL X scope N s H C fp cM) tcs))
  (hN:N.Nodup) (h0:N[0]? = some x) (h1:N[1]? = some y) (hl:∀ (s:Shared) (H:Hp) (C:Addr) (fp:List Addr),(bL X scope N s H C fp cM).env.scope.names.lookup x=some .local) (hl2:∀ (s:Shared) (H:Hp) (C:Addr) (fp:List Addr),(bL X scope N s H C fp cM).env.scope.names.lookup y=some .local) (s:Shared) (H:Hp) :
  mL X scope N (nR x y xp yp kt tp) ifs elt s H (jJ X.K 2 (fB (cR 0) (fB (cR 1) jI))) (LT (X.frm H) tcs) (LE (X.frm H) te):=
 ⟨fun C fp=>m6 (X:=bL X scope N s H C fp cM) hc (gO (fA hN h0 (.inl (hl s H C fp)) (.inr (hl s H C fp))) (gO (fA hN h1 (.inl (hl2 s H C fp)) (.inr (hl2 s H C fp))) m5)),fun C fp=>hi s H C fp,fun C fp=>he s H C fp⟩
theorem aC6 (hi:QI X (nR x y xp yp kt tp) iter ti) (he:∀ (s:Shared) (H:Hp) (C:Addr) (fp:List Addr),QE (bL X scope N s H C fp cM) elt te)
  (hc:X.calm=true:=by rfl) (S:cV X scope N fr:=by exact cV.of rfl rfl) (hN:N.Nodup:=by decide +kernel) (h0:N[0]? = some x:=by rfl) (h1:N[1]? = some y:=by rfl) (hl:∀ (s:Shared) (H:Hp) (C:Addr) (fp:List Addr),(bL X scope N s H C fp cM).env.scope.names.lookup x=some .local:=by intro _ _ _ _; rfl) (hl2:∀ (s:Shared) (H:Hp) (C:Addr) (fp:List Addr),(bL X scope N s H C fp cM).env.scope.names.lookup y=some .local:=by intro _ _ _ _; rfl) (hf:fr[0]? = some none:=by rfl) (hf2:fr[1]? = some none:=by rfl)
  (hs:∀ x,foldedSetIterable iter X.env x=pure x:=by intro _; rfl):QE X (.ListComp elt [⟨nR x y xp yp kt tp,iter,[],0⟩] scope pos) (eU ti fr (jX 0 1) gU te):=
 bT (oN (gh:=fun _=>jJ X.K 2 (fB (cR 0) (fB (cR 1) jI))) (tch:=fun H=>LT (X.frm H) gU) (teh:=fun H=>LE (X.frm H) te) hc S hi (M7 hc he (fun _ _ _ _=>E4) hN h0 h1 hl hl2) hs) fun _ _ _=>pF (tY _ 0 1) (fun i e=>by rcases e with e | e <;> (subst e; assumption))
theorem aC7 {c:Expr}{tcs:c8} (hi:QI X (nR x y xp yp kt tp) iter ti) (ht:∀ (s:Shared) (H:Hp) (C:Addr) (fp:List Addr),QT (bL X scope N s H C fp cM) c tcs) (he:∀ (s:Shared) (H:Hp) (C:Addr) (fp:List Addr),QE (bL X scope N s H C fp cM) elt te)
  (hc:X.calm=true:=by rfl) (S:cV X scope N fr:=by exact cV.of rfl rfl) (hN:N.Nodup:=by decide +kernel) (h0:N[0]? = some x:=by rfl) (h1:N[1]? = some y:=by rfl) (hl:∀ (s:Shared) (H:Hp) (C:Addr) (fp:List Addr),(bL X scope N s H C fp cM).env.scope.names.lookup x=some .local:=by intro _ _ _ _; rfl) (hl2:∀ (s:Shared) (H:Hp) (C:Addr) (fp:List Addr),(bL X scope N s H C fp cM).env.scope.names.lookup y=some .local:=by intro _ _ _ _; rfl) (hf:fr[0]? = some none:=by rfl) (hf2:fr[1]? = some none:=by rfl)
  (hs:∀ x,foldedSetIterable iter X.env x=pure x:=by intro _; rfl):QE X (.ListComp elt [⟨nR x y xp yp kt tp,iter,[c],0⟩] scope pos) (eU ti fr (jX 0 1) tcs te):=
 bT (oN (gh:=fun _=>jJ X.K 2 (fB (cR 0) (fB (cR 1) jI))) (tch:=fun H=>LT (X.frm H) tcs) (teh:=fun H=>LE (X.frm H) te) hc S hi (M7 hc he (fun s H C fp=>yM (ht s H C fp)) hN h0 h1 hl hl2) hs) fun _ _ _=>pF (tY _ 0 1) (fun i e=>by rcases e with e | e <;> (subst e; assumption))
end
section
variable {X : Cx} {a b e o f : Expr} {ta tb te td tk tx : aF} {pos p2 apos cpos : Pos} {σ : L2.St} {H : Hp} {Q' : VK}
def vC (td tk tx:aF):aF:=fun ρ Q=>td ρ fun x _=>∃ ps,x = .dK ps/\tk ρ fun y _=>tx ρ fun z _=>∃ k,y=kP k/\flat ((bA ps k).getD z)=true/\Q ((bA ps k).getD z) .fr
theorem aC8 (h:LE X (vC td tk tx) σ H Q'):yI (LE X td) (LE X tk) (LE X tx) σ H Q':=by
 obtain ⟨W,ρ,Q,px,q,k⟩:=h
 refine⟨W,ρ,_,px,q,?_⟩
 rintro v H1 x g s r ⟨ps,rfl,q⟩
 have r0:=r
 cases r with
 | @dK a kvs _ m h e rr=>
  refine⟨a,rfl,.inl ⟨kvs,.inl h⟩,W,ρ,_,px.mono s,q,fun w H2 y g' s2 r2 q2=>⟨W,ρ,_,(px.mono s).mono s2,q2,?_⟩⟩
  rintro w3 H3 z gz s3 r3 ⟨kk,rfl,fl,q⟩
  obtain ⟨a',o',ea,dg,h1,h2⟩:=pG (.inl ⟨ps,kk,rfl,rfl,rfl⟩) (r0.same (s2.trans s3) fun _ z=>z) (r2.same s3 fun _ z=>z)
  cases ea
  refine⟨o',dg,?_⟩
  cases hv:bA ps kk with
  | none=>
   rw [hv] at fl q
   rw [h1 hv]
   exact k _ _ _ .fr ((s.trans s2).trans s3) (r3.flat fl) q
  | some z'=>
   rw [hv] at fl q
   obtain ⟨u,rfl,ru⟩:=h2 z' hv
   exact k _ _ _ .fr ((s.trans s2).trans s3) (ru.flat fl) q
theorem aC9 (hu:X.A.units+1 < cLine) (ho:QE X o td) (he:QE X e tk) (hf:QE X f tx) (m:M2 X o "get" apos e f cpos:=by exact⟨rfl,rfl,rfl,rfl⟩):QE X (.Call (.Attribute o "get" apos) [e,f] [] cpos) (vC td tk tx):=bT (ag9 hu ho he hf m) fun _ _ _=>aC8
end
section
variable {X : Cx} {a b : Expr} {ta tb : aF} {pos : Pos}
def nS:PV->Tg->PV->Tg->PK->Prop:=fun x _ y _ Q=>∃ xs ys,x = .tup xs/\y = .tup ys/\flats xs=true/\flats ys=true/\xs.length+ys.length<=16000000/\Q (.tup (xs ++ ys)) .fr
abbrev kF (ta tb:aF):aF:=q2 nS ta tb
theorem aD0:cT X nS (M4 X.K):=by
 rintro W Hs H u v x y g g' Q Q' s n r1 r2 ⟨xs,ys,rfl,rfl,f1,f2,hl,q⟩ k
 obtain ⟨a,us,rfl,h1,q1⟩:=r1.sqT
 obtain ⟨b,ws,rfl,h2,q2⟩:=r2.sqT
 have l1:=q1.length
 have l2:=q2.length
 refine⟨a,b,us,ws,rfl,rfl,aJ.of h1,aJ.of h2,lim (by omega),fun z=>?_,fun _ z=>?_,fun _ _ p hp=>k _ _ _ .fr (b7 hp _) (.tup b8 (((q1.flat f1).append (q2.flat f2)).same (b7 hp _) fun _ z=>z)) q⟩
 ·obtain rfl:xs = []:=by cases xs with
   | nil=>rfl
   | cons _ _=>rw [z] at l1; cases l1
  exact k _ _ _ .fr (aC.refl _) (.tup h2 (q2.flat f2)) q
 ·obtain rfl:ys = []:=by cases ys with
   | nil=>rfl
   | cons _ _=>rw [z] at l2; cases l2
  rw [aV4] at q
  exact k _ _ _ .fr (aC.refl _) (.tup h1 (q1.flat f1)) q
theorem qQ (ha:QE X a ta) (hb:QE X b tb):QE X (.BinOp a .Add b pos) (kF ta tb):=gI aC1 aD0 ha hb
end
end PP
namespace Core
open PySem L2 PP
section
variable (ws : List Int) (ls : List (Int × Int)) (os ns : List Int)
def fN:Nat->List Int
 | 0=>[]
 | k+1=>fN k ++ (os.find? (kin ws ls (ns ++ fN k))).toList
def nT (k:Nat):Option Int:=os.find? (kin ws ls (ns ++ fN ws ls os ns k))
end
section
variable {ws : List Int} {ls : List (Int × Int)} {os ns : List Int}
theorem aD1 {k:Nat}{h:Int} (e:nT ws ls os ns k=some h):fN ws ls os ns (k+1)=fN ws ls os ns k ++ [h]:=by
 show fN ws ls os ns k ++ (nT ws ls os ns k).toList=_
 rw [e]; rfl
theorem aD2 {k:Nat}{h:Int} (e:nT ws ls os ns k=some h):h ∈ os/\h ∉ ns ++ fN ws ls os ns k:=
 ⟨List.mem_of_find?_eq_some e,bc5 (uQ (List.find?_some e))⟩
theorem aD3 (po:os.Perm (rng ws.length)) (hs:bW ws.length ns=true):∀ k,(ns ++ fN ws ls os ns k).Nodup/\∀ x ∈ ns ++ fN ws ls os ns k,x ∈ rng ws.length
 | 0=>by
  rw [show fN ws ls os ns 0 = [] from rfl,aV4]
  exact⟨(lF (jA hs).1).imp fun h=>Int.ne_of_lt h,fun x hx=>pX.mpr ((jA hs).2 x hx)⟩
 | k+1=>by
  obtain ⟨i1,i2⟩:=aD3 po hs k
  cases e:nT ws ls os ns k with
  | none=>
   have:fN ws ls os ns (k+1)=fN ws ls os ns k:=by
    show fN ws ls os ns k ++ (nT ws ls os ns k).toList=_
    rw [e]; exact aV4 _
   rw [this]; exact⟨i1,i2⟩
  | some h=>
   obtain ⟨n1,n2⟩:=aD2 e
   rw [aD1 e,<- bb5]
   refine⟨aZ1.mpr ⟨i1,aW0 _ _,fun x hx y hy=>?_⟩,fun x hx=>?_⟩
   ·rw [aS4.mp hy]; intro z; subst z; exact n2 hx
   ·rcases aU2.mp hx with hx | hx
    ·exact i2 x hx
    ·rw [aS4.mp hx]; exact po.mem_iff.mp n1
theorem M8 (hs:bW ws.length ns=true):∀ k,(bD ws ls ns k).Nodup
 | 0=>(lF (jA hs).1).imp fun h=>Int.ne_of_lt h
 | k+1=>by
  show (bD ws ls ns k ++ nextOf ws ls (bD ws ls ns k)).Nodup
  refine aZ1.mpr ⟨M8 hs k,(qH ws.length).filter _,fun x hx y hy=>?_⟩
  intro z; subst z
  exact bc5 (uQ (List.mem_filter.mp hy).2) hx
end
def aD4:Option Int->PV
 | none=>.non
 | some h=>.int h
def nU:bJ:=fun xs Q=>∃ ws ls ps S x os,xs = [bF ws ls,.lst (gZ ws.length ls),.dK ps,x]/\Wb ws ls/\DS ps S/\cU x os/\(∀ h ∈ os,h ∈ rng ws.length)/\Q (aD4 (os.find? (kin ws ls S)))
def M9:aO:=(aG (cN (eR (a5 3)) (bZ 4)
  (bG (aS (aE lI (a6 (a5 0) (a6 (a5 1) (a6 (a5 2) (a6 (a5 4) a9)))))) (gT 4) bM))
 (b4 (qC .non)))
theorem aD5 {os:List Int}{p:Int->Bool}{i:Nat}{h:Int} (e:(os.take i).find? p=none) (hh:os[i]? = some h):(p h=true->os.find? p=some h)/\(p h=false->(os.take (i+1)).find? p=none):=by
 constructor
 ·intro hp
  have h1:os=os.take (i+1) ++ os.drop (i+1):=(ba9 _ _).symm
  rw [h1,List.find?_append,ba6,hh,List.find?_append,e]
  simp [hp]
 ·intro hp
  rw [ba6,hh,List.find?_append,e]
  simp [hp]
theorem aD6:cP M9 ["web","around","burning","order","hearth"] nU:=by
 rintro xs Q ⟨ws,ls,ps,S,x,os,rfl,wb,d,hx,inn,q⟩
 refine⟨_,rfl,_,hx.seq,qB hx,fun i ρ=>∃ y,ρ = [some (.sh (flat (bF ws ls)) (bF ws ls)),some (.sh (flat (.lst (gZ ws.length ls))) (.lst (gZ ws.length ls))),some (.sh (flat (.dK ps)) (.dK ps)),some (.sh (flat x) x),y]/\(os.take i).find? (kin ws ls S)=none,⟨none,rfl,rfl⟩,?_,?_⟩
 ·rintro i y ρ hy ⟨y0,rfl,fn⟩
  obtain ⟨h,rfl,hh⟩:=iL hy
  have hm:=pX.mp (inn h (aW8 hh))
  have ft:=aD5 fn hh
  refine⟨_,rfl,_,rfl,_,rfl,_,rfl,ws,ls,ps,S,h,rfl,wb,d,hm.1,hm.2,_,rfl,?_⟩
  cases hk:kin ws ls S h with
  | true=>
   refine aX ⟨_,rfl,?_,?_⟩
   ·show Slot.nw (.sh (_ || true) _)
    rw [Bool.or_true]; trivial
   ·rw [ft.1 hk] at q; exact q
  | false=>exact aV ⟨some (.sh (_ || true) (.int h)),rfl,ft.2 hk⟩
 ·rintro ρ ⟨y,rfl,fn⟩
  rw [b6,aV3] at fn
  rw [fn] at q
  exact⟨trivial,q⟩
theorem aD7 {i:Nat}{h:Int}{g:Bool}{ρ:bE}{Q:bE->Prop} (q:Q (ρ.set i (some (.sh true (.int h))))):bZ i (.int h) g ρ Q:=by
 show Q (ρ.set i (some (.sh (g || true) (.int h))))
 rw [Bool.or_true]; exact q
def aD8 (ns S:List Int):Int:=(ns.length:Int) - (((ns.filter fun x=>decide (x ∈ S)).length:Nat):Int)
def aD9 (ws:List Int) (ls:List (Int × Int)) (S:List Int) (h:Int):Bool:=decide (aD8 (cC ls h) S < ws.getD h.toNat 0)
def stay (ws:List Int) (ls:List (Int × Int)) (S:List Int):List Int:=S.filter (aD9 ws ls S)
end Core
namespace Raw
open PySem PySem.W PyProof.Rows
section
variable {prog : Program} {w : World} {A : Around} {E : Value → Shared → Prop} {s : Shared} {T : String} {r d : Addr} {n : Nat} {P : Nat → Value → Prop} {OK : Heap → Prop}
theorem aE0 {R:Result->Shared->Prop} (K:KdlSrc prog w T r d n P OK) (hh:A.handled=none) (hok:OK s.heap) (hn:n<=sizeLine)
  (hR:∀ h' tk acc c,(∀ b o,b ≠ s.heap.objs.size->(s.heap.push { cls:=.type "list",data:=.seq ([]:List Value).toArray }).get? b=some o->h'.get? b=some o)->h'.get? s.heap.objs.size=some { cls:=.type "list",dict:=none,data:=.seq acc c,slots:=#[] }->ItemsOf P acc n->R (.ok (.ret (.ref s.heap.objs.size))) { s with heap:=h',toks:=tk }) :
  codeAny (model prog w) A (.builtin "proto.collect" ⟨[.ref r],[]⟩) R s:=by
 have lt:=K.there _ hok
 refine codeAny_builtin PySem.F.entry_proto_collect ?_
 rw [Around.under_plainId PySem.F.plain_proto_collect _]
 show wpAny _ A.in1 (newList [] >>= fun l=>again (.builtin "list.__iadd__" ⟨[l,.ref r],[]⟩)) _ _ s
 refine aQ5 (aX6 ?_)
 refine aQ9 ⟨plainId_quiet PySem.F.plain_list_iadd _,codeAny_builtin PySem.F.entry_list_iadd ?_⟩
 rw [Around.under_plainId PySem.F.plain_list_iadd _]
 show wpAny _ A.in1 (Builtin.List.listExtendWith (.ref s.heap.objs.size) (.ref r) (.ref s.heap.objs.size)) _ _ _
 exact kdl_extend (s:={ s with heap:=s.heap.push { cls:=.type "list",data:=.seq ([]:List Value).toArray } }) (R:=R) K hh (K.keep _ _ hok fun b _ o e=>aQ6 _ e) s.heap.objs.size (aX9 lt.1) (aX9 lt.2) _ 0 (aS1 _ rfl) hR hn
theorem aE1 {Q:List Value->Shared->Prop} (K:KdlSrc prog w T r d n P OK) (hh:A.handled=none) (hok:OK s.heap) (hn:n<=sizeLine)
  (hQ:∀ h' tk acc,(∀ b o,s.heap.get? b=some o->h'.get? b=some o)->s.heap.objs.size<=h'.objs.size->ItemsOf P acc n->Q acc.toList { s with heap:=h',toks:=tk }) :
  wpAny (model prog w) A (collect (.ref r)) Q E s:=by
 unfold collect
 refine aQ5 (wpAny_runValue (aE0 (s:=s) K hh hok hn fun h' tk acc c kp at1 it=>?_))
 show wpAny _ A (load s.heap.objs.size >>= _) _ _ _
 refine aQ5 (wpAny_load at1 ?_)
 exact aQ9 (hQ h' tk acc (fun b o e=>kp b o (aT3 (aR8 e)) (aQ6 _ e)) (aV0 (aR8 at1)) it)
theorem aE2 {Q:Value->Shared->Prop}{G:List Int->Prop} (K:KdlSrc prog w T r d n P OK) (hh:A.handled=none) (hok:OK s.heap) (hn:n < 64)
  (hI:∀ acc,ItemsOf P acc n->∃ ns,IntsAre acc.toList ns/\G ns)
  (h:∀ h' tk a (out:Array Value) (ns ns':List Int) e,(∀ b o,s.heap.get? b=some o->h'.get? b=some o)->s.heap.objs.size<=a->h'.get? a=some (seqObj "list" out e)->IntsAre out.toList ns'->G ns->ns'.Perm ns->ns'.Pairwise (· <= ·)->Q (.ref a) { s with heap:=h',toks:=tk }) :
  wpAny (model prog w) A (call (.builtin "sorted") [.ref r]) Q E s:=by
 have hsl:n<=sizeLine:=aT4 (aV0 hn) (by decide)
 refine Calls.call_function_entry kind_sorted plain_sorted entry_sorted (args_sorted1 _) ?_
 unfold Builtin.«sorted»
 refine aQ5 (m:=checkCount "sorted" 1 1 _) (aQ9 ?_)
 refine aQ5 (aE1 (s:=s) K hh hok hsl fun h' tk acc kp hs it=>?_)
 obtain ⟨ns,hi,g⟩:=hI acc it
 have hz:acc.toList.length < 64:=by rw [aU3,it.1]; exact hn
 refine aQ5 (wpAny_newList ?_ (aT4 (aV0 hz) (by decide)))
 have hoL:(h'.push (seqObj "list" acc.toList.toArray 0)).get? h'.objs.size=some (seqObj "list" acc.toList.toArray 0):=aS1 _ rfl
 show wpAny _ _ _ _ _ { s with heap:=h'.push (seqObj "list" acc.toList.toArray 0),toks:=tk }
 refine aQ5 (aY5 (aW3 slot_list_sort ⟨_,hoL,rfl⟩ entry_list_sort (list_sort_tree hoL hi hz fun out ns' a1 a2 a3=>⟨_,rfl,?_⟩) (args_list_sort _)))
 obtain ⟨e,he⟩:=sortedHeap_at (vs:=acc.toList) (out:=out) hoL
 refine aQ9 ⟨_,rfl,h _ tk h'.objs.size out ns ns' e (fun b o hb=>?_) hs he a1 g a2 a3⟩
 have lt:=aR8 (kp b o hb)
 rw [sortedHeap_old (aT3 lt) (by rw [size_push']; exact Nat.lt_succ_of_lt lt)]
 exact aQ6 _ (kp b o hb)
end
end Raw
namespace L2
open PySem PySem.Spec PyProof.Rows
section
variable {X : Cx}
theorem aE3 (hc:X.calm=true):cJ X (.builtin "sorted") (fun xs H Q=>∃ a kvs ns,xs = [.ref a]/\H a=some (.dK kvs)/\kvs.map (·.1)=ns.map Sum.inl/\ns.length < 64/\∀ l (ms:List Int),H l=none->ms.Perm ns->ms.Pairwise (· <= ·)->Q (.ref l) (upd H l (.lst (ms.map V.int)))):=by
 intro pins s σ H xs us Q I r h
 obtain ⟨a,kvs,ns,rfl,ha,hk,h64,q⟩:=h
 obtain ⟨u,rfl,ru⟩:=fC r
 cases ru
 obtain ⟨es,ep,rd,far,vk,z⟩:=aj5 I ha
 have hl:=vk.length
 have hl2:=congrArg List.length hk
 rw [aR1,aR1] at hl hl2
 have hsz:es.toList.length=es.size:=aU3
 have e1:(kvs.map fun p=>kV p.1)=ns.map V.int:=by
  have:(kvs.map fun p=>kV p.1)=(kvs.map (·.1)).map kV:=by rw [aY8]; rfl
  rw [this,hk,aY8]; rfl
 rw [e1] at vk
 refine Raw.aE2 (G:=fun ms=>ms=ns) (Raw.zF far) (I.ok.hd hc) rd (by omega) (fun acc it=>⟨ns,by rw [zG it]; exact mE vk,rfl⟩) fun h' tk l out ns1 ns' e kp hn he a1 g a2 a3=>?_
 subst g
 have hlen:ns'.length=ns1.length:=a2.length_eq
 refine⟨.ref l,upd H l (.lst (ns'.map V.int)),I.laid (t':=tk) kp hn ⟨?_,out.toList,e,mI a1,by simpa using he⟩,rfl,q _ ns' (I.hok.fresh hn) a2 a3⟩
 rw [aR1,hlen]
 exact aV0 (mJ (by omega))
end
end L2
namespace PP
open PySem L2 PyProof.Rows
section
variable {X : Cx} {a b e : Expr} {ta tb te : aF} {tr : cG} {pos p2 : Pos}
def vD:List PV->(PV->Prop)->Prop:=fun xs Q=>∃ (ps:List (aD × PV)) (ns:List Int),xs = [.dK ps]/\ps.map (·.1)=ns.map Sum.inl/\ns.length < 64/\∀ ms:List Int,ms.Perm ns->ms.Pairwise (· <= ·)->Q (.lst (intz ms))
theorem aE4:eB X vD (fun xs H Q=>∃ a kvs ns,xs = [.ref a]/\H a=some (.dK kvs)/\kvs.map (·.1)=ns.map Sum.inl/\ns.length < 64/\∀ l (ms:List Int),H l=none->ms.Perm ns->ms.Pairwise (· <= ·)->Q (.ref l) (upd H l (.lst (ms.map V.int)))):=by
 rintro H vs xs Q Q' r ⟨ps,ns,rfl,e,hl,q⟩ k
 obtain ⟨v,rfl,r1⟩:=r.one
 cases r1 with
 | @dK a kvs _ m h e2 r2=>
  exact⟨a,kvs,ns,rfl,h,e2.trans e,hl,fun l ms hl' p o=>k _ _ _ (b7 hl' _) (.lst hl' b8 (Reps.intz ms)) (q ms p o)⟩
theorem aE5 (B:Bt X.mg) (hc:X.calm=true) (ha:QA X [e] tr) (hg:Gl X "sorted":=by rfl) (he:starEach [e] X.env=(false,eval e X.env) :: starEach [] X.env:=by rfl) (hpl:(backTo pos (starEach [] X.env)).any (·.1)=false:=by rfl):QE X (.Call (.Name "sorted" p2) [e] [] pos) (aE vD tr):=
 j4 (aE3 hc) aE4 hg B.sorted PyProof.Rows.boot_sorted ha (he:=he) (hpl:=hpl)
theorem aE6 {x:Str}{a:Addr}{us:List V}{xs:List PV} (hg:Gl X x) (hm:X.mg x=some (.ref a)) (h:iF X.K a us) (hr:∀ M H,Reps X.K M H us xs) (hd:(x == ("__debug__" : Str))=false:=by decide):QE X (.Name x pos) (qC (.kt xs)):=
 bT (w6 (v:=.ref a) hg hm rfl hd) fun _ _ _=>mQ fun _=>.kt h (hr _ _)
def qR (K:PySem.W.Frag) (mg:Str->Option Value):Prop:=∃ a b,mg "CAUSE_OF_SEED" = some (.ref a)/\iF K a [.int 0,.ref b]/\iF K b []
theorem N0 (c:qR X.K X.mg) (hg:Gl X "CAUSE_OF_SEED":=by rfl):QE X (.Name "CAUSE_OF_SEED" pos) (qC (.kt [.int 0,.kt []])):=by
 obtain ⟨a,b,hm,h1,h2⟩:=c
 exact aE6 hg hm h1 fun _ _=>.cons (.int 0) (.cons (.kt h2 .nil) .nil)
end
end PP
namespace Core
open PySem L2 PP
def eM (k:Nat) (r:List Int):List (aD × PV):=r.map fun h=>((Sum.inl h:aD),PV.int (k:Int))
def g9 (rs:List (List Int)):List (aD × PV):=(rs.mapIdx eM).flatten
theorem aE7 (rs:List (List Int)) (r:List Int):g9 (rs ++ [r])=g9 rs ++ eM rs.length r:=by
 unfold g9
 rw [List.mapIdx_append,List.flatten_append]
 simp
theorem N1 (k:Nat) (r:List Int):(eM k r).map (·.1)=r.map Sum.inl:=by
 unfold eM; rw [aY8]; rfl
theorem N3:∀ (rs:List (List Int)) (g:Nat->Nat),((rs.mapIdx fun i r=>eM (g i) r).flatten).map (·.1)=rs.flatten.map (Sum.inl:Int->aD)
 | [],_=>rfl
 | r :: t,g=>by
  rw [List.mapIdx_cons,aY1,aY1,aT8,aT8,N1,N3 t fun i=>g (i+1)]
theorem N4 (rs:List (List Int)):(g9 rs).map (·.1)=rs.flatten.map (Sum.inl:Int->aD):=N3 rs fun i=>i
theorem aE8 {ps:List (aD × PV)}{h:Int}{v:PV}{S:List Int} (e:ps.map (·.1)=S.map Sum.inl) (hn:h ∉ S):cI ps (Sum.inl h:aD) v=ps ++ [(Sum.inl h,v)]:=by
 unfold cI
 rw [if_neg]
 intro z
 rw [List.any_eq_true] at z
 obtain ⟨p,hp,hq⟩:=z
 have:p.1 ∈ ps.map (·.1):=aV7.mpr ⟨p,hp,rfl⟩
 rw [e,of_decide_eq_true hq] at this
 obtain ⟨y,hy,e2⟩:=aV7.mp this
 exact hn (Sum.inl.inj e2 ▸ hy)
theorem aE9 {k:Nat}{r:List Int}{i:Nat}{n:Int} (h:r[i]? = some n):eM k (r.take (i+1))=eM k (r.take i) ++ [(Sum.inl n,PV.int (k:Int))]:=by
 unfold eM
 rw [ba6,h,aT8]; rfl
def hU (rs:List (List Int)) (h:Int):Option Nat:=rs.findIdx? fun r=>decide (h ∈ r)
theorem aF0 {ps qs:List (aD × PV)}{k:aD}:bA (ps ++ qs) k=(bA ps k).or (bA qs k):=by
 unfold bA
 rw [List.find?_append]
 cases ps.find? _ <;> rfl
theorem N5 (k:Nat) (h:Int):∀ r:List Int,bA (eM k r) (Sum.inl h:aD)=if h ∈ r then some (.int (k:Int)) else none
 | []=>rfl
 | x :: r=>by
  have ih:=N5 k h r
  show bA ((Sum.inl x,PV.int (k:Int)) :: eM k r) (Sum.inl h)=_
  by_cases e:x=h
  ·rw [gK (p:=(Sum.inl x,PV.int (k:Int))) (congrArg Sum.inl e),if_pos (by rw [e]; exact aS0)]
  ·rw [gL (p:=(Sum.inl x,PV.int (k:Int))) (fun z=>e (Sum.inl.inj z)),ih]
   by_cases hm:h ∈ r
   ·rw [if_pos hm,if_pos (aS2 _ hm)]
   ·rw [if_neg hm,if_neg fun z=>(aR2.mp z).elim (fun q=>e q.symm) hm]
theorem N6 (h:Int):∀ (rs:List (List Int)) (g:Nat->Nat),bA ((rs.mapIdx fun i r=>eM (g i) r).flatten) (Sum.inl h:aD)=(hU rs h).map fun k=>PV.int (g k:Nat)
 | [],_=>rfl
 | r :: t,g=>by
  rw [List.mapIdx_cons,aY1,aF0,N5,N6 h t fun i=>g (i+1)]
  unfold hU
  rw [List.findIdx?_cons]
  by_cases hm:h ∈ r
  ·rw [if_pos hm,if_pos (aS3 hm)]; rfl
  ·rw [if_neg hm,if_neg (by simpa using hm),Option.none_or,Option.map_map]; rfl
theorem vE (rs:List (List Int)) (h:Int):bA (g9 rs) (Sum.inl h:aD)=(hU rs h).map fun (k:Nat)=>PV.int (k:Int):=N6 h rs fun i=>i
def nV (rs:List (List Int)) (o:Int):Int:=((hU rs o).getD 0:Nat)
def kG (rs:List (List Int)) (k:Nat) (o:Int):Bool:=match hU rs o with
 | some j=>decide (j < k)
 | none=>false
def kH (rs:List (List Int)) (l:List Int) (k:Nat):List (List Int):=(l.filter (kG rs k)).map fun o=>[nV rs o,o]
def aF1 (rs:List (List Int)) (l:List Int) (want:Int) (k:Nat) (bs:List Int):Prop:=
 ∃ zs:List (List Int),zs.Perm (kH rs l k)/\zs.Pairwise (fun u v=>HT.dZ v u=false)/\bs.Perm ((zs.take want.toNat).map fun z=>z.getD 1 0)/\bs.Pairwise (· <= ·)
theorem N7 {xs:List PV}{w:Int} (h:0<=w):eD xs none (some w)=xs.take w.toNat:=by
 unfold eD
 rw [HT.ac5,List.drop_zero,Nat.sub_zero]
 have:HT.aR xs.length xs.length (some w)=min w.toNat xs.length:=by
  show (if w < 0 then (w+(xs.length:Int)).toNat else min w.toNat xs.length)=_
  rw [if_neg (by omega)]
 rw [this,<- List.take_take,aV3]
abbrev N8:PV:=.kt [.int 0,.kt []]
def aF2 (rs:List (List Int)) (ws:List Int) (ls:List (Int × Int)) (h:Int) (c:PV):Prop:=
 (hU rs h=none/\c = .non) ∨ (hU rs h=some 0/\c=N8) ∨ ∃ k bs,hU rs h=some (k+1)/\aF1 rs (cC ls h) (ws.getD h.toNat 0) (k+1) bs/\c = .tup [.int ((k+1:Nat):Int),.tup (intz bs)]
def qS:bJ:=fun xs Q=>∃ ws ls rs h,xs = [bF ws ls,.lst (gZ ws.length ls),.dK (g9 rs),.int h]/\eY (ws.length:Int) ws ls/\ws.length<=40/\0<=h/\h < (ws.length:Int)/\∀ c,aF2 rs ws ls h c->Q c
def N9:aO:=(aG (bG (aS (iZ true (a5 3) (a5 2))) (b4 (qC .non)) bM)
 (aG (aY 4 (pH (a5 2) (a5 3)))
 (aG (bG (aS (dB (a5 4) (qC (.int 0)))) (b4 (qC (.kt [.int 0,.kt []]))) bM)
 (aG (aY 5 (aE lJ (a6 (eU (eR (bK (a5 1) (a5 3))) [none,some 4,some 2] (bZ 0) (aS (iI (vC (a5 2) (a5 0) (a5 1)) (a5 1))) (cD (a6 (pH (a5 2) (a5 0)) (a6 (a5 0) a9)))) a9)))
 (aG (aY 6 (fK (a5 5) fI (fJ (bK (bK (a5 0) (qC (.int 0))) (a5 3)))))
 (b4 (cD (a6 (a5 4) (a6 (aE dJ (a6 (aE tV (a6 (eU (eR (a5 6)) [none,none] (jX 0 1) gU (a5 1)) a9)) a9)) a9)))))))))
theorem aF3 {n:Int}{ws:List Int}{ls:List (Int × Int)} (w:eY n ws ls) (h:Int):(cC ls h).length<=63:=
 aT4 (F9 h ls fun l hl=>by have:=w.inn l hl; omega) w.most
theorem aF4 {n:Int}{ws:List Int}{ls:List (Int × Int)} (w:eY n ws ls) (k:Nat):0<=ws.getD k 0:=by
 rw [aR7]
 cases e:ws[k]? with
 | none=>exact Int.le_refl _
 | some x=>exact w.pos x (aW8 e)
theorem aF5:cP N9 ["web","around","ranks","hearth","rank","earlier","taken"] qS:=by
 rintro xs Q ⟨ws,ls,rs,h,rfl,w,few,h0,h1,q⟩
 refine⟨_,rfl,_,rfl,_,.inl ⟨_,Sum.inl h,rfl,rfl,rfl⟩,_,rfl,?_⟩
 show if (!(bA (g9 rs) (Sum.inl h:aD)).isSome)=true then _ else _
 rw [vE]
 cases hr:hU rs h with
 | none=>exact aX ⟨trivial,q _ (.inl ⟨hr,rfl⟩)⟩
 | some k=>
  refine aV ?_
  refine⟨_,rfl,_,rfl,_,.inl ⟨_,Sum.inl h,rfl,rfl,(by rw [vE,hr]; rfl)⟩,trivial,?_⟩
  refine⟨_,rfl,.inl ⟨_,_,rfl,rfl,_,rfl,?_⟩⟩
  cases k with
  | zero=>exact aX ⟨trivial,q _ (.inr (.inl ⟨hr,rfl⟩))⟩
  | succ k=>
   rw [aR5 (by omega)]
   refine aV ?_
   have nl:=aF3 w h
   have wp:=aF4 w h.toNat
   refine⟨_,rfl,_,rfl,_,_,_,rfl,rfl,J0 h0 h1,_,rfl,(fun z=>by cases z),by rw [b6]; omega,fun i acc=>acc=(((cC ls h).take i).filter (kG rs (k+1))).map (fun o=>PV.tup (intz [nV rs o,o])),rfl,?_,?_⟩
   ·rintro i y acc hy rfl
    obtain ⟨o,rfl,ho⟩:=iL hy
    have tk:=pY (p:=kG rs (k+1)) ho
    refine⟨_,rfl,_,rfl,_,rfl,_,rfl,Sum.inl o,rfl,?_⟩
    have vo:=vE rs o
    cases hk:hU rs o with
    | none=>
     have e:kG rs (k+1) o=false:=by unfold kG; rw [hk]
     rw [hk] at vo
     rw [e,if_neg (by decide),aV4] at tk
     rw [vo]
     refine⟨rfl,_,rfl,_,_,rfl,rfl,_,rfl,?_⟩
     rw [aR5 (by omega)]
     refine aV ?_
     show _=_
     rw [tk]
    | some j=>
     have e:kG rs (k+1) o=decide (j < k+1):=by unfold kG; rw [hk]
     have er:nV rs o=(j:Int):=by unfold nV; rw [hk]; rfl
     rw [hk] at vo
     rw [vo]
     refine⟨rfl,_,rfl,_,_,rfl,rfl,_,rfl,?_⟩
     by_cases hj:j < k+1
     ·rw [e,if_pos (aS3 hj)] at tk
      rw [aS3 (by omega)]
      refine aX ⟨_,rfl,_,rfl,_,.inl ⟨_,Sum.inl o,rfl,rfl,vo.symm⟩,_,rfl,by show 2<=1000; decide,rfl,trivial,?_⟩
      show _=_
      rw [tk,aT8]
      show _ ++ [PV.tup [PV.int (j:Int),PV.int o]]=_ ++ [PV.tup [PV.int (nV rs o),PV.int o]]
      rw [er]
     ·rw [e,if_neg (by simpa using hj),aV4] at tk
      rw [aR5 (by omega)]
      refine aV ?_
      show _=_
      rw [tk]
   ·rintro acc rfl
    rw [b6,aV3]
    have pl:(kH rs (cC ls h) (k+1)).length<=63:=by
     unfold kH
     rw [aR1]
     exact aT4 (List.length_filter_le _ _) nl
    refine⟨kH rs (cC ls h) (k+1),?_,by omega,?_,fun zs pz so=>⟨trivial,?_⟩⟩
    ·unfold kH
     rw [aY8]; rfl
    ·intro y hy z
     unfold kH at hy
     obtain ⟨o,_,rfl⟩:=aV7.mp hy
     cases z
    refine⟨_,rfl,_,rfl,_,_,_,rfl,rfl,rfl,_,rfl,_,_,_,rfl,rfl,nL h0 h1,_,rfl,_,rfl,?_,trivial,?_⟩
    ·exact J4 zs
    show _
    have ct:eD (zs.map fun r=>PV.tup (intz r)) none (some (ws.getD h.toNat 0))=(zs.take (ws.getD h.toNat 0).toNat).map fun r=>PV.tup (intz r):=by
     rw [N7 wp,List.map_take]
    have z2:∀ z ∈ zs,∃ a b,z = [a,b]:=fun z hz=>by
     have:=pz.mem_iff.mp hz
     unfold kH at this
     obtain ⟨o,_,rfl⟩:=aV7.mp this
     exact⟨_,_,rfl⟩
    have zl:=pz.length_eq
    generalize hts:zs.take (ws.getD h.toNat 0).toNat=ts at ct
    have tl:ts.length<=63:=by rw [<- hts,aU5]; omega
    have t2:∀ z ∈ ts,∃ a b,z = [a,b]:=fun z hz=>z2 z (List.mem_of_mem_take (by rw [hts]; exact hz))
    refine⟨_,rfl,_,rfl,_,rfl,(fun z=>by cases z),?_,fun i acc=>acc=intz ((ts.take i).map fun z=>z.getD 1 0),rfl,?_,?_⟩
    ·have:=congrArg List.length ct
     rw [aR1] at this
     exact aT4 (Nat.le_of_eq this) (by omega)
    ·rintro i y acc hy rfl
     have hy:=(congrArg (fun l=>l[i]?) ct).symm.trans hy
     rw [aS5] at hy
     cases ht:ts[i]? with
     | none=>rw [ht] at hy; cases hy
     | some z=>
      rw [ht] at hy
      obtain ⟨a,b,rfl⟩:=t2 z (aW8 ht)
      cases hy
      refine⟨_,_,rfl,_,rfl,qF _ _,?_⟩
      show intz _ ++ [PV.int b]=intz ((ts.take (i+1)).map fun z:List Int=>z.getD 1 0)
      rw [nJ ht,dS]; rfl
    ·rintro acc rfl
     have le:=congrArg List.length ct
     rw [aR1] at le
     have e:(ts.take (eD (zs.map fun r=>PV.tup (intz r)) none (some (ws.getD h.toNat 0))).length)=ts:=by rw [le,aV3]
     refine⟨ts.map (fun z:List Int=>z.getD 1 0),congrArg (fun (l:List (List Int))=>[PV.lst (intz (l.map fun z:List Int=>z.getD 1 0))]) e,by rw [aR1]; omega,fun bs bp bo=>⟨⟨_,_,rfl,rfl,c7 _,by show 2<=1000; decide,?_,trivial,?_⟩,fun ns z=>by cases z⟩⟩
     ·show (flat (.tup (intz bs)) && true)=true
      rw [kB]; rfl
     ·exact q _ (.inr (.inr ⟨k,bs,hr,⟨zs,pz,so,by rw [hts]; exact bp,bo⟩,rfl⟩))
def qT:bJ:=fun xs Q=>∃ c j r k,xs = [c,.int k]/\(c = .kt (.int j :: r) ∨ c = .tup (.int j :: r))/\Q (.bl (decide (j < k)))
def O0:aO:=(b4 (jV (pM (a5 0) (qC .non)) (iI (bK (a5 0) (qC (.int 0))) (a5 1))))
theorem aF6:cP O0 ["cause","rank"] qT:=by
 rintro xs Q ⟨c,j,r,k,rfl,hc,q⟩
 rcases hc with rfl | rfl
 ·refine⟨_,rfl,rfl,_,rfl,aX ⟨_,rfl,_,_,_,rfl,rfl,jQ (by decide) rfl,_,rfl,_,_,rfl,rfl,trivial,q⟩⟩
 ·refine⟨_,rfl,rfl,_,rfl,aX ⟨_,rfl,_,_,_,rfl,rfl,jQ (by decide) rfl,_,rfl,_,_,rfl,rfl,trivial,q⟩⟩
def aF7 (c:PV) (j:Int):Prop:=∃ r,c = .kt (.int j :: r) ∨ c = .tup (.int j :: r)
def qU:bJ:=fun xs Q=>∃ want nb cs sd c,xs = [.int want,.lst (intz nb),.lst cs,.bl sd,c]/\nb.length<=1000/\(∀ o ∈ nb,0<=o/\o < (cs.length:Int))/\
 ((sd=true/\c=N8) ∨ (sd=false/\c = .non/\((nb.filter fun o=>!iX (cs.getD o.toNat .non)).length:Int) < want) ∨
  (sd=false/\∃ k bs,c = .tup [.int k,.tup (intz bs)]/\1<=k/\(bs.length:Int)=want/\fZ bs=true/\bs.length<=1000/\∀ o ∈ bs,o ∈ nb/\∃ j,aF7 (cs.getD o.toNat .non) j/\j < k))/\Q (.bl true)
def O1:aO:=(aG (bG (pC (a5 3)) (b4 (q2 (u8 2 false) (a5 4) (qC (.kt [.int 0,.kt []])))) bM)
 (aG (bG (aS (ar0 (a5 4) (qC .non))) (b4 (iI (aE eQ (a6 (eU (eR (a5 1)) [none,some 2] (bZ 0) (aS (pM (bK (a5 1) (a5 0)) (qC .non))) (a5 0)) a9)) (a5 0))) bM)
 (aG (aY 5 (bK (a5 4) (qC (.int 0))))
 (aG (aY 6 (bK (a5 4) (qC (.int 1))))
 (aG (bG (kY (aS (iI (a5 5) (qC (.int 1)))) (kY (aS (pL (aE eQ (a6 (a5 6) a9)) (a5 0))) (jU (aS (aE nK (a6 (a5 6) a9)))))) (b4 (qC (.bl false))) bM)
 (b4 (aE pB (a6 (eU (eR (a5 6)) [none,some 1,some 5,some 2] (bZ 0) gU (jV (q2 (pK false) (a5 0) (a5 1)) (aE qT (a6 (bK (a5 3) (a5 0)) (a6 (a5 2) a9))))) a9))))))))
theorem aF8 (g:Tg) (n:Int):p6 g (.int n):=by cases g <;> first | exact trivial | rfl
theorem aF9 (g:Tg) (ns:List Int):p6 g (.tup (intz ns)):=by cases g <;> first | exact trivial | exact kB ns
theorem O2 {cs:List PV}{o:Int} (h0:0<=o) (h1:o < (cs.length:Int)):atI cs o=some (cs.getD o.toNat .non):=by
 refine jQ h0 ?_
 have:o.toNat < cs.length:=by omega
 rw [aR7,aQ7 this]; rfl
theorem aG0:cP O1 ["want","neighbours","told","is_seed","cause","rank","by"] qU:=by
 rintro xs Q ⟨want,nb,cs,sd,c,rfl,nl,inn,hc,q⟩
 rcases hc with ⟨rfl,rfl⟩ | ⟨rfl,rfl,lt⟩ | ⟨rfl,k,bs,rfl,k1,bl,br,b1,hb⟩
 ·refine⟨_,rfl,true,rfl,aX ⟨_,rfl,⟨_,_,rfl,rfl⟩,rfl,trivial,q⟩⟩
 ·refine⟨_,rfl,false,rfl,aV ⟨_,rfl,rfl,_,rfl,aX ?_⟩⟩
  refine⟨_,rfl,_,rfl,(fun z=>by cases z),by rw [b6]; omega,fun i acc=>acc=intz ((nb.take i).filter fun o=>!iX (cs.getD o.toNat .non)),rfl,?_,?_⟩
  ·rintro i y acc hy rfl
   obtain ⟨o,rfl,ho⟩:=iL hy
   have tk:=pY (p:=fun o=>!iX (cs.getD o.toNat .non)) ho
   obtain ⟨o0,o1⟩:=inn o (aW8 ho)
   refine⟨_,rfl,_,rfl,_,_,_,rfl,rfl,O2 o0 o1,rfl,_,rfl,?_⟩
   show if (!iX (cs.getD o.toNat .non))=true then _ else _
   cases hn:iX (cs.getD o.toNat .non) with
   | false=>
    rw [hn,if_pos (by decide)] at tk
    refine aX ⟨_,rfl,qF _ _,?_⟩
    show _=_
    rw [tk,dS]; rfl
   | true=>
    rw [hn,if_neg (by decide),aV4] at tk
    refine aV ?_
    show _=_
    rw [tk]
  ·rintro acc rfl
   rw [b6,aV3]
   refine⟨_,_,rfl,rfl,_,rfl,_,_,rfl,rfl,trivial,?_⟩
   dsimp only
   rw [b6,aS3 lt]
   exact q
 ·refine⟨_,rfl,false,rfl,aV ⟨_,rfl,rfl,_,rfl,aV ?_⟩⟩
  refine⟨_,rfl,_,_,_,rfl,rfl,rfl,aF8 _ _,?_⟩
  refine⟨_,rfl,_,_,_,rfl,rfl,rfl,aF9 _ _,?_⟩
  refine⟨_,rfl,_,_,rfl,rfl,_,rfl,?_⟩
  rw [aR5 (by omega)]
  refine aV ⟨_,rfl,_,_,rfl,rfl,_,rfl,.inl ⟨_,_,rfl,rfl,_,rfl,?_⟩⟩
  rw [b6]
  show if (!decide ((bs.length:Int)=want))=true then _ else _
  rw [aS3 bl]
  refine aV ⟨_,rfl,_,bs,rfl,.inl rfl,b1,_,rfl,?_⟩
  rw [br]
  refine aV ⟨_,rfl,_,rfl,(fun _=>kB bs),by rw [b6]; omega,fun i acc=>acc=List.replicate i (PV.bl true)/\i<=bs.length,⟨rfl,aT7 _⟩,?_,?_⟩
  ·rintro i y acc hy ⟨rfl,il⟩
   obtain ⟨o,rfl,ho⟩:=iL hy
   obtain ⟨hn,j,rk,jk⟩:=hb o (aW8 ho)
   obtain ⟨o0,o1⟩:=inn o hn
   obtain ⟨r,hr⟩:=rk
   refine⟨_,rfl,_,rfl,o,nb,rfl,rfl,_,rfl,?_⟩
   show if decide (o ∈ nb)=true then _ else _
   rw [aS3 hn]
   refine aX ⟨_,rfl,_,rfl,_,_,_,rfl,rfl,O2 o0 o1,_,rfl,_,j,r,k,rfl,hr,trivial,?_,?_⟩
   ·rw [aS3 jk,List.replicate_succ']
   ·exact (aR4.mp ho).1
  ·rintro acc ⟨rfl,_⟩
   refine⟨List.replicate (intz bs).length true,?_,trivial,?_⟩
   ·rw [List.map_replicate]; rfl
   ·have:(List.replicate (intz bs).length true).all id=true:=by
     rw [aY7]; intro x hx; exact (List.mem_replicate.mp hx).2
    rw [this]; exact q
theorem tI {ls:List (Int × Int)}{wts:List Int} (e:wts.length=ls.length):(ls.zip wts).map (·.2)=wts:=by
 rw [List.map_snd_zip]; omega
section
variable {ws : List Int} {ls : List (Int × Int)} {ns wts : List Int} {m : Nat}
def loose (ls:List (Int × Int)) (wts ns:List Int):List ((Int × Int) × Int):=(ls.zip wts).filter fun z=>!(decide (z.1.1 ∈ ns) && decide (z.1.2 ∈ ns))
end
end Core
set_option maxHeartbeats 1000000
set_option maxHeartbeats 1000000
set_option maxHeartbeats 1000000
set_option maxHeartbeats 1000000
namespace PP
open PySem L2 PyProof.Rows
abbrev cX:=(Str->Prop)->bJ
def EX (K:PySem.W.Frag) (H0:Hp) (Ep:Str->Prop):XK:=fun c d H'=>d=none/\aC H0 H'/\∃ n C,c = .ref C/\PySem.W.nsIn K mainGlobals n=some (some (.ref C))/\Ep n
def O3 (K:PySem.W.Frag) (p:cX):Sp:=fun vs H Q E=>∃ xs Qp Ep,Reps K (fun _=>True) H vs xs/\p Ep xs Qp/\(∀ v H' x,aC H H'->aI K (fun a=>H a=none) H' v x->Qp x->Q v H')/\
 ∀ n C H',aC H H'->PySem.W.nsIn K mainGlobals n=some (some (.ref C))->Ep n->E (.ref C) none H'
structure bH (P:Program) (w:World) (K:PySem.W.Frag) (mg:Str->Option Value) (base:Heap) (k:Nat) (x:Str) (ps:List Str) (p:cX):Prop where
 ex:∃ f fd,cL P w K mg base (dE P w) k f fd ps (O3 K p)/\gR K fd ps []/\PySem.W.keepIn K (.ref f)=true/\mg x=some (.ref f)
section
variable {X : Cx} {σ : L2.St} {H : Hp} {D : cE} {tr : cG} {Q' : VK} {a b c e : Expr} {es : List Expr} {pos p2 cp np hp : Pos} {t : aO} {te : aF} {tc : c8}
def iO (Ep:Str->Prop) (p:cX) (t:cG):aF:=aE (p Ep) t
theorem aG1 {p:cX}{Ep:Str->Prop} (h:LE X (iO Ep p tr) σ H Q'):sB (O3 X.K p) [] (EX X.K X.H₀ Ep) (LA X tr) σ H Q':=by
 obtain ⟨W,ρ,Q,px,q,k⟩:=h
 refine⟨W,ρ,_,px,q,fun vs H1 xs s1 r1 q1=>⟨_,_,Ep,by rw [aV4]; exact r1.any,q1,fun v H' x s2 r2 q2=>k v H' x .fr (s1.trans s2) (r2.same (aC.refl _) fun _ z=>s1.free z) q2,fun n C H' s2 z1 z2=>⟨rfl,(px.same.trans s1).trans s2,n,C,rfl,z1,z2⟩⟩⟩
theorem kI {Ep:Str->Prop}{k j:Nat}{x:Str}{ps:List Str}{p:cX} (hX:lE X (EX X.K X.H₀ Ep)) (d:bH X.prog X.w X.K X.mg X.base k x ps p) (hr:bY j X.A) (ha:QA X (e :: es) tr) (hkj:k<=j:=by decide) (hg:Gl X x:=by rfl) (hdb:(x == ("__debug__" : Str))=false:=by decide)
  (he:starEach (e :: es) X.env=(false,eval e X.env) :: starEach es X.env:=by rfl) (hpl:(backTo pos (starEach es X.env)).any (·.1)=false:=by rfl):QE X (.Call (.Name x p2) (e :: es) [] pos) (iO Ep p tr):=by
 obtain ⟨f,fd,F,b,kp,m⟩:=d.ex
 exact bT (x6 F (hr.mono hkj) hg m kp b .nil hX.pass ha hdb he hpl) fun _ _ _=>aG1
def lM (Ep:Str->Prop) (n:Str) (t:cG):aO:=fun _ ρ=>t ρ fun xs=>xs.length<=1000/\Ep n
theorem aG2 {Ep:Str->Prop}{n:Str}{C:Addr} (hn:PySem.W.nsIn X.K mainGlobals n=some (some (.ref C))) (h:LS X (lM Ep n tr) D σ H):F0 (EX X.K X.H₀ Ep) C (LA X tr) D σ H:=by
 obtain ⟨W,ρ,D',px,q,k⟩:=h
 exact⟨W,ρ,_,px,q,fun vs H1 xs s1 r z=>⟨by rw [r.length]; exact mR z.1,rfl,px.same.trans s1,n,C,rfl,hn,z.2⟩⟩
structure Xc (K:PySem.W.Frag) (mg:Str->Option Value) (base:Heap) (n:Str):Prop where
 ex:∃ C B newId initId bm,OwnCls n C bm newId mg base/\ExcBaseFacts B newId initId bm/\PySem.W.nsIn K mainGlobals n=some (some (.ref C))
theorem qV {Ep:Str->Prop}{n:Str} (hX:lE X (EX X.K X.H₀ Ep)) (x:Xc X.K X.mg X.base n) (ha:QA X (e :: es) tr) (hc:X.calm=true:=by rfl) (hg:Gl X n:=by rfl) (hd:(n == ("__debug__" : Str))=false:=by decide)
  (he:starEach (e :: es) X.env=(false,eval e X.env) :: starEach es X.env:=by rfl) (hpl:(backTo cp (starEach es X.env)).any (·.1)=false:=by rfl):QS X (.Raise (some (.Call (.Name n np) (e :: es) [] cp)) none pos) (lM Ep n tr):=by
 obtain ⟨C,B,newId,initId,bm,O,FB,hn⟩:=x.ex
 exact dL (at6 hX hc O FB ha hg hd he hpl) fun _ _ _=>aG2 hn
abbrev iP:=iW->(Str->Prop)->bE->Prop
def LB (X:Cx) (t:iP):TB:=fun D Ex σ H=>∃ (W:Addr->Prop) (ρ:bE) (D':iW) (Ep:Str->Prop),PX X.K X.H₀ W σ ρ H/\t D' Ep ρ/\mS X W H D' D/\∀ n C H',aC H H'->PySem.W.nsIn X.K mainGlobals n=some (some (.ref C))->Ep n->Ex (.ref C) none H'
def QB (X:Cx) (sts:List Stmt) (t:iP):Prop:=PB X sts (LB X t)
theorem O4 {sts:List Stmt}{t t':TB} (h:PB X sts t) (m:∀ D Ex σ H,t' D Ex σ H->t D Ex σ H):PB X sts t':=fun pins s σ H D Ex I q=>h pins s σ H D Ex I (m D Ex σ H q)
def kJ (p:cX) (t:cG):iP:=fun D Ep ρ=>t ρ fun xs=>p Ep (xs.map (·.1)) fun _=>D.nx ρ
def lN (c:c8) (t u:iP):iP:=fun D Ep ρ=>c ρ fun b=>if b=true then t D Ep ρ else u D Ep ρ
theorem lO {k j:Nat}{x:Str}{ps:List Str}{p:cX} (d:bH X.prog X.w X.K X.mg X.base k x ps p) (hr:bY j X.A) (ha:∀ E,QA (X.wish E) (e :: es) tr) (hkj:k<=j:=by decide) (hg:Gl X x:=by rfl) (hdb:(x == ("__debug__" : Str))=false:=by decide)
  (he:starEach (e :: es) X.env=(false,eval e X.env) :: starEach es X.env:=by rfl) (hpl:(backTo cp (starEach es X.env)).any (·.1)=false:=by rfl) (hsw:swapsWith (.Call (.Name x p2) (e :: es) [] cp) none pos.line X.env=pure false:=by rfl):QB X [.Expr (.Call (.Name x p2) (e :: es) [] cp) pos] (kJ p tr):=by
 obtain ⟨f,fd,F,b,kp,m⟩:=d.ex
 refine O4 (au1 (t:=LA X tr) F (hr.mono hkj) hg m kp b (fun E=>ha E) hdb he hpl hsw) fun D Ex σ H h=>?_
 obtain ⟨W,ρ,D',Ep,px,q,k,ke⟩:=h
 exact⟨W,ρ,_,px,q,fun vs H1 xs s1 r q1=>⟨_,_,Ep,r.any,q1,fun v H' x s2 r2 q2=>k.nx W σ H' ρ (Ev.same (s1.trans s2)) (px.mono (s1.trans s2)) q2,fun n C H' s2 z1 z2=>ke n C H' (s1.trans s2) z1 z2⟩⟩
theorem nW {sa sb:List Stmt}{tb ub:iP} (hc:∀ E,QT (X.wish E) c tc) (ha:QB X sa tb) (hb:QB X sb ub):QB X [.If c sa sb pos] (lN tc tb ub):=by
 refine O4 (au2 (tc:=LT X tc) (fun E=>hc E) ha hb) fun D Ex σ H h=>?_
 obtain ⟨W,ρ,D',Ep,px,q,k,ke⟩:=h
 refine⟨W,ρ,_,px,q,fun b H1 s1 q1=>?_⟩
 have ke':∀ n C H',aC H1 H'->PySem.W.nsIn X.K mainGlobals n=some (some (.ref C))->Ep n->Ex (.ref C) none H':=fun n C H' s2 z1 z2=>ke n C H' (s1.trans s2) z1 z2
 cases b with
 | true=>exact aX ⟨W,ρ,D',Ep,px.mono s1,by simpa using q1,k.step (Ev.same s1),ke'⟩
 | false=>exact aV ⟨W,ρ,D',Ep,px.mono s1,by simpa using q1,k.step (Ev.same s1),ke'⟩
def vF (D:iW) (i:Nat):iW:={ nx:=fun ρ=>D.nx (ρ.set i none),rt:=D.rt,bk:=fun ρ=>D.bk (ρ.set i none),ct:=fun ρ=>D.ct (ρ.set i none) }
def lP:List Str:=["BadWeb","BadSet","BadOrder","BadPrices","BadBoard","BadDeed","NotWood","NoPaper","NoSuch","TooMany","NoText","OddRound"]
def jC (n m:Str):Option Bool:=if lP.contains n then some (n == m || m == "HearthError" || m == "ValueError") else none
def vG (m:Str) (i:Nat) (tb:iP) (ts:aO):aO:=fun D ρ=>tb D (fun n=>jC n m=some true/\ts (vF D i) (ρ.set i (some (.sh true (.exc n))))) ρ
theorem aG3 {m:Str}{Ch:Addr}{i:Nat}{tb:iP}{ts:aO} (hs:∀ n C,jC n m=some true->PySem.W.nsIn X.K mainGlobals n=some (some (.ref C))->PySem.W.subIn X.K (.ref C) (.ref Ch)=some true) (h:LS X (vG m i tb ts) D σ H):F3 X.K Ch i (LB X tb) (LS X ts) D σ H:=by
 obtain ⟨W,ρ,D',px,q,k⟩:=h
 refine⟨W,ρ,D',_,px,q,k,fun n C H' s z1 z2 a C' oe hc na hcl=>?_⟩
 cases hc
 refine⟨hs n C z2.1 z1,W,_,vF D' i,(px.mono (s.trans (b7 na _))).setSh (g:=true) (.exc b8 z1 hcl),z2.2,?_⟩
 have k':=k.step (Ev.same (W:=W) (s.trans (b7 na (.frz oe (.own a)))))
 exact⟨fun W' σ' H2 ρ' ev px' q'=>k'.nx W' _ H2 _ ev px'.setNone q',k'.rt,fun W' σ' H2 ρ' ev px' q'=>k'.bk W' _ H2 _ ev px'.setNone q',fun W' σ' H2 ρ' ev px' q'=>k'.ct W' _ H2 _ ev px'.setNone q'⟩
structure vH (K:PySem.W.Frag) (mg:Str->Option Value) (m:Str):Prop where
 ex:∃ Ch,mg m=some (.ref Ch)/\uO K Ch/\∀ n C,jC n m=some true->PySem.W.nsIn K mainGlobals n=some (some (.ref C))->PySem.W.subIn K (.ref C) (.ref Ch)=some true
theorem aG4 (i:Nat) {m n:Str}{b₀:Stmt}{suite body:List Stmt}{tb:iP}{ts:aO} (ct:vH X.K X.mg m) (hN:X.N.Nodup) (hb:QB X body tb) (hs:∀ a,dQ (X.suite a) (b₀ :: suite) ts) (hstk:X.stack=X.env :: X.outer/\X.env.frame=some X.env.locals:=by exact⟨rfl,rfl⟩) (hi:X.N[i]? = some n:=by rfl) (hl:X.env.scope.names.lookup n=some .local:=by rfl) (hg:Gl X m:=by rfl)
  (hd:(m == ("__debug__" : Str))=false:=by decide):QS X (.Try body [.ExceptHandler (some (.Name m np)) (some n) (b₀ :: suite) hp] [] [] pos) (vG m i tb ts):=by
 obtain ⟨Ch,hm,c,sub⟩:=ct.ex
 exact dL (au3 (ts:=LS X ts) hstk hb hg hm c hN hi hl (fun a=>uA (hs a) fun _ _ _ ⟨W,ρ,D',px,q,k⟩=>⟨W,ρ,D',px,q,⟨k.nx,k.rt,k.bk,k.ct⟩⟩) hd) fun _ _ _=>aG3 sub
def gC:V->Value
 | .ref a=>.ref a
 | .ty n=>.type n
 | _=>.none
def aG5 (K:PySem.W.Frag):List V->Hp->VK->Prop:=fun xs H Q=>∃ v v2 b,xs = [v,v2]/\gC v2 ≠ .none/\((∃ a o C,v = .ref a/\H a=some (.frz o (.own a))/\o.cls = .ref C/\gX K C/\PySem.W.kitOne K (.ref C) (gC v2)=some b) ∨ (v = .non/\PySem.W.kitOne K (.type "NoneType") (gC v2)=some b))/\Q (.bl b) H
theorem aG6:cJ X (.builtin "isinstance") (aG5 X.K):=by
 intro pins s σ H xs us Q I r h
 obtain ⟨v,v2,b,rfl,hv,hk,q⟩:=h
 obtain ⟨u,u',rfl,ru,ru'⟩:=rY r
 obtain rfl:u'=gC v2:=by
  cases v2 <;> first | exact ru' | exact absurd rfl hv
 rcases hk with ⟨a,o,C,rfl,hH,hc,F,e⟩ | ⟨rfl,e⟩
 ·obtain ⟨h1,_⟩:=I.hok a _ hH
  cases (show u=Value.ref a from ru)
  exact PySem.W.kia_one (av0 F) I.kIn ⟨o,h1,hc⟩ e (fun z=>nomatch z) fun tk=>⟨.bl b,H,I.tok tk,rfl,q⟩
 ·cases (show u=Value.none from ru)
  exact PySem.W.kia_one PySem.W.kitx_none I.kIn trivial e (fun z=>nomatch z) fun tk=>⟨.bl b,H,I.tok tk,rfl,q⟩
def aG7 (m:Str):PV->Option Bool
 | .exc n=>jC n m
 | .non=>some false
 | _=>none
def lQ (m:Str) (te:aF):aF:=fun ρ Q=>te ρ fun x _=>∃ b,aG7 m x=some b/\Q (.bl b) .fr
structure vI (K:PySem.W.Frag) (m:Str) (v2:V):Prop where
 nn:gC v2 ≠ .none
 ex:∀ n C b,PySem.W.nsIn K mainGlobals n=some (some (.ref C))->jC n m=some b->gX K C/\PySem.W.kitOne K (.ref C) (gC v2)=some b
 no:PySem.W.kitOne K (.type "NoneType") (gC v2)=some false
theorem O5 {x:Str}{v2:V}{px:Pos} (B:Bt X.mg) (A:vI X.K x v2) (hx:PE X (.Name x px) (tC v2)) (ha:QE X a te) (hg:Gl X "isinstance":=by rfl)
  (he:starEach [a,.Name x px] X.env=(false,eval a X.env) :: starEach [.Name x px] X.env:=by rfl) (he2:starEach [.Name x px] X.env=(false,eval (.Name x px) X.env) :: starEach [] X.env:=by rfl) (hpl:(backTo pos (starEach [.Name x px] X.env)).any (·.1)=false:=by rfl):QE X (.Call (.Name "isinstance" p2) [a,.Name x px] [] pos) (lQ x te):=
 bT (oD aG6 hg B.isinst PyProof.Rows.boot_isinstance (cK ha (cK hx cZ he2) he) (he:=he) (hpl:=hpl)) fun σ H Q' h=>by
  obtain ⟨W,ρ,Q,px,q,k⟩:=h
  refine⟨W,ρ,_,px,q,?_⟩
  rintro v H1 y g s r ⟨b,e,q⟩
  refine⟨v,v2,b,rfl,A.nn,?_,k _ _ _ .fr s (.bl _) q⟩
  cases r with
  | exc h z c=>
   obtain ⟨F,kt⟩:=A.ex _ _ _ z e
   exact .inl ⟨_,_,_,rfl,h,c,F,kt⟩
  | non=>cases e; exact .inr ⟨rfl,A.no⟩
  | _=>cases e
end
section
variable {X : Cx} {a : Expr} {pos p2 px : Pos} {te : aF}
structure nX (K:PySem.W.Frag) (mg:Str->Option Value) (m:Str):Prop where
 ex:∃ C,mg m=some (.ref C)/\vI K m (.ref C)
structure vJ (K:PySem.W.Frag) (mg:Str->Option Value):Prop where
 mg:mg "ValueError" = none
 is:vI K "ValueError" (.ty "ValueError")
theorem O6 {x:Str} (B:Bt X.mg) (A:nX X.K X.mg x) (ha:QE X a te) (hgx:Gl X x:=by rfl) (hdx:(x == ("__debug__" : Str))=false:=by decide) (hg:Gl X "isinstance":=by rfl)
  (he:starEach [a,.Name x px] X.env=(false,eval a X.env) :: starEach [.Name x px] X.env:=by rfl) (he2:starEach [.Name x px] X.env=(false,eval (.Name x px) X.env) :: starEach [] X.env:=by rfl) (hpl:(backTo pos (starEach [.Name x px] X.env)).any (·.1)=false:=by rfl):QE X (.Call (.Name "isinstance" p2) [a,.Name x px] [] pos) (lQ x te):=by
 obtain ⟨C,m,i⟩:=A.ex
 exact O5 B i (w6 hgx m rfl hdx) ha hg he he2 hpl
theorem aG8 (B:Bt X.mg) (A:vJ X.K X.mg) (ha:QE X a te) (hgx:Gl X "ValueError":=by rfl) (hg:Gl X "isinstance":=by rfl)
  (he:starEach [a,.Name "ValueError" px] X.env=(false,eval a X.env) :: starEach [.Name "ValueError" px] X.env:=by rfl) (he2:starEach [.Name "ValueError" px] X.env=(false,eval (.Name "ValueError" px) X.env) :: starEach [] X.env:=by rfl) (hpl:(backTo pos (starEach [.Name "ValueError" px] X.env)).any (·.1)=false:=by rfl):QE X (.Call (.Name "isinstance" p2) [a,.Name "ValueError" px] [] pos) (lQ "ValueError" te):=
 O5 B A.is (X6 (v:=.ty "ValueError") hgx A.mg PyProof.Rows.Boot.«ValueError» rfl (by decide) (by decide)) ha hg he he2 hpl
end
structure jD (K:PySem.W.Frag) (C:Addr):Prop where
 cls:PySem.W.isClsIn K C=true
 ty:PySem.W.typeIn K (.ref C)=some (.type "type")
 ga:PySem.W.findIn K (.ref C) "__getattribute__" = some (some (.builtin "BaseException.__getattribute__"))
 gt:PySem.W.findIn K (.ref C) "__getattr__" = some none
 fc:PySem.W.findIn K (.ref C) "__class__" = some (some (.builtin "object.__class__"))
 fg:PySem.W.specialIn K (.builtin "object.__class__") "__get__" = some (some (.builtin "getset_descriptor.__get__"))
 ft:PySem.W.takesIn K (.builtin "object.__class__")=some true
 ob:PySem.W.mroIn K C (.type "object")=some true
 be:PySem.W.mroIn K C (.type "BaseException")=some true
theorem jD.exc {K:PySem.W.Frag}{C:Addr} (h:jD K C):gX K C:=⟨h.cls,h.ga,h.gt,h.fc,h.fg,h.ft,h.ob,h.be⟩
theorem vK {K:PySem.W.Frag}{h₀:Heap}{mg:Str->Option Value}{x:Str}{C:Addr}{bmB:List Value}{newId:String} (X:K.In h₀) (m:mg x=some (.ref C)) (q:PySem.W.excIn K C bmB newId=true):OwnCls x C bmB newId mg h₀:=by
 refine⟨m,?_⟩
 unfold PySem.W.excIn at q
 split at q
 case h_2=>cases q
 rename_i dd cd sl ho
 split at q
 case h_2=>cases q
 rename_i C' bm k0 k1 k2 k3 n k5 hm hs
 simp only [aV2,beq_iff_eq,Bool.not_eq_true'] at q
 obtain ⟨⟨⟨⟨⟨rfl,rfl⟩,dl⟩,ht⟩,hok⟩,hni⟩:=q
 obtain ⟨nm,bs,mro,ns,qn,hd,sn,sub,ab,col,del⟩:=cd
 dsimp only at hm dl hok hni
 subst hm dl
 obtain rfl:sl = #[k0,k1,k2,k3,some (.builtin n),k5]:=by
  obtain ⟨l⟩:=sl
  exact congrArg Array.mk hs
 exact⟨bm,ns,nm,qn,bs,hd,sn,sub,ab,col,dd,k0,k1,k2,k3,k5,_,X _ _ ho,.of_isNs (PySem.W.isNs_of_in X hok),PySem.W.nsMap_none_of_in X hok hni,PySem.W.tail_of_in X ht⟩
theorem qW {n m:Str}{b:Bool} (h:jC n m=some b):n ∈ lP/\b=(n == m || m == "HearthError" || m == "ValueError"):=by
 unfold jC at h
 split at h
 ·rename_i z
  exact⟨by simpa using z,by cases h; rfl⟩
 ·cases h
theorem qX {K:PySem.W.Frag}{C D:Addr}{b:Bool} (hd:jD K D) (ne:(C == D)=false) (s:PySem.W.subIn K (.ref C) (.ref D)=some b):PySem.W.kitOne K (.ref C) (.ref D)=some b:=by
 have ne':(Value.ref C == Value.ref D)=false:=by
  rw [ba7] at ne ⊢
  exact fun z=>ne (Value.ref.inj z)
 have c:=hd.cls
 unfold PySem.W.isClsIn at c
 unfold PySem.W.kitOne PySem.W.kitCls
 rw [if_neg (by rw [ne']; decide)]
 dsimp only
 rw [if_pos (by rw [c,hd.ty]; decide)]
 exact s
theorem O7 {K:PySem.W.Frag}{C:Addr}:PySem.W.kitOne K (.ref C) (.ref C)=some true:=by
 unfold PySem.W.kitOne
 rw [if_pos (aX4 _)]
theorem vL {K:PySem.W.Frag}{C:Addr} (s:PySem.W.subIn K (.ref C) (.type "ValueError")=some true):PySem.W.kitOne K (.ref C) (.type "ValueError")=some true:=by
 unfold PySem.W.kitOne PySem.W.kitCls
 rw [if_neg (fun z=>by cases beq_iff_eq.mp z)]
 dsimp only
 rw [if_pos (by decide +kernel)]
 exact s
theorem O8 {K:PySem.W.Frag}{D:Addr} (hd:jD K D) (s:PySem.W.subIn K (.type "NoneType") (.ref D)=some false):PySem.W.kitOne K (.type "NoneType") (.ref D)=some false:=by
 have c:=hd.cls
 unfold PySem.W.isClsIn at c
 unfold PySem.W.kitOne PySem.W.kitCls
 rw [if_neg (fun z=>by cases beq_iff_eq.mp z)]
 dsimp only
 rw [if_pos (by rw [c,hd.ty]; decide)]
 exact s
theorem aG9 {K:PySem.W.Frag}:PySem.W.kitOne K (.type "NoneType") (.type "ValueError")=some false:=by
 have e:(if PySem.W.kitMeta "ValueError" = true then (fastBuiltinMro "NoneType").map (·.contains (Value.type "ValueError")) else none)=some false:=by decide +kernel
 unfold PySem.W.kitOne
 rw [if_neg (by decide)]
 exact e
theorem bH.of {P:Program}{w:World}{K:PySem.W.Frag}{mg:Str->Option Value}{base:Heap}{k:Nat}{x:Str}{ps N:List Str}{p:cX}{st:Stmt}{f:Addr}{fd:FuncData} (F:e9 K x x st f fd) (m:mg x=some (.ref f)) (S:FnScope N ps (aT st))
  (hb:∀ (kV doc pm:Value) (an:Option Addr) (cdv ct:Value) (us:List Value),us.length=ps.length->bindArgs (PySem.W.fnOf x x (iA st) (dO st) (aT st) .none kV doc pm an cdv ct) ⟨us,[]⟩=pure (ps.zip us))
  (t:(Str->Prop)->aO) (len:∀ Ep xs Q,p Ep xs Q->xs.length=ps.length) (rd:∀ Ep xs Q,p Ep xs Q->t Ep { nx:=fun _=>Q .non,rt:=Q } (eV N xs))
  (body:∀ (cdv:Value) (A:Around) (outer:List Env) (s:Shared) (H:Hp) (E:XK) (Ep:Str->Prop),bY k (A.deeper (envOfC x (aT st) s.heap.objs.size f cdv))->lE (cS (dE P w) P w K mg base N x (aT st) f cdv A outer s H E) (EX K H Ep)->
   dQ (cS (dE P w) P w K mg base N x (aT st) f cdv A outer s H E) (dO st) (t Ep)):bH P w K mg base (k+1) x ps p:=by
 refine⟨f,fd,F.okX S (fun vs H Q E h=>?_) (fun cdv A outer s H vs Q E hr h=>?_),F.binds hb,F.kp,m⟩
 ·obtain ⟨xs,Qp,Ep,r,q,_⟩:=h
  rw [r.length]; exact len Ep xs Qp q
 ·obtain ⟨xs,Qp,Ep,r,q,k,ke⟩:=h
  have ht:=body cdv A outer s H E Ep hr (at5 fun c d H' z=>?_)
  ·refine⟨_,ht,fun _=>False,eV N xs,_,uK r,rd Ep xs Qp q,?_,?_,?_,?_⟩
   ·exact fun W' σ' H' ρ' e px q=>k _ _ _ px.same .non q
   ·exact fun v H' x s r q=>k _ _ _ s r q
   ·exact fun W' σ' H' ρ' e px q=>q
   ·exact fun W' σ' H' ρ' e px q=>q
  ·obtain ⟨rfl,s1,n,C,rfl,z1,z2⟩:=z
   exact ke n C H' s1 z1 z2
end PP
namespace Core
open PySem L2 PP
abbrev jE (t:(Str->Prop)->aO) (N:List Str) (p:cX):Prop:=∀ Ep xs Q,p Ep xs Q->t Ep { nx:=fun _=>Q .non,rt:=Q } (eV N xs)
def jF:cX:=fun Ep xs Q=>∃ ws ls x ns,xs = [bF ws ls,x]/\cU x ns/\ns.length<=1000/\(bW ws.length ns=true->Q (.tup (intz ns)))/\(bW ws.length ns=false->Ep "BadSet")
def O9 (Ep:Str->Prop):aO:=(aG (bG (jU (aS (aE qA (a6 (a5 0) (a6 (a5 1) a9))))) (lM Ep "BadSet" (a6 (qC (.str "a set is of rising hearths of the web")) a9)) bM)
 (b4 (aE dJ (a6 (a5 1) a9))))
theorem aH0:jE O9 ["web","hearths"] jF:=by
 rintro Ep xs Q ⟨ws,ls,x,ns,rfl,hx,hl,q1,q2⟩
 refine⟨_,rfl,_,rfl,ws,ls,x,ns,rfl,hx,hl,_,rfl,?_⟩
 cases h:bW ws.length ns with
 | true=>exact aV ⟨_,rfl,⟨_,_,rfl,hx.seqT,c7 _,trivial,q1 h⟩,hx.noscr⟩
 | false=>exact aX ⟨by decide,q2 h⟩
theorem P0 (ns:List Int) {k:Int} (h:0<=k):eD (intz ns) none (some k)=intz (ns.take k.toNat):=by
 rw [N7 h]
 exact (List.map_take).symm
end Core
namespace PP
open PySem L2
theorem nY {us:List Value} (h:us.length=1):∃ a,us = [a]:=List.length_eq_one_iff.mp h
theorem vM {us:List Value} (h:us.length=2):∃ a b,us = [a,b]:=by
 cases us with
 | nil=>cases h
 | cons a r=>
  obtain ⟨b,rfl⟩:=nY (us:=r) (by simpa using h)
  exact⟨a,b,rfl⟩
theorem vN {us:List Value} (h:us.length=3):∃ a b c,us = [a,b,c]:=by
 cases us with
 | nil=>cases h
 | cons a r=>
  obtain ⟨b,c,rfl⟩:=vM (us:=r) (by simpa using h)
  exact⟨a,b,c,rfl⟩
theorem vO {us:List Value} (h:us.length=4):∃ a b c d,us = [a,b,c,d]:=by
 cases us with
 | nil=>cases h
 | cons a r=>
  obtain ⟨b,c,d,rfl⟩:=vN (us:=r) (by simpa using h)
  exact⟨a,b,c,d,rfl⟩
theorem P3 {us:List Value} (h:us.length=5):∃ a b c d e,us = [a,b,c,d,e]:=by
 cases us with
 | nil=>cases h
 | cons a r=>
  obtain ⟨b,c,d,e,rfl⟩:=vO (us:=r) (by simpa using h)
  exact⟨a,b,c,d,e,rfl⟩
section
variable {X : Cx} {a b e : Expr} {ta tb : aF} {tr : cG} {D : cE} {σ : St} {H : Hp} {pos p2 p3 p4 : Pos}
def vP (i:Nat) (ta tb:aF):aO:=fun D ρ=>∃ xs,ρ[i]? = some (some (.own (.lst xs)))/\ta ρ fun x _=>∃ k:Nat,x = .int k/\k<=xs.length/\xs.length < 16000000/\tb ρ fun y g=>Nw g y/\D.nx (ρ.set i (some (.own (.lst (xs.take k ++ y :: xs.drop k)))))
theorem aH1 {i:Nat} (h:LS X (vP i ta tb) D σ H):kN (kS X.K "list" F4 (eZ i) (fR (LE X ta) (fR (LE X tb) gQ))) D σ H:=by
 obtain ⟨W,ρ,D',px,⟨xs,hi,q⟩,k⟩:=h
 obtain ⟨v,ev,a,rfl,wa,us,ea,r⟩:=px.sl i _ hi
 refine⟨_,ev,jR (aM.of ea),W,ρ,_,px,q,?_⟩
 rintro w H1 x g s rx ⟨j,rfl,hj,hl,q⟩
 cases rx
 refine⟨W,ρ,_,px.mono s,q,?_⟩
 rintro w H2 y g s2 ry ⟨n,q⟩
 have ea2:=s2 _ _ (s _ _ ea)
 have s3:=s.trans s2
 refine⟨a,us,w,j,rfl,rfl,ea2,by rw [r.length]; exact hj,gD (by rw [r.length]; omega),?_⟩
 refine k.nx W σ _ _ ((Ev.same s3).trans (Ev.upd wa)) ((px.mono s3).updL hi ev wa ?_) q
 have r2:=r.same s3 fun _ z=>z
 exact ((r2.take j).append (.cons (Nw.rep (px.mono s) n ry) (r2.drop j))).keep (.upd ea2 rfl fun b m=>⟨gS wa m,m⟩)
theorem aH2 (i:Nat) {x:Str}{apos cpos xpos:Pos} (ha:QE X a ta) (hb:QE X b tb) (hN:X.N[i]? = some x:=by rfl) (hv:dX X.env.scope x:=by first | exact Or.inl rfl | exact Or.inr (Or.inl rfl) | exact Or.inr (Or.inr rfl)) (hd:(x == ("__debug__" : Str))=false:=by decide) (hcd:(x == ("__classdict__" : Str))=false:=by decide)
  (hbase:attributeBase (.Name x xpos) "insert" X.env (eval (.Name x xpos) X.env)=eval (.Name x xpos) X.env:=by rfl)
  (hfew:((backTo cpos (starEach [a,b] X.env)).all (fun x=>!x.1) && (backToKw cpos (keywordEach [] X.env)).all (fun x=>x.1.isSome) && decide (([a,b]:List Expr).length+([]:List Keyword).length+(if ([]:List Keyword).isEmpty then 0 else 1) < 30))=true:=by rfl)
  (hline:(apos.endLine == cpos.line)=true:=by rfl) (hs:starEach [a,b] X.env=(false,eval a X.env) :: starEach [b] X.env:=by rfl) (hs2:starEach [b] X.env=(false,eval b X.env) :: starEach [] X.env:=by rfl) (hplain:(backTo cpos (starEach [b] X.env)).any (·.1)=false:=by rfl)
  (hsw:swapsWith (.Call (.Attribute (.Name x xpos) "insert" apos) [a,b] [] cpos) none pos.line X.env=pure false:=by rfl) :
  QS X (.Expr (.Call (.Attribute (.Name x xpos) "insert" apos) [a,b] [] cpos) pos) (vP i ta tb):=
 dL (jG (jK aY3 PySem.F.slot_list_insert PySem.F.type_list_insert av1 (fP hN hv hd hcd) (cK ha (cK hb cZ hs2) hs) hbase hfew hline hs hplain) hsw) fun _ _ _=>aH1
end
end PP
namespace Core
open PySem L2 PP
def qY (f:List Int->List (Int × Int)->List Int->(PV->Prop)->Prop):cX:=fun Ep xs Q=>∃ ws ls x ns,xs = [bF ws ls,x]/\Wb ws ls/\cU x ns/\ns.length<=1000/\(bW ws.length ns=true->f ws ls ns Q)/\(bW ws.length ns=false->Ep "BadSet")
def lR:cX:=qY fun ws ls ns Q=>∀ m,cE ws ls ns m->Q (.lst (tups (ns :: after ws ls ns m)))
def lS:cX:=qY fun ws ls ns Q=>∀ m,cE ws ls ns m->Q (.dK (g9 (ns :: after ws ls ns m)))
def lT:cX:=qY fun ws ls ns Q=>∀ ms m,cE ws ls ns m->ms.Perm (bD ws ls ns m)->ms.Pairwise (· <= ·)->Q (.tup (intz ms))
def qZ:cX:=qY fun ws ls ns Q=>∀ m,cE ws ls ns m->Q (.bl (decide (((bD ws ls ns m).length:Int)=(ws.length:Int))))
def P4 (Ep:Str->Prop):aO:=(aG (cW 2 (cH (a6 (iO Ep jF (a6 (a5 0) (a6 (a5 1) a9))) a9)))
 (aG (cW 3 (aE kC (a6 (bK (a5 2) (qC (.int 0))) a9)))
 (aG (aY 4 (aE iM (a6 (a5 0) a9)))
 (aG (aY 5 (aE nM (a6 (a5 0) (a6 (a5 4) (a6 (a5 3) a9)))))
 (aG (p9 (pC (a5 5))
  (aG (gG 2 (a5 5))
  (aG (u6 3 (aE kC (a6 (a5 5) a9)))
  (aY 5 (aE nM (a6 (a5 0) (a6 (a5 4) (a6 (a5 3) a9))))))))
 (gT 2))))))
theorem aH3:jE P4 ["web","seeds","told","burning","around","lit"] lR:=by
 rintro Ep xs Q ⟨ws,ls,x,ns,rfl,wb,hx,hl,q,qe⟩
 have few:=wb.few
 refine⟨_,rfl,_,rfl,ws,ls,x,ns,rfl,hx,hl,fun hs=>?_,qe⟩
 have q:=q hs
 have ln:=uW hs
 refine⟨by show 1<=1000; decide,?_,rfl,?_,?_⟩
 ·show (flat (.tup (intz ns)) && true)=true
  rw [kB]; rfl
 ·show (flat (.tup (intz ns)) && true)=true
  rw [kB]; rfl
 refine⟨_,rfl,_,_,_,rfl,rfl,rfl,_,ns,rfl,.inl rfl,by omega,fun ps d=>⟨rfl,d.fl,?_⟩⟩
 refine⟨_,rfl,ws,ls,rfl,wb,trivial,?_⟩
 refine⟨_,rfl,_,rfl,_,rfl,ws,ls,ps,ns,rfl,wb,d,trivial,?_⟩
 refine⟨fun n ρ=>∃ k ps,ρ = [some (.sh (flat (bF ws ls)) (bF ws ls)),some (.sh (flat x) x),some (.own (.lst (tups (ns :: after ws ls ns k)))),some (.own (.dK ps)),some (.sh true (.lst (gZ ws.length ls))),some (.sh true (.tup (intz (nextOf ws ls (bD ws ls ns k)))))]/\
   n=eI ws (bD ws ls ns k)/\DS ps (bD ws ls ns k)/\∀ j < k,nextOf ws ls (bD ws ls ns j) ≠ [],⟨_,0,ps,rfl,rfl,d,fun _ z=>absurd z (Nat.not_lt_zero _)⟩,?_⟩
 rintro n ρ ⟨k,ps,rfl,rfl,d,ne⟩
 refine⟨_,rfl,_,rfl,?_⟩
 cases hn:nextOf ws ls (bD ws ls ns k) with
 | nil=>exact aV ⟨_,rfl,trivial,q k ⟨ne,hn⟩⟩
 | cons y yr=>
  refine aX ?_
  rw [<- hn]
  have cs:=uR ws ls (bD ws ls ns k)
  have nl:1<=(nextOf ws ls (bD ws ls ns k)).length:=by rw [hn]; exact Nat.succ_le_succ (aT7 _)
  have nle:=av3 ws ls (bD ws ls ns k)
  have sl:=uX (ls:=ls) hs k
  have dl:=d.len
  have ke:=G0 k ne
  refine⟨_,rfl,_,rfl,trivial,?_,?_⟩
  ·rw [J3,aT9]
   unfold after
   rw [aR1,ba5]; omega
  refine⟨_,rfl,_,rfl,_,_,rfl,.inl rfl,by omega,fun mp dm=>⟨mp,rfl,.inl rfl,?_,?_⟩⟩
  ·have:=dm.len; omega
  have D7:DS (gH ps mp) (bD ws ls ns (k+1)):=d.merge dm
  refine⟨_,rfl,_,rfl,_,rfl,ws,ls,_,_,rfl,wb,D7,trivial,?_⟩
  refine⟨_,?_,k+1,gH ps mp,?_,rfl,D7,fun j hj=>?_⟩
  ·show eI ws (bD ws ls ns k ++ nextOf ws ls (bD ws ls ns k)) < _
   omega
  ·rw [F6,<- List.cons_append]
   unfold tups
   rw [aT8]; rfl
  ·by_cases e:j=k
   ·rw [e,hn]; exact fun z=>nomatch z
   ·exact ne j (by omega)
def P5 (Ep:Str->Prop):aO:=(aG (cW 2 (qC (.dK [])))
 (aG (cN (qP (iO Ep lR (a6 (a5 0) (a6 (a5 1) a9)))) (jX 3 4)
  (cN (eR (a5 4)) (bZ 5)
   (nC 2 (a5 5) (a5 3))))
 (gT 2)))
theorem aH4:jE P5 ["web","seeds","ranks","rank","lit","hearth"] lS:=by
 rintro Ep xs Q ⟨ws,ls,x,ns,rfl,wb,hx,hl,q,qe⟩
 have few:=wb.few
 refine⟨rfl,rfl,_,rfl,_,rfl,ws,ls,x,ns,rfl,wb,hx,hl,fun hs m en=>⟨_,.inl rfl,fun z=>(by cases z),?_⟩,qe⟩
 have q:=q hs
 have fl:=uS ws ls ns m
 have sl:=uX (ls:=ls) hs m
 have nd:=M8 (ls:=ls) hs m
 generalize hrs:ns :: after ws ls ns m=rs at fl
 rw [<- fl] at sl nd
 refine⟨fun i ρ=>∃ y z u,ρ = [some (.sh (flat (bF ws ls)) (bF ws ls)),some (.sh (flat x) x),some (.own (.dK (g9 (rs.take i)))),y,z,u],⟨none,none,none,rfl⟩,?_,?_⟩
 ·rintro i y ρ hy ⟨y0,z0,u0,rfl⟩
  obtain ⟨y,hy2,rfl⟩:=aC2 hy
  obtain ⟨r,rfl,hr⟩:=aw5 hy2
  have tk:rs.take (i+1)=rs.take i ++ [r]:=by rw [ba6,hr]; rfl
  have il:(rs.take i).length=i:=by
   have:=(aR4.mp hr).1
   rw [aU5]; omega
  have nd2:((rs.take i).flatten ++ r).Nodup/\((rs.take i).flatten ++ r).length<=rs.flatten.length:=by
   have e:rs.flatten=((rs.take i).flatten ++ r) ++ (rs.drop (i+1)).flatten:=by
    rw [<- List.flatten_singleton (l:=r),<- List.flatten_append,<- tk,<- List.flatten_append,ba9]
   rw [e] at nd ⊢
   exact⟨(aZ1.mp nd).1,by rw [aR3 (as:=(rs.take i).flatten ++ r)]; omega⟩
  refine⟨_,_,rfl,_,rfl,_,rfl,fun z=>(by cases z),fun j ρ=>∃ u,ρ = [some (.sh (flat (bF ws ls)) (bF ws ls)),some (.sh (flat x) x),some (.own (.dK (g9 (rs.take i) ++ eM i (r.take j)))),some (.sh true (.int (i:Int))),some (.sh true (.tup (intz r))),u],⟨u0,?_⟩,?_,?_⟩
  ·rw [show eM i (r.take 0) = [] from rfl,aV4]
   rfl
  ·rintro j y ρ hy ⟨u1,rfl⟩
   obtain ⟨n,rfl,hn⟩:=iL hy
   have ke:(g9 (rs.take i) ++ eM i (r.take j)).map (·.1)=((rs.take i).flatten ++ r.take j).map (Sum.inl:Int->aD):=by
    rw [aT8,aT8,N4,N1]
   have nn:n ∉ (rs.take i).flatten ++ r.take j:=by
    have:=nd2.1
    rw [<- ba9 j r,List.drop_eq_getElem_cons (aR4.mp hn).1,(aR4.mp hn).2,<- bb5] at this
    exact fun z=>(aZ1.mp this).2.2 n z n aS0 rfl
   have le:(g9 (rs.take i) ++ eM i (r.take j)).length<=40:=by
    have e1:=congrArg List.length ke
    have e2:=nd2.2
    rw [aR1,aR1,aR3,aR3,aU5] at e1
    rw [aR3] at e2
    rw [aR3]
    omega
   refine⟨_,rfl,_,rfl,_,rfl,Sum.inl n,rfl,trivial,by omega,si n,?_⟩
   rw [aE8 ke nn,aE9 hn,bb5]
   rfl
  ·rintro ρ ⟨u,rfl⟩
   refine⟨some (.sh true (.int i)),some (.sh true (.tup (intz r))),u,?_⟩
   rw [b6,aV3,tk,aE7,il]
 ·rintro ρ ⟨y,z,u,rfl⟩
  rw [vB,J3,aV3,<- hrs]
  exact⟨_,rfl,trivial,q m en⟩
def P6 (Ep:Str->Prop):aO:=(b4 (aE dJ (a6 (aE vD (a6 (iO Ep lS (a6 (a5 0) (a6 (a5 1) a9))) a9)) a9)))
theorem aH5:jE P6 ["web","seeds"] lT:=by
 rintro Ep xs Q ⟨ws,ls,x,ns,rfl,wb,hx,hl,q,qe⟩
 have few:=wb.few
 refine⟨_,rfl,_,rfl,ws,ls,x,ns,rfl,wb,hx,hl,fun hs m en=>?_,qe⟩
 have sl:=uX (ls:=ls) hs m
 refine⟨_,bD ws ls ns m,rfl,?_,by omega,fun ms hp ho=>⟨⟨_,_,rfl,rfl,c7 _,trivial,q hs ms m en hp ho⟩,fun ns z=>by cases z⟩⟩
 rw [N4,uS]
def P7 (Ep:Str->Prop):aO:=(b4 (dB (aE eQ (a6 (iO Ep lT (a6 (a5 0) (a6 (a5 1) a9))) a9)) (aE eJ (a6 (a5 0) a9))))
theorem aH6:jE P7 ["web","seeds"] qZ:=by
 rintro Ep xs Q ⟨ws,ls,x,ns,rfl,wb,hx,hl,q,qe⟩
 refine⟨_,rfl,_,rfl,ws,ls,x,ns,rfl,wb,hx,hl,fun hs ms m en hp ho=>⟨_,_,rfl,rfl,_,rfl,ws,ls,rfl,.inl ⟨_,_,rfl,rfl,trivial,?_⟩⟩,qe⟩
 rw [b6,hp.length_eq]
 exact q hs m en
section
variable {ws : List Int} {ls : List (Int × Int)}
def cne (ws:List Int) (ls:List (Int × Int)) (S:List Int):Bool:=!decide (S = []) && decide (stay ws ls S=S)
end
def far (ns S:List Int):Bool:=decide (((S.filter fun x=>decide (x ∈ ns)).length:Int)=0)
end Core
namespace PP
open PySem L2
section
variable {X : Cx} {σ : St} {H : Hp} {D : cE} {te : aF} {e : Expr} {pos : Pos}
def vQ (i:Nat) (tk:aF):aO:=fun D ρ=>∃ xs,ρ[i]? = some (some (.own (.lst xs)))/\tk ρ fun n _=>∃ m:Nat,n = .int m/\xs.length<=16000000/\m < xs.length/\D.nx (ρ.set i (some (.own (.lst (xs.eraseIdx m)))))
theorem aH7 {i:Nat}{tk:aF} (h:LS X (vQ i tk) D σ H):kN (kS X.K "list" sO (eZ i) (fR (LE X tk) gQ)) D σ H:=by
 obtain ⟨W,ρ,D',px,⟨xs,hi,q⟩,k⟩:=h
 obtain ⟨v,ev,a,rfl,wa,us,ea,r⟩:=px.sl i _ hi
 refine⟨_,ev,jR (aM.of ea),W,ρ,_,px,q,?_⟩
 rintro w H1 n g s rn ⟨m,rfl,hl,hm,q⟩
 cases rn
 have ea1:=s _ _ ea
 have r1:=r.same (M':=Ms X.H₀ W true) s fun _ z=>z
 have lr:=r.length
 have lm:m < us.length:=by omega
 refine⟨a,us,m,m,us[m],rfl,rfl,ea1,by omega,by omega,zZ lm,aQ7 lm,?_⟩
 exact k.nx W _ _ _ ((Ev.same s).trans (Ev.upd wa)) ((px.mono s).updL hi ev wa ((r1.eraseIdx m).keep (.upd ea1 rfl fun b m=>⟨gS wa m,m⟩))) q
theorem aH8 (i:Nat) {x:Str}{apos cpos xpos:Pos} (ha:QE X e te) (hN:X.N[i]? = some x:=by rfl) (hv:dX X.env.scope x:=by first | exact Or.inl rfl | exact Or.inr (Or.inl rfl) | exact Or.inr (Or.inr rfl)) (hd:(x == ("__debug__" : Str))=false:=by decide) (hcd:(x == ("__classdict__" : Str))=false:=by decide)
  (hbase:attributeBase (.Name x xpos) "pop" X.env (eval (.Name x xpos) X.env)=eval (.Name x xpos) X.env:=by rfl)
  (hfew:((backTo cpos (starEach [e] X.env)).all (fun x=>!x.1) && (backToKw cpos (keywordEach [] X.env)).all (fun x=>x.1.isSome) && decide (([e]:List Expr).length+([]:List Keyword).length+(if ([]:List Keyword).isEmpty then 0 else 1) < 30))=true:=by rfl)
  (hline:(apos.endLine == cpos.line)=true:=by rfl) (hs:starEach [e] X.env=(false,eval e X.env) :: starEach [] X.env:=by rfl) (hplain:(backTo cpos (starEach [] X.env)).any (·.1)=false:=by rfl)
  (hsw:swapsWith (.Call (.Attribute (.Name x xpos) "pop" apos) [e] [] cpos) none pos.line X.env=pure false:=by rfl) :
  QS X (.Expr (.Call (.Attribute (.Name x xpos) "pop" apos) [e] [] cpos) pos) (vQ i te):=
 dL (jG (jK aY3 PySem.F.slot_list_pop PySem.F.type_list_pop xV (fP hN hv hd hcd) (cK ha cZ hs) hbase hfew hline hs hplain) hsw) fun _ _ _=>aH7
end
end PP
namespace Raw
open PySem PySem.W PySem.Calls PyProof.Rows
theorem vR {xs:List Nat} (a:xs.Pairwise (· < ·)) {i k:Nat} (hk:k < xs.length) (h:i<=k):xs.getD i 0<=xs.getD k 0:=by
 rcases Nat.lt_or_ge i k with z | z
 ·have:=aY9.mp a i k (by omega) hk z
  rw [aR7,aR7,aQ7 (by omega),aQ7 hk]
  exact aV0 this
 ·rw [Nat.le_antisymm h z]; exact aR0 _
theorem aH9 {xs:Array Nat}{i j:Nat} (h:i < xs.size):xs.getD i j=xs.toList.getD i 0:=by
 rw [aR7,Array.getElem?_toList,ba0,Array.getElem?_eq_getElem h]; rfl
theorem vS {xs:Array Nat}{j:Nat} (a:xs.toList.Pairwise (· < ·)):∀ (fuel lo hi:Nat),lo<=hi->hi<=xs.size->hi - lo<=fuel->(∀ i,i < lo->xs.toList.getD i 0 < j)->(∀ i,hi<=i->i < xs.size->j<=xs.toList.getD i 0)->
  SetTable.below.go xs j fuel lo hi<=xs.size/\(∀ i,i < SetTable.below.go xs j fuel lo hi->xs.toList.getD i 0 < j)/\∀ i,SetTable.below.go xs j fuel lo hi<=i->i < xs.size->j<=xs.toList.getD i 0
 | 0,lo,hi,h1,h2,h3,h4,h5=>by
  have e:lo=hi:=by omega
  subst e
  exact⟨h2,h4,h5⟩
 | fuel+1,lo,hi,h1,h2,h3,h4,h5=>by
  have sz:xs.toList.length=xs.size:=aU3
  unfold SetTable.below.go
  by_cases lt:lo < hi
  ·rw [if_pos lt]
   dsimp only
   have m1:lo<=(lo+hi) / 2:=by omega
   have m2:(lo+hi) / 2 < hi:=by omega
   rw [aH9 (by omega)]
   by_cases c:xs.toList.getD ((lo+hi) / 2) 0 < j
   ·rw [if_pos c]
    exact vS a fuel _ _ (by omega) h2 (by omega) (fun i hi'=>Nat.lt_of_le_of_lt (vR a (by omega) (by omega)) c) h5
   ·rw [if_neg c]
    exact vS a fuel _ _ (by omega) (by omega) (by omega) h4 fun i h6 h7=>aT4 (bc0 c) (vR a (by omega) h6)
  ·rw [if_neg lt]
   have e:lo=hi:=by omega
   subst e
   exact⟨h2,h4,h5⟩
theorem aI0 {xs:Array Nat}{j:Nat} (a:xs.toList.Pairwise (· < ·)):SetTable.below xs j<=xs.size/\(∀ i,i < SetTable.below xs j->xs.toList.getD i 0 < j)/\∀ i,SetTable.below xs j<=i->i < xs.size->j<=xs.toList.getD i 0:=
 vS a xs.size 0 xs.size (aT7 _) (aR0 _) (by omega) (fun i h=>absurd h (Nat.not_lt_zero _)) fun i h1 h2=>absurd h2 (by omega)
theorem aI1 {α:Type} (xs:Array α) (p:Nat) (x:α):(SetTable.insertAt xs p x).toList=xs.toList.take p ++ x :: xs.toList.drop p:=by
 unfold SetTable.insertAt
 simp
 exact List.take_of_length_le (by simp)
theorem aI2 {xs:Array Nat}{j:Nat} (a:xs.toList.Pairwise (· < ·)) (ne:xs[SetTable.below xs j]? ≠ some j):(SetTable.insertAt xs (SetTable.below xs j) j).toList.Pairwise (· < ·):=by
 obtain ⟨b1,b2,b3⟩:=aI0 (j:=j) a
 have sz:xs.toList.length=xs.size:=aU3
 rw [aI1]
 refine List.pairwise_append.mpr ⟨a.sublist (List.take_sublist _ _),List.pairwise_cons.mpr ⟨fun x hx=>?_,a.sublist (List.drop_sublist _ _)⟩,fun x hx y hy=>?_⟩
 ·obtain ⟨i,hi,e⟩:=List.getElem_of_mem hx
  rw [aU6] at hi
  rw [List.getElem_drop] at e
  have h1:=b3 (SetTable.below xs j) (aR0 _) (by omega)
  have h2:=vR a (i:=SetTable.below xs j) (k:=SetTable.below xs j+i) (by omega) (by omega)
  have h3:xs.toList.getD (SetTable.below xs j+i) 0=x:=by rw [aR7,aQ7 (by omega),e]; rfl
  rcases Nat.lt_or_ge j x with z | z
  ·exact z
  ·exfalso
   have h4:xs.toList.getD (SetTable.below xs j) 0=j:=by omega
   rw [aR7,aQ7 (by omega)] at h4
   refine ne ?_
   rw [<- Array.getElem?_toList,aQ7 (by omega)]
   exact congrArg some h4
 ·have hx':x < j:=by
   obtain ⟨i,hi,e⟩:=List.getElem_of_mem hx
   rw [aU5] at hi
   rw [List.getElem_take] at e
   have:=b2 i (by omega)
   rw [aR7,aQ7 (by omega),e] at this
   exact this
  rcases aR2.mp hy with e | hy
  ·rw [e]; exact hx'
  ·obtain ⟨i,hi,e⟩:=List.getElem_of_mem hy
   rw [aU6] at hi
   rw [List.getElem_drop] at e
   have:=b3 (SetTable.below xs j+i) (by omega) (by omega)
   rw [aR7,aQ7 (by omega),e] at this
   exact aR9 hx' this
structure gM (b:Bool) (t:SetTable):Prop where
 asc:t.place.toList.Pairwise (· < ·)
 dm:t.dummies = #[]
 led:t.led=b
theorem P8 (j:Nat):SetTable.has #[] j=false:=by
 unfold SetTable.has
 simp
theorem P9 {t:SetTable} (dm:t.dummies = #[]) {h:Int}{j:Nat}{d:Option Nat}:∀ (fuel:Nat) (p:SetTable.Probe),p.dummy=none->SetTable.probe.go t (fun _=>h+1) h fuel p=some (.empty j d)->d=none/\t.slot j = .empty
 | 0,p,_,e=>by cases e
 | fuel+1,p,hp,e=>by
  unfold SetTable.probe.go at e
  have adv:∀ p:SetTable.Probe,p.dummy=none->(t.advance p).dummy=none:=fun p hp=>by
   unfold SetTable.advance
   split <;> exact hp
  cases hs:t.slot p.j with
  | empty=>
   rw [hs] at e
   cases e
   exact⟨hp,hs⟩
  | dummy=>
   exfalso
   unfold SetTable.slot at hs
   dsimp only at hs
   rw [dm,P8] at hs
   split at hs <;> cases hs
  | live i=>
   rw [hs] at e
   dsimp only at e
   rw [if_neg (by simp; omega)] at e
   exact P9 dm fuel _ (adv p hp) e
theorem aI3 {t:SetTable} (dm:t.dummies = #[]) {h:Int}{sl:Nat}{d:Bool} (e:t.freeSlot h=some (sl,d)):t.slot sl = .empty:=by
 unfold SetTable.freeSlot at e
 split at e
 ·rename_i j dummy hm
  obtain ⟨e1,e2⟩:=P9 dm _ _ rfl hm
  subst e1
  cases e
  exact e2
 ·cases e
theorem r6 {b:Bool}{t:SetTable} (h:gM b t) (n:Nat):gM b (t.standIn n):=⟨by
 show (Array.range n).toList.Pairwise (· < ·)
 rw [Array.toList_range]; exact List.pairwise_lt_range,rfl,h.led⟩
theorem aI4 {b:Bool}{t:SetTable} (h:gM b t) {j:Nat} (hs:t.slot j = .empty):gM b (t.put j).1:=by
 refine⟨?_,?_,h.led⟩
 ·refine aI2 h.asc fun e=>?_
  unfold SetTable.slot at hs
  dsimp only at hs
  rw [if_pos (by rw [e]; exact aX4 _)] at hs
  cases hs
 ·show (if SetTable.has t.dummies j then SetTable.eraseAt t.dummies (SetTable.below t.dummies j) else t.dummies) = #[]
  rw [h.dm,P8]; rfl
theorem aI5 {b:Bool}{t:SetTable} (h:gM b t) (es:Array (Int × Value)) (k:Int) (x:Value):gM b (layNew t es k x).2.1:=by
 unfold layNew
 split
 ·rename_i sl wd e
  have p:=aI4 h (aI3 h.dm e)
  show gM b (SetTable.orStandIn _ _)
  unfold SetTable.orStandIn
  split
  ·exact p
  ·exact r6 p _
 ·exact r6 h _
theorem aI6 {b:Bool}{t:SetTable} (h:gM b t) (es:Array (Int × Value)) (n:Nat):gM b (relayAll t es n).2.1:=by
 unfold relayAll
 split
 ·rename_i t' order e
  dsimp only
  split
  ·show gM b t'
   unfold SetTable.relaid SetTable.laid at e
   cases hc:SetTable.layClean (SetTable.sizeAbove n - 1) (es.map (·.1)) with
   | none=>rw [hc] at e; cases e
   | some owner=>
    rw [hc] at e
    cases e
    refine⟨?_,rfl,h.led⟩
    show (List.map _ _).Pairwise (· < ·)
    refine bd3.mpr (List.Pairwise.filterMap _ (R:=(· < ·)) ?_ List.pairwise_lt_range)
    intro i i' hlt x hx y hy
    cases ho:owner.getD i none with
    | none=>rw [ho] at hx; cases hx
    | some v=>
     rw [ho] at hx
     cases ho2:owner.getD i' none with
     | none=>rw [ho2] at hy; cases hy
     | some v2=>
      rw [ho2] at hy
      cases hx; cases hy
      exact hlt
  ·exact r6 h _
 ·exact r6 h _
theorem Q0 {us vs:List Value} (p:us.Perm vs):∀ {ns:List Int},IntsAre vs ns->∃ ms,IntsAre us ms/\ms.Perm ns:=by
 induction p with
 | nil=>intro ns h; exact⟨ns,h,List.Perm.refl _⟩
 | cons x _ ih=>
  intro ns h
  cases h with
  | cons n t r=>
   obtain ⟨ms,h1,h2⟩:=ih r
   exact⟨n :: ms,.cons n t h1,h2.cons n⟩
 | swap x y l=>
  intro ns h
  cases h with
  | cons n t r=>
   cases r with
   | cons n' t' r=>
    exact⟨n' :: n :: _,.cons n' t' (.cons n t r),List.Perm.swap _ _ _⟩
 | trans _ _ ih1 ih2=>
  intro ns h
  obtain ⟨ms,h1,h2⟩:=ih2 h
  obtain ⟨ms',h3,h4⟩:=ih1 h1
  exact⟨ms',h3,h4.trans h2⟩
theorem Q2:∀ {us:List Value}{ns:List Int},IntsAre us ns->∀ (k:Int) (t:Nat),IntsAre (us ++ [.int k t]) (ns ++ [k])
 | _,_,.nil,k,t=>.cons k t .nil
 | _,_,.cons n u r,k,t=>.cons n u (Q2 r k t)
theorem r9:∀ {us:List Value}{ns:List Int},IntsAre us ns->∀ k:Int,k ∈ ns ↔ ∃ t,Value.int k t ∈ us
 | _,_,.nil,k=>⟨(fun h=>nomatch h),(fun ⟨_,h⟩=>nomatch h)⟩
 | _,_,.cons n u r,k=>by
  constructor
  ·intro h
   rcases aR2.mp h with e | h
   ·exact⟨u,by rw [e]; exact aS0⟩
   ·obtain ⟨t,ht⟩:=(r9 r k).mp h
    exact⟨t,aS2 _ ht⟩
  ·rintro ⟨t,h⟩
   rcases aR2.mp h with e | h
   ·cases e; exact aS0
   ·exact aS2 _ ((r9 r k).mpr ⟨t,h⟩)
abbrev nZ (es:Array (Int × Value)) (ep:Nat) (t:SetTable):Obj:={ cls:=.type "set",dict:=none,data:=.set es ep t,slots:=#[] }
section
variable {prog : Program} {w : World} {A : Around} {E : Value → Shared → Prop} {s : Shared}
def aI7 (prog:Program) (w:World) (es:Array (Int × Value)) (t:SetTable) (ms:List Int):Prop:=ElemsOf (intKind prog w) es.toList/\IntsAre (es.toList.map (·.2)) ms/\es.size < scanBound/\t.fits es.size=true/\gM (!w.params.followText "set-order") t
def Q3 (prog:Program) (w:World) (h:Heap) (a:Addr) (ms:List Int):Prop:=∃ es ep t,h.get? a=some (nZ es ep t)/\aI7 prog w es t ms
theorem Q4 {h:Heap}{a:Addr}{es es':Array (Int × Value)}{ep:Nat}{t t':SetTable} (ho:h.get? a=some (nZ es ep t)):(h.update a (Obj.putSet es' t')).get? a=some (nZ es' (ep+1) t'):=by
 have:=Heap.get?_update_self (Obj.putSet es' t') ho (by rw [putSet_of es' t' (rfl:(nZ es ep t).data=_)]; rfl)
 rw [putSet_of es' t' (rfl:(nZ es ep t).data=_)] at this
 exact this
theorem add_int {a:Addr}{ms:List Int}{k:Int}{u:Nat}{Q:Bool->Shared->Prop} (hS:Q3 prog w s.heap a ms) (room:ms.length+1 < scanBound)
  (h:∀ b h' ms',Heap.SameBut a s.heap h'->Q3 prog w h' a ms'->(k ∈ ms->ms'.Perm ms)->(k ∉ ms->ms'.Perm (ms ++ [k]))->Q b { s with heap:=h' }) :
  wpAny (model prog w) A (setAddHashed a (.int k u) ((intKind prog w).hash k)) Q E s:=by
 obtain ⟨es,ep,t,ho,hel,hi,hb,hf,tk⟩:=hS
 have key:(intKind prog w).is k (.int k u)=true:=intKind_is _ _ _ _
 have ln:ms.length=es.size:=by
  have:=IntsAre.length hi
  rw [aR1,aU3] at this
  exact this.symm
 have isk:∀ v,(intKind prog w).is k v=true->∃ u,v = .int k u:=fun v hv=>Value.isInt_shape hv
 unfold setAddHashed setAddHashedIn
 refine aY5 (aQ5 (wpAny_setState_of ho rfl hf ?_))
 dsimp only
 rw [byScan_of (knd:=intKind prog w) (x:=.int k u) rfl hb hel,if_pos rfl]
 unfold setAddByScan
 refine aQ5 (aQ5 (wpAny_rule ?_))
 refine aQ5 (wpAny_setScan_of key ho rfl hf hel ?_)
 cases hr:List.findIdx? (fun e=>(intKind prog w).is k e.2) es.toList with
 | some j=>
  dsimp only
  obtain ⟨hj,hp,_⟩:=List.findIdx?_eq_some_iff_getElem.mp hr
  have km:k ∈ ms:=by
   obtain ⟨u',e⟩:=isk _ hp
   exact (r9 hi k).mpr ⟨u',by rw [<- e]; exact aV7.mpr ⟨_,aZ8 hj,rfl⟩⟩
  have e:s={ s with heap:=s.heap }:=by cases s; rfl
  rw [e]
  exact aQ9 (aQ9 (h _ s.heap ms (Heap.SameBut.refl a s.heap) ⟨es,ep,t,ho,hel,hi,hb,hf,tk⟩ (fun _=>List.Perm.refl _) fun n=>absurd km n))
 | none=>
  dsimp only
  have km:k ∉ ms:=fun z=>by
   obtain ⟨u',hm⟩:=(r9 hi k).mp z
   obtain ⟨e,he,e2⟩:=aV7.mp hm
   have:=List.findIdx?_eq_none_iff.mp hr e he
   rw [e2,intKind_is _ _ _ _] at this; cases this
  have lp:=layNew_perm t es ((intKind prog w).hash k) (.int k u)
  have lf:=layNew_fits t es ((intKind prog w).hash k) (.int k u)
  have lk:=aI5 tk es ((intKind prog w).hash k) (.int k u)
  generalize hL:layNew t es ((intKind prog w).hash k) (.int k u)=L at lp lf lk ⊢
  obtain ⟨es1,t1,wd,gave⟩:=L
  dsimp only at lp lf lk ⊢
  rw [Array.toList_push] at lp
  have el1:ElemsOf (intKind prog w) es1.toList:=(hel.push key rfl).perm lp
  have sz1:es1.size=es.size+1:=by rw [<- aU3,lp.length_eq,aR3,aU3]; rfl
  obtain ⟨ms1,i1,p1⟩:∃ ms1,IntsAre (es1.toList.map (·.2)) ms1/\ms1.Perm (ms ++ [k]):=Q0 (lp.map (·.2)) (by rw [aT8]; exact Q2 hi k u)
  have hb1:es1.size < scanBound:=by omega
  have gw:∀ (b:Bool) (s₁:Shared) (Q':Unit->Shared->Prop),Q' () s₁->wpAny (model prog w) A (match b with | true=>rule "set.scan.the-table-gave-way" | false=>pure ()) Q' E s₁:=fun b s₁ Q' hq=>by
   cases b
   ·exact aQ9 hq
   ·exact wpAny_rule hq
  refine aQ5 (gw _ _ _ ?_)
  split <;> (
   show wpAny _ _ (storeSet a es1 t1 >>= _) _ _ _
   simp only [↓reduceIte]
   refine aQ5 (wpAny_storeSet_of ho rfl ?_ (fits_of_scanBound hb1))
   have ho1:=Q4 (es':=es1) (t':=t1) ho
   have sb1:=bb7 s.heap a (Obj.putSet es1 t1)
   split
   ·have rp:=relayAll_perm t1 es1 (SetTable.grown es1.size)
    have rf:=relayAll_fits t1 es1 (SetTable.grown es1.size)
    have rk:=aI6 lk es1 (SetTable.grown es1.size)
    generalize relayAll t1 es1 (SetTable.grown es1.size)=L at rp rf rk ⊢
    obtain ⟨es2,t2,gave2⟩:=L
    dsimp only at rp rf rk ⊢
    have sz2:es2.size=es1.size:=by rw [<- aU3,rp.length_eq,aU3]
    obtain ⟨ms2,i2,p2⟩:=Q0 (rp.map (·.2)) i1
    refine aQ5 (gw _ _ _ ?_)
    refine aQ5 (wpAny_storeSet_of ho1 rfl ?_ (fits_of_scanBound (by omega)))
    exact aQ9 (aQ9 (h _ _ ms2 (sb1.trans (bb7 _ a _)) ⟨es2,_,t2,Q4 ho1,el1.perm rp,i2,by omega,rf,rk⟩ (fun z=>absurd z km) fun _=>p2.trans p1))
   ·exact aQ9 (aQ9 (h _ _ ms1 sb1 ⟨es1,_,t1,ho1,el1,i1,hb1,lf,lk⟩ (fun z=>absurd z km) fun _=>p1)))
end
end Raw
namespace Core
open PySem L2 PP
theorem aI8 {n:Nat}{ys:List Int}{x:Int} (hx:x ∈ ys) (b:x < 0 ∨ (n:Int)<=x):bW n ys=false:=by
 cases h:bW n ys with
 | false=>rfl
 | true=>have:=(jA h).2 x hx; omega
end Core
namespace PP
open PySem L2
section
variable {X : Cx} {a b e o : Expr} {ta tb te to : aF} {tr : cG} {pos p2 apos cpos : Pos} {σ : St} {H : Hp} {Q' : VK}
def rA:List PV->(PV->Prop)->Prop:=fun xs Q=>(∃ i,xs = [.int i]/\Q (.int i)) ∨ ∃ k,xs = [.bl k]/\Q (.int (if k then 1 else 0))
theorem aI9:eB X rA (fun xs H Q=>(∃ i,xs = [.int i]/\Q (.int i) H) ∨ ∃ k,xs = [.bl k]/\Q (.int (if k then 1 else 0)) H):=by
 rintro H vs xs Q Q' r (⟨i,rfl,q⟩ | ⟨i,rfl,q⟩) k
 ·obtain ⟨v,rfl,r1⟩:=r.one
  cases r1
  exact .inl ⟨i,rfl,k _ _ _ (aC.refl _) (.int _) q⟩
 ·obtain ⟨v,rfl,r1⟩:=r.one
  cases r1
  exact .inr ⟨i,rfl,k _ _ _ (aC.refl _) (.int _) q⟩
theorem Q5 (B:Bt X.mg) (ha:QA X [e] tr) (hg:Gl X "int":=by rfl) (he:starEach [e] X.env=(false,eval e X.env) :: starEach [] X.env:=by rfl) (hpl:(backTo pos (starEach [] X.env)).any (·.1)=false:=by rfl):QE X (.Call (.Name "int" p2) [e] [] pos) (aE rA tr):=
 pS ac0 aI9 hg B.int PyProof.Rows.boot_int ha (he:=he) (hpl:=hpl)
end
section
variable {X : Cx} {a b e : Expr} {ta tb te : aF} {tr : cG} {pos : Pos} {σ : St} {H : Hp} {Q' : VK} {es : List Expr}
def Q6:PV->Tg->PV->Tg->PK->Prop:=fun x _ y _ Q=>∃ i j:Str,x = .str i/\y = .str j/\i.length+j.length<=1000/\Q (.str (i ++ j)) .fr
abbrev Q7 (ta tb:aF):aF:=q2 Q6 ta tb
theorem aJ0:cT X Q6 (fun x y H Q=>∃ i j:Str,x = .str i/\y = .str j/\i.length+j.length<=sizeLine/\Q (.str (i ++ j)) H):=by
 rintro W Hs H u v x y g g' Q Q' s n r1 r2 ⟨i,j,rfl,rfl,h,q⟩ k
 cases r1; cases r2
 exact⟨i,j,rfl,rfl,mR h,k _ _ _ _ (aC.refl _) (.str _) q⟩
theorem aJ1 (ha:QE X a ta) (hb:QE X b tb):QE X (.BinOp a .Add b pos) (Q7 ta tb):=gI ab7 aJ0 ha hb
def Q8:R2:=fun x y H Q=>∃ (i:Str) (k:Bool),x = .str i/\y = .int (if k then 1 else 0)/\Q (.str (if k then i else Str.empty)) H
theorem aJ2:bR X (binaryOp .Mult) Q8:=by
 intro pins s σ H x y v u Q I rx ry h
 obtain ⟨i,k,rfl,rfl,q⟩:=h
 obtain ⟨t,rfl⟩:=rx
 obtain ⟨t',rfl⟩:=ry
 cases k with
 | true=>exact SB.mul (n:=1) ⟨by decide,fun _ z=>by simp at z,fun _ z=>by simp at z⟩ fun t' tk=>⟨.str i,H,I.tok _,⟨t',by simp [Txt.mul]⟩,q⟩
 | false=>exact SB.mul (n:=0) ⟨by decide,fun z=>absurd (by decide) z,fun z=>absurd (by decide) z⟩ fun t' tk=>⟨.str Str.empty,H,I.tok _,⟨t',by simp [Txt.mul]⟩,q⟩
def Q9:PV->Tg->PV->Tg->PK->Prop:=fun x _ y _ Q=>∃ (i:Str) (k:Bool),x = .str i/\y = .int (if k then 1 else 0)/\Q (.str (if k then i else Str.empty)) .fr
abbrev vT (ta tb:aF):aF:=q2 Q9 ta tb
theorem aJ3:cT X Q9 Q8:=by
 rintro W Hs H u v x y g g' Q Q' s n r1 r2 ⟨i,j,rfl,rfl,q⟩ k
 cases r1; cases r2
 exact⟨i,j,rfl,rfl,k _ _ _ _ (aC.refl _) (.str _) q⟩
theorem R3 (ha:QE X a ta) (hb:QE X b tb):QE X (.BinOp a .Mult b pos) (vT ta tb):=gI aJ2 aJ3 ha hb
def hV (neg:Bool):PV->Tg->PV->Tg->PK->Prop:=fun x _ y _ Q=>∃ i j:Str,x = .str i/\y = .str j/\Q (.bl (if neg=true then !decide (i=j) else decide (i=j))) .fr
theorem aJ4 (i j:Str):decide (V.str i=V.str j)=decide (i=j):=by
 rw [aY6,bb6,bb6]; exact⟨fun z=>V.str.inj z,fun z=>congrArg V.str z⟩
theorem aJ5:cT X (hV true) rV:=by
 rintro W Hs H u v x y g g' Q Q' s n r1 r2 ⟨i,j,rfl,rfl,q⟩ k
 cases r1; cases r2
 exact⟨rfl,by rw [aJ4]; exact k _ _ _ _ (aC.refl _) (.bl _) q⟩
theorem kK (ha:QE X a ta) (hb:QE X b tb):QT X (.Compare a [.NotEq] [b] pos) (aS (q2 (hV true) ta tb)):=k7 x0 aJ5 ha hb (dY _)
def vU (t:cG):aF:=fun ρ Q=>t ρ fun xs=>xs.length<=1000/\mP xs/\Q (.lst (xs.map (·.1))) .nw
theorem aJ6 (h:LE X (vU tr) σ H Q'):rZ (LA X tr) σ H Q':=by
 obtain ⟨W,ρ,Q,px,q,k⟩:=h
 refine⟨W,ρ,_,px,q,?_⟩
 rintro vs H1 xs s1 r ⟨hl,n,q⟩
 refine⟨by rw [r.length]; exact mR hl,fun p hp=>k _ _ _ .nw (s1.trans (b7 hp _)) (.lst (px.new (s1.free hp)) b8 ?_) q⟩
 exact (mP.reps (vs:=vs) px n r).same (b7 hp _) fun _ z=>z
theorem aJ7 (ha:QA X es tr):QE X (.List es pos) (vU tr):=bT (sA ha) fun _ _ _=>aJ6
end
end PP
namespace Core
open PySem L2 PP
def rB:bJ:=fun xs Q=>∃ ws ls x os,xs = [bF ws ls,x]/\ws.length<=40/\cU x os/\os.length < 64/\¬ os.Perm (rng ws.length)/\Q (.bl false)
def R4:aO:=(b4 (q2 (u7 2 false) (aE v7 (a6 (a5 1) a9)) (nN (aE eJ (a6 (a5 0) a9)))))
theorem aJ8:cP R4 ["web","numbers"] rB:=by
 rintro xs Q ⟨ws,ls,x,os,rfl,few,hx,lo,po,q⟩
 refine⟨_,rfl,_,os,rfl,hx.seq,lo,fun ms pm sm=>?_⟩
 refine⟨_,rfl,ws,ls,rfl,_,rfl,by omega,by omega,?_⟩
 rw [lK]
 refine⟨.inr ⟨_,_,rfl,rfl⟩,aq8 2 _ _,trivial,?_⟩
 show Q (.bl (cF 3 (.lst (intz ms)) (.lst (intz (rng ((ws.length:Int).toNat))))))
 rw [show ((ws.length:Int).toNat)=ws.length from rfl,aq7,aR5 (fun z=>po (by rw [<- z]; exact pm.symm))]
 exact q
def rC:cX:=fun Ep xs Q=>∃ ws ls x ns y os,xs = [bF ws ls,x,y]/\Wb ws ls/\cU x ns/\ns.length<=1000/\cU y os/\os.length < 64/\((bW ws.length ns=false/\Ep "BadSet") ∨ (bW ws.length ns=true/\¬ os.Perm (rng ws.length)/\Ep "BadOrder"))
def R5 (Ep:Str->Prop):aO:=(aG (cW 3 (aE kC (a6 (iO Ep jF (a6 (a5 0) (a6 (a5 1) a9))) a9)))
 (aG (bG (jU (aS (aE rB (a6 (a5 0) (a6 (a5 2) a9))))) (lM Ep "BadOrder" (a6 (qC (.str "each hearth stands in an order once")) a9)) bM)
 (aG (aY 4 (aE iM (a6 (a5 0) a9)))
 (aG (cW 5 (cH a9))
 (aG (aY 6 (aE nU (a6 (a5 0) (a6 (a5 4) (a6 (a5 3) (a6 (a5 2) a9))))))
 (aG (p9 (aS (pM (a5 6) (qC .non)))
  (aG (gG 5 (a5 6))
  (aG (nC 3 (a5 6) (qC (.bl true)))
  (aY 6 (aE nU (a6 (a5 0) (a6 (a5 4) (a6 (a5 3) (a6 (a5 2) a9)))))))))
 (gT 5)))))))
theorem aJ9:jE R5 ["web","seeds","order","burning","around","kindled","hearth"] rC:=by
 rintro Ep xs Q ⟨ws,ls,x,ns,y,os,rfl,wb,hx,hl,hy,lo,c⟩
 have few:=wb.few
 rcases c with ⟨c,e⟩ | ⟨c,po,e⟩
 ·exact⟨_,rfl,_,rfl,ws,ls,x,ns,rfl,hx,hl,(fun z=>by rw [c] at z; cases z),fun _=>e⟩
 ·refine⟨_,rfl,_,rfl,ws,ls,x,ns,rfl,hx,hl,fun _=>?_,fun z=>by rw [c] at z; cases z⟩
  refine⟨_,ns,rfl,.inl rfl,hl,fun ps ds=>⟨rfl,ds.fl,?_⟩⟩
  exact⟨_,rfl,_,rfl,ws,ls,y,os,rfl,few,hy,lo,po,_,rfl,aX ⟨by show 1<=1000; decide,e⟩⟩
def aK0:cX:=fun Ep xs Q=>∃ ws ls x ns,xs = [bF ws ls,x]/\Wb ws ls/\cU x ns/\ns.length<=1000/\bW ws.length ns=false/\Ep "BadSet"
def rD:cX:=aK0
def R6 (Ep:Str->Prop):aO:=(aG (aY 2 (iO Ep lS (a6 (a5 0) (a6 (a5 1) a9))))
 (aG (aY 3 (aE iM (a6 (a5 0) a9)))
 (b4 (eU (fX (aE eJ (a6 (a5 0) a9))) [none,some 0,some 3,some 2] (bZ 0) gU (aE qS (a6 (a5 1) (a6 (a5 2) (a6 (a5 3) (a6 (a5 0) a9)))))))))
theorem aK1:jE R6 ["web","seeds","ranks","around"] rD:=by
 rintro Ep xs Q ⟨ws,ls,x,ns,rfl,wb,hx,hl,c,e⟩
 exact⟨_,rfl,_,rfl,ws,ls,x,ns,rfl,wb,hx,hl,(fun z=>by rw [c] at z; cases z),fun _=>e⟩
def rE:cX:=fun Ep xs Q=>∃ ws ls x ns y,xs = [bF ws ls,x,y]/\Wb ws ls/\cU x ns/\ns.length<=1000/\bW ws.length ns=false/\Ep "BadSet"
def R7 (Ep:Str->Prop):aO:=(aG (aY 3 (iO Ep jF (a6 (a5 0) (a6 (a5 1) a9))))
 (aG (bG (aS (pL (aE eQ (a6 (a5 2) a9)) (aE eJ (a6 (a5 0) a9)))) (lM Ep "NoPaper" (a6 (qC (.str "there are not as many causes as hearths")) a9)) bM)
 (aG (aY 4 (aE iM (a6 (a5 0) a9)))
 (aG (cN (fX (aE eJ (a6 (a5 0) a9))) (bZ 5)
  (bG (jU (aS (aE qU (a6 (bK (bK (a5 0) (qC (.int 0))) (a5 5)) (a6 (bK (a5 4) (a5 5)) (a6 (a5 2) (a6 (q2 (pK false) (a5 5) (a5 3)) (a6 (bK (a5 2) (a5 5)) a9)))))))) (lM Ep "NoPaper" (a6 (qC (.str "a cause is not right")) a9)) bM))
 (b4 (aE dJ (a6 (eU (qP (a5 2)) [none,none] (jX 0 1) (aS (pM (a5 1) (qC .non))) (a5 0)) a9)))))))
theorem aK2:jE R7 ["web","seeds","told","lit","around","hearth"] rE:=by
 rintro Ep xs Q ⟨ws,ls,x,ns,y,rfl,wb,hx,hl,c,e⟩
 exact⟨_,rfl,_,rfl,ws,ls,x,ns,rfl,hx,hl,(fun z=>by rw [c] at z; cases z),fun _=>e⟩
theorem aK3 (x:Str):x ++ Str.empty=x:=by
 show Str.mk (x.cps ++ #[])=x
 rw [Array.append_empty]
theorem aK4 (x:Str):Str.empty ++ x=x:=by
 show Str.mk (#[] ++ x.cps)=x
 rw [Array.empty_append]
def hZ:bJ:=fun xs Q=>∃ (w:Int) (ws:List Int) (ls:List (Int × Int)) (x:PV) (ns:List Int) (y:PV) (os:List Int),xs = [.int w,bF ws ls,x,y]/\Wb ws ls/\cU x ns/\ns.length<=1000/\cU y os/\os.length < 64/\
 ((0<=w/\w<=5/\bW ws.length ns=false/\Q (.str "set")) ∨ (w=0/\bW ws.length ns=true/\¬ os.Perm (rng ws.length)/\Q (.str "order")))
def vV:aO:=(aG (bG (jU (aS (lQ "ValueError" (a5 4)))) (b4 (qC (.str ""))) bM)
 (b4 (Q7 (vT (qC (.str "order")) (aE rA (a6 (lQ "BadOrder" (a5 4)) a9))) (vT (qC (.str "set")) (aE rA (a6 (lQ "BadSet" (a5 4)) a9))))))
def R8:aO:=(aG (aY 4 (qC .non))
 (aG (vG "HearthError" 5 (lN (aS (dB (a5 0) (qC (.int 0)))) (kJ rC (a6 (a5 1) (a6 (a5 2) (a6 (a5 3) a9)))) (lN (aS (dB (a5 0) (qC (.int 1)))) (kJ lR (a6 (a5 1) (a6 (a5 2) a9))) (lN (aS (dB (a5 0) (qC (.int 2)))) (kJ lT (a6 (a5 1) (a6 (a5 2) a9))) (lN (aS (dB (a5 0) (qC (.int 3)))) (kJ qZ (a6 (a5 1) (a6 (a5 2) a9))) (lN (aS (dB (a5 0) (qC (.int 4)))) (kJ rD (a6 (a5 1) (a6 (a5 2) a9))) (kJ rE (a6 (a5 1) (a6 (a5 2) (a6 (cH a9) a9))))))))) (aY 4 (a5 5)))
 vV))
theorem aK5:cP R8 ["way","web","seeds","order","caught","e"] hZ:=by
 rintro xs Q ⟨w,ws,ls,x,ns,y,os,rfl,wb,hx,hl,hy,lo,c⟩
 have fin:∀ n:Str,(n="BadSet"/\Q (.str "set")) ∨ (n="BadOrder"/\Q (.str "order"))->vV { nx:=fun _=>Q .non,rt:=Q } [some (.sh true (.int w)),some (.sh (flat (bF ws ls)) (bF ws ls)),some (.sh (flat x) x),some (.sh (flat y) y),some (.sh true (.exc n)),none]:=by
  rintro n (⟨rfl,q⟩ | ⟨rfl,q⟩)
  ·refine⟨_,rfl,true,(by decide),_,rfl,aV ⟨_,rfl,false,(by decide),.inr ⟨_,rfl,_,false,rfl,rfl,_,rfl,true,(by decide),.inr ⟨_,rfl,_,true,rfl,rfl,_,_,rfl,rfl,by decide +kernel,trivial,?_⟩⟩⟩⟩
   show Q (.str (Str.empty ++ "set"))
   rw [aK4]; exact q
  ·refine⟨_,rfl,true,(by decide),_,rfl,aV ⟨_,rfl,true,(by decide),.inr ⟨_,rfl,_,true,rfl,rfl,_,rfl,false,(by decide),.inr ⟨_,rfl,_,false,rfl,rfl,_,_,rfl,rfl,by decide +kernel,trivial,?_⟩⟩⟩⟩
   show Q (.str ("order" ++ Str.empty))
   rw [aK3]; exact q
 refine⟨trivial,?_⟩
 have go:∀ n:Str,(n="BadSet"/\Q (.str "set")) ∨ (n="BadOrder"/\Q (.str "order"))->jC n "HearthError" = some true/\(aY 4 (a5 5)) (vF { nx:=fun ρ=>vV { nx:=fun _=>Q .non,rt:=Q } ρ,rt:=Q } 5) [some (.sh true (.int w)),some (.sh (flat (bF ws ls)) (bF ws ls)),some (.sh (flat x) x),some (.sh (flat y) y),some (.sh true .non),some (.sh true (.exc n))]:=fun n h=>⟨by rcases h with ⟨rfl,_⟩ | ⟨rfl,_⟩ <;> decide,_,rfl,trivial,fin n h⟩
 rcases c with ⟨w0,w5,c,q⟩ | ⟨rfl,c,po,q⟩
 ·have no:∀ {P:Prop},bW ws.length ns=true->P:=fun {P} z=>by rw [c] at z; cases z
  have hi:=go "BadSet" (.inl ⟨rfl,q⟩)
  refine⟨_,rfl,.inl ⟨_,_,rfl,rfl,_,rfl,?_⟩⟩
  by_cases h0:w=0
  ·subst h0
   exact aX ⟨_,rfl,_,rfl,_,rfl,ws,ls,x,ns,y,os,rfl,wb,hx,hl,hy,lo,.inl ⟨c,hi⟩⟩
  have e0:decide (w=0)=false:=aR5 h0
  show if decide (w=0)=true then _ else _
  rw [e0]
  refine aV ⟨_,rfl,.inl ⟨_,_,rfl,rfl,_,rfl,?_⟩⟩
  by_cases h1:w=1
  ·subst h1
   exact aX ⟨_,rfl,_,rfl,ws,ls,x,ns,rfl,wb,hx,hl,no,fun _=>hi⟩
  show if decide (w=1)=true then _ else _
  rw [aR5 h1]
  refine aV ⟨_,rfl,.inl ⟨_,_,rfl,rfl,_,rfl,?_⟩⟩
  by_cases h2:w=2
  ·subst h2
   exact aX ⟨_,rfl,_,rfl,ws,ls,x,ns,rfl,wb,hx,hl,no,fun _=>hi⟩
  show if decide (w=2)=true then _ else _
  rw [aR5 h2]
  refine aV ⟨_,rfl,.inl ⟨_,_,rfl,rfl,_,rfl,?_⟩⟩
  by_cases h3:w=3
  ·subst h3
   exact aX ⟨_,rfl,_,rfl,ws,ls,x,ns,rfl,wb,hx,hl,no,fun _=>hi⟩
  show if decide (w=3)=true then _ else _
  rw [aR5 h3]
  refine aV ⟨_,rfl,.inl ⟨_,_,rfl,rfl,_,rfl,?_⟩⟩
  by_cases h4:w=4
  ·subst h4
   exact aX ⟨_,rfl,_,rfl,ws,ls,x,ns,rfl,wb,hx,hl,c,hi⟩
  show if decide (w=4)=true then _ else _
  rw [aR5 h4]
  exact aV ⟨_,rfl,_,rfl,by decide,rfl,ws,ls,x,ns,_,rfl,wb,hx,hl,c,hi⟩
 ·have hi:=go "BadOrder" (.inr ⟨rfl,q⟩)
  exact⟨_,rfl,.inl ⟨_,_,rfl,rfl,_,rfl,aX ⟨_,rfl,_,rfl,_,rfl,ws,ls,x,ns,y,os,rfl,wb,hx,hl,hy,lo,.inr ⟨c,po,hi⟩⟩⟩⟩
theorem vW {os:List Int}{n:Nat} (h:os.length ≠ n) : ¬ os.Perm (rng n):=fun z=>h (by rw [z.length_eq,lG])
theorem aK6 {os:List Int}{n:Nat}{x:Int} (hx:x ∈ os) (b:x < 0 ∨ (n:Int)<=x) : ¬ os.Perm (rng n):=fun z=>by
 have:=pX.mp (z.mem_iff.mp hx)
 omega
theorem aK7 {os:List Int}{n i j:Nat}{x:Int} (hi:os[i]? = some x) (hj:os[j]? = some x) (ne:i ≠ j) : ¬ os.Perm (rng n):=fun z=>by
 have nd:os.Nodup:=z.nodup_iff.mpr (qH n)
 have il:=(aR4.mp hi).1
 exact ne ((List.getElem?_inj il nd).mp (hi.trans hj.symm))
def rF:bJ:=fun xs Q=>∃ (n:Nat) (c:Int),xs = [.int n,.int c]/\0 < n/\n<=40/\0<=c/\∀ os:List Int,os.length < 64->¬ os.Perm (rng n)->Q (.lst (intz os))
def aK8:aO:=(aG (bG (aS (dB (aU (a5 1) (qC (.int 4))) (qC (.int 0)))) (vQ 2 (aU (bB (a5 1) (qC (.int 41))) (a5 0))) (bG (jT (aS (dB (aU (a5 1) (qC (.int 4))) (qC (.int 1)))) (aS (nD (a5 0) (qC (.int 1))))) (aG (aY 5 (aU (bB (a5 1) (qC (.int 41))) (a5 0)))
   (mT 2 (a5 5) (bK (a5 2) (aU (eF (eF (a5 5) (qC (.int 1))) (aU (bB (a5 1) (qC (.int 1681))) (jZ (a5 0) (qC (.int 1))))) (a5 0))))) (bG (aS (dB (aU (a5 1) (qC (.int 4))) (qC (.int 2)))) (vP 2 (aU (bB (a5 1) (qC (.int 41))) (eF (a5 0) (qC (.int 1)))) (bK (cH (a6 (qC (.int 0)) (a6 (a5 0) (a6 (a5 4) a9)))) (aU (bB (a5 1) (qC (.int 211))) (qC (.int 3))))) (mT 2 (aU (bB (a5 1) (qC (.int 41))) (a5 0)) (bK (cH (a6 (iH (qC (.int 1))) (a6 (a5 0) (a6 (jZ (iH (qC (.int 1))) (a5 4)) (a6 (eF (a5 0) (a5 4)) a9))))) (aU (bB (a5 1) (qC (.int 211))) (qC (.int 4))))))))
 (gT 2))
def R9:aO:=(aG (cW 2 (nN (a5 0)))
 (aG (aY 3 (aU (bB (a5 1) (qC (.int 5))) (a5 0)))
 (aG (cW 2 (M0 (fK (a5 2) (fJ (a5 3)) fI) (fK (a5 2) fI (fJ (a5 3)))))
 (aG (aY 4 (aU (bB (a5 1) (qC (.int 1009))) (u9 (qC (.int 10)) (qC (.int 30)))))
 aK8))))
theorem S0 {n k:Nat} (h:k < n):gA n (k:Int)=some k:=by
 unfold gA
 rw [if_pos (by omega),if_pos (by omega),aY0]
theorem S2:∀ (ps:List Int) (k:Nat),(intz ps).eraseIdx k=intz (ps.eraseIdx k)
 | [],_=>rfl
 | _ :: _,0=>rfl
 | p :: r,k+1=>by
  show PV.int p :: (intz r).eraseIdx k=PV.int p :: intz (r.eraseIdx k)
  rw [S2 r k]
theorem S3 (ps:List Int) (k:Nat) (v:Int):(intz ps).set k (.int v)=intz (ps.set k v):=by
 show (List.map PV.int ps).set k _=List.map PV.int _
 rw [List.map_set]
theorem lU {c:Int}{n:Nat} (h:0 < n):∃ k:Nat,c % (n:Int)=k/\k < n:=by
 have h0:0<=c % (n:Int):=aT6 _ (by omega)
 have h1:c % (n:Int) < n:=aU0 _ (by omega)
 exact⟨(c % (n:Int)).toNat,by omega,by omega⟩
theorem aK9:cP R9 ["many","cell","order","cut","far","at"] rF:=by
 rintro xs Q ⟨n,c,rfl,n0,n1,c0,q⟩
 refine⟨_,rfl,(n:Int),rfl,by omega,by omega,rfl,?_,?_⟩
 ·rw [lK]; exact c7 _
 rw [lK,aY0]
 refine⟨_,rfl,_,_,rfl,rfl,⟨by decide,by decide⟩,_,rfl,_,_,rfl,rfl,by omega,trivial,?_⟩
 dsimp only
 obtain ⟨k,ek,kl⟩:=lU (c:=c / 5) n0
 rw [ek]
 refine⟨_,rfl,_,rfl,_,rfl,_,rfl,c7 _,_,rfl,_,rfl,_,rfl,_,rfl,c7 _,?_⟩
 dsimp only [Slot.val]
 show v8 (.lst (eD (intz (rng n)) (some (k:Int)) none)) _ (.lst (eD (intz (rng n)) none (some (k:Int)))) _ _
 rw [v4 _ (by omega),P0 _ (by omega),aY0]
 have pr:(((rng n).drop k) ++ ((rng n).take k)).Perm (rng n):=by
  have:=List.perm_append_comm (l₁:=(rng n).drop k) (l₂:=(rng n).take k)
  rwa [ba9] at this
 have rl:(((rng n).drop k) ++ ((rng n).take k)).length=n:=by rw [pr.length_eq,lG]
 refine⟨_,_,rfl,rfl,c7 _,c7 _,by rw [b6,b6,<- aR3,rl]; omega,rfl,?_,?_⟩
 ·show flats (intz _ ++ intz _)=true
  rw [<- dS]; exact c7 _
 rw [<- dS]
 generalize ((rng n).drop k) ++ ((rng n).take k)=R at pr rl
 refine⟨_,rfl,_,_,rfl,rfl,⟨by decide,by decide⟩,_,_,rfl,rfl,⟨by decide,by decide,by decide⟩,_,_,rfl,rfl,(by show (0:Int) < 10 ^ (30:Int).toNat; decide),trivial,?_⟩
 dsimp only
 have f0:0<=c / 1009 % 10 ^ (30:Int).toNat:=aT6 _ (by decide)
 generalize c / 1009 % 10 ^ (30:Int).toNat=f at f0
 have rnd:R.Nodup:=pr.nodup_iff.mpr (qH n)
 obtain ⟨k1,ek1,k1l⟩:=lU (c:=c / 41) n0
 have fin:∀ (os:List Int) (y5:Option Slot),os.length < 64->¬ os.Perm (rng n)->(gT 2) { nx:=fun _=>Q .non,rt:=Q } [some (.sh true (.int (n:Int))),some (.sh true (.int c)),some (.own (.lst (intz os))),some (.sh true (.int (k:Int))),some (.sh true (.int f)),y5]:=fun os y5 h1 h2=>⟨_,rfl,trivial,q os h1 h2⟩
 refine⟨_,rfl,_,_,rfl,rfl,(by show (0:Int) < 4; decide),.inl ⟨_,_,rfl,rfl,_,rfl,?_⟩⟩
 show if decide (c % 4=0)=true then _ else _
 by_cases h0:c % 4=0
 ·rw [aS3 h0]
  refine aX ⟨_,rfl,_,rfl,_,_,rfl,rfl,⟨by decide,by decide⟩,_,rfl,_,_,rfl,rfl,by omega,k1,congrArg PV.int ek1,by rw [b6]; omega,by rw [b6]; omega,?_⟩
  have:(intz R).eraseIdx k1=intz (R.eraseIdx k1):=by
   exact S2 R k1
  rw [this]
  have l1:(R.eraseIdx k1).length=n - 1:=by rw [List.length_eraseIdx,if_pos (by omega)]; omega
  exact fin _ _ (by omega) (vW (by omega))
 rw [aR5 h0]
 refine aV ⟨_,rfl,_,_,rfl,rfl,(by show (0:Int) < 4; decide),.inl ⟨_,_,rfl,rfl,_,rfl,?_⟩⟩
 have last:(mT 2 (aU (bB (a5 1) (qC (.int 41))) (a5 0)) (bK (cH (a6 (iH (qC (.int 1))) (a6 (a5 0) (a6 (jZ (iH (qC (.int 1))) (a5 4)) (a6 (eF (a5 0) (a5 4)) a9))))) (aU (bB (a5 1) (qC (.int 211))) (qC (.int 4))))) { nx:=fun ρ=>(gT 2) { nx:=fun _=>Q .non,rt:=Q } ρ,rt:=Q } [some (.sh true (.int (n:Int))),some (.sh true (.int c)),some (.own (.lst (intz R))),some (.sh true (.int (k:Int))),some (.sh true (.int f)),none]:=by
  have j0:0<=c / 211 % 4:=aT6 _ (by decide)
  have j1:c / 211 % 4 < 4:=aU0 _ (by decide)
  obtain ⟨v,at4,hv⟩:∃ v:Int,L2.atI [PV.int (-1),.int (n:Int),.int (-1 - f),.int ((n:Int)+f)] (c / 211 % 4)=some (.int v)/\(v < 0 ∨ (n:Int)<=v):=by
   obtain ⟨z,h1,h2⟩:=qL (a:=-1) (b:=(n:Int)) (c:=-1 - f) (d:=(n:Int)+f) j0 j1
   exact⟨z,h1,by rcases h2 with rfl | rfl | rfl | rfl <;> omega⟩
  refine⟨_,rfl,_,rfl,_,rfl,_,rfl,_,_,rfl,rfl,_,rfl,_,rfl,_,_,rfl,rfl,by show 4<=1000; decide,rfl,_,rfl,_,_,rfl,rfl,⟨by decide,by decide⟩,_,_,rfl,rfl,(by show (0:Int) < 4; decide),?_⟩
  refine⟨_,_,_,rfl,rfl,at4,_,rfl,_,rfl,_,_,rfl,rfl,⟨by decide,by decide⟩,_,rfl,_,_,rfl,rfl,by omega,(k1:Int),k1,congrArg PV.int ek1,by rw [b6]; exact S0 (by omega),trivial,?_⟩
  rw [S3]
  exact fin _ none (by rw [aV5]; omega) (aK6 (List.mem_set (by omega) v) hv)
 show if decide (c % 4=1)=true then _ else _
 by_cases h1:c % 4=1
 ·rw [aS3 h1]
  refine aX ⟨_,rfl,_,_,rfl,rfl,_,rfl,?_⟩
  show if decide ((n:Int) > 1)=true then _ else _
  by_cases hn:(n:Int) > 1
  ·rw [aS3 hn]
   refine aX ⟨_,rfl,_,_,rfl,rfl,⟨by decide,by decide⟩,_,rfl,_,_,rfl,rfl,by omega,trivial,?_⟩
   dsimp only
   rw [ek1]
   obtain ⟨k2,ek2,k2l⟩:∃ k2:Nat,c / 1681 % ((n:Int) - 1)=k2/\k2 < n - 1:=by
    have h0:0<=c / 1681 % ((n:Int) - 1):=aT6 _ (by omega)
    have h1:c / 1681 % ((n:Int) - 1) < (n:Int) - 1:=aU0 _ (by omega)
    exact⟨(c / 1681 % ((n:Int) - 1)).toNat,by omega,by omega⟩
   obtain ⟨k3,ek3,k3l⟩:=lU (c:=(k1:Int)+1+(k2:Int)) n0
   have ne:k1 ≠ k3:=fun z=>by
    have h4:((k1:Int)+1+(k2:Int))=(n:Int) * (((k1:Int)+1+(k2:Int)) / (n:Int))+(k3:Int):=by rw [<- ek3]; exact (Int.mul_ediv_add_emod _ _).symm
    have h5:(n:Int) * (((k1:Int)+1+(k2:Int)) / (n:Int))=1+(k2:Int):=by omega
    generalize ((k1:Int)+1+(k2:Int)) / (n:Int)=m at h5
    have h7:0 < m:=by
     rcases Int.lt_or_le 0 m with h | h
     ·exact h
     ·have:=Int.mul_le_mul_of_nonneg_left h (show (0:Int)<=n by omega)
      rw [Int.mul_zero] at this; omega
    have h8:(n:Int) * 1<=(n:Int) * m:=Int.mul_le_mul_of_nonneg_left (by omega) (by omega)
    omega
   have k3R:k3 < R.length:=by omega
   have at3:L2.atI (intz R) (k3:Int)=some (.int (R.getD k3 0)):=nL (h:=(k3:Int)) (by omega) (by omega)
   have get3:R[k3]? = some (R.getD k3 0):=by rw [aR7,aQ7 k3R]; rfl
   refine⟨_,rfl,_,rfl,_,_,rfl,rfl,_,rfl,_,_,rfl,rfl,⟨by decide,by decide⟩,_,rfl,_,_,rfl,rfl,_,_,rfl,rfl,by omega,_,_,rfl,rfl,_,rfl,_,_,rfl,rfl,by omega,?_⟩
   refine⟨intz R,(k3:Int),.int (R.getD k3 0),rfl,congrArg PV.int (by rw [ek2]; exact ek3),at3,_,rfl,_,rfl,(k1:Int),k1,rfl,by rw [b6]; exact S0 (by omega),rfl,?_⟩
   rw [S3]
   exact fin _ (some (.sh true (.int (k1:Int)))) (by rw [aV5]; omega) (aK7 (i:=k1) (j:=k3) (aW7 (by omega)) (by rw [aS7 ne]; exact get3) ne)
  ·rw [aR5 hn]
   refine aV ?_
   refine⟨_,rfl,_,_,rfl,rfl,(by show (0:Int) < 4; decide),.inl ⟨_,_,rfl,rfl,_,rfl,?_⟩⟩
   show if decide (c % 4=2)=true then _ else _
   rw [aR5 (by omega)]
   exact aV last
 rw [aR5 h1]
 refine aV (aV ?_)
 refine⟨_,rfl,_,_,rfl,rfl,(by show (0:Int) < 4; decide),.inl ⟨_,_,rfl,rfl,_,rfl,?_⟩⟩
 show if decide (c % 4=2)=true then _ else _
 by_cases h2:c % 4=2
 ·rw [aS3 h2]
  obtain ⟨k4,ek4,k4l⟩:=lU (c:=c / 41) (n:=n+1) (by omega)
  have j0:0<=c / 211 % 3:=aT6 _ (by decide)
  have j1:c / 211 % 3 < 3:=aU0 _ (by decide)
  obtain ⟨v,at3⟩:∃ v:Int,L2.atI [PV.int 0,.int (n:Int),.int f] (c / 211 % 3)=some (.int v):=by
   generalize c / 211 % 3=j at j0 j1
   rcases (show j=0 ∨ j=1 ∨ j=2 by omega) with rfl | rfl | rfl
   ·exact⟨_,rfl⟩
   ·exact⟨_,rfl⟩
   ·exact⟨_,rfl⟩
  refine aX ⟨_,rfl,_,rfl,_,_,rfl,rfl,⟨by decide,by decide⟩,_,rfl,_,_,rfl,rfl,_,_,rfl,rfl,by omega,k4,congrArg PV.int (by rw [<- ek4]; rfl),by rw [b6]; omega,by rw [b6]; omega,?_⟩
  refine⟨_,rfl,_,rfl,by show 3<=1000; decide,rfl,_,rfl,_,_,rfl,rfl,⟨by decide,by decide⟩,_,_,rfl,rfl,(by show (0:Int) < 3; decide),_,_,_,rfl,rfl,at3,trivial,?_⟩
  have e:(intz R).take k4 ++ PV.int v :: (intz R).drop k4=intz (R.take k4 ++ v :: R.drop k4):=by
   rw [dS]
   show (List.map PV.int R).take k4 ++ PV.int v :: (List.map PV.int R).drop k4=List.map PV.int _ ++ PV.int v :: List.map PV.int _
   rw [List.map_take,List.map_drop]
  rw [e]
  have ll:(R.take k4 ++ v :: R.drop k4).length=n+1:=by
   rw [aR3,aT9,aU5,aU6]; omega
  exact fin _ none (by omega) (vW (by omega))
 ·rw [aR5 h2]
  exact aV last
theorem aL0 {n:Nat}{A B:List Int}{x:Int} (h:x ∈ A ++ B):bW n (A ++ [x] ++ B)=false:=by
 cases hs:bW n (A ++ [x] ++ B) with
 | false=>rfl
 | true=>
  have nd:(A ++ [x] ++ B).Nodup:=(lF (jA hs).1).imp fun {a b} h=>by omega
  rw [aZ1] at nd
  obtain ⟨h1,h2,h3⟩:=nd
  rw [aZ1] at h1
  rcases aU2.mp h with h | h
  ·exact absurd rfl (h1.2.2 x h x aS0)
  ·exact absurd rfl (h3 x (aU2.mpr (.inr aS0)) x h)
theorem S4 {S:List Int}{k:Nat}{x:Int}{ρ:bE}{ga gb:Tg}{g g':Bool}{Qz:PK} (sl:S.length<=40) (h0:ρ[0]? = some (some (.sh g (.tup (intz S))))) (h3:ρ[3]? = some (some (.sh g' (.int (k:Int))))) (hq:Qz (.tup (intz (S.take k ++ [x] ++ S.drop k))) .fr) :
  nS (.tup (eD (intz S) none (some (k:Int)))) ga (.tup [.int x]) gb fun z gz=>(fK (a5 0) (fJ (a5 3)) fI) ρ fun y g'=>nS z gz y g' Qz:=by
 rw [P0 _ (by omega),aY0]
 refine⟨_,_,rfl,rfl,c7 _,rfl,by rw [b6,aU5]; show _+1<=_; omega,_,h0,_,h3,_,rfl,_,rfl,c7 _,?_⟩
 show nS (.tup (intz (S.take k) ++ intz [x])) _ (.tup (eD (intz S) (some (k:Int)) none)) _ _
 rw [v4 _ (by omega),aY0]
 refine⟨_,_,rfl,rfl,?_,c7 _,?_,?_⟩
 ·rw [<- dS]; exact c7 _
 ·rw [<- dS,b6,b6,aR3,aU5,aU6]
  show min k S.length+1+_<=_
  omega
 ·rw [<- dS,<- dS]
  exact hq
def rG:bJ:=fun xs Q=>∃ (S:List Int) (n:Nat) (c:Int),xs = [.tup (intz S),.int n,.int c]/\bW n S=true/\n<=40/\∀ B:List Int,B.length<=41->bW n B=false->Q (.tup (intz B))
def S5:aO:=(aG (bG (jT (aS (dB (aU (a5 2) (qC (.int 4))) (qC (.int 0)))) (aS (nD (aE eQ (a6 (a5 0) a9)) (qC (.int 0))))) (b4 (kF (kF (fK (a5 0) fI (fJ (a5 3))) (cD (a6 (bK (a5 0) (aU (bB (a5 2) (qC (.int 211))) (aE eQ (a6 (a5 0) a9)))) a9))) (fK (a5 0) (fJ (a5 3)) fI))) bM)
 (b4 (kF (kF (fK (a5 0) fI (fJ (a5 3))) (cD (a6 (bK (cH (a6 (iH (qC (.int 1))) (a6 (a5 1) (a6 (jZ (iH (qC (.int 1))) (a5 4)) (a6 (eF (a5 1) (a5 4)) a9))))) (aU (bB (a5 2) (qC (.int 211))) (qC (.int 4)))) a9))) (fK (a5 0) (fJ (a5 3)) fI))))
def S6:aO:=(aG (aY 3 (aU (bB (a5 2) (qC (.int 4))) (eF (aE eQ (a6 (a5 0) a9)) (qC (.int 1)))))
 (aG (aY 4 (aU (bB (a5 2) (qC (.int 1009))) (u9 (qC (.int 10)) (qC (.int 30)))))
 S5))
theorem aL1:cP S6 ["seeds","many","cell","spot","far"] rG:=by
 rintro xs Q ⟨S,n,c,rfl,hs,n1,q⟩
 have sl:=uW hs
 refine⟨_,rfl,_,_,rfl,rfl,⟨by decide,by decide⟩,_,rfl,_,_,rfl,rfl,_,_,rfl,rfl,_,_,rfl,rfl,by omega,trivial,?_⟩
 dsimp only
 rw [b6]
 obtain ⟨k,ek,kl⟩:=lU (c:=c / 4) (n:=S.length+1) (by omega)
 have ek:c / 4 % ((S.length:Int)+1)=k:=ek
 rw [ek]
 refine⟨_,rfl,_,_,rfl,rfl,⟨by decide,by decide⟩,_,_,rfl,rfl,⟨by decide,by decide,by decide⟩,_,_,rfl,rfl,(by show (0:Int) < 10 ^ (30:Int).toNat; decide),trivial,?_⟩
 dsimp only
 have f0:0<=c / 1009 % 10 ^ (30:Int).toNat:=aT6 _ (by decide)
 generalize c / 1009 % 10 ^ (30:Int).toNat=f at f0
 show S5 { nx:=fun _=>Q .non,rt:=Q } [some (.sh (flat (.tup (intz S))) (.tup (intz S))),some (.sh true (.int (n:Int))),some (.sh true (.int c)),some (.sh true (.int (k:Int))),some (.sh true (.int f))]
 have ln:∀ x:Int,(S.take k ++ [x] ++ S.drop k).length<=41:=fun x=>by
  rw [aR3,aR3,aU5,aU6]
  show min k S.length+1+_<=_
  omega
 have last:(b4 (kF (kF (fK (a5 0) fI (fJ (a5 3))) (cD (a6 (bK (cH (a6 (iH (qC (.int 1))) (a6 (a5 1) (a6 (jZ (iH (qC (.int 1))) (a5 4)) (a6 (eF (a5 1) (a5 4)) a9))))) (aU (bB (a5 2) (qC (.int 211))) (qC (.int 4)))) a9))) (fK (a5 0) (fJ (a5 3)) fI))) { nx:=fun _=>Q .non,rt:=Q } [some (.sh (flat (.tup (intz S))) (.tup (intz S))),some (.sh true (.int (n:Int))),some (.sh true (.int c)),some (.sh true (.int (k:Int))),some (.sh true (.int f))]:=by
  have j0:0<=c / 211 % 4:=aT6 _ (by decide)
  have j1:c / 211 % 4 < 4:=aU0 _ (by decide)
  obtain ⟨v,at4,hv⟩:∃ v:Int,L2.atI [PV.int (-1),.int (n:Int),.int (-1 - f),.int ((n:Int)+f)] (c / 211 % 4)=some (.int v)/\(v < 0 ∨ (n:Int)<=v):=by
   obtain ⟨z,h1,h2⟩:=qL (a:=-1) (b:=(n:Int)) (c:=-1 - f) (d:=(n:Int)+f) j0 j1
   exact⟨z,h1,by rcases h2 with rfl | rfl | rfl | rfl <;> omega⟩
  have b1:bW n (S.take k ++ [v] ++ S.drop k)=false:=aI8 (x:=v) (by simp) hv
  refine⟨_,rfl,_,rfl,_,rfl,_,rfl,c7 _,_,rfl,_,rfl,_,rfl,_,rfl,_,_,rfl,rfl,_,rfl,_,rfl,_,_,rfl,rfl,by show 4<=1000; decide,rfl,_,rfl,_,_,rfl,rfl,⟨by decide,by decide⟩,_,_,rfl,rfl,(by show (0:Int) < 4; decide),_,_,_,rfl,rfl,at4,by show 1<=1000; decide,rfl,?_⟩
  exact S4 (ρ:=[some (.sh (flat (.tup (intz S))) (.tup (intz S))),some (.sh true (.int (n:Int))),some (.sh true (.int c)),some (.sh true (.int (k:Int))),some (.sh true (.int f))]) (by omega) rfl rfl ⟨trivial,q _ (ln v) b1⟩
 refine⟨_,rfl,_,_,rfl,rfl,(by show (0:Int) < 4; decide),.inl ⟨_,_,rfl,rfl,_,rfl,?_⟩⟩
 show if decide (c % 4=0)=true then _ else _
 by_cases h0:c % 4=0
 ·rw [aS3 h0]
  refine aX ⟨_,rfl,_,_,rfl,rfl,_,_,rfl,rfl,_,rfl,?_⟩
  show if decide (((intz S).length:Int) > 0)=true then _ else _
  rw [b6]
  by_cases s0:(S.length:Int) > 0
  ·rw [aS3 s0]
   obtain ⟨k1,ek1,k1l⟩:=lU (c:=c / 211) (n:=S.length) (by omega)
   have at1:L2.atI (intz S) (k1:Int)=some (.int (S.getD k1 0)):=nL (h:=(k1:Int)) (by omega) (by omega)
   have m1:S.getD k1 0 ∈ S.take k ++ S.drop k:=by
    rw [ba9,aR7,aQ7 k1l]
    exact aZ8 k1l
   refine aX ⟨_,rfl,_,rfl,_,rfl,_,rfl,c7 _,_,rfl,_,rfl,_,_,rfl,rfl,⟨by decide,by decide⟩,_,rfl,_,_,rfl,rfl,_,_,rfl,rfl,by rw [b6]; omega,intz S,(k1:Int),.int (S.getD k1 0),rfl,congrArg PV.int (by rw [b6]; exact ek1),at1,by show 1<=1000; decide,rfl,?_⟩
   exact S4 (ρ:=[some (.sh (flat (.tup (intz S))) (.tup (intz S))),some (.sh true (.int (n:Int))),some (.sh true (.int c)),some (.sh true (.int (k:Int))),some (.sh true (.int f))]) (by omega) rfl rfl ⟨trivial,q _ (ln _) (aL0 m1)⟩
  ·rw [aR5 s0]
   exact aV last
 ·rw [aR5 h0]
  exact aV (aV last)
def vX:bJ:=L9
def S7:aO:=(aG (cN (eR (vU (a6 (a5 5) (a6 (nN (a5 2)) a9)))) (bZ 7)
  (bG (aS (q2 (hV true) (aE hZ (a6 (qC (.int 0)) (a6 (a5 1) (a6 (a5 6) (a6 (a5 7) a9))))) (qC (.str "set")))) (b4 (qC (.bl false))) bM))
 (aG (cN (mX (qC (.int 1)) (qC (.int 6))) (bZ 8)
  (bG (kY (aS (q2 (hV true) (aE hZ (a6 (a5 8) (a6 (a5 1) (a6 (a5 6) (a6 (cH a9) a9))))) (qC (.str "set")))) (aS (q2 (hV true) (aE hZ (a6 (a5 8) (a6 (a5 1) (a6 (aE pA (a6 (a5 6) a9)) (a6 (cH a9) a9))))) (qC (.str "set"))))) (b4 (qC (.bl false))) bM))
 (b4 (qC (.bl true)))))
def S8:aO:=(aG (aY 3 (aE qN (a6 (a5 0) (a6 (qC (.int 1)) (a6 (a5 2) a9)))))
 (aG (aY 4 (aU (aE dU (a6 (a5 0) (a6 (qC (.int 2)) a9))) (u9 (qC (.int 10)) (qC (.int 60)))))
 (aG (aY 5 (aE rF (a6 (a5 2) (a6 (a5 4) a9))))
 (aG (aY 6 (aE rG (a6 (a5 3) (a6 (a5 2) (a6 (bB (a5 4) (qC (.int 7))) a9)))))
 (aG (bG (aS (q2 (hV true) (aE hZ (a6 (qC (.int 0)) (a6 (a5 1) (a6 (a5 3) (a6 (a5 5) a9))))) (qC (.str "order")))) (b4 (qC (.bl false))) bM)
 (aG (bG (aS (q2 (hV true) (aE hZ (a6 (qC (.int 0)) (a6 (a5 1) (a6 (aE pA (a6 (a5 3) a9)) (a6 (aE dJ (a6 (a5 5) a9)) a9))))) (qC (.str "order")))) (b4 (qC (.bl false))) bM)
 S7))))))
def S9:aO:=(aG (aY 1 (aE qM (a6 (a5 0) (a6 (qC (.int 3)) a9))))
 (aG (aY 2 (aE eQ (a6 (bK (a5 1) (qC (.int 0))) a9)))
 (aG (bG (kY (aS (q2 (hV true) (aE hZ (a6 (qC (.int 0)) (a6 (cD (a6 (cD a9) (a6 (cD a9) a9))) (a6 (cD a9) (a6 (cH (a6 (qC (.int 0)) a9)) a9))))) (qC (.str "order")))) (aS (q2 (hV true) (aE hZ (a6 (qC (.int 1)) (a6 (cD (a6 (cD a9) (a6 (cD a9) a9))) (a6 (cD (a6 (qC (.int 0)) a9)) (a6 (cH a9) a9))))) (qC (.str "set"))))) (b4 (qC (.bl false))) bM)
 (aG (bG (aS (dB (a5 2) (qC (.int 0)))) (aG (aY 1 (cD (a6 (cD (a6 (qC (.int 1)) a9)) (a6 (cD a9) a9))))
  (aY 2 (qC (.int 1)))) bM)
 S8))))
theorem kL {s:Str}{A B:Prop} (h:B):hV true (.str s) .fr (.str s) .fr fun x _=>∃ b,x = .bl b/\if b=true then A else B:=by
 refine⟨s,s,rfl,rfl,_,rfl,?_⟩
 show if (!decide (s=s))=true then A else B
 rw [aS3 rfl]
 exact aV h
theorem aL2 {ns ws S B os:List Int}{ls:List (Int × Int)}{y0 y3 y4:Option Slot}{Q:PV->Prop} (wb:Wb ws ls) (lo:os.length < 64) (bl:B.length<=41) (hb:bW ws.length B=false) (q:Q (.bl true)) :
  S7 { nx:=fun _=>Q .non,rt:=Q } [y0,some (.sh true (bF ws ls)),si (ws.length:Nat),y3,y4,some (.sh true (.lst (intz os))),some (.sh true (.tup (intz B))),none,none]:=by
 have few:=wb.few
 refine⟨_,rfl,_,rfl,_,rfl,by omega,by omega,by show 2<=1000; decide,?_,_,rfl,(fun z=>by cases z),fun i ρ=>∃ y7:Option Slot,ρ = [y0,some (.sh true (bF ws ls)),si (ws.length:Nat),y3,y4,some (.sh true (.lst (intz os))),some (.sh true (.tup (intz B))),y7,none],⟨none,rfl⟩,?_,?_⟩
 ·intro p hp
  rcases aR2.mp hp with rfl | hp
  ·trivial
  ·rw [aS4] at hp; rw [hp]; trivial
 ·rintro i y ρ hy ⟨y7,rfl⟩
  have hy : [PV.lst (intz os),.lst (dP 0 (ws.length:Int).toNat)][i]? = some y:=hy
  obtain ⟨us,rfl,ul⟩:∃ us:List Int,y = .lst (intz us)/\us.length < 64:=by
   rw [lK,aY0] at hy
   match i,hy with
   | 0,hy=>cases hy; exact⟨_,rfl,lo⟩
   | 1,hy=>cases hy; exact⟨_,rfl,by rw [lG]; omega⟩
   | i+2,hy=>cases hy
  refine⟨_,rfl,_,rfl,_,rfl,0,ws,ls,_,B,_,us,rfl,wb,.inl rfl,by omega,.inr rfl,ul,.inl ⟨by decide,by decide,hb,?_⟩⟩
  exact kL ⟨_,rfl⟩
 rintro ρ ⟨y7,rfl⟩
 refine⟨1,6,rfl,rfl,⟨by decide,by decide,by decide,by decide⟩,fun i ρ=>∃ y8:Option Slot,ρ = [y0,some (.sh true (bF ws ls)),si (ws.length:Nat),y3,y4,some (.sh true (.lst (intz os))),some (.sh true (.tup (intz B))),y7,y8],⟨none,rfl⟩,?_,?_⟩
 ·rintro i y ρ hy ⟨y8,rfl⟩
  obtain ⟨rfl,hi⟩:=gY hy
  have hi:i < 5:=hi
  refine aD7 ?_
  refine⟨_,rfl,_,rfl,_,rfl,by decide,rfl,1+(i:Int),ws,ls,_,B,_,[],rfl,wb,.inl rfl,by omega,.inr rfl,by decide,.inl ⟨by omega,by omega,hb,?_⟩⟩
  refine kL ?_
  refine⟨_,rfl,_,rfl,_,rfl,_,_,rfl,rfl,c7 _,by decide,rfl,1+(i:Int),ws,ls,_,B,_,[],rfl,wb,.inr rfl,by omega,.inr rfl,by decide,.inl ⟨by omega,by omega,hb,?_⟩⟩
  exact kL ⟨_,rfl⟩
 ·rintro ρ ⟨y8,rfl⟩
  exact⟨trivial,q⟩
theorem T0 {ns ws:List Int}{ls:List (Int × Int)}{Q:PV->Prop} (wb:Wb ws ls) (w0:0 < ws.length) (q:Q (.bl true)) :
  S8 { nx:=fun _=>Q .non,rt:=Q } [some (.sh (flat (.scr ns)) (.scr ns)),some (.sh true (bF ws ls)),si (ws.length:Nat),none,none,none,none,none,none]:=by
 have few:=wb.few
 refine⟨_,rfl,_,rfl,_,ns,1,ws.length,rfl,.inl rfl,by decide,by omega,by omega,fun S hS=>⟨trivial,?_⟩⟩
 have hs:=hS.set
 have sl:=uW hs
 refine⟨_,rfl,_,ns,2,rfl,.inl rfl,by decide,_,_,rfl,rfl,⟨by decide,by decide,by decide⟩,_,_,rfl,rfl,(by show (0:Int) < 10 ^ (60:Int).toNat; decide),trivial,?_⟩
 dsimp only
 have c0:0<=ns.getD (2:Int).toNat 0 % 10 ^ (60:Int).toNat:=aT6 _ (by decide)
 generalize ns.getD (2:Int).toNat 0 % 10 ^ (60:Int).toNat=c at c0
 refine⟨_,rfl,_,rfl,ws.length,c,rfl,w0,few,c0,fun os lo po=>⟨trivial,?_⟩⟩
 refine⟨_,rfl,_,rfl,_,rfl,_,_,rfl,rfl,⟨by decide,by decide⟩,S,ws.length,_,rfl,hs,few,fun B bl hb=>⟨trivial,?_⟩⟩
 refine⟨_,rfl,_,rfl,_,rfl,0,ws,ls,_,S,_,os,rfl,wb,.inl rfl,by omega,.inr rfl,lo,.inr ⟨rfl,hs,po,?_⟩⟩
 refine kL ?_
 refine⟨_,rfl,_,rfl,_,_,rfl,rfl,c7 _,_,rfl,⟨_,_,rfl,rfl,c7 _,?_⟩,fun _ z=>by cases z⟩
 refine⟨0,ws,ls,_,S,_,os,rfl,wb,.inr rfl,by omega,.inl rfl,lo,.inr ⟨rfl,hs,po,?_⟩⟩
 refine kL ?_
 exact aL2 (ns:=ns) (S:=S) wb lo bl hb q
theorem T1:Wb [] []:=⟨by decide,by decide,fun l hl=>by cases hl⟩
theorem aL3:Wb [1] []:=⟨by decide,by decide,fun l hl=>by cases hl⟩
theorem aL4:cP S9 ["script","web","many","seeds","cell","order","bad","some","way"] vX:=by
 rintro xs Q ⟨ns,rfl,hl,q⟩
 refine⟨_,rfl,ns,3,rfl,hl,by decide,fun n ws ls n0 n1 w=>⟨trivial,?_⟩⟩
 have wb:Wb ws ls:=w.wb (by omega)
 refine⟨_,rfl,_,_,_,rfl,rfl,rfl,_,_,rfl,rfl,trivial,?_⟩
 rw [b6]
 refine⟨by decide,rfl,by decide,rfl,by show 2<=1000; decide,rfl,by decide,rfl,by show 1<=1000; decide,rfl,0,[],[],_,[],_,[0],rfl,T1,.inl rfl,by decide,.inr rfl,by decide,.inr ⟨rfl,by decide,vW (by decide),?_⟩⟩
 refine kL ?_
 refine⟨by decide,rfl,by decide,rfl,by show 2<=1000; decide,rfl,by show 1<=1000; decide,rfl,by decide,rfl,1,[],[],_,[0],_,[],rfl,T1,.inl rfl,by decide,.inr rfl,by decide,.inl ⟨by decide,by decide,by decide,?_⟩⟩
 refine kL ?_
 refine⟨_,rfl,.inl ⟨_,_,rfl,rfl,_,rfl,?_⟩⟩
 show if decide ((ws.length:Int)=0)=true then _ else _
 by_cases z:(ws.length:Int)=0
 ·rw [aS3 z]
  refine aX ⟨by show 1<=1000; decide,rfl,by decide,rfl,by show 2<=1000; decide,rfl,trivial,trivial,?_⟩
  exact T0 (ws:=[1]) (ls:=[]) aL3 (by decide) q
 ·rw [aR5 z]
  exact aV (T0 wb (by omega) q)
end Core
namespace K_k12
open PySem PySem.W L2 PP Core
theorem _root_.L2.FnScope.au {N P:List Str}{s:Scope} (a:s.kind=.function:=by rfl) (b:s.isCoroutine=false:=by rfl) (c:s.isGenerator=false:=by rfl) (d:N.Nodup:=by decide +kernel) (e:N.take P.length=P:=by rfl) (f:∀ x∈P,s.names.lookup x=some .local∨s.names.lookup x=some .cell:=by decide +kernel) (g:∀ y∈s.names,y.2≠.free:=by decide +kernel):FnScope N P s:=⟨a,b,c,d,e,f,g⟩
def aW (i:Nat):Stmt:=PySem.Challenge.pw_kindleweb_k12_orders_and_sets_refused.main.body.getD i (.Pass ⟨0,0,0,0⟩)
structure FK (K:Frag) (n:Str) (i:Nat) (f:Addr) (d:FuncData):Prop where
 a:nsIn K mainGlobals n=some (some (.ref f))
 F:e9 K n n (aW i) f d
structure FM (K:Frag) (mg:Str->Option Value) (n:Str) (i:Nat) (f:Addr) (d:FuncData):Prop where
 F:e9 K n n (aW i) f d
 m:mg n=some (.ref f)
theorem FK.M {K:Frag}{mg:Str->Option Value}{n:Str}{i:Nat}{f:Addr}{d:FuncData}{h:Heap} (z:FK K n i f d) (X:K.In h) (G:h.Ns mainGlobals mg):FM K mg n i f d:=⟨z.F,mg_of X G z.a⟩
abbrev Hb (x:Str) (ps:List Str) (i:Nat):Prop:=∀ (kV doc pm:Value) (an:Option Addr) (cdv ct:Value) (us:List Value),us.length=ps.length->bindArgs (fnOf x x (iA (aW i)) (dO (aW i)) (aT (aW i)) .none kV doc pm an cdv ct) ⟨us,[]⟩=pure (ps.zip us)
theorem T2 {A:Around}{k:Nat} (hr:bY k A):A.units+3 < cLine:=by have:=hr.units; omega
section
variable {P : Program} {w : World} {K : Frag} {mg : Str → Option Value} {base : Heap} {f : Addr} {fd : FuncData} {k i : Nat} {x : Str} {ps N : List Str}
theorem Df.au {p:bJ} (F:FM K mg x i f fd) (S:FnScope N ps (aT (aW i))) (body:∀ (cdv:Value) (A:Around) (outer:List Env) (s:Shared) (H:Hp) (E:XK),bY k (A.deeper (PyProof.Rows.envOfC x (aT (aW i)) s.heap.objs.size f cdv))->∃ t,dQ (cS dC P w K mg base N x (aT (aW i)) f cdv A outer s H E).nox (dO (aW i)) t/\∀ xs Q,p xs Q->t { nx:=fun _=>Q .non,rt:=Q } (eV N xs)) (hb:Hb x ps i:=by intro _ _ _ _ _ _ us hl; first | (obtain ⟨_,rfl⟩:=nY hl; rfl) | (obtain ⟨_,_,rfl⟩:=vM hl; rfl) | (obtain ⟨_,_,_,rfl⟩:=vN hl; rfl) | (obtain ⟨_,_,_,_,rfl⟩:=vO hl; rfl) | (obtain ⟨_,_,_,_,_,rfl⟩:=P3 hl; rfl)) (len:∀ xs Q,p xs Q->xs.length=ps.length:=by intro xs Q h; repeat (first | (obtain ⟨rfl,_⟩:=h; rfl) | (obtain ⟨_,h⟩:=h))):Df P w K mg base (k+1) x ps p:=
 Df.of F.F F.m S hb len body
theorem bH.au {p:cX} (F:FM K mg x i f fd) (S:FnScope N ps (aT (aW i))) (t:(Str->Prop)->aO) (rd:∀ Ep xs Q,p Ep xs Q->t Ep { nx:=fun _=>Q .non,rt:=Q } (eV N xs)) (body:∀ (cdv:Value) (A:Around) (outer:List Env) (s:Shared) (H:Hp) (E:XK) (Ep:Str->Prop),bY k (A.deeper (PyProof.Rows.envOfC x (aT (aW i)) s.heap.objs.size f cdv))->lE (cS (dE P w) P w K mg base N x (aT (aW i)) f cdv A outer s H E) (EX K H Ep)->dQ (cS (dE P w) P w K mg base N x (aT (aW i)) f cdv A outer s H E) (dO (aW i)) (t Ep)) (hb:Hb x ps i:=by intro _ _ _ _ _ _ us hl; first | (obtain ⟨_,rfl⟩:=nY hl; rfl) | (obtain ⟨_,_,rfl⟩:=vM hl; rfl) | (obtain ⟨_,_,_,rfl⟩:=vN hl; rfl) | (obtain ⟨_,_,_,_,rfl⟩:=vO hl; rfl) | (obtain ⟨_,_,_,_,_,rfl⟩:=P3 hl; rfl)) (len:∀ Ep xs Q,p Ep xs Q->xs.length=ps.length:=by intro Ep xs Q h; repeat (first | (obtain ⟨rfl,_⟩:=h; rfl) | (obtain ⟨_,h⟩:=h))):bH P w K mg base (k+1) x ps p:=
 bH.of F.F F.m S hb t len rd body
end
section
variable {P : Program} {w : World} {K : Frag} {mg : Str → Option Value} {base : Heap} {f : Addr} {fd : FuncData}
theorem nd2:(["ahead","behind"]:List Str).Nodup:=by decide +kernel
abbrev T3:Stmt:=aW 6
theorem scR:FnScope ["things"] ["things"] (aT T3):=.au
theorem vY {ns:List Int}{i:Nat}{x y:V} (h1:(ns.map V.int)[i]? = some x) (h2:((ns.map V.int).drop 1)[i]? = some y):∃ p q:Int,x = .int p/\y = .int q/\(ns.zip (ns.drop 1))[i]? = some (p,q):=by
 rw [aS5] at h1
 rw [<- List.map_drop,aS5] at h2
 cases e1:ns[i]? with
 | none=>rw [e1] at h1; cases h1
 | some p=>
  cases e2:(ns.drop 1)[i]? with
  | none=>rw [e2] at h2; cases h2
  | some q=>
   rw [e1] at h1; rw [e2] at h2
   exact⟨p,q,(aT2 h1).symm,(aT2 h2).symm,List.getElem?_zip_eq_some.mpr ⟨e1,e2⟩⟩
theorem aL5 (B:Bt mg) (F:e9 K "rises" "rises" T3 f fd):cL P w K mg base dC 1 f fd ["things"] (K3 K):=by
 refine F.ok scR (fun vs H Q E h=>?_) (fun cdv A outer s H vs Q E hr h=>?_)
 ·obtain ⟨a,ns,rfl,_⟩:=h
  rfl
 obtain ⟨a,ns,rfl,hS,hn,q⟩:=h
 have lz:((ns.map V.int).drop 1).length<=sizeLine:=aV0 (gD (by rw [aU6,aR1]; omega))
 have lz2:((ns.map V.int).drop 1).length<=(ns.map V.int).length:=by rw [aU6]; omega
 have lz3:(ns.zip (ns.drop 1)).length=((ns.map V.int).drop 1).length:=by rw [List.length_zip,aU6,aU6,aR1]; omega
 rcases hS with hS | hS
 ·refine⟨_,lZ (m3 (oD (tN rfl) rfl B.all PyProof.Rows.boot_all (cK (yO (N:=["ahead","behind"]) (fr:=[none,none]) rfl (cV.of rfl rfl) (ak7 rfl B.zip (cK (pv 0) (cK (sF zO (pv 0) (sE lX) sD) cZ)))
   ⟨fun _ _ _ _=>show PG _ _ (jJ K 2 (fB (cR 0) (fB (cR 1) jI))) from m6 rfl (gO (fA (i:=0) nd2 rfl (Or.inl rfl) (.inr rfl)) (gO (fA (i:=1) nd2 rfl (Or.inl rfl) (.inr rfl)) m5)),fun _ _ _ _=>oK,fun _ _ _ _=>rW oB (pv 0) (pv 1) (dY _)⟩) cZ))),?_⟩
  refine⟨_,rfl,_,rfl,1,rfl,a,_,rfl,hS,fun p hp=>?_,fun e=>?_⟩
  ·have s1:=b7 hp (.tup (dG (ns.map V.int) (some 1) none))
   have hb:aJ K (upd H p (.tup (dG (ns.map V.int) (some 1) none))) p ((ns.map V.int).drop 1):=aJ.of (by rw [b8,tQ])
   refine⟨a,p,_,_,rfl,s1.tup hS,hb,tP (zN (s1.tup hS) hb lz2) (fun i acc _=>acc=((ns.zip (ns.drop 1)).take i).map fun (p:Int × Int)=>V.bl (decide (p.1 < p.2))) lz (fun _ _=>rfl) (fun _ _ _ _ _ h=>h) (fun i x acc D H' hi hR c hP=>?_) (fun D acc H' hD sm hDa hlen hP=>?_)⟩
   ·obtain ⟨T,x1,y1,rfl,hT,h1,h2⟩:=hR
    obtain ⟨m,k,rfl,rfl,hz⟩:=vY h1 h2
    refine⟨T,_,rfl,aJ.of hT,rfl,_,_,rfl,_,_,rfl,rfl,((Wk.refl _).set (i:=0) rfl).set (i:=1) rfl,oT ⟨_,rfl,_,rfl,_,_,rfl,rfl,c.yes (aC.refl _) ?_⟩⟩
    rw [nJ hz,hP]
   ·refine⟨D,(ns.zip (ns.drop 1)).map fun (p:Int × Int)=>decide (p.1 < p.2),rfl,aM.of ?_,q _ (s1.trans sm)⟩
    rw [hDa,hP,<- lz3,aV3,aY8]; rfl
  ·have hb:aJ K H a ((ns.map V.int).drop 1):=by
    have:(ns.map V.int).drop 1=ns.map V.int:=by rw [<- tQ]; exact e
    rw [this]; exact hS
   refine⟨a,a,_,_,rfl,hS,hb,tP (zN hS hb lz2) (fun i acc _=>acc=((ns.zip (ns.drop 1)).take i).map fun (p:Int × Int)=>V.bl (decide (p.1 < p.2))) lz (fun _ _=>rfl) (fun _ _ _ _ _ h=>h) (fun i x acc D H' hi hR c hP=>?_) (fun D acc H' hD sm hDa hlen hP=>?_)⟩
   ·obtain ⟨T,x1,y1,rfl,hT,h1,h2⟩:=hR
    obtain ⟨m,k,rfl,rfl,hz⟩:=vY h1 h2
    refine⟨T,_,rfl,aJ.of hT,rfl,_,_,rfl,_,_,rfl,rfl,((Wk.refl _).set (i:=0) rfl).set (i:=1) rfl,oT ⟨_,rfl,_,rfl,_,_,rfl,rfl,c.yes (aC.refl _) ?_⟩⟩
    rw [nJ hz,hP]
   ·refine⟨D,(ns.zip (ns.drop 1)).map fun (p:Int × Int)=>decide (p.1 < p.2),rfl,aM.of ?_,q _ sm⟩
    rw [hDa,hP,<- lz3,aV3,aY8]; rfl
 ·refine⟨_,lZ (m3 (oD (tN rfl) rfl B.all PyProof.Rows.boot_all (cK (yO (N:=["ahead","behind"]) (fr:=[none,none]) rfl (cV.of rfl rfl) (al3 rfl B.zip (cK (pv 0) (cK (sF xQ (pv 0) (sE lX) sD) cZ)))
   ⟨fun _ _ _ _=>show PG _ _ (jJ K 2 (fB (cR 0) (fB (cR 1) jI))) from m6 rfl (gO (fA (i:=0) nd2 rfl (Or.inl rfl) (.inr rfl)) (gO (fA (i:=1) nd2 rfl (Or.inl rfl) (.inr rfl)) m5)),fun _ _ _ _=>oK,fun _ _ _ _=>rW oB (pv 0) (pv 1) (dY _)⟩) cZ))),?_⟩
  refine⟨_,rfl,_,rfl,1,rfl,a,_,rfl,hS,fun p hp=>?_⟩
  have s1:=b7 hp (.lst (dG (ns.map V.int) (some 1) none))
  have hb:aM K (upd H p (.lst (dG (ns.map V.int) (some 1) none))) p ((ns.map V.int).drop 1):=aM.of (by rw [b8,tQ])
  refine⟨a,p,_,_,rfl,s1.seq hS,hb,tP (al4 (s1.seq hS) hb lz2) (fun i acc _=>acc=((ns.zip (ns.drop 1)).take i).map fun (p:Int × Int)=>V.bl (decide (p.1 < p.2))) lz (fun _ _=>rfl) (fun _ _ _ _ _ h=>h) (fun i x acc D H' hi hR c hP=>?_) (fun D acc H' hD sm hDa hlen hP=>?_)⟩
  ·obtain ⟨T,x1,y1,rfl,hT,h1,h2⟩:=hR
   obtain ⟨m,k,rfl,rfl,hz⟩:=vY h1 h2
   refine⟨T,_,rfl,aJ.of hT,rfl,_,_,rfl,_,_,rfl,rfl,((Wk.refl _).set (i:=0) rfl).set (i:=1) rfl,oT ⟨_,rfl,_,rfl,_,_,rfl,rfl,c.yes (aC.refl _) ?_⟩⟩
   rw [nJ hz,hP]
  ·refine⟨D,(ns.zip (ns.drop 1)).map fun (p:Int × Int)=>decide (p.1 < p.2),rfl,aM.of ?_,q _ (s1.trans sm)⟩
   rw [hDa,hP,<- lz3,aV3,aY8]; rfl
abbrev T4:Stmt:=aW 8
theorem rH:FnScope ["web","around","one","other"] ["web"] (aT T4):=.au
theorem aL6 (F:e9 K "near_lists" "near_lists" T4 f fd):cL P w K mg base dC 1 f fd ["web"] K4:=by
 refine F.ok rH (fun vs H Q E h=>?_) (fun cdv A outer s H vs Q E hr h=>?_)
 ·obtain ⟨v,ws,ls,rfl,_⟩:=h
  rfl
 obtain ⟨v,ws,ls,rfl,W,hn,hm,hin,q⟩:=h
 refine⟨_,o7 (ai2 (i:=1) (N:=["want"]) (fr:=[none]) rfl (cV.of rfl rfl) (wM (mF sJ (pv 0) lX (fun _ _=>rfl)))
   ⟨fun _ _ _ _=>fA (i:=0) (aW0 _ _) rfl (Or.inl rfl) (.inr rfl),fun _ _ _ _=>oK,fun _ _ _ _=>sA cZ⟩ rH.nd rfl rfl rfl)
  (o7 (wR PassesOwn.never rfl (wM (mF sJ (pv 0) lX (fun _ _=>rfl))) (m6 (n:=2) rfl (gO (fA (i:=2) rH.nd rfl (Or.inl rfl) (.inr rfl)) (gO (fA (i:=3) rH.nd rfl (Or.inl rfl) (.inr rfl)) m5)) )
   (o7 (jG (jK aY3 PySem.F.slot_list_append PySem.F.type_list_append mH (mF sI (pv 1) (pv 2) (fun _ _=>rfl)) (cK (pv 3) cZ)))
   (lZ (jG (jK aY3 PySem.F.slot_list_append PySem.F.type_list_append mH (mF sI (pv 1) (pv 3) (fun _ _=>rfl)) (cK (pv 2) cZ))))))
  (lZ (m3 (pv 1)))),?_⟩
 obtain ⟨a,p,q',ys,rfl,ha,hp,hq,hL⟩:=W.at_
 have lw:(ws.map V.int).length=ws.length:=aR1 _
 refine⟨_,rfl,a,_,_,_,rfl,rfl,aJ.of ha,rfl,p,rfl,⟨_,aJ.of hp⟩,ai4 (ai3 (aJ.of hp)) (fun i acc H'=>∃ bs:List Addr,acc=bs.map V.ref/\bs.length=i/\bs.Nodup/\∀ b ∈ bs,H b=none/\H' b=some (.lst [])) (by rw [lw]; exact aV0 (mJ hn))
  (fun D hD=>⟨[],rfl,rfl,List.nodup_nil,fun _ z=>nomatch z⟩) (fun i x acc D H' hx c hPv=>?_) (fun D acc H' hD sm hDa hlen hPv=>?_)⟩
 ·obtain ⟨bs,rfl,hbl,nd,hb⟩:=hPv
  refine⟨wk0 (n:=none),oT ⟨aT7 _,fun r hr'=>?_⟩⟩
  have hrD:r ≠ D:=fun z=>by rw [z,c.acc] at hr'; cases hr'
  have hrH:H r=none:=c.same.free hr'
  refine c.yes (b7 hr' _) ⟨bs ++ [r],by simp,by simp [hbl],?_,fun b hm=>?_⟩
  ·refine aZ1.mpr ⟨nd,aW0 _ _,fun b hb1 b' hb2 e=>?_⟩
   rw [aS4.mp hb2] at e
   rw [e] at hb1
   rw [(hb r hb1).2] at hr'; cases hr'
  ·rcases aU2.mp hm with hm | hm
   ·have hbD:b ≠ D:=fun z=>by
     rw [z] at hm
     have:=(hb D hm).2
     rw [c.acc] at this
     have:bs.map V.ref = []:=by injection this with e1; injection e1
     have:bs = []:=List.map_eq_nil_iff.mp this
     rw [this] at hm; simp at hm
    refine⟨(hb b hm).1,?_⟩
    rw [aP hbD,aP (bX (hb b hm).2 hr')]
    exact (hb b hm).2
   ·rw [aS4.mp hm]
    exact⟨hrH,by rw [aP hrD,b8]⟩
 ·obtain ⟨bs,rfl,hbl,nd,hb⟩:=hPv
  rw [lw] at hbl
  have R0:iD H H' D bs (fun k=>cC (ls.take 0) k):=by
   refine⟨hD,fun b hm=>⟨(hb b hm).1,fun z=>?_⟩,nd,hDa,fun k b hk=>(hb b (aW8 hk)).2,sm⟩
   rw [z] at hm
   have:=(hb D hm).2
   rw [hDa] at this
   have:bs.map V.ref = []:=by injection this with e1; injection e1
   have:bs = []:=List.map_eq_nil_iff.mp this
   rw [this] at hm; simp at hm
  have lL:=hL.length
  refine⟨_,rfl,a,_,_,_,rfl,rfl,aJ.of (sm _ _ ha),rfl,q',rfl,⟨_,aJ.of (sm _ _ hq)⟩,Z8 (K:=K) (a:=q') (xs:=ys) (fun i σ H2=>∃ x y:Option V,σ = [some (.ref a),some (.ref D),x,y]/\iD H H2 D bs (fun k=>cC (ls.take i) k))
   ⟨none,none,rfl,R0⟩ (fun i σ H2 _ ⟨_,_,_,R⟩=>aJ.of (R.same _ _ hq)) ?_ ?_⟩
  ·rintro i y σ H2 hi ⟨x1,x2,rfl,R⟩
   obtain ⟨l,b,hl,rfl,hbt⟩:=hL.get hi
   have hlm:l ∈ ls:=aW8 hl
   obtain ⟨⟨h1,h2⟩,h3,h4⟩:=hin l hlm
   have k1:l.1.toNat < bs.length:=by omega
   have k2:l.2.toNat < bs.length:=by omega
   have e1:bs[l.1.toNat]? = some (bs[l.1.toNat]):=aQ7 k1
   have e2:bs[l.2.toNat]? = some (bs[l.2.toNat]):=aQ7 k2
   refine⟨b,_,rfl,aJ.of (R.same _ _ hbt),rfl,_,_,rfl,_,_,rfl,rfl,?_⟩
   refine⟨_,rfl,_,rfl,D,_,_,.ref bs[l.1.toNat],rfl,rfl,aM.of R.row,jQ h1 (by rw [aS5,e1]; rfl),jR (aM.of (R.rows _ _ e1)),_,rfl,_,_,_,rfl,rfl,R.rows _ _ e1,?_,?_⟩
   ·rw [aR1]
    have:=tJ (ls.take i) (l.1.toNat:Nat)
    rw [aU5] at this
    exact gD (by omega)
   ·have R1:=R.app e1 l.2
    refine⟨_,rfl,_,rfl,D,_,_,.ref bs[l.2.toNat],rfl,rfl,aM.of R1.row,jQ h3 (by rw [aS5,e2]; rfl),jR (aM.of (R1.rows _ _ e2)),_,rfl,_,_,_,rfl,rfl,R1.rows _ _ e2,?_,?_⟩
    ·rw [aR1]
     have:=tJ (ls.take i) (l.2.toNat:Nat)
     rw [aU5] at this
     split
     ·rw [aR3,aZ2]; exact gD (by omega)
     ·exact gD (by omega)
    ·have R2:=R1.app e2 l.1
     refine⟨_,_,rfl,R2.congr fun k hk=>?_⟩
     rw [aj9 hl]
     have c1:(k=l.1.toNat) ↔ l.1=(k:Int):=by omega
     have c2:(k=l.2.toNat) ↔ l.2=(k:Int):=by omega
     by_cases d1:k=l.1.toNat
     ·by_cases d2:k=l.2.toNat
      ·rw [if_pos d2,if_pos d1,if_pos (c1.mp d1),if_pos (c2.mp d2)]; simp
      ·rw [if_neg d2,if_pos d1,if_pos (c1.mp d1),if_neg (fun z=>d2 (c2.mpr z))]; simp
     ·by_cases d2:k=l.2.toNat
      ·rw [if_pos d2,if_neg d1,if_neg (fun z=>d1 (c1.mpr z)),if_pos (c2.mp d2)]; simp
      ·rw [if_neg d2,if_neg d1,if_neg (fun z=>d1 (c1.mpr z)),if_neg (fun z=>d2 (c2.mpr z))]; simp
  ·
   rintro σ H2 ⟨x1,x2,rfl,R⟩
   refine⟨_,rfl,q D bs H2 hbl ?_⟩
   rw [lL,aV3] at R
   exact R
theorem aL7:FnScope ["web"] ["web"] (aT (aW 7)):=.au
theorem aL8 (B:Bt mg) (F:FM K mg "hearths_in" 7 f fd)  : Df P w K mg base 1 "hearths_in" ["web"] eJ:=
 Df.au F aL7 (fun cdv A outer s H E hr=>by
  exact⟨(G1),(aN (bC (fY B (a7 (bV (qv 0) aB) aA)))),av6⟩)
theorem T5:FnScope ["hearths","inside","hearth"] ["hearths"] (aT (aW 13)):=.au
theorem aL9 (B:Bt mg) (F:FM K mg "marked" 13 f fd)  : Df P w K mg base 1 "marked" ["hearths"] kC:=
 Df.au F T5 (fun cdv A outer s H E hr=>by
  have nd:=T5.nd
  have hu:=jN hr
  exact⟨(G8),(aH (dR (i:=1) nd C1)
   (aH (eG 2 nd (gJ (qv 0))
    (aN (uG hu (i:=1) (qv 2) gW)))
   (aN (lC 1)))),aw1⟩)
theorem aM0:FnScope ["hearths","inside"] ["hearths","inside"] (aT (aW 14)):=.au
theorem aM1 (B:Bt mg) (F:FM K mg "count_inside" 14 f fd)  : Df P w K mg base 1 "count_inside" ["hearths","inside"] qD:=
 Df.au F aM0 (fun cdv A outer s H E hr=>by
  have hu:=jN hr
  exact⟨(G9),(aN (bC (fY B (a7 (pU (N:=["hearth","inside"]) (fr:=[none,some 1]) (gJ (qv 0)) (fun _ _ _ _=>(ar4 hu (qv 0) (qv 1))) (fun _ _ _ _=>(qv 0))) aA)))),aw2⟩)
theorem T6:FnScope ["web","around","ranks","hearth","rank","earlier","taken"] ["web","around","ranks","hearth"] (aT (aW 27)):=.au
theorem aM2 (B:Bt mg) (F:FM K mg "told_cause" 27 f fd) (cs:qR K mg):Df P w K mg base 1 "told_cause" ["web","around","ranks","hearth"] qS:=
 Df.au F T6 (fun cdv A outer s H E hr=>by
  have nd:=T6.nd
  have hu:=jN hr
  exact⟨(N9),(aH (bQ (ar5 hu (qv 3) (qv 2)) (aN (bC j3)) c9)
   (aH (b9 (i:=4) nd (C0 hu (qv 2) (qv 3)))
   (aH (bQ (dM (qv 4) aB) (aN (bC (N0 cs))) c9)
   (aH (b9 (i:=5) nd (v0 B (a7 (pU (N:=["other","rank","ranks"]) (fr:=[none,some 4,some 2]) (gJ (bV (qv 1) (qv 3))) (fun _ _ _ _=>(nF (aC9 hu (qv 2) (qv 0) (qv 1)) (qv 1))) (fun _ _ _ _=>(cO (a7 (C0 hu (qv 2) (qv 0)) (a7 (qv 0) aA))))) aA)))
   (aH (b9 (i:=6) nd (j8 (qv 5) j6 (j7 (bV (bV (qv 0) aB) (qv 3)))))
   (aN (bC (cO (a7 (qv 4) (a7 (fM B (a7 (as1 B (a7 (aC6 (N:=["turn","other"]) (fr:=[none,none]) (gJ (qv 6)) (fun _ _ _ _=>(qv 1))) aA)) aA)) aA)))))))))),aF5⟩)
theorem aM3:FnScope ["cause","rank"] ["cause","rank"] (aT (aW 30)):=.au
theorem aM4 (B:Bt mg) (F:FM K mg "is_earlier" 30 f fd)  : Df P w K mg base 1 "is_earlier" ["cause","rank"] qT:=
 Df.au F aM3 (fun cdv A outer s H E hr=>by
  exact⟨(O0),(aN (bC (nI (ar2 (qv 0) j3) (nH (uC (bV (qv 0) aB) (qv 1)))))),aF6⟩)
theorem aM5:FnScope ["script","k"] ["script","k"] (aT (aW 32)):=.au
theorem aM6 (B:Bt mg) (F:FM K mg "_law_cell_at" 32 f fd)  : Df P w K mg base 1 "_law_cell_at" ["script","k"] dU:=
 Df.au F aM5 (fun cdv A outer s H E hr=>by
  exact⟨(J5),(aH (bQ (nF (qv 1) (fY B (a7 (qv 0) aA))) (aN (bC (bV (qv 0) (qv 1)))) c9)
   (aN (bC aB))),aw7⟩)
theorem T7:FnScope ["wants_cell","links_cell","many","most","wants","k","links","one","other"] ["wants_cell","links_cell","many","most"] (aT (aW 33)):=.au
theorem aM7 (B:Bt mg) (F:FM K mg "_law_web_of_digits" 33 f fd)  : Df P w K mg base 1 "_law_web_of_digits" ["wants_cell","links_cell","many","most"] nO:=
 Df.au F T7 (fun cdv A outer s H E hr=>by
  have nd:=T7.nd
  exact⟨(J7),(aH (dR (i:=4) nd (dD aA))
   (aH (eG 5 nd (iK rfl B.range (qv 2))
    (aH (j5 4 (b5 (qv 0) (qv 3)))
    (aN (b9 (i:=0) nd (bU (qv 0) (qv 3))))))
   (aH (dR (i:=6) nd (dD aA))
   (aH (eG 7 nd (iK rfl B.range (qv 2))
    (aN (eG 8 nd (uH rfl B.range (fL (qv 7) aB) (qv 2))
     (aH (bQ (dM (b5 (qv 1) aB) aB) (aN (j5 6 (cO (a7 (qv 7) (a7 (qv 8) aA))))) c9)
     (aN (b9 (i:=1) nd (bU (qv 1) aB)))))))
   (aN (bC (cO (a7 (fM B (a7 (qv 4) aA)) (a7 (fM B (a7 (qv 6) aA)) aA))))))))),aw8⟩)
theorem T8:FnScope ["cell","many","left","row","k","number","links"] ["cell","many"] (aT (aW 34)):=.au
theorem aM8 (B:Bt mg) (F:FM K mg "_law_path" 34 f fd)  : Df P w K mg base 1 "_law_path" ["cell","many"] qJ:=
 Df.au F T8 (fun cdv A outer s H E hr=>by
  have nd:=T8.nd
  exact⟨(K7),(aH (dR (i:=2) nd (qG B (qv 1)))
   (aH (dR (i:=3) nd (dD aA))
   (aH (eG 4 nd (iK rfl B.range (qv 1))
    (aH (b9 (i:=5) nd (b5 (iJ (fL (fL (b5 (qv 0) aB) (iJ (qv 4) (qv 4))) aB) aB) aB))
    (aN (aA2 3 2 (b5 (bU (b5 (iJ (qv 5) (qv 5)) aB) aB) (fY B (a7 (qv 2) aA)))))))
   (aH (dR (i:=6) nd (dD aA))
   (aH (eG 4 nd (uH rfl B.range aB (qv 1))
    (aN (j5 6 (cO (a7 (C6 B rfl (a7 (bV (qv 3) (nE (qv 4) aB)) (a7 (bV (qv 3) (qv 4)) aA))) (a7 (C7 B rfl (a7 (bV (qv 3) (nE (qv 4) aB)) (a7 (bV (qv 3) (qv 4)) aA))) aA))))))
   (aN (bC (cO (a7 (ax5 (cO (a7 aB aA)) (qv 1)) (a7 (fM B (a7 (v0 B (a7 (qv 6) aA)) aA)) aA)))))))))),az0⟩)
theorem T9:FnScope ["many","cell","order","cut","far","at"] ["many","cell"] (aT (aW 38)):=.au
theorem aM9 (B:Bt mg) (F:FM K mg "_law_bad_order" 38 f fd)  : Df P w K mg base 1 "_law_bad_order" ["many","cell"] rF:=
 Df.au F T9 (fun cdv A outer s H E hr=>by
  have nd:=T9.nd
  exact⟨(R9),(aH (dR (i:=2) nd (qG B (qv 0)))
   (aH (b9 (i:=3) nd (b5 (bU (qv 1) aB) (qv 0)))
   (aH (dR (i:=2) nd (aA9 (j8 (qv 2) (j7 (qv 3)) j6) (j8 (qv 2) j6 (j7 (qv 3)))))
   (aH (b9 (i:=4) nd (b5 (bU (qv 1) aB) (uB aB aB)))
   (aH (bQ (dM (b5 (qv 1) aB) aB) (aN (aH8 2 (b5 (bU (qv 1) aB) (qv 0)))) (aN (bQ (k9 (pQ (dM (b5 (qv 1) aB) aB) (pP (pO (qv 0) aB)))) (aH (b9 (i:=5) nd (b5 (bU (qv 1) aB) (qv 0)))
     (aN (E5 (i:=2) (qv 5) (bV (qv 2) (b5 (fL (fL (qv 5) aB) (b5 (bU (qv 1) aB) (nE (qv 0) aB))) (qv 0)))))) (aN (bQ (dM (b5 (qv 1) aB) aB) (aN (aH2 2 (b5 (bU (qv 1) aB) (fL (qv 0) aB)) (bV (dD (a7 aB (a7 (qv 0) (a7 (qv 4) aA)))) (b5 (bU (qv 1) aB) aB)))) (aN (E5 (i:=2) (b5 (bU (qv 1) aB) (qv 0)) (bV (dD (a7 (pT aB) (a7 (qv 0) (a7 (nE (pT aB) (qv 4)) (a7 (fL (qv 0) (qv 4)) aA))))) (b5 (bU (qv 1) aB) aB)))))))))
   (aN (lC 2))))))),aK9⟩)
theorem U0:FnScope ["seeds","many","cell","spot","far"] ["seeds","many","cell"] (aT (aW 39)):=.au
theorem aN0 (B:Bt mg) (F:FM K mg "_law_bad_seeds" 39 f fd)  : Df P w K mg base 1 "_law_bad_seeds" ["seeds","many","cell"] rG:=
 Df.au F U0 (fun cdv A outer s H E hr=>by
  have nd:=U0.nd
  exact⟨(S6),(aH (b9 (i:=3) nd (b5 (bU (qv 2) aB) (fL (fY B (a7 (qv 0) aA)) aB)))
   (aH (b9 (i:=4) nd (b5 (bU (qv 2) aB) (uB aB aB)))
   (aH (bQ (k9 (pQ (dM (b5 (qv 2) aB) aB) (pP (pO (fY B (a7 (qv 0) aA)) aB)))) (aN (bC (qQ (qQ (j8 (qv 0) j6 (j7 (qv 3))) (cO (a7 (bV (qv 0) (b5 (bU (qv 2) aB) (fY B (a7 (qv 0) aA)))) aA))) (j8 (qv 0) (j7 (qv 3)) j6)))) c9)
   (aN (bC (qQ (qQ (j8 (qv 0) j6 (j7 (qv 3))) (cO (a7 (bV (dD (a7 (pT aB) (a7 (qv 1) (a7 (nE (pT aB) (qv 4)) (a7 (fL (qv 1) (qv 4)) aA))))) (b5 (bU (qv 2) aB) aB)) aA))) (j8 (qv 0) (j7 (qv 3)) j6))))))),aL1⟩)
theorem aN1:FnScope ["web","number"] ["web","number"] (aT (aW 9)):=.au
theorem aN2 (B:Bt mg) (F:FM K mg "is_hearth" 9 f fd) (d_hearths_in:Df P w K mg base 1 "hearths_in" ["web"] eJ):Df P w K mg base 2 "is_hearth" ["web","number"] pZ:=
 Df.au F aN1 (fun cdv A outer s H E hr=>by
  exact⟨(G2),(aN (bC (nI (B8 (qv 1) aB) (nH (uC (qv 1) (aZ d_hearths_in hr (a7 (qv 0) aA))))))),av7⟩)
theorem aN3:FnScope ["web","numbers"] ["web","numbers"] (aT (aW 12)):=.au
theorem aN4 (B:Bt mg) (F:FM K mg "has_each_once" 12 f fd) (d_hearths_in:Df P w K mg base 1 "hearths_in" ["web"] eJ):Df P w K mg base 2 "has_each_once" ["web","numbers"] rB:=
 Df.au F aN3 (fun cdv A outer s H E hr=>by
  have hu3:=T2 hr
  exact⟨(R4),(aN (bC (as6 hu3 (aA7 B (a7 (qv 1) aA)) (qG B (aZ d_hearths_in hr (a7 (qv 0) aA)))))),aJ8⟩)
theorem aN5:FnScope ["web","around","burning","hearth"] ["web","around","burning","hearth"] (aT (aW 18)):=.au
theorem aN6 (B:Bt mg) (F:FM K mg "can_kindle" 18 f fd) (d_count_inside:Df P w K mg base 1 "count_inside" ["hearths","inside"] qD):Df P w K mg base 2 "can_kindle" ["web","around","burning","hearth"] lI:=
 Df.au F aN5 (fun cdv A outer s H E hr=>by
  have hu:=jN hr
  exact⟨(J1),(aN (bC (nI (ar6 hu (qv 3) (qv 2)) (nH (B8 (aZ d_count_inside hr (a7 (bV (qv 1) (qv 3)) (a7 (qv 2) aA))) (bV (bV (qv 0) aB) (qv 3))))))),aw3⟩)
theorem U1:FnScope ["want","neighbours","told","is_seed","cause","rank","by"] ["want","neighbours","told","is_seed","cause"] (aT (aW 29)):=.au
theorem aN7 (B:Bt mg) (F:FM K mg "is_right_cause" 29 f fd) (d_rises:Df P w K mg base 1 "rises" ["things"] nK) (d_is_earlier:Df P w K mg base 1 "is_earlier" ["cause","rank"] qT) (cs:qR K mg):Df P w K mg base 2 "is_right_cause" ["want","neighbours","told","is_seed","cause"] qU:=
 Df.au F U1 (fun cdv A outer s H E hr=>by
  have nd:=U1.nd
  have hu3:=T2 hr
  exact⟨(O1),(aH (bQ (B9 (qv 3)) (aN (bC (as5 hu3 (qv 4) (N0 cs)))) c9)
   (aH (bQ (ar3 (qv 4) j3) (aN (bC (uC (fY B (a7 (pU (N:=["other","told"]) (fr:=[none,some 2]) (gJ (qv 1)) (fun _ _ _ _=>(uE (bV (qv 1) (qv 0)) j3)) (fun _ _ _ _=>(qv 0))) aA)) (qv 0)))) c9)
   (aH (b9 (i:=5) nd (bV (qv 4) aB))
   (aH (b9 (i:=6) nd (bV (qv 4) aB))
   (aH (bQ (k9 (pR (nF (qv 5) aB) (pR (uD (fY B (a7 (qv 6) aA)) (qv 0)) (uF (nG (k8 (aZ d_rises hr (a7 (qv 6) aA)))))))) (aN (bC gW)) c9)
   (aN (bC (C5 B rfl (a7 (uL (N:=["other","neighbours","rank","told"]) (fr:=[none,some 1,some 5,some 2]) (gJ (qv 6)) (fun _ _ _ _=>(nI (E1 (qv 0) (qv 1)) (nH (aZ d_is_earlier hr (a7 (bV (qv 3) (qv 0)) (a7 (qv 2) aA))))))) aA))))))))),aG0⟩)
theorem U2:FnScope ["flow","many","way","wants","k","cell","pairs","one","other"] ["flow","many","way"] (aT (aW 35)):=.au
theorem aN8 (B:Bt mg) (F:FM K mg "_law_web" 35 f fd) (d__law_path:Df P w K mg base 1 "_law_path" ["cell","many"] qJ) (d__law_web_of_digits:Df P w K mg base 1 "_law_web_of_digits" ["wants_cell","links_cell","many","most"] nO) (d__law_cell_at:Df P w K mg base 1 "_law_cell_at" ["script","k"] dU):Df P w K mg base 2 "_law_web" ["flow","many","way"] nQ:=
 Df.au F U2 (fun cdv A outer s H E hr=>by
  have nd:=U2.nd
  have hu:=jN hr
  exact⟨(L4),(aH (bQ (k9 (pQ (dM (b5 (bU (qv 2) aB) aB) aB) (pP (pO (qv 1) aB)))) (aN (bC (aZ d__law_path hr (a7 (aZ d__law_cell_at hr (a7 (qv 0) (a7 aB aA))) (a7 (qv 1) aA))))) c9)
   (aH (bQ (k9 (pQ (dM (b5 (bU (qv 2) aB) aB) aB) (pP (nF (qv 1) aB)))) (aN (bC (aZ d__law_web_of_digits hr (a7 (aZ d__law_cell_at hr (a7 (qv 0) (a7 aB aA))) (a7 (aZ d__law_cell_at hr (a7 (qv 0) (a7 aB aA))) (a7 (qv 1) (a7 (bV (dD (a7 aB (a7 aB (a7 aB (a7 aB aA))))) (b5 (qv 2) aB)) aA))))))) c9)
   (aH (dR (i:=3) nd (dD aA))
   (aH (eG 4 nd (iK rfl B.range (qv 1))
    (aH (b9 (i:=5) nd (aZ d__law_cell_at hr (a7 (qv 0) (a7 (qv 4) aA))))
    (aN (j5 3 (bV (dD (a7 (b5 (bU (qv 5) aB) aB) (a7 (b5 (bU (qv 5) aB) aB) (a7 (b5 (bU (qv 5) aB) aB) (a7 (b5 (bU (qv 5) aB) aB) aA))))) (b5 (qv 2) aB))))))
   (aH (dR (i:=6) nd ar7)
   (aH (eG 5 nd (gJ (qv 0))
    (aN (bQ (pO (qv 1) aB) (aH (b9 (i:=7) nd (b5 (qv 5) (qv 1)))
     (aH (b9 (i:=8) nd (b5 (bU (b5 (iJ (b5 (qv 5) aB) aB) aB) aB) (qv 1)))
     (aN (bQ (uD (qv 7) (qv 8)) (aN (ar8 hu (i:=6) (cO (a7 (C6 B rfl (a7 (qv 7) (a7 (qv 8) aA))) (a7 (C7 B rfl (a7 (qv 7) (a7 (qv 8) aA))) aA))) gW)) c9)))) c9)))
   (aN (bC (cO (a7 (fM B (a7 (qv 3) aA)) (a7 (fM B (a7 (v0 B (a7 (ay1 B rfl (a7 (qv 6) aA)) aA)) aA)) aA))))))))))),az6⟩)
theorem U3:FnScope ["script","at","many","cell","some","hearth","number"] ["script","at","many"] (aT (aW 37)):=.au
theorem aN9 (B:Bt mg) (F:FM K mg "_law_seeds_by" 37 f fd) (d__law_cell_at:Df P w K mg base 1 "_law_cell_at" ["script","k"] dU):Df P w K mg base 2 "_law_seeds_by" ["script","at","many"] qN:=
 Df.au F U3 (fun cdv A outer s H E hr=>by
  have nd:=U3.nd
  exact⟨(L8),(aH (b9 (i:=3) nd (aZ d__law_cell_at hr (a7 (qv 0) (a7 (qv 1) aA))))
   (aH (dR (i:=4) nd (dD aA))
   (aH (bQ (dM (b5 (qv 3) aB) aB) (aH (eG 5 nd (iK rfl B.range (qv 2))
     (aH (b9 (i:=3) nd (bU (qv 3) aB))
     (aN (bQ (dM (b5 (qv 3) aB) aB) (aN (j5 4 (qv 5))) c9))))
    (aN (bC (fM B (a7 (qv 4) aA))))) c9)
   (aH (b9 (i:=3) nd (b5 (iJ (fL (b5 (qv 3) aB) aB) aB) aB))
   (aH (eG 5 nd (iK rfl B.range (qv 2))
    (aH (b9 (i:=6) nd (b5 (iJ (fL (fL (qv 3) (iJ (iJ aB (qv 5)) (qv 5))) (qv 5)) aB) aB))
    (aN (bQ (nF (b5 (bU (b5 (iJ (qv 6) (qv 6)) aB) aB) aB) (fL aB (b5 (bU (qv 3) aB) aB))) (aN (j5 4 (qv 5))) c9))))
   (aN (bC (fM B (a7 (qv 4) aA))))))))),az8⟩)
theorem aO0:FnScope ["web","numbers"] ["web","numbers"] (aT (aW 10)):=.au
theorem aO1 (B:Bt mg) (F:FM K mg "is_set" 10 f fd) (d_rises:Df P w K mg base 1 "rises" ["things"] nK) (d_is_hearth:Df P w K mg base 2 "is_hearth" ["web","number"] pZ):Df P w K mg base 3 "is_set" ["web","numbers"] qA:=
 Df.au F aO0 (fun cdv A outer s H E hr=>by
  exact⟨(G3),(aN (bC (nI (aZ d_rises hr (a7 (qv 1) aA)) (nH (C5 B rfl (a7 (uL (N:=["number","web"]) (fr:=[none,some 0]) (gJ (qv 1)) (fun _ _ _ _=>(aZ d_is_hearth hr (a7 (qv 1) (a7 (qv 0) aA))))) aA)))))),av8⟩)
theorem aO2:FnScope ["web","around","burning"] ["web","around","burning"] (aT (aW 17)):=.au
theorem aO3 (B:Bt mg) (F:FM K mg "kindling" 17 f fd) (d_can_kindle:Df P w K mg base 2 "can_kindle" ["web","around","burning","hearth"] lI) (d_hearths_in:Df P w K mg base 1 "hearths_in" ["web"] eJ):Df P w K mg base 3 "kindling" ["web","around","burning"] nM:=
 Df.au F aO2 (fun cdv A outer s H E hr=>by
  exact⟨(J2),(aN (bC (fM B (a7 (pU (N:=["hearth","web","around","burning"]) (fr:=[none,some 0,some 1,some 2]) (iK rfl B.range (aZ d_hearths_in hr (a7 (qv 0) aA))) (fun _ _ _ _=>(k8 (aZ d_can_kindle hr (a7 (qv 1) (a7 (qv 2) (a7 (qv 3) (a7 (qv 0) aA))))))) (fun _ _ _ _=>(qv 0))) aA)))),aw4⟩)
theorem U4:FnScope ["web","around","burning","order","hearth"] ["web","around","burning","order"] (aT (aW 23)):=.au
theorem aO4 (B:Bt mg) (F:FM K mg "first_to_kindle" 23 f fd) (d_can_kindle:Df P w K mg base 2 "can_kindle" ["web","around","burning","hearth"] lI):Df P w K mg base 3 "first_to_kindle" ["web","around","burning","order"] nU:=
 Df.au F U4 (fun cdv A outer s H E hr=>by
  have nd:=U4.nd
  exact⟨(M9),(aH (eG 4 nd (gJ (qv 3))
    (aN (bQ (k8 (aZ d_can_kindle hr (a7 (qv 0) (a7 (qv 1) (a7 (qv 2) (a7 (qv 4) aA)))))) (aN (lC 4)) c9)))
   (aN (bC j3))),aD6⟩)
theorem U5:FnScope ["script","at","head","many"] ["script","at"] (aT (aW 36)):=.au
theorem aO5 (B:Bt mg) (F:FM K mg "_law_web_by" 36 f fd) (d__law_cell_at:Df P w K mg base 1 "_law_cell_at" ["script","k"] dU) (d__law_web:Df P w K mg base 2 "_law_web" ["flow","many","way"] nQ):Df P w K mg base 3 "_law_web_by" ["script","at"] qM:=
 Df.au F U5 (fun cdv A outer s H E hr=>by
  have nd:=U5.nd
  exact⟨(L7),(aH (b9 (i:=2) nd (aZ d__law_cell_at hr (a7 (qv 0) (a7 aB aA))))
   (aH (b9 (i:=3) nd (b5 (qv 2) aB))
   (aH (bQ (dM (b5 (bU (qv 2) aB) aB) aB) (aN (b9 (i:=3) nd (b5 (bU (qv 2) aB) aB))) c9)
   (aN (bC (aZ d__law_web hr (a7 (j8 (qv 0) (j7 (qv 1)) j6) (a7 (qv 3) (a7 (bU (qv 2) aB) aA))))))))),az7⟩)
theorem aO6:FnScope ["web","hearths"] ["web","hearths"] (aT (aW 11)):=.au
theorem aO7 (B:Bt mg) (F:FM K mg "made_set" 11 f fd) (d_is_set:Df P w K mg base 3 "is_set" ["web","numbers"] qA) (x_BadSet:Xc K mg base "BadSet"):bH P w K mg base 4 "made_set" ["web","hearths"] jF:=
 bH.au F aO6 O9 aH0 (fun cdv A outer s H E Ep hr hX=>by
  exact (aH (bQ (nG (k8 (aZ d_is_set hr (a7 (qv 0) (a7 (qv 1) aA))))) (aN (qV hX x_BadSet (a7 eW aA))) c9)
   (aN (bC (fM B (a7 (qv 1) aA))))))
theorem U6:FnScope ["web","seeds","told","burning","around","lit"] ["web","seeds"] (aT (aW 16)):=.au
theorem aO8 (B:Bt mg) (F:FM K mg "rounds" 16 f fd) (d_marked:Df P w K mg base 1 "marked" ["hearths"] kC) (d_near_lists:Df P w K mg base 1 "near_lists" ["web"] iM) (d_kindling:Df P w K mg base 3 "kindling" ["web","around","burning"] nM) (d_made_set:bH P w K mg base 4 "made_set" ["web","hearths"] jF):bH P w K mg base 5 "rounds" ["web","seeds"] lR:=
 bH.au F U6 P4 aH3 (fun cdv A outer s H E Ep hr hX=>by
  have nd:=U6.nd
  exact (aH (dR (i:=2) nd (dD (a7 (kI hX d_made_set hr (a7 (qv 0) (a7 (qv 1) aA))) aA)))
   (aH (dR (i:=3) nd (aZ d_marked hr (a7 (bV (qv 2) aB) aA)))
   (aH (b9 (i:=4) nd (aZ d_near_lists hr (a7 (qv 0) aA)))
   (aH (b9 (i:=5) nd (aZ d_kindling hr (a7 (qv 0) (a7 (qv 4) (a7 (qv 3) aA)))))
   (aH (C2 hX.own (B9 (qv 5))
    (aH (j5 2 (qv 5))
    (aH (as8 3 (aZ d_marked hr (a7 (qv 5) aA)))
    (aN (b9 (i:=5) nd (aZ d_kindling hr (a7 (qv 0) (a7 (qv 4) (a7 (qv 3) aA)))))))))
   (aN (lC 2))))))))
theorem U7:FnScope ["web","seeds","order","burning","around","kindled","hearth"] ["web","seeds","order"] (aT (aW 22)):=.au
theorem aO9 (B:Bt mg) (F:FM K mg "kindled_by" 22 f fd) (d_marked:Df P w K mg base 1 "marked" ["hearths"] kC) (d_near_lists:Df P w K mg base 1 "near_lists" ["web"] iM) (d_first_to_kindle:Df P w K mg base 3 "first_to_kindle" ["web","around","burning","order"] nU) (d_made_set:bH P w K mg base 4 "made_set" ["web","hearths"] jF) (d_has_each_once:Df P w K mg base 2 "has_each_once" ["web","numbers"] rB) (x_BadOrder:Xc K mg base "BadOrder"):bH P w K mg base 5 "kindled_by" ["web","seeds","order"] rC:=
 bH.au F U7 R5 aJ9 (fun cdv A outer s H E Ep hr hX=>by
  have nd:=U7.nd
  have hu:=jN hr
  exact (aH (dR (i:=3) nd (aZ d_marked hr (a7 (kI hX d_made_set hr (a7 (qv 0) (a7 (qv 1) aA))) aA)))
   (aH (bQ (nG (k8 (aZ d_has_each_once hr (a7 (qv 0) (a7 (qv 2) aA))))) (aN (qV hX x_BadOrder (a7 eW aA))) c9)
   (aH (b9 (i:=4) nd (aZ d_near_lists hr (a7 (qv 0) aA)))
   (aH (dR (i:=5) nd (dD aA))
   (aH (b9 (i:=6) nd (aZ d_first_to_kindle hr (a7 (qv 0) (a7 (qv 4) (a7 (qv 3) (a7 (qv 2) aA))))))
   (aH (C2 hX.own (uE (qv 6) j3)
    (aH (j5 5 (qv 6))
    (aH (uG hu (i:=3) (qv 6) gW)
    (aN (b9 (i:=6) nd (aZ d_first_to_kindle hr (a7 (qv 0) (a7 (qv 4) (a7 (qv 3) (a7 (qv 2) aA))))))))))
   (aN (lC 5)))))))))
theorem U8:FnScope ["web","seeds","told","lit","around","hearth"] ["web","seeds","told"] (aT (aW 28)):=.au
theorem aP0 (B:Bt mg) (F:FM K mg "judged_causes" 28 f fd) (d_made_set:bH P w K mg base 4 "made_set" ["web","hearths"] jF) (d_near_lists:Df P w K mg base 1 "near_lists" ["web"] iM) (d_hearths_in:Df P w K mg base 1 "hearths_in" ["web"] eJ) (d_is_right_cause:Df P w K mg base 2 "is_right_cause" ["want","neighbours","told","is_seed","cause"] qU) (x_NoPaper:Xc K mg base "NoPaper"):bH P w K mg base 5 "judged_causes" ["web","seeds","told"] rE:=
 bH.au F U8 R7 aK2 (fun cdv A outer s H E Ep hr hX=>by
  have nd:=U8.nd
  exact (aH (b9 (i:=3) nd (kI hX d_made_set hr (a7 (qv 0) (a7 (qv 1) aA))))
   (aH (bQ (uD (fY B (a7 (qv 2) aA)) (aZ d_hearths_in hr (a7 (qv 0) aA))) (aN (qV hX x_NoPaper (a7 eW aA))) c9)
   (aH (b9 (i:=4) nd (aZ d_near_lists hr (a7 (qv 0) aA)))
   (aH (eG 5 (hp:=hX.own) nd (iK rfl B.range (aZ d_hearths_in hr (a7 (qv 0) aA)))
    (aN (bQ (nG (k8 (aZ d_is_right_cause hr (a7 (bV (bV (qv 0) aB) (qv 5)) (a7 (bV (qv 4) (qv 5)) (a7 (qv 2) (a7 (E1 (qv 5) (qv 3)) (a7 (bV (qv 2) (qv 5)) aA)))))))) (aN (qV hX x_NoPaper (a7 eW aA))) c9)))
   (aN (bC (fM B (a7 (aC7 (N:=["hearth","cause"]) (fr:=[none,none]) (M6 rfl B.enum (qv 2)) (fun _ _ _ _=>(uE (qv 1) j3)) (fun _ _ _ _=>(qv 0))) aA)))))))))
theorem U9:FnScope ["web","seeds","ranks","rank","lit","hearth"] ["web","seeds"] (aT (aW 19)):=.au
theorem aP1 (B:Bt mg) (F:FM K mg "ranks_of" 19 f fd) (d_rounds:bH P w K mg base 5 "rounds" ["web","seeds"] lR):bH P w K mg base 6 "ranks_of" ["web","seeds"] lS:=
 bH.au F U9 P5 aH4 (fun cdv A outer s H E Ep hr hX=>by
  have nd:=U9.nd
  have hu:=jN hr
  exact (aH (dR (i:=2) nd C1)
   (aH (as7 3 4 (hp:=hX.own) nd (M6 rfl B.enum (kI hX d_rounds hr (a7 (qv 0) (a7 (qv 1) aA))))
    (aN (eG 5 (hp:=hX.own) nd (gJ (qv 4))
     (aN (uG hu (i:=2) (qv 5) (qv 3))))))
   (aN (lC 2)))))
theorem aP2:FnScope ["web","seeds"] ["web","seeds"] (aT (aW 20)):=.au
theorem aP3 (B:Bt mg) (F:FM K mg "burnt" 20 f fd) (d_ranks_of:bH P w K mg base 6 "ranks_of" ["web","seeds"] lS):bH P w K mg base 7 "burnt" ["web","seeds"] lT:=
 bH.au F aP2 P6 aH5 (fun cdv A outer s H E Ep hr hX=>by
  exact (aN (bC (fM B (a7 (aE5 B rfl (a7 (kI hX d_ranks_of hr (a7 (qv 0) (a7 (qv 1) aA))) aA)) aA)))))
theorem V0:FnScope ["web","seeds","ranks","around"] ["web","seeds"] (aT (aW 26)):=.au
theorem aP4 (B:Bt mg) (F:FM K mg "causes" 26 f fd) (d_ranks_of:bH P w K mg base 6 "ranks_of" ["web","seeds"] lS) (d_near_lists:Df P w K mg base 1 "near_lists" ["web"] iM) (d_told_cause:Df P w K mg base 1 "told_cause" ["web","around","ranks","hearth"] qS) (d_hearths_in:Df P w K mg base 1 "hearths_in" ["web"] eJ):bH P w K mg base 7 "causes" ["web","seeds"] rD:=
 bH.au F V0 R6 aK1 (fun cdv A outer s H E Ep hr hX=>by
  have nd:=V0.nd
  exact (aH (b9 (i:=2) nd (kI hX d_ranks_of hr (a7 (qv 0) (a7 (qv 1) aA))))
   (aH (b9 (i:=3) nd (aZ d_near_lists hr (a7 (qv 0) aA)))
   (aN (bC (uL (N:=["hearth","web","around","ranks"]) (fr:=[none,some 0,some 3,some 2]) (iK rfl B.range (aZ d_hearths_in hr (a7 (qv 0) aA))) (fun _ _ _ _=>(aZ d_told_cause hr (a7 (qv 1) (a7 (qv 2) (a7 (qv 3) (a7 (qv 0) aA))))))))))))
theorem aP5:FnScope ["web","seeds"] ["web","seeds"] (aT (aW 21)):=.au
theorem aP6 (B:Bt mg) (F:FM K mg "lights_all" 21 f fd) (d_hearths_in:Df P w K mg base 1 "hearths_in" ["web"] eJ) (d_burnt:bH P w K mg base 7 "burnt" ["web","seeds"] lT):bH P w K mg base 8 "lights_all" ["web","seeds"] qZ:=
 bH.au F aP5 P7 aH6 (fun cdv A outer s H E Ep hr hX=>by
  exact (aN (bC (ar1 (fY B (a7 (kI hX d_burnt hr (a7 (qv 0) (a7 (qv 1) aA))) aA)) (aZ d_hearths_in hr (a7 (qv 0) aA))))))
theorem V1:FnScope ["way","web","seeds","order","caught","e"] ["way","web","seeds","order"] (aT (aW 40)):=.au
theorem aP7 (B:Bt mg) (F:FM K mg "_law_refusal" 40 f fd) (d_kindled_by:bH P w K mg base 5 "kindled_by" ["web","seeds","order"] rC) (d_rounds:bH P w K mg base 5 "rounds" ["web","seeds"] lR) (d_burnt:bH P w K mg base 7 "burnt" ["web","seeds"] lT) (d_lights_all:bH P w K mg base 8 "lights_all" ["web","seeds"] qZ) (d_causes:bH P w K mg base 7 "causes" ["web","seeds"] rD) (d_judged_causes:bH P w K mg base 5 "judged_causes" ["web","seeds","told"] rE) (cat_HearthError:vH K mg "HearthError") (is_BadSet:nX K mg "BadSet") (is_BadOrder:nX K mg "BadOrder") (is_ValueError:vJ K mg):Df P w K mg base 9 "_law_refusal" ["way","web","seeds","order"] hZ:=
 Df.au F V1 (fun cdv A outer s H E hr=>by
  have nd:=V1.nd
  exact⟨(R8),(aH (b9 (i:=4) nd j3)
   (aH (aG4 5 cat_HearthError nd (nW (fun _=>(dM (qv 0) aB)) (lO d_kindled_by hr (fun _=>(a7 (qv 1) (a7 (qv 2) (a7 (qv 3) aA))))) (nW (fun _=>(dM (qv 0) aB)) (lO d_rounds hr (fun _=>(a7 (qv 1) (a7 (qv 2) aA)))) (nW (fun _=>(dM (qv 0) aB)) (lO d_burnt hr (fun _=>(a7 (qv 1) (a7 (qv 2) aA)))) (nW (fun _=>(dM (qv 0) aB)) (lO d_lights_all hr (fun _=>(a7 (qv 1) (a7 (qv 2) aA)))) (nW (fun _=>(dM (qv 0) aB)) (lO d_causes hr (fun _=>(a7 (qv 1) (a7 (qv 2) aA)))) (lO d_judged_causes hr (fun _=>(a7 (qv 1) (a7 (qv 2) (a7 (dD aA) aA)))))))))) (fun _=>(aN (b9 (i:=4) nd (qv 5)))))
   (aH (bQ (nG (k8 (aG8 B is_ValueError (qv 4)))) (aN (bC eW)) c9)
   (aN (bC (aJ1 (R3 eW (Q5 B (a7 (O6 B is_BadOrder (qv 4)) aA))) (R3 eW (Q5 B (a7 (O6 B is_BadSet (qv 4)) aA))))))))),aK5⟩)
theorem V2:FnScope ["script","web","many","seeds","cell","order","bad","some","way"] ["script"] (aT (aW 41)):=.au
theorem aP8 (B:Bt mg) (F:e9 K "law" "law" (aW 41) f fd) (d__law_web_by:Df P w K mg base 3 "_law_web_by" ["script","at"] qM) (d__law_seeds_by:Df P w K mg base 2 "_law_seeds_by" ["script","at","many"] qN) (d__law_bad_order:Df P w K mg base 1 "_law_bad_order" ["many","cell"] rF) (d__law_bad_seeds:Df P w K mg base 1 "_law_bad_seeds" ["seeds","many","cell"] rG) (d__law_cell_at:Df P w K mg base 1 "_law_cell_at" ["script","k"] dU) (d__law_refusal:Df P w K mg base 9 "_law_refusal" ["way","web","seeds","order"] hZ):cL P w K mg base dC 10 f fd ["script"] (mW K vX):=
 az9 F V2 (fun xs Q h=>by unfold vX at h; repeat (first | (obtain ⟨rfl,_⟩:=h; rfl) | (obtain ⟨_,h⟩:=h))) (fun cdv A outer s H E hr=>by
  have nd:=V2.nd
  exact⟨(S9),(aH (b9 (i:=1) nd (aZ d__law_web_by hr (a7 (qv 0) (a7 aB aA))))
   (aH (b9 (i:=2) nd (fY B (a7 (bV (qv 1) aB) aA)))
   (aH (bQ (k9 (pR (kK (aZ d__law_refusal hr (a7 aB (a7 (cO (a7 (cO aA) (a7 (cO aA) aA))) (a7 (cO aA) (a7 (dD (a7 aB aA)) aA))))) eW) (uF (kK (aZ d__law_refusal hr (a7 aB (a7 (cO (a7 (cO aA) (a7 (cO aA) aA))) (a7 (cO (a7 aB aA)) (a7 (dD aA) aA))))) eW)))) (aN (bC gW)) c9)
   (aH (bQ (dM (qv 2) aB) (aH (b9 (i:=1) nd (cO (a7 (cO (a7 aB aA)) (a7 (cO aA) aA))))
    (aN (b9 (i:=2) nd aB))) c9)
   (aH (b9 (i:=3) nd (aZ d__law_seeds_by hr (a7 (qv 0) (a7 aB (a7 (qv 2) aA)))))
   (aH (b9 (i:=4) nd (b5 (aZ d__law_cell_at hr (a7 (qv 0) (a7 aB aA))) (uB aB aB)))
   (aH (b9 (i:=5) nd (aZ d__law_bad_order hr (a7 (qv 2) (a7 (qv 4) aA))))
   (aH (b9 (i:=6) nd (aZ d__law_bad_seeds hr (a7 (qv 3) (a7 (qv 2) (a7 (bU (qv 4) aB) aA)))))
   (aH (bQ (kK (aZ d__law_refusal hr (a7 aB (a7 (qv 1) (a7 (qv 3) (a7 (qv 5) aA))))) eW) (aN (bC gW)) c9)
   (aH (bQ (kK (aZ d__law_refusal hr (a7 aB (a7 (qv 1) (a7 (C4 B (a7 (qv 3) aA)) (a7 (fM B (a7 (qv 5) aA)) aA))))) eW) (aN (bC gW)) c9)
   (aH (eG 7 nd (gJ (aJ7 (a7 (qv 5) (a7 (qG B (qv 2)) aA))))
    (aN (bQ (kK (aZ d__law_refusal hr (a7 aB (a7 (qv 1) (a7 (qv 6) (a7 (qv 7) aA))))) eW) (aN (bC gW)) c9)))
   (aH (eG 8 nd (uH rfl B.range aB aB)
    (aN (bQ (k9 (pR (kK (aZ d__law_refusal hr (a7 (qv 8) (a7 (qv 1) (a7 (qv 6) (a7 (dD aA) aA))))) eW) (uF (kK (aZ d__law_refusal hr (a7 (qv 8) (a7 (qv 1) (a7 (C4 B (a7 (qv 6) aA)) (a7 (dD aA) aA))))) eW)))) (aN (bC gW)) c9)))
   (aN (bC gW)))))))))))))),aL4⟩)
end
set_option autoImplicit true in
theorem aP9 {l:OpenLaw}{w:World}{K:Frag}{h:Heap}{mg:Str->Option Value} (X:K.In h) (G:h.Ns mainGlobals mg) (hfa:mg "law" = some (.ref fa))
  (h0:FK K "rises" 6 f0 d0)
  (h1:FK K "hearths_in" 7 f1 d1)
  (h2:FK K "near_lists" 8 f2 d2)
  (h3:FK K "marked" 13 f3 d3)
  (h4:FK K "count_inside" 14 f4 d4)
  (h5:FK K "told_cause" 27 f5 d5)
  (h6:FK K "is_earlier" 30 f6 d6)
  (h7:FK K "_law_cell_at" 32 f7 d7)
  (h8:FK K "_law_web_of_digits" 33 f8 d8)
  (h9:FK K "_law_path" 34 f9 d9)
  (h10:FK K "_law_bad_order" 38 f10 d10)
  (h11:FK K "_law_bad_seeds" 39 f11 d11)
  (h12:FK K "is_hearth" 9 f12 d12)
  (h13:FK K "has_each_once" 12 f13 d13)
  (h14:FK K "can_kindle" 18 f14 d14)
  (h15:FK K "is_right_cause" 29 f15 d15)
  (h16:FK K "_law_web" 35 f16 d16)
  (h17:FK K "_law_seeds_by" 37 f17 d17)
  (h18:FK K "is_set" 10 f18 d18)
  (h19:FK K "kindling" 17 f19 d19)
  (h20:FK K "first_to_kindle" 23 f20 d20)
  (h21:FK K "_law_web_by" 36 f21 d21)
  (h22:FK K "made_set" 11 f22 d22)
  (h23:FK K "rounds" 16 f23 d23)
  (h24:FK K "kindled_by" 22 f24 d24)
  (h25:FK K "judged_causes" 28 f25 d25)
  (h26:FK K "ranks_of" 19 f26 d26)
  (h27:FK K "burnt" 20 f27 d27)
  (h28:FK K "causes" 26 f28 d28)
  (h29:FK K "lights_all" 21 f29 d29)
  (h30:FK K "_law_refusal" 40 f30 d30)
  (a31:nsIn K mainGlobals "law" = some (some (.ref f31))) (l31:K.lookup f31=some ⟨oc31,od31,.func (fnOf "law" "law" (iA (aW 41)) (dO (aW 41)) (aT (aW 41)) .none kV31 dc31 pm31 an31 cd31 ct31),sl31⟩) (c31:codeIn K cd31 "law" = true) (k31:keepIn K (.ref f31)=true)
  (z_len:nsIn K mainGlobals "len" = some none)
  (z_range:nsIn K mainGlobals "range" = some none)
  (z_tuple:nsIn K mainGlobals "tuple" = some none)
  (z_list:nsIn K mainGlobals "list" = some none)
  (z_sorted:nsIn K mainGlobals "sorted" = some none)
  (z_all:nsIn K mainGlobals "all" = some none)
  (z_any:nsIn K mainGlobals "any" = some none)
  (z_zip:nsIn K mainGlobals "zip" = some none)
  (z_min:nsIn K mainGlobals "min" = some none)
  (z_max:nsIn K mainGlobals "max" = some none)
  (z_sum:nsIn K mainGlobals "sum" = some none)
  (z_isinstance:nsIn K mainGlobals "isinstance" = some none)
  (z_int:nsIn K mainGlobals "int" = some none)
  (z_bool:nsIn K mainGlobals "bool" = some none)
  (z_enumerate:nsIn K mainGlobals "enumerate" = some none)
  {cA cB:Addr}{odA odB:Option Addr}{slA slB:Array (Option Value)}{nA nB tA:Nat} (zc:nsIn K mainGlobals "CAUSE_OF_SEED" = some (some (.ref cA))) (lcA:K.lookup cA=some ⟨.type "tuple",odA,.seq #[.int 0 tA,.ref cB] nA,slA⟩) (lcB:K.lookup cB=some ⟨.type "tuple",odB,.seq #[] nB,slB⟩)
  {C_HearthError C_BadSet C_BadOrder C_NoPaper:Addr}
  (aX_HE:nsIn K mainGlobals "HearthError" = some (some (.ref C_HearthError)))
  (aX_BS:nsIn K mainGlobals "BadSet" = some (some (.ref C_BadSet)))
  (aX_BO:nsIn K mainGlobals "BadOrder" = some (some (.ref C_BadOrder)))
  (aX_NP:nsIn K mainGlobals "NoPaper" = some (some (.ref C_NoPaper)))
  (zX_BW:nsIn K mainGlobals "BadWeb" = some none)
  (zX_BP:nsIn K mainGlobals "BadPrices" = some none)
  (zX_BB:nsIn K mainGlobals "BadBoard" = some none)
  (zX_BD:nsIn K mainGlobals "BadDeed" = some none)
  (zX_NW:nsIn K mainGlobals "NotWood" = some none)
  (zX_NS:nsIn K mainGlobals "NoSuch" = some none)
  (zX_TM:nsIn K mainGlobals "TooMany" = some none)
  (zX_NT:nsIn K mainGlobals "NoText" = some none)
  (zX_OR:nsIn K mainGlobals "OddRound" = some none)
  (y_fg:specialIn K (.builtin "object.__class__") "__get__" = some (some (.builtin "getset_descriptor.__get__")))
  (y_ft:takesIn K (.builtin "object.__class__")=some true)
  (z_VE:nsIn K mainGlobals "ValueError" = some none)
  (y1_HE:isClsIn K C_HearthError=true)
  (y2_HE:typeIn K (.ref C_HearthError)=some (.type "type"))
  (y3_HE:findIn K (.ref C_HearthError) "__getattribute__" = some (some (.builtin "BaseException.__getattribute__")))
  (y4_HE:findIn K (.ref C_HearthError) "__getattr__" = some none)
  (y5_HE:findIn K (.ref C_HearthError) "__class__" = some (some (.builtin "object.__class__")))
  (y6_HE:mroIn K C_HearthError (.type "object")=some true)
  (y7_HE:mroIn K C_HearthError (.type "BaseException")=some true)
  (y1_BS:isClsIn K C_BadSet=true)
  (y2_BS:typeIn K (.ref C_BadSet)=some (.type "type"))
  (y3_BS:findIn K (.ref C_BadSet) "__getattribute__" = some (some (.builtin "BaseException.__getattribute__")))
  (y4_BS:findIn K (.ref C_BadSet) "__getattr__" = some none)
  (y5_BS:findIn K (.ref C_BadSet) "__class__" = some (some (.builtin "object.__class__")))
  (y6_BS:mroIn K C_BadSet (.type "object")=some true)
  (y7_BS:mroIn K C_BadSet (.type "BaseException")=some true)
  (y1_BO:isClsIn K C_BadOrder=true)
  (y2_BO:typeIn K (.ref C_BadOrder)=some (.type "type"))
  (y3_BO:findIn K (.ref C_BadOrder) "__getattribute__" = some (some (.builtin "BaseException.__getattribute__")))
  (y4_BO:findIn K (.ref C_BadOrder) "__getattr__" = some none)
  (y5_BO:findIn K (.ref C_BadOrder) "__class__" = some (some (.builtin "object.__class__")))
  (y6_BO:mroIn K C_BadOrder (.type "object")=some true)
  (y7_BO:mroIn K C_BadOrder (.type "BaseException")=some true)
  (y1_NP:isClsIn K C_NoPaper=true)
  (y2_NP:typeIn K (.ref C_NoPaper)=some (.type "type"))
  (y3_NP:findIn K (.ref C_NoPaper) "__getattribute__" = some (some (.builtin "BaseException.__getattribute__")))
  (y4_NP:findIn K (.ref C_NoPaper) "__getattr__" = some none)
  (y5_NP:findIn K (.ref C_NoPaper) "__class__" = some (some (.builtin "object.__class__")))
  (y6_NP:mroIn K C_NoPaper (.type "object")=some true)
  (y7_NP:mroIn K C_NoPaper (.type "BaseException")=some true)
  (sB_HE:subIn K (.ref C_HearthError) (.type "BaseException")=some true)
  (s_BS_HE:subIn K (.ref C_BadSet) (.ref C_HearthError)=some true)
  (s_BO_HE:subIn K (.ref C_BadOrder) (.ref C_HearthError)=some true)
  (s_NP_HE:subIn K (.ref C_NoPaper) (.ref C_HearthError)=some true)
  (sN_BO:subIn K (.type "NoneType") (.ref C_BadOrder)=some false)
  (s_BS_BO:subIn K (.ref C_BadSet) (.ref C_BadOrder)=some false)
  (n_BS_BO:(C_BadSet == C_BadOrder)=false)
  (s_NP_BO:subIn K (.ref C_NoPaper) (.ref C_BadOrder)=some false)
  (n_NP_BO:(C_NoPaper == C_BadOrder)=false)
  (sN_BS:subIn K (.type "NoneType") (.ref C_BadSet)=some false)
  (s_BO_BS:subIn K (.ref C_BadOrder) (.ref C_BadSet)=some false)
  (n_BO_BS:(C_BadOrder == C_BadSet)=false)
  (s_NP_BS:subIn K (.ref C_NoPaper) (.ref C_BadSet)=some false)
  (n_NP_BS:(C_NoPaper == C_BadSet)=false)
  (sV_BS:subIn K (.ref C_BadSet) (.type "ValueError")=some true)
  (sV_BO:subIn K (.ref C_BadOrder) (.type "ValueError")=some true)
  (sV_NP:subIn K (.ref C_NoPaper) (.type "ValueError")=some true)
  (q_BO:excIn K C_BadOrder [.type "ValueError",.type "Exception",.type "BaseException",.type "object"] "ValueError.__new__" = true)
  (q_BS:excIn K C_BadSet [.type "ValueError",.type "Exception",.type "BaseException",.type "object"] "ValueError.__new__" = true)
  (q_NP:excIn K C_NoPaper [.type "ValueError",.type "Exception",.type "BaseException",.type "object"] "ValueError.__new__" = true)
  : ∃ fd:FuncData,(∀ (s:Shared) (v:Value),BindsTo s fd ⟨[v],[]⟩ [("script",v)])/\∀ base:Heap,K.In base->base.Ns mainGlobals mg->cL l.prog w K mg base dC 10 fa fd ["script"] (qO K):=by
 have e:=hfa.symm.trans (mg_of X G a31)
 cases e
 have F31:=ah5 (st:=aW 41) l31 c31 k31
 have m31:=mg_of X G a31
 have B:Bt mg:=⟨mg_none_of X G z_len,mg_none_of X G z_range,mg_none_of X G z_tuple,mg_none_of X G z_list,mg_none_of X G z_sorted,mg_none_of X G z_all,mg_none_of X G z_any,mg_none_of X G z_zip,mg_none_of X G z_min,mg_none_of X G z_max,mg_none_of X G z_sum,mg_none_of X G z_isinstance,mg_none_of X G z_int,mg_none_of X G z_bool,mg_none_of X G z_enumerate⟩
 have cs:qR K mg:=⟨cA,cB,mg_of X G zc,⟨_,_,_,lcA,rfl,rfl,(by show 2<=sizeLine; decide),.cons ⟨_,rfl⟩ (.cons rfl .nil)⟩,⟨_,_,_,lcB,rfl,rfl,aT7 _,.nil⟩⟩
 refine⟨fnOf "law" "law" (iA (aW 41)) (dO (aW 41)) (aT (aW 41)) .none kV31 dc31 pm31 an31 cd31 ct31,fun s v=>.of_eq rfl,fun base KB _=>?_⟩
 have XK_HearthError:jD K C_HearthError:=⟨y1_HE,y2_HE,y3_HE,y4_HE,y5_HE,y_fg,y_ft,y6_HE,y7_HE⟩
 have XK_BadSet:jD K C_BadSet:=⟨y1_BS,y2_BS,y3_BS,y4_BS,y5_BS,y_fg,y_ft,y6_BS,y7_BS⟩
 have XK_BadOrder:jD K C_BadOrder:=⟨y1_BO,y2_BO,y3_BO,y4_BO,y5_BO,y_fg,y_ft,y6_BO,y7_BO⟩
 have XK_NoPaper:jD K C_NoPaper:=⟨y1_NP,y2_NP,y3_NP,y4_NP,y5_NP,y_fg,y_ft,y6_NP,y7_NP⟩
 have cat_HearthError:vH K mg "HearthError":=⟨C_HearthError,mg_of X G aX_HE,⟨y1_HE,y2_HE,sB_HE⟩,fun n C h2 h1=>by
  obtain ⟨hm,hb⟩:=qW h2
  simp only [lP,aR2,aR6,aU1] at hm
  rcases hm with rfl | rfl | rfl | rfl | rfl | rfl | rfl | rfl | rfl | rfl | rfl | rfl
  ·rw [zX_BW] at h1; cases h1
  ·rw [aX_BS] at h1; cases h1; exact s_BS_HE
  ·rw [aX_BO] at h1; cases h1; exact s_BO_HE
  ·rw [zX_BP] at h1; cases h1
  ·rw [zX_BB] at h1; cases h1
  ·rw [zX_BD] at h1; cases h1
  ·rw [zX_NW] at h1; cases h1
  ·rw [aX_NP] at h1; cases h1; exact s_NP_HE
  ·rw [zX_NS] at h1; cases h1
  ·rw [zX_TM] at h1; cases h1
  ·rw [zX_NT] at h1; cases h1
  ·rw [zX_OR] at h1; cases h1⟩
 have is_BadOrder:nX K mg "BadOrder":=⟨C_BadOrder,mg_of X G aX_BO,fun z=>(by cases z),(fun n C b h1 h2=>by
  obtain ⟨hm,hb⟩:=qW h2
  simp only [lP,aR2,aR6,aU1] at hm
  rcases hm with rfl | rfl | rfl | rfl | rfl | rfl | rfl | rfl | rfl | rfl | rfl | rfl
  ·rw [zX_BW] at h1; cases h1
  ·rw [aX_BS] at h1; cases h1; rw [hb,show (("BadSet" : Str) == "BadOrder" || ("BadOrder" : Str) == "HearthError" || ("BadOrder" : Str) == "ValueError")=false by decide]; exact⟨XK_BadSet.exc,qX XK_BadOrder n_BS_BO s_BS_BO⟩
  ·rw [aX_BO] at h1; cases h1; rw [hb,show (("BadOrder" : Str) == "BadOrder" || ("BadOrder" : Str) == "HearthError" || ("BadOrder" : Str) == "ValueError")=true by decide]; exact⟨XK_BadOrder.exc,O7⟩
  ·rw [zX_BP] at h1; cases h1
  ·rw [zX_BB] at h1; cases h1
  ·rw [zX_BD] at h1; cases h1
  ·rw [zX_NW] at h1; cases h1
  ·rw [aX_NP] at h1; cases h1; rw [hb,show (("NoPaper" : Str) == "BadOrder" || ("BadOrder" : Str) == "HearthError" || ("BadOrder" : Str) == "ValueError")=false by decide]; exact⟨XK_NoPaper.exc,qX XK_BadOrder n_NP_BO s_NP_BO⟩
  ·rw [zX_NS] at h1; cases h1
  ·rw [zX_TM] at h1; cases h1
  ·rw [zX_NT] at h1; cases h1
  ·rw [zX_OR] at h1; cases h1),O8 XK_BadOrder sN_BO⟩
 have is_BadSet:nX K mg "BadSet":=⟨C_BadSet,mg_of X G aX_BS,fun z=>(by cases z),(fun n C b h1 h2=>by
  obtain ⟨hm,hb⟩:=qW h2
  simp only [lP,aR2,aR6,aU1] at hm
  rcases hm with rfl | rfl | rfl | rfl | rfl | rfl | rfl | rfl | rfl | rfl | rfl | rfl
  ·rw [zX_BW] at h1; cases h1
  ·rw [aX_BS] at h1; cases h1; rw [hb,show (("BadSet" : Str) == "BadSet" || ("BadSet" : Str) == "HearthError" || ("BadSet" : Str) == "ValueError")=true by decide]; exact⟨XK_BadSet.exc,O7⟩
  ·rw [aX_BO] at h1; cases h1; rw [hb,show (("BadOrder" : Str) == "BadSet" || ("BadSet" : Str) == "HearthError" || ("BadSet" : Str) == "ValueError")=false by decide]; exact⟨XK_BadOrder.exc,qX XK_BadSet n_BO_BS s_BO_BS⟩
  ·rw [zX_BP] at h1; cases h1
  ·rw [zX_BB] at h1; cases h1
  ·rw [zX_BD] at h1; cases h1
  ·rw [zX_NW] at h1; cases h1
  ·rw [aX_NP] at h1; cases h1; rw [hb,show (("NoPaper" : Str) == "BadSet" || ("BadSet" : Str) == "HearthError" || ("BadSet" : Str) == "ValueError")=false by decide]; exact⟨XK_NoPaper.exc,qX XK_BadSet n_NP_BS s_NP_BS⟩
  ·rw [zX_NS] at h1; cases h1
  ·rw [zX_TM] at h1; cases h1
  ·rw [zX_NT] at h1; cases h1
  ·rw [zX_OR] at h1; cases h1),O8 XK_BadSet sN_BS⟩
 have is_ValueError:vJ K mg:=⟨mg_none_of X G z_VE,fun z=>(by cases z),(fun n C b h1 h2=>by
  obtain ⟨hm,hb⟩:=qW h2
  simp only [lP,aR2,aR6,aU1] at hm
  rcases hm with rfl | rfl | rfl | rfl | rfl | rfl | rfl | rfl | rfl | rfl | rfl | rfl
  ·rw [zX_BW] at h1; cases h1
  ·rw [aX_BS] at h1; cases h1; rw [hb,show (("BadSet" : Str) == "ValueError" || ("ValueError" : Str) == "HearthError" || ("ValueError" : Str) == "ValueError")=true by decide]; exact⟨XK_BadSet.exc,vL sV_BS⟩
  ·rw [aX_BO] at h1; cases h1; rw [hb,show (("BadOrder" : Str) == "ValueError" || ("ValueError" : Str) == "HearthError" || ("ValueError" : Str) == "ValueError")=true by decide]; exact⟨XK_BadOrder.exc,vL sV_BO⟩
  ·rw [zX_BP] at h1; cases h1
  ·rw [zX_BB] at h1; cases h1
  ·rw [zX_BD] at h1; cases h1
  ·rw [zX_NW] at h1; cases h1
  ·rw [aX_NP] at h1; cases h1; rw [hb,show (("NoPaper" : Str) == "ValueError" || ("ValueError" : Str) == "HearthError" || ("ValueError" : Str) == "ValueError")=true by decide]; exact⟨XK_NoPaper.exc,vL sV_NP⟩
  ·rw [zX_NS] at h1; cases h1
  ·rw [zX_TM] at h1; cases h1
  ·rw [zX_NT] at h1; cases h1
  ·rw [zX_OR] at h1; cases h1),aG9⟩
 have x_BadOrder:Xc K mg base "BadOrder":=⟨C_BadOrder,_,_,_,_,vK KB (mg_of X G aX_BO) q_BO,PySem.F.excBase_ValueError,aX_BO⟩
 have x_BadSet:Xc K mg base "BadSet":=⟨C_BadSet,_,_,_,_,vK KB (mg_of X G aX_BS) q_BS,PySem.F.excBase_ValueError,aX_BS⟩
 have x_NoPaper:Xc K mg base "NoPaper":=⟨C_NoPaper,_,_,_,_,vK KB (mg_of X G aX_NP) q_NP,PySem.F.excBase_ValueError,aX_NP⟩
 have D0:=ay4 (aL5 (P:=l.prog) (w:=w) (base:=base) B h0.F) (h0.F.binds (ps:=["things"]) fun _ _ _ _ _ _ us hl=>by obtain ⟨_,rfl⟩:=nY hl; rfl) h0.F.kp (mg_of X G h0.a)
 have D1:=aL8 (P:=l.prog) (w:=w) (base:=base) B (h1.M X G)
 have D2:=ay6 (aL6 (P:=l.prog) (w:=w) (mg:=mg) (base:=base) h2.F) (h2.F.binds (ps:=["web"]) fun _ _ _ _ _ _ us hl=>by obtain ⟨_,rfl⟩:=nY hl; rfl) h2.F.kp (mg_of X G h2.a)
 have D3:=aL9 (P:=l.prog) (w:=w) (base:=base) B (h3.M X G)
 have D4:=aM1 (P:=l.prog) (w:=w) (base:=base) B (h4.M X G)
 have D5:=aM2 (P:=l.prog) (w:=w) (base:=base) B (h5.M X G)  cs
 have D6:=aM4 (P:=l.prog) (w:=w) (base:=base) B (h6.M X G)
 have D7:=aM6 (P:=l.prog) (w:=w) (base:=base) B (h7.M X G)
 have D8:=aM7 (P:=l.prog) (w:=w) (base:=base) B (h8.M X G)
 have D9:=aM8 (P:=l.prog) (w:=w) (base:=base) B (h9.M X G)
 have D10:=aM9 (P:=l.prog) (w:=w) (base:=base) B (h10.M X G)
 have D11:=aN0 (P:=l.prog) (w:=w) (base:=base) B (h11.M X G)
 have D12:=aN2 (P:=l.prog) (w:=w) (base:=base) B (h12.M X G) D1
 have D13:=aN4 (P:=l.prog) (w:=w) (base:=base) B (h13.M X G) D1
 have D14:=aN6 (P:=l.prog) (w:=w) (base:=base) B (h14.M X G) D4
 have D15:=aN7 (P:=l.prog) (w:=w) (base:=base) B (h15.M X G) D0 D6 cs
 have D16:=aN8 (P:=l.prog) (w:=w) (base:=base) B (h16.M X G) D9 D8 D7
 have D17:=aN9 (P:=l.prog) (w:=w) (base:=base) B (h17.M X G) D7
 have D18:=aO1 (P:=l.prog) (w:=w) (base:=base) B (h18.M X G) D0 D12
 have D19:=aO3 (P:=l.prog) (w:=w) (base:=base) B (h19.M X G) D14 D1
 have D20:=aO4 (P:=l.prog) (w:=w) (base:=base) B (h20.M X G) D14
 have D21:=aO5 (P:=l.prog) (w:=w) (base:=base) B (h21.M X G) D7 D16
 have D22:=aO7 (P:=l.prog) (w:=w) (base:=base) B (h22.M X G) D18 x_BadSet
 have D23:=aO8 (P:=l.prog) (w:=w) (base:=base) B (h23.M X G) D3 D2 D19 D22
 have D24:=aO9 (P:=l.prog) (w:=w) (base:=base) B (h24.M X G) D3 D2 D20 D22 D13 x_BadOrder
 have D25:=aP0 (P:=l.prog) (w:=w) (base:=base) B (h25.M X G) D22 D2 D1 D15 x_NoPaper
 have D26:=aP1 (P:=l.prog) (w:=w) (base:=base) B (h26.M X G) D23
 have D27:=aP3 (P:=l.prog) (w:=w) (base:=base) B (h27.M X G) D26
 have D28:=aP4 (P:=l.prog) (w:=w) (base:=base) B (h28.M X G) D26 D2 D5 D1
 have D29:=aP6 (P:=l.prog) (w:=w) (base:=base) B (h29.M X G) D1 D27
 have D30:=aP7 (P:=l.prog) (w:=w) (base:=base) B (h30.M X G) D24 D23 D27 D29 D28 D25 cat_HearthError is_BadSet is_BadOrder is_ValueError
 exact aA0 (aP8 B F31 D21 D17 D10 D11 D7 D30)
theorem aQ0 {l:OpenLaw}{q:Program}{loose:List Str}{XP:(Str->Option Value)->Heap->Prop}{YP:World->Heap->Prop}{d:DefRec}{K:Params->Frag} (hn:l.most=some 63) (hdf:d.params.defaults = [])
  (hY:∀ (w:World) (h:Heap),YP w h->(K w.params).In h)
  (F:∀ (w:World) (mg:Str->Option Value) (fa:Addr) (h:Heap),(K w.params).In h->h.Ns mainGlobals mg->mg d.name=some (.ref fa)->
   ∃ fd:FuncData,(∀ (s:Shared) (u:Value),BindsTo s fd ⟨[u],[]⟩ [("script",u)])/\∀ base:Heap,(K w.params).In base->base.Ns mainGlobals mg->cL l.prog w (K w.params) mg base dC 10 fa fd ["script"] (qO (K w.params))) :
  WalkO q loose XP YP l.row.toRowW d [] (fun f vs=>PySem.call f vs):=
 L2.ah3 (n:=63) (k:=10) (x:="script") (CX:=fun _=>dC) (sp:=fun w=>qO (K w.params)) hn (by decide) hdf ⟨rfl,by decide,by decide⟩ hY F (fun _ _ a ns hl hO hS=>⟨a,ns,rfl,aA1 hO hS,hl,fun _=>rfl⟩) fun _ _ _ _ _ z=>z
end K_k12
open PySem PySem.W PyProof.Rows
theorem PySem.W.Fast.te13052408679150730464 : True := trivial
theorem PySem.W.Fast.te16555476440528808052 : True := trivial
theorem PySem.W.Fast.te5369427470323729400 : True := trivial
set_option maxRecDepth 100000 in
set_option maxHeartbeats 0 in
theorem PySem.Challenge.cw_kindleweb_k12_orders_and_sets_refused_holds : PySem.Challenge.rw_kindleweb_k12_orders_and_sets_refused.Holds := by
 w_on; o_law; k_head; (case hw => w_witness2)
 k_fill
 refine K_k12.aQ0 (l := PySem.Challenge.rw_kindleweb_k12_orders_and_sets_refused) rfl rfl (fun w h Y => PySem.W.kIn_of Y) ?F
 case F =>
  intro w mg fa h KX G hmg
  refine' K_k12.aP9 KX G hmg ?h0 ?h1 ?h2 ?h3 ?h4 ?h5 ?h6 ?h7 ?h8 ?h9 ?h10 ?h11 ?h12 ?h13 ?h14 ?h15 ?h16 ?h17 ?h18 ?h19 ?h20 ?h21 ?h22 ?h23 ?h24 ?h25 ?h26 ?h27 ?h28 ?h29 ?h30 ?a31 ?l31 ?c31 ?k31 ?z_len ?z_range ?z_tuple ?z_list ?z_sorted ?z_all ?z_any ?z_zip ?z_min ?z_max ?z_sum ?z_isinstance ?z_int ?z_bool ?z_enumerate ?zc ?lcA ?lcB ?aX_HE ?aX_BS ?aX_BO ?aX_NP ?zX_BW ?zX_BP ?zX_BB ?zX_BD ?zX_NW ?zX_NS ?zX_TM ?zX_NT ?zX_OR ?y_fg ?y_ft ?z_VE ?y1_HE ?y2_HE ?y3_HE ?y4_HE ?y5_HE ?y6_HE ?y7_HE ?y1_BS ?y2_BS ?y3_BS ?y4_BS ?y5_BS ?y6_BS ?y7_BS ?y1_BO ?y2_BO ?y3_BO ?y4_BO ?y5_BO ?y6_BO ?y7_BO ?y1_NP ?y2_NP ?y3_NP ?y4_NP ?y5_NP ?y6_NP ?y7_NP ?sB_HE ?s_BS_HE ?s_BO_HE ?s_NP_HE ?sN_BO ?s_BS_BO ?n_BS_BO ?s_NP_BO ?n_NP_BO ?sN_BS ?s_BO_BS ?n_BO_BS ?s_NP_BS ?n_NP_BS ?sV_BS ?sV_BO ?sV_NP ?q_BO ?q_BS ?q_NP
  (case h0 | h1 | h2 | h3 | h4 | h5 | h6 | h7 | h8 | h9 | h10 | h11 | h12 | h13 | h14 | h15 | h16 | h17 | h18 | h19 | h20 | h21 | h22 | h23 | h24 | h25 | h26 | h27 | h28 | h29 | h30 => exact ⟨by k_is, ⟨⟨_, _, _, _, _, _, _, _, _, rfl, by k_is, by k_is⟩, by k_is⟩⟩)
  (case a31|l31|c31|k31|z_len|z_range|z_tuple|z_list|z_sorted|z_all|z_any|z_zip|z_min|z_max|z_sum|z_isinstance|z_int|z_bool|z_enumerate|zc|lcA|lcB|aX_HE|aX_BS|aX_BO|aX_NP|zX_BW|zX_BP|zX_BB|zX_BD|zX_NW|zX_NS|zX_TM|zX_NT|zX_OR|y_fg|y_ft|z_VE|y1_HE|y2_HE|y3_HE|y4_HE|y5_HE|y6_HE|y7_HE|y1_BS|y2_BS|y3_BS|y4_BS|y5_BS|y6_BS|y7_BS|y1_BO|y2_BO|y3_BO|y4_BO|y5_BO|y6_BO|y7_BO|y1_NP|y2_NP|y3_NP|y4_NP|y5_NP|y6_NP|y7_NP|sB_HE|s_BS_HE|s_BO_HE|s_NP_HE|sN_BO|s_BS_BO => k_is)
  (case n_BS_BO => decide)
  (case s_NP_BO => k_is)
  (case n_NP_BO => decide)
  (case sN_BS|s_BO_BS => k_is)
  (case n_BO_BS => decide)
  (case s_NP_BS => k_is)
  (case n_NP_BS => decide)
  (case sV_BS|sV_BO|sV_NP => k_is)
  (case q_BO|q_BS|q_NP => k_exc)


